import PyProof.Rows.All
import Wide.All
import OpenK.AllK
import Wide.FinOn
import Lean
import PyProof.EqAt
import PyProof.EqKinds
import PyProof.TupleCall
import PyProof.TupleKey
import PyProof.DictKinds
import PyProof.PassesOwn
import PyProof.StationsW
import PyProof.DictItems
import PyProof.DictWalks
import PyProof.SumWalkG
import PyProof.Rows.SortRuns
import PyProof.Rows.SortInsK
import PyProof.Rows.SortShell
import PyProof.SetKind
import PyProof.IsRules
import PyProof.Rows.SetFrom
import PyProof.CollectWalk
import PyProof.FactsAll.set_1
import PyProof.Rows.SortWalk
import PySem.Challenge.RW_rowlay_k31_whole_bounds_shown
set_option bootstrap.genMatcherCode false
set_option Elab.async false
set_option linter.all false
set_option maxRecDepth 100000
abbrev aiL:=@if_neg
abbrev aiO:=@decide_eq_false
abbrev aiP:=@if_pos
abbrev aiQ:=@decide_eq_true
abbrev ai8:=@absurd
abbrev ai9:=@of_decide_eq_true
open Array renaming getD_eq_getD_getElem?->ajE,length_toList->ajR,toList_append->aj3,getElem?_eq_some_iff->akE,toList_extract->akI,getElem?_toList->akU,forIn_toList->alB,toList_push->alS,perm_iff_toList_perm->amf,toList_reverse->anl,getElem?_setIfInBounds_ne->aoi,size_map->apn,getElem?_eq_getElem->apt,size_setIfInBounds->apR,mk->ap3,getElem?_eq_none->aqq,getElem_extract->aqK,mem_toList_iff->aqP,getElem_toList->aq3,size_extract->arY,toList->ar3,replicate->atm,size_push->atq
open Array.Perm renaming refl->aoV
open Bool renaming and_eq_true->aiR,false_eq_true->aiT,false_ne_true->aiW,eq_iff_iff->ajD,not_true->ajP,eq_false_iff->akG,true_and->akH,false_and->akO,false_or->alo,noConfusion->al',not_false->amE,or_eq_true->aoU,and_false->apd,and_true->apO,or_false->apP,and_eq_true_iff->aq7,or_true->auQ
open False renaming elim->alH
open ForInStep renaming yield->anJ
open Int renaming toNat_natCast->ai4,emod_lt_of_pos->akW,emod_nonneg->akZ,toNat_of_nonneg->al0,le_refl->amo,natCast_nonneg->anM,fdiv_eq_ediv_of_nonneg->ao6,lt_of_le_of_lt->apr,one_mul->apF,ofNat_le->aqt,natCast_add->aqy,add_zero->asn,le_trans->aso,min_le_right->asS,natCast_ediv->asU,zero_add->auS,ofNat_lt->auT
open List renaming forall_mem_cons->aiE,getElem?_eq_getElem->aiG,length_map->aiJ,not_mem_nil->aiX,range->aiY,length_append->aiZ,mem_append->ai1,mem_cons->ai3,mem_singleton->ai5,getElem?_map->ai6,mem_map->ai',getD_eq_getElem?_getD->ajb,map_cons->ajd,map_append->ajf,getElem?_eq_some_iff->ajj,size_toArray->ajk,length_cons->ajl,mem_of_getElem?->ajo,mem_range->ajs,all_eq_true->ajB,length_take->ajC,map_map->ajG,flatMap_cons->ajH,filterMap_cons->ajN,mem_cons_of_mem->ajS,getElem_mem->ajT,take_of_length_le->ajY,length_range->ajZ,mem_of_mem_take->aj1,nodup_cons->aj',extract_eq_take_drop->aka,replicate->akc,drop_of_length_le->akh,mem_of_mem_drop->akj,any_eq_true->akl,mem_append_right->ako,mem_filter->aks,take_length->akt,take_succ->akv,sum_cons->akz,forIn_cons->akA,length_drop->akB,Nodup->akD,drop_eq_getElem_cons->akJ,mem_cons_self->akL,range_succ->akQ,map_congr_left->akS,getElem?_append_left->ak2,append_assoc->ak6,append_nil->alb,getElem?_append_right->alp,nodup_nil->alq,length_nil->alv,pairwise_iff_getElem->alz,length_filter_le->alA,mem_reverse->alI,getElem?_range->al1,mem_filterMap->ama,take_append_drop->amh,replicate_succ->amz,length_pos_iff->amA,getElem_of_mem->amB,forIn_nil->amD,filter_cons->amJ,length_eq_zero_iff->amK,lookup->amM,zip_cons_cons->amP,find?_cons->amV,sum_append->amW,any_cons->am2,perm_append_comm->am6,mem_append_left->anb,length->ane,pairwise_append->anj,mem_iff_getElem->ank,cons_ne_nil->ant,reverse_append->anz,getElem?_set_self->anU,map_nil->an2,flatten_cons->an4,pairwise_map->an8,pairwise_lt_range->an9,reverse_perm->aob,nodup_append->aoc,length_singleton->aom,getElem?_eq_none->aot,lookup_cons->aov,map_drop->aoC,getElem?_set_ne->aoD,singleton_perm_singleton->aoI,reverse_reverse->aoJ,drop_append_of_le_length->aoK,of_mem_zip->aoO,foldl_cons->aoQ,filter_map->aoT,map_eq_nil_iff->aoX,flatMap_append->aoY,filterMap_map->apb,drop_zero->apg,filter_append->aph,perm_ext_iff_of_nodup->api,getElem?_drop->apj,getElem?_take->apk,perm_append_singleton->apo,foldl_append->apE,getElem?_take_of_lt->apI,all_cons->apL,getElem?_replicate->apZ,getElem_map->ap6,getElem?_cons_succ->ap7,flatMap_nil->ap8,nodup_range->aqa,nil_append->aqw,length_replicate->aqB,mem_iff_getElem?->aqI,pairwise_reverse->aqJ,getElem?_of_mem->aq6,length_reverse->aro,take_add->arB,map_take->arF,zip_nil_right->arM,findIdx?_cons->arU,pairwise_cons->arW,map_filterMap->ar0,any_eq_false->ar8,take_sublist->ase,zip_nil_left->asf,reverse_cons->asl,filter_congr->asp,drop_sublist->asq,getElem_take->asr,getElem_drop->ass,mapM_toArray->asA,all_map->asB,ext_getElem?->asC,countP_cons->asM,ext_getElem->asN,cons_append->asO,drop_length->asQ,mem_flatMap->asT,length_tail->asW,perm_middle->as3,foldl->atN,take_zero->atZ,drop_drop->at6,mapM_cons->auc,mapM_nil->auH,drop_one->auI,sum_nil->auR,map_set->auU,filter->au2
open List.Pairwise renaming nil->apB,filterMap->aqb,filter->au3
open List.Perm renaming refl->amL,append_left->aor,swap->aqZ,cons->aq4
open List.cons renaming injEq->alX,inj->al7
open Nat renaming le_refl->aiN,le_trans->ajt,lt_of_lt_of_le->ajv,ne_of_lt->ajw,zero_le->ajW,pow_le_pow_right->aj5,zero_add->akp,lt_irrefl->aky,two_pow_pos->akR,lt_succ_of_lt->als,not_lt_zero->alw,ne_of_gt->al4,lt_of_le_of_lt->amd,lt_succ_self->amH,mod_lt->anf,le_add_right->anr,add_zero->anu,sub_self->aoa,min_le_right->aou,min_eq_left->aoS,sub_zero->ao1,le_of_eq->aqh,le_succ->aqQ,add_assoc->arA,le_of_lt->ar5,div_eq_of_lt->asR,strongRecOn->atl,add_comm->auO,mul_comm->auP
open Ne renaming symm->al3
open Option renaming map_eq_some_iff->alr,isSome_iff_exists->anB,isSome_map->an5,getD_none->asK,none->atb,map->au9
open Option.some renaming inj->ajn
open Or renaming inl->ajp,inr->akk
open Prod renaming ext->aqT
open Prod.mk renaming inj->auV
open PyProof.Rows renaming wpS_bind->ajc,arrOf->ajh,Keyed->ajm,wpS_pure->ajq,SortSt->ajy,pendingOf->aj0,wpS_forRange->akN,kindOf->ak4,IntsAre->alM,slot_tuple_getitem->alY,SortKind->ame,seqObj->amv,wpS_modify->amR,wpS_mono->amY,callWith_type1->am7,failedOf->anF,elem'->anG,KK_mirror_equal->anK,wpS_get->aof,reverseSlice'->aoB,AllBare->aoZ,pairsOf_size->ao2,gallopOf->apl,setPending->apm,pairsOf->apG,wpS_lift->ap9,subscriptTail_builtinR->aqm,listItems_at->aqs,envOfC->aqR,minRun'->ari,Constant_none->ars,subscriptTail->arv,listUpdate_at->arC,mirror->arX,mergeAt'->asu,callWith_builtin1->asJ,setArr->asY,countRun'->asZ,IsTup->as8,binarySort'->atf,seqEpoch_at->atg,Subscript_->atM,sortedHeap->at8,size_push'->at9,lt_int->auK,le_int->auL
open PyProof.Rows.F renaming plain_set_update_loop->al2,entry_set_update_loop->anA
open PyProof.Rows.KeyOrd renaming kle_of_klt->akx,kle_refl->ak0,kle_trans->alK,kle->aqr,kle_antisymm->arp,klt->at7
open PyProof.Rows.SortSt renaming mk'->au8
open PySem renaming wpAny_bind->aiD,wpAny_pure->aiF,Value->aiH,Shared->aiK,Addr->aiM,sizeLine->aiV,wpAny->ai0,model->ai7,sizeLine_eq->aje,Program->ajr,mainGlobals->ajz,FuncData->ajA,starEach->ajF,World->ajI,Around->ajO,wpAny_newObj_type->ajX,Heap->aj4,wpAny_call_entry->aj7,wpAny_truthy_bool->aj8,Expr->akb,SetTable->akd,compareOp->ake,bootBuiltins->akf,PyData->akm,intKind->aku,wpAny_callSpecial?_slot->akC,Stmt->akM,wpAny_holding->akX,sysModules->ak3,cLine->ak8,IsTupleKey->alf,eval->alg,boot_len->alu,codeAny_builtin->alx,wpAny_isInstance->alD,wpAny_mono->alE,wpAny_typeNameOfWhole_itemiter->alJ,wpAny_typeNameOfWhole_keyiter->alQ,wpAny_dictEntries->alR,ofAClassStatement->alT,wpAny_specialOf->alV,mem_of_lookup->alZ,wpAny_typeNameOf_itemiter->amj,wpAny_passesOwn->amk,binaryOp->amm,wpAny_typeOf->amn,wpAny_setState_of->amq,wpAny_rule->amr,wpAny_typeNameOf_keyiter->amx,wpAny_seqItems->amF,wpAny_forIn_list->amG,DictEntry->amI,backTo->amO,wpAny_setField_rec->amQ,wpAny_dictEpoch->amX,wpAny_updateSeq->amZ,behindInMarks->am0,attributeBase->am1,wpAny_attempt->am4,pyNext->am5,wpAny_fieldsOf->ang,wpAny_setField->anh,firstArgMember->ani,hashByValue->anm,codeAny->anq,rawInt->anw,plainId_quiet->anH,wpAny_execs_nil->anI,assignEach->anL,wpAny_Call_Name_kw->anN,IsItemIter->anP,keywordEach->anQ,wpAny_field->anS,sliceBounds->anT,wpAny_pyIter_list->anV,codeAny_mono->anZ,wpAny_loadPart_at->an6,wpAny_isOneOf_itemiter->aod,isSubtype_tuple_tuple->aok,ofString_length->aoo,wpAny_notOrdered_dict->aop,builtinLookup_eq_fast->aos,strLen_append->aoz,int_text_length_le10->aoG,codeAny_call_builtin->aoH,letOwnedTupleGo->aoN,wpAny_loadPart'->aoP,wpAny_tupleItemsOf->ao4,Scope->ao5,call_meets->apc,wpAny_FormattedValue_plain->apf,wpAny_FormattedValue_repr->aps,eqIsQuiet_byValue->apw,foldedSetIterable->apy,slot_list_getitem->apA,wpAny_pyIter_slot->apD,searchCouldBeSeen->apH,wpAny_getItem_list_slice->apK,wpAny_comprehension_free->apM,setSearchFrom->apS,Model->apU,backToKw->apW,bindArgs->apY,noFill_tuple_add->ap0,checkBuiltinCall->ap5,wpAny_askSetting->aqc,updateSeq->aqd,isInstance->aqe,entryOfKey->aqf,holding->aqg,richCompare_meets_room->aql,importedModules->aqx,typeLookup_type->aqz,wpAny_isTrue_Compare1->aqA,wpAny_setFlight_noneW->aqE,wpAny_formatField_int->aqF,wpAny_formatField_str->aqG,wpAny_isOneOf_keyiter->aqL,Paired->aqM,wpAny_loadName_local->aqO,underTheClaimsCaller->aqV,excClassObj->aqW,unbindBehindTheSuite->aqX,compEnvC->aqY,wpAny_of_eq->aq1,isSubtype_stop->aq2,wpAny_pyIter_keyiter->aq5,eqIsQuiet->aq8,swapsWith->arb,getMethod->arc,BindsTo->ard,callerA->arf,ClassData->arj,wpAny_loadName_cell->ark,wpAny_isSubtype_exc->arn,seq_tuple_add->art,evalPart_none->aru,numAt->arw,IsItemIterOut->arx,wpAny_handled->arz,assign->arJ,rule->arK,IsPart->arN,typeIs_int->arQ,Params->arR,call->arS,Within->ar4,wpAny_assign_Name->ar6,getItem->ar7,NameKind->asd,concat_meets->ash,seqIndex_neg->asi,Keyword->asj,valueAt->asm,wpAny_storeSet_of->asx,wpAny_execs_cons->asD,pyIter->asF,Result->asH,noteFrame->asL,pickOrder->as5,seqIndex_of->as9,wpAny_letGo->atc,wpAny_throw->ate,standAt->atu,leaving->atv,relabel->atw,eqBool->atx,builtinsNs->aty,GenState->atz,isTrue->atA,wpAny_Name->atB,CmpOp->atD,Operator->atE,again->atF,callWith->atG,wpAny_call->atH,bindL->atI,bindC->atJ,typeLookup->atL,atKey->atP,closureFor->atR,numAt_eq->atV,newExc->at3,newTuple->at4,raiseNew->at5,setEntries->aub,stack->au0
open PySem.Around renaming under_plainId->alm,in1_units->alC,under->aqi
open PySem.AutoSeq1 renaming sub_tuple_tuple->apJ
open PySem.Builtin renaming bitAnd->alP,bitOr->ams,bitNot->anW
open PySem.Builtin.Dict renaming showsAll->aoq,dictSlotNone->apv,pendingCount->auq,noArgs->au4,addrOf->au5
open PySem.Builtin.Dict_items renaming ownsTuple->ald,ownedTupleFields->anD,ownedTupleIsFree->anE,pairFromOwner->aoe,newIterator->asV,dictOf->aup
open PySem.Builtin.Frozenset renaming sizeOf->apT,updateFrom->ato,newClass->aua
open PySem.Builtin.List renaming listExtendWith->aln,listLengthHint->al5,listItems->al6,listTooLong->amu,listSameRef->amw,listFitsIndex->atO,listUpdate->auM
open PySem.Builtin.Range renaming rangeSize->auJ
open PySem.Builtin.Slice renaming slicePlaces->ami,sliceAdjust->anv,sliceApplied->apa,slicePartIndex->ath,sliceFields->auo
open PySem.Builtin.Tuple renaming tupleHashOf->ak1,tupleExact->amt,tupleCompareSizes->aoh,tupleItemsOf->ao3
open PySem.Calls renaming Name_function_global->anc,callWith_builtin->an3,evalArgs_plain->aoE,spliced_cons->ao9,call_function_entry->apu,loadGlobal_global->apV,Constant_str->arI,spliced_nil->asb
open PySem.Challenge renaming pw_rowlay_k31_whole_bounds_shown->ajL
open PySem.CmpOp renaming NotIn->auX
open PySem.Code renaming quiet_builtin->arV,isFrame->asa,isGuard->auN,frames->auZ
open PySem.Data renaming fields->auY
open PySem.EntryCells renaming newEntry->arl
open PySem.EqMixed renaming eq_bool_str->auh,eq_str_bool->aui,ne_bool_str->aum,ne_str_bool->aun,eq_int_str->auv,eq_str_int->auy,ne_int_str->auC,ne_str_int->auE
open PySem.EqNone renaming eq_none_none->aud,eq_none_bool->aue,eq_bool_none->auf,ne_none_none->auj,ne_none_bool->auk,ne_bool_none->aul,eq_none_int->aus,eq_none_str->aut,eq_int_none->auu,eq_str_none->auw,ne_none_int->auz,ne_none_str->auA,ne_int_none->auB,ne_str_none->auD
open PySem.F renaming plainAttrs_list->ajU,excBase_ValueError->akF,slot_dict_itemiterator_next->ak7,slot_dict_keyiterator_next->ale,slot_list_append->ali,slot_list_index->alk,type_list_append->alO,type_list_index->alU,slot_tuple_hash->aml,plain_extend_loop->amC,called_set->amT,args_tuple_add_2->anC,entry_tuple_add->anR,slot_tuple_add->an1,args_dict_itemiterator_next_1->aoj,slot_dict_get->aon,entry_dict_itemiterator_next->aow,args_dict_keyiterator_next_1->aoy,entry_dict_keyiterator_next->aoL,slot_tuple_eq->aoM,args_dict_get_3->ap1,plainAttrs_dict->ap2,slot_list_count->ap4,entry_dict_get->aqn,slot_dict_items_iter->aqp,slot_list_extend->aqC,typeOf_object_class->aqH,slot_dict_items->aq0,entry_extend_loop->arq,plain_list_iadd->asz,slot_dict_iter->as6,slot_int_rmul->atj,plain_set_new->atn,slot_set_iter->atp,slot_dict_len->atr
open PySem.Heap renaming get?_push_of_some->aiS,lt_size->aja,get?_push_size->ajg,get?_update_self->ajV,get?_update_other->akg,SameBut->akK,size_update->alL,size_push->amc,get?_update_ne->anx,get?_none_of_le->aqN,get?_push_ne->asv,ExtBut->atd,MadeExcOf->atQ,NotedW->au1
open PySem.Heap.IsSliceOf renaming new->arO
open PySem.Heap.SameBut renaming update->akT
open PySem.Heap.UpToSlots renaming ns->ava
open PySem.NameKind renaming cell->al9,free->am3
open PySem.Obj renaming mapSeq->aj2,data_mapFields->ape,isFreed_of_fields->aqD,mapFields->arE,putSet->arZ
open PySem.Paired renaming length->al8,snoc->ata
open PySem.PyData renaming eqv->akn,depthAll->akP,int->amU,canLayAll0->am9,bool->ano,depth->an7,canLay0->an',eqvAll->aoA,shownAll->aoR,hasDictAll->apC,showableAll->arT,showable->atk
open PySem.ScopeKind renaming function->anO
open PySem.SeqAt renaming EqAt->aqk,notIn_listAt->arP,in_listAt->ati,eqv_refl->atX
open PySem.SeqAt.EqAt renaming int_str->arG,str_int->arH,int_int->arL
open PySem.SetTable renaming insertAt->ajx,below->ajK,bits->akq,Probe->ak',turns->ala,runEnd->aly,sizeAbove->amg,advance->aox,grown->apq,leap->arD,has->asw,tooFull->as4,fits->auF,fill->auG
open PySem.SetTable.below renaming go->am'
open PySem.SetTable.layClean renaming free->amS
open PySem.SetTable.probe renaming go->aog
open PySem.Shared renaming TypeIs->apQ
open PySem.Str renaming ofString->alN,empty->asI
open PySem.StrLaws renaming reprText_len->atU
open PySem.Value renaming ref->ai2,int->aj6,type->aj9,none->akr,builtin->ak9,bool->alF,isInt->ana,notImplemented->aqS,str->ara,float->as7,isStrOf->aur,bytes->auW
open PySem.W renaming kitOne->aiI,Frag->aiU,mg_of->aji,findIn->aju,nsIn->ajJ,mroIn->ajM,mg_none_of->ajQ,excIn->aki,kia_one->akV,hideAll->akY,emptyDict->ak5,fnOf->alc,hideAll_none->alh,boot_heap->alj,instObj->alW,keepIn->amb,hideAll_get->amy,of_hideAll->amN,clsIn->am8,plainGet->anp,hasDictIn->anY,codeIn->an0,methodCall_KW->aol,OpenLaw->aoF,plainGet_of->aoW,isFn->ao0,lookIn->ao7,looks_findIn->ao8,callWith_K->ao',methodObj->apx,plainOver->apz,cellsFrom_some->aqj,boot_drawn->aqo,takerIn->aqu,makesIn->aqv,WalkO->aqU,boot_toks->arh,kitx_list->ar9,kitx_dict->ar',handedIn->asG
open PySem.W.Looks renaming here->au6
open PySem.W.WShape renaming has->au7
open PySem.Walks renaming list->atY
open PySem.Within renaming cons->au'
open PySem.pickOrder renaming go->asy
open Sum renaming inl->aq9,inr->aq'
open True renaming intro->alG
abbrev L2.bh:=Int×List Int
namespace L2
open PySem
section
variable{prog:ajr}{w:ajI}
def Gf (prog:ajr)(w:ajI)(b:Bool)(h:aj4)(l:List Int)(v:aiH):Prop:=if b=true then∃(m:Int) (t:Tok),l=[m]∧v=.int m t else∃c,v=.ref c∧alf (aku prog w) h l c
def bx (prog:ajr)(w:ajI)(b:Bool)(h:aj4)(k:Int×List Int)(a:aiM):Prop:=∃(o:Obj) (n:Nat) (t:Tok) (v:aiH),h.get? a=some o∧o.cls=.type "tuple"∧o.data=.seq #[.int k.1 t,v] n∧Gf prog w b h k.2 v
noncomputable def lB (prog:ajr)(w:ajI)(b:Bool)(l:List Int):Int:=if b=true then(aku prog w).hash (l.headD 0)else tupleKeyHash (aku prog w) l
noncomputable def gm (b:Bool)(l:List Int):Nat:=if b=true then 1 else l.length+1
noncomputable def pI (prog:ajr)(w:ajI)(b:Bool)(k:Int×List Int):Int:=reduceHash (ak1 [(aku prog w).hash k.1,lB prog w b k.2])
theorem bx.typeIs {b:Bool}{s:aiK}{k:Int×List Int}{a:aiM}(x:bx prog w b s.heap k a):s.TypeIs (.ref a) "tuple":=let⟨o,_,_,_,ho,hc,_⟩:=x;⟨o,ho,hc⟩
theorem bx.inj {b:Bool}{h:aj4}{a:aiM}{x y:Int×List Int}(hx:bx prog w b h x a)(hy:bx prog w b h y a):x=y:=by
 obtain⟨o,n,t,v,ho,_,hd,hi⟩:=hx;obtain⟨o',n',t',v',ho',_,hd',hi'⟩:=hy;obtain rfl:o=o':=ajn (ho.symm.trans ho');rw[hd]at hd';injection hd' with h1 _;have h2:[aj6 x.1 t,v]=[aj6 y.1 t',v']:=congrArg ar3 h1;injection h2 with h3 h4;injection h4 with h5 _;injection h3 with h6 _;subst h5;obtain⟨x1,x2⟩:=x;obtain⟨y1,y2⟩:=y;have h6:x1=y1:=h6;subst h6;cases b with
 |true=>obtain⟨m,t1,e1,e2⟩:∃(m:Int) (t:Tok),x2=[m]∧v=.int m t:=hi;obtain⟨m',t1',e1',e2'⟩:∃(m:Int) (t:Tok),y2=[m]∧v=.int m t:=hi';rw[e2]at e2';cases e2';rw[e1,e1']
 |false=>obtain⟨c,e1,k1⟩:∃c,v=.ref c∧alf (aku prog w) h x2 c:=hi;obtain⟨c',e1',k1'⟩:∃c,v=.ref c∧alf (aku prog w) h y2 c:=hi';rw[e1]at e1';cases e1';rw[k1.inj k1']
theorem bx.keeps {b:Bool}{h h':aj4}{k:Int×List Int}{a d:aiM}{o:Obj}{es ep}(x:bx prog w b h k a)(ho:h.get? d=some o)(hd:o.data=.dict es ep)(hs:akK d h h'):bx prog w b h' k a:=by
 obtain⟨o',n,t,v,ho',hc,hd',hi⟩:=x;have hne:a≠d:=by rintro rfl;obtain rfl:o'=o:=ajn (ho'.symm.trans ho);rw[hd]at hd';exact nomatch hd'
 refine⟨o',n,t,v,(hs.2 a hne).trans ho',hc,hd',?_⟩;cases b with
 |true=>exact hi
 |false=>obtain⟨c,e1,k1⟩:∃c,v=.ref c∧alf (aku prog w) h k.2 c:=hi;exact⟨c,e1,k1.keeps ho hd hs⟩
theorem int_is (m:Int)(t:Tok):(aku prog w).is m (.int m t)=true:=by show ana m (aj6 m t)=true;simp[ana]
variable{A:ajO}{E:aiH->aiK->Prop}{s:aiK}
theorem Oa {b:Bool}{l:List Int}{v:aiH}{Q:Int->aiK->Prop}(hu:A.units<ak8)(h:Gf prog w b s.heap l v)(hq:Q (lB prog w b l) {s with toks:=s.toks+gm b l}):ai0 (ai7 prog w) A (pyHash v) Q E s:=by
 cases b with
 |true=>obtain⟨m,t,e1,e2⟩:∃(m:Int) (t:Tok),l=[m]∧v=.int m t:=h;subst e1 e2;unfold lB gm at hq;rw[aiP rfl,aiP rfl]at hq;exact(aku prog w).pyHash (k:=m) (int_is m t) hq
 |false=>obtain⟨c,e1,k1⟩:∃c,v=.ref c∧alf (aku prog w) s.heap l c:=h;subst e1;unfold lB gm at hq;rw[aiL aiW,aiL aiW]at hq;exact wpAny_pyHash_tuple hu k1 hq
theorem yQ {b:Bool}{k:Int×List Int}{a:aiM}{Q:Int->aiK->Prop}(hu:A.units+8<ak8)(hk:bx prog w b s.heap k a)(h:Q (pI prog w b k) {s with toks:=s.toks+(gm b k.2+2)}):ai0 (ai7 prog w) A (pyHash (.ref a)) Q E s:=by
 have hT:=hk.typeIs;obtain⟨o,n,t,v,ho,_,hd,hi⟩:=hk;unfold pyHash;first|unfold pyHashByItsType|skip
 first|refine aiD (wpAny_cRoomFor_or (.inr (by lia)) ?_)|skip
 refine aiD (alV hT aml.lookup ?_);rw[aiL (by rw[beq_builtin_none];exact aiW)];refine aiD (alV hT aml.lookup ?_);show ai0 _ _ (callSpecialIfBoundUnlessNone? (.ref a) "__hash__" _>>=_) Q E s;refine aiD (wpAny_callSpecialIfBoundUnlessNone?_slot hT aml (aj7 aml hT F.entry_tuple_hash ?_ (F.args_tuple_hash_1 _)));show ai0 _ _ (ao3 (.ref a)>>=_) _ _ s;refine aiD (ao4 ho hd ?_);refine aiD ?_;rw[←alB];have hu1:A.in1.units<ak8:=by rw[alC];lia
 show ai0 (ai7 prog w) A.in1 (forIn [aj6 k.1 t,v] (#[]:Array Int) _) _ _ s;rw[akA];refine aiD (aiD ((aku prog w).pyHash (k:=k.1) (int_is k.1 t) (aiF ?_)));show ai0 (ai7 prog w) A.in1 (forIn [v] (#[(aku prog w).hash k.1]:Array Int) _) _ _ _;rw[akA];refine aiD (aiD (Oa (s:={s with toks:=s.toks+1}) hu1 hi (aiF ?_)));show ai0 (ai7 prog w) A.in1 (forIn ([]:List aiH) (#[(aku prog w).hash k.1,lB prog w b k.2]:Array Int) _) _ _ _;rw[amD];refine aiF ?_;show ai0 _ _ (retInt (ak1 [(aku prog w).hash k.1,lB prog w b k.2])) _ _ _;refine wpAny_ret_mkInt ?_;unfold pI reduceHash at h;have et:s.toks+1+gm b k.2+1=s.toks+(gm b k.2+2):=by lia
 show ai0 _ _ (if(decide (-(2:Int)^63<=ak1 [(aku prog w).hash k.1,lB prog w b k.2])&&decide (ak1 [(aku prog w).hash k.1,lB prog w b k.2]<2^63))=true then _ else _) Q E _;by_cases hr:(decide (-(2:Int)^63<=ak1 [(aku prog w).hash k.1,lB prog w b k.2])&&decide (ak1 [(aku prog w).hash k.1,lB prog w b k.2]<2^63))=true
 .rw[aiP hr];rw[aiP hr]at h;refine aiF ?_;rw[←et]at h;exact h
 .rw[aiL hr];rw[aiL hr]at h;refine aiD (amr (aiF ?_));rw[←et]at h;exact h
theorem JH {b:Bool}{l m:List Int}{u v:aiH}{Q:Bool->aiK->Prop}(hu:A.units<ak8)(hx:Gf prog w b s.heap l u)(hy:Gf prog w b s.heap m v)(h:Q (decide (l=m)) s):ai0 (ai7 prog w) A (atx u v) Q E s:=by
 cases b with
 |true=>
  obtain⟨i,t,e1,e2⟩:∃(m:Int) (t:Tok),l=[m]∧u=.int m t:=hx;obtain⟨j,t',e1',e2'⟩:∃(i:Int) (t:Tok),m=[i]∧v=.int i t:=hy;subst e1 e2 e1' e2';refine(aku prog w).eqBool (int_is i t) (int_is j t') ?_;have:decide ([i]=[j])=decide (i=j):=by
   by_cases c:i=j
   .rw[aiQ c,aiQ (congrArg (fun x=>[x]) c)]
   .rw[aiO c,aiO fun z=>c (al7 z).1]
  rw[this]at h;exact h
 |false=>obtain⟨c,e1,k1⟩:∃c,u=.ref c∧alf (aku prog w) s.heap l c:=hx;obtain⟨c',e1',k1'⟩:∃c,v=.ref c∧alf (aku prog w) s.heap m c:=hy;subst e1 e1';exact wpAny_eqBool_tuple hu k1 k1' h
theorem Ho {b:Bool}{x y:Int×List Int}{a c:aiM}{P:Fin->aiK->Prop}(hu:A.units<ak8)(hx:bx prog w b s.heap x a)(hy:bx prog w b s.heap y c)(h:P (.done (.ret (.bool (decide (x=y))))) s):ai0 (ai7 prog w) A (Builtin.«tuple.__eq__» ⟨[.ref a,.ref c],[]⟩) P E s:=by
 have hTb:=hy.typeIs;obtain⟨oa,na,ta,va,hoa,_,hda,hia⟩:=hx;obtain⟨ob,nb,tb,vb,hob,_,hdb,hib⟩:=hy;obtain⟨x1,x2⟩:=x;obtain⟨y1,y2⟩:=y;show ai0 _ _ (aqe (.ref c) (.type "tuple")>>=_) _ _ s;refine aiD (alD hTb aok ?_);simp only[ajP,aiT,if_false];refine aiD (ao4 hoa hda ?_);refine aiD (ao4 hob hdb ?_);refine aiD ?_;show ai0 (ai7 prog w) A (forIn [(aj6 x1 ta,aj6 y1 tb),(va,vb)] ((none,()):Option Fin×Unit) _) _ _ s;rw[akA];refine aiD (aiD ((aku prog w).eqBool (int_is x1 ta) (int_is y1 tb) ?_));by_cases c1:x1=y1
 .rw[aiQ c1];simp only[ajP,aiT,if_false];refine aiF ?_;show ai0 (ai7 prog w) A (forIn [(va,vb)] ((none,()):Option Fin×Unit) _) _ _ s;rw[akA];refine aiD (aiD (JH hu hia hib ?_));by_cases c2:x2=y2
  .rw[aiQ c2];simp only[ajP,aiT,if_false];refine aiF ?_;show ai0 (ai7 prog w) A (forIn ([]:List (aiH×aiH)) ((none,()):Option Fin×Unit) _) _ _ s;rw[amD];refine aiF (aiF ?_);have:decide ((x1,x2)=(y1,y2))=true:=aiQ (by rw[c1,c2]);rw[this]at h;exact h
  .rw[aiO c2];simp only[amE,if_true];have:decide ((x1,x2)=(y1,y2))=false:=aiO fun z=>c2 (auV z).2;rw[this]at h;exact aiD (aiF (aiF (aiF (aiF h))))
 .rw[aiO c1];simp only[amE,if_true];have:decide ((x1,x2)=(y1,y2))=false:=aiO fun z=>c1 (auV z).1;rw[this]at h;exact aiD (aiF (aiF (aiF (aiF h))))
theorem Gg {b:Bool}{x y:Int×List Int}{a c:aiM}{Q:Bool->aiK->Prop}(hu:A.units+8<ak8)(hx:bx prog w b s.heap x a)(hy:bx prog w b s.heap y c)(h:Q (decide (x=y)) s):ai0 (ai7 prog w) A (atx (.ref a) (.ref c)) Q E s:=by
 unfold atx;try with_reducible refine akX ?_
 show ai0 _ _ (if(ai2 a==ai2 c)=true then _ else _) Q E s;by_cases hac:(ai2 a==ai2 c)=true
 .rw[aiP hac];have e:a=c:=by have:=eq_of_beq hac;injection this
  subst e;obtain rfl:=hx.inj hy;exact aiD (amr (aiF (by simpa using h)))
 .rw[aiL hac];refine aiD (wpAny_richCompare_same_room (op:=.Eq) hx.typeIs hy.typeIs aoM (aj7 aoM hx.typeIs F.entry_tuple_eq (Ho ?_ hx hy ⟨_,rfl,(fun e=>nomatch e),aj8 h⟩) (F.args_tuple_eq_2 _ _)) (by lia));first
   |(show A.units+1<ak8;lia)
   |(show A.units+2<ak8;lia)
   |(simp only[alC];lia)
theorem JK {l:List Int}{c:aiM}{Q:Bool->aiK->Prop}(hk:alf (aku prog w) s.heap l c)(h:Q true s):ai0 (ai7 prog w) A (aq8 7 (.ref c)) Q E s:=by
 have hT:=hk.typeIs;obtain⟨o,items,n,ho,_,hd,hi⟩:=hk;unfold aq8;refine aiD (alV hT aoM.lookup ?_);show ai0 _ _ (aqe (.ref c) (.type "tuple")>>=_) _ _ s;refine aiD (alD hT aok ?_);simp only[ajP,aiT,if_false];refine aiD (amF ho hd ?_);refine aiD ?_;show ai0 _ _ (forIn items _ _) _ _ s;rw[←alB];refine amG _ (fun rest r s'=>r.1=none∧s'=s∧∀v∈rest,carriedByValue v=true) _ ?_ ?_ _ _ ⟨rfl,rfl,hi.byValue⟩
 .rintro v rest r s' ⟨hr,rfl,hall⟩;rw[apw _ (hall v akL)];refine aiD (aiF ?_);simp only[ajP,aiT,if_false];exact aiF ⟨rfl,rfl,fun u hu'=>hall u (ajS _ hu')⟩
 .rintro⟨r1,r2⟩ s' ⟨hr,rfl,_⟩;simp only at hr;subst hr;exact aiF h
theorem qu {b:Bool}{k:Int×List Int}{a:aiM}{Q:Bool->aiK->Prop}(hk:bx prog w b s.heap k a)(h:Q true s):ai0 (ai7 prog w) A (aq8 8 (.ref a)) Q E s:=by
 have hT:=hk.typeIs;obtain⟨o,n,t,v,ho,_,hd,hi⟩:=hk;unfold aq8;refine aiD (alV hT aoM.lookup ?_);show ai0 _ _ (aqe (.ref a) (.type "tuple")>>=_) _ _ s;refine aiD (alD hT aok ?_);simp only[ajP,aiT,if_false];refine aiD (amF ho hd ?_);refine aiD ?_;show ai0 _ _ (forIn #[aj6 k.1 t,v] _ _) _ _ s;rw[←alB];show ai0 _ _ (forIn [aj6 k.1 t,v] ((none,()):Option Bool×Unit) _) _ _ s;rw[akA,apw 7 (v:=aj6 k.1 t) rfl];refine aiD (aiD (aiF ?_));simp only[ajP,aiT,if_false];refine aiF ?_;show ai0 _ _ (forIn [v] ((none,()):Option Bool×Unit) _) _ _ s;rw[akA];have fin:ai0 (ai7 prog w) A (aq8 7 v) (fun r s'=>r=true∧s'=s) E s:=by
  cases b with
  |true=>obtain⟨m,t,e1,e2⟩:∃(m:Int) (t:Tok),k.2=[m]∧v=.int m t:=hi;subst e2;rw[apw 7 (v:=aj6 m t) rfl];exact aiF ⟨rfl,rfl⟩
  |false=>obtain⟨c,e1,k1⟩:∃c,v=.ref c∧alf (aku prog w) s.heap k.2 c:=hi;subst e1;exact JK k1 ⟨rfl,rfl⟩
 refine aiD (aiD (alE fin (fun r s' z=>?_) fun _ _ z=>z));obtain⟨rfl,rfl⟩:=z;simp only[ajP,aiT,if_false];refine aiF ?_;show ai0 _ _ (forIn ([]:List aiH) ((none,()):Option Bool×Unit) _) _ _ _;rw[amD];exact aiF (aiF h)
noncomputable def fW (prog:ajr)(w:ajI)(b:Bool):HeapKind prog w (Int×List Int) where
 is:=bx prog w b;hash:=pI prog w b;draws:=fun k=>gm b k.2+2;room:=fun A=>A.units+8<ak8;inj:=fun hx hy=>hx.inj hy;keeps:=fun x ho hd hs=>x.keeps ho hd hs;pyHash:=fun hu hk h=>yQ hu hk h;eqBool:=fun hu hx hy h=>Gg hu hx hy h;quiet:=fun hk h=>qu hk h
end
end L2
set_option maxHeartbeats 4000000
namespace L2
open PySem PySem.Spec PyProof.Rows
abbrev Key:=Sum Int Str
noncomputable def Gh:Key->aiH->Bool
 |.inl k,v=>ana k v
 |.inr x,v=>aur x v
noncomputable def afm (w:ajI):Key->Int
 |.inl k=>hashInt k
 |.inr x=>hashStr w x
theorem dR:∀{k:Key} {v:aiH},Gh k v=true->(∃i t,k=aq9 i∧v=aj6 i t)∨(∃x t,k=aq' x∧v=ara x t)
 |.inl i,v,h=>by
  obtain⟨t,e⟩:=Value.isInt_shape (k:=i) (v:=v) h
  exact .inl ⟨i,t,rfl,e⟩
 |.inr x,v,h=>by
  obtain⟨t,e⟩:=Value.isStrOf_shape (x:=x) (v:=v) h
  exact .inr ⟨x,t,rfl,e⟩
theorem Uu (i:Int)(t:Tok):Gh (.inl i) (.int i t)=true:=by simp[Gh,ana]
theorem Uv (x:Str)(t:Tok):Gh (.inr x) (.str x t)=true:=by simp[Gh,aur]
theorem acR (a b:Int):decide ((aq9 a:Key)=aq9 b)=(a==b):=by
 by_cases e:a=b
 .subst e;simp
 .have h:¬(aq9 a:Key)=aq9 b:=fun q=>e (Sum.inl.inj q);rw[aiO h];exact(beq_eq_false_iff_ne.mpr e).symm
theorem acS (a b:Str):decide ((aq' a:Key)=aq' b)=decide (a=b):=by
 by_cases e:a=b
 .subst e;simp
 .have h:¬(aq' a:Key)=aq' b:=fun q=>e (Sum.inr.inj q);rw[aiO h,aiO e]
theorem acT (a:Int)(b:Str):decide ((aq9 a:Key)=aq' b)=false:=aiO (fun q=>nomatch q)
theorem acU (a:Str)(b:Int):decide ((aq' a:Key)=aq9 b)=false:=aiO (fun q=>nomatch q)
noncomputable def mK (prog:ajr)(w:ajI):PySem.KeyKind prog w Key where
 is:=Gh;hash:=afm w;inj:=fun v a b ha hb=>by
  rcases dR ha with⟨i,t,rfl,rfl⟩|⟨x,t,rfl,rfl⟩
  .rcases dR hb with⟨j,u,rfl,e⟩|⟨y,u,rfl,e⟩
   .injection e with e1 _;rw[e1]
   .exact nomatch e
  .rcases dR hb with⟨j,u,rfl,e⟩|⟨y,u,rfl,e⟩
   .exact nomatch e
   .injection e with e1 _;rw[e1]
 byValue:=fun k v h=>by rcases dR h with⟨i,t,rfl,rfl⟩|⟨x,t,rfl,rfl⟩<;>rfl
 pyHash:=fun hv h=>by
  rcases dR hv with⟨i,t,rfl,rfl⟩|⟨x,t,rfl,rfl⟩
  .exact wpAny_pyHash_int h
  .exact wpAny_pyHash_str h
 eqBool:=fun hu hv h=>by
  rcases dR hu with⟨i,t,rfl,rfl⟩|⟨x,t,rfl,rfl⟩
  .rcases dR hv with⟨j,u,rfl,rfl⟩|⟨y,u,rfl,rfl⟩
   .rw[acR]at h;exact wpAny_eqBool_int h
   .rw[acT]at h;exact arG i t y u _ _ _ _ h
  .rcases dR hv with⟨j,u,rfl,rfl⟩|⟨y,u,rfl,rfl⟩
   .rw[acU]at h;exact arH x t j u _ _ _ _ h
   .rw[acS]at h;exact wpAny_eqBool_str h
 «strs»:=fun k x t v h=>by
  rcases dR h with⟨i,u,rfl,e⟩|⟨y,u,rfl,e⟩
  .exact nomatch e
  .injection e with e1 _;subst e1;cases v<;>rfl
theorem JL (prog:ajr)(w:ajI)(i:Int)(t:Tok):(mK prog w).is (.inl i) (.int i t)=true:=Uu i t
theorem JM (prog:ajr)(w:ajI)(x:Str)(t:Tok):(mK prog w).is (.inr x) (.str x t)=true:=Uv x t
inductive V where
 |non|bl (b:Bool)|int (i:Int)|str (x:Str)|Ob (b:Array UInt8)|flt (b:UInt64)|ref (a:aiM)|ty (n:String)
 deriving DecidableEq
def RelV:V->aiH->Prop
 |.non,u=>u=akr
 |.bl b,u=>u=alF b
 |.int i,u=>∃t,u=aj6 i t
 |.str x,u=>∃t,u=ara x t
 |.Ob b,u=>∃t,u=auW b t
 |.flt b,u=>∃t,u=as7 b t
 |.ref a,u=>u=ai2 a
 |.ty n,u=>u=aj9 n
abbrev Vals:List V->List aiH->Prop:=aqM RelV
theorem Vals.length {xs:List V}{us:List aiH}(r:Vals xs us):xs.length=us.length:=al8 r
theorem Vals.get:∀{xs:List V} {us:List aiH} {i:Nat} {x:V},Vals xs us->xs[i]?=some x->∃u,us[i]?=some u∧RelV x u
 |_,_,_,_,.nil,e=>by simp at e
 |_,_,0,_,.cons r _,e=>by simp at e;subst e;exact⟨_,rfl,r⟩
 |_,_,i+1,x,.cons _ t,e=>by
  obtain⟨u,h1,h2⟩:=Vals.get (i:=i) (x:=x) t (by simpa using e)
  exact⟨u,by simpa using h1,h2⟩
theorem Vals.set {x:V}{u:aiH}(r:RelV x u):∀{xs:List V} {us:List aiH} (i:Nat),Vals xs us->Vals (xs.set i x) (us.set i u)
 |_,_,_,.nil=>.nil
 |_,_,0,.cons _ t=>.cons r t
 |_,_,i+1,.cons q t=>.cons q (Vals.set r i t)
theorem Vals.append:∀{xs ys:List V} {us ws:List aiH},Vals xs us->Vals ys ws->Vals (xs++ys) (us++ws)
 |_,_,_,_,.nil,s=>s
 |_,_,_,_,.cons r t,s=>.cons r (Vals.append t s)
theorem Vals.take:∀{xs:List V} {us:List aiH} (n:Nat),Vals xs us->Vals (xs.take n) (us.take n)
 |_,_,0,_=>.nil
 |_,_,_+1,.nil=>.nil
 |_,_,n+1,.cons r t=>.cons r (Vals.take n t)
theorem Vals.drop:∀{xs:List V} {us:List aiH} (n:Nat),Vals xs us->Vals (xs.drop n) (us.drop n)
 |_,_,0,r=>r
 |_,_,_+1,.nil=>.nil
 |_,_,n+1,.cons _ t=>Vals.drop n t
def uc:Option V->Option aiH->Prop
 |some v,some u=>RelV v u
 |none,none=>True
 |_,_=>False
def KV {κ:Type}:List (κ×V)->List (κ×aiH)->Prop:=aqM fun(p:κ×V) (q:κ×aiH)=>p.1=q.1∧RelV p.2 q.2
noncomputable def kV:Key->V
 |.inl i=>.int i
 |.inr x=>.str x
inductive HO where
 |lst (xs:List V)
 |tup (xs:List V)
 |ah2 (kvs:List (Key×V))|dT (B:Bool) (kvs:List (bh×V))
 |set (S:Int->Bool) (n:Nat)
 |ins (C dx:aiM) (fs:List (Str×V))
 |own (x:aiM)
 |ahI (fs:List (Str×V))
 |met (f x:aiM)
 |rng (lo hi:Int)
 |uq (o:Obj) (u:HO)
 |tbl (ps:Array aiH)
 |ext (φ:aj4->Prop)
abbrev ag4:=aiM->Option HO
noncomputable def upd (H:ag4)(a:aiM)(o:HO):ag4:=fun b=>if b=a then some o else H b
theorem aA {H:ag4}{a:aiM}{o:HO}:upd H a o a=some o:=by unfold upd;rw[aiP rfl]
theorem aO {H:ag4}{a b:aiM}{o:HO}(h:b≠a):upd H a o b=H b:=by unfold upd;rw[aiL h]
theorem R9 {H:ag4}{a b:aiM}{o u:HO}(h:H a=some o)(h':H b=some u)(d:o≠u):a≠b:=by intro e;subst e;rw[h]at h';exact d (ajn h')
theorem bV {H:ag4}{a b:aiM}{o:HO}(h:H a=some o)(h':H b=none):a≠b:=by intro e;subst e;rw[h]at h';cases h'
def aY (B:Bool)(H:ag4)(k:bh)(q:aiM):Prop:=if B=true then∃m:Int,k.2=[m]∧H q=some (.tup [.int k.1,.int m])else∃c,H q=some (.tup [.int k.1,.ref c])∧H c=some (.tup (k.2.map V.int))
theorem aY.stay {B:Bool}{H H':ag4}{k:bh}{q:aiM}(x:aY B H k q)(ht:∀b xs,H b=some (.tup xs)->H' b=some (.tup xs)):aY B H' k q:=by
 cases B with
 |true=>obtain⟨m,e,h⟩:∃m:Int,k.2=[m]∧H q=some (.tup [.int k.1,.int m]):=x;exact⟨m,e,ht _ _ h⟩
 |false=>obtain⟨c,e,h⟩:∃c,H q=some (.tup [.int k.1,.ref c])∧H c=some (.tup (k.2.map V.int)):=x;exact⟨c,ht _ _ e,ht _ _ h⟩
section
variable(P:ajr)(w:ajI)
def b8 (H:ag4)(h:aj4)(a:aiM):HO->Prop
 |.lst xs=>xs.length<=aiV∧∃(its:List aiH) (n:Nat),Vals xs its∧h.get? a=some {cls:=.type "list",data:=.seq its.toArray n}
 |.tup xs=>xs.length<=aiV∧∃its:List aiH,Vals xs its∧as8 h a its.toArray
 |.ah2 kvs=>kvs.length<=aiV∧(a==ak3)=false∧∃vs,KV kvs vs∧h.DictOf (mK P w) a vs
 |.dT B kvs=>kvs.length<=aiV∧(a==ak3)=false∧∃xs:List (bh×aiM×aiH),
  aqM (fun(p:bh×V) (q:bh×aiM×aiH)=>p.1=q.1∧aY B H p.1 q.2.1∧RelV p.2 q.2.2) kvs xs∧
  ∃o es ep,h.get? a=some o∧o.ExactDict∧o.data=.dict es ep∧es.toList=xs.map (aqf (fW P w B))∧(xs.map (·.1)).Nodup
 |.set S n=>h.SetOf (aku P w) a S n
 |.ins C dx fs=>H dx=some (.own a)∧fs.length<=1000∧dx≠a∧h.get? a=some (alW C dx)∧
  ∃mA,h.Ns1 dx mA∧(∀f,uc (fs.lookup f) (mA f))∧ar4 mA (fs.map (·.1))
 |.own _=>∃o,h.get? a=some o
 |.ahI fs=>∃mA,h.Ns1 a mA∧∀f,uc (fs.lookup f) (mA f)
 |.rng lo hi=>∃t u v,h.get? a=some {cls:=.type "range",data:=.fields #[.int lo t,.int hi u,.int 1 v]}
 |.uq o u=>h.get? a=some o∧b8 H h a u
 |.tbl ps=>h.get? a=some {cls:=.none,data:=.fields ps}
 |.met f x=>h.get? a=some (apx (.ref f) (.ref x))
 |.ext φ=>φ h∧(∃o,h.get? a=some o)∧∀h1 h2:aj4,φ h1->(∀o,h1.get? a=some o->h2.get? a=some o)->φ h2
def qw (H:ag4)(h:aj4):Prop:=∀a o,H a=some o->b8 P w H h a o
end
section
variable{P:ajr}{w:ajI}{H H':ag4}{h h':aj4}{a:aiM}{o:HO}
theorem b8.lt (x:b8 P w H h a o):a<h.objs.size:=by
 cases o with
 |lst xs=>obtain⟨_,_,_,_,e⟩:=x;exact aja e
 |tup xs=>obtain⟨_,_,_,p⟩:=x;exact p.lt
 |ah2 kvs=>obtain⟨_,_,_,_,o,_,_,e,_⟩:=x;exact aja e
 |dT B kvs=>obtain⟨_,_,_,_,o,_,_,e,_⟩:=x;exact aja e
 |set S n=>obtain⟨o,_,_,_,e,_⟩:=x;exact aja e
 |ins C dx fs=>obtain⟨_,_,_,e,_⟩:=x;exact aja e
 |own y=>obtain⟨_,e⟩:=x;exact aja e
 |ahI fs=>obtain⟨_,⟨_,_,_,e,_⟩,_⟩:=x;exact aja e
 |rng lo hi=>obtain⟨_,_,_,e⟩:=x;exact aja e
 |uq ob u=>obtain⟨e,_⟩:=x;exact aja e
 |tbl ps=>exact aja (show h.get? a=some _ from x)
 |met f y=>exact aja (show h.get? a=some _ from x)
 |ext φ=>obtain⟨_,⟨_,e⟩,_⟩:=x;exact aja e
theorem Paired.aaR {α β:Type}{F G:α->β->Prop}:∀{l₁:List α} {l₂:List β},aqM F l₁ l₂->(∀a b,F a b->G a b)->aqM G l₁ l₂
 |_,_,.nil,_=>.nil
 |_,_,.cons r t,f=>.cons (f _ _ r) (Paired.aaR t f)
theorem b8.stay (x:b8 P w H h a o)(k:∀b u,(b=a∨H b=some (.own a))->h.get? b=some u->h'.get? b=some u)(ho:∀b,H b=some (.own a)->H' b=some (.own a))(ht:∀b xs,H b=some (.tup xs)->H' b=some (.tup xs)):b8 P w H' h' a o:=by
 induction o with
 |lst xs=>obtain⟨z,its,n,r,e⟩:=x;exact⟨z,its,n,r,k _ _ (.inl rfl) e⟩
 |tup xs=>obtain⟨z,its,r,ob,e,c⟩:=x;exact⟨z,its,r,ob,k _ _ (.inl rfl) e,c⟩
 |ah2 kvs=>obtain⟨z,y,vs,r,ob,es,ep,e,c⟩:=x;exact⟨z,y,vs,r,ob,es,ep,k _ _ (.inl rfl) e,c⟩
 |dT B kvs=>obtain⟨z,y,xs,r,ob,es,ep,e,c⟩:=x;exact⟨z,y,xs,Paired.aaR r fun p q z=>⟨z.1,z.2.1.stay ht,z.2.2⟩,ob,es,ep,k _ _ (.inl rfl) e,c⟩
 |set S n=>obtain⟨ob,es,ep,t,e,c⟩:=x;exact⟨ob,es,ep,t,k _ _ (.inl rfl) e,c⟩
 |ins C dx fs=>obtain⟨d,z,ne,e,mA,⟨od,es,ep,e2,c⟩,r⟩:=x;exact⟨ho _ d,z,ne,k _ _ (.inl rfl) e,mA,⟨od,es,ep,k _ _ (.inr d) e2,c⟩,r⟩
 |own y=>obtain⟨ob,e⟩:=x;exact⟨ob,k _ _ (.inl rfl) e⟩
 |ahI fs=>obtain⟨mA,⟨od,es,ep,e,c⟩,r⟩:=x;exact⟨mA,⟨od,es,ep,k _ _ (.inl rfl) e,c⟩,r⟩
 |rng lo hi=>obtain⟨t,u,v,e⟩:=x;exact⟨t,u,v,k _ _ (.inl rfl) e⟩
 |uq ob u ih=>obtain⟨e,q⟩:=x;exact⟨k _ _ (.inl rfl) e,ih q⟩
 |tbl ps=>have e:h.get? a=some {cls:=.none,data:=.fields ps}:=x;show h'.get? a=some {cls:=.none,data:=.fields ps};exact k a _ (.inl rfl) e
 |met f y=>have e:h.get? a=some (apx (.ref f) (.ref y)):=x;show h'.get? a=some (apx (.ref f) (.ref y));exact k a _ (.inl rfl) e
 |ext φ=>obtain⟨p,⟨o,e⟩,st⟩:=x;exact⟨st _ _ p fun o q=>k _ _ (.inl rfl) q,⟨o,k _ _ (.inl rfl) e⟩,st⟩
theorem qw.lt (x:qw P w H h)(e:H a=some o):a<h.objs.size:=(x a o e).lt
theorem qw.fresh (x:qw P w H h)(e:h.objs.size<=a):H a=none:=by
 cases q:H a with
 |none=>rfl
 |some u=>exact ai8 (ajv (x.lt q) e) (aky _)
theorem qw.kept (x:qw P w H h)(k:∀b u,h.get? b=some u->h'.get? b=some u):qw P w H h':=fun a o e=>(x a o e).stay (fun b u _ q=>k b u q) (fun _ q=>q) fun _ _ q=>q
theorem qw.laid (x:qw P w H h)(k:∀b u,h.get? b=some u->h'.get? b=some u)(hp:h.objs.size<=a)(new:b8 P w (upd H a o) h' a o):qw P w (upd H a o) h':=fun b u e=>by
 have hn:=x.fresh hp;by_cases hb:b=a
 .subst hb;rw[aA]at e;cases e;exact new
 .rw[aO hb]at e;exact(x b u e).stay (fun c v _ q=>k c v q) (fun c q=>by rw[aO (bV q hn)];exact q) fun c xs q=>by rw[aO (bV q hn)];exact q
end
def ahi (H:ag4)(a:aiM)(u:HO):Prop:=H a=some u∨∃o,H a=some (.uq o u)
theorem ahi.ok {P:ajr}{w:ajI}{H:ag4}{h:aj4}{a:aiM}{u:HO}(r:ahi H a u)(x:qw P w H h):b8 P w H h a u:=by
 rcases r with r|⟨o,r⟩
 .exact x a u r
 .obtain⟨_,q⟩:=x a _ r;exact q
def Mut:Option HO->Prop
 |some (.lst _)=>True
 |some (.ah2 _)=>True
 |some (.dT _ _)=>True
 |some (.set _ _)=>True
 |some (.ins _ _ _)=>True
 |some (.ext _)=>True
 |_=>False
section
variable{P:ajr}{w:ajI}{H:ag4}{h h':aj4}{x e:aiM}{o':HO}
theorem qw.write (ok:qw P w H h)(mu:Mut (H x))(he:e=x∨H e=some (.own x))(k:∀b u,b≠e->h.get? b=some u->h'.get? b=some u)(heo:∃u,h'.get? e=some u)(new:b8 P w (upd H x o') h' x o'):qw P w (upd H x o') h':=fun b u q=>by
 have aei:∀c y,H c=some (.own y)->c≠x:=fun c y r z=>by subst z;rw[r]at mu;exact mu
 have afn:∀c xs,H c=some (.tup xs)->c≠x:=fun c xs r z=>by subst z;rw[r]at mu;exact mu
 by_cases hb:b=x
 .subst hb;rw[aA]at q;cases q;exact new
 .rw[aO hb]at q;by_cases hbe:b=e
  .have q':H b=some (.own x):=by
    rcases he with z|z
    .exact ai8 (hbe.trans z) hb
    .rw[hbe];exact z
   rw[q]at q';cases q';obtain⟨v,hv⟩:=heo;exact⟨v,by rw[hbe];exact hv⟩
  .refine(ok b u q).stay (fun c v hc r=>k c v ?_ r) (fun c r=>by rw[aO (aei c b r)];exact r) fun c xs r=>by rw[aO (afn c xs r)];exact r
   rcases hc with rfl|hc
   .exact hbe
   .rintro rfl;rcases he with z|z
    .exact aei c b hc z
    .rw[hc]at z;cases z;exact hb rfl
end
structure ahd (fs ex:List aiM)(H H':ag4)(h h':aj4):Prop where
 keep:∀b o,h.get? b=some o->H b=none->b∉fs->b∉ex->h'.get? b=some o
 slot:∀b o,h.get? b=some o->H b=none->b∈fs->b∉ex->∃sl,h'.get? b=some {o with slots:=sl}
 free:∀b o,h.get? b=some o->H b=none->b∉ex->H' b=none
 there:∀b o,h.get? b=some o->b∉ex->∃o',h'.get? b=some o'
 tups:∀b xs,H b=some (.tup xs)->H' b=some (.tup xs)
 zJ:∀b o u,H b=some (.uq o u)->H' b=some (.uq o u)
 Al:∀b ps,H b=some (.tbl ps)->∃more,H' b=some (.tbl (ps++more))
section
variable{fs fs' ex ex':List aiM}{H H1 H2:ag4}{h h1 h2 h':aj4}{a x e:aiM}{o:HO}
theorem ahd.any (u:ahd fs ex H H1 h h1){b:aiM}{ob:Obj}(q:h.get? b=some ob)(n:H b=none)(hx:b∉ex):∃sl,h1.get? b=some {ob with slots:=sl}:=by
 by_cases hb:b∈fs
 .exact u.slot b ob q n hb hx
 .exact⟨ob.slots,u.keep b ob q n hb hx⟩
theorem ahd.kept (k:∀b u,h.get? b=some u->h'.get? b=some u):ahd fs ex H H h h':=⟨fun b ob q _ _ _=>k b ob q,fun b ob q _ _ _=>⟨ob.slots,k b ob q⟩,fun _ _ _ n _=>n,fun b ob q _=>⟨ob,k b ob q⟩,fun _ _ q=>q,fun _ _ _ q=>q,fun _ ps q=>⟨#[],by rw[q];simp⟩⟩
theorem ahd.refl:ahd fs ex H H h h:=ahd.kept fun _ _ q=>q
theorem ahd.laid (k:∀b u,h.get? b=some u->h'.get? b=some u)(hp:h.objs.size<=a)(hn:H a=none):ahd fs ex H (upd H a o) h h' where
 keep:=fun b u q _ _ _=>k b u q;slot:=fun b u q _ _ _=>⟨u.slots,k b u q⟩;free:=fun b u q n _=>by rw[aO (ajw (ajv (aja q) hp))];exact n
 there:=fun b u q _=>⟨u,k b u q⟩;tups:=fun b xs q=>by rw[aO (bV q hn)];exact q
 zJ:=fun b u xs q=>by rw[aO (bV q hn)];exact q
 Al:=fun b ps q=>⟨#[],by rw[aO (bV q hn),q];simp⟩
theorem ahd.write (mu:Mut (H x))(he:e=x∨H e=some (.own x))(k:∀b u,b≠e->h.get? b=some u->h'.get? b=some u)(heo:∃u,h'.get? e=some u):ahd fs ex H (upd H x o) h h':=by
 have hx:∀b,H b=none->b≠x:=fun b n z=>by subst z;rw[n]at mu;exact mu
 have hb:∀b,H b=none->b≠e:=fun b n z=>by
  subst z;rcases he with r|r
  .exact hx b n r
  .rw[n]at r;cases r
 have hm:∀b u,H b=some u->¬Mut (some u)->b≠x:=fun b u q nm z=>by subst z;rw[q]at mu;exact nm mu
 refine⟨fun b u q n _ _=>k b u (hb b n) q,fun b u q n _ _=>⟨u.slots,k b u (hb b n) q⟩,fun b u q n _=>by rw[aO (hx b n)];exact n,fun b u q _=>?_,fun b xs q=>by rw[aO (hm b _ q fun z=>z)];exact q,fun b u xs q=>by rw[aO (hm b _ q fun z=>z)];exact q,fun b ps q=>⟨#[],by rw[aO (hm b _ q fun z=>z),q];simp⟩⟩;by_cases hbe:b=e
 .subst hbe;exact heo
 .exact⟨u,k b u hbe q⟩
end
noncomputable def trk (h:aj4)(H:ag4):List aiM:=(aiY h.objs.size).filter fun a=>(H a).isSome
noncomputable def Hp (h:aj4)(H:ag4):aj4:=akY h (trk h H)
theorem Uw (h:aj4)(H:ag4):(Hp h H).objs.size=h.objs.size:=PySem.W.hideAll_size _ _
theorem Xh {h:aj4}{H:ag4}{b:aiM}{o:Obj}(e:h.get? b=some o)(n:H b=none):(Hp h H).get? b=some o:=amy _ e fun hm=>by have q:(H b).isSome=true:=(aks.mp hm).2;rw[n]at q;simp at q
theorem aaS {h:aj4}{H:ag4}{b:aiM}{o:Obj}(e:(Hp h H).get? b=some o):h.get? b=some o∧H b=none:=by
 have e':h.get? b=some o:=amN (trk h H) e;refine⟨e',?_⟩;cases q:H b with
 |none=>rfl
 |some x=>have hm:b∈trk h H:=aks.mpr ⟨ajs.mpr (aja e'),by simp[q]⟩;have z:(Hp h H).get? b=none:=alh (trk h H) hm;rw[z]at e;cases e
structure Mod (K:aiU)(mg:Str->Option aiH)(base:aj4):Prop where
 kin:K.In base
 glob:base.Ns ajz mg
 blt:∃mb,base.Ns aty mb∧∀x:Str,x≠"__name__"->mb x=akf x
 nolimit:base.NoLimit
structure aif where
 prog:ajr
 w:ajI
 K:aiU
 mg:Str->Option aiH
 base:aj4
 A:ajO
 N:List Str
 s₀:aiK
 H₀:ag4
 env:Env
 outer:List Env
 stack:List Env
 ex:List aiM
 fn:Str->Bool
 calm:Bool
 pn:List (aiM×Obj)
 xe:aiH->aiK->Prop
noncomputable def frs (l:List Env):List aiM:=l.filterMap (·.frame)
noncomputable abbrev aif.fs (X:aif):List aiM:=frs X.outer
def Vis (sc:ao5)(x:Str):Prop:=sc.names.lookup x=some .local∨sc.names.lookup x=some .cell∨sc.names.lookup x=some .free
def Loc (sc:ao5)(x:Str):Prop:=sc.names.lookup x=some .local∨sc.names.lookup x=some .cell
def Look (env:Env)(h:aj4)(m:Str->Option aiH)(x:Str)(u:aiH):Prop:=(env.kindOf x=some .local∧m x=some u)∨((env.kindOf x=some .cell∨env.kindOf x=some .free)∧∃c,env.cells.lookup x=some c∧h.IsCell c (some u))
structure aif.Ok (X:aif):Prop where
 mod:Mod X.K X.mg X.base
 kind:X.env.scope.kind=.function
 glob:X.env.globals=ajz
 blt:X.env.builtins=aty
 above:X.s₀.heap.objs.size<=X.env.locals
 inj:∀x y c,X.env.cells.lookup x=some c->X.env.cells.lookup y=some c->x=y
 has:∀x,(X.env.kindOf x=some .cell∨X.env.kindOf x=some .free)->∃c,X.env.cells.lookup x=some c
 cab:∀x c,X.fn x=true->X.env.cells.lookup x=some c->X.s₀.heap.objs.size<=c
 hd:X.calm=true->X.A.handled=none
 frames:X.A.frames=some X.stack
 stk:X.stack=X.outer∨(X.stack=X.env::X.outer∧X.env.frame=some X.env.locals)
 exf:∀b∈X.ex,b≠X.env.locals∧∀x c,X.env.cells.lookup x=some c->c≠b
 bs:∀b o,X.base.get? b=some o->X.s₀.heap.get? b=some o∧X.H₀ b=none
 Xd:X.base.objs.size<=X.s₀.heap.objs.size
 Oc:∀b o,X.base.get? b=some o->b∉X.ex
 Od:∀b∈X.ex,b∉X.fs
 uy:X.s₀.heap.FunFrames X.base X.outer
 frf:∀b∈X.fs,X.H₀ b=none
structure Inv (X:aif)(pins:List (aiM×Obj))(σ:List (Option V))(H:ag4)(s:aiK):Prop where
 ok:X.Ok
 os:s.os=X.s₀.os
 bare:aoZ s.gens
 base:ahd X.fs X.ex X.H₀ H X.s₀.heap s.heap
 loc:∃m,s.heap.Ns X.env.locals m∧∀(i:Nat) (x:Str) (v:V),X.N[i]?=some x->σ[i]?=some (some v)->Vis X.env.scope x->∃u,RelV v u∧Look X.env s.heap m x u
 cell:∀x c,X.env.cells.lookup x=some c->∃v,s.heap.IsCell c v
 free:H X.env.locals=none
 mF:∀x c,X.env.cells.lookup x=some c->H c=none
 pin:∀p∈X.pn++pins,s.heap.get? p.1=some p.2∧H p.1=none∧p.1≠X.env.locals∧p.1∉X.fs∧∀v,p.2.data≠.cell v
 hok:qw X.prog X.w H s.heap
 len:σ.length=X.N.length
section
variable{X:aif}{pins:List (aiM×Obj)}{σ:List (Option V)}{H H':ag4}{s:aiK}{h':aj4}
theorem aif.Ok.afo (ok:X.Ok){b:aiM}{o:Obj}(e:X.base.get? b=some o):b∉X.fs:=fun hb=>by have:=(ok.uy.mem hb).1;rw[e]at this;cases this
theorem Inv.bs (I:Inv X pins σ H s):∀b o,X.base.get? b=some o->s.heap.get? b=some o∧H b=none:=fun b o e=>⟨I.base.keep b o (I.ok.bs b o e).1 (I.ok.bs b o e).2 (I.ok.afo e) (I.ok.Oc b o e),I.base.free b o (I.ok.bs b o e).1 (I.ok.bs b o e).2 (I.ok.Oc b o e)⟩
theorem Inv.aid (I:Inv X pins σ H s):∀b o,X.base.get? b=some o->s.heap.get? b=some o:=fun b o e=>(I.bs b o e).1
theorem Inv.mod (I:Inv X pins σ H s):Mod X.K X.mg X.base:=I.ok.mod
theorem Inv.wX (I:Inv X pins σ H s):X.K.In s.heap:=I.ok.mod.kin.keeps I.aid
theorem Inv.fr (I:Inv X pins σ H s):∃m,Fr X.base X.env.locals s.heap m:=let⟨m,hn,_⟩:=I.loc;⟨m,hn,I.aid,ajt I.ok.Xd I.ok.above⟩
theorem Inv.lt (I:Inv X pins σ H s):X.env.locals<s.heap.objs.size:=let⟨_,hn,_⟩:=I.loc;hn.lt
theorem Inv.sz (I:Inv X pins σ H s):X.s₀.heap.objs.size<=s.heap.objs.size:=ajt I.ok.above (ar5 I.lt)
theorem Inv.afp (I:Inv X pins σ H s){a:aiM}(h:s.heap.objs.size<=a):a∉X.fs:=fun hb=>by obtain⟨_,o,ho,_⟩:=I.ok.uy.mem hb;exact ai8 (ajv (aja ho) (ajt I.sz h)) (aky _)
theorem Inv.Eh (I:Inv X pins σ H s):∀x c,X.env.cells.lookup x=some c->c≠X.env.locals:=fun x c e z=>by obtain⟨v,o,ho,hd⟩:=I.cell x c e;obtain⟨m,⟨o',es,ep,ho',hd',_⟩,_⟩:=I.loc;rw[z,ho']at ho;cases ho;rw[hd']at hd;cases hd
theorem Inv.uy (I:Inv X pins σ H s):s.heap.FunFrames X.base X.outer:=by
 have all:∀(l:List Env),(∀b∈frs l,b∈X.fs)->X.s₀.heap.FunFrames X.base l->s.heap.FunFrames X.base l:=by
  intro l;induction l with
  |nil=>intro _ _;trivial
  |cons env r ih=>intro hs hl;obtain⟨hk,⟨L,o,hf,hn,ho,hd⟩,hr⟩:=hl;have hL:L∈X.fs:=hs L (by unfold frs;rw[ajN,hf];exact akL);obtain⟨sl,e⟩:=I.base.slot L o ho (I.ok.frf L hL) hL fun z=>I.ok.Od L z hL;exact⟨hk,⟨L,_,hf,hn,e,hd⟩,ih (fun b hb=>hs b (by unfold frs;rw[ajN,hf];exact ajS _ hb)) hr⟩
 exact all X.outer (fun _ hb=>hb) I.ok.uy
theorem Inv.stack (I:Inv X pins σ H s):s.heap.FunFrames X.base X.stack:=by
 rcases I.ok.stk with e|⟨e,hf⟩
 .rw[e];exact I.uy
 .rw[e];obtain⟨m,hn,_⟩:=I.loc;refine .cons (by rw[I.ok.kind];decide) hf hn ?_ I.uy;exact aqN (ajt I.ok.Xd I.ok.above)
theorem Inv.Oe (I:Inv X pins σ H s):∀b∈frs X.stack,b∈X.env.locals::X.fs:=fun b hb=>by
 rcases I.ok.stk with e|⟨e,hf⟩
 .rw[e]at hb;exact ajS _ hb
 .rw[e]at hb;unfold frs at hb;rw[ajN,hf]at hb;exact hb
theorem Inv.Hq (I:Inv X pins σ H s):∀b∈frs X.stack,H b=none:=fun b hb=>by
 rcases ai3.mp (I.Oe b hb)with e|hb
 .rw[e];exact I.free
 .obtain⟨_,o,ho,_⟩:=I.ok.uy.mem hb;exact I.base.free b o ho (I.ok.frf b hb) fun z=>I.ok.Od b z hb
theorem Inv.step {g':Array atz}{t':Nat}{d':Drawn}{ch:List aiM}(I:Inv X pins σ H s)(hch:∀b∈ch,(b∈X.ex∨X.s₀.heap.objs.size<=b)∧b≠X.env.locals∧(∀x c,X.env.cells.lookup x=some c->c≠b)∧∀p∈X.pn++pins,p.1≠b)(keep:∀b o,b≠X.env.locals->b∉X.fs->b∉ch->s.heap.get? b=some o->H b=none->h'.get? b=some o)(slot:∀b o,b≠X.env.locals->b∈X.fs->b∉ch->s.heap.get? b=some o->H b=none->∃sl,h'.get? b=some {o with slots:=sl})(free:∀b o,b∉ch->s.heap.get? b=some o->H b=none->H' b=none)(there:∀b o,b∉ch->s.heap.get? b=some o->∃o',h'.get? b=some o')(tups:∀b xs,H b=some (.tup xs)->H' b=some (.tup xs))(zJ:∀b o u,H b=some (.uq o u)->H' b=some (.uq o u))(Al:∀b ps,H b=some (.tbl ps)->∃more,H' b=some (.tbl (ps++more)))(ns:∀m,s.heap.Ns X.env.locals m->h'.Ns X.env.locals m)(hok:qw X.prog X.w H' h')(hg:aoZ g'):Inv X pins σ H' {s with heap:=h',gens:=g',drawn:=d',toks:=t'}:=by
 have neL:∀b o,X.s₀.heap.get? b=some o->b≠X.env.locals:=fun b o e=>ajw (ajv (aja e) I.ok.above);have neC:∀b o,X.s₀.heap.get? b=some o->b∉X.ex->b∉ch:=fun b o e hx hb=>by
  rcases(hch b hb).1 with z|z
  .exact hx z
  .exact ai8 (ajv (aja e) z) (aky _)
 have cellK:∀x c,X.env.cells.lookup x=some c->∀v,s.heap.IsCell c v->h'.IsCell c v:=fun x c e v ⟨o,ho,hd⟩=>by
  have nch:c∉ch:=fun z=>(hch c z).2.2.1 x c e rfl;by_cases hc:c∈X.fs
  .obtain⟨sl,q⟩:=slot c o (I.Eh x c e) hc nch ho (I.mF x c e);exact⟨_,q,hd⟩
  .exact⟨o,keep c o (I.Eh x c e) hc nch ho (I.mF x c e),hd⟩
 refine⟨I.ok,I.os,hg,⟨fun b o e n hb hx=>?_,fun b o e n hb hx=>?_,fun b o e n hx=>?_,fun b o e hx=>?_,fun b xs e=>tups b xs (I.base.tups b xs e),fun b o xs e=>zJ b o xs (I.base.zJ b o xs e),fun b ps e=>?_⟩,?_,fun x c e=>?_,?_,fun x c e=>?_,fun p hp=>?_,hok,I.len⟩
 .exact keep b o (neL b o e) hb (neC b o e hx) (I.base.keep b o e n hb hx) (I.base.free b o e n hx)
 .obtain⟨sl,e1⟩:=I.base.slot b o e n hb hx;obtain⟨sl',e2⟩:=slot b _ (neL b o e) hb (neC b o e hx) e1 (I.base.free b o e n hx);exact⟨sl',e2⟩
 .obtain⟨o',e1⟩:=I.base.there b o e hx;exact free b o' (neC b o e hx) e1 (I.base.free b o e n hx)
 .obtain⟨o',e1⟩:=I.base.there b o e hx;exact there b o' (neC b o e hx) e1
 .obtain⟨m1,e1⟩:=I.base.Al b ps e;obtain⟨m2,e2⟩:=Al b _ e1;exact⟨m1++m2,by rw[e2,Array.append_assoc]⟩
 .obtain⟨m,hn,hl⟩:=I.loc;refine⟨m,ns m hn,fun i x v e1 e2 e3=>?_⟩;obtain⟨u,r,l⟩:=hl i x v e1 e2 e3;refine⟨u,r,?_⟩;rcases l with l|⟨k,c,e,z⟩
  .exact .inl l
  .exact .inr ⟨k,c,e,cellK x c e _ z⟩
 .obtain⟨v,z⟩:=I.cell x c e;exact⟨v,cellK x c e v z⟩
 .obtain⟨m,⟨o,_,_,ho,_⟩,_⟩:=I.loc;exact free _ o (fun z=>(hch _ z).2.1 rfl) ho I.free
 .obtain⟨v,o,ho,hd⟩:=I.cell x c e;exact free c o (fun z=>(hch c z).2.2.1 x c e rfl) ho (I.mF x c e)
 .obtain⟨e,n,ne,nf,d⟩:=I.pin p hp;have nch:p.1∉ch:=fun z=>(hch p.1 z).2.2.2 p hp rfl;exact⟨keep p.1 p.2 ne nf nch e n,free p.1 p.2 nch e n,ne,nf,d⟩
theorem Inv.un {t':Nat}(I:Inv X pins σ H s)(u:ahd X.fs [] H H' s.heap h')(hok:qw X.prog X.w H' h'):Inv X pins σ H' {s with heap:=h',toks:=t'}:=by obtain⟨m,⟨o,es,ep,ho,r⟩,_⟩:=id I.loc;obtain⟨sl,hL⟩:=u.any ho I.free (by simp);exact I.step (g':=s.gens) (d':=s.drawn) (ch:=[]) (fun _ z=>nomatch z) (fun b o _ hb _ e n=>u.keep b o e n hb (by simp)) (fun b o _ hb _ e n=>u.slot b o e n hb (by simp)) (fun b o _ e n=>u.free b o e n (by simp)) (fun b o _ e=>u.there b o e (by simp)) u.tups u.zJ u.Al (fun m' hm=>by obtain⟨o',es',ep',ho',r'⟩:=hm;rw[ho]at ho';cases ho';exact⟨_,es',ep',hL,r'⟩) hok I.bare
theorem Inv.call {g':Array atz}{t':Nat}{d':Drawn}{ch:List aiM}(I:Inv X pins σ H s)(u:ahd (frs X.stack) ch H H' s.heap h')(hok:qw X.prog X.w H' h')(hg:aoZ g')(hch:∀b∈ch,(b∈X.ex∨X.s₀.heap.objs.size<=b)∧b≠X.env.locals∧(∀x c,X.env.cells.lookup x=some c->c≠b)∧∀p∈X.pn++pins,p.1≠b):Inv X pins σ H' {s with heap:=h',gens:=g',drawn:=d',toks:=t'}:=by obtain⟨m,⟨o,es,ep,ho,r⟩,_⟩:=id I.loc;obtain⟨sl,hL⟩:=u.any ho I.free fun z=>(hch _ z).2.1 rfl;exact I.step (ch:=ch) hch (fun b o hL hb hc e n=>u.keep b o e n (fun z=>(ai3.mp (I.Oe b z)).elim hL hb) hc) (fun b o _ _ hc e n=>u.any e n hc) (fun b o hc e n=>u.free b o e n hc) (fun b o hc e=>u.there b o e hc) u.tups u.zJ u.Al (fun m' hm=>by obtain⟨o',es',ep',ho',r'⟩:=hm;rw[ho]at ho';cases ho';exact⟨_,es',ep',hL,r'⟩) hok hg
theorem Inv.turned {t':Nat}{it:aiM}(I:Inv X pins σ H s)(k:∀b o,b≠it->s.heap.get? b=some o->h'.get? b=some o)(hn:H it=none)(hL:it≠X.env.locals)(h1:it∈X.ex∨X.s₀.heap.objs.size<=it)(h2:∀x c,X.env.cells.lookup x=some c->c≠it)(h3:∀p∈X.pn++pins,p.1≠it):Inv X pins σ H {s with heap:=h',toks:=t'}:=by
 have nit:∀b u,H b=some u->b≠it:=fun b u e z=>by rw[z,hn]at e;cases e
 refine I.step (g':=s.gens) (d':=s.drawn) (ch:=[it]) (fun b hb=>?_) (fun b o _ _ hc e _=>k b o (fun z=>hc (by simp[z])) e) (fun b o _ _ hc e _=>⟨o.slots,k b o (fun z=>hc (by simp[z])) e⟩) (fun _ _ _ _ n=>n) (fun b o hc e=>⟨o,k b o (fun z=>hc (by simp[z])) e⟩) (fun _ _ e=>e) (fun _ _ _ e=>e) (fun b ps e=>⟨#[],by rw[e];simp⟩) (fun m hm=>?_) (fun b u e=>?_) I.bare
 .have e:b=it:=by simpa using hb
  subst e;exact⟨h1,hL,h2,h3⟩
 .obtain⟨o,es,ep,ho,r⟩:=hm;exact⟨o,es,ep,k _ o (al3 hL) ho,r⟩
 .refine(I.hok b u e).stay (fun c v hc q=>k c v ?_ q) (fun _ q=>q) fun _ _ q=>q;rcases hc with z|z
  .rw[z];exact nit b u e
  .exact nit c _ z
theorem Inv.tok (I:Inv X pins σ H s)(t:Nat):Inv X pins σ H {s with toks:=t}:=I.un (h':=s.heap) (t':=t) ahd.refl I.hok
theorem Inv.kept {t':Nat}(I:Inv X pins σ H s)(k:∀b u,s.heap.get? b=some u->h'.get? b=some u):Inv X pins σ H {s with heap:=h',toks:=t'}:=I.un (ahd.kept k) (I.hok.kept k)
theorem Inv.laid {a:aiM}{o:HO}{t':Nat}(I:Inv X pins σ H s)(k:∀b u,s.heap.get? b=some u->h'.get? b=some u)(hp:s.heap.objs.size<=a)(new:b8 X.prog X.w (upd H a o) h' a o):Inv X pins σ (upd H a o) {s with heap:=h',toks:=t'}:=I.un (ahd.laid k hp (I.hok.fresh hp)) (I.hok.laid k hp new)
theorem Inv.write {x e:aiM}{o:HO}{t':Nat}(I:Inv X pins σ H s)(mu:Mut (H x))(he:e=x∨H e=some (.own x))(k:∀b u,b≠e->s.heap.get? b=some u->h'.get? b=some u)(heo:∃u,h'.get? e=some u)(new:b8 X.prog X.w (upd H x o) h' x o):Inv X pins σ (upd H x o) {s with heap:=h',toks:=t'}:=I.un (ahd.write mu he k heo) (I.hok.write mu he k heo new)
theorem Inv.weak {σ':List (Option V)}(I:Inv X pins σ H s)(hl:σ'.length=σ.length)(w:∀(i:Nat) v,σ'[i]?=some (some v)->σ[i]?=some (some v)):Inv X pins σ' H s:=⟨I.ok,I.os,I.bare,I.base,let⟨m,hn,hl'⟩:=I.loc;⟨m,hn,fun i x v e1 e2 e3=>hl' i x v e1 (w i v e2) e3⟩,I.cell,I.free,I.mF,I.pin,I.hok,hl.trans I.len⟩
theorem Inv.Sd {Am:List (aiM×Obj)}(I:Inv X pins σ H s)(h:∀p∈Am,s.heap.get? p.1=some p.2∧H p.1=none∧p.1≠X.env.locals∧p.1∉X.fs∧∀v,p.2.data≠.cell v):Inv X Am σ H s:=⟨I.ok,I.os,I.bare,I.base,I.loc,I.cell,I.free,I.mF,fun p hp=>(ai1.mp hp).elim (fun z=>I.pin p (anb _ z)) (h p),I.hok,I.len⟩
theorem An {N:List Str}(hN:N.Nodup){i j:Nat}{x:Str}(a:N[i]?=some x)(b:N[j]?=some x):i=j:=by obtain⟨h1,e1⟩:=ajj.mp a;obtain⟨h2,e2⟩:=ajj.mp b;exact(List.getElem_inj hN).mp (e1.trans e2.symm)
theorem Gi {M:apU}{A:ajO}{E:aiH->aiK->Prop}{i:Nat}{x:Str}{v:V}{u:aiH}{Q:Unit->aiK->Prop}(I:Inv X pins σ H s)(hN:X.N.Nodup)(hi:X.N[i]?=some x)(hx:Loc X.env.scope x)(r:RelV v u)(h:∀s',Inv X pins (σ.set i (some v)) H s'->(∃a,akK a s.heap s'.heap∧(a=X.env.locals∨X.env.cells.lookup x=some a))->Q () s')(hf:X.fn x=true∨X.env.scope.names.lookup x=some .local:=by first|exact .inl rfl|exact .inr rfl|assumption):ai0 M A (storeName X.env x u) Q E s:=by
 obtain⟨m,hn,hl⟩:=id I.loc;have hcls:(X.env.scope.kind==.class||(X.env.scope.kind==.module&&X.env.locals !=X.env.globals))=false:=by rw[I.ok.kind];rfl
 have aaT:i<σ.length:=by rw[I.len];exact(ajj.mp hi).1
 have Eh:=I.Eh;have tracked:∀{a:aiM} {h':aj4},(∃o,s.heap.get? a=some o∧H a=none)->akK a s.heap h'->qw X.prog X.w H h':=fun{a h'} ha hs b ob e=>by
  obtain⟨_,_,hfree⟩:=ha;refine(I.hok b ob e).stay (fun c w' hc q=>(hs.2 c ?_).trans q) (fun _ q=>q) fun _ _ q=>q;rintro rfl;rcases hc with rfl|hc
  .rw[hfree]at e;cases e
  .rw[hfree]at hc;cases hc
 rcases hx with hk|hk
 .refine wpAny_storeName_local hk hn (fun h' hn' hs=>?_) hcls;obtain⟨oL,_,_,hoL,_⟩:=id hn;refine h _ ⟨I.ok,I.os,I.bare,⟨fun b o e n hb hx=>?_,fun b o e n hb hx=>?_,I.base.free,fun b o e hx=>?_,I.base.tups,I.base.zJ,I.base.Al⟩,⟨_,hn',fun j y v' e1 e2 e3=>?_⟩,fun y c e=>?_,I.free,I.mF,fun p hp=>?_,tracked ⟨oL,hoL,I.free⟩ hs,by simpa using I.len⟩ ⟨_,hs,.inl rfl⟩
  .exact(hs.2 b (ajw (ajv (aja e) I.ok.above))).trans (I.base.keep b o e n hb hx)
  .obtain⟨sl,e1⟩:=I.base.slot b o e n hb hx;exact⟨sl,(hs.2 b (ajw (ajv (aja e) I.ok.above))).trans e1⟩
  .obtain⟨o',e1⟩:=I.base.there b o e hx;exact⟨o',(hs.2 b (ajw (ajv (aja e) I.ok.above))).trans e1⟩
  .by_cases hj:j=i
   .subst hj;rw[hi]at e1;cases e1;rw[anU aaT]at e2;cases e2;exact⟨u,r,.inl ⟨hk,by simp⟩⟩
   .rw[aoD (al3 hj)]at e2;obtain⟨u',r',q⟩:=hl j y v' e1 e2 e3;refine⟨u',r',?_⟩;rcases q with⟨k,e⟩|⟨k,c,e,z⟩
    .refine .inl ⟨k,?_⟩;have:y≠x:=fun e=>hj (An hN e1 (e▸hi));simp[this,e]
    .exact .inr ⟨k,c,e,z.sameBut hs (Eh y c e)⟩
  .obtain⟨w',z⟩:=I.cell y c e;exact⟨w',z.sameBut hs (Eh y c e)⟩
  .obtain⟨e,n,ne,nf,d⟩:=I.pin p hp;exact⟨(hs.2 p.1 ne).trans e,n,ne,nf,d⟩
 .have hfn:X.fn x=true:=by
   rcases hf with z|z
   .exact z
   .rw[z]at hk;cases hk
  obtain⟨c,hc⟩:=I.ok.has x (.inl hk);obtain⟨w',z⟩:=I.cell x c hc;refine wpAny_storeName_cell I.ok.kind hk hc z (fun h' hc' hs=>?_);obtain⟨oc,hoc,afq⟩:=id z;refine h {s with heap:=h'} ⟨I.ok,I.os,I.bare,⟨fun b o e n hb hx=>?_,fun b o e n hb hx=>?_,I.base.free,fun b o e hx=>?_,I.base.tups,I.base.zJ,I.base.Al⟩,⟨m,hn.sameBut hs (al3 (Eh x c hc)),fun j y v' e1 e2 e3=>?_⟩,fun y c' e=>?_,I.free,I.mF,fun p hp=>?_,tracked ⟨oc,hoc,I.mF x c hc⟩ hs,by simpa using I.len⟩ ⟨c,hs,.inr hc⟩
  .exact(hs.2 b (ajw (ajv (aja e) (I.ok.cab x c hfn hc)))).trans (I.base.keep b o e n hb hx)
  .obtain⟨sl,e1⟩:=I.base.slot b o e n hb hx;exact⟨sl,(hs.2 b (ajw (ajv (aja e) (I.ok.cab x c hfn hc)))).trans e1⟩
  .obtain⟨o',e1⟩:=I.base.there b o e hx;exact⟨o',(hs.2 b (ajw (ajv (aja e) (I.ok.cab x c hfn hc)))).trans e1⟩
  .by_cases hj:j=i
   .subst hj;rw[hi]at e1;cases e1;rw[anU aaT]at e2;cases e2;exact⟨u,r,.inr ⟨.inl hk,c,hc,hc'⟩⟩
   .rw[aoD (al3 hj)]at e2;obtain⟨u',r',q⟩:=hl j y v' e1 e2 e3;refine⟨u',r',?_⟩;rcases q with q|⟨k,c',e,z'⟩
    .exact .inl q
    .refine .inr ⟨k,c',e,z'.sameBut hs ?_⟩;rintro rfl;exact hj (An hN e1 (I.ok.inj _ _ _ e hc▸hi))
  .by_cases hcc:c'=c
   .subst hcc;exact⟨_,hc'⟩
   .obtain⟨w2,z2⟩:=I.cell y c' e;exact⟨w2,z2.sameBut hs hcc⟩
  .obtain⟨e,n,ne,nf,d⟩:=I.pin p hp;refine⟨(hs.2 p.1 ?_).trans e,n,ne,nf,d⟩;intro q;rw[q,hoc]at e;have q':oc=p.2:=ajn e;exact d w' (by rw[←q'];exact afq)
theorem vy {M:apU}{A:ajO}{E:aiH->aiK->Prop}{i:Nat}{x:Str}{v:V}{u:aiH}{Q:Unit->aiK->Prop}(I:Inv X pins σ H s)(hN:X.N.Nodup)(hi:X.N[i]?=some x)(hx:Loc X.env.scope x)(r:RelV v u)(h:∀s',Inv X pins (σ.set i (some v)) H s'->Q () s')(hf:X.fn x=true∨X.env.scope.names.lookup x=some .local:=by first|exact .inl rfl|exact .inr rfl|assumption):ai0 M A (storeName X.env x u) Q E s:=Gi I hN hi hx r (fun s' I' _=>h s' I') hf
theorem Inv.call' {s':aiK}{ch:List aiM}(I:Inv X pins σ H s)(ho:s'.os=s.os)(u:ahd (frs X.stack) ch H H' s.heap s'.heap)(hok:qw X.prog X.w H' s'.heap)(hg:aoZ s'.gens)(hch:∀b∈ch,(b∈X.ex∨X.s₀.heap.objs.size<=b)∧b≠X.env.locals∧(∀x c,X.env.cells.lookup x=some c->c≠b)∧∀p∈X.pn++pins,p.1≠b):Inv X pins σ H' s':=by obtain⟨h',g',d',t',o'⟩:=s';have e:o'=s.os:=ho;subst e;exact I.call (g':=g') (t':=t') (d':=d') u hok hg hch
end
abbrev agL:=aiH->Option aiM->ag4->Prop
abbrev St:=List (Option V)
abbrev ahY:=V->ag4->Prop
abbrev TE:=St->ag4->ahY->Prop
abbrev TT:=St->ag4->(Bool->ag4->Prop)->Prop
abbrev TA:=St->ag4->(List V->ag4->Prop)->Prop
structure Ends where
 nx:St->ag4->Prop
 rt:ahY
 aid:St->ag4->Prop:=fun _ _=>False
 ct:St->ag4->Prop:=fun _ _=>False
abbrev TS:=Ends->St->ag4->Prop
def EP (X:aif)(pins:List (aiM×Obj))(σ:St)(Q:ahY)(u:aiH)(s':aiK):Prop:=∃v H',Inv X pins σ H' s'∧RelV v u∧Q v H'
def ain (X:aif)(pins:List (aiM×Obj))(σ:St)(Q:Bool->ag4->Prop)(b:Bool)(s':aiK):Prop:=∃H',Inv X pins σ H' s'∧Q b H'
def AP (X:aif)(pins:List (aiM×Obj))(σ:St)(Q:List V->ag4->Prop)(us:List aiH)(s':aiK):Prop:=∃vs H',Inv X pins σ H' s'∧Vals vs us∧Q vs H'
def SP (X:aif)(pins:List (aiM×Obj))(D:Ends)(f:Flow)(s':aiK):Prop:=
 match f with
 |.next=>∃σ' H',Inv X pins σ' H' s'∧D.nx σ' H'
 |.brk=>∃σ' H',Inv X pins σ' H' s'∧D.aid σ' H'
 |.cont=>∃σ' H',Inv X pins σ' H' s'∧D.ct σ' H'
 |.ret u=>∃v σ' H',Inv X pins σ' H' s'∧RelV v u∧D.rt v H'
def PE (X:aif)(e:akb)(t:TE):Prop:=∀(pins:List (aiM×Obj)) (s:aiK) (σ:St) (H:ag4) (Q:ahY),Inv X pins σ H s->t σ H Q->ai0 (ai7 X.prog X.w) X.A (alg e X.env) (EP X pins σ Q) X.xe s
def ah1 (X:aif)(e:akb)(t:TT):Prop:=∀(pins:List (aiM×Obj)) (s:aiK) (σ:St) (H:ag4) (Q:Bool->ag4->Prop),Inv X pins σ H s->t σ H Q->ai0 (ai7 X.prog X.w) X.A (atA e X.env (alg e X.env)) (ain X pins σ Q) X.xe s
def PW (X:aif)(e:akb)(t:TT):Prop:=∀(whole:Sem aiH) (pins:List (aiM×Obj)) (s:aiK) (σ:St) (H:ag4) (Q:Bool->ag4->Prop),Inv X pins σ H s->t σ H Q->ai0 (ai7 X.prog X.w) X.A (atA e X.env whole) (ain X pins σ Q) X.xe s
theorem PW.pt {X:aif}{e:akb}{t:TT}(h:PW X e t):ah1 X e t:=h _
def PA (X:aif)(es:List akb)(t:TA):Prop:=∀(pos:Pos) (pins:List (aiM×Obj)) (s:aiK) (σ:St) (H:ag4) (Q:List V->ag4->Prop),Inv X pins σ H s->t σ H Q->ai0 (ai7 X.prog X.w) X.A (spliced (amO pos (ajF es X.env))) (AP X pins σ Q) X.xe s
def PS (X:aif)(st:akM)(t:TS):Prop:=∀(pins:List (aiM×Obj)) (s:aiK) (σ:St) (H:ag4) (D:Ends),Inv X pins σ H s->t D σ H->ai0 (ai7 X.prog X.w) X.A (exec st X.env) (SP X pins D) X.xe s
def zU (X:aif)(st:List akM)(t:TS):Prop:=∀(pins:List (aiM×Obj)) (s:aiK) (σ:St) (H:ag4) (D:Ends),Inv X pins σ H s->t D σ H->ai0 (ai7 X.prog X.w) X.A (execs st X.env) (SP X pins D) X.xe s
theorem cC {α:Type}{t:Sem α}{Q Q':α->aiK->Prop}{M:apU}{A:ajO}{E:aiH->aiK->Prop}{s:aiK}(h:ai0 M A t Q E s)(hQ:∀a s,Q a s->Q' a s):ai0 M A t Q' E s:=alE h hQ fun _ _ x=>x
section
variable{X:aif}
theorem bin {a b:akb}{ta tb:TE}(ha:PE X a ta)(hb:PE X b tb){pins:List (aiM×Obj)}{s:aiK}{σ:St}{H:ag4}{R:V->V->ag4->Prop}(I:Inv X pins σ H s)(h:ta σ H fun x H1=>tb σ H1 fun y H2=>R x y H2){α:Type}{Q:α->aiK->Prop}{f:aiH->aiH->Sem α}(hf:∀v u s2 x y H2,Inv X pins σ H2 s2->RelV x v->RelV y u->R x y H2->ai0 (ai7 X.prog X.w) X.A (f v u) Q X.xe s2):ai0 (ai7 X.prog X.w) X.A (alg a X.env) (fun v s₁=>ai0 (ai7 X.prog X.w) X.A (alg b X.env) (fun u s₂=>ai0 (ai7 X.prog X.w) X.A (f v u) Q X.xe s₂) X.xe s₁) X.xe s:=by refine cC (ha pins s σ H _ I h) fun v s1 ⟨x,H1,I1,r1,q1⟩=>?_;refine cC (hb pins s1 σ H1 _ I1 q1) fun u s2 ⟨y,H2,agY,r2,q2⟩=>?_;exact hf v u s2 x y H2 agY r1 r2 q2
def aej (i:Nat):TE:=fun σ H Q=>∃v,σ[i]?=some (some v)∧Q v H
def ah0 (v:V):TE:=fun _ H Q=>Q v H
theorem Hr {i:Nat}{x:Str}{pos:Pos}(hN:X.N[i]?=some x)(hv:Vis X.env.scope x)(hd:(x==("__debug__":Str))=false:=by decide)(hcd:(x==("__classdict__":Str))=false:=by decide):PE X (.Name x pos) (aej i):=by
 intro pins s σ H Q I h;obtain⟨v,e,h⟩:=h;obtain⟨m,hn,hl⟩:=I.loc;obtain⟨u,r,l⟩:=hl i x v hN e hv;have fin:EP X pins σ Q u s:=⟨v,H,I,r,h⟩;rcases l with⟨hk,hm⟩|⟨hk,c,hc,hcell⟩
 .exact atB (aqO I.ok.kind hk hn hm fin) hd
 .rcases hk with hk|hk
  .exact atB (ark I.ok.kind hk hc hcell fin) hd
  .exact atB (wpAny_loadName_free I.ok.kind hk hc hcell fin hcd) hd
theorem ak {i j pos}:PE X (.Constant (.int i) j pos) (ah0 (.int i)):=fun _ _ _ H _ I h=>wpAny_Constant_int ⟨.int i,H,I.tok _,⟨_,rfl⟩,h⟩
theorem gY {b j pos}:PE X (.Constant (.bool b) j pos) (ah0 (.bl b)):=fun _ _ _ H _ I h=>Constant_bool ⟨.bl b,H,I,rfl,h⟩
theorem o8 {j pos}:PE X (.Constant .none j pos) (ah0 .non):=fun _ _ _ H _ I h=>ars ⟨.non,H,I,rfl,h⟩
theorem b7 {x j pos}:PE X (.Constant (.str x) j pos) (ah0 (.str x)):=fun _ _ _ H _ I h=>arI ⟨.str x,H,I.tok _,⟨_,rfl⟩,h⟩
def ahT (X:aif)(x:Str):Prop:=X.env.kindOf x=some .globalImplicit
theorem zV {E:aiH->aiK->Prop}{pins:List (aiM×Obj)}{s:aiK}{σ:St}{H:ag4}{x:Str}{u:aiH}{pos:Pos}{Q:aiH->aiK->Prop}(I:Inv X pins σ H s)(hg:ahT X x)(hm:X.mg x=some u)(h:Q u s)(hd:(x==("__debug__":Str))=false:=by decide):ai0 (ai7 X.prog X.w) X.A (alg (.Name x pos) X.env) Q E s:=anc I.ok.kind hg (apV (by rw[I.ok.glob];exact I.mod.glob.keeps I.aid) hm h) hd
theorem Ao {E:aiH->aiK->Prop}{pins:List (aiM×Obj)}{s:aiK}{σ:St}{H:ag4}{x:Str}{u:aiH}{pos:Pos}{Q:aiH->aiK->Prop}(I:Inv X pins σ H s)(hg:ahT X x)(hm:X.mg x=none)(hv:akf x=some u)(h:Q u s)(hn:x≠"__name__":=by decide)(hd:(x==("__debug__":Str))=false:=by decide):ai0 (ai7 X.prog X.w) X.A (alg (.Name x pos) X.env) Q E s:=by obtain⟨mb,h1,h2⟩:=I.mod.blt;exact anc I.ok.kind hg (Calls.loadGlobal_builtin (by rw[I.ok.glob];exact I.mod.glob.keeps I.aid) hm (by rw[I.ok.blt];exact h1.keeps I.aid) ((h2 x hn).trans hv) h) hd
theorem ji {x:Str}{v:V}{u:aiH}{pos:Pos}(hg:ahT X x)(hm:X.mg x=some u)(r:RelV v u)(hd:(x==("__debug__":Str))=false:=by decide):PE X (.Name x pos) (ah0 v):=fun _ _ _ H _ I h=>zV I hg hm ⟨v,H,I,r,h⟩ hd
theorem iz {x:Str}{v:V}{u:aiH}{pos:Pos}(hg:ahT X x)(hm:X.mg x=none)(hv:akf x=some u)(r:RelV v u)(hn:x≠"__name__":=by decide)(hd:(x==("__debug__":Str))=false:=by decide):PE X (.Name x pos) (ah0 v):=fun _ _ _ H _ I h=>Ao I hg hm hv ⟨v,H,I,r,h⟩ hn hd
variable{a b:akb}{ta tb:TE}{pos:Pos}
def PC (X:aif)(op:atD)(a b:akb)(t:TE):Prop:=∀(pins:List (aiM×Obj)) (s:aiK) (σ:St) (H:ag4) (Q:ahY),Inv X pins σ H s->t σ H Q->ai0 (ai7 X.prog X.w) X.A (alg a X.env) (fun v s₁=>ai0 (ai7 X.prog X.w) X.A (alg b X.env) (fun u s₂=>ai0 (ai7 X.prog X.w) X.A (ake op v u) (EP X pins σ Q) X.xe s₂) X.xe s₁) X.xe s
theorem Xi (b:akb){op:atD}(h:op≠.In)(h2:op≠.NotIn):am0 op b=false:=by
 have e1:(op==CmpOp.In)=false:=by cases op<;>first|rfl|exact ai8 rfl h
 have e2:(op==auX)=false:=by cases op<;>first|rfl|exact ai8 rfl h2
 cases b<;>simp[am0,e1,e2]
def afr (ta:TE):TE:=fun σ H Q=>ta σ H fun x H1=>Q (.bl (decide (x=.non))) H1
def aek (ta:TE):TE:=fun σ H Q=>ta σ H fun x H1=>Q (.bl (!decide (x=.non))) H1
theorem RelV.JN {x:V}{v:aiH}(r:RelV x v):(v==akr)=decide (x=.non):=by
 cases x with
 |non=>cases r;rfl
 |bl _=>cases r;rfl
 |int _=>obtain⟨t,rfl⟩:=r;rfl
 |str _=>obtain⟨t,rfl⟩:=r;rfl
 |Ob _=>obtain⟨t,rfl⟩:=r;rfl
 |flt _=>obtain⟨t,rfl⟩:=r;rfl
 |ref _=>cases r;rfl
 |ty _=>cases r;rfl
theorem Xj {j pos'}(ha:PE X a ta):PC X .Is a (.Constant .none j pos') (afr ta):=by intro pins s σ H Q I h;refine cC (ha pins s σ H _ I h) fun v s1 ⟨x,H1,I1,r1,q1⟩=>?_;exact ars (is_none_gen ⟨.bl _,H1,I1,by rw[r1.JN];rfl,q1⟩)
theorem Sg {j pos'}(ha:PE X a ta):PC X .IsNot a (.Constant .none j pos') (aek ta):=by intro pins s σ H Q I h;refine cC (ha pins s σ H _ I h) fun v s1 ⟨x,H1,I1,r1,q1⟩=>?_;exact ars (isnot_none_gen ⟨.bl _,H1,I1,by rw[r1.JN];rfl,q1⟩)
def ah7 (t:TE):TT:=fun σ H Q=>t σ H fun x H1=>∃c,x=.bl c∧Q c H1
theorem wY {op:atD}{t:TE}(h:PC X op a b t)(h1:am0 op b=false:=by first|exact Xi _ (by decide) (by decide)|rfl):ah1 X (.Compare a [op] [b] pos) (ah7 t):=by intro pins s σ H Q I hw;refine aqA (cC (h pins s σ H _ I hw) fun v s1 h1=>cC h1 fun u s2 h2=>cC h2 fun c s3 ⟨x,H1,I1,r1,q1⟩=>?_) h1;obtain⟨d,rfl,q⟩:=q1;cases r1;exact aj8 ⟨H1,I1,q⟩
theorem fc {e:akb}{t:TE}(h:PE X e t)(he:∀whole,atA e X.env whole=(do let v←whole;atu e.pos;aqg [v] (truthy v)):=by intro _;rfl):ah1 X e (ah7 t):=by intro pins s σ H Q I hw;refine isTrue_plain (cC (h pins s σ H _ I hw) fun v s1 ⟨x,H1,I1,r1,q1⟩=>?_) (he _);obtain⟨d,rfl,q⟩:=q1;cases r1;exact aj8 ⟨H1,I1,q⟩
variable{tA tB':TT}{rest:List akb}
def afs (t u:TT):TT:=fun σ H Q=>t σ H fun c H1=>if c=true then u σ H1 Q else Q false H1
def tOr (t u:TT):TT:=fun σ H Q=>t σ H fun c H1=>if c=true then Q true H1 else u σ H1 Q
def aft (t:TT):TT:=fun σ H Q=>t σ H fun c H1=>Q (!c) H1
theorem Hs (ha:ah1 X a tA):PW X (.BoolOp .And [a] pos) tA:=by
 intro wh pins s σ H Q I h;refine isTrue_and (cC (ha pins s σ H Q I h) fun c s1 e=>?_);cases c with
 |true=>exact isTrue_and_nil e
 |false=>exact e
theorem uz (ha:ah1 X a tA):PW X (.BoolOp .Or [a] pos) tA:=by
 intro wh pins s σ H Q I h;refine isTrue_or (cC (ha pins s σ H Q I h) fun c s1 e=>?_);cases c with
 |false=>exact isTrue_or_nil e
 |true=>exact e
theorem Og (ha:ah1 X a tA)(hb:PW X (.BoolOp .And (b::rest) pos) tB'):PW X (.BoolOp .And (a::b::rest) pos) (afs tA tB'):=by
 intro wh pins s σ H Q I h;refine isTrue_and (cC (ha pins s σ H _ I h) fun c s1 ⟨H1,I1,q1⟩=>?_);cases c with
 |true=>exact hb wh pins s1 σ H1 Q I1 q1
 |false=>exact⟨H1,I1,q1⟩
theorem yR (ha:ah1 X a tA)(hb:PW X (.BoolOp .Or (b::rest) pos) tB'):PW X (.BoolOp .Or (a::b::rest) pos) (tOr tA tB'):=by
 intro wh pins s σ H Q I h;refine isTrue_or (cC (ha pins s σ H _ I h) fun c s1 ⟨H1,I1,q1⟩=>?_);cases c with
 |true=>exact⟨H1,I1,q1⟩
 |false=>exact hb wh pins s1 σ H1 Q I1 q1
theorem f9 (ha:ah1 X a tA):ah1 X (.UnaryOp .Not a pos) (aft tA):=by intro pins s σ H Q I h;exact isTrue_not (ha pins s σ H (fun c H1=>Q (!c) H1) I h)
def ael (ta tb:TE):TE:=fun σ H Q=>ta σ H fun x H1=>∃c,x=.bl c∧if c=true then tb σ H1 Q else Q (.bl false) H1
def aem (ta:TE):TE:=fun σ H Q=>ta σ H fun x H1=>∃c,x=.bl c∧Q (.bl (!c)) H1
theorem uA {op}{t:TE}(h:PE X a t):PE X (.BoolOp op [a] pos) t:=fun pins s σ H Q I hw=>BoolOp_one (h pins s σ H Q I hw)
theorem wZ (ha:PE X a ta)(hb:PE X (.BoolOp .And (b::rest) pos) tb):PE X (.BoolOp .And (a::b::rest) pos) (ael ta tb):=by
 intro pins s σ H Q I h;refine BoolOp_and (cC (ha pins s σ H _ I h) fun v s1 ⟨x,H1,I1,r1,q1⟩=>?_);obtain⟨c,rfl,q1⟩:=q1;cases r1;refine aj8 ?_;cases c with
 |true=>exact hb pins s1 σ H1 Q I1 q1
 |false=>exact⟨.bl false,H1,I1,rfl,q1⟩
theorem acV (ha:PE X a ta):PE X (.UnaryOp .Not a pos) (aem ta):=by intro pins s σ H Q I h;refine UnaryOp_ (cC (ha pins s σ H _ I h) fun v s1 ⟨x,H1,I1,r1,q1⟩=>?_);obtain⟨c,rfl,q1⟩:=q1;cases r1;exact not_of (aj8 ⟨.bl (!c),H1,I1,rfl,q1⟩)
def tIf (t:TT)(ta tb:TE):TE:=fun σ H Q=>t σ H fun c H1=>if c=true then ta σ H1 Q else tb σ H1 Q
theorem dU {c:akb}(hc:ah1 X c tA)(ha:PE X a ta)(hb:PE X b tb):PE X (.IfExp c a b pos) (tIf tA ta tb):=by
 intro pins s σ H Q I h;refine wpAny_IfExp (cC (hc pins s σ H _ I h) fun d s1 ⟨H1,I1,q1⟩=>?_);cases d with
 |true=>exact ha pins s1 σ H1 Q I1 q1
 |false=>exact hb pins s1 σ H1 Q I1 q1
end
def bk (K:aiU)(H:ag4)(a:aiM)(xs:List V):Prop:=ahi H a (.lst xs)∨∃(o:Obj) (its:Array aiH) (n:Nat),K.lookup a=some o∧o.cls=.type "list"∧o.dict=none∧o.data=.seq its n∧its.size<=aiV∧Vals xs its.toList
def cD (K:aiU)(H:ag4)(a:aiM)(xs:List V):Prop:=ahi H a (.tup xs)∨∃(o:Obj) (its:Array aiH) (n:Nat),K.lookup a=some o∧o.cls=.type "tuple"∧o.data=.seq its n∧its.size<=aiV∧Vals xs its.toList
noncomputable def afu:aiH->Option V
 |.none=>some .non
 |.bool b=>some (.bl b)
 |.int i _=>some (.int i)
 |.str x _=>some (.str x)
 |.bytes b _=>some (.Ob b)
 |.float b _=>some (.flt b)
 |.ref a=>some (.ref a)
 |.type n=>some (.ty n)
 |_=>none
theorem RelV.abs {x:V}{u:aiH}(r:RelV x u):afu u=some x:=by
 cases x with
 |non=>cases r;rfl
 |bl _=>cases r;rfl
 |int _=>obtain⟨t,rfl⟩:=r;rfl
 |str _=>obtain⟨t,rfl⟩:=r;rfl
 |Ob _=>obtain⟨t,rfl⟩:=r;rfl
 |flt _=>obtain⟨t,rfl⟩:=r;rfl
 |ref _=>cases r;rfl
 |ty _=>cases r;rfl
theorem RelV.inj {x y:V}{u:aiH}(r:RelV x u)(q:RelV y u):x=y:=ajn (r.abs.symm.trans q.abs)
theorem Vals.inj:∀{xs ys:List V} {us:List aiH},Vals xs us->Vals ys us->xs=ys
 |_,_,_,.nil,.nil=>rfl
 |_,_,_,.cons r t,.cons r' t'=>by rw[r.inj r',Vals.inj t t']
section
variable{X:aif}{pins:List (aiM×Obj)}{σ:St}{H:ag4}{s:aiK}{a:aiM}{xs ys:List V}
theorem bk.of {K:aiU}(h:H a=some (.lst xs)):bk K H a xs:=.inl (.inl h)
theorem cD.of {K:aiU}(h:H a=some (.tup xs)):cD K H a xs:=.inl (.inl h)
theorem Inv.list (I:Inv X pins σ H s)(h:bk X.K H a xs):∃its:List aiH,Vals xs its∧PlainL s.heap a its.toArray∧xs.length<=aiV:=by
 rcases h with h|⟨o,its,n,hk,hc,hd,hs,hz,r⟩
 .obtain⟨z,its,n,r,e⟩:=h.ok I.hok;exact⟨its,r,⟨_,n,e,rfl,rfl,rfl⟩,z⟩
 .refine⟨its.toList,r,⟨o,n,I.wX a o hk,hc,hd,by simpa using hs⟩,?_⟩;have e:=r.length;simp only[ajR]at e;lia
theorem Inv.tuple (I:Inv X pins σ H s)(h:cD X.K H a xs):∃its:List aiH,Vals xs its∧as8 s.heap a its.toArray∧xs.length<=aiV:=by
 rcases h with h|⟨o,its,n,hk,hc,hs,hz,r⟩
 .obtain⟨z,its,r,p⟩:=h.ok I.hok;exact⟨its,r,p,z⟩
 .refine⟨its.toList,r,⟨o,I.wX a o hk,hc,n,by simpa using hs⟩,?_⟩;have e:=r.length;simp only[ajR]at e;lia
theorem Inv.JP (I:Inv X pins σ H s)(h:bk X.K H a xs)(h':bk X.K H a ys):xs=ys:=by
 obtain⟨its,r,⟨o,n,e,_,_,d⟩,_⟩:=I.list h;obtain⟨its',r',⟨o',n',e',_,_,d'⟩,_⟩:=I.list h';rw[e]at e';cases e';rw[d]at d';injection d' with d1 _;have:its=its':=by simpa using congrArg ar3 d1
 subst this;exact r.inj r'
theorem Inv.Gj (I:Inv X pins σ H s)(h:cD X.K H a xs)(h':cD X.K H a ys):xs=ys:=by
 obtain⟨its,r,⟨o,e,_,n,d⟩,_⟩:=I.tuple h;obtain⟨its',r',⟨o',e',_,n',d'⟩,_⟩:=I.tuple h';rw[e]at e';cases e';rw[d]at d';injection d' with d1 _;have:its=its':=by simpa using congrArg ar3 d1
 subst this;exact r.inj r'
end
section
variable{X:aif}{st:akM}{rest:List akM}{t u:TS}{e:akb}{te:TE}{pos:Pos}
def aen:TS:=fun D σ H=>D.nx σ H
def afv (t u:TS):TS:=fun D σ H=>t {D with nx:=u D} σ H
theorem aM:zU X [] aen:=fun _ _ σ H _ I h=>anI ⟨σ,H,I,h⟩
theorem ao (h1:PS X st t)(h2:zU X rest u):zU X (st::rest) (afv t u):=by
 intro pins s σ H D I h;refine asD (cC (h1 pins s σ H {D with nx:=u D} I h) fun f s1 q=>?_);cases f with
 |next=>obtain⟨σ',H',I',q⟩:=q;exact h2 pins s1 σ' H' D I' q
 |ret v=>exact q
 |brk=>exact q
 |cont=>exact q
theorem aq (h1:PS X st t):zU X [st] t:=by
 intro pins s σ H D I h;refine asD (cC (h1 pins s σ H D I h) fun f s1 q=>?_);cases f with
 |next=>exact anI q
 |ret v=>exact q
 |brk=>exact q
 |cont=>exact q
theorem Inv.quiet {pins:List (aiM×Obj)}{σ:St}{H:ag4}{s:aiK}(I:Inv X pins σ H s):interactive X.env=false:=by simp[interactive,I.ok.kind]
def aeo (te:TE):TS:=fun D σ H=>te σ H fun _ H1=>D.nx σ H1
theorem jj (he:PE X e te)(hs:arb e none pos.line X.env=pure false:=by rfl):PS X (.Expr e pos) (aeo te):=by intro pins s σ H D I h;exact wpAny_Expr_any (cC (he pins s σ H _ I h) fun v s1 ⟨x,H1,I1,r1,q1⟩=>⟨σ,H1,I1,q1⟩) I.quiet hs
def afw (te:TE):TS:=fun D σ H=>te σ H D.rt
theorem aF (he:PE X e te):PS X (.Return (some e) pos) (afw te):=by intro pins s σ H D I h;exact wpAny_Return_some (cC (he pins s σ H _ I h) fun v s1 ⟨x,H1,I1,r1,q1⟩=>⟨x,σ,H1,I1,r1,q1⟩)
def afx (c:TT)(t u:TS):TS:=fun D σ H=>c σ H fun b H1=>if b=true then t D σ H1 else u D σ H1
theorem bF {c:akb}{a b:List akM}{tc:TT}(hc:ah1 X c tc)(ha:zU X a t)(hb:zU X b u):PS X (.If c a b pos) (afx tc t u):=by
 intro pins s σ H D I h;refine wpAny_If (cC (hc pins s σ H _ I h) fun d s1 ⟨H1,I1,q1⟩=>?_);cases d with
 |true=>exact ha pins s1 σ H1 D I1 q1
 |false=>exact hb pins s1 σ H1 D I1 q1
end
abbrev ahU:=V->St->ag4->(St->ag4->Prop)->Prop
abbrev TGs:=List V->St->ag4->(St->ag4->Prop)->Prop
def PG (X:aif)(target:akb)(t:ahU):Prop:=∀(pins:List (aiM×Obj)) (s:aiK) (σ:St) (H:ag4) (v:V) (u:aiH) (Q:St->ag4->Prop),Inv X pins σ H s->RelV v u->t v σ H Q->ai0 (ai7 X.prog X.w) X.A (arJ target X.env u) (fun _ s'=>∃σ' H',Inv X pins σ' H' s'∧Q σ' H') X.xe s
def PGs (X:aif)(ts:List akb)(t:TGs):Prop:=∀(pins:List (aiM×Obj)) (s:aiK) (σ:St) (H:ag4) (vs:List V) (us:List aiH) (Q:St->ag4->Prop),Inv X pins σ H s->Vals vs us->t vs σ H Q->ai0 (ai7 X.prog X.w) X.A (assignInOrder ((anL ts X.env).map (·.2)) us) (fun _ s'=>∃σ' H',Inv X pins σ' H' s'∧Q σ' H') X.xe s
abbrev acW:=V->V->V->ag4->(ag4->Prop)->Prop
def aep (X:aif)(t:acW):Prop:=∀(pins:List (aiM×Obj)) (s:aiK) (σ:St) (H:ag4) (o i v:V) (ov iv u:aiH) (Q:ag4->Prop),Inv X pins σ H s->RelV o ov->RelV i iv->RelV v u->t o i v H Q->ai0 (ai7 X.prog X.w) X.A (setItem ov iv u) (fun _ s'=>∃H',Inv X pins σ H' s'∧Q H') X.xe s
abbrev TIp:=V->V->ag4->ahY->Prop
def PIp (X:aif)(op:atE)(t:TIp):Prop:=∀(pins:List (aiM×Obj)) (s:aiK) (σ:St) (H:ag4) (x y:V) (v u:aiH) (Q:ahY),Inv X pins σ H s->RelV x v->RelV y u->t x y H Q->ai0 (ai7 X.prog X.w) X.A (inplaceOp op v u) (EP X pins σ Q) X.xe s
section
variable{X:aif}{pos:Pos}
def Sh (i:Nat):ahU:=fun v σ H Q=>Q (σ.set i (some v)) H
theorem aH {i:Nat}{x:Str}(hN:X.N.Nodup)(hi:X.N[i]?=some x)(hx:Loc X.env.scope x)(hf:X.fn x=true∨X.env.scope.names.lookup x=some .local:=by first|exact .inl rfl|exact .inr rfl|assumption):PG X (.Name x pos) (Sh i):=by intro pins s σ H v u Q I r h;exact ar6 (vy I hN hi hx r (fun s' I'=>⟨_,H,I',h⟩) hf)
def afy:TGs:=fun vs σ H Q=>vs=[]∧Q σ H
def aeq (t:ahU)(u:TGs):TGs:=fun vs σ H Q=>∃v r,vs=v::r∧t v σ H fun σ' H'=>u r σ' H' Q
theorem iB:PGs X [] afy:=by intro pins s σ H vs us Q I r h;obtain⟨e,h⟩:=h;subst e;cases r;exact assignInOrder_nil ⟨σ,H,I,h⟩
theorem bw {e:akb}{es:List akb}{t:ahU}{u:TGs}(h1:PG X e t)(h2:PGs X es u)(hs:(anL (e::es) X.env).map (·.2)=arJ e X.env::(anL es X.env).map (·.2):=by rfl):PGs X (e::es) (aeq t u):=by
 intro pins s σ H vs us Q I r h;obtain⟨v,vr,e1,h⟩:=h;subst e1;cases r with
 |cons r rr=>rw[hs];refine assignInOrder_cons (cC (h1 pins s σ H _ _ _ I r h) fun _ s1 ⟨Ux,H1,I1,q1⟩=>?_);exact h2 pins s1 Ux H1 _ _ Q I1 rr q1
def aer (K:aiU)(n:Nat)(t:TGs):ahU:=fun v σ H Q=>∃a xs,v=.ref a∧cD K H a xs∧xs.length=n∧t xs σ H Q
theorem qx {es:List akb}{k:Nat}{t:TGs}{n:Nat}(hc:X.calm=true)(h:PGs X es t)(hn:(anL es X.env).length=n:=by rfl)(hst:(anL es X.env).findIdx? (·.1)=none:=by rfl):PG X (.Tuple es k pos) (aer X.K n t):=by intro pins s σ H v u Q I r hw;obtain⟨a,xs,e1,hq,hl,hw⟩:=hw;subst e1;cases r;obtain⟨its,rv,ht,hz⟩:=I.tuple hq;refine assign_Tuple_tuple (I.ok.hd hc) ht (by simp[hn,←hl,rv.length]) hst fun h' hx=>?_;have I1:Inv X pins σ H {s with heap:=h'}:=I.kept (t':=s.toks) fun b o e=>hx b o (ajw (aja e)) e;exact h pins _ σ H xs _ Q I1 (by simpa using rv) hw
def acX (te:TE)(g:ahU):TS:=fun D σ H=>te σ H fun x H1=>g x σ H1 D.nx
theorem Oh {tg e:akb}{te:TE}{g:ahU}(he:PE X e te)(hg:PG X tg g)(hs:swapsWithSole [tg] e pos.line X.env=pure false:=by rfl)(hw:swappedStores [tg] e X.env=pure none:=by rfl)(h1:(anL [tg] X.env).map (·.2)=[arJ tg X.env]:=by rfl):PS X (.Assign [tg] e pos) (acX te g):=by intro pins s σ H D I h;refine wpAny_Assign_stores (cC (he pins s σ H _ I h) fun v s1 ⟨x,H1,I1,r1,q1⟩=>?_) hs hw;rw[h1];exact cC (hg pins s1 σ H1 x v _ I1 r1 q1) fun _ s2 q=>q
theorem aR {i:Nat}{x:Str}{e:akb}{te:TE}{pos':Pos}(hN:X.N.Nodup)(hi:X.N[i]?=some x)(hx:Loc X.env.scope x)(he:PE X e te)(hs:arb e (some (.Name x pos')) pos.line X.env=pure false:=by rfl)(hf:X.fn x=true∨X.env.scope.names.lookup x=some .local:=by first|exact .inl rfl|exact .inr rfl|assumption):PS X (.Assign [.Name x pos'] e pos) (acX te (Sh i)):=by intro pins s σ H D I h;refine wpAny_Assign_Name (cC (he pins s σ H _ I h) fun v s1 ⟨y,H1,I1,r1,q1⟩=>?_) hs;exact vy I1 hN hi hx r1 (fun s2 agY=>⟨_,H1,agY,q1⟩) hf
def afz (i:Nat)(te:TE)(ti:TIp):TS:=fun D σ H=>∃x,σ[i]?=some (some x)∧te σ H fun y H1=>ti x y H1 fun z H2=>D.nx (σ.set i (some z)) H2
theorem acY {i:Nat}{x:Str}{e:akb}{te:TE}{op:atE}{ti:TIp}{pos':Pos}(hN:X.N.Nodup)(hi:X.N[i]?=some x)(hx:Loc X.env.scope x)(he:PE X e te)(ho:PIp X op ti)(hf:X.fn x=true∨X.env.scope.names.lookup x=some .local:=by first|exact .inl rfl|exact .inr rfl|assumption):PS X (.AugAssign (.Name x pos') op e pos) (afz i te ti):=by
 intro pins s σ H D I h;obtain⟨v,e1,h⟩:=h;obtain⟨m,hn,hl⟩:=I.loc;have vis:Vis X.env.scope x:=by rcases hx with k|k;exact .inl k;exact .inr (.inl k)
 obtain⟨u,r,l⟩:=hl i x v hi e1 vis;refine wpAny_AugAssign_Name ?_;have go:ai0 (ai7 X.prog X.w) X.A (alg e X.env) (fun w s₂=>ai0 (ai7 X.prog X.w) X.A (inplaceOp op u w) (fun r s₃=>ai0 (ai7 X.prog X.w) X.A (storeName X.env x r) (fun _=>SP X pins D .next) X.xe s₃) X.xe s₂) X.xe s:=by refine cC (he pins s σ H _ I h) fun w s1 ⟨y,H1,I1,r1,q1⟩=>?_;refine cC (ho pins s1 σ H1 v y u w _ I1 r r1 q1) fun z s2 ⟨zv,H2,agY,r2,q2⟩=>?_;exact vy agY hN hi hx r2 (fun s3 agy=>⟨_,H2,agy,q2⟩) hf
 rcases l with⟨hk,hm⟩|⟨hk,c,hc,hcell⟩
 .exact aqO I.ok.kind hk hn hm go
 .rcases hk with hk|hk
  .exact ark I.ok.kind hk hc hcell go
  .rcases hx with k|k
   .have:X.env.scope.names.lookup x=some .free:=hk;rw[k]at this;cases this
   .have:X.env.scope.names.lookup x=some .free:=hk;rw[k]at this;cases this
def aes (to ti te:TE)(aaU:V->V->ag4->ahY->Prop)(tip:TIp)(aaV:acW):TS:=fun D σ H=>to σ H fun o H1=>ti σ H1 fun i H2=>aaU o i H2 fun x ahq=>te σ ahq fun y aiv=>tip x y aiv fun z agU=>aaV o i z agU fun ag1=>D.nx σ ag1
def aet (X:aif)(t:V->V->ag4->ahY->Prop):Prop:=∀(pins:List (aiM×Obj)) (s:aiK) (σ:St) (H:ag4) (o i:V) (ov iv:aiH) (Q:ahY),Inv X pins σ H s->RelV o ov->RelV i iv->t o i H Q->ai0 (ai7 X.prog X.w) X.A (ar7 ov iv) (EP X pins σ Q) X.xe s
theorem Sq {o i e:akb}{to ti te:TE}{aaU:V->V->ag4->ahY->Prop}{tip:TIp}{aaV:acW}{op:atE}{tpos:Pos}(ho:PE X o to)(hi:PE X i ti)(hg:aet X aaU)(he:PE X e te)(hp:PIp X op tip)(hs:aep X aaV)
 (ha:∀ov iv new,augStore i ov iv new=(do aqg [new,ov,iv] (setItem ov iv new);release [new,ov,iv] [];pure .next):=by intros;rfl):PS X (.AugAssign (.Subscript o i tpos) op e pos) (aes to ti te aaU tip aaV):=by intro pins s σ H D I h;refine wpAny_AugAssign_SubscriptAny (cC (ho pins s σ H _ I h) fun ov s1 ⟨x1,H1,I1,r1,q1⟩=>?_) ha;refine cC (hi pins s1 σ H1 _ I1 q1) fun iv s2 ⟨x2,H2,agY,r2,q2⟩=>?_;refine cC (hg pins s2 σ H2 x1 x2 ov iv _ agY r1 r2 q2) fun old s3 ⟨x3,ahq,agy,r3,q3⟩=>?_;refine cC (he pins s3 σ ahq _ agy q3) fun v s4 ⟨x4,aiv,ag5,r4,q4⟩=>?_;refine cC (hp pins s4 σ aiv x3 x4 old v _ ag5 r3 r4 q4) fun new s5 ⟨x5,agU,ahg,r5,q5⟩=>?_;exact cC (hs pins s5 σ agU x1 x2 x5 ov iv new _ ahg r1 r2 r5 q5) fun _ aht ⟨ag1,ahZ,q6⟩=>⟨σ,ag1,ahZ,q6⟩
def ipI (f:Int->Int->Int):TIp:=fun x y H Q=>∃i j,x=.int i∧y=.int j∧Q (.int (f i j)) H
theorem Oi:PIp X .Add (ipI fun i j=>i+j):=by intro pins s σ H x y v u Q I r1 r2 h;obtain⟨i,j,e1,e2,q⟩:=h;subst e1;subst e2;obtain⟨t,rfl⟩:=r1;obtain⟨t',rfl⟩:=r2;exact iadd_int ⟨.int _,H,I.tok _,⟨_,rfl⟩,q⟩
end
section
variable{X:aif}{pos:Pos}
def acZ (c:TT)(tb:TS):TS:=fun D σ H=>∃W:Nat->St->ag4->Prop,(∃m,W m σ H)∧∀m σ H,W m σ H->c σ H fun b H1=>if b=true then∃N:St->ag4->Prop,(∀σ' H',N σ' H'->∃m',m'<m∧W m' σ' H')∧tb {D with nx:=N,ct:=N,aid:=D.nx} σ H1 else D.nx σ H1
theorem Xk {c:akb}{body:List akM}{tc:TT}{tb:TS}(hp:PassesOwn (ai7 X.prog X.w) X.A X.env X.xe)(hc:ah1 X c tc)(hb:zU X body tb):PS X (.While c body [] pos) (acZ tc tb):=by
 intro pins s σ H D I h;obtain⟨W,⟨m0,w0⟩,turn⟩:=h;refine wpAny_While (codeAny_whileLoop (fun n s'=>∃σ' H',Inv X pins σ' H' s'∧W n σ' H') ?_ m0 ⟨σ,H,I,w0⟩);rintro n s1 ⟨Ux,H1,I1,w1⟩;refine amk hp (cC (hc pins s1 Ux H1 _ I1 (turn n Ux H1 w1)) fun b s2 ⟨H2,agY,q2⟩=>?_);cases b with
 |true=>
  obtain⟨N,hN,q2⟩:=q2;rw[aiP rfl];refine amk hp (cC (hb pins s2 Ux H2 _ agY q2) fun f s3 q3=>?_);cases f with
  |next=>obtain⟨Xl,ahq,agy,n3⟩:=q3;obtain⟨m',hm,w3⟩:=hN Xl ahq n3;exact⟨m',hm,Xl,ahq,agy,w3⟩
  |cont=>obtain⟨Xl,ahq,agy,n3⟩:=q3;obtain⟨m',hm,w3⟩:=hN Xl ahq n3;exact⟨m',hm,Xl,ahq,agy,w3⟩
  |brk=>exact q3
  |ret v=>exact q3
 |false=>rw[aiL aiW];exact anI ⟨Ux,H2,agY,q2⟩
end
structure It where
 go:Nat->ag4->Prop
 yld:Nat->ag4->V->ag4->Prop
 stop:Nat->ag4->Prop
def zK (X:aif)(pins:List (aiM×Obj))(H:ag4)(b:aiM):Prop:=H b=none∧b≠X.env.locals∧b∉X.fs∧(b∈X.ex∨X.s₀.heap.objs.size<=b)∧(∀x c,X.env.cells.lookup x=some c->c≠b)∧∀p∈X.pn++pins,p.1≠b
theorem Inv.Xm {X:aif}{pins:List (aiM×Obj)}{σ:St}{H H':ag4}{s:aiK}{b:aiM}(I:Inv X pins σ H s)(hb:s.heap.objs.size<=b)(hn:H' b=none):zK X pins H' b:=by
 refine⟨hn,al4 (ajv I.lt hb),I.afp hb,.inr (ajt I.sz hb),fun x c e z=>?_,fun p hp z=>?_⟩
 .obtain⟨v,q⟩:=I.cell x c e;exact ai8 (ajv q.lt (by rw[z];exact hb)) (aky _)
 .exact ai8 (ajv (aja (I.pin p hp).1) (by rw[z];exact hb)) (aky _)
structure Turn (P:ajr)(w:ajI)(K:aiU)(tg:akb)(J:It)(fp:List aiM)(it:aiM)(tn:Nat->aj4->Prop):Prop where
 mem:it∈fp
 obj:∀i h,tn i h->∀b∈fp,∃o,h.get? b=some o∧∀v,o.data≠.cell v
 keep:∀i h h',tn i h->(∀b∈fp,∀o,h.get? b=some o->h'.get? b=some o)->tn i h'
 item:∀(X:aif),X.prog=P->X.w=w->X.K=K->X.calm=true->∀(i:Nat) (pins:List (aiM×Obj)) (s:aiK) (σ:St) (H:ag4) (E:aiH->aiK->Prop),Inv X pins σ H s->(∀b∈fp,zK X pins H b)->tn i s.heap->J.go i H->ai0 (ai7 P w) X.A (am5 (.ref it)) (fun r s1=>∃u,r=some u∧ai0 (ai7 P w) X.A (aoN tg (.ref it) u) (fun _ s2=>∃x H',Inv X pins σ H' s2∧RelV x u∧J.yld i H x H'∧tn (i+1) s2.heap∧∀b∈fp,H' b=none) E s1) E s
 done:∀(X:aif),X.prog=P->X.w=w->X.K=K->X.calm=true->∀(i:Nat) (pins:List (aiM×Obj)) (s:aiK) (σ:St) (H:ag4) (E:aiH->aiK->Prop),Inv X pins σ H s->(∀b∈fp,zK X pins H b)->tn i s.heap->J.stop i H->ai0 (ai7 P w) X.A (am5 (.ref it)) (fun r s1=>r=none∧Inv X pins σ H s1) E s
 self:∀(A:ajO) (i:Nat) (s:aiK) (Q:aiH->aiK->Prop) (E:aiH->aiK->Prop),tn i s.heap->Q (.ref it) s->ai0 (ai7 P w) A (asF (.ref it)) Q E s
abbrev TI:=St->ag4->(It->ag4->Prop)->Prop
def PIE (X:aif)(pins:List (aiM×Obj))(σ:St)(tg:akb)(R:It->ag4->Prop)(itv:aiH)(s2:aiK):Prop:=∃(it:aiM) (fp:List aiM) (tn:Nat->aj4->Prop) (J:It) (H':ag4),itv=.ref it∧Inv X pins σ H' s2∧Turn X.prog X.w X.K tg J fp it tn∧tn 0 s2.heap∧(∀b∈fp,zK X pins H' b)∧R J H'
def PI (X:aif)(tg iter:akb)(ahf:TI):Prop:=∀(pins:List (aiM×Obj)) (s:aiK) (σ:St) (H:ag4) (R:It->ag4->Prop),Inv X pins σ H s->ahf σ H R->ai0 (ai7 X.prog X.w) X.A (alg iter X.env) (fun v s1=>ai0 (ai7 X.prog X.w) X.A (asF v) (PIE X pins σ tg R) X.xe s1) X.xe s
theorem Ss {M : apU} {A : ajO} {E : aiH -> aiK -> Prop} {s : aiK} {tg : akb} {it : aiM} {u : aiH} {o : Obj} {n : String} {vs : Array aiH} {Q : Unit -> aiK -> Prop} (ho : s.heap.get? it = some o) (hc : o.cls = .type n) (hd : o.data = .fields vs)
    (hn : ["enumerate", "zip", "dict_itemiterator", "dict_reverseitemiterator", "odict_iterator", "itertools.zip_longest", "itertools.pairwise"].contains n = false) (hQ : Q () s) : ai0 M A (aoN tg (.ref it) u) Q E s := by
  unfold aoN
  cases tg <;> first
    | exact aiF hQ
    | (cases u <;> first
        | exact aiF hQ
        | (refine aiD (wpAny_load ho ?_)
           rw [hc, hd]
           show ai0 M A (if (["enumerate", "zip", "dict_itemiterator", "dict_reverseitemiterator", "odict_iterator", "itertools.zip_longest", "itertools.pairwise"].contains n && vs[0]? == some (anw _)) = true then _ else _) Q E s
           rw [aiL (by intro h; rw [hn, akO] at h; cases h)]
           exact aiF hQ))
noncomputable def Itl (K:aiU)(a:aiM):It:=⟨fun i H=>∃xs x,bk K H a xs∧xs[i]?=some x,fun i H x H'=>H'=H∧∀xs,bk K H a xs->xs[i]?=some x,fun i H=>∃xs,bk K H a xs∧xs.length<=i⟩
noncomputable def Itt (K:aiU)(a:aiM):It:=⟨fun i H=>∃xs x,cD K H a xs∧xs[i]?=some x,fun i H x H'=>H'=H∧∀xs,cD K H a xs->xs[i]?=some x,fun i H=>∃xs,cD K H a xs∧xs.length<=i⟩
noncomputable def Itr (lo:Int)(n:Nat):It:=⟨fun i _=>i<n,fun i H x H'=>H'=H∧x=.int (lo+i),fun i _=>n<=i⟩
theorem Uy {P:ajr}{w:ajI}{K:aiU}{tg:akb}(a it:aiM):Turn P w K tg (Itl K a) [it] it (fun i h=>h.IsListIter it a i) where
 mem:=by simp
 obj:=fun i h st b hb=>by
  have e:b=it:=by simpa using hb
  subst e;obtain⟨o,e,c,d⟩:=st;exact⟨o,e,fun v z=>by rw[d]at z;cases z⟩
 keep:=fun i h h' st k=>st.at fun o e=>k it (by simp) o e;item:=by intro X hP hw hK hc i pins s σ H E I hf st hg;subst hP hw hK;obtain⟨xs,x,hq,hx⟩:=hg;obtain⟨its,rv,p,hz⟩:=I.list hq;obtain⟨u,hu,agK⟩:=rv.get hx;obtain⟨f0,f1,f2,f3,f4,f5⟩:=hf it (by simp);refine wpAny_pyNext_list_item st p.isList (x:=u) (by simpa using hu) fun h' st' sb=>?_;have I1:Inv X pins σ H {s with heap:=h'}:=I.turned (t':=s.toks) (fun b o hb e=>(sb.2 b hb).trans e) f0 f1 f3 f4 f5;obtain⟨o,e,c,d⟩:=id st';exact⟨u,rfl,Ss (s:={s with heap:=h'}) e c d (by decide) ⟨x,H,I1,agK,⟨rfl,fun ys hy=>by rw[I.JP hy hq];exact hx⟩,st',fun b hb=>(hf b hb).1⟩⟩
 done:=by intro X hP hw hK hc i pins s σ H E I hf st hg;subst hP hw hK;obtain⟨xs,hq,hx⟩:=hg;obtain⟨its,rv,p,hz⟩:=I.list hq;obtain⟨f0,f1,f2,f3,f4,f5⟩:=hf it (by simp);have hl:=rv.length;exact wpAny_pyNext_list_end (I.ok.hd hc) st p.isList (by simp;lia) fun h' eb=>⟨rfl,I.turned (t':=s.toks) (fun b o hb e=>eb b o hb e) f0 f1 f3 f4 f5⟩
 self:=fun _ _ _ _ _ st h=>wpAny_pyIter_listiter st h
theorem Oj {P:ajr}{w:ajI}{K:aiU}{tg:akb}(a it:aiM):Turn P w K tg (Itt K a) [it] it (fun i h=>h.IsTupleIter it a i) where
 mem:=by simp
 obj:=fun i h st b hb=>by
  have e:b=it:=by simpa using hb
  subst e;obtain⟨o,e,c,d⟩:=st;exact⟨o,e,fun v z=>by rw[d]at z;cases z⟩
 keep:=fun i h h' st k=>st.at fun o e=>k it (by simp) o e;item:=by intro X hP hw hK hc i pins s σ H E I hf st hg;subst hP hw hK;obtain⟨xs,x,hq,hx⟩:=hg;obtain⟨its,rv,p,hz⟩:=I.tuple hq;obtain⟨u,hu,agK⟩:=rv.get hx;obtain⟨f0,f1,f2,f3,f4,f5⟩:=hf it (by simp);refine wpAny_pyNext_tuple_item st (show s.heap.IsTuple a its.toArray from p) (x:=u) (by simpa using hu) fun h' st' sb=>?_;have I1:Inv X pins σ H {s with heap:=h'}:=I.turned (t':=s.toks) (fun b o hb e=>(sb.2 b hb).trans e) f0 f1 f3 f4 f5;obtain⟨o,e,c,d⟩:=id st';exact⟨u,rfl,Ss (s:={s with heap:=h'}) e c d (by decide) ⟨x,H,I1,agK,⟨rfl,fun ys hy=>by rw[I.Gj hy hq];exact hx⟩,st',fun b hb=>(hf b hb).1⟩⟩
 done:=by intro X hP hw hK hc i pins s σ H E I hf st hg;subst hP hw hK;obtain⟨xs,hq,hx⟩:=hg;obtain⟨its,rv,p,hz⟩:=I.tuple hq;obtain⟨f0,f1,f2,f3,f4,f5⟩:=hf it (by simp);have hl:=rv.length;exact wpAny_pyNext_tuple_end (I.ok.hd hc) st (show s.heap.IsTuple a its.toArray from p) (by simp;lia) fun h' eb=>⟨rfl,I.turned (t':=s.toks) (fun b o hb e=>eb b o hb e) f0 f1 f3 f4 f5⟩
 self:=fun _ _ _ _ _ st h=>wpAny_pyIter_tupleiter st h
theorem Ol {P:ajr}{w:ajI}{K:aiU}{tg:akb}(it:aiM)(lo:Int)(n:Nat):Turn P w K tg (Itr lo n) [it] it (fun i h=>IsRangeIter h it (lo+(i:Nat)*1) ((n:Int)-(i:Nat)) 1) where
 mem:=by simp
 obj:=fun i h st b hb=>by
  have e:b=it:=by simpa using hb
  subst e;exact⟨_,st,fun v z=>by have z':auY _=Data.cell v:=z;cases z'⟩
 keep:=fun i h h' st k=>k it (by simp) _ st;item:=by intro X hP hw hK hc i pins s σ H E I hf st hg;subst hP hw hK;obtain⟨f0,f1,f2,f3,f4,f5⟩:=hf it (by simp);have W:=Walks.range (prog:=X.prog) (w:=X.w) (I.ok.hd hc) it lo 1 n;refine W.item i s _ _ hg st fun v h' tk hv st' kk=>?_;obtain⟨t,rfl⟩:=hv;have I1:Inv X pins σ H {s with heap:=h',toks:=tk}:=I.turned (fun b o hb e=>kk b o (by simpa using hb) e) f0 f1 f3 f4 f5;refine⟨_,rfl,Ss (s:={s with heap:=h',toks:=tk}) (n:="range_iterator") st' rfl rfl (by decide) ⟨.int (lo+i),H,I1,⟨t,?_⟩,⟨rfl,rfl⟩,st',fun b hb=>(hf b hb).1⟩⟩;rw[Int.mul_one]
 done:=by intro X hP hw hK hc i pins s σ H E I hf st hg;subst hP hw hK;obtain⟨f0,f1,f2,f3,f4,f5⟩:=hf it (by simp);exact wpAny_pyNext_range_end (I.ok.hd hc) st (by have:n<=i:=hg;lia) fun h' eb=>⟨rfl,I.turned (t':=s.toks) (fun b o hb e=>eb b o hb e) f0 f1 f3 f4 f5⟩
 self:=fun _ _ _ _ _ st h=>wpAny_pyIter_rangeiter st h
section
variable{X:aif}{tg:akb}
def aeu (K:aiU)(tl:TE):TI:=fun σ H R=>tl σ H fun x H1=>∃a,x=.ref a∧(∃xs,bk K H1 a xs)∧R (Itl K a) H1
def afA (K:aiU)(tl:TE):TI:=fun σ H R=>tl σ H fun x H1=>∃a,x=.ref a∧(∃xs,cD K H1 a xs)∧R (Itt K a) H1
theorem cT {l:akb}{tl:TE}(hl:PE X l tl):PI X tg l (aeu X.K tl):=by
 intro pins s σ H R I h;refine cC (hl pins s σ H _ I h) fun v s1 ⟨x,H1,I1,r1,q1⟩=>?_;obtain⟨a,e,⟨xs,hq⟩,q⟩:=q1;subst e;cases r1;obtain⟨its,rv,p,hz⟩:=I1.list hq;refine anV p.isList ?_;refine⟨s1.heap.objs.size,[s1.heap.objs.size],_,_,H1,rfl,I1.kept (t':=s1.toks) fun b o e=>aiS _ e,Uy a _,⟨_,ajg _ rfl,rfl,rfl⟩,fun b hb=>?_,q⟩;have e:b=s1.heap.objs.size:=by simpa using hb
 subst e;exact I1.Xm (aiN _) (I1.hok.fresh (aiN _))
theorem Ht {l:akb}{tl:TE}(hl:PE X l tl):PI X tg l (afA X.K tl):=by
 intro pins s σ H R I h;refine cC (hl pins s σ H _ I h) fun v s1 ⟨x,H1,I1,r1,q1⟩=>?_;obtain⟨a,e,⟨xs,hq⟩,q⟩:=q1;subst e;cases r1;obtain⟨its,rv,p,hz⟩:=I1.tuple hq;refine wpAny_pyIter_tuple (show s1.heap.IsTuple a its.toArray from p) ?_;refine⟨s1.heap.objs.size,[s1.heap.objs.size],_,_,H1,rfl,I1.kept (t':=s1.toks) fun b o e=>aiS _ e,Oj a _,⟨_,ajg _ rfl,rfl,rfl⟩,fun b hb=>?_,q⟩;have e:b=s1.heap.objs.size:=by simpa using hb
 subst e;exact I1.Xm (aiN _) (I1.hok.fresh (aiN _))
theorem JQ {pins:List (aiM×Obj)}{σ:St}{H:ag4}{s:aiK}{R:It->ag4->Prop}{E:aiH->aiK->Prop}{lo hi:Int}{t u v:Tok}{tk:Nat}(I:Inv X pins σ H s)(h1:-(2^62)<=lo)(h2:lo<2^62)(h3:-(2^62)<=hi)(h4:hi<2^62)(q:R (Itr lo (hi-lo).toNat) H):ai0 (ai7 X.prog X.w) X.A (asF (.ref s.heap.objs.size)) (PIE X pins σ tg R) E {s with heap:=s.heap.push {cls:=.type "range",data:=.fields #[.int lo t,.int hi u,.int 1 v]},toks:=tk}:=by
 refine wpAny_pyIter_range (IsRange.new ..) (small_one h1 h2 h3 h4) ?_;have I1:Inv X pins σ H {s with heap:=s.heap.push {cls:=.type "range",data:=.fields #[.int lo t,.int hi u,.int 1 v]},toks:=tk}:=I.kept fun b o e=>aiS _ e;refine⟨(s.heap.push {cls:=.type "range",data:=.fields #[.int lo t,.int hi u,.int 1 v]}).objs.size,[(s.heap.push {cls:=.type "range",data:=.fields #[.int lo t,.int hi u,.int 1 v]}).objs.size],_,_,H,rfl,I1.kept (t':=tk) fun b o e=>aiS _ e,Ol _ lo (hi-lo).toNat,?_,fun b hb=>?_,q⟩
 .have e1:lo+((0:Nat):Int)*1=lo:=by simp
  have e2:(((hi-lo).toNat:Nat):Int)-((0:Nat):Int)=auJ lo hi 1:=by rw[rangeSize_one];split<;>lia
  show IsRangeIter _ _ (lo+((0:Nat):Int)*1) ((((hi-lo).toNat:Nat):Int)-((0:Nat):Int)) 1;rw[e1,e2];exact ajg _ rfl
 .have e:b=(s.heap.push {cls:=.type "range",data:=.fields #[.int lo t,.int hi u,.int 1 v]}).objs.size:=by simpa using hb
  subst e;exact I1.Xm (aiN _) (I1.hok.fresh (aiN _))
def aev (ta:TA):TI:=fun σ H R=>ta σ H fun vs H1=>∃j:Int,vs=[.int j]∧-(2^62)<=j∧j<2^62∧R (Itr 0 j.toNat) H1
def aew (ta:TA):TI:=fun σ H R=>ta σ H fun vs H1=>∃i j:Int,vs=[.int i,.int j]∧(-(2^62)<=i∧i<2^62∧-(2^62)<=j∧j<2^62)∧R (Itr i (j-i).toNat) H1
theorem fj {a:akb}{ta:TA}{p pos:Pos}(hg:ahT X "range")(hm:X.mg "range"=none)(ha:PA X [a] ta)(hs:ajF [a] X.env=[(false,alg a X.env)]:=by rfl):PI X tg (.Call (.Name "range" p) [a] [] pos) (aev ta):=by
 intro pins s σ H R I h;refine Call_ (Ao I hg hm boot_range (am7 (cC (ha pos pins s σ H _ I h) fun us s1 ⟨vs,H1,I1,r1,q1⟩=>?_) hs rfl));obtain⟨j,e,q1,q2,q⟩:=q1;subst e;cases r1 with
 |cons r rr=>cases rr;obtain⟨t,rfl⟩:=r;exact call_range_1 (JQ I1 (by lia) (by lia) q1 q2 (by simpa using q))
theorem Uz {a b:akb}{ta:TA}{p pos:Pos}(hg:ahT X "range")(hm:X.mg "range"=none)(ha:PA X [a,b] ta)(hs:ajF [a,b] X.env=[(false,alg a X.env),(false,alg b X.env)]:=by rfl)(hs2:ajF [b] X.env=[(false,alg b X.env)]:=by rfl):PI X tg (.Call (.Name "range" p) [a,b] [] pos) (aew ta):=by
 intro pins s σ H R I h;refine Call_ (Ao I hg hm boot_range (am7 (cC (ha pos pins s σ H _ I h) fun us s1 ⟨vs,H1,I1,r1,q1⟩=>?_) (by rw[hs,hs2]) (by rw[hs2];rfl)));obtain⟨i,j,e,⟨q1,q2,q3,q4⟩,q⟩:=q1;subst e;cases r1 with
 |cons r rr=>
  cases rr with
  |cons r' rr=>cases rr;obtain⟨t,rfl⟩:=r;obtain⟨t',rfl⟩:=r';exact call_range_2 (JQ I1 q1 q2 q3 q4 q)
def afB (ahf:TI)(g:ahU)(tb:TS):TS:=fun D σ H=>ahf σ H fun J H1=>∃W:Nat->Nat->St->ag4->Prop,(∃m,W 0 m σ H1)∧∀i m σ H,W i m σ H->(J.stop i H∧D.nx σ H)∨(J.go i H∧∃N:St->ag4->Prop,(∀σ' H',N σ' H'->∃m',m'<m∧W (i+1) m' σ' H')∧∀x H',J.yld i H x H'->g x σ H' fun lK H2=>tb {D with nx:=N,ct:=N,aid:=D.nx} lK H2)
noncomputable def Aq (fp:List aiM)(h:aj4):List (aiM×Obj):=fp.filterMap fun b=>(h.get? b).map fun o=>(b,o)
theorem qy {fp:List aiM}{h:aj4}{b:aiM}{o:Obj}(hb:b∈fp)(e:h.get? b=some o):(b,o)∈Aq fp h:=ama.mpr ⟨b,hb,by rw[e];rfl⟩
theorem UG {fp:List aiM}{h:aj4}{p:aiM×Obj}(hp:p∈Aq fp h):p.1∈fp∧h.get? p.1=some p.2:=by
 obtain⟨b,hb,e⟩:=ama.mp hp;cases q:h.get? b with
 |none=>rw[q]at e;cases e
 |some o=>rw[q]at e;have e':(b,o)=p:=ajn e;subst e';exact⟨hb,q⟩
theorem Inv.pinned {pins:List (aiM×Obj)}{σ:St}{H:ag4}{s:aiK}{fp:List aiM}(I:Inv X pins σ H s)(hf:∀b∈fp,zK X pins H b)(ho:∀b∈fp,∃o,s.heap.get? b=some o∧∀v,o.data≠.cell v):Inv X (pins++Aq fp s.heap) σ H s:=I.Sd fun p hp=>(ai1.mp hp).elim (fun z=>I.pin p (ako _ z)) fun z=>by obtain⟨hb,e⟩:=UG z;obtain⟨f0,f1,f2,_⟩:=hf p.1 hb;obtain⟨o,e',d⟩:=ho p.1 hb;rw[e]at e';cases e';exact⟨e,f0,f1,f2,d⟩
theorem Inv.vz {pins pl:List (aiM×Obj)}{σ:St}{H:ag4}{s:aiK}(I:Inv X (pins++pl) σ H s):Inv X pins σ H s:=I.Sd fun p hp=>I.pin p (ako _ (anb _ hp))
theorem fO {iter:akb}{body:List akM}{ahf:TI}{g:ahU}{tb:TS}{pos:Pos}(hp:PassesOwn (ai7 X.prog X.w) X.A X.env X.xe)(hc:X.calm=true)(hi:PI X tg iter ahf)(hg:PG X tg g)(hb:zU X body tb)(hs:∀x,apy iter X.env x=pure x:=by intro _;rfl):PS X (.For tg iter body [] pos) (afB ahf g tb):=by
 intro pins s σ H D I h;refine wpAny_For (cC (hi pins s σ H _ I h) fun v s1 h1=>cC h1 fun itv s2 h2=>?_) hs;obtain⟨it,fp,tn,J,H2,e,agY,T,st2,f2,W,⟨m0,w0⟩,turn⟩:=h2;subst e;have stat:∀{H':ag4},(∀b∈fp,H' b=none)->∀b∈fp,zK X pins H' b:=fun hn b hb=>⟨hn b hb,(f2 b hb).2⟩;refine codeAny_forLoop_any (fun n s'=>∃i σ' H',Inv X pins σ' H' s'∧tn i s'.heap∧(∀b∈fp,H' b=none)∧W i n σ' H') ?_ m0 ⟨0,σ,H2,agY,st2,fun b hb=>(f2 b hb).1,w0⟩;rintro n s3 ⟨i,Xl,ahq,agy,st3,fr3,w3⟩;rcases turn i n Xl ahq w3 with⟨stop,qn⟩|⟨go,N,hN,step⟩
 .refine amk hp (cC (T.done X rfl rfl rfl hc i pins s3 Xl ahq X.xe agy (stat fr3) st3 stop) fun r s4 ⟨hr,ag5⟩=>?_);subst hr;exact anI ⟨Xl,ahq,ag5,qn⟩
 .refine amk hp (cC (T.item X rfl rfl rfl hc i pins s3 Xl ahq X.xe agy (stat fr3) st3 go) fun r s4 ⟨u,hr,h4⟩=>?_);subst hr;refine amk hp (cC h4 fun _ s5 ⟨x,agU,ahg,r5,y5,st5,fr5⟩=>?_);have I5':=ahg.pinned (stat fr5) (T.obj _ _ st5);refine amk hp (cC (hg _ s5 Xl agU x u _ I5' r5 (step x agU y5)) fun _ aht ⟨σ6,ag1,ahZ,q6⟩=>?_);refine amk hp (cC (hb _ aht σ6 ag1 _ ahZ q6) fun f agD ahK=>?_);have atF:∀{Xn:St} {ahC:ag4},Inv X (pins++Aq fp s5.heap) Xn ahC agD->N Xn ahC->∃m,m<n∧∃i σ' H',Inv X pins σ' H' agD∧tn i agD.heap∧(∀b∈fp,H' b=none)∧W i m σ' H':=fun{Xn ahC} ais ait=>by obtain⟨m',hm,agP⟩:=hN Xn ahC ait;refine⟨m',hm,i+1,Xn,ahC,ais.vz,T.keep _ _ _ st5 fun b hb o e=>(ais.pin (b,o) (ako _ (ako _ (qy hb e)))).1,fun b hb=>?_,agP⟩;obtain⟨o,e,d⟩:=T.obj _ _ st5 b hb;exact(ais.pin (b,o) (ako _ (ako _ (qy hb e)))).2.1
  cases f with
  |next=>obtain⟨Xn,ahC,ais,ait⟩:=ahK;exact atF ais ait
  |cont=>obtain⟨Xn,ahC,ais,ait⟩:=ahK;exact atF ais ait
  |brk=>obtain⟨Xn,ahC,ais,ahK⟩:=ahK;exact⟨Xn,ahC,ais.vz,ahK⟩
  |ret v=>obtain⟨x7,Xn,ahC,ais,r7,ahK⟩:=ahK;exact⟨x7,Xn,ahC,ais.vz,r7,ahK⟩
end
abbrev aho:=V->V->ag4->ahY->Prop
def qt (X:aif)(f:aiH->aiH->Sem aiH)(r:aho):Prop:=∀(pins:List (aiM×Obj)) (s:aiK) (σ:St) (H:ag4) (x y:V) (v u:aiH) (Q:ahY),Inv X pins σ H s->RelV x v->RelV y u->r x y H Q->ai0 (ai7 X.prog X.w) X.A (f v u) (EP X pins σ Q) X.xe s
def UnR (X:aif)(f:aiH->Sem aiH)(r:V->ag4->ahY->Prop):Prop:=∀(pins:List (aiM×Obj)) (s:aiK) (σ:St) (H:ag4) (x:V) (v:aiH) (Q:ahY),Inv X pins σ H s->RelV x v->r x H Q->ai0 (ai7 X.prog X.w) X.A (f v) (EP X pins σ Q) X.xe s
def jb (X:aif)(f:aiH)(r:List V->ag4->ahY->Prop):Prop:=∀(pins:List (aiM×Obj)) (s:aiK) (σ:St) (H:ag4) (xs:List V) (us:List aiH) (Q:ahY),Inv X pins σ H s->Vals xs us->r xs H Q->ai0 (ai7 X.prog X.w) X.A (call f us) (EP X pins σ Q) X.xe s
def afC (X:aif)(r:V->ag4->(Bool->ag4->Prop)->Prop):Prop:=∀(pins:List (aiM×Obj)) (s:aiK) (σ:St) (H:ag4) (x:V) (v:aiH) (Q:Bool->ag4->Prop),Inv X pins σ H s->RelV x v->r x H Q->ai0 (ai7 X.prog X.w) X.A (truthy v) (ain X pins σ Q) X.xe s
def tOp (r:aho)(ta tb:TE):TE:=fun σ H Q=>ta σ H fun x H1=>tb σ H1 fun y H2=>r x y H2 Q
def tUn (r:V->ag4->ahY->Prop)(ta:TE):TE:=fun σ H Q=>ta σ H fun x H1=>r x H1 Q
def aib (C:Int->Int->Prop)(g:Int->Int->V):aho:=fun x y H Q=>∃i j,x=.int i∧y=.int j∧C i j∧Q (g i j) H
def rI0 (g:Int->Int->V):aho:=fun x y H Q=>∃i j,x=.int i∧y=.int j∧Q (g i j) H
def ag9 (g:Int->V):V->ag4->ahY->Prop:=fun x H Q=>∃i,x=.int i∧Q (g i) H
section
variable{X:aif}{a b c:akb}{ta tb tc:TE}{pos:Pos}
theorem ac0 (ha:PE X a ta)(hb:PE X b tb){pins:List (aiM×Obj)}{s:aiK}{σ:St}{H:ag4}{R:V->V->ag4->Prop}(I:Inv X pins σ H s)(h:ta σ H fun x H1=>tb σ H1 fun y H2=>R x y H2){Q:aiH->aiK->Prop}{f:aiH->aiH->Sem aiH}(hf:∀v u s2 x y H2,Inv X pins σ H2 s2->RelV x v->RelV y u->R x y H2->ai0 (ai7 X.prog X.w) X.A (f v u) Q X.xe s2):ai0 (ai7 X.prog X.w) X.A (alg a X.env) (fun v s₁=>ai0 (ai7 X.prog X.w) X.A (alg b X.env) (fun u s₂=>ai0 (ai7 X.prog X.w) X.A (f v u) Q X.xe s₂) X.xe s₁) X.xe s:=by refine cC (ha pins s σ H _ I h) fun v s1 ⟨x,H1,I1,r1,q1⟩=>?_;refine cC (hb pins s1 σ H1 _ I1 q1) fun u s2 ⟨y,H2,agY,r2,q2⟩=>?_;exact hf v u s2 x y H2 agY r1 r2 q2
theorem aG {op:atE}{r:aho}(ho:qt X (amm op) r)(ha:PE X a ta)(hb:PE X b tb):PE X (.BinOp a op b pos) (tOp r ta tb):=by intro pins s σ H Q I h;exact wpAny_BinOp (ac0 ha hb I h fun v u s2 x y H2 agY rx ry q=>ho pins s2 σ H2 x y v u Q agY rx ry q)
theorem rM {op:UnaryOp}{r:V->ag4->ahY->Prop}(ho:UnR X (unaryOp op) r)(ha:PE X a ta):PE X (.UnaryOp op a pos) (tUn r ta):=by intro pins s σ H Q I h;exact UnaryOp_ (cC (ha pins s σ H _ I h) fun v s1 ⟨x,H1,I1,r1,q1⟩=>ho pins s1 σ H1 x v Q I1 r1 q1)
theorem opI {f:aiH->aiH->Sem aiH}{C:Int->Int->Prop}{g:Int->Int->Int}(arK:∀(i j:Int) (t u:Tok) (s:aiK) (Q:aiH->aiK->Prop) (E:aiH->aiK->Prop),C i j->Q (.int (g i j) s.toks) {s with toks:=s.toks+1}->ai0 (ai7 X.prog X.w) X.A (f (.int i t) (.int j u)) Q E s):qt X f (aib C fun i j=>.int (g i j)):=by intro pins s σ H x y v u Q I rx ry h;obtain⟨i,j,rfl,rfl,hc,q⟩:=h;obtain⟨t,rfl⟩:=rx;obtain⟨t',rfl⟩:=ry;exact arK i j t t' s _ _ hc ⟨.int (g i j),H,I.tok _,⟨_,rfl⟩,q⟩
theorem aaW {f:aiH->aiH->Sem aiH}{g:Int->Int->Int}(arK:∀(i j:Int) (t u:Tok) (s:aiK) (Q:aiH->aiK->Prop) (E:aiH->aiK->Prop),Q (.int (g i j) s.toks) {s with toks:=s.toks+1}->ai0 (ai7 X.prog X.w) X.A (f (.int i t) (.int j u)) Q E s):qt X f (rI0 fun i j=>.int (g i j)):=by intro pins s σ H x y v u Q I rx ry h;obtain⟨i,j,rfl,rfl,q⟩:=h;obtain⟨t,rfl⟩:=rx;obtain⟨t',rfl⟩:=ry;exact arK i j t t' s _ _ ⟨.int (g i j),H,I.tok _,⟨_,rfl⟩,q⟩
theorem aaX {f:aiH->aiH->Sem aiH}{g:Int->Int->Bool}(arK:∀(i j:Int) (t u:Tok) (s:aiK) (Q:aiH->aiK->Prop) (E:aiH->aiK->Prop),Q (.bool (g i j)) s->ai0 (ai7 X.prog X.w) X.A (f (.int i t) (.int j u)) Q E s):qt X f (rI0 fun i j=>.bl (g i j)):=by intro pins s σ H x y v u Q I rx ry h;obtain⟨i,j,rfl,rfl,q⟩:=h;obtain⟨t,rfl⟩:=rx;obtain⟨t',rfl⟩:=ry;exact arK i j t t' s _ _ ⟨.bl (g i j),H,I,rfl,q⟩
def afD (i j:Int):Prop:=0<j∧j<1073741824
def afE (i j:Int):Prop:=0<=j∧j<=1000000∧i.natAbs<2^64
def ac1 (i j:Int):Prop:=(-(2^64)<i∧i<2^64)∨(-(2^64)<j∧j<2^64)
theorem ac1.ok {i j:Int}(h:ac1 i j):IntMulOk i j:=by
 rcases h with⟨h1,h2⟩|⟨h1,h2⟩
 .exact .of_left (intBits_le_64 h1 h2)
 .exact .of_right (intBits_le_64 h1 h2)
theorem Om (k:Nat):(0:Int)<=2^k:=by rw[two_pow_cast];exact anM _
theorem eQ:qt X (amm .Add) (rI0 fun i j=>.int (i+j)):=aaW fun _ _ _ _ _ _ _ q=>add_int q
theorem gZ:qt X (amm .Sub) (rI0 fun i j=>.int (i-j)):=aaW fun _ _ _ _ _ _ _ q=>sub_int q
theorem Ar:qt X (amm .Mult) (aib ac1 fun i j=>.int (i*j)):=opI fun _ _ _ _ _ _ _ hc q=>mul_int q hc.ok
theorem jk:qt X (amm .FloorDiv) (aib afD fun i j=>.int (i/j)):=opI fun i j _ _ _ _ _ hc q=>by have h1:(0:Int)<j:=hc.1;have h2:j<1073741824:=hc.2;exact floordiv_int (by omega) (by rw[ao6 i (by omega)];exact q) (.inl (PyProof.noPylong_small (by omega)))
theorem fu:qt X (amm .Mod) (aib (fun _ j=>0<j) fun i j=>.int (i %j)):=opI fun i j _ _ _ _ _ hc q=>by have h1:(0:Int)<j:=hc;exact mod_int' (by lia) (by rw[Int.fmod_eq_emod_of_nonneg i (by lia)];exact q)
theorem uB:qt X (amm .LShift) (aib afE fun i j=>.int (i*2^j.toNat)):=opI fun _ _ _ _ _ _ _ hc q=>lshift_int_small hc.1 hc.2.1 hc.2.2 q
theorem ac2:qt X (amm .RShift) (aib (fun _ j=>0<=j) fun i j=>.int (i/2^j.toNat)):=opI fun i j _ _ _ _ _ hc q=>rshift_int hc (by rw[ao6 i (Om _)];exact q)
theorem Hu:qt X (amm .BitAnd) (rI0 fun i j=>.int (alP i j)):=aaW fun _ _ _ _ _ _ _ q=>and_int q
theorem Su:qt X (amm .BitOr) (rI0 fun i j=>.int (ams i j)):=aaW fun _ _ _ _ _ _ _ q=>or_int q
theorem unI {f:aiH->Sem aiH}{g:Int->Int}(arK:∀(i:Int) (t:Tok) (s:aiK) (Q:aiH->aiK->Prop) (E:aiH->aiK->Prop),Q (.int (g i) s.toks) {s with toks:=s.toks+1}->ai0 (ai7 X.prog X.w) X.A (f (.int i t)) Q E s):UnR X f (ag9 fun i=>.int (g i)):=by intro pins s σ H x v Q I rx h;obtain⟨i,rfl,q⟩:=h;obtain⟨t,rfl⟩:=rx;exact arK i t s _ _ ⟨.int (g i),H,I.tok _,⟨_,rfl⟩,q⟩
theorem qz:UnR X (unaryOp .USub) (ag9 fun i=>.int (-i)):=unI fun _ _ _ _ _ q=>neg_int q
theorem Xo:UnR X (unaryOp .Invert) (ag9 fun i=>.int (anW i)):=unI fun _ _ _ _ _ q=>invert_int q
end
noncomputable def aex:V->V->Bool
 |.non,.non=>true|.non,.int _=>true|.int _,.non=>true|.non,.bl _=>true|.bl _,.non=>true|.non,.str _=>true|.str _,.non=>true
 |.int _,.int _=>true|.bl _,.bl _=>true|.str _,.str _=>true|.Ob _,.Ob _=>true
 |.int _,.str _=>true|.str _,.int _=>true|.bl _,.str _=>true|.str _,.bl _=>true
 |_,_=>false
def rEq:aho:=fun x y H Q=>aex x y=true∧Q (.bl (decide (x=y))) H
def rNe:aho:=fun x y H Q=>aex x y=true∧Q (.bl (!decide (x=y))) H
theorem Sv {i j:Int}:decide (V.int i=V.int j)=(i==j):=by rw[ajD];simp
theorem Oo {i j:Bool}:decide (V.bl i=V.bl j)=(i==j):=by rw[ajD];simp
theorem Sw {i j:Str}:decide (V.str i=V.str j)=(i==j):=by rw[ajD];simp
theorem Sx {i j:Array UInt8}:decide (V.Ob i=V.Ob j)=(i.toList==j.toList):=by rw[ajD];cases i;cases j;simp
section
variable{X:aif}{a b c:akb}{ta tb tc:TE}{pos:Pos}
theorem cB {pins:List (aiM×Obj)}{σ:St}{H:ag4}{s:aiK}{Q:ahY}{k k':Bool}(I:Inv X pins σ H s)(q:Q (.bl k) H)(e:k=k'):EP X pins σ Q (.bool k') s:=by subst e;exact⟨.bl k,H,I,rfl,q⟩
theorem dW:qt X (ake .Eq) rEq:=by
 intro pins s σ H x y v u Q I rx ry h;obtain⟨hs,q⟩:=h;cases x with
 |non=>
  cases rx;cases y with
  |non=>cases ry;exact aud (cB I q (by simp))
  |bl j=>cases ry;exact aue (cB I q (by simp))
  |int j=>obtain⟨t',rfl⟩:=ry;exact aus (cB I q (by simp))
  |str j=>obtain⟨t',rfl⟩:=ry;exact aut (cB I q (by simp))
  |_=>exact ai8 (show false=true from hs) aiW
 |bl i=>
  cases rx;cases y with
  |non=>cases ry;exact auf (cB I q (by simp))
  |bl j=>cases ry;exact eq_bool (cB I q Oo)
  |str j=>obtain⟨t',rfl⟩:=ry;exact auh (cB I q (by simp))
  |_=>exact ai8 (show false=true from hs) aiW
 |int i=>
  obtain⟨t,rfl⟩:=rx;cases y with
  |non=>cases ry;exact auu (cB I q (by simp))
  |int j=>obtain⟨t',rfl⟩:=ry;exact eq_int (cB I q Sv)
  |str j=>obtain⟨t',rfl⟩:=ry;exact auv (cB I q (by simp))
  |_=>exact ai8 (show false=true from hs) aiW
 |str i=>
  obtain⟨t,rfl⟩:=rx;cases y with
  |non=>cases ry;exact auw (cB I q (by simp))
  |bl j=>cases ry;exact aui (cB I q (by simp))
  |int j=>obtain⟨t',rfl⟩:=ry;exact auy (cB I q (by simp))
  |str j=>obtain⟨t',rfl⟩:=ry;exact eq_str (cB I q Sw)
  |_=>exact ai8 (show false=true from hs) aiW
 |Ob i=>
  obtain⟨t,rfl⟩:=rx;cases y with
  |Ob j=>obtain⟨t',rfl⟩:=ry;exact PySem.W.eq_bytes (cB I q Sx)
  |_=>exact ai8 (show false=true from hs) aiW
 |_=>cases y<;>exact ai8 (show false=true from hs) aiW
theorem vA:qt X (ake .NotEq) rNe:=by
 intro pins s σ H x y v u Q I rx ry h;obtain⟨hs,q⟩:=h;cases x with
 |non=>
  cases rx;cases y with
  |non=>cases ry;exact auj (cB I q (by simp))
  |bl j=>cases ry;exact auk (cB I q (by simp))
  |int j=>obtain⟨t',rfl⟩:=ry;exact auz (cB I q (by simp))
  |str j=>obtain⟨t',rfl⟩:=ry;exact auA (cB I q (by simp))
  |_=>exact ai8 (show false=true from hs) aiW
 |bl i=>
  cases rx;cases y with
  |non=>cases ry;exact aul (cB I q (by simp))
  |bl j=>cases ry;exact ne_bool (cB I q (congrArg not Oo))
  |str j=>obtain⟨t',rfl⟩:=ry;exact aum (cB I q (by simp))
  |_=>exact ai8 (show false=true from hs) aiW
 |int i=>
  obtain⟨t,rfl⟩:=rx;cases y with
  |non=>cases ry;exact auB (cB I q (by simp))
  |int j=>obtain⟨t',rfl⟩:=ry;exact ne_int (cB I q (congrArg not Sv))
  |str j=>obtain⟨t',rfl⟩:=ry;exact auC (cB I q (by simp))
  |_=>exact ai8 (show false=true from hs) aiW
 |str i=>
  obtain⟨t,rfl⟩:=rx;cases y with
  |non=>cases ry;exact auD (cB I q (by simp))
  |bl j=>cases ry;exact aun (cB I q (by simp))
  |int j=>obtain⟨t',rfl⟩:=ry;exact auE (cB I q (by simp))
  |str j=>obtain⟨t',rfl⟩:=ry;exact ne_str (cB I q (congrArg not Sw))
  |_=>exact ai8 (show false=true from hs) aiW
 |Ob i=>
  obtain⟨t,rfl⟩:=rx;cases y with
  |Ob j=>obtain⟨t',rfl⟩:=ry;exact PySem.W.ne_bytes (cB I q (congrArg not Sx))
  |_=>exact ai8 (show false=true from hs) aiW
 |_=>cases y<;>exact ai8 (show false=true from hs) aiW
theorem Av:qt X (ake .Lt) (rI0 fun i j=>.bl (decide (i<j))):=aaX fun _ _ _ _ _ _ _ q=>auK q
theorem Aw:qt X (ake .LtE) (rI0 fun i j=>.bl (decide (i<=j))):=aaX fun _ _ _ _ _ _ _ q=>auL q
theorem Sy:qt X (ake .Gt) (rI0 fun i j=>.bl (decide (j<i))):=aaX fun _ _ _ _ _ _ _ q=>gt_int q
theorem acA:qt X (ake .GtE) (rI0 fun i j=>.bl (decide (j<=i))):=aaX fun _ _ _ _ _ _ _ q=>ge_int q
theorem aQ (b:akb){op:atD}(h:op≠.In:=by decide)(h2:op≠.NotIn:=by decide):am0 op b=false:=by
 have e1:(op==CmpOp.In)=false:=by cases op<;>first|rfl|exact ai8 rfl h
 have e2:(op==auX)=false:=by cases op<;>first|rfl|exact ai8 rfl h2
 cases b<;>simp[am0,e1,e2]
theorem mL {op:atD}{r:aho}(ho:qt X (ake op) r)(ha:PE X a ta)(hb:PE X b tb)(hm:am0 op b=false):PE X (.Compare a [op] [b] pos) (tOp r ta tb):=by intro pins s σ H Q I h;exact wpAny_Compare1 (ac0 ha hb I h fun v u s2 x y H2 agY rx ry q=>ho pins s2 σ H2 x y v u Q agY rx ry q) hm
def acB (t:TE):TT:=fun σ H Q=>t σ H fun x H'=>∃k,x=.bl k∧Q k H'
theorem aJ {op:atD}{r:aho}(ho:qt X (ake op) r)(ha:PE X a ta)(hb:PE X b tb)(hm:am0 op b=false):ah1 X (.Compare a [op] [b] pos) (acB (tOp r ta tb)):=by intro pins s σ H Q I h;refine aqA (cC (ha pins s σ H _ I h) fun v s1 ⟨x,H1,I1,r1,q1⟩=>cC (hb pins s1 σ H1 _ I1 q1) fun u s2 ⟨y,H2,agY,r2,q2⟩=>cC (ho pins s2 σ H2 x y v u _ agY r1 r2 q2) fun c s3 ⟨z,ahq,agy,r3,k,e,q3⟩=>?_) hm;subst e;cases r3;exact aj8 ⟨ahq,agy,q3⟩
def Xp (r r':aho)(ta tb tc:TE):TE:=fun σ H Q=>ta σ H fun x H1=>tb σ H1 fun y H2=>r x y H2 fun z ahq=>∃k,z=.bl k∧(if k=true then tc σ ahq fun w' aiv=>r' y w' aiv Q else Q (.bl false) ahq)
theorem Ax {op op':atD}{r r':aho}(ho:qt X (ake op) r)(ho':qt X (ake op') r')(ha:PE X a ta)(hb:PE X b tb)(hc:PE X c tc)(hm:lastMarks [op,op'] [b,c]=false:=by with_unfolding_all rfl):PE X (.Compare a [op,op'] [b,c] pos) (Xp r r' ta tb tc):=by
 intro pins s σ H Q I h;refine Compare_chain (cC (ha pins s σ H _ I h) fun v s1 ⟨x,H1,I1,r1,q1⟩=>chain_link (cC (hb pins s1 σ H1 _ I1 q1) fun u s2 ⟨y,H2,agY,r2,q2⟩=>cC (ho pins s2 σ H2 x y v u _ agY r1 r2 q2) fun d s3 ⟨z,ahq,agy,r3,k,e,q3⟩=>?_)) hm;subst e;cases r3;refine aj8 ?_;cases k with
 |false=>exact ite_ff ⟨.bl false,ahq,agy,rfl,q3⟩
 |true=>exact ite_tt (chain_last (cC (hc pins s3 σ ahq _ agy q3) fun w' s4 ⟨z',aiv,ag5,r4,q4⟩=>ho' pins s4 σ aiv y z' u w' Q ag5 r2 r4 q4))
theorem Xq {op op':atD}{r r':aho}(ho:qt X (ake op) r)(ho':qt X (ake op') r')(ha:PE X a ta)(hb:PE X b tb)(hc:PE X c tc)(hm:lastMarks [op,op'] [b,c]=false:=by with_unfolding_all rfl):ah1 X (.Compare a [op,op'] [b,c] pos) (acB (Xp r r' ta tb tc)):=by
 intro pins s σ H Q I h;refine isTrue_chain (cC (ha pins s σ H _ I h) fun v s1 ⟨x,H1,I1,r1,q1⟩=>test_link (cC (hb pins s1 σ H1 _ I1 q1) fun u s2 ⟨y,H2,agY,r2,q2⟩=>cC (ho pins s2 σ H2 x y v u _ agY r1 r2 q2) fun d s3 ⟨z,ahq,agy,r3,k,e,q3⟩=>?_)) hm;subst e;cases r3;refine aj8 ?_;cases k with
 |false=>obtain⟨k',e',q'⟩:=q3;cases e';exact ite_ff ⟨ahq,agy,q'⟩
 |true=>refine ite_tt (test_last (cC (hc pins s3 σ ahq _ agy q3) fun w' s4 ⟨z',aiv,ag5,r4,q4⟩=>cC (ho' pins s4 σ aiv y z' u w' _ ag5 r2 r4 q4) fun d' s5 ⟨z2,agU,ahg,r5,k2,e2,q5⟩=>?_));subst e2;cases r5;exact aj8 ⟨agU,ahg,q5⟩
def aaY (K:aiU)(x:V)(H:ag4)(k:Bool):Prop:=
 match x with
 |.non=>k=false
 |.bl b=>k=b
 |.int i=>k=(i !=0)
 |.str y=>y.length<=aiV∧k=((y.length:Int) !=0)
 |.Ob y=>y.size<=aiV∧k=((y.size:Int) !=0)
 |.ref p=>(∃xs,bk K H p xs∧k=!xs.isEmpty)∨(∃xs,cD K H p xs∧k=!xs.isEmpty)∨∃kvs,H p=some (.ah2 kvs)∧k=!kvs.isEmpty
 |_=>False
theorem Oq {κ:Type}{kvs:List (κ×V)}{vs:List (κ×aiH)}(r:KV kvs vs):(!vs.isEmpty)=!kvs.isEmpty:=by cases r<;>rfl
theorem Ay {xs:List V}{its:List aiH}(r:Vals xs its):(!its.toArray.isEmpty)=!xs.isEmpty:=by cases r<;>simp
theorem Az:(aiV:Nat)<2^63:=by rw[aje];decide
theorem Xr:afC X (fun x H Q=>∃k,aaY X.K x H k∧Q k H):=by
 intro pins s σ H x v Q I rx h;obtain⟨k,e,q⟩:=h;have hl:=Az;have hs:aiV=16777216:=aje;cases x with
 |non=>cases rx;have e':k=false:=e;subst e';exact truthy_none ⟨H,I,q⟩
 |bl b=>cases rx;have e':k=b:=e;subst e';exact aj8 ⟨H,I,q⟩
 |int i=>obtain⟨t,rfl⟩:=rx;have e':k=(i !=0):=e;subst e';exact PySem.P.truthy_int ⟨H,I,q⟩
 |str y=>obtain⟨t,rfl⟩:=rx;obtain⟨hy,e'⟩:y.length<=aiV∧k=((y.length:Int) !=0):=e;subst e';exact PySem.P.truthy_str (by lia) ⟨H,I.tok _,q⟩
 |Ob y=>obtain⟨t,rfl⟩:=rx;obtain⟨hy,e'⟩:y.size<=aiV∧k=((y.size:Int) !=0):=e;subst e';exact PySem.W.truthy_bytes (by lia) ⟨H,I.tok _,q⟩
 |ref p=>
  cases rx;have e':(∃xs,bk X.K H p xs∧k=!xs.isEmpty)∨(∃xs,cD X.K H p xs∧k=!xs.isEmpty)∨∃kvs,H p=some (.ah2 kvs)∧k=!kvs.isEmpty:=e;rcases e' with⟨xs,hx,e'⟩|⟨xs,hx,e'⟩|⟨kvs,hx,e'⟩
  .subst e';obtain⟨its,r,pl,hz⟩:=I.list hx;have hlen:=r.length;exact wpAny_truthy_list pl.isList (by simp only[ajk];lia) ⟨H,I.tok _,by rw[Ay r];exact q⟩
  .subst e';obtain⟨its,r,pl,hz⟩:=I.tuple hx;have hlen:=r.length;exact truthy_tuple pl (by simp only[ajk];lia) ⟨H,I.tok _,by rw[Ay r];exact q⟩
  .subst e';obtain⟨hz,hS,vs,r,m⟩:kvs.length<=aiV∧(p==ak3)=false∧∃vs,KV kvs vs∧s.heap.DictOf (mK X.prog X.w) p vs:=I.hok p _ hx;have hlen:kvs.length=vs.length:=al8 r;exact wpAny_truthy_dict hS m (by lia) ⟨H,I.tok _,by rw[Oq r];exact q⟩
 |_=>exact(show False from e).elim
theorem Ba (ha:PE X a ta)(he:∀whole,atA a X.env whole=(do let v←whole;atu a.pos;aqg [v] (truthy v))):
 ah1 X a (fun σ H Q=>ta σ H fun x H'=>∃k,aaY X.K x H' k∧Q k H'):=by intro pins s σ H Q I h;exact isTrue_plain (cC (ha pins s σ H _ I h) fun v s1 ⟨x,H1,I1,r1,q1⟩=>Xr pins s1 σ H1 x v Q I1 r1 q1) (he _)
theorem vals1 {x:V}{us:List aiH}(r:Vals [x] us):∃u,us=[u]∧RelV x u:=by
 cases r with
 |cons r1 r2=>cases r2;exact⟨_,rfl,r1⟩
theorem vals2 {x y:V}{us:List aiH}(r:Vals [x,y] us):∃u w',us=[u,w']∧RelV x u∧RelV y w':=by
 cases r with
 |cons r1 r2=>
  cases r2 with
  |cons r3 r4=>cases r4;exact⟨_,_,rfl,r1,r3⟩
theorem Xu:jb X (.builtin "abs") (fun xs H Q=>∃i,xs=[.int i]∧Q (.int (if i<0 then-i else i)) H):=by intro pins s σ H xs us Q I r h;obtain⟨i,rfl,q⟩:=h;obtain⟨u,rfl,t,rfl⟩:=vals1 r;exact call_abs_int fun u tk=>⟨.int (if i<0 then-i else i),H,I.tok _,⟨_,rfl⟩,q⟩
theorem w5 (hc:X.calm=true):jb X (.builtin "max") (fun xs H Q=>∃i j,xs=[.int i,.int j]∧Q (.int (if j>i then j else i)) H):=by
 intro pins s σ H xs us Q I r h;obtain⟨i,j,rfl,q⟩:=h;obtain⟨u,w',rfl,⟨t,rfl⟩,⟨t',rfl⟩⟩:=vals2 r;refine max_two_ints (I.ok.hd hc) fun h' tk k=>⟨_,H,I.kept k,?_,q⟩;by_cases hj:j>i
 .rw[aiP hj,aiP hj];exact⟨_,rfl⟩
 .rw[aiL hj,aiL hj];exact⟨_,rfl⟩
theorem UJ:jb X (.type "int") (fun xs H Q=>(∃i,xs=[.int i]∧Q (.int i) H)∨∃k,xs=[.bl k]∧Q (.int (if k then 1 else 0)) H):=by
 intro pins s σ H xs us Q I r h;rcases h with⟨i,rfl,q⟩|⟨k,rfl,q⟩
 .obtain⟨u,rfl,t,rfl⟩:=vals1 r;exact call_int_int ⟨.int i,H,I,⟨_,rfl⟩,q⟩
 .obtain⟨u,rfl,r1⟩:=vals1 r;cases r1;exact call_int_bool ⟨.int (if k then 1 else 0),H,I.tok _,⟨_,rfl⟩,q⟩
end
structure Ot (h:aj4)(x dx C:aiM)(mA:Str->Option aiH):Prop where
 obj:h.get? x=some (alW C dx)
 ns:h.Ns1 dx mA
 ne:dx≠x
theorem UL {h:aj4}{dx:aiM}{mA:Str->Option aiH}(n:h.Ns1 dx mA):∃od,h.get? dx=some od∧∀name,ao7 name od=some (mA name):=by
 obtain⟨o,es,ep,ho,hd,hk,_,hm⟩:=n;refine⟨o,ho,fun name=>?_⟩;have e:=hm name;unfold nsFind findBy at e;rw[←Array.find?_toList]at e;unfold ao7;rw[hd];dsimp only;split
 .rename_i y q;rw[q]at e;exact congrArg some e
 .rename_i q;rw[q]at e;have a:es.toList.any (·.refKey)=false:=by rw[ar8];intro y hy;obtain⟨z,t,hkey⟩:=hk y (aqP.mp hy);simp[DictEntry.refKey,hkey]
  have a':¬es.toList.any (·.refKey)=true:=by rw[a];exact aiW
  rw[aiL a'];exact congrArg some e
theorem Ot.look {h:aj4}{x dx C:aiM}{mA:Str->Option aiH}(I:Ot h x dx C mA):∃od,PySem.W.InstAt h x (alW C dx) C (some od)∧∀name,ao7 name od=some (mA name):=let⟨od,ho,hl⟩:=UL I.ns;⟨od,⟨I.obj,rfl,rfl,ho⟩,hl⟩
section
variable{prog:ajr}{w:ajI}{A:ajO}{E:aiH->aiK->Prop}{s:aiK}{K:aiU}{x dx C f:aiM}{mA:Str->Option aiH}{name:Str}{v:aiH}
theorem get_map {expr:Bool}{Q:aiH->aiK->Prop}(X:K.In s.heap)(I:Ot s.heap x dx C mA)(hg:anp K C name=true)(hh:anY K C=true)(ha:aju K (.ref C) name=some none)(hv:mA name=some v)(hv':asG v=true)(h:Q v {s with toks:=s.toks+1}):ai0 (ai7 prog w) A (getAttr (.ref x) name expr) Q E s:=by obtain⟨od,J,hl⟩:=I.look;exact PySem.W.get_value X J (aoW hg).1 (PySem.W.findObj_own hh ha rfl (by rw[hl,hv])) hv' h
theorem Xv {pl:Sem Bool}{Q:aiH×List aiH->aiK->Prop}(X:K.In s.heap)(I:Ot s.heap x dx C mA)(hg:anp K C name=true)(hf:aju K (.ref C) name=some (some (.ref f)))(ht:ao0 K (.ref f)=true)(hv:mA name=none)(h:Q (.ref f,[.ref x]) s):ai0 (ai7 prog w) A (arc (.ref x) name pl) Q E s:=by obtain⟨od,J,hl⟩:=I.look;exact PySem.W.method_fn X J (aoW hg).1 (aoW hg).2 hf (beq_iff_eq.mp ht) (by show(ao7 name od).map (·.isSome)=some false;rw[hl,hv];rfl) h
theorem aaZ {ns:List Str}{Q:Unit->aiK->Prop}(X:K.In s.heap)(I:Ot s.heap x dx C mA)(hs:aju K (.ref C) "__setattr__"=some (some (.builtin "object.__setattr__")))(hp:apz K C=true)(ht:aqu K C name=some none)(hh:anY K C=true)(hw:ar4 mA ns)(hsz:ns.length<=aiV)(h:∀h',Ot h' x dx C (fun y=>if y=name then some v else mA y)->akK dx s.heap h'->Q () {s with heap:=h',toks:=s.toks+2}):ai0 (ai7 prog w) A (setAttr (.ref x) name v) Q E s:=by obtain⟨od,J,hl⟩:=I.look;refine PySem.W.set_plain X J hs (PySem.W.osa_open (s:={s with toks:=s.toks+1}) (r:=none) X J hp ht fun b=>?_);obtain⟨cd,hc,hd'⟩:=PySem.W.any_some hh;have hx:s.heap.get? x=some ⟨.ref C,some dx,.plain,#[]⟩:=I.obj;refine aiD (aiF (aiD (aiD (wpAny_loadPart hx (aiD (au6 (s:={s with toks:=s.toks+1}) (PySem.W.looks_clsIn X hc) ?_))))));rw[hd'];refine aiF (a:=some dx) (aiD (aiF (aiD ?_)));refine wpAny_nsSet1 (s:={s with toks:=s.toks+1}) I.ns fun h' hn2 hs2=>?_;obtain⟨oD,esD,epD,hoD,hdD,hcD⟩:=hn2.count (au' name v hw);refine aiD (wpAny_lookBehind hoD (by rw[hdD];exact pastItsLine_dict (ajt hcD (by rw[ajl];lia))) ?_);exact aiF (h _ ⟨(hs2.2 _ (al3 I.ne)).trans I.obj,hn2,I.ne⟩ hs2)
theorem Xw {R:asH->aiK->Prop}{vs:List aiH}{kw:List (Str×aiH)}(X:K.In s.heap)(hm:aqv K C=true)(hi:aju K (.ref C) "__init__"=some (some (.ref f)))(hf:PySem.W.typeIn K (.ref f)=some (.type "function"))(h:anq (ai7 prog w) (A.under (.builtin "type.__call__" ⟨.ref C::vs,kw⟩)) (.call (.ref f) ⟨.ref (s.heap.objs.size+1)::vs,kw⟩) (PySem.W.InitBack (s.heap.objs.size+1) R) {s with heap:=(s.heap.push ak5).push (alW C s.heap.objs.size)}):anq (ai7 prog w) A (.call (.ref C) ⟨vs,kw⟩) R s:=by obtain⟨hh,g,d,t,os⟩:=s;exact PySem.W.make_core (PySem.W.makes_of X hm) (ao8 X hi) (fun self=>PySem.W.bind_fn X self hf) (.inl rfl) h
end
noncomputable def cM (f:Str)(v:V):List (Str×V)->List (Str×V)
 |[]=>[(f,v)]
 |(g,x)::r=>if g=f then(g,v)::r else(g,x)::cM f v r
theorem aN (f g:Str)(v:V):∀fs:List (Str×V),(cM f v fs).lookup g=if g=f then some v else fs.lookup g
 |[]=>by
  show amM g [(f,v)]=_
  by_cases h:g=f
  ·have hb:(g==f)=true:=beq_iff_eq.mpr h
   simp only[amM,hb,aiP h]
  ·have hb:(g==f)=false:=beq_eq_false_iff_ne.mpr h
   simp only[amM,hb,aiL h]
 |(k,x)::r=>by
  have ih:=aN f g v r
  rw[show cM f v ((k,x)::r)=(if k=f then(k,v)::r else(k,x)::cM f v r)from rfl]
  by_cases hk:k=f
  ·rw[aiP hk]
   by_cases h:g=k
   ·have hb:(g==k)=true:=beq_iff_eq.mpr h
    simp only[amM,hb,aiP (h.trans hk)]
   ·have hb:(g==k)=false:=beq_eq_false_iff_ne.mpr h
    simp only[amM,hb,aiL (fun e:g=f=>h (e.trans hk.symm))]
  ·rw[aiL hk]
   by_cases h:g=k
   ·have hb:(g==k)=true:=beq_iff_eq.mpr h
    simp only[amM,hb,aiL (fun e:g=f=>hk (h.symm.trans e))]
   ·have hb:(g==k)=false:=beq_eq_false_iff_ne.mpr h
    simp only[amM,hb]
    exact ih
theorem w6 (f:Str)(v:V):∀fs:List (Str×V),f∈(cM f v fs).map (·.1)∧∀g,g∈fs.map (·.1)->g∈(cM f v fs).map (·.1)
 |[]=>⟨by simp[cM],fun g h=>by simp at h⟩
 |(k,x)::r=>by
  obtain⟨i1,i2⟩:=w6 f v r
  rw[show cM f v ((k,x)::r)=(if k=f then(k,v)::r else(k,x)::cM f v r)from rfl]
  by_cases hk:k=f
  ·rw[aiP hk]
   subst hk
   exact⟨by simp,fun g h=>by simpa using h⟩
  ·rw[aiL hk]
   refine⟨?_,fun g h=>?_⟩
   ·rw[ajd]
    exact ajS _ i1
   ·rw[ajd]at h ⊢
    rcases ai3.mp h with e|e
    ·exact ai3.mpr (.inl e)
    ·exact ajS _ (i2 g e)
theorem rN (f:Str)(v:V):∀fs:List (Str×V),(cM f v fs).length<=fs.length+1
 |[]=>by simp[cM]
 |(k,x)::r=>by
  have ih:=rN f v r
  rw[show cM f v ((k,x)::r)=(if k=f then(k,v)::r else(k,x)::cM f v r)from rfl]
  by_cases hk:k=f
  ·rw[aiP hk,ajl,ajl];lia
  ·rw[aiL hk,ajl,ajl];lia
theorem uc.some_of {v:V}{o:Option aiH}(r:uc (some v) o):∃u,o=some u∧RelV v u:=by
 cases o with
 |none=>exact(show False from r).elim
 |some u=>exact⟨u,rfl,r⟩
theorem uc.none_of {o:Option aiH}(r:uc none o):o=none:=by
 cases o with
 |none=>rfl
 |some u=>exact(show False from r).elim
theorem UT {v:V}{u:aiH}(r:RelV v u):asG u=true:=by
 cases v with
 |non=>cases(show u=akr from r);rfl
 |bl b=>cases(show u=alF b from r);rfl
 |int i=>obtain⟨t,e⟩:=(show∃t,u=aj6 i t from r);cases e;rfl
 |str x=>obtain⟨t,e⟩:=(show∃t,u=ara x t from r);cases e;rfl
 |Ob b=>obtain⟨t,e⟩:=(show∃t,u=auW b t from r);cases e;rfl
 |flt b=>obtain⟨t,e⟩:=(show∃t,u=as7 b t from r);cases e;rfl
 |ref a=>cases(show u=ai2 a from r);rfl
 |ty n=>cases(show u=aj9 n from r);rfl
section
variable{P:ajr}{w:ajI}{H H':ag4}{h h':aj4}{a C dx:aiM}{fs fs':List (Str×V)}
theorem zW (hok:qw P w H h)(e:H a=some (.ins C dx fs)):∃mA,Ot h a dx C mA∧(∀f,uc (fs.lookup f) (mA f))∧ar4 mA (fs.map (·.1))∧fs.length<=1000∧H dx=some (.own a):=by obtain⟨d,z,ne,ob,mA,n,r,q⟩:=(show b8 P w H h a (.ins C dx fs)from hok a _ e);exact⟨mA,⟨ob,n,ne⟩,r,q,z,d⟩
end
structure Xe (K:aiU)(C:aiM):Prop where
 agW:anp K C asI=true
 hd:anY K C=true
 po:apz K C=true
 sa:aju K (.ref C) "__setattr__"=some (some (.builtin "object.__setattr__"))
theorem Xe.get {K:aiU}{C:aiM}(c:Xe K C)(f:Str):anp K C f=true:=c.agW
def my (K:aiU)(C:aiM)(f:Str):Prop:=aju K (.ref C) f=some none
theorem my.taker {K:aiU}{C:aiM}{f:Str}(n:my K C f):aqu K C f=some none:=by unfold aqu;rw[show aju K (.ref C) f=some none from n];rfl
structure Meth (K:aiU)(C:aiM)(m:Str)(f:aiM):Prop where
 at_:aju K (.ref C) m=some (some (.ref f))
 fn:ao0 K (.ref f)=true
 kp:amb K (.ref f)=true
section
variable{X:aif}{pins:List (aiM×Obj)}{σ:St}{H:ag4}{s:aiK}{a C dx:aiM}{fs:List (Str×V)}{f:Str}{v:V}{A:ajO}{E:aiH->aiK->Prop}
theorem Ou {b:Bool}{Q:aiH->aiK->Prop}(I:Inv X pins σ H s)(e:H a=some (.ins C dx fs))(c:Xe X.K C)(n:my X.K C f)(l:fs.lookup f=some v)(h:∀u s',Inv X pins σ H s'->RelV v u->Q u s'):ai0 (ai7 X.prog X.w) A (getAttr (.ref a) f b) Q E s:=by obtain⟨mA,O,r,_,_,_⟩:=zW I.hok e;obtain⟨u,hu,agK⟩:=uc.some_of (v:=v) (o:=mA f) (by rw[←l];exact r f);exact get_map I.wX O (c.get f) c.hd n hu (UT agK) (h u _ (I.tok _) agK)
theorem uC {m:Str}{g:aiM}{pl:Sem Bool}{Q:aiH×List aiH->aiK->Prop}(I:Inv X pins σ H s)(e:H a=some (.ins C dx fs))(c:Xe X.K C)(k:Meth X.K C m g)(l:fs.lookup m=none)(h:Q (.ref g,[.ref a]) s):ai0 (ai7 X.prog X.w) A (arc (.ref a) m pl) Q E s:=by obtain⟨mA,O,r,_,_,_⟩:=zW I.hok e;have hn:mA m=none:=uc.none_of (by rw[←l];exact r m);exact Xv I.wX O (c.get m) k.at_ k.fn hn h
theorem Ov {y:V}{u:aiH}{Q:Unit->aiK->Prop}(I:Inv X pins σ H s)(e:H a=some (.ins C dx fs))(c:Xe X.K C)(n:my X.K C f)(hl:fs.length<1000)(ry:RelV y u)(h:∀s',Inv X pins σ (upd H a (.ins C dx (cM f y fs))) s'->Q () s'):ai0 (ai7 X.prog X.w) A (setAttr (.ref a) f u) Q E s:=by
 obtain⟨mA,O,r,ahf,_,ho⟩:=zW I.hok e;have hz:(fs.map (·.1)).length<=aiV:=by rw[aiJ,aje];lia
 refine aaZ I.wX O c.sa c.po n.taker c.hd ahf hz fun h' O' sb=>h _ ?_;have hd:∃o,h'.get? dx=some o:=let⟨o,_,_,e',_⟩:=O'.ns;⟨o,e'⟩
 refine I.write (x:=a) (e:=dx) (by rw[e];exact alG) (.inr ho) (fun b q hb z=>(sb.2 b hb).trans z) hd ?_;refine⟨by rw[aO O.ne];exact ho,?_,O.ne,O'.obj,_,O'.ns,fun g=>?_,fun g hg=>?_⟩
 .have:=rN f y fs;lia
 .show uc ((cM f y fs).lookup g) (if g=f then some u else mA g);rw[aN];by_cases q:g=f
  .rw[aiP q,aiP q];exact ry
  .rw[aiL q,aiL q];exact r g
 .by_cases q:g=f
  .rw[q];exact(w6 f y fs).1
  .refine(w6 f y fs).2 g (ahf g fun z=>hg ?_);show(if g=f then some u else mA g)=none;rw[aiL q];exact z
theorem Inv.made (I:Inv X pins σ H s):Inv X pins σ (upd (upd H s.heap.objs.size (.own (s.heap.objs.size+1))) (s.heap.objs.size+1) (.ins C s.heap.objs.size [])) {s with heap:=(s.heap.push ak5).push (alW C s.heap.objs.size)}:=by
 have e1:(s.heap.push ak5).get? s.heap.objs.size=some ak5:=ajg s.heap rfl;have e2:((s.heap.push ak5).push (alW C s.heap.objs.size)).get? (s.heap.objs.size+1)=some (alW C s.heap.objs.size):=by have:=ajg (s.heap.push ak5) (o:=alW C s.heap.objs.size) rfl;rwa [amc]at this
 have e3:(s.heap.push ak5).Ns s.heap.objs.size (fun _=>none):=⟨ak5,#[],_,e1,rfl,(fun e he=>ai8 he (by simp)),fun _=>rfl⟩;have I1:=I.laid (a:=s.heap.objs.size) (o:=.own (s.heap.objs.size+1)) (h':=s.heap.push ak5) (t':=s.toks) (fun b u q=>aiS _ q) (aiN _) ⟨_,e1⟩;refine I1.laid (a:=s.heap.objs.size+1) (o:=.ins C s.heap.objs.size []) (t':=s.toks) (fun b u q=>aiS _ q) (aqh (amc _ _)) ?_;have ne:s.heap.objs.size≠s.heap.objs.size+1:=ajw (amH _);refine⟨by rw[aO ne,aA],ajW _,ne,e2,fun _=>none,(Heap.Ns1.of_empty e3).at fun o q=>aiS _ q,fun _=>alG,fun y hy=>ai8 rfl hy⟩
theorem aa0 {prog:ajr}{w:ajI}{env:Env}{e:akb}{f:Str}{pos:Pos}{s:aiK}{Q:aiH->aiK->Prop}(hb:am1 e f env (alg e env)=alg e env)(h:ai0 (ai7 prog w) A (alg e env) (fun o s₁=>ai0 (ai7 prog w) A (getAttr o f true) Q E s₁) E s):ai0 (ai7 prog w) A (alg (.Attribute e f pos) env) Q E s:=Attribute_any_ h (by rw[arm_eval_Attribute,hb])
end
def aey (K:aiU)(ta:TE)(f:Str):TE:=fun σ H Q=>ta σ H fun x H1=>∃a C dx fs v,x=.ref a∧H1 a=some (.ins C dx fs)∧Xe K C∧my K C f∧fs.lookup f=some v∧Q v H1
def afF (K:aiU)(ta tv:TE)(f:Str):TS:=fun D σ H=>tv σ H fun y H1=>ta σ H1 fun x H2=>∃a C dx fs,x=.ref a∧H2 a=some (.ins C dx fs)∧Xe K C∧my K C f∧fs.length<1000∧D.nx σ (upd H2 a (.ins C dx (cM f y fs)))
section
variable{X:aif}{o e value:akb}{f:Str}{pos pos' tpos:Pos}{ta tv:TE}
theorem gn (he:PE X e ta)(hb:am1 e f X.env (alg e X.env)=alg e X.env):PE X (.Attribute e f pos) (aey X.K ta f):=by intro pins s σ H Q I h;refine aa0 hb (cC (he pins s σ H _ I h) fun u s1 ⟨x,H1,I1,rx,a,C,dx,fs,v,ex,ea,c,n,l,q⟩=>?_);subst ex;obtain rfl:u=ai2 a:=rx;exact Ou I1 ea c n l fun u' s2 agY agK=>⟨v,H1,agY,agK,q⟩
theorem w7 (ha:PE X o ta)(hv:PE X value tv)(hs:arb value (some (.Attribute o f pos')) pos.line X.env=pure false):PS X (.Assign [.Attribute o f pos'] value pos) (afF X.K ta tv f):=by intro pins s σ H D I h;refine plainObj_wpAny_Assign_Attribute (cC (hv pins s σ H _ I h) fun u s1 ⟨y,H1,I1,ry,q⟩=>cC (ha pins s1 σ H1 _ I1 q) fun ov s2 ⟨x,H2,agY,rx,a,C,dx,fs,ex,ea,c,n,l,q2⟩=>?_) hs;subst ex;obtain rfl:ov=ai2 a:=rx;exact Ov agY ea c n l ry fun s3 agy=>⟨σ,_,agy,q2⟩
theorem acC {pl:Sem Bool}{m:Str}{apos:Pos}{args:List akb}{pins:List (aiM×Obj)}{s:aiK}{σ:St}{H:ag4}{Q:aiH->aiK->Prop}{te:TE}(he:PE X e te)(I:Inv X pins σ H s)
  (h:te σ H fun x H1=>∃a C dx fs g,x=.ref a∧H1 a=some (.ins C dx fs)∧Xe X.K C∧Meth X.K C m g∧fs.lookup m=none∧
   ∀s1,Inv X pins σ H1 s1->ai0 (ai7 X.prog X.w) X.A (atG pos (.ref g) [.ref a] (amO pos (ajF args X.env)) (apW pos (anQ [] X.env))) Q X.xe s1)
  (ht:alg (.Call (.Attribute e m apos) args [] pos) X.env=(do
   let ov←alg e X.env
   atu apos.atName
   let(f,first)←aqg [ov] (arc ov m pl)
   atG pos f first (amO pos (ajF args X.env)) (apW pos (anQ [] X.env)))):
  ai0 (ai7 X.prog X.w) X.A (alg (.Call (.Attribute e m apos) args [] pos) X.env) Q X.xe s:=by
 refine aol (pl:=pl) (cC (he pins s σ H _ I h) fun u s1 ⟨x,H1,I1,rx,a,C,dx,fs,g,ex,ea,c,k,l,q⟩=>?_) ht
 subst ex
 obtain rfl:u=ai2 a:=rx
 exact uC I1 ea c k l (q s1 I1)
end
section
variable{X:aif}{pins:List (aiM×Obj)}{σ:St}{H:ag4}{s:aiK}{A:ajO}{E:aiH->aiK->Prop}{Q:aiH->aiK->Prop}{c:aiH}{b:Bool}
inductive xd (K:aiU)(H:ag4):V->aiH->Prop where
 |non:xd K H .non (.type "NoneType")
 |bl (x:Bool):xd K H (.bl x) (.type "bool")
 |int (i:Int):xd K H (.int i) (.type "int")
 |str (x:Str):xd K H (.str x) (.type "str")
 |flt (x:UInt64):xd K H (.flt x) (.type "float")
 |lst {a:aiM} {xs:List V} (e:H a=some (.lst xs)):xd K H (.ref a) (.type "list")
 |uq {a:aiM} {o:Obj} {xs:List V} (e:H a=some (.uq o (.lst xs))):xd K H (.ref a) (.type "list")
 |tup {a:aiM} {xs:List V} (e:H a=some (.tup xs)):xd K H (.ref a) (.type "tuple")
 |ah2 {a:aiM} {kvs:List (Key×V)} (e:H a=some (.ah2 kvs)):xd K H (.ref a) (.type "dict")
 |dT {a:aiM} {B:Bool} {kvs:List (bh×V)} (e:H a=some (.dT B kvs)):xd K H (.ref a) (.type "dict")
 |ins {a C dx:aiM} {fs:List (Str×V)} (e:H a=some (.ins C dx fs)) (cl:Xe K C) (ha:aju K (.ref C) "__class__"=some (some (.builtin "object.__class__")))
  (hn:PySem.W.specialIn K (.builtin "object.__class__") "__get__"=some (some (.builtin "getset_descriptor.__get__"))) (htk:PySem.W.takesIn K (.builtin "object.__class__")=some true)
  (hm:ajM K C (.type "object")=some true):xd K H (.ref a) (.ref C)
theorem UW {x:V}{u t:aiH}(I:Inv X pins σ H s)(rx:RelV x u)(ty:xd X.K H x t)(e:aiI X.K t c=some b)(h:∀tk,Q (.bool b) {s with toks:=tk}):ai0 (ai7 X.prog X.w) A (call (.builtin "isinstance") [u,c]) Q E s:=by
 cases ty with
 |non=>cases(show u=akr from rx);exact akV PySem.W.kitx_none I.wX alG e (fun z=>nomatch z) h
 |bl y=>cases(show u=alF y from rx);exact akV PySem.W.kitx_bool I.wX alG e (fun z=>nomatch z) h
 |int i=>obtain⟨t,q⟩:=(show∃t,u=aj6 i t from rx);cases q;exact akV PySem.W.kitx_int I.wX alG e (fun z=>nomatch z) h
 |str y=>obtain⟨t,q⟩:=(show∃t,u=ara y t from rx);cases q;exact akV PySem.W.kitx_str I.wX alG e (fun z=>nomatch z) h
 |flt y=>obtain⟨t,q⟩:=(show∃t,u=as7 y t from rx);cases q;exact akV PySem.W.kitx_float I.wX alG e (fun z=>nomatch z) h
 |@lst a xs ea=>cases(show u=ai2 a from rx);obtain⟨_,_,n,_,h1⟩:=(show b8 X.prog X.w H s.heap a (.lst xs)from I.hok a _ ea);exact akV ar9 I.wX ⟨_,h1,rfl⟩ e (fun z=>nomatch z) h
 |@uq a ob xs ea=>cases(show u=ai2 a from rx);obtain⟨_,_,_,n,_,h1⟩:=(show b8 X.prog X.w H s.heap a (.uq ob (.lst xs))from I.hok a _ ea);exact akV ar9 I.wX ⟨_,h1,rfl⟩ e (fun z=>nomatch z) h
 |@tup a xs ea=>cases(show u=ai2 a from rx);obtain⟨_,_,_,p⟩:=(show b8 X.prog X.w H s.heap a (.tup xs)from I.hok a _ ea);obtain⟨o,h1,h2,_⟩:=p;exact akV PySem.W.kitx_tuple I.wX ⟨o,h1,h2⟩ e (fun z=>nomatch z) h
 |@ah2 a kvs ea=>cases(show u=ai2 a from rx);obtain⟨_,_,vs,_,p⟩:=(show b8 X.prog X.w H s.heap a (.ah2 kvs)from I.hok a _ ea);obtain⟨o,es,ep,h1,h2,_⟩:=p;exact akV ar' I.wX ⟨o,h1,h2.1⟩ e (fun z=>nomatch z) h
 |@dT a B kvs ea=>cases(show u=ai2 a from rx);obtain⟨_,_,xs,_,o,es,ep,h1,h2,_⟩:=(show b8 X.prog X.w H s.heap a (.dT B kvs)from I.hok a _ ea);exact akV ar' I.wX ⟨o,h1,h2.1⟩ e (fun z=>nomatch z) h
 |@ins a C dx fs ea cl ha hn htk hm=>cases(show u=ai2 a from rx);obtain⟨mA,O,_⟩:=zW I.hok ea;obtain⟨od,J,_⟩:=O.look;exact akV (PySem.W.kitx_own (cl.get _) cl.hd ha hn htk hm) I.wX J e (fun z=>nomatch z) h
end
structure jl (k:Nat)(A:ajO):Prop where
 hd:A.handled=none
 dp:A.depth+3*k+5<recursionLimit
 un:A.units+16*k+200<ak8
 gd:A.guards=some []
theorem jl.mono {j k:Nat}{A:ajO}(r:jl k A)(h:j<=k):jl j A:=⟨r.hd,by have:=r.dp;lia,by have:=r.un;lia,r.gd⟩
theorem jl.deeper {k:Nat}{A:ajO}(r:jl (k+1) A)(env:Env):jl k (A.deeper env):=⟨r.hd,by have:=r.dp;show A.depth+1+3*k+5<_;lia,by have:=r.un;show A.units+3+16*k+200<_;lia,r.gd⟩
theorem Ow {A:ajO}{C:aiM}{us:List aiH}{kw:List (Str×aiH)}:(A.under (.builtin "type.__call__" ⟨.ref C::us,kw⟩)).depth=A.depth+1:=by first|rfl|simp[aqi,Code.weight,Code.isCreation,auN,Code.isCaller,auZ,asa,guardIds]
theorem Ox {A:ajO}{C:aiM}{us:List aiH}{kw:List (Str×aiH)}:(A.under (.builtin "type.__call__" ⟨.ref C::us,kw⟩)).units=A.units+1:=by first|rfl|simp[aqi,Code.cUnits,auZ,asa]
theorem jl.make {k:Nat}{A:ajO}(r:jl (k+1) A)(C:aiM)(us:List aiH)(kw:List (Str×aiH)):jl k (A.under (.builtin "type.__call__" ⟨.ref C::us,kw⟩)):=⟨r.hd,by have:=r.dp;rw[Ow];omega,by have:=r.un;rw[Ox];omega,by have:=r.gd;first|exact this|(simpa[aqi,auN,guardIds]using this)⟩
theorem jl.depth {k:Nat}{A:ajO}(r:jl k A):A.depth<recursionLimit:=by have:=r.dp;omega
theorem jl.units {k:Nat}{A:ajO}(r:jl k A):A.units+64<ak8:=by have:=r.un;lia
theorem jl.ac3 {k:Nat}{A:ajO}(r:jl k A):A.units<ak8:=by have:=r.un;omega
def Xx:TA:=fun _ H Q=>Q [] H
def yS (ta:TE)(tr:TA):TA:=fun σ H Q=>ta σ H fun x H1=>tr σ H1 fun xs H2=>Q (x::xs) H2
section
variable{X:aif}{e:akb}{es:List akb}{te:TE}{t:TA}{pos:Pos}
theorem aj:PA X [] Xx:=fun _ _ _ _ H Q I h=>asb ⟨[],H,I,.nil,h⟩
theorem aa (ha:PE X e te)(hr:PA X es t)(hs:ajF (e::es) X.env=(false,alg e X.env)::ajF es X.env:=by rfl):PA X (e::es) (yS te t):=by intro pos pins s σ H Q I h;rw[hs];show ai0 _ _ (spliced ((false,alg e X.env)::amO pos (ajF es X.env))) _ _ s;refine ao9 (cC (ha pins s σ H _ I h) fun u s1 ⟨x,H1,I1,r1,q1⟩=>?_);exact cC (hr pos pins s1 σ H1 _ I1 q1) fun us s2 ⟨xs,H2,agY,r2,q2⟩=>⟨x::xs,H2,agY,.cons r1 r2,q2⟩
def aez (t:TA):TE:=fun σ H Q=>t σ H fun xs H1=>xs.length<=aiV∧∀p,H1 p=none->Q (.ref p) (upd H1 p (.tup xs))
def ac4 (t:TA):TE:=fun σ H Q=>t σ H fun xs H1=>xs.length<=aiV∧∀p,H1 p=none->Q (.ref p) (upd H1 p (.lst xs))
theorem bL {x1}(h:PA X es t):PE X (.Tuple es x1 pos) (aez t):=by intro pins s σ H Q I hq;refine wpAny_Tuple_spliced (cC (h pos pins s σ H _ I hq) fun us s1 ⟨xs,H1,I1,r,z,q⟩=>⟨by rw[←r.length];exact z,?_⟩);have hf:H1 s1.heap.objs.size=none:=I1.hok.fresh (aiN _);refine⟨.ref s1.heap.objs.size,upd H1 s1.heap.objs.size (.tup xs),I1.laid (t':=s1.toks) (fun b u e=>aiS _ e) (aiN _) ?_,rfl,q _ hf⟩;exact⟨z,us,r,⟨_,ajg _ rfl,rfl,_,rfl⟩⟩
theorem bQ (h:PA X es t):PE X (.List es pos) (ac4 t):=by intro pins s σ H Q I hq;refine wpAny_List_spliced (cC (h pos pins s σ H _ I hq) fun us s1 ⟨xs,H1,I1,r,z,q⟩=>⟨by rw[←r.length];exact z,?_⟩);have hf:H1 s1.heap.objs.size=none:=I1.hok.fresh (aiN _);refine⟨.ref s1.heap.objs.size,upd H1 s1.heap.objs.size (.lst xs),I1.laid (t':=s1.toks) (fun b u e=>aiS _ e) (aiN _) ?_,rfl,q _ hf⟩;exact⟨z,us,0,r,ajg _ rfl⟩
end
abbrev Sp:=List V->ag4->ahY->agL->Prop
abbrev Xy:=List Env->ag4->aiK->agL->aiH->aiK->Prop
structure Oz (P:ajr)(w:ajI)(K:aiU)(mg:Str->Option aiH)(base:aj4)(A:ajO)(outer:List Env)(s:aiK)(H:ag4):Prop where
 frames:A.frames=some outer
 mod:Mod K mg base
 bs:∀b o,base.get? b=some o->s.heap.get? b=some o∧H b=none
 Xd:base.objs.size<=s.heap.objs.size
 uy:s.heap.FunFrames base outer
 frf:∀b∈frs outer,H b=none
 hok:qw P w H s.heap
 bare:aoZ s.gens
def CE (outer:List Env)(P:ajr)(w:ajI)(H:ag4)(s:aiK)(Q:ahY)(u:aiH)(s':aiK):Prop:=∃v H',s'.os=s.os∧aoZ s'.gens∧ahd (frs outer) [] H H' s.heap s'.heap∧qw P w H' s'.heap∧RelV v u∧Q v H'
def CR (aio:Xy)(outer:List Env)(P:ajr)(w:ajI)(H:ag4)(s:aiK)(Q:ahY)(E:agL)(r:asH)(s':aiK):Prop:=
 match r with
 |.ok (.ret u)=>CE outer P w H s Q u s'
 |.ok _=>False
 |.error e=>aio outer H s E e s'
structure aP (P:ajr)(w:ajI)(K:aiU)(mg:Str->Option aiH)(base:aj4)(aio:Xy)(k:Nat)(f:aiM)(fd:ajA)(ps:List Str)(sp:Sp):Prop where
 len:∀vs H Q E,sp vs H Q E->vs.length=ps.length
 run:∀(A:ajO) (outer:List Env) (s:aiK) (H:ag4) (args:Args) (us:List aiH) (vs:List V) (Q:ahY) (E:agL),jl k A->Oz P w K mg base A outer s H->ard s fd args (ps.zip us)->Vals vs us->sp vs H Q E->anq (ai7 P w) A (.call (.ref f) args) (CR aio outer P w H s Q E) s
theorem aP.mono {P:ajr}{w:ajI}{K:aiU}{mg:Str->Option aiH}{base:aj4}{aio:Xy}{j k:Nat}{f:aiM}{fd:ajA}{ps:List Str}{sp:Sp}(F:aP P w K mg base aio j f fd ps sp)(h:j<=k):aP P w K mg base aio k f fd ps sp:=⟨F.len,fun A outer s H args us vs Q E hr=>F.run A outer s H args us vs Q E (hr.mono h)⟩
theorem Oz.make {P:ajr}{w:ajI}{K:aiU}{mg:Str->Option aiH}{base:aj4}{A:ajO}{outer:List Env}{s:aiK}{H:ag4}(e:Oz P w K mg base A outer s H)(C:aiM)(us:List aiH)(kw:List (Str×aiH)):Oz P w K mg base (A.under (.builtin "type.__call__" ⟨.ref C::us,kw⟩)) outer s H:=⟨by first|exact e.frames|(simpa[aqi,Code.envs,asa,pushEnvs]using e.frames),e.mod,e.bs,e.Xd,e.uy,e.frf,e.hok,e.bare⟩
section
variable{X:aif}{pins:List (aiM×Obj)}{σ:St}{H:ag4}{s s':aiK}
theorem Inv.env0 (I:Inv X pins σ H s):Oz X.prog X.w X.K X.mg X.base X.A X.stack s H:=⟨I.ok.frames,I.ok.mod,I.bs,ajt I.ok.Xd I.sz,I.stack,I.Hq,I.hok,I.bare⟩
theorem Inv.after {Q:ahY}{u:aiH}(I:Inv X pins σ H s)(h:CE X.stack X.prog X.w H s Q u s'):EP X pins σ Q u s':=by obtain⟨v,H',os,bare,un,hok,r,q⟩:=h;obtain⟨hh,g,d,t,os'⟩:=s';obtain rfl:os'=s.os:=os;exact⟨v,H',I.call (h':=hh) (g':=g) (d':=d) (t':=t) (ch:=[]) un hok bare (fun b z=>ai8 z (by simp)),r,q⟩
end
def aeA (sp:Sp)(Ei:List V)(E:agL)(t:TA):TE:=fun σ H Q=>t σ H fun vs H1=>sp (vs++Ei) H1 Q E
def acD (C:aiM)(m:Str)(sp:Sp)(Ei:List V)(E:agL)(ta:TE)(t:TA):TE:=fun σ H Q=>ta σ H fun x H1=>∃a dx fs,x=.ref a∧H1 a=some (.ins C dx fs)∧fs.lookup m=none∧t σ H1 fun vs H2=>sp (x::(vs++Ei)) H2 Q E
def aeB (C:aiM)(sp:Sp)(Ei:List V)(E:agL)(t:TA):TE:=fun σ H Q=>t σ H fun vs H1=>∀x dx,H1 x=none->H1 dx=none->dx≠x->sp (.ref x::(vs++Ei)) (upd (upd H1 dx (.own x)) x (.ins C dx [])) (fun v H2=>v=.non∧Q (.ref x) H2) E
def Binds (K:aiU)(fd:ajA)(ps:List Str)(ds:List aiH):Prop:=∀(s:aiK) (us:List aiH),K.In s.heap->(us++ds).length=ps.length->ard s fd ⟨us,[]⟩ (ps.zip (us++ds))
theorem Binds.all {K:aiU}{fd:ajA}{ps:List Str}(h:∀us:List aiH,us.length=ps.length->apY fd ⟨us,[]⟩=pure (ps.zip us)):Binds K fd ps []:=fun s us _ hl=>by rw[alb]at hl ⊢;exact .of_eq (h us hl)
def qC (aio:Xy)(X:aif)(E:agL):Prop:=∀(pins:List (aiM×Obj)) (σ:St) (H:ag4) (s:aiK) (e:aiH) (s':aiK),Inv X pins σ H s->aio X.stack H s E e s'->X.xe e s'
section
variable{X:aif}{aio:Xy}{k:Nat}{f C:aiM}{fd:ajA}{ps:List Str}{sp:Sp}{Ei:List V}{ds:List aiH}{E:agL}{x m:Str}{p pos apos:Pos}{e o:akb}{es:List akb}{ta:TE}{t:TA}
theorem OD {pins:List (aiM×Obj)}{σ:St}{H:ag4}{s:aiK}{Q:ahY}{us:List aiH}{vs:List V}(F:aP X.prog X.w X.K X.mg X.base aio k f fd ps sp)(hr:jl k X.A)(hb:Binds X.K fd ps ds)(hd:Vals Ei ds)(hx:qC aio X E)(I:Inv X pins σ H s)(r:Vals vs us)(h:sp (vs++Ei) H Q E):ai0 (ai7 X.prog X.w) X.A (call (.ref f) us) (EP X pins σ Q) X.xe s:=by
 have r2:Vals (vs++Ei) (us++ds):=r.append hd;have hl:(us++ds).length=ps.length:=by rw[←r2.length];exact F.len _ _ _ _ h
 refine atH (anZ (F.run X.A X.stack s H ⟨us,[]⟩ (us++ds) (vs++Ei) Q E hr I.env0 (hb s us I.wX hl) r2 h) fun r s' hq=>?_);cases r with
 |error e=>exact hx pins σ H s e s' I hq
 |ok fl=>
  cases fl with
  |ret u=>exact I.after hq
  |next=>exact alH hq
  |brk=>exact alH hq
  |cont=>exact alH hq
theorem aD (F:aP X.prog X.w X.K X.mg X.base aio k f fd ps sp)(hr:jl k X.A)(hg:ahT X x)(hm:X.mg x=some (.ref f))(hk:amb X.K (.ref f)=true)(hb:Binds X.K fd ps ds)(hd:Vals Ei ds)(hx:qC aio X E)(ha:PA X (e::es) t)(hdb:(x==("__debug__":Str))=false:=by decide)(he:ajF (e::es) X.env=(false,alg e X.env)::ajF es X.env:=by rfl)(hpl:(amO pos (ajF es X.env)).any (·.1)=false:=by rfl):PE X (.Call (.Name x p) (e::es) [] pos) (aeA sp Ei E t):=by intro pins s σ H Q I h;refine anN (zV I hg hm ?_ hdb);refine ao' (h₀:=X.base) I.ok.mod.kin hk (cC (ha pos pins s σ H _ I h) fun us s1 ⟨vs,H1,I1,r,q⟩=>⟨I1.wX,?_⟩) he hpl;exact OD F hr hb hd hx I1 r q
theorem tB {pl:Sem Bool}(he:PE X o ta)(c:Xe X.K C)(hm:Meth X.K C m f)(F:aP X.prog X.w X.K X.mg X.base aio k f fd ps sp)(hr:jl k X.A)(hb:Binds X.K fd ps ds)(hd:Vals Ei ds)(hx:qC aio X E)(ha:PA X (e::es) t)
  (hst:ajF (e::es) X.env=(false,alg e X.env)::ajF es X.env:=by rfl) (hpl:(amO pos (ajF es X.env)).any (·.1)=false:=by rfl)
  (ht:alg (.Call (.Attribute o m apos) (e::es) [] pos) X.env=(do
   let ov←alg o X.env
   atu apos.atName
   let(f,first)←aqg [ov] (arc ov m pl)
   atG pos f first (amO pos (ajF (e::es) X.env)) (apW pos (anQ [] X.env))):=by rfl):
  PE X (.Call (.Attribute o m apos) (e::es) [] pos) (acD C m sp Ei E ta t):=by
 intro pins s σ H Q I h
 refine aol (pl:=pl) (cC (he pins s σ H _ I h) fun u s1 ⟨x,H1,I1,rx,a,dx,fs,ex,ea,l,q⟩=>?_) ht
 subst ex
 obtain rfl:u=ai2 a:=rx
 refine uC I1 ea c hm l ?_
 refine ao' (first:=[.ref a]) (h₀:=X.base) I.ok.mod.kin hm.kp (cC (ha pos pins s1 σ H1 _ I1 q) fun us s2 ⟨vs,H2,agY,r,q2⟩=>⟨agY.wX,?_⟩) hst hpl
 exact OD (us:=.ref a::us) (vs:=.ref a::vs) F hr hb hd hx agY (.cons rfl r) q2
theorem JR {pl:Sem Bool}(he:PE X o ta)(c:Xe X.K C)(hm:Meth X.K C m f)(F:aP X.prog X.w X.K X.mg X.base aio k f fd ps sp)(hr:jl k X.A)(hb:Binds X.K fd ps ds)(hd:Vals Ei ds)(hx:qC aio X E)
  (ht:alg (.Call (.Attribute o m apos) [] [] pos) X.env=(do
   let ov←alg o X.env
   atu apos.atName
   let(f,first)←aqg [ov] (arc ov m pl)
   atG pos f first (amO pos (ajF [] X.env)) (apW pos (anQ [] X.env))):=by rfl):
  PE X (.Call (.Attribute o m apos) [] [] pos) (acD C m sp Ei E ta Xx):=by
 intro pins s σ H Q I h
 refine aol (pl:=pl) (cC (he pins s σ H _ I h) fun u s1 ⟨x,H1,I1,rx,a,dx,fs,ex,ea,l,q⟩=>?_) ht
 subst ex
 obtain rfl:u=ai2 a:=rx
 refine uC I1 ea c hm l ?_
 exact PySem.W.callWith_K0 (first:=[.ref a]) I1.wX hm.kp (OD (us:=[.ref a]) (vs:=[.ref a]) F hr hb hd hx I1 (.cons rfl .nil) q)
structure Mk (K:aiU)(C f:aiM):Prop where
 makes:aqv K C=true
 init:aju K (.ref C) "__init__"=some (some (.ref f))
 fn:ao0 K (.ref f)=true
 kp:amb K (.ref C)=true
theorem Xz {pins:List (aiM×Obj)}{σ:St}{H:ag4}{s:aiK}{Q:ahY}{us:List aiH}{vs:List V}(M:Mk X.K C f)(F:aP X.prog X.w X.K X.mg X.base aio k f fd ps sp)(hr:jl (k+1) X.A)(hb:Binds X.K fd ps ds)(hd:Vals Ei ds)(hx:qC aio X E)(I:Inv X pins σ H s)(r:Vals vs us)(h:∀x dx,H x=none->H dx=none->dx≠x->sp (.ref x::(vs++Ei)) (upd (upd H dx (.own x)) x (.ins C dx [])) (fun v H2=>v=.non∧Q (.ref x) H2) E):ai0 (ai7 X.prog X.w) X.A (call (.ref C) us) (EP X pins σ Q) X.xe s:=by
 have hq:=h (s.heap.objs.size+1) s.heap.objs.size (I.hok.fresh (aqQ _)) (I.hok.fresh (aiN _)) (ajw (amH _));have agY:=Inv.made (C:=C) I;have r2:Vals (V.ref (s.heap.objs.size+1)::(vs++Ei)) (ai2 (s.heap.objs.size+1)::(us++ds)):=.cons rfl (r.append hd);have hl:(ai2 (s.heap.objs.size+1)::us++ds).length=ps.length:=by have e:=r2.length;rw[F.len _ _ _ _ hq]at e;exact e.symm
 refine atH (Xw (f:=f) I.wX M.makes M.init (beq_iff_eq.mp M.fn) (anZ (F.run _ X.stack _ _ ⟨ai2 (s.heap.objs.size+1)::us,[]⟩ (ai2 (s.heap.objs.size+1)::(us++ds)) _ _ E (hr.make C us []) (agY.env0.make C us []) (hb _ (ai2 (s.heap.objs.size+1)::us) agY.wX hl) r2 hq) fun r s' hq'=>?_));cases r with
 |error e=>exact hx pins σ _ _ e s' agY hq'
 |ok fl=>
  cases fl with
  |ret u=>obtain⟨v,H',agy,rv,ev,q3⟩:=agY.after hq';subst ev;exact⟨rv,⟨V.ref (s.heap.objs.size+1),H',agy,rfl,q3⟩⟩
  |next=>exact alH hq'
  |brk=>exact alH hq'
  |cont=>exact alH hq'
theorem SJ (M:Mk X.K C f)(F:aP X.prog X.w X.K X.mg X.base aio k f fd ps sp)(hr:jl (k+1) X.A)(hg:ahT X x)(hm:X.mg x=some (.ref C))(hb:Binds X.K fd ps ds)(hd:Vals Ei ds)(hx:qC aio X E)(ha:PA X (e::es) t)(hdb:(x==("__debug__":Str))=false:=by decide)(he:ajF (e::es) X.env=(false,alg e X.env)::ajF es X.env:=by rfl)(hpl:(amO pos (ajF es X.env)).any (·.1)=false:=by rfl):PE X (.Call (.Name x p) (e::es) [] pos) (aeB C sp Ei E t):=by intro pins s σ H Q I h;refine anN (zV I hg hm ?_ hdb);refine ao' (h₀:=X.base) I.ok.mod.kin M.kp (cC (ha pos pins s σ H _ I h) fun us s1 ⟨vs,H1,I1,r,q⟩=>⟨I1.wX,?_⟩) he hpl;exact Xz M F hr hb hd hx I1 r q
end
structure aU (N P:List Str)(sc:ao5):Prop where
 kind:sc.kind=.function
 co:sc.isCoroutine=false
 gen:sc.isGenerator=false
 nd:N.Nodup
 pre:N.take P.length=P
 par:∀x∈P,sc.names.lookup x=some .local∨sc.names.lookup x=some .cell
 ac5:∀y∈sc.names,y.2≠.free
theorem Gk {ak4:Str->Option asd}{x:Str}:∀{binds:List (Str×aiH)} {m:Str->Option aiH},(∀v,(x,v)∉binds)->atI ak4 binds m x=m x
 |[],_,_=>rfl
 |(n,v)::r,m,h=>by
  unfold atI
  rw[Gk fun w hw=>h w (ajS _ hw)]
  split
  ·have:x≠n:=by rintro rfl;exact h v akL
   simp[this]
  ·rfl
theorem Gl {ak4:Str->Option asd}{x:Str}:∀{binds:List (Str×aiH)} {m:Str->Option aiH},(∀v,(x,v)∉binds)->atJ ak4 binds m x=m x
 |[],_,_=>rfl
 |(n,v)::r,m,h=>by
  unfold atJ
  rw[Gl fun w hw=>h w (ajS _ hw)]
  split
  ·rfl
  ·have:x≠n:=by rintro rfl;exact h v akL
   simp[this]
theorem Gm {ak4:Str->Option asd}{x:Str}{v:aiH}:∀{P:List Str} {vs:List aiH} {i:Nat} {m:Str->Option aiH},P.Nodup->P[i]?=some x->vs[i]?=some v->ak4 x=some .local->
  atI ak4 (P.zip vs) m x=some v
 |[],_,_,_,_,h,_,_=>by simp at h
 |_::_,[],_,_,_,_,h,_=>by simp at h
 |p::P,w::vs,0,m,nd,h1,h2,hk=>by
  simp at h1 h2;subst h1;subst h2
  show atI ak4 ((p,w)::P.zip vs) m p=_
  unfold atI
  rw[Gk fun v hv=>(aj'.mp nd).1 (aoO hv).1,aiP hk]
  simp
 |p::P,w::vs,i+1,m,nd,h1,h2,hk=>by
  show atI ak4 ((p,w)::P.zip vs) m x=_
  unfold atI
  exact Gm (i:=i) (aj'.mp nd).2 (by simpa using h1) (by simpa using h2) hk
theorem Gn {ak4:Str->Option asd}{x:Str}{v:aiH}:∀{P:List Str} {vs:List aiH} {i:Nat} {m:Str->Option aiH},P.Nodup->P[i]?=some x->vs[i]?=some v->ak4 x≠some .local->
  atJ ak4 (P.zip vs) m x=some v
 |[],_,_,_,_,h,_,_=>by simp at h
 |_::_,[],_,_,_,_,h,_=>by simp at h
 |p::P,w::vs,0,m,nd,h1,h2,hk=>by
  simp at h1 h2;subst h1;subst h2
  show atJ ak4 ((p,w)::P.zip vs) m p=_
  unfold atJ
  rw[Gl fun v hv=>(aj'.mp nd).1 (aoO hv).1,aiL hk]
  simp
 |p::P,w::vs,i+1,m,nd,h1,h2,hk=>by
  show atJ ak4 ((p,w)::P.zip vs) m x=_
  unfold atJ
  exact Gn (i:=i) (aj'.mp nd).2 (by simpa using h1) (by simpa using h2) hk
noncomputable def start (N:List Str)(vs:List V):St:=vs.map some++akc (N.length-vs.length) none
noncomputable def eU (aio:Xy)(P:ajr)(w:ajI)(K:aiU)(mg:Str->Option aiH)(base:aj4)(N:List Str)(qual:Str)(scope:ao5)(f:aiM)(cd:aiH)(A:ajO)(outer:List Env)(s:aiK)(H:ag4)(E:agL):aif where
 prog:=P;w:=w;K:=K;mg:=mg;base:=base;A:=A.deeper (aqR qual scope s.heap.objs.size f cd);N:=N;s₀:=s;H₀:=H;env:=aqR qual scope s.heap.objs.size f cd;outer:=outer;stack:=aqR qual scope s.heap.objs.size f cd::outer;ex:=[];calm:=true;fn:=fun _=>true;pn:=[];xe:=fun e s'=>ai0 (ai7 P w) (A.deeper (aqR qual scope s.heap.objs.size f cd)) (atv (aqR qual scope s.heap.objs.size f cd) e) (fun _ s''=>aio outer H s E e s'') (fun e' s''=>aio outer H s E e' s'') s'
theorem JS {sc:ao5}{n:Nat}{x:Str}(h:sc.names.lookup x=some .cell):∃c,(cellsFrom n sc.names []).lookup x=some c:=by have q:=aqj sc.names n [] (.inl h);exact anB.mp q
theorem U0 {aio:Xy}{P:ajr}{w:ajI}{K:aiU}{mg:Str->Option aiH}{base:aj4}{N ps:List Str}{qual:Str}{scope:ao5}{f:aiM}{cd:aiH}{A:ajO}{outer:List Env}{s s1:aiK}{H:ag4}{E:agL}{us:List aiH}{vs:List V}(S:aU N ps scope)(hd:A.handled=none)(e0:Oz P w K mg base A outer s H)(hl:vs.length=ps.length)(r:Vals vs us)(x:InCallC s s.heap.objs.size (atI (aqR qual scope s.heap.objs.size f cd).kindOf (ps.zip us) fun _=>none) (cellsFrom (s.heap.objs.size+1) scope.names []) (atJ (aqR qual scope s.heap.objs.size f cd).kindOf (ps.zip us) fun _=>none) s1):Inv (eU aio P w K mg base N qual scope f cd A outer s H E) [] (start N vs) H s1:=by
 have hpl:ps.length<=N.length:=by have:=congrArg ane S.pre;rw[ajC]at this;lia
 obtain⟨h1,tk,rfl,hk⟩:=x.done;have noA:∀b:aiM,b∉(eU aio P w K mg base N qual scope f cd A outer s H E).ex:=fun b z=>ai8 (show b∈([]:List aiM)from z) (by simp);refine⟨⟨e0.mod,S.kind,rfl,rfl,aiN _,fun y z c h1 h2=>?_,fun y hy=>?_,fun y c _ h=>?_,fun _=>hd,Around.frames_deeper e0.frames,.inr ⟨rfl,rfl⟩,fun b z=>ai8 z (noA b),e0.bs,e0.Xd,fun b _ _=>noA b,fun b z=>ai8 z (noA b),e0.uy,e0.frf⟩,rfl,e0.bare,ahd.kept hk,⟨_,x.toInCall.ns,fun i y v h1 h2 h3=>?_⟩,fun y c h=>⟨_,x.cell y c h⟩,e0.hok.fresh (aiN _),fun y c h=>?_,fun p hp=>ai8 (show p∈([]:List (aiM×Obj))from hp) (by simp),e0.hok.kept hk,?_⟩
 .exact name_of_addr x.apart (alZ h1) (alZ h2)
 .have hy:scope.names.lookup y=some .cell∨scope.names.lookup y=some .free:=hy;rcases hy with hy|hy
  .exact JS hy
  .exact ai8 rfl (S.ac5 _ (alZ hy))
 .exact ar5 (x.above y c (alZ h))
 .have hi:i<vs.length:=by
   unfold start at h2;by_cases hi:i<vs.length
   .exact hi
   .rw[alp (by simpa using hi)]at h2;rw[apZ]at h2;split at h2<;>cases h2
  have ha:vs[i]?=some v:=by
   unfold start at h2;rw[ak2 (by simpa using hi),ai6]at h2;cases e:vs[i]? with
   |none=>rw[e]at h2;cases h2
   |some a=>rw[e]at h2;cases h2;rfl
  obtain⟨u,hu,rv⟩:=r.get ha;have hp:ps[i]?=some y:=by rw[←S.pre,apI (by lia)];exact h1
  have ndP:ps.Nodup:=by rw[←S.pre];exact S.nd.sublist (ase _ _)
  refine⟨u,rv,?_⟩;rcases S.par y (ajo hp)with k|k
  .exact .inl ⟨k,Gm ndP hp hu k⟩
  .obtain⟨c,e⟩:=JS (n:=s.heap.objs.size+1) k;refine .inr ⟨.inl k,c,e,?_⟩;have q:=x.cell y c e;rw[Gn ndP hp hu (by show scope.names.lookup y≠_;rw[k];decide)]at q;exact q
 .exact e0.hok.fresh (ar5 (x.above y c (alZ h)))
 .unfold start;show _=N.length;rw[aiZ,aiJ,aqB];lia
theorem aeC {aio:Xy}{P:ajr}{w:ajI}{K:aiU}{mg:Str->Option aiH}{base:aj4}{k:Nat}{f:aiM}{name qual:Str}{params:Arguments}{body:List akM}{scope:ao5}{dV kV doc pm cdv ct oc:aiH}{an od:Option aiM}{osl:Array (Option aiH)}{N ps:List Str}{sp:Sp}(lk:K.lookup f=some ⟨oc,od,.func (alc name qual params body scope dV kV doc pm an cdv ct),osl⟩)(hcd:an0 K cdv qual=true)(S:aU N ps scope)(len:∀vs H Q E,sp vs H Q E->vs.length=ps.length)(hbody:∀(A:ajO) (outer:List Env) (s:aiK) (H:ag4) (vs:List V) (Q:ahY) (E:agL),jl k (A.deeper (aqR qual scope s.heap.objs.size f cdv))->sp vs H Q E->∃t,zU (eU aio P w K mg base N qual scope f cdv A outer s H E) body t∧t {nx:=fun _ H'=>Q .non H',rt:=Q} (start N vs) H):aP P w K mg base aio (k+1) f (alc name qual params body scope dV kV doc pm an cdv ct) ps sp:=by
 refine⟨len,fun A outer s H args us vs Q E hr e0 hb r hsp=>?_⟩;have hl:=len _ _ _ _ hsp;have KX:K.In s.heap:=e0.mod.kin.keeps fun b o e=>(e0.bs b o e).1;have lim:s.heap.NoLimit:=e0.mod.nolimit.keeps fun b o e=>(e0.bs b o e).1;have hkind:∀y∈ps.zip us,scope.names.lookup y.1=some .local∨(scope.names.lookup y.1=some .cell∧((cellsFrom (s.heap.objs.size+1) scope.names []).lookup y.1).isSome=true):=fun⟨n,v⟩ hy=>by
  rcases S.par n (aoO hy).1 with q|q
  .exact .inl q
  .exact .inr ⟨q,aqj _ _ _ (.inl q)⟩
 refine codeAny_call_function hr.depth (KX _ _ lk) rfl S.co S.gen rfl (PySem.W.codeRec_of KX hcd) (hb _ _ _ _ ?_);refine wpAny_newFunctionEnv_cells S.kind hkind fun env he s1 x=>?_;subst he;refine⟨lim.keeps x.toInCall.keep,codeAny_func ?_⟩;obtain⟨t,ht,hq⟩:=hbody A outer s H vs Q E (hr.deeper _) hsp;have I:Inv (eU aio P w K mg base N qual scope f cdv A outer s H E) [] (start N vs) H s1:=U0 S hr.hd e0 hl r x;refine alE (ht [] s1 (start N vs) H _ I hq) (fun fl s' hs=>?_) fun e s' hs=>hs;have fin:∀{σ':St} {H':ag4} {v:V} {u:aiH},Inv (eU aio P w K mg base N qual scope f cdv A outer s H E) [] σ' H' s'->RelV v u->Q v H'->CE outer P w H s Q u s':=fun{σ' H' v u} J rv q=>⟨v,H',J.os,J.bare,J.base,J.hok,rv,q⟩;cases fl with
 |ret u=>obtain⟨v,σ',H',J,rv,q⟩:=hs;exact fin J rv q
 |next=>obtain⟨σ',H',J,q⟩:=hs;exact fin (v:=V.non) (u:=akr) J rfl q
 |brk=>obtain⟨_,_,_,q⟩:=hs;exact alH q
 |cont=>obtain⟨_,_,_,q⟩:=hs;exact alH q
section
variable{X:aif}{x:Str}{p pos:Pos}{e:akb}{es:List akb}{t:TA}{id T:String}{r:List V->ag4->ahY->Prop}
def tCB (r:List V->ag4->ahY->Prop)(t:TA):TE:=fun σ H Q=>t σ H fun vs H1=>r vs H1 Q
theorem aK (hc:jb X (.builtin id) r)(hg:ahT X x)(hm:X.mg x=none)(hv:akf x=some (.builtin id))(ha:PA X (e::es) t)(hn:x≠"__name__":=by decide)(hdb:(x==("__debug__":Str))=false:=by decide)(he:ajF (e::es) X.env=(false,alg e X.env)::ajF es X.env:=by rfl)(hpl:(amO pos (ajF es X.env)).any (·.1)=false:=by rfl):PE X (.Call (.Name x p) (e::es) [] pos) (tCB r t):=by intro pins s σ H Q I h;refine anN (Ao I hg hm hv ?_ hn hdb);exact asJ (cC (ha pos pins s σ H _ I h) fun us s1 ⟨vs,H1,I1,r1,q1⟩=>hc pins s1 σ H1 vs us Q I1 r1 q1) he hpl
theorem tC (hc:jb X (.type T) r)(hg:ahT X x)(hm:X.mg x=none)(hv:akf x=some (.type T))(ha:PA X (e::es) t)(hn:x≠"__name__":=by decide)(hdb:(x==("__debug__":Str))=false:=by decide)(he:ajF (e::es) X.env=(false,alg e X.env)::ajF es X.env:=by rfl)(hpl:(amO pos (ajF es X.env)).any (·.1)=false:=by rfl):PE X (.Call (.Name x p) (e::es) [] pos) (tCB r t):=by intro pins s σ H Q I h;refine anN (Ao I hg hm hv ?_ hn hdb);exact am7 (cC (ha pos pins s σ H _ I h) fun us s1 ⟨vs,H1,I1,r1,q1⟩=>hc pins s1 σ H1 vs us Q I1 r1 q1) he hpl
end
end L2
namespace HT
open PySem PyProof.Rows
noncomputable def lexLt:List Int->List Int->Bool
 |[],[]=>false
 |[],_::_=>true
 |_::_,[]=>false
 |x::xs,y::ys=>if x=y then lexLt xs ys else decide (x<y)
theorem m9 (x y:Int)(xs ys:List Int):lexLt (x::xs) (y::ys)=if x=y then lexLt xs ys else decide (x<y):=rfl
theorem o9:lexLt [] []=false:=rfl
theorem ni (y:Int)(ys:List Int):lexLt [] (y::ys)=true:=rfl
theorem jm (x:Int)(xs:List Int):lexLt (x::xs) []=false:=rfl
theorem JT (A:ajO)(s:aiK)(a:Int)(t:Tok)(c:Int)(u:Tok):∃e,aqk A s (.int a t) (.int c u) e∧(e=true↔a=c):=⟨(a==c),arL a t c u,by simp⟩
theorem JV (A:ajO)(s:aiK)(a:Int)(t:Tok)(c:Int)(u:Tok)(prog:ajr)(w:ajI)(E:aiH->aiK->Prop)(Q:aiH->aiK->Prop)(h:Q (.bool (decide (a<c))) s):ai0 (ai7 prog w) A (richCompare .Lt (.int a t) (.int c u)) Q E s:=(auK h:ai0 (ai7 prog w) A (ake .Lt (.int a t) (.int c u)) Q E s)
section
open PySem.SeqAt
open PySem.AutoSeq1 (wpAny_loadPart')
open PySem.MeetsSeq PySem.MeetsSeq2 PySem.MeetsSeq3
theorem Ej (l b:aiM)(items items2:Array aiH)(n n2:Nat)(dd dd2:Option aiM)(sl sl2:Array (Option aiH))(ns ms:List Int)(hi:alM items.toList ns)(hj:alM items2.toList ms):Meets (Builtin.«tuple.__lt__» ⟨[.ref l,.ref b],[]⟩) (fun _ R s=>s.heap.get? l=some {cls:=.type "tuple",dict:=dd,data:=.seq items n,slots:=sl}∧s.heap.get? b=some {cls:=.type "tuple",dict:=dd2,data:=.seq items2 n2,slots:=sl2}∧R (.ok (.ret (.bool (lexLt ns ms)))) s):=
 .of_wp fun prog w A R s h=>by
  obtain⟨hp,g,d,tk,os⟩:=s;obtain⟨hl,hb,h⟩:=h;have f2:=apJ;have z1:items.size=ns.length:=by rw[←hi.length];simp
  have z2:items2.size=ms.length:=by rw[←hj.length];simp
  wp_walk using aoP hl,aoP hb,amG _ (fun rest b s'=>b.1=none∧s'=⟨hp,g,d,tk,os⟩∧∃(vs ws:List aiH) (ns' yU:List Int),rest=vs.zip ws∧alM vs ns'∧alM ws yU∧ns'.length+items2.size=yU.length+items.size∧R (.ok (.ret (.bool (lexLt ns' yU)))) ⟨hp,g,d,tk,os⟩) _;case turn=>
   rintro⟨y,x⟩ rest b s' ⟨hb',rfl,vs,ws,ns',yU,hz,hvi,hwi,hlen,hR⟩;cases hvi with
   |nil=>rw[asf]at hz;cases hz
   |cons a t ac6=>
    cases hwi with
    |nil=>rw[arM]at hz;cases hz
    |cons c u ac7=>
     rw[amP]at hz;injection hz with hyx hrest;injection hyx with hy hx;subst hy hx;rw[m9]at hR;simp only[ajl]at hlen;obtain⟨e,he,XC⟩:=JT A.in1 ⟨hp,g,d,tk,os⟩ a t c u;refine aiD (he prog w _ _ ?_);cases e with
     |true=>rw[aiP (XC.mp rfl)]at hR;wp_walk;exact⟨rfl,rfl,_,_,_,_,hrest,ac6,ac7,by lia,hR⟩
     |false=>rw[aiL (fun q=>ai8 (XC.mpr q) aiW)]at hR;have hri:=JV A.in1 ⟨hp,g,d,tk,os⟩ a t c u prog w;wp_walk using hri;exact⟨_,rfl,by simpa using hR⟩
  case fin=>
   rintro⟨b1,b2⟩ s' ⟨hb',rfl,vs,ws,ns',yU,hz,hvi,hwi,hlen,hR⟩;simp only at hb';subst hb';have hv:lexLt ns' yU=decide (items.size<items2.size):=by
    cases hvi with
    |nil=>
     cases hwi with
     |nil=>simp only[alv]at hlen;rw[o9];exact(aiO (by lia)).symm
     |cons c u hw=>simp only[alv,ajl]at hlen;rw[ni];exact(aiQ (by lia)).symm
    |cons a t hv=>
     cases hwi with
     |nil=>simp only[alv,ajl]at hlen;rw[jm];exact(aiO (by lia)).symm
     |cons c u hw=>rw[amP]at hz;cases hz
   rw[hv]at hR;wp_walk;exact⟨_,rfl,by simpa[aoh]using hR⟩
  case h=>exact⟨rfl,rfl,items.toList,items2.toList,ns,ms,rfl,hi,hj,by lia,h⟩
end
section
variable{prog:ajr}{w:ajI}{A:ajO}{E:aiH->aiK->Prop}{s:aiK}
theorem OJ {l b:aiM}{items items2:Array aiH}{ns ms:List Int}{Q:aiH->aiK->Prop}(hl:as8 s.heap l items)(hb:as8 s.heap b items2)(hi:alM items.toList ns)(hj:alM items2.toList ms)(hu:A.units<ak8)(h:Q (.bool (lexLt ns ms)) s):ai0 (ai7 prog w) A (ake .Lt (.ref l) (.ref b)) Q E s:=by obtain⟨⟨cls,dd,data,sl⟩,ho,hc,n,hd⟩:=id hl;obtain⟨⟨cls2,dd2,data2,sl2⟩,ho2,hc2,n2,hd2⟩:=id hb;simp only at hc hd hc2 hd2;subst hc hd hc2 hd2;exact aql (op:=.Lt) ⟨_,ho,rfl⟩ ⟨_,ho2,rfl⟩ PySem.F.slot_tuple_lt PySem.F.entry_tuple_lt (PySem.F.args_tuple_lt_2 _ _) (Ej l b items items2 n n2 dd dd2 sl sl2 ns ms hi hj) ⟨ho,ho2,show alF (lexLt ns ms)≠aqS∧Q (.bool (lexLt ns ms)) s from⟨(fun x=>nomatch x),h⟩⟩ hu
theorem aa1 {t b:aiM}{vs ws:List aiH}{Q:aiH->aiK->Prop}(ht:as8 s.heap t vs.toArray)(hb:as8 s.heap b ws.toArray)(hv:vs≠[])(h1:ws=[]->Q (.ref t) s)(h2:ws≠[]->Q (.ref s.heap.objs.size) {s with heap:=s.heap.push {cls:=.type "tuple",data:=.seq (vs++ws).toArray}})(hsz:vs.length+ws.length<=aiV):ai0 (ai7 prog w) A (amm .Add (.ref t) (.ref b)) Q E s:=by
 obtain⟨⟨cls,dd,data,sl⟩,ho,hc,n,hd⟩:=id ht;obtain⟨⟨cls2,dd2,data2,sl2⟩,ho2,hc2,n2,hd2⟩:=id hb;simp only at hc hd hc2 hd2;subst hc hd hc2 hd2;have e:vs.toArray++ws.toArray=(vs++ws).toArray:=by simp
 by_cases hw:ws=[]
 .exact ash ⟨_,ho,rfl⟩ ⟨_,ho2,rfl⟩ ap0 art an1 anR (anC _ _) (tuple_addW1 t b vs.toArray ws.toArray n n2 dd dd2 sl sl2 (by simpa using hv) (by simp[hw])) ⟨ho,ho2,h1 hw⟩
 .refine ash ⟨_,ho,rfl⟩ ⟨_,ho2,rfl⟩ ap0 art an1 anR (anC _ _) (tuple_addW2 t b vs.toArray ws.toArray n n2 dd dd2 sl sl2 (by simpa using hv) (by simpa using hw) (by rw[ajk,ajk];exact hsz)) ⟨ho,ho2,?_⟩;rw[e];exact h2 hw
noncomputable def jn (n d:Nat):Option Int->Nat
 |none=>d
 |some v=>if v<0 then(v+(n:Int)).toNat else min v.toNat n
theorem JW (n d:Nat):jn n d none=d:=rfl
theorem zX (n d k:Nat):jn n d (some (k:Int))=min k n:=by show(if(k:Int)<0 then((k:Int)+(n:Int)).toNat else min (k:Int).toNat n)=min k n;rw[aiL (by lia),ai4]
theorem ac8 (n d:Nat)(hd:d<=n)(o:Option Int):jn n d o<=n:=by
 cases o with
 |none=>exact hd
 |some v=>
  show(if v<0 then(v+(n:Int)).toNat else min v.toNat n)<=n;by_cases hv:v<0
  .rw[aiP hv];lia
  .rw[aiL hv];exact aou _ _
theorem SM (v:Int)(n d:Nat):(if v<0 then max (v+(n:Int)) 0 else min v (n:Int))=((jn n d (some v):Nat):Int):=by
 show(if v<0 then max (v+(n:Int)) 0 else min v (n:Int))=(((if v<0 then(v+(n:Int)).toNat else min v.toNat n):Nat):Int);by_cases hv:v<0
 .simp only[aiP hv];lia
 .simp only[aiL hv];lia
theorem O1 (lo hi:Option Int)(n:Nat):anv lo hi 1 (n:Int)=(((jn n 0 lo:Nat):Int),((jn n n hi:Nat):Int)):=by
 have h1:¬((1:Int)<0):=by lia
 unfold anv;simp only[h1,if_false];refine aqT ?_ ?_
 .cases lo with
  |none=>rfl
  |some v=>exact SM v n 0
 .cases hi with
  |none=>rfl
  |some v=>exact SM v n n
theorem O2 (i j:Nat):ami (i:Int) (j:Int) 1=j-i:=by
 unfold ami;have h1:(1:Int)>0:=by lia
 simp only[h1,if_true,Int.ediv_one];split<;>lia
theorem Bb {v:aiH}{o:Option Int}{Q:Option Int->aiK->Prop}(p:arN v o)(h:Q o s):ai0 (ai7 prog w) A (ath v) Q E s:=by
 cases p with
 |none=>exact slicePart_none h
 |int i t=>exact slicePart_int h
theorem xf {sl:aiM}{vl vu:aiH}{lo hi:Option Int}{n:Nat}{Q:Int×Int×Nat->aiK->Prop}(hs:s.heap.IsSliceOf sl vl vu .none)(pl:arN vl lo)(pu:arN vu hi)(h:Q (((jn n 0 lo:Nat):Int),1,jn n n hi-jn n 0 lo) s):ai0 (ai7 prog w) A (apa (.ref sl) (pure (n:Int))) Q E s:=by obtain⟨os,hos,hcs,hds⟩:=id hs;unfold apa auo;refine aiD (aiD (anS hos hds (x:=vl) rfl (aiD (anS hos hds (x:=vu) rfl (aiD (anS hos hds (x:=.none) rfl (aiF ?_)))))));refine aiD (slicePart_none ?_);show ai0 _ _ (if((1:Int)==0)=true then _ else _) _ _ s;rw[aiL (by decide)];refine aiD (Bb pl (aiD (Bb pu (aiD (aiF ?_)))));show ai0 _ _ (match anv lo hi 1 (n:Int)with|(lo,hi)=>pure (lo,(1:Int),ami lo hi 1)) _ _ s;rw[O1 lo hi n];show ai0 _ _ (pure (((jn n 0 lo:Nat):Int),(1:Int),ami ((jn n 0 lo:Nat):Int) ((jn n n hi:Nat):Int) 1)) _ _ s;rw[O2];exact aiF h
theorem XD (xs:Array aiH)(i k:Nat):((aiY k).filterMap fun(m:Nat)=>xs[((i:Int)+(m:Int)*1).toNat]?).toArray=((xs.toList.drop i).take k).toArray:=by
 have e:(fun(m:Nat)=>xs[((i:Int)+(m:Int)*1).toNat]?)=fun m=>xs[i+m]?:=by
  funext m;have:((i:Int)+(m:Int)*1).toNat=i+m:=by lia
  rw[this]
 rw[e];have:=pick_run xs i k;rw[apb]at this;have e2:((fun x=>xs[x]?)∘fun x=>i+x)=fun m=>xs[i+m]?:=rfl;rw[e2]at this;rw[this]
theorem vB {t sl:aiM}{items:Array aiH}{vl vu:aiH}{lo hi:Option Int}{Q:aiH->aiK->Prop}(ht:as8 s.heap t items)(hs:s.heap.IsSliceOf sl vl vu .none)(pl:arN vl lo)(pu:arN vu hi)(hw:¬(jn items.size 0 lo=0∧jn items.size items.size hi=items.size))(h:Q (.ref s.heap.objs.size) {s with heap:=s.heap.push {cls:=.type "tuple",data:=.seq ((items.toList.drop (jn items.size 0 lo)).take (jn items.size items.size hi-jn items.size 0 lo)).toArray}})(hsz:items.size<=aiV):ai0 (ai7 prog w) A (ar7 (.ref t) (.ref sl)) Q E s:=by
 have SN:sizeOk (.seq ((items.toList.drop (jn items.size 0 lo)).take (jn items.size items.size hi-jn items.size 0 lo)).toArray):=by show((items.toList.drop (jn items.size 0 lo)).take (jn items.size items.size hi-jn items.size 0 lo)).toArray.size<=aiV;rw[ajk,ajC,akB,ajR];omega
 have hj:jn items.size items.size hi<=items.size:=ac8 _ _ (aiN _) hi;obtain⟨os,hos,hcs,hds⟩:=id hs;have hTs:s.TypeIs (.ref sl) "slice":=⟨os,hos,hcs⟩;unfold ar7;try with_reducible refine akX ?_
 first|refine aiD (aiF ?_)|skip
 refine aiD (wpAny_sequenceKey ht.typeIs (by decide) ?_);refine aiD (akC (name:=alN "__getitem__") ht.typeIs alY (aj7 alY ht.typeIs entry_tuple_getitem ?_ (args_tuple_getitem _ _)));show ai0 _ _ (ao3 (.ref t)>>=_) _ _ s;refine aiD (tupleItemsOf_ ht ?_);refine aiD (amn hTs ?_);rw[aiP (by decide)];refine aiD (xf hs pl pu ?_);have hno:¬((((jn items.size 0 lo:Nat):Int)==0&&(1:Int)==1&&(jn items.size items.size hi-jn items.size 0 lo)==items.size)=true):=by intro q;rw[aiR,aiR]at q;have q1:((jn items.size 0 lo:Nat):Int)=0:=eq_of_beq q.1.1;have q2:jn items.size items.size hi-jn items.size 0 lo=items.size:=eq_of_beq q.2;exact hw ⟨by omega,by omega⟩
 show ai0 _ _ (if(((jn items.size 0 lo:Nat):Int)==0&&(1:Int)==1&&(jn items.size items.size hi-jn items.size 0 lo)==items.size)=true then _ else _) _ _ s;rw[aiL hno,XD];first
  |exact aiD (m:=amt _) (ajX (aiF ⟨_,rfl,aiF h⟩) SN)
  |exact aiD (m:=amt _) (ajX (aiD (aiF (aiF ⟨_,rfl,aiF h⟩))) SN)
  |exact aiD (aiD (m:=amt _) (ajX (aiF (aiF ⟨_,rfl,aiF h⟩)) SN))
  |exact aiD (aiD (m:=amt _) (ajX (aiF ⟨_,rfl,aiF h⟩) SN))
end
end HT
namespace L2
open PySem PySem.Spec PyProof.Rows
abbrev TO:=St->ag4->(Option Int->ag4->Prop)->Prop
def PO (X:aif)(e:Option akb)(t:TO):Prop:=∀(pins:List (aiM×Obj)) (s:aiK) (σ:St) (H:ag4) (Q:Option Int->ag4->Prop),Inv X pins σ H s->t σ H Q->ai0 (ai7 X.prog X.w) X.A (evalPart e X.env) (fun u s'=>∃o H',Inv X pins σ H' s'∧arN u o∧Q o H') X.xe s
def aa2:TO:=fun _ H Q=>Q none H
def aeD (t:TE):TO:=fun σ H Q=>t σ H fun x H1=>∃i,x=.int i∧Q (some i) H1
theorem intsAre_of {ns:List Int}:∀{us:List aiH},Vals (ns.map V.int) us->alM us ns:=by
 induction ns with
 |nil=>intro us r;rw[an2]at r;cases r;exact .nil
 |cons n ns ih=>
  intro us r;rw[ajd]at r;cases r with
  |cons r1 r2=>obtain⟨t,e⟩:=r1;subst e;exact .cons n t (ih r2)
section
variable{X:aif}{e:akb}{te:TE}{lo hi:Option akb}{tl th:TO}{pos p2:Pos}
theorem oA:PO X none aa2:=by intro pins s σ H Q I h;rw[aru];exact aiF ⟨none,H,I,.none,h⟩
theorem oE (h:PE X e te):PO X (some e) (aeD te):=by intro pins s σ H Q I hw;rw[evalPart_some];refine cC (h pins s σ H _ I hw) fun u s1 ⟨x,H1,I1,r1,q1⟩=>?_;obtain⟨i,rfl,q⟩:=q1;obtain⟨t,rfl⟩:=r1;exact⟨some i,H1,I1,.int i t,q⟩
def SlR (X:aif)(r:V->Option Int->Option Int->ag4->ahY->Prop):Prop:=∀(pins:List (aiM×Obj)) (s:aiK) (σ:St) (H:ag4) (x:V) (v vl vu:aiH) (lo hi:Option Int) (sl:aiM) (Q:ahY),Inv X pins σ H s->RelV x v->s.heap.IsSliceOf sl vl vu .none->arN vl lo->arN vu hi->r x lo hi H Q->∃T id,atL (.type T) "__getitem__"=pure (some (.builtin id))∧s.TypeIs v T∧ai0 (ai7 X.prog X.w) X.A (ar7 v (.ref sl)) (EP X pins σ Q) X.xe s
def tSl (r:V->Option Int->Option Int->ag4->ahY->Prop)(te:TE)(tl th:TO):TE:=fun σ H Q=>te σ H fun x H1=>tl σ H1 fun l H2=>th σ H2 fun u ahq=>r x l u ahq Q
theorem lL {r:V->Option Int->Option Int->ag4->ahY->Prop}(hr:SlR X r)(he:PE X e te)(hl:PO X lo tl)(hu:PO X hi th):PE X (.Subscript e (.Slice lo hi none p2) pos) (tSl r te tl th):=by intro pins s σ H Q I h;refine atM (cC (he pins s σ H _ I h) fun v s1 ⟨x,H1,I1,r1,q1⟩=>?_);refine wpAny_Slice (cC (hl pins s1 σ H1 _ I1 q1) fun vl s2 ⟨l,H2,agY,pl,q2⟩=>cC (hu pins s2 σ H2 _ agY q2) fun vu s3 ⟨u,ahq,agy,pu,q3⟩=>?_);rw[aru];refine aiF ?_;have ag5:Inv X pins σ ahq {s3 with heap:=s3.heap.push {cls:=.type "slice",data:=.fields #[vl,vu,.none]}}:=agy.kept (t':=s3.toks) fun b ob q=>aiS _ q;obtain⟨T,id,hT,ht,hg⟩:=hr pins {s3 with heap:=s3.heap.push {cls:=.type "slice",data:=.fields #[vl,vu,.none]}} σ ahq x v vl vu l u s3.heap.objs.size Q ag5 r1 (arO ..) pl pu q3;show ai0 (ai7 X.prog X.w) X.A (arv e (.Slice lo hi none p2) v (.ref s3.heap.objs.size)) (EP X pins σ Q) X.xe {s3 with heap:=s3.heap.push {cls:=.type "slice",data:=.fields #[vl,vu,.none]}};exact tail_any (ops:=[.ref s3.heap.objs.size,v]) ht hT hg (by with_unfolding_all rfl)
noncomputable def jZ (xs:List V)(lo hi:Option Int):List V:=(xs.drop (HT.jn xs.length 0 lo)).take (HT.jn xs.length xs.length hi-HT.jn xs.length 0 lo)
theorem yV (xs:List V)(lo hi:Option Int):(jZ xs lo hi).length<=xs.length:=by unfold jZ;rw[ajC,akB];omega
def afG (K:aiU):V->Option Int->Option Int->ag4->ahY->Prop:=fun x lo hi H Q=>∃a xs,x=.ref a∧cD K H a xs∧¬(HT.jn xs.length 0 lo=0∧HT.jn xs.length xs.length hi=xs.length)∧∀p,H p=none->Q (.ref p) (upd H p (.tup (jZ xs lo hi)))
theorem Hv:SlR X (afG X.K):=by
 intro pins s σ H x v vl vu lo hi sl Q I rx hs pl pu h;obtain⟨a,xs,rfl,hx,hw,q⟩:=h;cases rx;obtain⟨its,r,ht,hz⟩:=I.tuple hx;have hlen:its.toArray.size=xs.length:=by rw[ajk];exact r.length.symm
 refine⟨"tuple",_,alY.lookup,ht.typeIs,?_⟩;refine HT.vB ht hs pl pu (by rw[hlen];exact hw) ?_ (by rw[hlen];exact hz);rw[hlen];refine⟨.ref s.heap.objs.size,_,I.laid (t':=s.toks) (o:=.tup (jZ xs lo hi)) (fun b ob q=>aiS _ q) (aiN _) ?_,rfl,q _ (I.hok.fresh (aiN _))⟩;exact⟨ajt (yV xs lo hi) hz,_,(r.drop (HT.jn xs.length 0 lo)).take (HT.jn xs.length xs.length hi-HT.jn xs.length 0 lo),IsTup.new _ _⟩
def acE (K:aiU):aho:=fun x y H Q=>∃a b xs ys,x=.ref a∧y=.ref b∧cD K H a xs∧cD K H b ys∧xs≠[]∧xs.length+ys.length<=aiV∧(ys=[]->Q (.ref a) H)∧(ys≠[]->∀p,H p=none->Q (.ref p) (upd H p (.tup (xs++ys))))
theorem Vals.Hw {xs:List V}{us:List aiH}(r:Vals xs us):us=[]↔xs=[]:=by
 cases r with
 |nil=>simp
 |cons _ _=>simp
theorem aa3:qt X (amm .Add) (acE X.K):=by intro pins s σ H x y v u Q I rx ry h;obtain⟨a,b,xs,ys,rfl,rfl,ha,hb,hx,hz,q1,q2⟩:=h;cases rx;cases ry;obtain⟨its,r1,p1,_⟩:=I.tuple ha;obtain⟨its2,r2,p2,_⟩:=I.tuple hb;refine HT.aa1 p1 p2 (fun z=>hx (r1.Hw.mp z)) (fun z=>⟨.ref a,H,I,rfl,q1 (r2.Hw.mp z)⟩) (fun z=>?_) (by rw[←r1.length,←r2.length];exact hz);refine⟨.ref s.heap.objs.size,_,I.laid (t':=s.toks) (o:=.tup (xs++ys)) (fun b ob q=>aiS _ q) (aiN _) ?_,rfl,q2 (fun w=>z (r2.Hw.mpr w)) _ (I.hok.fresh (aiN _))⟩;exact⟨by rw[aiZ];exact hz,_,r1.append r2,IsTup.new _ _⟩
end
noncomputable def XF (n:Nat)(i:Int):Option Nat:=if 0<=i then(if i<n then some i.toNat else none)else if-(n:Int)<=i then some (i+n).toNat else none
noncomputable def Ek {α:Type}(xs:List α)(i:Int):Option α:=(XF xs.length i).bind fun j=>xs[j]?
theorem SQ {n:Nat}{i:Int}{j:Nat}(h:XF n i=some j):seqIndex? i n=some j∧j<n∧-(n:Int)<=i∧i<n:=by
 unfold XF at h;by_cases h0:0<=i
 .rw[aiP h0]at h;by_cases h1:i<n
  .rw[aiP h1]at h;have e:i.toNat=j:=ajn h;exact⟨by rw[as9 h0 h1,e],by lia,by lia,h1⟩
  .rw[aiL h1]at h;cases h
 .rw[aiL h0]at h;by_cases h1:-(n:Int)<=i
  .rw[aiP h1]at h;have e:(i+n).toNat=j:=ajn h;exact⟨by rw[asi (by lia) h1,e],by lia,h1,by lia⟩
  .rw[aiL h1]at h;cases h
theorem SX {α:Type}{xs:List α}{i:Int}{v:α}(h:Ek xs i=some v):∃j,seqIndex? i xs.length=some j∧xs[j]?=some v∧j<xs.length∧-(xs.length:Int)<=i∧i<xs.length:=by
 unfold Ek at h;cases e:XF xs.length i with
 |none=>rw[e]at h;cases h
 |some j=>rw[e]at h;obtain⟨h1,h2,h3,h4⟩:=SQ e;exact⟨j,h1,h,h2,h3,h4⟩
theorem qD {α:Type}{xs:List α}{j:Nat}{v:α}(h:xs[j]?=some v):Ek xs (j:Int)=some v:=by
 have hj:j<xs.length:=(ajj.mp h).1;have e:XF xs.length (j:Int)=some j:=by unfold XF;rw[aiP (by lia),aiP (by lia)];simp
 unfold Ek;rw[e];exact h
theorem JX {α:Type}(xs:List α)(v:α):Ek (xs++[v]) (-1)=some v:=by
 have hl:(xs++[v]).length=xs.length+1:=by simp
 have e:XF (xs++[v]).length (-1)=some xs.length:=by unfold XF;rw[hl,aiL (by decide),aiP (by lia)];congr 1;lia
 unfold Ek;rw[e];show(xs++[v])[xs.length]?=some v;simp
def S5 (b:akb):Prop:=∀o i,subscripted b false o i=operate [o,i] (ar7 o i)
def IxR (X:aif)(r:aho):Prop:=∀(value slice:akb) (pins:List (aiM×Obj)) (s:aiK) (σ:St) (H:ag4) (x y:V) (v u:aiH) (Q:ahY),Inv X pins σ H s->RelV x v->RelV y u->r x y H Q->subscripted slice false v u=operate [v,u] (ar7 v u)->ai0 (ai7 X.prog X.w) X.A (arv value slice v u) (EP X pins σ Q) X.xe s
def MtR (X:aif)(id:String)(r:V->List V->ag4->ahY->Prop):Prop:=∀(pins:List (aiM×Obj)) (s:aiK) (σ:St) (H:ag4) (x:V) (xs:List V) (v:aiH) (us:List aiH) (Q:ahY),Inv X pins σ H s->RelV x v->Vals xs us->r x xs H Q->ai0 (ai7 X.prog X.w) X.A (call (.builtin id) (v::us)) (EP X pins σ Q) X.xe s
section
variable{X:aif}{a b:akb}{ta tb:TE}{pos:Pos}
theorem bA {r:aho}(hr:IxR X r)(ha:PE X a ta)(hb:PE X b tb)(hs:S5 b):PE X (.Subscript a b pos) (tOp r ta tb):=by intro pins s σ H Q I h;exact atM (ac0 ha hb I h fun v u s2 x y H2 agY rx ry q=>hr a b pins s2 σ H2 x y v u Q agY rx ry q (hs _ _))
def aeE (K:aiU):aho:=fun x y H Q=>∃p xs i v,x=.ref p∧y=.int i∧bk K H p xs∧Ek xs i=some v∧Q v H
def aeF (K:aiU):aho:=fun x y H Q=>∃p xs i v,x=.ref p∧y=.int i∧cD K H p xs∧Ek xs i=some v∧Q v H
theorem dX:IxR X (aeE X.K):=by
 intro value slice pins s σ H x y v u Q I rx ry h hs;obtain⟨p,xs,i,z,rfl,rfl,hq,he,q⟩:=h;cases rx;obtain⟨t,rfl⟩:=ry;obtain⟨its,r,pl,hz⟩:=I.list hq;obtain⟨j,h1,h2,h3,h4,h5⟩:=SX he;obtain⟨w,ew,rw'⟩:=r.get h2;have hl:=r.length;have hn:=Az;have fin:EP X pins σ Q w s:=⟨z,H,I,rw',q⟩;by_cases h0:0<=i
 .have hj:i.toNat=j:=by rw[as9 h0 h5]at h1;exact ajn h1
  exact item_listR pl.isList h0 (by lia) (by rw[hj];simpa using ew) fin hs
 .have hj:(i+(its.toArray.size:Int)).toNat=j:=by rw[asi (by lia) h4]at h1;rw[ajk,←hl];exact ajn h1
  exact aqm (x:=w) pl.isList.typeIs apA.lookup (wpAny_getItem_list_neg (Q:=fun r s'=>r=w∧EP X pins σ Q r s') pl.isList (by lia) (by rw[ajk]<;>lia) (by lia) (by rw[hj];simpa using ew) ⟨rfl,fin⟩) hs
theorem bG:IxR X (aeF X.K):=by intro value slice pins s σ H x y v u Q I rx ry h hs;obtain⟨p,xs,i,z,rfl,rfl,hq,he,q⟩:=h;cases rx;obtain⟨t,rfl⟩:=ry;obtain⟨its,r,pl,hz⟩:=I.tuple hq;obtain⟨j,h1,h2,h3,h4,h5⟩:=SX he;obtain⟨w,ew,rw'⟩:=r.get h2;have hl:=r.length;have hn:=Az;have fin:EP X pins σ Q w s:=⟨z,H,I,rw',q⟩;exact aqm (x:=w) pl.typeIs alY.lookup (getItem_tuple (j:=j) (Q:=fun r s'=>r=w∧EP X pins σ Q r s') pl (by lia) (by lia) (by rw[ajk,←hl];exact h1) (by simpa using ew) ⟨rfl,fin⟩) hs
theorem O3 (its:List aiH)(n j:Nat)(u:aiH):aj2 (·.setIfInBounds j u) {cls:=.type "list",data:=.seq its.toArray n}={cls:=.type "list",data:=.seq (its.set j u).toArray n}:=by simp[aj2]
theorem Inv.lst {pins:List (aiM×Obj)}{σ:St}{H:ag4}{s:aiK}{p:aiM}{xs:List V}(I:Inv X pins σ H s)(h:H p=some (.lst xs)):∃(its:List aiH) (n:Nat),Vals xs its∧s.heap.get? p=some {cls:=.type "list",data:=.seq its.toArray n}∧xs.length<=aiV:=by obtain⟨z,its,n,r,e⟩:=I.hok p _ h;exact⟨its,n,r,e,z⟩
theorem Inv.ac9 {pins:List (aiM×Obj)}{σ:St}{H:ag4}{s:aiK}{p:aiM}{xs ys:List V}{its its':List aiH}{n n':Nat}{f:Obj->Obj}(I:Inv X pins σ H s)(h:H p=some (.lst xs))(ho:s.heap.get? p=some {cls:=.type "list",data:=.seq its.toArray n})(hf:f {cls:=.type "list",data:=.seq its.toArray n}={cls:=.type "list",data:=.seq its'.toArray n'})(r:Vals ys its')(hz:ys.length<=aiV)(t:Nat):Inv X pins σ (upd H p (.lst ys)) {s with heap:=s.heap.update p f,toks:=t}:=by
 have e:(s.heap.update p f).get? p=some {cls:=.type "list",data:=.seq its'.toArray n'}:=by rw[ajV f ho (by rw[hf]<;>rfl),hf]
 refine I.write (x:=p) (e:=p) (by rw[h];trivial) (.inl rfl) (fun b u hb q=>(akg _ _ (al3 hb)).trans q) ⟨_,e⟩ ?_;exact⟨hz,its',n',r,e⟩
def aeG:V->V->V->ag4->(ag4->Prop)->Prop:=fun o i v H Q=>∃p xs k j,o=.ref p∧i=.int k∧H p=some (.lst xs)∧XF xs.length k=some j∧Q (upd H p (.lst (xs.set j v)))
theorem set_list:aep X aeG:=by
 intro pins s σ H o i v ov iv u Q I ro ri rv h;obtain⟨p,xs,k,j,rfl,rfl,hp,hj,q⟩:=h;cases ro;obtain⟨t,rfl⟩:=ri;obtain⟨its,n,r,ho,hz⟩:=I.lst hp;obtain⟨h1,h2,h3,h4⟩:=SQ hj;have hl:=r.length;have hn:=Az;have I':Inv X pins σ (upd H p (.lst (xs.set j v))) {s with heap:=s.heap.update p (aj2 (·.setIfInBounds j u))}:=I.ac9 hp ho (O3 its n j u) (r.set rv j) (by rw[List.length_set];exact hz) s.toks;by_cases h0:0<=k
 .have hk:k.toNat=j:=by rw[as9 h0 h4]at h1;exact ajn h1
  exact PySem.W.ki_setAt ho h0 (by lia) (by rw[ajk,←hl];exact h4) (by rw[hk];exact⟨_,I',q⟩)
 .have hk:(k+(its.toArray.size:Int)).toNat=j:=by rw[asi (by lia) h3]at h1;rw[ajk,←hl];exact ajn h1
  exact PySem.W.ki_setBack ho (by lia) (by rw[ajk,←hl];exact h3) (by lia) (by rw[hk];exact⟨_,I',q⟩)
theorem Hx (lo hi:Option Int)(n:Nat):(anT lo hi none n).1=((HT.jn n 0 lo:Nat):Int)∧(anT lo hi none n).2.1=((HT.jn n n hi:Nat):Int)∧(anT lo hi none n).2.2=1:=by
 refine⟨?_,?_,rfl⟩
 .cases lo with
  |none=>simp[anT,HT.jn]
  |some i=>
   simp only[anT,HT.jn,asK,show(1:Int)>0 by decide,if_true];by_cases h:i<0
   .simp only[h,if_true]<;>lia
   .simp only[h,if_false]<;>lia
 .cases hi with
  |none=>simp[anT,HT.jn]
  |some i=>
   simp only[anT,HT.jn,asK,show(1:Int)>0 by decide,if_true];by_cases h:i<0
   .simp only[h,if_true]<;>lia
   .simp only[h,if_false]<;>lia
theorem El (its:List aiH)(lo hi:Option Int):slicePick its.toArray lo hi none=((its.drop (HT.jn its.length 0 lo)).take (HT.jn its.length its.length hi-HT.jn its.length 0 lo)).toArray:=by obtain⟨h1,h2,h3⟩:=Hx lo hi its.toArray.size;unfold slicePick;rw[h1,h2,h3];simp only[sliceRange_one,pick_run,ajk]<;>rfl
def afH (K:aiU):V->Option Int->Option Int->ag4->ahY->Prop:=fun x lo hi H Q=>∃a xs,x=.ref a∧bk K H a xs∧∀p,H p=none->Q (.ref p) (upd H p (.lst (jZ xs lo hi)))
theorem zY:SlR X (afH X.K):=by intro pins s σ H x v vl vu lo hi sl Q I rx hs pl pu h;obtain⟨a,xs,rfl,hx,q⟩:=h;cases rx;obtain⟨its,r,ht,hz⟩:=I.list hx;have hlen:=r.length;refine⟨"list",_,apA.lookup,ht.isList.typeIs,?_⟩;refine apK ht.isList hs pl pu .none (by simp) ?_ (by rw[ajk]<;>lia);rw[El,←hlen];refine⟨.ref s.heap.objs.size,_,I.laid (t':=s.toks) (o:=.lst (jZ xs lo hi)) (fun b ob q=>aiS _ q) (aiN _) ?_,rfl,q _ (I.hok.fresh (aiN _))⟩;exact⟨ajt (yV xs lo hi) hz,_,0,(r.drop (HT.jn xs.length 0 lo)).take (HT.jn xs.length xs.length hi-HT.jn xs.length 0 lo),ajg _ rfl⟩
noncomputable def mG:V->Bool
 |.non=>true
 |.bl _=>true
 |.int _=>true
 |.str _=>true
 |_=>false
noncomputable def xg:V->V->Bool
 |.non,.non=>true
 |.bl a,.bl b=>a==b
 |.bl a,.int b=>(if a then 1 else 0)==b
 |.int a,.bl b=>a==(if b then 1 else 0)
 |.int a,.int b=>a==b
 |.str a,.str b=>a==b
 |_,_=>false
theorem ac' {A:ajO}{s:aiK}{y x:V}{u v:aiH}(ry:RelV y u)(rx:RelV x v)(fy:mG y=true)(fx:mG x=true):aqk A s u v (xg y x):=by
 cases y with
 |non=>
  cases ry;cases x with
  |non=>cases rx;exact SeqAt.EqAt.same _
  |bl b=>cases rx;exact SeqAt.EqAt.none_bool b
  |int b=>obtain⟨t,rfl⟩:=rx;exact SeqAt.EqAt.none_int b t
  |str b=>obtain⟨t,rfl⟩:=rx;exact SeqAt.EqAt.none_str b t
  |_=>exact ai8 (show false=true from fx) aiW
 |bl a=>
  cases ry;cases x with
  |non=>cases rx;exact SeqAt.EqAt.bool_none a
  |bl b=>cases rx;exact SeqAt.EqAt.bool_bool a b
  |int b=>obtain⟨t,rfl⟩:=rx;exact SeqAt.EqAt.bool_int a b t
  |str b=>obtain⟨t,rfl⟩:=rx;exact SeqAt.EqAt.bool_str a b t
  |_=>exact ai8 (show false=true from fx) aiW
 |int a=>
  obtain⟨t',rfl⟩:=ry;cases x with
  |non=>cases rx;exact SeqAt.EqAt.int_none a t'
  |bl b=>cases rx;exact SeqAt.EqAt.int_bool a t' b
  |int b=>obtain⟨t,rfl⟩:=rx;exact arL a t' b t
  |str b=>obtain⟨t,rfl⟩:=rx;exact arG a t' b t
  |_=>exact ai8 (show false=true from fx) aiW
 |str a=>
  obtain⟨t',rfl⟩:=ry;cases x with
  |non=>cases rx;exact SeqAt.EqAt.str_none a t'
  |bl b=>cases rx;exact SeqAt.EqAt.str_bool a t' b
  |int b=>obtain⟨t,rfl⟩:=rx;exact arH a t' b t
  |str b=>obtain⟨t,rfl⟩:=rx;exact SeqAt.EqAt.str_str a t' b t
  |_=>exact ai8 (show false=true from fx) aiW
 |_=>exact ai8 (show false=true from fy) aiW
noncomputable def Gp (x:V)(u:aiH):Bool:=match u with
 |.none=>xg .non x
 |.bool b=>xg (.bl b) x
 |.int i _=>xg (.int i) x
 |.str z _=>xg (.str z) x
 |_=>false
theorem Bc {x y:V}{u:aiH}(r:RelV y u)(f:mG y=true):Gp x u=xg y x:=by
 cases y with
 |non=>cases r;rfl
 |bl b=>cases r;rfl
 |int i=>obtain⟨t,rfl⟩:=r;rfl
 |str z=>obtain⟨t,rfl⟩:=r;rfl
 |_=>exact ai8 (show false=true from f) aiW
theorem vC {x:V}:∀{xs:List V} {us:List aiH},Vals xs us->xs.all mG=true->us.any (Gp x)=xs.any fun y=>xg y x
 |_,_,.nil,_=>rfl
 |y::xs,u::us,.cons r t,f=>by
  rw[apL,aiR]at f
  rw[am2,am2,Bc r f.1,vC t f.2]
theorem nj {A:ajO}{s:aiK}{x:V}{v:aiH}(rx:RelV x v)(fx:mG x=true):∀{xs:List V} {us:List aiH},Vals xs us->xs.all mG=true->∀u∈us,aqk A s u v (Gp x u)
 |_,_,.nil,_=>fun u hu=>by cases hu
 |y::xs,u::us,.cons r t,f=>fun u' hu=>by
  rw[apL,aiR]at f
  rcases ai3.mp hu with rfl|hu
  ·rw[Bc r f.1];exact ac' r rx f.1 fx
  ·exact nj rx fx t f.2 u' hu
noncomputable def inV (x:V)(xs:List V):Bool:=xs.any fun y=>xg y x
def rIn (K:aiU)(neg:Bool):aho:=fun x y H Q=>∃p xs,y=.ref p∧(bk K H p xs∨cD K H p xs)∧mG x=true∧xs.all mG=true∧Q (.bl (if neg then !inV x xs else inV x xs)) H
theorem U3:qt X (ake .In) (rIn X.K false):=by
 intro pins s σ H x y v u Q I rx ry h;obtain⟨p,xs,rfl,hq,fx,fs,q⟩:=h;cases ry;rcases hq with hq|hq
 .obtain⟨its,r,pl,hz⟩:=I.list hq;refine ati (Gp x) pl.isList (fun w hw=>nj rx fx r fs w (by simpa using hw)) ⟨.bl _,H,I,rfl,?_⟩;rw[show its.toArray.any (Gp x)=its.any (Gp x) by simp,vC r fs];exact q
 .obtain⟨its,r,pl,hz⟩:=I.tuple hq;refine SeqAt.in_tupleAt (Gp x) pl (fun w hw=>nj rx fx r fs w (by simpa using hw)) ⟨.bl _,H,I,rfl,?_⟩;rw[show its.toArray.any (Gp x)=its.any (Gp x) by simp,vC r fs];exact q
theorem vD:qt X (ake .NotIn) (rIn X.K true):=by
 intro pins s σ H x y v u Q I rx ry h;obtain⟨p,xs,rfl,hq,fx,fs,q⟩:=h;cases ry;rcases hq with hq|hq
 .obtain⟨its,r,pl,hz⟩:=I.list hq;refine arP (Gp x) pl.isList (fun w hw=>nj rx fx r fs w (by simpa using hw)) ⟨.bl _,H,I,rfl,?_⟩;rw[show its.toArray.any (Gp x)=its.any (Gp x) by simp,vC r fs];exact q
 .obtain⟨its,r,pl,hz⟩:=I.tuple hq;refine SeqAt.notIn_tupleAt (Gp x) pl (fun w hw=>nj rx fx r fs w (by simpa using hw)) ⟨.bl _,H,I,rfl,?_⟩;rw[show its.toArray.any (Gp x)=its.any (Gp x) by simp,vC r fs];exact q
theorem di:jb X (.builtin "len") (fun xs H Q=>∃p ys,xs=[.ref p]∧(bk X.K H p ys∨cD X.K H p ys)∧Q (.int ys.length) H):=by
 intro pins s σ H xs us Q I r h;obtain⟨p,ys,rfl,hq,q⟩:=h;obtain⟨u,rfl,rx⟩:=vals1 r;cases rx;have hn:=Az;rcases hq with hq|hq
 .obtain⟨its,r',pl,hz⟩:=I.list hq;have hlen:=r'.length;exact Calls.call_len_list pl.isList (by simp only[ajk]<;>lia) ⟨.int ys.length,H,I.tok _,⟨s.toks+1,by rw[ajk,hlen]⟩,q⟩
 .obtain⟨its,r',pl,hz⟩:=I.tuple hq;have hlen:=r'.length;exact len_tuple pl (by simp only[ajk]<;>lia) ⟨.int ys.length,H,I.tok _,⟨s.toks+1,by rw[ajk,hlen]⟩,q⟩
theorem Hy:jb X (.type "list") (fun xs H Q=>∃p ys,xs=[.ref p]∧(bk X.K H p ys∨cD X.K H p ys)∧∀l,H l=none->Q (.ref l) (upd H l (.lst ys))):=by
 intro pins s σ H xs us Q I r h;obtain⟨p,ys,rfl,hq,q⟩:=h;obtain⟨u,rfl,rx⟩:=vals1 r;cases rx;have fin:∀(its:List aiH),Vals ys its->ys.length<=aiV->∀(h':aj4) (c':Nat),(∀b o',s.heap.get? b=some o'->h'.get? b=some o')->
  h'.get? s.heap.objs.size=some {cls:=.type "list",dict:=none,data:=.seq its.toArray c',slots:=#[]}->EP X pins σ Q (.ref s.heap.objs.size) {s with heap:=h'}:=fun its r' hz h' c' kp e=>
  ⟨.ref s.heap.objs.size,_,I.laid (t':=s.toks) kp (aiN _) (show b8 X.prog X.w _ h' _ (.lst ys)from⟨hz,its,c',r',e⟩),rfl,q _ (I.hok.fresh (aiN _))⟩
 rcases hq with hq|hq
 .obtain⟨its,r',pl,hz⟩:=I.list hq;have hlen:=r'.length;obtain⟨o,ho,hc,n,hd⟩:=pl.isList;exact call_list_seq p (.inl rfl) ho hc hd (fun h' c' kp e=>fin its r' hz h' c' kp e) (by simp only[ajk]<;>lia)
 .obtain⟨its,r',pl,hz⟩:=I.tuple hq;have hlen:=r'.length;obtain⟨o,ho,hc,n,hd⟩:=pl;exact call_list_seq p (.inr rfl) ho hc hd (fun h' c' kp e=>fin its r' hz h' c' kp e) (by simp only[ajk]<;>lia)
def tyV (K:aiU)(T:String)(x:V)(H:ag4):Prop:=match x with
 |.str _=>T="str"
 |.int _=>T="int"
 |.ref p=>(T="list"∧∃xs,bk K H p xs)∨(T="tuple"∧∃o,K.lookup p=some o∧o.cls=.type "tuple"∧o.dict=none)∨(T="dict"∧((∃kvs,H p=some (.ah2 kvs))∨∃B kvs,H p=some (.dT B kvs)))∨(T="set"∧∃S n,H p=some (.set S n))
 |_=>False
theorem XH {pins:List (aiM×Obj)}{σ:St}{H:ag4}{s:aiK}{T:String}{x:V}{v:aiH}(I:Inv X pins σ H s)(r:RelV x v)(ty:tyV X.K T x H):s.TypeIs v T∧∀a,v=.ref a->∃ob,s.heap.get? a=some ob∧ob.dict=none:=by
 cases x with
 |str z=>obtain⟨t,rfl⟩:=r;cases(show T="str" from ty);exact⟨typeIs_str s z t,fun _ e=>nomatch e⟩
 |int i=>obtain⟨t,rfl⟩:=r;cases(show T="int" from ty);exact⟨arQ s i t,fun _ e=>nomatch e⟩
 |ref p=>
  cases r;rcases ty with⟨rfl,xs,hq⟩|⟨rfl,o,hk,hc,hd⟩|⟨rfl,hk⟩|⟨rfl,S,n,hk⟩
  .obtain⟨its,_,pl,_⟩:=I.list hq;refine⟨pl.isList.typeIs,fun a e=>?_⟩;cases e;obtain⟨o,n,e,c,hd,_⟩:=pl;exact⟨o,e,hd⟩
  .refine⟨⟨o,I.wX p o hk,hc⟩,fun a e=>?_⟩;cases e;exact⟨o,I.wX _ o hk,hd⟩
  .have z:∃o,s.heap.get? p=some o∧o.ExactDict:=by
    rcases hk with⟨kvs,hk⟩|⟨B,kvs,hk⟩
    .obtain⟨_,_,_,_,o,_,_,e,ex,_⟩:=I.hok p _ hk;exact⟨o,e,ex⟩
    .obtain⟨_,_,_,_,o,_,_,e,ex,_⟩:=I.hok p _ hk;exact⟨o,e,ex⟩
   obtain⟨o,e,ex⟩:=z;refine⟨⟨o,e,ex.1⟩,fun a e2=>?_⟩;cases e2;exact⟨o,e,ex.2.1⟩
  .obtain⟨o,_,_,_,e,ex,_⟩:=I.hok p _ hk;refine⟨⟨o,e,ex.1⟩,fun a e2=>?_⟩;cases e2;exact⟨o,e,ex.2.1⟩
 |_=>exact alH ty
def tBM (K:aiU)(T:String)(r:V->List V->ag4->ahY->Prop)(to:TE)(t:TA):TE:=fun σ H Q=>to σ H fun x H1=>tyV K T x H1∧t σ H1 fun xs H2=>r x xs H2 Q
variable{o e:akb}{es:List akb}{to:TE}{t:TA}{name:Str}{apos cpos:Pos}{T id:String}{r:V->List V->ag4->ahY->Prop}
theorem rO (pa:PlainAttrs T)(slot:Slot T name id)(hty:typeOf (.builtin id)=pure (.type "method_descriptor"))(hm:MtR X id r)(ho:PE X o to)(ha:PA X (e::es) t)(hbase:am1 o name X.env (alg o X.env)=alg o X.env:=by rfl)(hfew:((amO cpos (ajF (e::es) X.env)).all (fun x=>!x.1)&&(apW cpos (anQ [] X.env)).all (fun x=>x.1.isSome)&&decide ((e::es).length+([]:List asj).length+(if([]:List asj).isEmpty then 0 else 1)<30))=true:=by rfl)(hline:(apos.endLine==cpos.line)=true:=by rfl)(hs:ajF (e::es) X.env=(false,alg e X.env)::ajF es X.env:=by rfl)(hplain:(amO cpos (ajF es X.env)).any (·.1)=false:=by rfl):PE X (.Call (.Attribute o name apos) (e::es) [] cpos) (tBM X.K T r to t):=by intro pins s σ H Q I h;refine wpAny_Call_method_late hbase hfew hline rfl (cC (ho pins s σ H _ I h) fun v s1 ⟨x,H1,I1,r1,ty,q1⟩=>?_);obtain⟨h1,h2⟩:=XH I1 r1 ty;refine⟨T,id,pa,slot,hty,h1,h2,?_⟩;have hA:=ha cpos pins s1 σ H1 _ I1 q1;rw[hs]at hA ⊢;refine an3 (by show(false||(amO cpos (ajF es X.env)).any (·.1))=false;rw[hplain]<;>rfl) (aoE ?_);exact cC hA fun us s2 ⟨vs,H2,agY,r2,q2⟩=>hm pins s2 σ H2 x vs v us Q agY r1 r2 q2
end
def MtM (X:aif)(id:String)(r:V->List V->ag4->ahY->Prop):Prop:=∀(pins:List (aiM×Obj)) (s:aiK) (σ:St) (H:ag4) (x:V) (xs:List V) (v:aiH) (us:List aiH) (Q:ahY),Inv X pins σ H s->RelV x v->Vals xs us->r x xs H Q->ai0 (ai7 X.prog X.w) X.A (call (.builtin id) (v::us)) (EP X pins σ Q) X.xe s
theorem Vals.one:∀{x:V} {us:List aiH},Vals [x] us->∃u,us=[u]∧RelV x u
 |_,_,.cons r .nil=>⟨_,rfl,r⟩
theorem Vals.reverse {xs:List V}{us:List aiH}(h:Vals xs us):Vals xs.reverse us.reverse:=by
 induction h with
 |nil=>exact .nil
 |cons r t ih=>rw[asl,asl];exact Vals.append ih (.cons r .nil)
theorem Vals.rep {xs:List V}{us:List aiH}(h:Vals xs us):∀k:Nat,Vals (akc k xs).flatten (akc k us).flatten
 |0=>.nil
 |k+1=>by
  rw[amz,amz,an4,an4]
  exact Vals.append h (Vals.rep h k)
theorem foldl_rep (its:List aiH):∀(k:Nat) (acc:List aiH),
  atN (fun x1 x2=>x1++x2) acc.toArray (akc k its.toArray)=(acc++(akc k its).flatten).toArray
 |0,acc=>by simp
 |k+1,acc=>by
  have e:acc.toArray++its.toArray=(acc++its).toArray:=by simp
  have e2:(acc++its)++(akc k its).flatten=acc++(akc (k+1) its).flatten:=by
   rw[amz,an4,ak6]
  rw[←e2,←foldl_rep its k (acc++its),←e,amz,aoQ]
section
variable{X:aif}{pins:List (aiM×Obj)}{σ:St}{H:ag4}{s:aiK}{l b:aiM}{xs ys zs:List V}
theorem Inv.aeH {its its':List aiH}{n:Nat}{f:Array aiH->Array aiH}{t':Nat}(I:Inv X pins σ H s)(hH:H l=some (.lst xs))(e:s.heap.get? l=some {cls:=.type "list",data:=.seq its.toArray n})(hf:f its.toArray=its'.toArray)(hv:Vals ys its')(hz:ys.length<=aiV):Inv X pins σ (upd H l (.lst ys)) {s with heap:=s.heap.update l (aj2 f),toks:=t'}:=by have q:=PySem.IsL.update e f;rw[hf]at q;refine I.write (x:=l) (e:=l) (by rw[hH];exact trivial) (.inl rfl) (fun b' u hb hu=>(akg s.heap (aj2 f) (al3 hb)).trans hu) ⟨_,q⟩ ?_;exact⟨hz,its',_,hv,q⟩
theorem Inv.ada {its:List aiH}{t':Nat}(I:Inv X pins σ H s)(hv:Vals ys its)(hz:ys.length<=aiV):Inv X pins σ (upd H s.heap.objs.size (.lst ys)) {s with heap:=s.heap.push {cls:=.type "list",data:=.seq its.toArray},toks:=t'}:=I.laid (fun _ _ q=>aiS _ q) (aiN _) ⟨hz,its,0,hv,ajg _ rfl⟩
theorem Inv.fresh (I:Inv X pins σ H s):H s.heap.objs.size=none:=I.hok.fresh (aiN _)
theorem Inv.U4 (I:Inv X pins σ H s)(hH:H l=some (.lst xs)):xs.length<=aiV∧∃(its:List aiH) (n:Nat),Vals xs its∧xs.length=its.length∧s.heap.get? l=some {cls:=.type "list",data:=.seq its.toArray n}:=by obtain⟨z,its,n,r,e⟩:=I.hok l _ hH;exact⟨z,its,n,r,r.length,e⟩
theorem JZ {n:Nat}(h:n<=aiV):amu n=false:=by unfold amu;exact aiO (by lia)
end
section
variable{X:aif}
def aa4:V->List V->ag4->ahY->Prop:=fun x vs H Q=>∃l xs y,x=.ref l∧vs=[y]∧H l=some (.lst xs)∧xs.length<aiV∧Q .non (upd H l (.lst (xs++[y])))
theorem mZ:MtM X "list.append" aa4:=by intro pins s σ H x vs v us Q I rx rv h;obtain⟨l,xs,y,rfl,rfl,hH,hz,q⟩:=h;cases rx;obtain⟨u,rfl,agK⟩:=rv.one;obtain⟨z,its,n,r,hl,e⟩:=I.U4 hH;refine apc ali ⟨_,e,rfl⟩ F.entry_list_append (F.args_list_append_2 _ _) (PySem.list_append l its.toArray n u (by rw[ajk];lia)) ⟨e,?_⟩;refine⟨.non,_,I.aeH (its':=its++[u]) hH e (by simp) (r.append (.cons agK .nil)) ?_,rfl,q⟩;rw[aiZ,aom];lia
def aa5:V->List V->ag4->ahY->Prop:=fun x vs H Q=>∃l b xs zs,x=.ref l∧vs=[.ref b]∧H l=some (.lst xs)∧H b=some (.lst zs)∧xs.length+zs.length<=aiV∧Q .non (upd H l (.lst (xs++zs)))
theorem U5:MtM X "list.extend" aa5:=by
 intro pins s σ H x vs v us Q I rx rv h;obtain⟨l,b,xs,zs,rfl,rfl,hH,hB,hz,q⟩:=h;cases rx;obtain⟨u,rfl,agK⟩:=rv.one;cases agK;obtain⟨z,its,n,r,hl,e⟩:=I.U4 hH;obtain⟨z2,its2,n2,r2,hl2,e2⟩:=I.U4 hB;have hsz:its.toArray.size+its2.toArray.size<=aiV:=by rw[ajk,ajk];lia
 have XJ:¬(!its.toArray.isEmpty&&amu (its.toArray.size+its2.toArray.size))=true:=by rw[JZ hsz,apd];exact aiW
 refine apc aqC ⟨_,e,rfl⟩ F.entry_list_extend (F.args_list_extend_2 _ _) (AutoSeq1.list_extend_list_list_0 l its.toArray n b its2.toArray n2 XJ (by rw[ajk];lia) (by lia)) ⟨e,e2,?_⟩;refine⟨.non,_,I.aeH (its':=its++its2) hH e (by simp) (r.append r2) ?_,rfl,q⟩;rw[aiZ];lia
def aeI:aho:=fun x y H Q=>∃l b xs zs,x=.ref l∧y=.ref b∧H l=some (.lst xs)∧H b=some (.lst zs)∧xs.length+zs.length<=aiV∧∀p,H p=none->Q (.ref p) (upd H p (.lst (xs++zs)))
theorem pg:qt X (amm .Add) aeI:=by
 intro pins s σ H x y v u Q I rx ry h;obtain⟨l,b,xs,zs,rfl,rfl,hH,hB,hz,q⟩:=h;cases rx;cases ry;obtain⟨z,its,n,r,hl,e⟩:=I.U4 hH;obtain⟨z2,its2,n2,r2,hl2,e2⟩:=I.U4 hB;refine PySem.P.add_list e e2 ?_ (by rw[ajk,ajk];lia);have ea:its.toArray++its2.toArray=(its++its2).toArray:=by simp
 rw[ea];exact⟨.ref _,_,I.ada (t':=s.toks) (r.append r2) (by rw[aiZ];lia),rfl,q _ I.fresh⟩
def afI:aho:=fun x y H Q=>∃l k xs,x=.ref l∧y=.int k∧H l=some (.lst xs)∧-(2^63)<=k∧k<2^63∧xs.length*k.toNat<=aiV∧∀p,H p=none->Q (.ref p) (upd H p (.lst (akc k.toNat xs).flatten))
theorem len_rep {α:Type}(xs:List α)(k:Nat):(akc k xs).flatten.length=k*xs.length:=by
 induction k with
 |zero=>simp
 |succ k ih=>rw[amz,an4,aiZ,ih,Nat.succ_mul,auO]
theorem XK:qt X (amm .Mult) afI:=by
 intro pins s σ H x y v u Q I rx ry h;obtain⟨l,k,xs,rfl,rfl,hH,h1,h2,hz,q⟩:=h;cases rx;obtain⟨t,rfl⟩:=ry;obtain⟨z,its,n,r,hl,e⟩:=I.U4 hH;have hlen:its.toArray.size*k.toNat<=aiV:=by rw[ajk,←hl];exact hz
 have afJ:¬its.toArray.size*k.toNat>(2^63-1)/8:=by
  have:(aiV:Nat)<=(2^63-1)/8:=by decide
  lia
 have hfit:¬(!atO k)=true:=by rw[fitsIndex_both h1 h2];exact aiW
 have XJ:¬amu (its.toArray.size*k.toNat)=true:=by rw[JZ hlen];exact aiW
 have hnew:atN (fun x1 x2=>x1++x2) #[] (akc (if its.toArray.isEmpty=true then 0 else k.toNat) its.toArray)=(akc k.toNat its).flatten.toArray:=by
  have f0:∀m:Nat,atN (fun x1 x2=>x1++x2) #[] (akc m its.toArray)=(akc m its).flatten.toArray:=fun m=>by have:=foldl_rep its m [];rw[aqw]at this;exact this
  rw[f0];cases its with
  |nil=>simp
  |cons a r'=>rw[aiL (by simp)]
 refine wpAny_binaryOp_repeat_ref (T:="list") (U:="int") (by decide) ⟨_,e,rfl⟩ (fun s'=>arQ s' k t) noFill_list_mul F.fills_int_mul atj repeat_list F.slot_int_index.lookup (apc atj (arQ s k t) F.entry_int_rmul (F.args_int_rmul_2 _ _) (int___rmul___int_list k t l its.toArray n) ⟨e,rfl,⟨_,e,rfl⟩,apc F.slot_list_mul ⟨_,e,rfl⟩ F.entry_list_mul (F.args_list_mul_2 _ _) (AutoListH.list___mul___list_int_3 l its.toArray n k t hfit afJ XJ) ⟨e,?_⟩⟩);rw[hnew];exact⟨.ref _,_,I.ada (t':=s.toks) (r.rep k.toNat) (by rw[len_rep,auP];exact hz),rfl,q _ I.fresh⟩
end
section
variable{κ:Type}[DecidableEq κ]
noncomputable def ud (kvs:List (κ×V))(k:κ):Option V:=(kvs.find? fun kv=>decide (kv.1=k)).map (·.2)
noncomputable def putK (kvs:List (κ×V))(k:κ)(v:V):List (κ×V):=if(kvs.any fun kv=>decide (kv.1=k))=true then kvs.map (fun kv=>if kv.1=k then(kv.1,v)else kv)else kvs++[(k,v)]
theorem pJ {p:κ×V}{r:List (κ×V)}{k:κ}(e:p.1=k):ud (p::r) k=some p.2:=by simp[ud,amV,e]
theorem pK {p:κ×V}{r:List (κ×V)}{k:κ}(e:¬p.1=k):ud (p::r) k=ud r k:=by simp[ud,amV,e]
theorem J0 (k:κ):∀kvs:List (κ×V),(kvs.any fun kv=>decide (kv.1=k))=(ud kvs k).isSome
 |[]=>rfl
 |p::r=>by
  rw[am2]
  by_cases e:p.1=k
  ·simp only[pJ e,aiQ e,Bool.true_or,Option.isSome_some]
  ·rw[pK e,aiO e,alo];exact J0 k r
theorem yW (kvs:List (κ×V))(k:κ)(v:V):(putK kvs k v).length<=kvs.length+1:=by
 unfold putK;split
 .rw[aiJ];lia
 .rw[aiZ,ajl,alv];lia
theorem uc.xj {o:Option V}{u:Option aiH}(r:uc o u):o.isSome=u.isSome:=by
 cases o with
 |none=>cases u with
  |none=>rfl
  |some _=>exact(show False from r).elim
 |some _=>cases u with
  |none=>exact(show False from r).elim
  |some _=>rfl
theorem uc.getD {o:Option V}{u:Option aiH}{d:V}{d':aiH}(r:uc o u)(rd:RelV d d'):RelV (o.getD d) (u.getD d'):=by
 cases o with
 |none=>cases u with
  |none=>exact rd
  |some _=>exact(show False from r).elim
 |some _=>cases u with
  |none=>exact(show False from r).elim
  |some _=>exact r
theorem KV.val {kvs:List (κ×V)}{vs:List (κ×aiH)}(r:KV kvs vs)(k:κ):uc (ud kvs k) (asm vs k):=by
 unfold KV at r;induction r with
 |nil=>exact alG
 |@cons p q ps qs h t ih=>
  obtain⟨h1,h2⟩:=h;by_cases e:p.1=k
  .have e':q.1=k:=h1.symm.trans e;have b:asm (q::qs) k=some q.2:=by simp[asm,amV,e']
   rw[pJ e,b];exact h2
  .have e':¬q.1=k:=fun z=>e (h1.trans z);have b:asm (q::qs) k=asm qs k:=by simp[asm,amV,e']
   rw[pK e,b];exact ih
theorem KV.any {kvs:List (κ×V)}{vs:List (κ×aiH)}(r:KV kvs vs)(k:κ):(kvs.any fun kv=>decide (kv.1=k))=vs.any fun kv=>decide (kv.1=k):=by
 unfold KV at r;induction r with
 |nil=>rfl
 |cons h t ih=>rw[am2,am2,ih,h.1]
theorem KV.repl {kvs:List (κ×V)}{vs:List (κ×aiH)}(r:KV kvs vs)(k:κ){y:V}{u:aiH}(ry:RelV y u):KV (kvs.map fun kv=>if kv.1=k then(kv.1,y)else kv) (vs.map fun kv=>if kv.1=k then(kv.1,u)else kv):=by
 unfold KV at r ⊢;induction r with
 |nil=>exact .nil
 |@cons p q ps qs h t ih=>
  rw[ajd,ajd];refine .cons ?_ ih;obtain⟨h1,h2⟩:=h;by_cases e:p.1=k
  .rw[aiP e,aiP (h1.symm.trans e)];exact⟨h1,ry⟩
  .rw[aiL e,aiL (fun z=>e (h1.trans z))];exact⟨h1,h2⟩
theorem KV.put {kvs:List (κ×V)}{vs:List (κ×aiH)}(r:KV kvs vs)(k:κ){y:V}{u:aiH}(ry:RelV y u):KV (putK kvs k y) (stored vs k u):=by
 unfold putK stored;rw[r.any k];by_cases e:(vs.any fun kv=>decide (kv.1=k))=true
 .rw[aiP e,aiP e];exact r.repl k ry
 .rw[aiL e,aiL e];exact ata r ⟨rfl,ry⟩
theorem KV.length {kvs:List (κ×V)}{vs:List (κ×aiH)}(r:KV kvs vs):kvs.length=vs.length:=al8 r
end
theorem XM {P:ajr}{w:ajI}{k:Key}{u:aiH}(r:RelV (kV k) u):(mK P w).is k u=true:=by
 cases k with
 |inl i=>obtain⟨t,e⟩:=(show∃t,u=aj6 i t from r);subst e;exact JL P w i t
 |inr x=>obtain⟨t,e⟩:=(show∃t,u=ara x t from r);subst e;exact JM P w x t
abbrev KT (B:Bool)(H:ag4):List (bh×V)->List (bh×aiM×aiH)->Prop:=aqM fun p q=>p.1=q.1∧aY B H p.1 q.2.1∧RelV p.2 q.2.2
theorem KT.val {B:Bool}{H:ag4}{kvs:List (bh×V)}{xs:List (bh×aiM×aiH)}(r:KT B H kvs xs)(k:bh):uc (ud kvs k) ((atP xs k).map (·.2)):=by
 induction r with
 |nil=>exact alG
 |@cons p q ps qs h t ih=>
  obtain⟨h1,_,h2⟩:=h;by_cases e:p.1=k
  .have e':q.1=k:=h1.symm.trans e;have b:atP (q::qs) k=some q.2:=by simp[atP,amV,e']
   rw[pJ e,b];exact h2
  .have e':¬q.1=k:=fun z=>e (h1.trans z);have b:atP (q::qs) k=atP qs k:=by simp[atP,amV,e']
   rw[pK e,b];exact ih
theorem KT.repl {B:Bool}{H:ag4}{kvs:List (bh×V)}{xs:List (bh×aiM×aiH)}(r:KT B H kvs xs)(k:bh){y:V}{u:aiH}(ry:RelV y u):KT B H (kvs.map fun kv=>if kv.1=k then(kv.1,y)else kv) (xs.map (putAt k u)):=by
 induction r with
 |nil=>exact .nil
 |@cons p q ps qs h t ih=>
  rw[ajd,ajd];refine .cons ?_ ih;obtain⟨h1,h2,h3⟩:=h;unfold putAt;by_cases e:p.1=k
  .rw[aiP e,aiP (h1.symm.trans e)];exact⟨h1,h2,ry⟩
  .rw[aiL e,aiL (fun z=>e (h1.trans z))];exact⟨h1,h2,h3⟩
theorem KT.put {B:Bool}{H:ag4}{kvs:List (bh×V)}{xs:List (bh×aiM×aiH)}(r:KT B H kvs xs)(k:bh){b:aiM}{y:V}{u:aiH}(hb:aY B H k b)(ry:RelV y u):KT B H (putK kvs k y) (storedH xs k b u):=by
 have e:(kvs.any fun kv=>decide (kv.1=k))=(atP xs k).isSome:=by rw[J0,(r.val k).xj,an5]
 unfold putK storedH;rw[e];by_cases q:(atP xs k).isSome=true
 .rw[aiP q,aiP q];exact r.repl k ry
 .rw[aiL q,aiL q];exact ata r ⟨rfl,hb,ry⟩
theorem KT.keeps {B:Bool}{H H':ag4}{kvs:List (bh×V)}{xs:List (bh×aiM×aiH)}(r:KT B H kvs xs)(ht:∀b ys,H b=some (.tup ys)->H' b=some (.tup ys)):KT B H' kvs xs:=Paired.aaR r fun _ _ z=>⟨z.1,z.2.1.stay ht,z.2.2⟩
section
variable{P:ajr}{w:ajI}{H:ag4}{h:aj4}{a:aiM}
theorem J1 {u:HO}(ok:qw P w H h)(e:ahi H a u):b8 P w H h a u:=e.ok ok
theorem S6 {kvs:List (Key×V)}(ok:qw P w H h)(e:ahi H a (.ah2 kvs)):kvs.length<=aiV∧(a==ak3)=false∧∃vs,KV kvs vs∧h.DictOf (mK P w) a vs:=show b8 P w H h a (.ah2 kvs)from J1 ok e
theorem aeJ {kvs:List (Key×V)}(ok:qw P w H h)(e:H a=some (.ah2 kvs)):kvs.length<=aiV∧(a==ak3)=false∧∃vs,KV kvs vs∧h.DictOf (mK P w) a vs:=S6 ok (.inl e)
theorem Vals.cons_inv {x:V}{xs:List V}{us:List aiH}(r:Vals (x::xs) us):∃u r',us=u::r'∧RelV x u∧Vals xs r':=by
 cases r with
 |cons h t=>exact⟨_,_,rfl,h,t⟩
theorem J2 {P:ajr}{w:ajI}:∀{ks:List Int} {us:List aiH},Vals (ks.map V.int) us->ItemsAre (aku P w) ks us
 |[],_,r=>by rw[an2]at r;cases r;exact .nil
 |k::ks,_,r=>by
  rw[ajd]at r
  cases r with
  |cons h t=>
   obtain⟨t',rfl⟩:=(show∃t,_=aj6 k t from h)
   exact .cons (int_is k t') (J2 t)
theorem xm {B:Bool}{k:bh}(ok:qw P w H h)(e:aY B H k a):(fW P w B).is h k a:=by
 cases B with
 |true=>obtain⟨m,em,e⟩:∃m:Int,k.2=[m]∧H a=some (.tup [.int k.1,.int m]):=e;obtain⟨_,its,r,o,h1,h2,n,h3⟩:=(show b8 P w H h a (.tup [.int k.1,.int m])from ok a _ e);obtain⟨v1,r1,rfl,x1,z1⟩:=Vals.cons_inv r;obtain⟨v2,r2,rfl,x2,z2⟩:=Vals.cons_inv z1;cases z2;obtain⟨t1,rfl⟩:=(show∃t,v1=aj6 k.1 t from x1);obtain⟨t2,rfl⟩:=(show∃t,v2=aj6 m t from x2);exact⟨o,n,t1,_,h1,h2,h3,m,t2,em,rfl⟩
 |false=>obtain⟨c,e,ec⟩:∃c,H a=some (.tup [.int k.1,.ref c])∧H c=some (.tup (k.2.map V.int)):=e;obtain⟨_,its,r,o,h1,h2,n,h3⟩:=(show b8 P w H h a (.tup [.int k.1,.ref c])from ok a _ e);obtain⟨v1,r1,rfl,x1,z1⟩:=Vals.cons_inv r;obtain⟨v2,r2,rfl,x2,z2⟩:=Vals.cons_inv z1;cases z2;obtain⟨t1,rfl⟩:=(show∃t,v1=aj6 k.1 t from x1);obtain rfl:=(show v2=ai2 c from x2);obtain⟨_,its',r',o',g1,g2,n',g3⟩:=(show b8 P w H h c (.tup (k.2.map V.int))from ok c _ ec);exact⟨o,n,t1,_,h1,h2,h3,c,rfl,o',its'.toArray,n',g1,g2,g3,by simpa using J2 r'⟩
theorem S7 {B:Bool}{kvs:List (bh×V)}(ok:qw P w H h)(e:ahi H a (.dT B kvs)):kvs.length<=aiV∧(a==ak3)=false∧∃xs,KT B H kvs xs∧h.DictOfH (fW P w B) a xs:=by
 obtain⟨z,y,xs,r,o,es,ep,h1,h2,h3,h4,h5⟩:=(show b8 P w H h a (.dT B kvs)from J1 ok e);refine⟨z,y,xs,r,o,es,ep,h1,h2,h3,h4,fun x hx=>?_,h5⟩;have all:∀{l:List (bh×V)} {m:List (bh×aiM×aiH)},KT B H l m->∀x∈m,(fW P w B).is h x.1 x.2.1:=by
  intro l m q;induction q with
  |nil=>intro x hx;exact nomatch hx
  |@cons p q ps qs hq t ih=>
   intro x hx;rcases ai3.mp hx with e|hx
   .subst e;exact xm ok (by rw[←hq.1];exact hq.2.1)
   .exact ih x hx
 exact all r x hx
theorem acF {B:Bool}{kvs:List (bh×V)}(ok:qw P w H h)(e:H a=some (.dT B kvs)):kvs.length<=aiV∧(a==ak3)=false∧∃xs,KT B H kvs xs∧h.DictOfH (fW P w B) a xs:=S7 ok (.inl e)
end
def aa6 (H:ag4)(a:aiM)(y:V)(r:Option V):Prop:=(∃kvs k,ahi H a (.ah2 kvs)∧y=kV k∧r=ud kvs k)∨∃B kvs k b,ahi H a (.dT B kvs)∧y=.ref b∧aY B H k b∧r=ud kvs k
def aeK (H:ag4)(a:aiM)(y v:V)(H':ag4):Prop:=(∃kvs k,H a=some (.ah2 kvs)∧y=kV k∧kvs.length<aiV∧H'=upd H a (.ah2 (putK kvs k v)))∨∃B kvs k b,H a=some (.dT B kvs)∧y=.ref b∧aY B H k b∧kvs.length<aiV∧H'=upd H a (.dT B (putK kvs k v))
theorem xn {P:ajr}{w:ajI}{A:ajO}{B:Bool}(hu:A.units+20<ak8):(fW P w B).room A.in1:=by show A.in1.units+8<ak8;rw[alC];lia
section
variable{X:aif}{pins:List (aiM×Obj)}{σ:St}{H:ag4}{s:aiK}{a:aiM}{y v:V}{u r:aiH}{o:Option V}{A:ajO}{E:aiH->aiK->Prop}
theorem Inv.big (I:Inv X pins σ H s):ak3<s.heap.objs.size:=by have h:ajz<s.heap.objs.size:=(I.mod.glob.keeps I.aid).lt;exact Nat.lt_trans (by decide) h
theorem aa7 {Q:aiH->aiK->Prop}(hu:A.units+20<ak8)(I:Inv X pins σ H s)(g:aa6 H a y o)(ry:RelV y u)(h:∀s',Inv X pins σ H s'->Q (.bool (!o.isSome)) s'):ai0 (ai7 X.prog X.w) A (ake .NotIn u (.ref a)) Q E s:=by
 rcases g with⟨kvs,k,e,ey,l⟩|⟨B,kvs,k,b,e,ey,eb,l⟩
 .subst ey;obtain⟨z,hd,vs,rel,dd⟩:=S6 I.hok e;refine wpAny_notIn_of (XM ry) hd dd.mapOf ?_;rw[←(rel.val k).xj,←l];exact h _ (I.tok _)
 .subst ey;cases(show u=ai2 b from ry);obtain⟨z,hd,xs,rel,dd⟩:=S7 I.hok e;refine wpAny_notIn_heap (xn hu) (xm I.hok eb) hd dd ?_;have q:=(rel.val k).xj;rw[an5]at q;rw[←q,←l];exact h _ (I.tok _)
theorem Hz {h':aj4}{t':Nat}{ob:HO}(I:Inv X pins σ H s)(mu:Mut (H a))(hs:akK a s.heap h')(he:∃q,h'.get? a=some q)(new:b8 X.prog X.w (upd H a ob) h' a ob):Inv X pins σ (upd H a ob) {s with heap:=h',toks:=t'}:=I.write (x:=a) (e:=a) mu (.inl rfl) (fun b q hb z=>(hs.2 b hb).trans z) he new
theorem adb {P:ajr}{w:ajI}{H':ag4}{h':aj4}{kvs:List (Key×V)}{vs:List (Key×aiH)}(z:kvs.length<=aiV)(hd:(a==ak3)=false)(rel:KV kvs vs)(dd:h'.DictOf (mK P w) a vs):b8 P w H' h' a (.ah2 kvs):=⟨z,hd,vs,rel,dd⟩
theorem U6 {H':ag4}{Q:Unit->aiK->Prop}(hu:A.units+20<ak8)(I:Inv X pins σ H s)(g:aeK H a y v H')(ry:RelV y u)(rv:RelV v r)(h:∀s',Inv X pins σ H' s'->Q () s'):ai0 (ai7 X.prog X.w) A (setItem (.ref a) u r) Q E s:=by
 rcases g with⟨kvs,k,e,ey,l,aiA⟩|⟨B,kvs,k,b,e,ey,eb,l,aiA⟩
 .subst ey aiA;obtain⟨z,hd,vs,rel,dd⟩:=aeJ I.hok e;have hz:vs.length<=aiV:=by rw[←rel.length];exact z
  have hl:(putK kvs k v).length<=aiV:=by have:=yW kvs k v;lia
  refine wpAny_setItem_pairs (hsz:=hz) (XM ry) dd fun h' dd' hs=>h _ ?_;have he:∃q,h'.get? a=some q:=let⟨q,_,_,hq,_⟩:=dd';⟨q,hq⟩
  exact Hz I (by rw[e];exact alG) hs he (adb hl hd (rel.put k rv) dd')
 .subst ey aiA;cases(show u=ai2 b from ry);obtain⟨z,hd,xs,rel,dd⟩:=acF I.hok e;have hz:xs.length<=aiV:=by rw[←al8 rel];exact z
  have hl:(putK kvs k v).length<=aiV:=by have:=yW kvs k v;lia
  refine wpAny_setItem_heap (hsz:=hz) (xn hu) (xm I.hok eb) dd fun h' dd' hs=>h _ ?_;obtain⟨q,es,ep,hq,h2,h3,h4,_,h5⟩:=dd';refine Hz I (by rw[e];exact alG) hs ⟨q,hq⟩ ⟨hl,hd,_,(rel.put k eb rv).keeps fun c ys ec=>?_,q,es,ep,hq,h2,h3,h4,h5⟩;rw[aO (R9 ec e (fun z=>nomatch z))];exact ec
end
def aa8 (ty td:TE):TE:=fun σ H Q=>ty σ H fun y H1=>td σ H1 fun x H2=>∃a o,x=.ref a∧aa6 H2 a y o∧Q (.bl (!o.isSome)) H2
def aeL (td ty tv:TE):TS:=fun D σ H=>tv σ H fun v H1=>td σ H1 fun x H2=>ty σ H2 fun y ahq=>∃a aiv,x=.ref a∧aeK ahq a y v aiv∧D.nx σ aiv
section
variable{X:aif}{o i e value:akb}{pos pos' tpos:Pos}{td ty tv:TE}
theorem Gq (hu:X.A.units+20<ak8)(hi:PE X i ty)(ho:PE X o td):PC X .NotIn i o (aa8 ty td):=by intro pins s σ H Q I h;refine cC (hi pins s σ H _ I h) fun iv s1 ⟨y,H1,I1,ry,q1⟩=>cC (ho pins s1 σ H1 _ I1 q1) fun u s2 ⟨x,H2,agY,rx,a,ov,ex,g,q2⟩=>?_;subst ex;obtain rfl:u=ai2 a:=rx;exact aa7 hu agY g ry fun s3 agy=>⟨.bl (!ov.isSome),H2,agy,rfl,q2⟩
theorem S8 (hu:X.A.units+20<ak8)(ho:PE X o td)(hi:PE X i ty)(hv:PE X value tv)(hs:arb value (some (.Subscript o i pos')) pos.line X.env=pure false):PS X (.Assign [.Subscript o i pos'] value pos) (aeL td ty tv):=by intro pins s σ H D I h;refine wpAny_Assign_Subscript (cC (hv pins s σ H _ I h) fun r s1 ⟨v,H1,I1,rv,q1⟩=>cC (ho pins s1 σ H1 _ I1 q1) fun u s2 ⟨x,H2,agY,rx,q2⟩=>cC (hi pins s2 σ H2 _ agY q2) fun iv s3 ⟨y,ahq,agy,ry,a,aiv,ex,g,q3⟩=>?_) hs;subst ex;obtain rfl:u=ai2 a:=rx;exact U6 hu agy g ry rv fun s4 ag5=>⟨σ,aiv,ag5,q3⟩
end
theorem J3 {B:Bool}{P:ajr}{w:ajI}{H:ag4}(h:aj4)(hb:ak3<h.objs.size):b8 P w H (h.push {cls:=.type "dict",data:=.dict #[]}) h.objs.size (.dT B []):=⟨ajW _,beq_eq_false_iff_ne.mpr (al3 (ajw hb)),[],.nil,_,#[],0,ajg _ rfl,⟨rfl,rfl,rfl⟩,rfl,rfl,alq⟩
def ade (B:Bool):TE:=fun _ H Q=>∀p,H p=none->Q (.ref p) (upd H p (.dT B []))
section
variable{X:aif}{pos:Pos}
theorem J4 (B:Bool):PE X (.Dict [] [] pos) (ade B):=fun pins s σ H Q I h=>wpAny_Dict_empty ⟨.ref s.heap.objs.size,_,I.laid (a:=s.heap.objs.size) (o:=.dT B []) (t':=s.toks) (fun _ _ q=>aiS _ q) (aiN _) (J3 s.heap I.big),rfl,h _ (I.hok.fresh (aiN _))⟩
end
def O4:List (TE×TE)->St->ag4->(List (V×V)->ag4->Prop)->Prop
 |[],_,H,Q=>Q [] H
 |(tk,tv)::r,σ,H,Q=>tk σ H fun x H1=>tv σ H1 fun y H2=>O4 r σ H2 fun ps ahq=>Q ((x,y)::ps) ahq
abbrev ahH:List (V×V)->List (aiH×aiH)->Prop:=aqM fun p q=>RelV p.1 q.1∧RelV p.2 q.2
def PPs (X:aif)(pos:Pos)(keys:List (Option akb))(values:List akb)(trs:List (TE×TE)):Prop:=∀(pins:List (aiM×Obj)) (s:aiK) (σ:St) (H:ag4) (Q:List (V×V)->ag4->Prop),Inv X pins σ H s->O4 trs σ H Q->ai0 (ai7 X.prog X.w) X.A (evalPairs (pairTrees keys values X.env pos)) (fun vs s'=>∃ps H',Inv X pins σ H' s'∧ahH ps vs∧Q ps H') X.xe s
theorem aa9 {X:aif}{pos:Pos}:PPs X pos [] [] []:=fun pins s σ H Q I h=>pairTrees_nil_walk ⟨[],H,I,.nil,h⟩
theorem XN {X:aif}{pos:Pos}{k v:akb}{ks:List (Option akb)}{vs:List akb}{tk tv:TE}{trs:List (TE×TE)}(hk:PE X k tk)(hv:PE X v tv)(hr:PPs X pos ks vs trs):PPs X pos (some k::ks) (v::vs) ((tk,tv)::trs):=fun pins s σ H Q I h=>pairTrees_cons_walk (cC (hk pins s σ H _ I h) fun u s1 ⟨x,H1,I1,rx,q1⟩=>cC (hv pins s1 σ H1 _ I1 q1) fun w2 s2 ⟨y,H2,agY,ry,q2⟩=>cC (hr pins s2 σ H2 _ agY q2) fun ws s3 ⟨ps,ahq,agy,rel,q3⟩=>⟨(x,y)::ps,ahq,agy,.cons ⟨rx,ry⟩ rel,q3⟩)
structure M2 (X:aif)(o:akb)(m:Str)(apos:Pos)(e f:akb)(cpos:Pos):Prop where
 base:am1 o m X.env (alg o X.env)=alg o X.env
 few:((amO cpos (ajF [e,f] X.env)).all (fun x=>!x.1)&&(apW cpos (anQ [] X.env)).all (fun x=>x.1.isSome)&&decide (([e,f]:List akb).length+([]:List asj).length+(if([]:List asj).isEmpty then 0 else 1)<30))=true
 line:(apos.endLine==cpos.line)=true
 trees:amO cpos (ajF [e,f] X.env)=[(false,alg e X.env),(false,alg f X.env)]
def IsD (H:ag4)(a:aiM):Prop:=(∃kvs,ahi H a (.ah2 kvs))∨∃B kvs,ahi H a (.dT B kvs)
theorem adf {X:aif}{pins:List (aiM×Obj)}{σ:St}{H:ag4}{s:aiK}{a:aiM}(I:Inv X pins σ H s)(d:IsD H a):s.TypeIs (.ref a) "dict"∧(∀b,ai2 a=.ref b->∃ob,s.heap.get? b=some ob∧ob.dict=none)∧(a==ak3)=false:=by
 rcases d with⟨kvs,e⟩|⟨B,kvs,e⟩
 .obtain⟨_,hd,vs,_,dd⟩:=S6 I.hok e;refine⟨dd.typeIs,fun b q=>?_,hd⟩;cases q;obtain⟨ob,_,_,h1,h2,_⟩:=dd;exact⟨ob,h1,h2.2.1⟩
 .obtain⟨_,hd,xs,_,dd⟩:=S7 I.hok e;refine⟨dd.typeIs,fun b q=>?_,hd⟩;cases q;obtain⟨ob,_,_,h1,h2,_⟩:=dd;exact⟨ob,h1,h2.2.1⟩
section
variable{X:aif}{pins:List (aiM×Obj)}{σ:St}{H:ag4}{s:aiK}{a:aiM}{y d:V}{u r:aiH}{o:Option V}{A:ajO}{E:aiH->aiK->Prop}
theorem adg {Q:aiH->aiK->Prop}(hu:A.units+20<ak8)(I:Inv X pins σ H s)(g:aa6 H a y o)(ry:RelV y u)(rd:RelV d r)(h:∀w' s',Inv X pins σ H s'->RelV (o.getD d) w'->Q w' s'):ai0 (ai7 X.prog X.w) A (call (.builtin "dict.get") [.ref a,u,r]) Q E s:=by
 rcases g with⟨kvs,k,e,ey,l⟩|⟨B,kvs,k,b,e,ey,eb,l⟩
 .subst ey;obtain⟨z,hd,vs,rel,dd⟩:=S6 I.hok e;refine call_meetsIn aon dd.typeIs aqn (ap1 _ _ _) (meets_dict_get_default (mK X.prog X.w) a (XM ry) hd r) ⟨_,dd.mapOf,h _ _ (I.tok _) ?_⟩;rw[l];exact(rel.val k).getD rd
 .subst ey;cases(show u=ai2 b from ry);obtain⟨z,hd,xs,rel,dd⟩:=S7 I.hok e;refine call_meetsIn aon dd.typeIs aqn (ap1 _ _ _) (meetsH_dict_get_default (fW X.prog X.w B) a b hd r) ⟨xn hu,k,xs,xm I.hok eb,dd,h _ _ (I.tok _) ?_⟩;rw[l];exact(rel.val k).getD rd
end
def adh (td ty tx:TE):TE:=fun σ H Q=>td σ H fun x H1=>∃a,x=.ref a∧IsD H1 a∧ty σ H1 fun y H2=>tx σ H2 fun z ahq=>∃o,aa6 ahq a y o∧Q (o.getD z) ahq
section
variable{X:aif}{o e f:akb}{apos cpos:Pos}{td ty tx:TE}
theorem XQ (hu:X.A.units+20<ak8)(ho:PE X o td)(he:PE X e ty)(hf:PE X f tx)(m:M2 X o "get" apos e f cpos):PE X (.Call (.Attribute o "get" apos) [e,f] [] cpos) (adh td ty tx):=by intro pins s σ H Q I h;refine wpAny_Call_method m.base m.few m.line ap2 aon PySem.F.type_dict_get (cC (ho pins s σ H _ I h) fun u s1 ⟨x,H1,I1,rx,a,ex,d,q1⟩=>?_);subst ex;obtain rfl:u=ai2 a:=rx;obtain⟨t1,t2,_⟩:=adf I1 d;refine⟨t1,t2,?_⟩;rw[m.trees];refine an3 rfl (aoE (ao9 (cC (he pins s1 σ H1 _ I1 q1) fun iv s2 ⟨y,H2,agY,ry,q2⟩=>ao9 (cC (hf pins s2 σ H2 _ agY q2) fun fv s3 ⟨z,ahq,agy,ahO,ov,g,q3⟩=>asb ?_))));exact adg hu agy g ry ahO fun w' s4 ag5 rw'=>⟨_,ahq,ag5,rw',q3⟩
end
end L2
namespace Att
open PySem PySem.W PySem.Calls PyProof.Rows
theorem zL {P:arR}{h:aj4}:∀(ns:List Int) (vs:List aiH),WellAll P h vs (ns.map WData.int)->alM vs ns:=by
 intro ns;induction ns with
 |nil=>intro vs w;rw[an2]at w;cases w;exact .nil
 |cons n ns ih=>
  intro vs w;rw[ajd]at w;cases w with
  |cons a b=>cases a;exact .cons _ _ (ih _ b)
theorem U7 {l:aoF}{n:Nat}(hn:l.most=some n){P:arR}{h:aj4}{args:List WData}{vals:List aiH}(hpre:l.row.toRowW.claim.pre args=true)(hwl:WellAll P h vals args):∃a vs ns,vals=[ai2 a]∧args=[WData.list (ns.map WData.int)]∧h.get? a=some {cls:=.type "list",data:=.seq vs.toArray}∧alM vs ns∧ns.length<=n:=by
 have hsh:WShape.hasAll [] args [.list .int]=true:=(pre_splitW hpre).1;have hc:l.pre.holds [] {args:=args}=true:=(pre_splitW hpre).2;obtain⟨d,r,rfl,h1,h2⟩:=hasAllW_cons hsh;obtain rfl:=hasAllW_nil h2;obtain⟨xs,rfl,h3⟩:=hasW_list h1;obtain⟨ns,rfl⟩:=items_int h3;have hlen:ns.length<=n:=by
  unfold OpenLaw.pre at hc;have h4:(WTm.not (.lt (.lit (.int (n:Int))) (.len (.arg 0)))).holds [] {args:=[.list (ns.map .int)]}=true:=by have h4:=(holds_andW hc).1;rw[hn]at h4;exact h4
  have h5:=condW_of h4 (w_not (w_lt w_lit (w_len_list (w_arg rfl))));rw[aiJ]at h5;refine Nat.le_of_not_lt fun q=>?_;have q':(n:Int)<((ns.length:Nat):Int):=by omega
  first
   |(rw[aiQ q']at h5;exact ai8 h5 (by decide))
   |(simp at h5;omega)
 cases hwl with
 |cons w1 w2=>
  cases w2;cases w1 with
  |list ho hall=>exact⟨_,_,ns,rfl,rfl,ho,zL ns _ hall,hlen⟩
theorem U8 (l:aoF)(args:List WData):l.row.toRowW.claim.post args (.bool true) args=true:=
 postW_of (r:=l.row.toRowW) (X:=(true==true))
  (show au7 [] (.bool true) .bool=true by first|rfl|decide|simp[au7,WShape.arms,WShape.armsAll])
  (show(WTm.eq .res (.lit (.bool true))).value [] {args:=args,res:=some (.bool true),after:=args}=some (.bool (true==true))from w_eq_bool (w_res rfl) w_lit) rfl
theorem J5 {l:aoF}{n:Nat}{q:ajr}{loose:List Str}{XP:(Str->Option aiH)->aj4->Prop}{YP:ajI->aj4->Prop}{d:DefRec}(hn:l.most=some n)(hdf:d.params.defaults=[])(call:∀(w:ajI) (s₀ s₁:aiK) (mg mb:Str->Option aiH) (fa:aiM) (o:Obj) (pm cd doc:aiH) (a:aiM) (vs:List aiH) (ns:List Int),Ground q loose [] XP w s₀ mg mb s₁.heap->YP w s₁.heap->s₁.heap.get? fa=some o->o.data=.func (docDef d.name d.params d.body d.scope pm cd doc)->s₁.heap.CodeRec cd d.name->mg d.name=some (.ref fa)->s₁.heap.get? a=some {cls:=.type "list",data:=.seq vs.toArray}->alM vs ns->ns.length<=n->s₁.gens=#[]->anq (ai7 l.prog w) arf (.call (.ref fa) ⟨[.ref a],[]⟩) (fun r s'=>r=.ok (.ret (.bool true))∧OldK s₁.heap s'.heap∧s'.os=s₁.os∧aoZ s'.gens) s₁):aqU q loose XP YP l.row.toRowW d [] (fun f vs=>arS f vs):=by intro w s₀ s₁ mg mb G Y fa o pm cd doc dV kV ho hd hcd hD hmg hg args vals as hpre hlay hrd hwl hlo;obtain rfl:dV=.none:=Dflts.none hD hdf;obtain rfl:kV=.none:=Dflts.noKw hD;obtain⟨a,vs,ns,rfl,rfl,hobj,hints,hlen⟩:=U7 hn hpre hwl;refine enter_call (anZ (call w s₀ s₁ mg mb fa o pm cd doc a vs ns G Y ho (fd_plain hd) hcd hmg hobj hints hlen hg) fun r s' hq=>?_);obtain⟨rfl,h2,h3,h4⟩:=hq;exact⟨.inl ⟨.bool true,.bool true,[],rfl,fun _=>rfl,.bool true,U8 l _,fun _=>⟨apB,fun _ hm=>(nomatch hm)⟩⟩,h2,h3,h4⟩
end Att
namespace L2
open PySem PySem.Spec PyProof.Rows
theorem xq:∀{vs:List aiH} {ns:List Int},alM vs ns->Vals (ns.map V.int) vs
 |_,_,.nil=>.nil
 |_,_,.cons n t h=>.cons ⟨t,rfl⟩ (xq h)
def Only (H:ag4):Prop:=∀b,H b=none∨∃o xs,H b=some (.uq o (.lst xs))
theorem XR {P:ajr}{w:ajI}{K:aiU}{mg mb:Str->Option aiH}{aio:Xy}{k:Nat}{fa a:aiM}{fd:ajA}{x:Str}{sp:Sp}{s₁:aiK}{vs:List aiH}{ns:List Int}(KX:K.In s₁.heap)(hns:s₁.heap.Ns ajz mg)(hb:s₁.heap.Ns aty mb)(hbb:∀x:Str,x≠"__name__"->mb x=akf x)(hlim:s₁.heap.NoLimit)(hg:s₁.gens=#[])(ha:s₁.heap.get? a=some {cls:=.type "list",data:=.seq vs.toArray})(hi:alM vs ns)(hl:ns.length<=aiV)(hr:jl k arf)(F:∀base:aj4,K.In base->base.Ns ajz mg->aP P w K mg base aio k fa fd [x] sp)(hbind:∀(s:aiK) (u:aiH),ard s fd ⟨[u],[]⟩ [(x,u)])(hsp:∀H:ag4,Only H->bk K H a (ns.map V.int)->sp [.ref a] H (fun v _=>v=.bl true) fun _ _ _=>False)(hCX:∀H e s',aio [] H s₁ (fun _ _ _=>False) e s'->False):anq (ai7 P w) arf (.call (.ref fa) ⟨[.ref a],[]⟩) (fun r s'=>r=.ok (.ret (.bool true))∧OldK s₁.heap s'.heap∧s'.os=s₁.os∧aoZ s'.gens) s₁:=by
 have rv:=xq hi;have lenV:=hi.length;have core:∀H:ag4,Only H->bk K H a (ns.map V.int)->qw P w H s₁.heap->(∀b,H b≠none->b=a)->(H a≠none->K.lookup a=none)->
  anq (ai7 P w) arf (.call (.ref fa) ⟨[.ref a],[]⟩) (fun r s'=>r=.ok (.ret (.bool true))∧OldK s₁.heap s'.heap∧s'.os=s₁.os∧aoZ s'.gens) s₁:=by
  intro H hO hS hok hA hK;have S9:∀{b:aiM} {o:Obj},s₁.heap.get? b=some o->H b=none->(Hp s₁.heap H).get? b=some o:=fun e n=>Xh e n;have noA:∀{b:aiM} {o:Obj} {es:Array amI} {ep:Nat},s₁.heap.get? b=some o->o.data=.dict es ep->H b=none:=fun{b o es ep} e d=>by
   cases q:H b with
   |none=>rfl
   |some u=>have e':b=a:=hA b (by rw[q];simp);subst e';rw[ha]at e;cases e;have d':Data.seq vs.toArray _=Data.dict es ep:=d;cases d'
  have nsK:∀{b:aiM} {m:Str->Option aiH},s₁.heap.Ns b m->(Hp s₁.heap H).Ns b m:=fun{b m} ⟨o,es,ep,e,d,r⟩=>⟨o,es,ep,S9 e (noA e d),d,r⟩;have hKb:K.In (Hp s₁.heap H):=fun b o e=>S9 (KX b o e) (by
   cases q:H b with
   |none=>rfl
   |some u=>have e':b=a:=hA b (by rw[q];simp);subst e';rw[hK (by rw[q];simp)]at e;cases e)
  have hM:Mod K mg (Hp s₁.heap H):=⟨hKb,nsK hns,⟨mb,nsK hb,hbb⟩,let⟨mc,h1,h2⟩:=hlim;⟨mc,nsK h1,h2⟩⟩;have e0:Oz P w K mg (Hp s₁.heap H) arf [] s₁ H:=⟨rfl,hM,fun b o e=>aaS e,aqh (Uw _ _),trivial,fun b hb=>ai8 (show b∈([]:List aiM)from hb) (by simp),hok,.of_eq hg⟩;refine anZ ((F _ hKb (nsK hns)).run arf [] s₁ H ⟨[.ref a],[]⟩ [.ref a] [.ref a] _ _ hr e0 (hbind s₁ (.ref a)) (.cons rfl .nil) (hsp H hO hS)) fun r s' h=>?_;cases r with
  |error e=>exact(hCX H e s' h).elim
  |ok fl=>
   cases fl with
   |next=>exact alH h
   |brk=>exact alH h
   |cont=>exact alH h
   |ret u=>
    obtain⟨v,H',os,bare,un,hok',r',q⟩:=h;have q':v=.bl true:=q;subst q';obtain rfl:u=alF true:=r';refine⟨rfl,OldK.of_keep fun b o e=>?_,os,bare⟩;cases q:H b with
    |none=>exact un.keep b o e q (by intro z;exact ai8 (show b∈([]:List aiM)from z) (by simp)) (by simp)
    |some u=>
     rcases hO b with z|⟨ob,xs,z⟩
     .rw[q]at z;cases z
     .have z2:=un.zJ b ob _ z;obtain⟨e1,_⟩:=hok b _ z;obtain⟨e2,_⟩:=hok' b _ z2;rw[e]at e1;cases e1;exact e2
 cases hk:K.lookup a with
 |some o=>have e:=KX a o hk;rw[ha]at e;cases e;refine core (fun _=>none) (fun _=>.inl rfl) (.inr ⟨_,vs.toArray,_,hk,rfl,rfl,rfl,by rw[ajk,lenV];exact hl,by simpa using rv⟩) (fun b u z=>by have z':(none:Option HO)=some u:=z;cases z') (fun b z=>ai8 rfl z) fun z=>ai8 rfl z
 |none=>
  refine core (fun b=>if b=a then some (.uq {cls:=.type "list",data:=.seq vs.toArray} (.lst (ns.map V.int)))else none) (fun b=>?_) (.inl (.inr ⟨{cls:=.type "list",data:=.seq vs.toArray},aiP rfl⟩)) (fun b u z=>?_) (fun b z=>?_) fun _=>hk
  .by_cases hb:b=a
   .exact .inr ⟨_,_,aiP hb⟩
   .exact .inl (aiL hb)
  .by_cases hb:b=a
   .have z':=(aiP hb).symm.trans z;cases z';subst hb;exact⟨ha,by rw[aiJ];exact hl,vs,_,rv,ha⟩
   .have z':=(aiL hb).symm.trans z;cases z'
  .by_cases hb:b=a
   .exact hb
   .exact ai8 (aiL hb) z
theorem aa' {l:aoF}{n k:Nat}{q:ajr}{loose:List Str}{XP:(Str->Option aiH)->aj4->Prop}{YP:ajI->aj4->Prop}{d:DefRec}{K:arR->aiU}{aio:ajI->Xy}{sp:ajI->Sp}{x:Str}(hn:l.most=some n)(hn2:n<=aiV)(hdf:d.params.defaults=[])(hr:jl k arf)(hY:∀(w:ajI) (h:aj4),YP w h->(K w.params).In h)(F:∀(w:ajI) (mg:Str->Option aiH) (fa:aiM) (h:aj4),(K w.params).In h->h.Ns ajz mg->mg d.name=some (.ref fa)->∃fd:ajA,(∀(s:aiK) (u:aiH),ard s fd ⟨[u],[]⟩ [(x,u)])∧∀base:aj4,(K w.params).In base->base.Ns ajz mg->aP l.prog w (K w.params) mg base (aio w) k fa fd [x] (sp w))(hsp:∀(w:ajI) (H:ag4) (a:aiM) (ns:List Int),ns.length<=n->Only H->bk (K w.params) H a (ns.map V.int)->sp w [.ref a] H (fun v _=>v=.bl true) fun _ _ _=>False)(hCX:∀(w:ajI) (H:ag4) (s:aiK) (e:aiH) (s':aiK),aio w [] H s (fun _ _ _=>False) e s'->False):aqU q loose XP YP l.row.toRowW d [] (fun f vs=>arS f vs):=by refine Att.J5 hn hdf fun w s₀ s₁ mg mb fa o pm cd doc a vs ns G Y ho hd hcd hmg hobj hints hlen hg=>?_;have KX:=hY w _ Y;obtain⟨fd,hb,hF⟩:=F w mg fa _ KX G.T.g hmg;exact XR KX G.T.g G.T.b G.T.builtins G.T.nolimit hg hobj hints (ajt hlen hn2) hr hF hb (fun H hO hS=>hsp w H a ns hlen hO hS) fun H e s'=>hCX w H s₁ e s'
def inClass (s:akM)(j:Nat):akM:=match s with
 |.ClassDef _ _ _ body _ _ _ _ _ _ _=>body.getD j (.Pass ⟨0,0,0,0⟩)
 |_=>.Pass ⟨0,0,0,0⟩
noncomputable def jo (s:akM):Arguments:=match s with
 |.FunctionDef _ a _ _ _ _ _ _ _ _=>a
 |_=>{posonlyargs:=[],args:=[],vararg:=none,kwonlyargs:=[],kw_defaults:=[],kwarg:=none,defaults:=[]}
noncomputable def iC (s:akM):List akM:=match s with
 |.FunctionDef _ _ b _ _ _ _ _ _ _=>b
 |_=>[]
noncomputable def aB (s:akM):ao5:=match s with
 |.FunctionDef _ _ _ _ _ _ sc _ _ _=>sc
 |_=>{kind:=.function,names:=[],isGenerator:=false,isCoroutine:=false}
abbrev E0:agL:=fun _ _ _=>False
structure lC (K:aiU)(x qual:Str)(st:akM)(f:aiM)(fd:ajA):Prop where
 ex:∃(oc:aiH) (od:Option aiM) (kV doc pm:aiH) (an:Option aiM) (cdv ct:aiH) (osl:Array (Option aiH)),fd=alc x qual (jo st) (iC st) (aB st) .none kV doc pm an cdv ct∧K.lookup f=some ⟨oc,od,.func fd,osl⟩∧an0 K cdv qual=true
 kp:amb K (.ref f)=true
section
variable{P:ajr}{w:ajI}{K:aiU}{mg:Str->Option aiH}{base:aj4}
theorem lC.binds {x qual:Str}{st:akM}{f:aiM}{fd:ajA}{ps:List Str}(F:lC K x qual st f fd)(h:∀(kV doc pm:aiH) (an:Option aiM) (cdv ct:aiH) (us:List aiH),us.length=ps.length->apY (alc x qual (jo st) (iC st) (aB st) .none kV doc pm an cdv ct) ⟨us,[]⟩=pure (ps.zip us)):Binds K fd ps []:=by obtain⟨oc,od,kV,doc,pm,an,cdv,ct,osl,rfl,lk,hcd⟩:=F.ex;exact .all (h kV doc pm an cdv ct)
theorem XS {x qual:Str}{st:akM}{f:aiM}{oc:aiH}{od an:Option aiM}{osl:Array (Option aiH)}{kV doc pm cdv ct:aiH}(l:K.lookup f=some ⟨oc,od,.func (alc x qual (jo st) (iC st) (aB st) .none kV doc pm an cdv ct),osl⟩)(c:an0 K cdv qual=true)(k:amb K (.ref f)=true):lC K x qual st f (alc x qual (jo st) (iC st) (aB st) .none kV doc pm an cdv ct):=⟨⟨oc,od,kV,doc,pm,an,cdv,ct,osl,rfl,l,c⟩,k⟩
end
theorem yX {A:ajO}{k:Nat}(hr:jl k A):A.units+20<ak8:=amd (Nat.add_le_add_left (by decide:20<=64) _) hr.units
section
variable{X:aif}
theorem pv (i:Nat){x:Str}{pos:Pos}(hN:X.N[i]?=some x:=by rfl)(hv:Vis X.env.scope x:=by first|exact ajp rfl|exact akk (ajp rfl)|exact akk (akk rfl))(hd:(x==("__debug__":Str))=false:=by decide)(hcd:(x==("__classdict__":Str))=false:=by decide):PE X (.Name x pos) (aej i):=Hr hN hv hd hcd
end
theorem cN {A B:Prop}(h:B):if false=true then A else B:=by rw[aiL aiW];exact h
theorem dY {A B:Prop}(h:A):if true=true then A else B:=by rw[aiP rfl];exact h
theorem aba {c A B:Prop}[Decidable c](h1:c->A)(h2:¬c->B):if c then A else B:=by
 by_cases h:c
 .rw[aiP h];exact h1 h
 .rw[aiL h];exact h2 h
theorem aeM {c A B:Prop}[Decidable c](hc:c)(h:B):if(!decide c)=true then A else B:=by rw[aiQ hc];exact cN h
def aC (H H':ag4):Prop:=∀b o,H b=some o->H' b=some o
theorem aC.refl (H:ag4):aC H H:=fun _ _ h=>h
theorem aC.trans {H H1 H2:ag4}(a:aC H H1)(b:aC H1 H2):aC H H2:=fun c o h=>b c o (a c o h)
theorem aC.free {H H':ag4}(e:aC H H'){l:aiM}(h:H' l=atb):H l=atb:=by
 cases q:H l with
 |none=>rfl
 |some o=>rw[e l o q]at h;cases h
theorem aC.seq {K:aiU}{H H':ag4}{a:aiM}{xs:List V}(e:aC H H')(h:bk K H a xs):bk K H' a xs:=by
 rcases h with(h|⟨o,h⟩)|h
 .exact .inl (.inl (e _ _ h))
 .exact .inl (.inr ⟨o,e _ _ h⟩)
 .exact .inr h
end L2
namespace HT
open PySem PyProof.Rows
noncomputable def lexLe:List Int->List Int->Bool
 |[],[]=>true
 |[],_::_=>true
 |_::_,[]=>false
 |x::xs,y::ys=>if x=y then lexLe xs ys else decide (x<=y)
theorem nq (x y:Int)(xs ys:List Int):lexLe (x::xs) (y::ys)=if x=y then lexLe xs ys else decide (x<=y):=rfl
theorem ur:lexLe [] []=true:=rfl
theorem Bd (y:Int)(ys:List Int):lexLe [] (y::ys)=true:=rfl
theorem Be (x:Int)(xs:List Int):lexLe (x::xs) []=false:=rfl
theorem XX (A:ajO)(s:aiK)(a:Int)(t:Tok)(c:Int)(u:Tok)(prog:ajr)(w:ajI)(E:aiH->aiK->Prop)(Q:aiH->aiK->Prop)(h:Q (.bool (decide (a<=c))) s):ai0 (ai7 prog w) A (richCompare .LtE (.int a t) (.int c u)) Q E s:=(auL h:ai0 (ai7 prog w) A (ake .LtE (.int a t) (.int c u)) Q E s)
section
open PySem.SeqAt
open PySem.AutoSeq1 (wpAny_loadPart')
open PySem.MeetsSeq PySem.MeetsSeq2 PySem.MeetsSeq3
theorem Em (l b:aiM)(items items2:Array aiH)(n n2:Nat)(dd dd2:Option aiM)(sl sl2:Array (Option aiH))(ns ms:List Int)(hi:alM items.toList ns)(hj:alM items2.toList ms):Meets (Builtin.«tuple.__le__» ⟨[.ref l,.ref b],[]⟩) (fun _ R s=>s.heap.get? l=some {cls:=.type "tuple",dict:=dd,data:=.seq items n,slots:=sl}∧s.heap.get? b=some {cls:=.type "tuple",dict:=dd2,data:=.seq items2 n2,slots:=sl2}∧R (.ok (.ret (.bool (lexLe ns ms)))) s):=
 .of_wp fun prog w A R s h=>by
  obtain⟨hp,g,d,tk,os⟩:=s;obtain⟨hl,hb,h⟩:=h;have f2:=apJ;have z1:items.size=ns.length:=by rw[←hi.length];simp
  have z2:items2.size=ms.length:=by rw[←hj.length];simp
  wp_walk using aoP hl,aoP hb,amG _ (fun rest b s'=>b.1=none∧s'=⟨hp,g,d,tk,os⟩∧∃(vs ws:List aiH) (ns' yU:List Int),rest=vs.zip ws∧alM vs ns'∧alM ws yU∧ns'.length+items2.size=yU.length+items.size∧R (.ok (.ret (.bool (lexLe ns' yU)))) ⟨hp,g,d,tk,os⟩) _;case turn=>
   rintro⟨y,x⟩ rest b s' ⟨hb',rfl,vs,ws,ns',yU,hz,hvi,hwi,hlen,hR⟩;cases hvi with
   |nil=>rw[asf]at hz;cases hz
   |cons a t ac6=>
    cases hwi with
    |nil=>rw[arM]at hz;cases hz
    |cons c u ac7=>
     rw[amP]at hz;injection hz with hyx hrest;injection hyx with hy hx;subst hy hx;rw[nq]at hR;simp only[ajl]at hlen;obtain⟨e,he,XC⟩:=JT A.in1 ⟨hp,g,d,tk,os⟩ a t c u;refine aiD (he prog w _ _ ?_);cases e with
     |true=>rw[aiP (XC.mp rfl)]at hR;wp_walk;exact⟨rfl,rfl,_,_,_,_,hrest,ac6,ac7,by lia,hR⟩
     |false=>rw[aiL (fun q=>ai8 (XC.mpr q) aiW)]at hR;have hri:=XX A.in1 ⟨hp,g,d,tk,os⟩ a t c u prog w;wp_walk using hri;exact⟨_,rfl,by simpa using hR⟩
  case fin=>
   rintro⟨b1,b2⟩ s' ⟨hb',rfl,vs,ws,ns',yU,hz,hvi,hwi,hlen,hR⟩;simp only at hb';subst hb';have hv:lexLe ns' yU=decide (items.size<=items2.size):=by
    cases hvi with
    |nil=>
     cases hwi with
     |nil=>simp only[alv]at hlen;rw[ur];exact(aiQ (by lia)).symm
     |cons c u hw=>simp only[alv,ajl]at hlen;rw[Bd];exact(aiQ (by lia)).symm
    |cons a t hv=>
     cases hwi with
     |nil=>simp only[alv,ajl]at hlen;rw[Be];exact(aiO (by lia)).symm
     |cons c u hw=>rw[amP]at hz;cases hz
   rw[hv]at hR;wp_walk;exact⟨_,rfl,by simpa[aoh]using hR⟩
  case h=>exact⟨rfl,rfl,items.toList,items2.toList,ns,ms,rfl,hi,hj,by lia,h⟩
end
section
variable{prog:ajr}{w:ajI}{A:ajO}{E:aiH->aiK->Prop}{s:aiK}
theorem O5 {l b:aiM}{items items2:Array aiH}{ns ms:List Int}{Q:aiH->aiK->Prop}(hl:as8 s.heap l items)(hb:as8 s.heap b items2)(hi:alM items.toList ns)(hj:alM items2.toList ms)(hu:A.units<ak8)(h:Q (.bool (lexLe ns ms)) s):ai0 (ai7 prog w) A (ake .LtE (.ref l) (.ref b)) Q E s:=by obtain⟨⟨cls,dd,data,sl⟩,ho,hc,n,hd⟩:=id hl;obtain⟨⟨cls2,dd2,data2,sl2⟩,ho2,hc2,n2,hd2⟩:=id hb;simp only at hc hd hc2 hd2;subst hc hd hc2 hd2;exact aql (op:=.LtE) ⟨_,ho,rfl⟩ ⟨_,ho2,rfl⟩ PySem.F.slot_tuple_le PySem.F.entry_tuple_le (PySem.F.args_tuple_le_2 _ _) (Em l b items items2 n n2 dd dd2 sl sl2 ns ms hi hj) ⟨ho,ho2,show alF (lexLe ns ms)≠aqS∧Q (.bool (lexLe ns ms)) s from⟨(fun x=>nomatch x),h⟩⟩ hu
end
end HT
namespace L2
open PySem PySem.Spec PyProof.Rows
section
variable{X:aif}
def afK (K:aiU):aho:=fun x y H Q=>∃a b ns ms,x=.ref a∧y=.ref b∧cD K H a (ns.map V.int)∧cD K H b (ms.map V.int)∧Q (.bl (HT.lexLe ns ms)) H
theorem adi (hu:X.A.units<ak8):qt X (ake .LtE) (afK X.K):=by intro pins s σ H x y v u Q I rx ry h;obtain⟨a,b,ns,ms,rfl,rfl,ha,hb,q⟩:=h;cases rx;cases ry;obtain⟨its,r1,p1,_⟩:=I.tuple ha;obtain⟨its2,r2,p2,_⟩:=I.tuple hb;have i1:alM its.toArray.toList ns:=intsAre_of r1;have i2:alM its2.toArray.toList ms:=intsAre_of r2;exact HT.O5 p1 p2 i1 i2 hu ⟨.bl (HT.lexLe ns ms),H,I,rfl,q⟩
end
end L2
namespace L2
open PySem
open Sem (wp)
def F2 (e:aiM)(c:aiH)(h:aj4):Prop:=∃o vs,h.get? e=some o∧o.data=.fields vs∧vs[2]?=some c
structure KF (e:aiM)(c:aiH){α:Type}(t:Sem α):Prop where
 out:∀(M:apU) (Γ:Ctx) (P:α->Pos->aiK->Prop) (Ee:aiH->Pos->aiK->Prop) (p:Pos) (s:aiK),F2 e c s.heap->wp M Γ t P Ee p s->wp M Γ t (fun a p' s'=>P a p' s'∧F2 e c s'.heap) Ee p s
theorem F2.upd {e:aiM}{c:aiH}{h:aj4}(x:F2 e c h)(a:aiM)(f:Obj->Obj)(hf:∀o vs,o.data=.fields vs->vs[2]?=some c->∃vs',(f o).data=.fields vs'∧vs'[2]?=some c):F2 e c (h.update a f):=by
 obtain⟨o,vs,ho,hd,h2⟩:=x;by_cases q:e=a
 .subst q;obtain⟨vs',d',h2'⟩:=hf o vs hd h2;exact⟨f o,vs',ajV f ho (aqD d'),d',h2'⟩
 .exact⟨o,vs,(anx _ _ _ _ q).trans ho,hd,h2⟩
namespace KF
variable{e:aiM}{c:aiH}{α β:Type}
theorem pure (a:α):KF e c (Pure.pure a:Sem α):=⟨fun _ _ _ _ _ _ hF h=>⟨h,hF⟩⟩
theorem unsupported (w:String):KF e c (PySem.unsupported w:Sem α):=⟨fun _ _ _ _ _ _ _ h=>h⟩
theorem bind {m:Sem α}{f:α->Sem β}(hm:KF e c m)(hf:∀a,KF e c (f a)):KF e c (m>>=f):=⟨fun M Γ P Ee p s hF h=>by rw[Sem.wp_bind']at h ⊢;refine Sem.wp_mono M Γ m (fun a p' s' h'=>?_) (fun _ _ _ x=>x) p s (hm.out M Γ _ Ee p s hF h);exact(hf a).out M Γ P Ee p' s' h'.2 h'.1⟩
theorem ite {q:Prop}[Decidable q]{t u:Sem α}(ht:KF e c t)(hu:KF e c u):KF e c (if q then t else u):=by split<;>assumption
theorem load (a:aiM):KF e c (PySem.load a):=⟨fun _ _ _ _ _ _ hF h=>by obtain⟨o,ho,h⟩:=h;exact⟨o,ho,h,hF⟩⟩
theorem stack:KF e c au0:=⟨fun M Γ P Ee p s hF h=>by unfold au0 at h ⊢;rw[Sem.wp_stack]at h ⊢;exact⟨h,hF⟩⟩
theorem field (v:aiH)(i:Nat):KF e c (PySem.field v i):=⟨fun _ Γ P Ee p s hF h=>by rw[wp_field_iff]at h ⊢;obtain⟨a,o,vs,x,e1,e2,e3,e4,h⟩:=h;exact⟨a,o,vs,x,e1,e2,e3,e4,h,hF⟩⟩
theorem setField (v:aiH)(i:Nat)(x:aiH)(hi:i≠2):KF e c (PySem.setField v i x):=⟨fun _ Γ P Ee p s hF h=>by rw[wp_setField_iff]at h ⊢;obtain⟨a,o,vs,e1,e2,e3,e4,h⟩:=h;refine⟨a,o,vs,e1,e2,e3,e4,h,hF.upd a _ fun o vs hd h2=>⟨_,ape hd _,?_⟩⟩;rw[aoi hi];exact h2⟩
theorem update (a:aiM)(f:Obj->Obj)(hf:∀o,(f o).data=o.data):KF e c (PySem.update a f):=⟨fun _ _ _ _ _ _ hF h=>by obtain⟨h1,h2⟩:=h;exact⟨h1,h2,hF.upd a f fun o vs hd h2=>⟨vs,(hf o).trans hd,h2⟩⟩⟩
theorem alloc (o:Obj):KF e c (PySem.alloc o):=⟨fun _ _ _ _ _ _ hF h=>by obtain⟨o2,vs,ho,hd,h2⟩:=hF;exact⟨h,o2,vs,aiS _ ho,hd,h2⟩⟩
end KF
section
variable{e:aiM}{c:aiH}
theorem U9 (env:Env)(outer:List Env):KF e c (behindIsImport env outer):=by
 unfold behindIsImport
 (repeat' with_reducible first|assumption|exact KF.pure _|exact KF.unsupported _|exact KF.field _ _|exact KF.setField _ _ _ (by decide)|exact KF.load _|exact KF.update _ _ (fun _=>rfl)|exact KF.stack|exact KF.alloc _|apply KF.ite|apply KF.bind|intro _|split)
theorem X3:KF e c aqV:=by
 unfold aqV
 (repeat' with_reducible first|assumption|exact KF.pure _|exact KF.unsupported _|exact KF.field _ _|exact KF.setField _ _ _ (by decide)|exact KF.load _|exact KF.update _ _ (fun _=>rfl)|exact KF.stack|exact KF.alloc _|apply KF.ite|apply KF.bind|intro _|split)
theorem J6 (env:Env)(i:Bool)(l:List Env):KF e c (keptBack env i l):=by have:=X3 (e:=e) (c:=c);cases l<;>unfold keptBack<;>(repeat' with_reducible first|assumption|exact KF.pure _|exact KF.unsupported _|exact KF.field _ _|exact KF.setField _ _ _ (by decide)|exact KF.load _|exact KF.update _ _ (fun _=>rfl)|exact KF.stack|exact KF.alloc _|apply KF.ite|apply KF.bind|intro _|split)
theorem J7:∀l:List Env,KF e c (readyFrames l)
 |[]=>KF.pure _
 |env::outer=>by
  have ih:=J7 outer
  have h1:=U9 (e:=e) (c:=c) env outer
  have h2:=fun i=>J6 (e:=e) (c:=c) env i outer
  unfold readyFrames
  (repeat' with_reducible first|assumption|exact KF.pure _|exact KF.unsupported _|exact KF.field _ _|exact KF.setField _ _ _ (by decide)|exact KF.load _|exact KF.update _ _ (fun _=>rfl)|exact KF.stack|exact KF.alloc _|apply KF.ite|apply KF.bind|intro _|split)
  all_goals first|exact h2 _|skip
theorem Bf (l:List Env):KF e c (frameObject l):=by
 cases l with
 |nil=>exact KF.pure _
 |cons env outer=>
  have:=J7 (e:=e) (c:=c) (env::outer);unfold frameObject
  (repeat' with_reducible first|assumption|exact KF.pure _|exact KF.unsupported _|exact KF.field _ _|exact KF.setField _ _ _ (by decide)|exact KF.load _|exact KF.update _ _ (fun _=>rfl)|exact KF.stack|exact KF.alloc _|apply KF.ite|apply KF.bind|intro _|split)
theorem HB:KF e c frameEnvs:=by
 unfold frameEnvs
 (repeat' with_reducible first|assumption|exact KF.pure _|exact KF.unsupported _|exact KF.field _ _|exact KF.setField _ _ _ (by decide)|exact KF.load _|exact KF.update _ _ (fun _=>rfl)|exact KF.stack|exact KF.alloc _|apply KF.ite|apply KF.bind|intro _|split)
theorem O6 (env:Env):KF e c (frameOf env):=by
 have h1:=HB (e:=e) (c:=c);have h2:=fun l=>Bf (e:=e) (c:=c) l;unfold frameOf
 (repeat' with_reducible first|assumption|exact KF.pure _|exact KF.unsupported _|exact KF.field _ _|exact KF.setField _ _ _ (by decide)|exact KF.load _|exact KF.update _ _ (fun _=>rfl)|exact KF.stack|exact KF.alloc _|apply KF.ite|apply KF.bind|intro _|split);all_goals first|exact h2 _|skip
theorem X4 (f:aiM)(b:Bool):KF e c (entryPlaceOf f b):=by
 unfold entryPlaceOf
 (repeat' with_reducible first|assumption|exact KF.pure _|exact KF.unsupported _|exact KF.field _ _|exact KF.setField _ _ _ (by decide)|exact KF.load _|exact KF.update _ _ (fun _=>rfl)|exact KF.stack|exact KF.alloc _|apply KF.ite|apply KF.bind|intro _|split)
theorem HD (n:String)(vs:List aiH):KF e c (newFields n vs):=by
 unfold newFields newObj newObjAsIs
 (repeat' with_reducible first|assumption|exact KF.pure _|exact KF.unsupported _|exact KF.field _ _|exact KF.setField _ _ _ (by decide)|exact KF.load _|exact KF.update _ _ (fun _=>rfl)|exact KF.stack|exact KF.alloc _|apply KF.ite|apply KF.bind|intro _|split)
theorem J8 (a b d f g:aiH)(l:List aiH):KF e c (arl a b d f g l):=by unfold arl;exact HD _ _
theorem HF (v:aiH)(env:Env):KF e c (asL v env):=by
 have h1:=O6 (e:=e) (c:=c) env;have h2:=fun f b=>X4 (e:=e) (c:=c) f b;have h3:=fun x1 x2 x3 x4 x5 l=>J8 (e:=e) (c:=c) x1 x2 x3 x4 x5 l;unfold asL
 (repeat' with_reducible first|assumption|exact KF.pure _|exact KF.unsupported _|exact KF.field _ _|exact KF.setField _ _ _ (by decide)|exact KF.load _|exact KF.update _ _ (fun _=>rfl)|exact KF.stack|exact KF.alloc _|apply KF.ite|apply KF.bind|intro _|split);all_goals first|exact h2 _ _|exact h3 _ _ _ _ _ _|skip
theorem HH (v:aiH)(f:Option aiM):KF e c (setFlight v f):=by
 unfold setFlight
 (repeat' with_reducible first|assumption|exact KF.pure _|exact KF.unsupported _|exact KF.field _ _|exact KF.setField _ _ _ (by decide)|exact KF.load _|exact KF.update _ _ (fun _=>rfl)|exact KF.stack|exact KF.alloc _|apply KF.ite|apply KF.bind|intro _|split)
theorem Bg (v:aiH)(env:Env):KF e c (atv env v):=by unfold atv;exact KF.bind (HF v env) fun _=>HH v none
theorem KF.any {α:Type}{t:Sem α}(k:KF e c t){M:apU}{A:ajO}{Q:α->aiK->Prop}{E:aiH->aiK->Prop}{s:aiK}(hF:F2 e c s.heap)(h:ai0 M A t Q E s):ai0 M A t (fun a s'=>Q a s'∧F2 e c s'.heap) E s:=by intro Γ p hΓ;exact k.out M Γ _ _ _ s hF (h Γ p hΓ)
end
end L2
namespace My
open PySem PySem.W PyProof.Rows
def goT (tb:String->Option Builtin)(p:ajr)(w:ajI)(n₀:Nat)(ann:Option aiH):Nat->SharedT->Thread->Option SharedT
 |0,_,_=>none
 |n+1,s,t=>match through t with
  |true=>some s
  |false=>match stepOk n₀ ann t with
   |false=>none
   |true=>match stepT (denote tb) p w s t with
    |some (s',t')=>goT tb p w n₀ ann n s' t'
    |none=>none
def acG:List Obj->Nat->BT->BT
 |[],_,t=>t
 |o::r,n,t=>acG r (n+1) (t.ins n o)
theorem X5 {tb:String->Option Builtin}{p:ajr}{w:ajI}{n₀:Nat}{ann:Option aiH}:∀{n:Nat} {s r:SharedT} {t:Thread},goT tb p w n₀ ann n s t=some r->topRun tb p w n₀ ann n s.abs t=some r.abs
 |0,_,_,_,h=>by cases h
 |n+1,s,r,t,h=>by
  unfold goT at h
  unfold topRun
  cases ht:through t with
  |true=>rw[ht]at h;cases h;rfl
  |false=>
   rw[ht]at h
   cases hk:stepOk n₀ ann t with
   |false=>rw[hk]at h;cases h
   |true=>
    rw[hk]at h
    cases hs:stepT (denote tb) p w s t with
    |none=>rw[hs]at h;cases h
    |some r=>obtain⟨s₂,t₂⟩:=r;rw[hs]at h;rw[stepT_spec hs];exact X5 h
noncomputable def X6 (P:arR):BT:=acG (alj P).objs.toList 0 .nil
theorem Va (P:arR):absHeap (X6 P) (alj P).objs.size (alj P).life=alj P:=by kernel_rfl
theorem abb (P:arR):((alj P).isNs ajz&&(ap3 ([]:List atz)).size==0)=true:=by kernel_rfl
noncomputable def lookT (p q : ajr) (loose : List Str) (abd : WRecords) (as : List aiM) (N : Nat) (w : ajI) (os : OsState) :=
  (goT treeTable p w (alj w.params).objs.size ((alj w.params).nsMap ajz "__annotations__") N ⟨X6 w.params, (alj w.params).objs.size, (alj w.params).life, ap3 [], aqo, arh, os⟩ (topStub p)).map fun s =>
    ((staticsOk (aqx p.main.body) (alj w.params) s.abs.heap && namesBound p s.abs.heap && gensDone s.abs && laidKept (alj w.params) s.abs.heap),
      openSeen q loose (aqx p.main.body) (fun s => xlAt q [] s && recOk abd s) true s.abs, as.map s.abs.heap.get?)
theorem afL:((fun(_:ajr->ajr->List Str->WRecords->List aiM->Nat->ajI->OsState->Bool)=>true) fun p q l r a n w o=>(lookT p q l r a n w o).isSome)=true:=by k_qdec
theorem left_of {p q:ajr}{loose:List Str}{abd:WRecords}{as:List aiM}{K:arR->aiU}{e:∀P,as=(K P).map (·.1)}{N:Nat}(e1:opening p=plainProg p.main.scope.names)(hN:Nat.ble 600 N=true)(hf:∀s,fenceModules? p s=some s)(h:∀w os,lookT p q loose abd as N w os=some (true,openGood q loose,(K w.params).map fun p=>some p.2)):LeftO p q loose (fun s=>xlAt q [] s&&recOk abd s) (kHook K as e).obs (kHook K as e).val N:=fun w=>by
 obtain⟨⟨h0,gs,d,k,os⟩,e2,e3⟩:=alr.mp (boot_open e1 hN hf w);obtain⟨rfl,rfl,rfl,rfl⟩:h0=alj w.params∧gs=ap3 []∧d=aqo∧k=arh:=by simpa using e3
 obtain⟨s,r,l⟩:=alr.mp (h w os);obtain⟨l1,l2,l3⟩:_∧_∧_:=by simpa only[Prod.mk.injEq]using l
 have r':=X5 r;have es:(SharedT.mk (X6 w.params) (alj w.params).objs.size (alj w.params).life (ap3 []) aqo arh os).abs=⟨alj w.params,ap3 [],aqo,arh,os⟩:=by unfold SharedT.abs;dsimp only;rw[Va]
 rw[es]at r';have t:topFrom treeTable p w N ⟨alj w.params,ap3 [],aqo,arh,os⟩=some s.abs:=by unfold topFrom;dsimp only;rw[abb,r'];show(match staticsOk (aqx p.main.body) (alj w.params) s.abs.heap&&namesBound p s.abs.heap&&gensDone s.abs&&laidKept (alj w.params) s.abs.heap with|true=>_|false=>_)=_;rw[l1]
 unfold openEnds;rw[e2];show(topFrom treeTable p w N _).map _=_;rw[t];exact congrArg some (aqT l2 l3)
end My
namespace L2
open PySem PySem.Spec PyProof.Rows
theorem b8.there {P:ajr}{w:ajI}{H:ag4}{h:aj4}{a:aiM}{o:HO}(x:b8 P w H h a o):∃ob,h.get? a=some ob:=by
 cases o with
 |lst xs=>obtain⟨_,_,_,_,e⟩:=x;exact⟨_,e⟩
 |tup xs=>obtain⟨_,_,_,ob,e,_⟩:=x;exact⟨ob,e⟩
 |ah2 kvs=>obtain⟨_,_,_,_,ob,_,_,e,_⟩:=x;exact⟨ob,e⟩
 |dT B kvs=>obtain⟨_,_,_,_,ob,_,_,e,_⟩:=x;exact⟨ob,e⟩
 |set S n=>obtain⟨ob,_,_,_,e,_⟩:=x;exact⟨ob,e⟩
 |ins C dx fs=>obtain⟨_,_,_,e,_⟩:=x;exact⟨_,e⟩
 |own y=>obtain⟨ob,e⟩:=x;exact⟨ob,e⟩
 |ahI fs=>obtain⟨_,⟨ob,_,_,e,_⟩,_⟩:=x;exact⟨ob,e⟩
 |rng lo hi=>obtain⟨_,_,_,e⟩:=x;exact⟨_,e⟩
 |uq ob u=>obtain⟨e,_⟩:=x;exact⟨_,e⟩
 |tbl ps=>exact⟨_,(show h.get? a=some _ from x)⟩
 |met f y=>exact⟨_,(show h.get? a=some _ from x)⟩
 |ext φ=>obtain⟨_,e,_⟩:=x;exact e
structure aeN (fl:aiH)(H:ag4)(h0:aj4)(a C:aiM)(h:aj4):Prop where
 ex:∃(oe:Obj) (vs:Array aiH) (T:aiM) (oT:Obj) (ts:Array aiH) (a0:aiH),h.get? a=some oe∧oe.cls=ai2 C∧oe.data=.fields vs∧vs[0]?=some a0∧vs[1]?=some (.ref T)∧T≠a∧h.get? T=some oT∧oT.data=.fields ts∧ts[3]?=some fl∧h0.get? T=none∧H T=none
 new:h0.get? a=none
 nt:H a=none
abbrev Gr:=aeN .none
def cI (P:ajr)(w:ajI):Xy:=fun outer H s E e s'=>∃(a C:aiM) (m:Option aiM) (H':ag4),e=.ref a∧s'.os=s.os∧aoZ s'.gens∧ahd (frs outer) [] H H' s.heap s'.heap∧qw P w H' s'.heap∧Gr H' s.heap a C s'.heap∧(m=none->F2 a .none s'.heap)∧E (.ref C) m H'
structure Own (X:aif):Prop where
 st:X.stack=X.env::X.outer
 fr:X.env.frame=some X.env.locals
 ex:X.ex=[]
section
variable{X:aif}{pins:List (aiM×Obj)}{σ:St}{H:ag4}{s:aiK}{e C:aiM}
theorem Own.frs (o:Own X):frs X.stack=X.env.locals::X.fs:=by rw[o.st];unfold L2.frs;rw[ajN,o.fr];rfl
theorem Inv.old_ne (I:Inv X pins σ H s){b:aiM}{ob:Obj}(q:X.s₀.heap.get? b=some ob):b≠X.env.locals:=ajw (ajv (aja q) I.ok.above)
theorem vG (I:Inv X pins σ H s)(o:Own X){h0:aj4}{ext:List aiM}{a0 fl:aiH}{h2:aj4}(hs0:∀b ob,X.s₀.heap.get? b=some ob->∃o2,h0.get? b=some o2)(h0s:∀b ob,h0.get? b=some ob->∃o2,s.heap.get? b=some o2)(hx:∀b∈ext,h0.get? b=none∧H b=none)(he:e∈ext)(L:au1 (akY s.heap (frs X.stack++ext)) (X.env::X.outer) e (.ref C) a0 fl s.heap h2):ahd X.fs [] X.H₀ H X.s₀.heap h2∧qw X.prog X.w H h2∧aeN fl H h0 e C h2:=by
 obtain⟨k1,k2,⟨oe,vs,T,oT,ts,t1,⟨t2,t3⟩,t4,t5,ahv,ag8,ail,t9,t10⟩,k4⟩:=L;have nox:∀b:aiM,b∉X.ex:=fun b z=>by rw[o.ex]at z;exact ai8 z (by simp)
 have nx0:∀b ob,X.s₀.heap.get? b=some ob->b∉ext:=fun b ob q z=>by obtain⟨o2,e2⟩:=hs0 b ob q;rw[(hx b z).1]at e2;cases e2
 have X7:∀b ob,s.heap.get? b=some ob->b∉L2.frs X.stack->b∉ext->h2.get? b=some ob:=fun b ob q n1 n2=>k1 b ob (amy _ q fun z=>(ai1.mp z).elim n1 n2);have nf:∀b ob,X.s₀.heap.get? b=some ob->b∉X.fs->b∉L2.frs X.stack:=fun b ob q n z=>by
  rw[o.frs]at z;rcases ai3.mp z with z|z
  .exact I.old_ne q z
  .exact n z
 have acH:∀b ob,X.s₀.heap.get? b=some ob->b∈X.fs->∃sl,h2.get? b=some {ob with slots:=sl}:=fun b ob q hb=>by obtain⟨sl,e1⟩:=I.base.slot b ob q (I.ok.frf b hb) hb (nox b);obtain⟨_,o2,ho2,hd2⟩:=I.ok.uy.mem hb;rw[q]at ho2;cases ho2;obtain⟨sl2,e2⟩:=k4 b _ e1 hd2;exact⟨sl2,e2⟩
 have hok:qw X.prog X.w H h2:=fun b ob q=>by
  refine(I.hok b ob q).stay (fun c u hc r=>?_) (fun _ z=>z) fun _ _ z=>z;have hc':∃v,H c=some v:=by
   rcases hc with rfl|hc
   .exact⟨_,q⟩
   .exact⟨_,hc⟩
  obtain⟨v,hv⟩:=hc';refine X7 c u r (fun z=>?_) fun z=>?_
  .rw[I.Hq c z]at hv;cases hv
  .rw[(hx c z).2]at hv;cases hv
 have hT:∀ob,s.heap.get? T=some ob->T∈ext:=fun ob q=>by
  by_cases z1:T∈L2.frs X.stack
  .rw[o.st]at z1;obtain⟨_,o2,ho2,hd2⟩:=k2.mem z1;rw[ail]at ho2;cases ho2;exact ai8 t9 (hd2 ts)
  .by_cases z2:T∈ext
   .exact z2
   .rw[amy _ q fun z=>(ai1.mp z).elim z1 z2]at ahv;cases ahv
 refine⟨⟨fun b ob q n hb _=>?_,fun b ob q n hb _=>acH b ob q hb,fun b ob q n _=>I.base.free b ob q n (nox b),fun b ob q _=>?_,I.base.tups,I.base.zJ,I.base.Al⟩,hok,⟨⟨oe,vs,T,oT,ts,a0,t1,t2,t4,t3,t5,ag8,ail,t9,t10,?_,?_⟩,(hx e he).1,(hx e he).2⟩⟩
 .exact X7 b ob (I.base.keep b ob q n hb (nox b)) (nf b ob q hb) (nx0 b ob q)
 .by_cases hb:b∈X.fs
  .obtain⟨sl,e2⟩:=acH b ob q hb;exact⟨_,e2⟩
  .obtain⟨o2,e2⟩:=I.base.there b ob q (nox b);exact⟨o2,X7 b o2 e2 (nf b ob q hb) (nx0 b ob q)⟩
 .cases q:h0.get? T with
  |none=>rfl
  |some ob=>obtain⟨o2,e2⟩:=h0s T ob q;rw[(hx T (hT o2 e2)).1]at q;cases q
 .cases q:H T with
  |none=>rfl
  |some u=>obtain⟨ob,e2⟩:=(I.hok T u q).there;rw[(hx T (hT ob e2)).2]at q;cases q
theorem Own.up (o:Own X)(I:Inv X pins σ H s):∀b ob,X.s₀.heap.get? b=some ob->∃o2,s.heap.get? b=some o2:=fun b ob q=>I.base.there b ob q fun z=>by rw[o.ex]at z;exact ai8 z (by simp)
theorem qF (I:Inv X pins σ H s)(o:Own X)(ext:List aiM):s.heap.FunFrames (akY s.heap (frs X.stack++ext)) (X.env::X.outer):=by have z:=I.stack;have e:=o.st;rw[e]at z;refine PySem.W.funFrames_hide z fun env he b hb=>anb _ ?_;rw[e];exact ama.mpr ⟨env,he,hb⟩
theorem leave_new (I:Inv X pins σ H s)(o:Own X){h1:aj4}{vs:List aiH}{M:apU}{E:aiH->aiK->Prop}{Q:Unit->aiK->Prop}(hx:atQ s.heap h1 e (.ref C) vs)(hQ:∀h2,ahd X.fs [] X.H₀ H X.s₀.heap h2->qw X.prog X.w H h2->Gr H X.s₀.heap e C h2->Q () {s with heap:=h2}):ai0 M X.A (atv X.env (.ref e)) Q E {s with heap:=h1}:=by
 have I1:Inv X pins σ H {s with heap:=h1}:=I.kept (t':=s.toks) hx.keeps;obtain⟨t,he,_,_⟩:=hx.there;have nox:∀b:aiM,b∉X.ex:=fun b z=>by rw[o.ex]at z;exact ai8 z (by simp)
 have n0:X.s₀.heap.get? e=none:=by
  cases q:X.s₀.heap.get? e with
  |none=>rfl
  |some ob=>obtain⟨o2,e2⟩:=I.base.there e ob q (nox e);rw[hx.new]at e2;cases e2
 have agE:H e=none:=by
  cases q:H e with
  |none=>rfl
  |some u=>obtain⟨ob,e2⟩:=(I.hok e u q).there;rw[hx.new]at e2;cases e2
 have HJ:∀b∈[e],X.s₀.heap.get? b=none∧H b=none:=fun b hb=>by
  have z:b=e:=by simpa using hb
  subst z;exact⟨n0,agE⟩
 refine wpAny_leaving_firstW (base:=akY h1 (frs X.stack++[e])) (a0:=.ref t) (outer:=X.outer) (by rw[I.ok.frames,o.st]) (qF I1 o [e]) o.fr he (fun b ob q=>amN _ q) (alh _ (by simp)) rfl rfl rfl fun h2 hL=>?_;obtain⟨a1,a2,a3⟩:=vG I1 o (fun b ob q=>⟨ob,q⟩) (o.up I1) HJ (by simp) hL;exact hQ h2 a1 a2 a3
theorem X8 (I:Inv X pins σ H s)(o:Own X){h0:aj4}{M:apU}{E:aiH->aiK->Prop}{Q:Unit->aiK->Prop}(F:Gr H h0 e C s.heap)(hh:∀b ob,X.s₀.heap.get? b=some ob->∃o2,h0.get? b=some o2)(hQ:∀h2,ahd X.fs [] X.H₀ H X.s₀.heap h2->qw X.prog X.w H h2->Gr H X.s₀.heap e C h2->Q () {s with heap:=h2}):ai0 M X.A (atv X.env (.ref e)) Q E s:=by
 obtain⟨oe,vs,T,oT,ts,a0,t1,t2,t4,t3,t5,ag8,ail,t9,t10,t11,t12⟩:=F.ex;have up:∀{b:aiM},h0.get? b=none->X.s₀.heap.get? b=none:=fun{b} z=>by
  cases q:X.s₀.heap.get? b with
  |none=>rfl
  |some ob=>obtain⟨o2,e2⟩:=hh b ob q;rw[z]at e2;cases e2
 have HJ:∀b∈[e,T],X.s₀.heap.get? b=none∧H b=none:=fun b hb=>by
  rcases ai3.mp hb with rfl|hb
  .exact⟨up F.new,F.nt⟩
  .have z:b=T:=by simpa using hb
   subst z;exact⟨up t11,t12⟩
 refine wpAny_leaving_nextW (base:=akY s.heap (frs X.stack++[e,T])) (cls:=.ref C) (a0:=a0) (outer:=X.outer) (by rw[I.ok.frames,o.st]) (qF I o [e,T]) o.fr ⟨oe,vs,T,oT,ts,t1,⟨t2,t3⟩,t4,t5,alh _ (by simp),ag8,ail,t9,t10⟩ (fun b ob q=>amN _ q) (alh _ (by simp)) fun h2 hL=>?_;obtain⟨a1,a2,a3⟩:=vG I o (fun b ob q=>⟨ob,q⟩) (o.up I) HJ (by simp) hL;exact hQ h2 a1 a2 a3
end
def Raises (X:aif)(E:agL):Prop:=∀(pins:List (aiM×Obj)) (σ:St) (H:ag4) (s:aiK) (h1:aj4) (e C:aiM) (vs:List aiH),Inv X pins σ H s->atQ s.heap h1 e (.ref C) vs->E (.ref C) none H->X.xe (.ref e) {s with heap:=h1}
section
variable{P:ajr}{w:ajI}{K:aiU}{mg:Str->Option aiH}{base:aj4}{N:List Str}{qual:Str}{scope:ao5}{f:aiM}{cd:aiH}{A:ajO}{outer:List Env}{s:aiK}{H:ag4}{E:agL}
noncomputable abbrev ou (P:ajr)(w:ajI)(K:aiU)(mg:Str->Option aiH)(base:aj4)(N:List Str)(qual:Str)(scope:ao5)(f:aiM)(cd:aiH)(A:ajO)(outer:List Env)(s:aiK)(H:ag4)(E:agL):aif:=eU (cI P w) P w K mg base N qual scope f cd A outer s H E
theorem O7:Own (ou P w K mg base N qual scope f cd A outer s H E):=⟨rfl,rfl,rfl⟩
theorem j6:Raises (ou P w K mg base N qual scope f cd A outer s H E) E:=by intro pins σ H1 s1 h1 e C vs I hx hE;obtain⟨t,he,_,_⟩:=hx.there;have hF:F2 e .none ({s1 with heap:=h1}:aiK).heap:=⟨_,_,he,rfl,rfl⟩;exact cC ((Bg (.ref e) _).any hF (leave_new I O7 hx (Q:=fun _ s2=>∃h2,s2={s1 with heap:=h2}∧ahd _ [] _ H1 _ h2∧qw _ _ H1 h2∧Gr H1 _ e C h2) fun h2 u ok fl=>⟨h2,rfl,u,ok,fl⟩)) fun _ s2 ⟨⟨h2,e2,u,ok,fl⟩,f2⟩=>by subst e2;exact⟨e,C,none,H1,rfl,I.os,I.bare,u,ok,fl,fun _=>f2,hE⟩
theorem pL:qC (cI P w) (ou P w K mg base N qual scope f cd A outer s H E) E:=by
 intro pins σ H1 s1 ev s2 I hx;obtain⟨a,C,m,H2,rfl,os,bare,un,ok,fl,hm,hE⟩:=hx;have agY:Inv (ou P w K mg base N qual scope f cd A outer s H E) pins σ H2 s2:=I.call' os un ok bare (fun b z=>ai8 z (by simp));have go:=X8 agY O7 (M:=ai7 P w) (E:=fun e s''=>cI P w outer H s E e s'') fl (fun b ob q=>I.base.there b ob q (by show b∉([]:List aiM);simp)) (Q:=fun _ s3=>∃h2,s3={s2 with heap:=h2}∧ahd _ [] _ H2 _ h2∧qw _ _ H2 h2∧Gr H2 _ a C h2) fun h2 u ok2 fl2=>⟨h2,rfl,u,ok2,fl2⟩;cases m with
 |none=>refine cC ((Bg (.ref a) _).any (hm rfl) go) fun _ s3 ⟨⟨h2,e2,u,ok2,fl2⟩,f2⟩=>?_;subst e2;exact⟨a,C,none,H2,rfl,agY.os,agY.bare,u,ok2,fl2,fun _=>f2,hE⟩
 |some b=>refine cC go fun _ s3 ⟨h2,e2,u,ok2,fl2⟩=>?_;subst e2;exact⟨a,C,some b,H2,rfl,agY.os,agY.bare,u,ok2,fl2,(fun z=>nomatch z),hE⟩
theorem aX:PassesOwn (ai7 P w) (ou P w K mg base N qual scope f cd A outer s H E).A (ou P w K mg base N qual scope f cd A outer s H E).env (ou P w K mg base N qual scope f cd A outer s H E).xe:=PassesOwn.leaving (Q₁:=fun e s''=>cI P w outer H s E e s'') (E₁:=fun e s''=>cI P w outer H s E e s'')
end
theorem aL {X:aif}:qC (cI X.prog X.w) X E0:=fun _ _ _ _ _ _ _ ⟨_,_,_,_,_,_,_,_,_,_,_,z⟩=>alH z
theorem xr {K:aiU}{h:aj4}{C:aiM}{bmB:List aiH}{newId:String}(X:K.In h)(q:aki K C bmB newId=true):∃bm N nm qn bs hdct sn sub ab col dd k0 k1 k2 k3 k5 mN,K.lookup C=some (aqW nm qn C N bs bm hdct sn sub ab col dd k0 k1 k2 k3 k5 newId)∧h.Ns N mN∧mN "__init__"=none∧OwnTail h bmB bm:=by
 unfold aki at q;split at q
 .rename_i dd cd sl ho;split at q
  .rename_i C2 bm k0 k1 k2 k3 n k5 hm hs;rw[aiR,aiR,aiR,aiR,aiR]at q;obtain⟨⟨⟨⟨⟨q1,q2⟩,q3⟩,q4⟩,q5⟩,q6⟩:=q;have e1:=beq_iff_eq.mp q1;have e2:=beq_iff_eq.mp q2;have e3:cd.hasDel=false:=by simpa using q3
   have e6:=beq_iff_eq.mp q6;subst e1 e2;obtain⟨nm,bs,mro,ns,qn,hd,sn,sub,ab,col,del⟩:=cd;have hm2:mro=.ref C2::bm:=hm;have e32:del=false:=e3;subst hm2 e32;have hsl:sl=#[k0,k1,k2,k3,some (.builtin n),k5]:=by
    cases sl with
    |mk l=>exact congrArg ap3 hs
   subst hsl;exact⟨bm,ns,nm,qn,bs,hd,sn,sub,ab,col,dd,k0,k1,k2,k3,k5,_,ho,.of_isNs (PySem.W.isNs_of_in X q5),PySem.W.nsMap_none_of_in X q5 e6,PySem.W.tail_of_in X q4⟩
  .cases q
 .cases q
section
variable{X:aif}
def adk (C:aiM)(E:agL)(t:TA):TS:=fun _ σ H=>t σ H fun vs H1=>vs.length<=aiV∧E (.ref C) none H1
theorem nu {x:Str}{C:aiM}{E:agL}{B newId initId:String}{bm:List aiH}{e0:akb}{rest:List akb}{t:TA}{np cpos pos:Pos}(hr:Raises X E)(hg:ahT X x)(hm:X.mg x=some (.ref C))(hq:aki X.K C bm newId=true)(FB:ExcBaseFacts B newId initId bm)(hc:X.calm=true)(ha:PA X (e0::rest) t)(he:ajF (e0::rest) X.env=(false,alg e0 X.env)::ajF rest X.env:=by rfl)(hpl:(amO cpos (ajF rest X.env)).any (·.1)=false:=by rfl)(hd:(x==("__debug__":Str))=false:=by decide):PS X (.Raise (some (.Call (.Name x np) (e0::rest) [] cpos)) none pos) (adk C E t):=by
 intro pins s σ H D I h;obtain⟨tl,N,nm,qn,bs,hdct,sn,sub,ab,col,dd,k0,k1,k2,k3,k5,mN,hCK,hN,hni,T⟩:=xr I.mod.kin hq;have hC:=I.mod.kin _ _ hCK;refine wpAny_Raise_call_subT (C:=C) (nm:=nm) (q:=qn) (N:=N) (bs:=bs) (bm:=tl) (hdct:=hdct) (sn:=sn) (sub:=sub) (ab:=ab) (col:=col) (dd:=dd) (k0:=k0) (k1:=k1) (k2:=k2) (k3:=k3) (k5:=k5) (mN:=mN) FB (T.hasType FB.hasBase) (I.ok.hd hc) ?_ hni (zV I hg hm ⟨rfl,?_⟩ hd)
 .rw[he];show(false||(amO cpos (ajF rest X.env)).any (·.1))=false;rw[hpl];rfl
 .have ha2:=ha cpos pins s σ H _ I h;rw[he]at ha2 ⊢;refine aoE (cC ha2 fun us s1 ⟨vs,H1,I1,r1,z,q1⟩=>⟨rfl,by rw[←r1.length];exact z,I1.aid _ _ hC,hN.keeps I1.aid,T.keeps I1.aid,fun h1 e hx=>?_⟩);exact hr pins σ H1 s1 h1 e C us I1 hx q1
end
noncomputable def J9 (a C:aiM):HO:=.ext fun h=>∃(oe:Obj) (vs:Array aiH),h.get? a=some oe∧oe.cls=ai2 C∧oe.data=.fields vs
section
variable{X:aif}{pins:List (aiM×Obj)}{σ:St}{H:ag4}{s:aiK}
theorem Inv.track {a:aiM}{o:HO}(I:Inv X pins σ H s)(hn:H a=none)(h0:X.s₀.heap.get? a=none)(hL:a≠X.env.locals)(hc:∀x c,X.env.cells.lookup x=some c->c≠a)(hp:∀p∈X.pn++pins,p.1≠a)(ho:b8 X.prog X.w (upd H a o) s.heap a o):Inv X pins σ (upd H a o) s:=by
 have ne:∀b u,H b=some u->b≠a:=fun b u q z=>by rw[z,hn]at q;cases q
 refine⟨I.ok,I.os,I.bare,⟨I.base.keep,I.base.slot,fun b ob q n hx=>?_,I.base.there,fun b xs q=>?_,fun b ob u q=>?_,fun b ps q=>?_⟩,I.loc,I.cell,?_,fun x c q=>?_,fun p hp'=>?_,fun b u q=>?_,I.len⟩
 .rw[aO fun z=>by rw[z,h0]at q;cases q];exact I.base.free b ob q n hx
 .have z:=I.base.tups b xs q;rw[aO (ne b _ z)];exact z
 .have z:=I.base.zJ b ob u q;rw[aO (ne b _ z)];exact z
 .obtain⟨m,z⟩:=I.base.Al b ps q;exact⟨m,by rw[aO (ne b _ z)];exact z⟩
 .rw[aO (al3 hL)];exact I.free
 .rw[aO (hc x c q)];exact I.mF x c q
 .obtain⟨e1,e2,e3⟩:=I.pin p hp';exact⟨e1,by rw[aO (hp p hp')];exact e2,e3⟩
 .by_cases hb:b=a
  .subst hb;rw[aA]at q;cases q;exact ho
  .rw[aO hb]at q;exact(I.hok b u q).stay (fun c v _ r=>r) (fun c r=>by rw[aO (ne c _ r)];exact r) fun c xs r=>by rw[aO (ne c _ r)];exact r
theorem Ka {e C:aiM}(I:Inv X pins σ H s)(o:Own X){ext:List aiM}{a0 fl:aiH}{h2:aj4}(hx:∀b∈ext,X.s₀.heap.get? b=none∧H b=none∧∀p∈X.pn++pins,p.1≠b)(he:e∈ext)(L:au1 (akY s.heap (frs X.stack++ext)) (X.env::X.outer) e (.ref C) a0 fl s.heap h2):Inv X pins σ H {s with heap:=h2}:=by
 obtain⟨u,hok,_⟩:=vG I o (fun b ob q=>⟨ob,q⟩) (o.up I) (fun b hb=>⟨(hx b hb).1,(hx b hb).2.1⟩) he L;obtain⟨k1,k2,_,k4⟩:=L;have cellK:∀c v,s.heap.IsCell c v->h2.IsCell c v:=fun c v ⟨ob,q,d⟩=>by
  obtain⟨sl,e2⟩:=k4 c ob q fun vs z=>by rw[d]at z;cases z
  exact⟨_,e2,d⟩
 refine⟨I.ok,I.os,I.bare,?_,?_,fun x c q=>?_,I.free,I.mF,fun p hp=>?_,hok,I.len⟩
 .rw[o.ex];exact u
 .obtain⟨m,hn,hl⟩:=I.loc;refine⟨m,ava k4 hn,fun i x v e1 e2 e3=>?_⟩;obtain⟨agJ,r,l⟩:=hl i x v e1 e2 e3;refine⟨agJ,r,?_⟩;rcases l with l|⟨k,c,q,z⟩
  .exact .inl l
  .exact .inr ⟨k,c,q,cellK c _ z⟩
 .obtain⟨v,z⟩:=I.cell x c q;exact⟨v,cellK c v z⟩
 .obtain⟨e1,e2,e3,e4,e5⟩:=I.pin p hp;refine⟨k1 _ _ (amy _ e1 fun z=>?_),e2,e3,e4,e5⟩;rcases ai1.mp z with z|z
  .rw[o.frs]at z;rcases ai3.mp z with z|z
   .exact e3 z
   .exact e4 z
  .exact(hx p.1 z).2.2 p hp rfl
theorem Bh {M:apU}{A:ajO}{E:aiH->aiK->Prop}{h:aj4}{g:Array atz}{d:Drawn}{t:Nat}{os:OsState}{e C L:aiM}{oe:Obj}{Q:Bool->aiK->Prop}{nm q:Str}{N:aiM}{bs bm:List aiH}{hdct:Bool}{sn:List Str}{sub:List aiH}{ab:Bool}{col:Option Bool}{dd:Option aiM}{k0 k1 k2 k3 k5:Option aiH}{newId:String}{nm' q':Str}{N':aiM}{bs' bm':List aiH}{aeO:Bool}{sn':List Str}{afM:List aiH}{ahc:Bool}{afN:Option Bool}{dd':Option aiM}{l0 l1 l2 l3 l5:Option aiH}{newId':String}(hC:h.get? C=some (aqW nm q C N bs bm hdct sn sub ab col dd k0 k1 k2 k3 k5 newId))(hL:h.get? L=some (aqW nm' q' L N' bs' bm' aeO sn' afM ahc afN dd' l0 l1 l2 l3 l5 newId'))(he:h.get? e=some oe)(hcls:oe.cls=.ref C)(hbase:bm'.contains (.type "BaseException")=true)(hsub:(ai2 C::bm).contains (.ref L)=true)(hq:Q true ⟨h,g,d,t,os⟩):ai0 M A (excMatches (.ref e) (.ref L)) Q E ⟨h,g,d,t,os⟩:=by
 have hcB:(ai2 L::bm').contains (.type "BaseException")=true:=by rw[List.contains_cons,hbase,auQ]
 have f:=tc_notTuple;unfold excMatches;repeat (first|(with_reducible refine an6 he ?_;rw[hcls])|with_reducible refine an6 hL ?_|with_reducible refine an6 hC ?_|(with_reducible refine arn hL ?_;rw[hcB])|(with_reducible refine arn hC ?_;rw[hsub])|wp_step)
 exact hq
noncomputable abbrev aif.tr (X:aif)(xe:aiH->aiK->Prop)(pn:List (aiM×Obj)):aif:={X with xe:=xe,pn:=pn}
noncomputable abbrev aif.hs (X:aif)(v:aiH):aif:={X with A:=X.A.mark (some v),calm:=false,xe:=fun _ _=>False}
theorem aif.Ok.tr {xe:aiH->aiK->Prop}{pn:List (aiM×Obj)}(ok:X.Ok):(X.tr xe pn).Ok:=⟨ok.mod,ok.kind,ok.glob,ok.blt,ok.above,ok.inj,ok.has,ok.cab,ok.hd,ok.frames,ok.stk,ok.exf,ok.bs,ok.Xd,ok.Oc,ok.Od,ok.uy,ok.frf⟩
theorem aif.Ok.vH {xe:aiH->aiK->Prop}{pn:List (aiM×Obj)}(ok:(X.tr xe pn).Ok):X.Ok:=⟨ok.mod,ok.kind,ok.glob,ok.blt,ok.above,ok.inj,ok.has,ok.cab,ok.hd,ok.frames,ok.stk,ok.exf,ok.bs,ok.Xd,ok.Oc,ok.Od,ok.uy,ok.frf⟩
theorem aif.Ok.hs {v:aiH}(ok:X.Ok):(X.hs v).Ok:=⟨ok.mod,ok.kind,ok.glob,ok.blt,ok.above,ok.inj,ok.has,ok.cab,fun z=>al' z,ok.frames,ok.stk,ok.exf,ok.bs,ok.Xd,ok.Oc,ok.Od,ok.uy,ok.frf⟩
theorem Inv.tr {xe:aiH->aiK->Prop}(I:Inv X pins σ H s):Inv (X.tr xe (X.pn++pins)) [] σ H s:=⟨I.ok.tr,I.os,I.bare,I.base,I.loc,I.cell,I.free,I.mF,fun p hp=>I.pin p (by simpa using hp),I.hok,I.len⟩
theorem Inv.vH {xe:aiH->aiK->Prop}{Am:List (aiM×Obj)}(I:Inv (X.tr xe (X.pn++pins)) Am σ H s):Inv X pins σ H s:=⟨I.ok.vH,I.os,I.bare,I.base,I.loc,I.cell,I.free,I.mF,fun p hp=>I.pin p (anb _ hp),I.hok,I.len⟩
theorem SP.vH {xe:aiH->aiK->Prop}{Am:List (aiM×Obj)}{D:Ends}{f:Flow}{s':aiK}(h:SP (X.tr xe (X.pn++pins)) Am D f s'):SP X pins D f s':=by
 cases f with
 |next=>obtain⟨σ',H',I,q⟩:=h;exact⟨σ',H',I.vH,q⟩
 |brk=>obtain⟨σ',H',I,q⟩:=h;exact⟨σ',H',I.vH,q⟩
 |cont=>obtain⟨σ',H',I,q⟩:=h;exact⟨σ',H',I.vH,q⟩
 |ret u=>obtain⟨v,σ',H',I,r,q⟩:=h;exact⟨v,σ',H',I.vH,r,q⟩
theorem Inv.hs {v:aiH}(I:Inv X pins σ H s):Inv (X.hs v) pins σ H s:=⟨I.ok.hs,I.os,I.bare,I.base,I.loc,I.cell,I.free,I.mF,I.pin,I.hok,I.len⟩
theorem Inv.abe {v:aiH}(hd:X.calm=true->X.A.handled=none)(I:Inv (X.hs v) pins σ H s):Inv X pins σ H s:=⟨⟨I.ok.mod,I.ok.kind,I.ok.glob,I.ok.blt,I.ok.above,I.ok.inj,I.ok.has,I.ok.cab,hd,I.ok.frames,I.ok.stk,I.ok.exf,I.ok.bs,I.ok.Xd,I.ok.Oc,I.ok.Od,I.ok.uy,I.ok.frf⟩,I.os,I.bare,I.base,I.loc,I.cell,I.free,I.mF,I.pin,I.hok,I.len⟩
theorem O8 {i:Nat}{n:Str}{pos:Pos}{M:apU}{A:ajO}{E:aiH->aiK->Prop}{Q:Unit->aiK->Prop}(I:Inv X pins σ H s)(hN:X.N.Nodup)(hi:X.N[i]?=some n)(hl:X.env.scope.names.lookup n=some .local)
 (h:∀h1,akK X.env.locals s.heap h1->Inv X pins (σ.set i none) H {s with heap:=h1,toks:=s.toks+1}->Q () {s with heap:=h1,toks:=s.toks+1}):ai0 M A (do bindName X.env n .none;aqX X.env n pos) Q E s:=by
 obtain⟨m,hn,hlk⟩:=id I.loc;have hcls:(X.env.scope.kind==.class||(X.env.scope.kind==.module&&X.env.locals !=X.env.globals))=false:=by rw[I.ok.kind];rfl
 have aaT:i<σ.length:=by rw[I.len];exact(ajj.mp hi).1
 refine wpAny_nameGoes_keeps hl hn hcls fun h1 v hn1 hs=>h _ hs ?_;have Yb:∀b ob,X.s₀.heap.get? b=some ob->b≠X.env.locals:=fun b ob q=>I.old_ne q;refine⟨I.ok,I.os,I.bare,⟨fun b ob q n hb hx=>(hs.2 b (Yb b ob q)).trans (I.base.keep b ob q n hb hx),fun b ob q n hb hx=>?_,I.base.free,fun b ob q hx=>?_,I.base.tups,I.base.zJ,I.base.Al⟩,⟨_,hn1,fun j y w e1 e2 e3=>?_⟩,fun y c q=>?_,I.free,I.mF,fun p hp=>?_,fun b u q=>?_,by simpa using I.len⟩
 .obtain⟨sl,e1⟩:=I.base.slot b ob q n hb hx;exact⟨sl,(hs.2 b (Yb b ob q)).trans e1⟩
 .obtain⟨o2,e1⟩:=I.base.there b ob q hx;exact⟨o2,(hs.2 b (Yb b ob q)).trans e1⟩
 .by_cases hj:j=i
  .subst hj;rw[anU aaT]at e2;cases e2
  .rw[aoD (al3 hj)]at e2;obtain⟨u,r,l⟩:=hlk j y w e1 e2 e3;refine⟨u,r,?_⟩;rcases l with⟨k,q⟩|⟨k,c,q,z⟩
   .refine .inl ⟨k,?_⟩;have:y≠n:=fun z=>hj (An hN e1 (z▸hi));show(if y=n then v else m y)=some u;rw[aiL this];exact q
   .exact .inr ⟨k,c,q,z.sameBut hs (I.Eh y c q)⟩
 .obtain⟨w',z⟩:=I.cell y c q;exact⟨w',z.sameBut hs (I.Eh y c q)⟩
 .obtain⟨e,e2,e3,e4,e5⟩:=I.pin p hp;exact⟨(hs.2 p.1 e3).trans e,e2,e3,e4,e5⟩
 .refine(I.hok b u q).stay (fun c w' hc r=>(hs.2 c ?_).trans r) (fun _ z=>z) fun _ _ z=>z;intro z;subst z;rcases hc with rfl|hc
  .rw[I.free]at q;cases q
  .rw[I.free]at hc;cases hc
theorem name_goes {i:Nat}{n:Str}{pos:Pos}{M:apU}{A:ajO}{E:aiH->aiK->Prop}{Q:Unit->aiK->Prop}(I:Inv X pins σ H s)(hN:X.N.Nodup)(hi:X.N[i]?=some n)(hl:X.env.scope.names.lookup n=some .local)
 (h:∀s',Inv X pins (σ.set i none) H s'->Q () s'):ai0 M A (do bindName X.env n .none;aqX X.env n pos) Q E s:=O8 I hN hi hl fun h1 _ I1=>h _ I1
def afO (L:aiM)(K:aiU)(i n:Nat)(tb:agL->TS)(th:TS):TS:=fun D σ H=>∃E:agL,tb E D σ H∧∀C m H1,E (.ref C) m H1->
 (∃bm newId,aki K C bm newId=true)∧ajM K C (.ref L)=some true∧∀a H2,aC H1 H2->H2 a=some (J9 a C)->th {nx:=fun σ' H'=>D.nx (σ'.set i none) H',rt:=D.rt,aid:=fun σ' H'=>D.aid (σ'.set i none) H',ct:=fun σ' H'=>D.ct (σ'.set i none) H'} ((akc n none).set i (some (.ref a))) H2
theorem adl {x n:Str}{i:Nat}{L:aiM}{body suite:List akM}{b0:akM}{tb:agL->TS}{th:TS}{np hpos pos:Pos}{bmL:List aiH}{afP:String}(o:Own X)(hc:X.calm=true)(hg:ahT X x)(hm:X.mg x=some (.ref L))(hq:aki X.K L bmL afP=true)(hbL:bmL.contains (.type "BaseException")=true)(hN:X.N.Nodup)(hi:X.N[i]?=some n)(hl:X.env.scope.names.lookup n=some .local)(hb:∀(xe:aiH->aiK->Prop) (pn:List (aiM×Obj)) (E:agL),qC (cI X.prog X.w) (X.tr xe pn) E->zU (X.tr xe pn) body (tb E))(hs:∀v:aiH,zU (X.hs v) (b0::suite) th)(hd:(x==("__debug__":Str))=false:=by decide):PS X (.Try body [.ExceptHandler (some (.Name x np)) (some n) (b0::suite) hpos] [] [] pos) (afO L X.K i X.N.length tb th):=by
 intro pins s σ H D I h;obtain⟨E,hbody,adm⟩:=h;refine wpAny_Try_except (alE (hb (fun e s₁=>ai0 (ai7 X.prog X.w) X.A (asL e X.env) (fun _ s₂=>ai0 (ai7 X.prog X.w) X.A (setFlight e none) (fun _ s₃=>
  ai0 (ai7 X.prog X.w) X.A (handleBy e X.env [.ExceptHandler (some (.Name x np)) (some n) (b0::suite) hpos]) (SP X pins D) X.xe s₃) X.xe s₂) X.xe s₁) (X.pn++pins) E ?_ [] s σ H D I.tr hbody)
  (fun f s1 q=>?_) fun e s1 q=>q)
 .intro Am Ux H1 s1 ev s2 I1 hx;obtain⟨a,C,m,H2,rfl,os,bare,un,ok,fl,_,hE⟩:=hx;obtain⟨⟨bmC,agh,hqC⟩,hsub,hth⟩:=adm C m H2 hE;have agY:Inv X pins Ux H2 s2:=(I1.call' os un ok bare (fun b z=>ai8 z (by simp))).vH;have Bj:∀{b:aiM},s1.heap.get? b=none->b≠X.env.locals∧(∀y c,X.env.cells.lookup y=some c->c≠b)∧(∀p∈X.pn++pins,p.1≠b)∧X.s₀.heap.get? b=none:=fun{b} z=>by
   have I0:Inv X pins Ux H1 s1:=I1.vH;refine⟨fun q=>?_,fun y c hy q=>?_,fun p hp q=>?_,?_⟩
   .obtain⟨m,⟨ob,_,_,hob,_⟩,_⟩:=I0.loc;rw[←q,z]at hob;cases hob
   .obtain⟨v,ob,hob,_⟩:=I0.cell y c hy;rw[q,z]at hob;cases hob
   .have e1:=(I0.pin p hp).1;rw[q,z]at e1;cases e1
   .cases q:X.s₀.heap.get? b with
    |none=>rfl
    |some ob=>obtain⟨o2,e2⟩:=o.up I0 b ob q;rw[z]at e2;cases e2
  have I0:Inv X pins Ux H1 s1:=I1.vH;have h01:∀b ob,s1.heap.get? b=some ob->∃o2,s2.heap.get? b=some o2:=fun b ob q=>un.there b ob q (by simp);obtain⟨oe,vs,T,oT,ts,a0,t1,t2,t4,t3,t5,ag8,ail,t9,t10,t11,t12⟩:=fl.ex;have HJ:∀b∈[a,T],s1.heap.get? b=none∧H2 b=none:=fun b hb'=>by
   rcases ai3.mp hb' with rfl|hb'
   .exact⟨fl.new,fl.nt⟩
   .have z:b=T:=by simpa using hb'
    subst z;exact⟨t11,t12⟩
  have hfr:X.A.frames=some (X.env::X.outer):=by rw[I.ok.frames,o.st]
  refine wpAny_noteFrame_onW (base:=akY s2.heap (frs X.stack++[a,T])) (cls:=.ref C) (a0:=a0) (outer:=X.outer) hfr (qF agY o [a,T]) o.fr ⟨oe,vs,T,oT,ts,t1,⟨t2,t3⟩,t4,t5,alh _ (by simp),ag8,ail,t9,t10⟩ (fun b ob q=>amN _ q) (alh _ (by simp)) fun h3 hN3=>?_;obtain⟨n1,n2,n3,n4⟩:=hN3;refine aqE (s:={s2 with heap:=h3}) n1 n2 n3 fun h4 m1 m2 m3 m4=>?_;have LW:Heap.LeftW (akY s2.heap (frs X.stack++[a,T])) (X.env::X.outer) a (.ref C) a0 s2.heap h4:=⟨m1,m2,m3,fun b ob q hnf=>by obtain⟨sl,e1⟩:=n4 b ob q hnf;exact⟨sl,m4 b _ e1 hnf⟩⟩
  obtain⟨_,_,fl4⟩:=vG agY o (o.up I0) h01 HJ (by simp) LW;have ag5:Inv X pins Ux H2 {s2 with heap:=h4}:=Ka agY o (fun b hb'=>⟨(Bj (HJ b hb').1).2.2.2,(HJ b hb').2,(Bj (HJ b hb').1).2.2.1⟩) (by simp) LW;have h04:∀b ob,s1.heap.get? b=some ob->∃o2,h4.get? b=some o2:=fun b ob q=>by
   obtain⟨o2,e2⟩:=h01 b ob q;by_cases hbf:b∈frs X.stack
   .obtain⟨_,o3,ho3,hd3⟩:=agY.stack.mem hbf;obtain⟨sl,e4⟩:=LW.2.2.2 b o3 ho3 hd3;exact⟨_,e4⟩
   .refine⟨o2,m1 b o2 (amy _ e2 fun z=>(ai1.mp z).elim hbf fun z=>?_)⟩;rw[(HJ b z).1]at q;cases q
  have abf:X.K.In h4:=ag5.wX;obtain⟨agQ,NC,nmC,qnC,bsC,hdC,snC,agi,aie,agj,ddC,c0,c1,c2,c3,c5,mNC,hCK,_,_,_⟩:=xr abf hqC;obtain⟨agH,NL,nmL,qnL,bsL,hdL,snL,agk,ag',agl,ddL,l0,l1,l2,l3,l5,mNL,hLK,_,_,TL⟩:=xr abf hq;have hmro:(ai2 C::agQ).contains (.ref L)=true:=by unfold ajM am8 at hsub;rw[hCK]at hsub;simpa[aqW]using hsub
  refine wpAny_handleBy_cons (codeAny_handlers_test ?_) (by intro q;cases q);have aeP:∀{E':aiH->aiK->Prop} {Q':aiH->aiK->Prop},Q' (.ref L) {s2 with heap:=h4}->ai0 (ai7 X.prog X.w) (X.A.mark (some (.ref a))) (alg (.Name x np) X.env) Q' E' {s2 with heap:=h4}:=fun{E' Q'} q=>anc I.ok.kind hg (apV (by rw[I.ok.glob];exact ag5.mod.glob.keeps ag5.aid) hm q) hd;refine aeP ?_;obtain⟨oe4,vs4,aih,oT4,ts4,a04,u1,u2,u4,u3,aip,u7,u8,ag3,u10,u11,u12⟩:=fl4.ex;obtain⟨hp2,g2,d2,tk2,os2⟩:=s2;refine Bh (abf _ _ hCK) (abf _ _ hLK) u1 u2 (TL.hasType hbL) hmro ?_;show anq _ _ (.handlers _ _ _) _ _;refine codeAny_handlers_suite_as ?_;have Tc:∀b∈[a,aih],s1.heap.get? b=none∧H2 b=none:=fun b hb'=>by
   rcases ai3.mp hb' with rfl|hb'
   .exact⟨fl4.new,fl4.nt⟩
   .have z:b=aih:=by simpa using hb'
    subst z;exact⟨u11,u12⟩
  have kb4:(akY h4 (frs X.stack++[a,aih])).StaysIn h4:=fun b ob q=>amN _ q;have fr4:=qF ag5 o [a,aih];refine aqE (s:=⟨h4,g2,d2,tk2,os2⟩) (base:=akY h4 (frs X.stack++[a,aih])) (l:=X.env::X.outer) (cls:=.ref C) (a0:=a04) (fl:=.none) kb4 fr4 ⟨oe4,vs4,aih,oT4,ts4,u1,⟨u2,u3⟩,u4,aip,alh _ (by simp),u7,u8,ag3,u10⟩ fun h5 r1 r2 r3 r4=>?_;have LW5:Heap.LeftW (akY h4 (frs X.stack++[a,aih])) (X.env::X.outer) a (.ref C) a04 h4 h5:=⟨r1,r2,r3,fun b ob q hnf=>⟨ob.slots,r4 b ob q hnf⟩⟩;obtain⟨_,_,fl5⟩:=vG ag5 o (o.up I0) h04 Tc (by simp) LW5;have ahg:Inv X pins Ux H2 ⟨h5,g2,d2,tk2,os2⟩:=Ka ag5 o (fun b hb'=>⟨(Bj (Tc b hb').1).2.2.2,(Tc b hb').2,(Bj (Tc b hb').1).2.2.1⟩) (by simp) LW5;obtain⟨oe5,vs5,ahF,oT5,ts5,a05,v1,v2,v4,_⟩:=fl5.ex;obtain⟨ne1,ne2,ne3,ne4⟩:=Bj fl5.new;have ahZ:Inv X pins Ux (upd H2 a (J9 a C)) ⟨h5,g2,d2,tk2,os2⟩:=ahg.track fl5.nt ne4 ne1 ne2 ne3 ⟨⟨oe5,vs5,v1,v2,v4⟩,⟨oe5,v1⟩,fun k1 k2 ⟨ox,vx,y1,y2,y3⟩ kk=>⟨ox,vx,kk _ y1,y2,y3⟩⟩;have ais:Inv X pins (akc X.N.length none) (upd H2 a (J9 a C)) ⟨h5,g2,d2,tk2,os2⟩:=ahZ.weak (by rw[aqB,ahZ.len]) fun j v q=>by
   rw[apZ]at q;split at q
   .cases q
   .cases q
  have S0:aC H2 (upd H2 a (J9 a C)):=fun b u q=>by rw[aO fun z=>by rw[z,fl5.nt]at q;cases q];exact q
  have hsu:=hs (.ref a);refine vy (X:=X.hs (.ref a)) (v:=.ref a) ais.hs hN hi (.inl hl) rfl (fun ahS ahL=>?_) (.inr hl);refine alE (hsu pins ahS _ _ _ ahL (hth a (upd H2 a (J9 a C)) S0 aA)) (fun f s9 ahr=>?_) fun _ _ z=>alH z;have hdX:X.calm=true->X.A.handled=none:=I.ok.hd;cases f with
  |next=>obtain⟨σ9,aim,ahj,q⟩:=ahr;exact name_goes (ahj.abe hdX) hN hi hl fun s10 I10=>⟨_,aim,I10,q⟩
  |brk=>obtain⟨σ9,aim,ahj,q⟩:=ahr;exact name_goes (ahj.abe hdX) hN hi hl fun s10 I10=>⟨_,aim,I10,q⟩
  |cont=>obtain⟨σ9,aim,ahj,q⟩:=ahr;exact name_goes (ahj.abe hdX) hN hi hl fun s10 I10=>⟨_,aim,I10,q⟩
  |ret u=>obtain⟨ah3,σ9,aim,ahj,r9,q⟩:=ahr;exact name_goes (ahj.abe hdX) hN hi hl fun s10 I10=>⟨ah3,_,aim,I10,r9,q⟩
 .cases f with
  |next=>exact anI q.vH
  |brk=>exact q.vH
  |cont=>exact q.vH
  |ret u=>exact q.vH
end
section
variable{prog:ajr}{w:ajI}{A:ajO}{R:asH->aiK->Prop}{s:aiK}
theorem HN {elt tg iter:akb}{ifs:List akb}{scope:ao5}{pos:Pos}{it acc:aiH}{env:Env}(I:Nat->aiK->Prop)
 (turn:∀n s,I n s->ai0 (ai7 prog w) A (am5 it) (fun r s₁=>match r with
  |none=>R (.ok .next) s₁
  |some v=>ai0 (ai7 prog w) A (aoN tg it v) (fun _ t₁=>ai0 (ai7 prog w) A (arJ tg env v) (fun _ s₂=>
   ai0 (ai7 prog w) A (forIn ifs true fun c r=>if r=true then do let ok←atA c env (alg c env);pure (anJ ok)else pure (anJ r)) (fun ok s₃=>
    if ok=true then ai0 (ai7 prog w) A (alg elt env) (fun x s₄=>ai0 (ai7 prog w) A (call (.builtin "list.append") [acc,x]) (fun _ s₅=>∃m,m<n∧I m s₅) (fun _ _=>False) s₄) (fun _ _=>False) s₃
    else∃m,m<n∧I m s₃) (fun _ _=>False) s₂) (fun _ _=>False) t₁) (fun _ _=>False) s₁) (fun _ _=>False) s)
 (n:Nat) (h:I n s):anq (ai7 prog w) A (.compLoop (.ListComp elt [⟨tg,iter,ifs,0⟩] scope pos) 0 it acc env) R s:=by
 refine codeAny_loop rfl I (fun n s hI=>?_) n h;show ai0 _ A ((compTurn (.ListComp elt [⟨tg,iter,ifs,0⟩] scope pos) 0 it acc env).onRaise (fun x=>do asL x env;theTreesLotGoes x)) _ _ s;refine wpAny_noted ?_;rw[compTurn_list];have no:∀(E:aiH->aiK->Prop) (e:aiH) (s:aiK),False->E e s:=fun _ _ _ z=>z.elim;refine aiD (wpAny_standAt (aiD (alE (turn n s hI) (fun r s₁ h₁=>?_) (no _))));cases r with
 |none=>exact aiF h₁
 |some v=>
  refine aiD (alE h₁ (fun _ t₁ h₂=>?_) (no _));refine aiD (alE h₂ (fun _ s₂ h₃=>aiD (alE h₃ (fun ok s₃ h₄=>?_) (no _))) (no _));cases ok with
  |false=>exact aiF ⟨rfl,h₄⟩
  |true=>exact aiD (aiD (alE h₄ (fun x s₄ h₅=>aiD (alE h₅ (fun _ s₅ h₆=>aiF (aiF ⟨rfl,h₆⟩)) (no _))) (no _)))
end
noncomputable def JF (X:aif)(N:List Str)(scope:ao5)(cl:List (Str×aiM))(C:aiM)(s:aiK)(H:ag4)(fp:List aiM):aif:={X with N:=N,s₀:=s,H₀:=H,env:=aqY scope cl C X.env,outer:=X.stack,stack:=X.stack,ex:=fp,fn:=fun _=>false,pn:=[],xe:=fun _ _=>False}
structure m5 (X:aif)(N:List Str)(js:List (Option Nat))(scope:ao5)(cl:List (Str×aiM)):Prop where
 kind:scope.kind=.function
 clos:atR scope X.env=pure cl
 adn:∀y∈scope.names,y.2≠.cell
 names:∀y∈scope.names,y.2=.local->scope.names.lookup y.1=some .local
 sub:∀x c,cl.lookup x=some c->X.env.cells.lookup x=some c
 has:∀x,((aqY scope cl 0 X.env).kindOf x=some .cell∨(aqY scope cl 0 X.env).kindOf x=some .free)->∃c,cl.lookup x=some c
 len:js.length=N.length
 free:∀(i j:Nat) (x:Str),js[i]?=some (some j)->N[i]?=some x->X.N[j]?=some x∧((aqY scope cl 0 X.env).kindOf x=some .cell∨(aqY scope cl 0 X.env).kindOf x=some .free)∧(X.env.kindOf x=some .cell∨X.env.kindOf x=some .free)
noncomputable def xu (js:List (Option Nat))(σ:St):St:=js.map fun o=>o.bind fun j=>(σ[j]?).join
section
variable{X:aif}{pins:List (aiM×Obj)}{σ:St}{H:ag4}{s:aiK}{N:List Str}{js:List (Option Nat)}{scope:ao5}{cl:List (Str×aiM)}
theorem O9 {fp:List aiM}{h4:aj4}{t':Nat}(I:Inv X pins σ H s)(cn:m5 X N js scope cl)(hfp:∀b∈fp,zK X pins H b)(hin:∀b∈fp,∃o,s.heap.get? b=some o)(ns:h4.Ns s.heap.objs.size fun _=>none)(sb:akK s.heap.objs.size (s.heap.push {cls:=.type "dict",data:=.dict #[]}) h4):Inv (JF X N scope cl s.heap.objs.size s H fp) [] (xu js σ) H {s with heap:=h4,toks:=t'}:=by
 have keep:∀b o,s.heap.get? b=some o->h4.get? b=some o:=fun b o e=>(sb.2 b (ajw (aja e))).trans (aiS _ e);have ltC:∀b∈fp,b<s.heap.objs.size:=fun b hb=>by obtain⟨o,e⟩:=hin b hb;exact aja e
 refine⟨⟨I.ok.mod,cn.kind,I.ok.glob,I.ok.blt,aiN _,fun x y c e1 e2=>I.ok.inj x y c (cn.sub x c e1) (cn.sub y c e2),fun x hx=>cn.has x hx,fun x c z=>al' z,I.ok.hd,I.ok.frames,.inl rfl,fun b hb=>⟨ajw (ltC b hb),fun x c e=>(hfp b hb).2.2.2.2.1 x c (cn.sub x c e)⟩,
  I.bs,ajt I.ok.Xd I.sz,fun b o e hb=>?_,fun b hb hf=>?_,I.stack,I.Hq⟩,
  rfl,I.bare,ahd.kept keep,⟨_,ns,fun i x v e1 e2 e3=>?_⟩,fun x c e=>?_,I.hok.fresh (aiN _),fun x c e=>I.mF x c (cn.sub x c e),fun p hp=>ai8 (show p∈([]:List (aiM×Obj))from hp) (by simp),I.hok.kept keep,?_⟩
 .rcases(hfp b hb).2.2.2.1 with z|z
  .exact I.ok.Oc b o e z
  .exact ai8 (ajv (aja e) (ajt I.ok.Xd z)) (aky _)
 .rcases ai3.mp (I.Oe b hf)with z|z
  .exact(hfp b hb).2.1 z
  .exact(hfp b hb).2.2.1 z
 .have hp:∃j,js[i]?=some (some j)∧σ[j]?=some (some v):=by
   unfold xu at e2;rw[ai6]at e2;cases q:js[i]? with
   |none=>rw[q]at e2;cases e2
   |some oj=>
    rw[q]at e2;cases oj with
    |none=>cases e2
    |some j=>
     refine⟨j,rfl,?_⟩;have e2':(σ[j]?).join=some v:=ajn e2;cases z:σ[j]? with
     |none=>rw[z]at e2';cases e2'
     |some y=>rw[z]at e2';exact congrArg some e2'
  obtain⟨j,q1,q2⟩:=hp;obtain⟨f1,f2,f3⟩:=cn.free i j x q1 e1;obtain⟨m,hn,hl⟩:=I.loc;have vis:Vis X.env.scope x:=by
   rcases f3 with z|z
   .exact .inr (.inl z)
   .exact .inr (.inr z)
  obtain⟨u,r,l⟩:=hl j x v f1 q2 vis;refine⟨u,r,.inr ⟨f2,?_⟩⟩;rcases l with⟨k,_⟩|⟨k,c,e,z⟩
  .rcases f3 with z|z
   .rw[k]at z;cases z
   .rw[k]at z;cases z
  .obtain⟨c',e'⟩:=cn.has x f2;have e'':=cn.sub x c' e';rw[e]at e'';cases e'';exact⟨c,e',z.keeps keep⟩
 .obtain⟨v,z⟩:=I.cell x c (cn.sub x c e);exact⟨v,z.keeps keep⟩
 .unfold xu;rw[aiJ];exact cn.len
theorem Yc {fp:List aiM}{lK:St}{H2:ag4}{s2:aiK}{aeQ:List (aiM×Obj)}{C:aiM}(I:Inv X pins σ H s)(hfp:∀b∈fp,zK X pins H b)(J:Inv (JF X N scope cl C s H fp) aeQ lK H2 s2):Inv X pins σ H2 s2:=I.call' (ch:=fp) J.os J.base J.hok J.bare fun b hb=>⟨(hfp b hb).2.2.2.1,(hfp b hb).2.1,(hfp b hb).2.2.2.2.1,(hfp b hb).2.2.2.2.2⟩
def tLC (js:List (Option Nat))(ahf:TI)(g:ahU)(tt:TT)(te:TE):TE:=fun σ H Q=>ahf σ H fun J H1=>∀D,H1 D=none->∃W:Nat->Nat->St->ag4->Prop,(∃m,W 0 m (xu js σ) (upd H1 D (.lst [])))∧∀i m lK H2,W i m lK H2->(J.stop i H2∧Q (.ref D) H2)∨(J.go i H2∧∀x ahq,J.yld i H2 x ahq->g x lK ahq fun oF aiv=>tt oF aiv fun b agU=>if b=true then te oF agU fun y ag1=>∃xs,ag1 D=some (.lst xs)∧xs.length<aiV∧∃m',m'<m∧W (i+1) m' oF (upd ag1 D (.lst (xs++[y])))else∃m',m'<m∧W (i+1) m' oF agU)
def aeR:TT:=fun _ H Q=>Q true H
def PTs (X:aif)(ifs:List akb)(t:TT):Prop:=∀(pins:List (aiM×Obj)) (s:aiK) (σ:St) (H:ag4) (Q:Bool->ag4->Prop),Inv X pins σ H s->t σ H Q->ai0 (ai7 X.prog X.w) X.A (forIn ifs true fun c r=>if r=true then do let ok←atA c X.env (alg c X.env);pure (anJ ok)else pure (anJ r)) (ain X pins σ Q) X.xe s
theorem iD:PTs X [] aeR:=fun _ _ _ H _ I h=>wpAny_tests_nil ⟨H,I,h⟩
theorem qG {c:akb}{t:TT}(hc:ah1 X c t):PTs X [c] t:=fun pins s σ H Q I h=>wpAny_tests_one (hc pins s σ H Q I h)
theorem Bk {elt tg iter:akb}{ifs:List akb}{pos:Pos}{g:ahU}{tt:TT}{te:TE}{J:It}{H1:ag4}{it:aiM}{fp:List aiM}{tn:Nat->aj4->Prop}{s2:aiK}{ag7:V->ag4->Prop}{RR:aiH->aiM->asH->aiK->Prop}{E:aiH->aiK->Prop}(hc:X.calm=true)(cn:m5 X N js scope cl)(hg:∀C s H fp,PG (JF X N scope cl C s H fp) tg g)(ht:∀C s H fp,PTs (JF X N scope cl C s H fp) ifs tt)(he:∀C s H fp,PE (JF X N scope cl C s H fp) elt te)(I:Inv X pins σ H1 s2)(T:Turn X.prog X.w X.K tg J fp it tn)(st0:tn 0 s2.heap)(hfp:∀b∈fp,zK X pins H1 b)(h:∀D,H1 D=none->∃W:Nat->Nat->St->ag4->Prop,(∃m,W 0 m (xu js σ) (upd H1 D (.lst [])))∧∀i m lK H2,W i m lK H2->(J.stop i H2∧ag7 (.ref D) H2)∨(J.go i H2∧∀x ahq,J.yld i H2 x ahq->g x lK ahq fun oF aiv=>tt oF aiv fun b agU=>if b=true then te oF agU fun y ag1=>∃xs,ag1 D=some (.lst xs)∧xs.length<aiV∧∃m',m'<m∧W (i+1) m' oF (upd ag1 D (.lst (xs++[y])))else∃m',m'<m∧W (i+1) m' oF agU))(hRR:∀(D C:aiM) (H2:ag4) (s5:aiK) (m:Str->Option aiH),Inv X pins σ H2 s5->s5.heap.Ns C m->H2 C=none->C≠X.env.locals->X.s₀.heap.objs.size<=C->(∀x c,X.env.cells.lookup x=some c->c≠C)->(∀p∈X.pn++pins,p.1≠C)->ag7 (.ref D) H2->RR (.ref D) C (.ok .next) s5):ai0 (ai7 X.prog X.w) X.A (newList []) (fun acc s₃=>ai0 (ai7 X.prog X.w) X.A (newFunctionEnv scope X.env.globals cl [] X.env.qual none .none (some X.env)) (fun cenv s₄=>anq (ai7 X.prog X.w) X.A (.compStart (.ListComp elt [⟨tg,iter,ifs,0⟩] scope pos) 0 (.ref it) acc {cenv with scope:=atw scope X.env}) (RR acc cenv.locals) s₄) E s₃) E s2:=by
 have agy:Inv X pins σ (upd H1 s2.heap.objs.size (.lst [])) {s2 with heap:=s2.heap.push {cls:=.type "list",data:=.seq ([]:List aiH).toArray},toks:=s2.toks}:=I.ada .nil (ajW _);refine ajX (wpAny_newFunctionEnv cn.adn (by intro y hy;simp at hy) (fun h4 ns4 sb4=>?_) cn.kind);obtain⟨W,⟨m0,w0⟩,turn⟩:=h s2.heap.objs.size I.fresh;have hD:H1 s2.heap.objs.size=none:=I.fresh;have lt2:∀b∈fp,b<s2.heap.objs.size:=fun b hb=>by obtain⟨o,e,_⟩:=T.obj 0 _ st0 b hb;exact aja e
 have ado:∀b∈fp,zK X pins (upd H1 s2.heap.objs.size (.lst [])) b:=fun b hb=>⟨by rw[aO (ajw (lt2 b hb))];exact(hfp b hb).1,(hfp b hb).2⟩;have afQ:∀b∈fp,∃o,(s2.heap.push {cls:=.type "list",data:=.seq ([]:List aiH).toArray}).get? b=some o:=fun b hb=>by obtain⟨o,e,_⟩:=T.obj 0 _ st0 b hb;exact⟨o,aiS _ e⟩
 have ag5:Inv (JF X N scope cl (s2.heap.push {cls:=.type "list",data:=.seq ([]:List aiH).toArray}).objs.size {s2 with heap:=s2.heap.push {cls:=.type "list",data:=.seq ([]:List aiH).toArray},toks:=s2.toks} (upd H1 s2.heap.objs.size (.lst [])) fp) [] (xu js σ) (upd H1 s2.heap.objs.size (.lst [])) {s2 with heap:=h4,toks:=s2.toks+([]:List (Str×aiH)).length}:=O9 (t':=s2.toks+([]:List (Str×aiH)).length) agy cn ado afQ ns4 sb4;have ltC:∀b∈fp,b<(s2.heap.push {cls:=.type "list",data:=.seq ([]:List aiH).toArray}).objs.size:=fun b hb=>by rw[amc];exact als (lt2 b hb)
 have st4:tn 0 h4:=T.keep 0 _ _ st0 fun b hb o e=>(sb4.2 b (ajw (ltC b hb))).trans (aiS _ (aiS _ e));have loop:anq (ai7 X.prog X.w) X.A (.compLoop (.ListComp elt [⟨tg,iter,ifs,0⟩] scope pos) 0 (.ref it) (.ref s2.heap.objs.size) (aqY scope cl (s2.heap.push {cls:=.type "list",data:=.seq ([]:List aiH).toArray}).objs.size X.env))
  (RR (.ref s2.heap.objs.size) (s2.heap.push {cls:=.type "list",data:=.seq ([]:List aiH).toArray}).objs.size) {s2 with heap:=h4,toks:=s2.toks+([]:List (Str×aiH)).length}:=by
  generalize hCe:(s2.heap.push {cls:=.type "list",data:=.seq ([]:List aiH).toArray}).objs.size=C at*;generalize hse:({s2 with heap:=s2.heap.push {cls:=.type "list",data:=.seq ([]:List aiH).toArray},toks:=s2.toks}:aiK)=s3 at*;have stat:∀{H':ag4},(∀b∈fp,H' b=none)->∀b∈fp,zK (JF X N scope cl C s3 (upd H1 s2.heap.objs.size (.lst [])) fp) [] H' b:=fun hn b hb=>⟨hn b hb,ajw (ltC b hb),ag5.ok.Od b hb,.inl hb,fun x c e=>(hfp b hb).2.2.2.2.1 x c (cn.sub x c e),fun p hp=>ai8 (show p∈([]:List (aiM×Obj))from hp) (by simp)⟩;refine HN (fun n s'=>∃i σ' H',Inv (JF X N scope cl C s3 (upd H1 s2.heap.objs.size (.lst [])) fp) [] σ' H' s'∧tn i s'.heap∧(∀b∈fp,H' b=none)∧W i n σ' H') ?_ m0 ⟨0,_,_,ag5,st4,fun b hb=>(ado b hb).1,w0⟩;rintro n s5 ⟨i,σ5,agU,ahg,st5,fr5,aix⟩;rcases turn i n σ5 agU aix with⟨stop,qn⟩|⟨go,step⟩
  .refine cC (T.done (JF X N scope cl C s3 (upd H1 s2.heap.objs.size (.lst [])) fp) rfl rfl rfl hc i [] s5 σ5 agU (fun _ _=>False) ahg (stat fr5) st5 stop) fun r aht ⟨hr,ahZ⟩=>?_;subst hr;obtain⟨aij,nsC,_⟩:=id ahZ.loc;have IX:Inv X pins σ agU aht:=Yc agy ado ahZ;refine hRR _ C agU aht aij IX nsC ahZ.free ?_ ?_ ?_ ?_ qn
   .have:=agy.lt;rw[←hCe];exact al4 (by rw[←hse]at this;exact this)
   .have:=agy.sz;rw[←hCe];rw[←hse]at this;exact this
   .intro x c e z;obtain⟨v,q⟩:=agy.cell x c e;have:=q.lt;rw[z,←hCe,←hse]at this;exact ai8 this (aky _)
   .intro p hp z;have:=aja (agy.pin p hp).1;rw[z,←hCe,←hse]at this;exact ai8 this (aky _)
  .refine cC (T.item (JF X N scope cl C s3 (upd H1 s2.heap.objs.size (.lst [])) fp) rfl rfl rfl hc i [] s5 σ5 agU (fun _ _=>False) ahg (stat fr5) st5 go) fun r aht ⟨u,hr,h6⟩=>?_;subst hr;refine cC h6 fun _ agD ⟨x,ahC,ais,r7,y7,st7,fr7⟩=>?_;have I7':=ais.pinned (stat fr7) (T.obj _ _ st7);refine cC (hg C s3 _ fp _ agD σ5 ahC x u _ I7' r7 (step x ahC y7)) fun _ ahS ⟨σ8,ahe,ahL,ahb⟩=>?_;refine cC (ht C s3 _ fp _ ahS σ8 ahe _ ahL ahb) fun ok s9 ⟨aim,ahj,ahr⟩=>?_;have atF:∀{s':aiK} {H':ag4},Inv (JF X N scope cl C s3 (upd H1 s2.heap.objs.size (.lst [])) fp) ([]++Aq fp agD.heap) σ8 H' s'->(∃m',m'<n∧W (i+1) m' σ8 H')->
    ∃m,m<n∧∃i σ' H',Inv (JF X N scope cl C s3 (upd H1 s2.heap.objs.size (.lst [])) fp) [] σ' H' s'∧tn i s'.heap∧(∀b∈fp,H' b=none)∧W i m σ' H':=fun{s' H'} I' ⟨m',hm,w'⟩=>
    ⟨m',hm,i+1,σ8,H',I'.vz,T.keep _ _ _ st7 fun b hb o e=>(I'.pin (b,o) (ako _ (ako _ (qy hb e)))).1,fun b hb=>by obtain⟨o,e,d⟩:=T.obj _ _ st7 b hb;exact(I'.pin (b,o) (ako _ (ako _ (qy hb e)))).2.1,w'⟩
   cases ok with
   |false=>rw[aiL aiW];rw[aiL aiW]at ahr;exact atF ahj ahr
   |true=>rw[aiP rfl];rw[aiP rfl]at ahr;refine cC (he C s3 _ fp _ s9 σ8 aim _ ahj ahr) fun y s10 ⟨yv,H10,I10,r10,xs,hxs,hz,q10⟩=>?_;refine cC (mZ _ s10 σ8 H10 (.ref s2.heap.objs.size) [yv] _ [y] (fun _ H'=>∃m',m'<n∧W (i+1) m' σ8 H') I10 rfl (.cons r10 .nil) ⟨_,xs,yv,rfl,rfl,hxs,hz,q10⟩) fun _ s11 ⟨_,H11,I11,_,q11⟩=>atF I11 q11
 exact codeAny_compStart_list loop (T.self _ 0 _ _ _ st4 loop)
theorem nA {elt tg iter:akb}{ifs:List akb}{pos:Pos}{ahf:TI}{g:ahU}{tt:TT}{te:TE}(hc:X.calm=true)(cn:m5 X N js scope cl)(hi:PI X tg iter ahf)(hg:∀C s H fp,PG (JF X N scope cl C s H fp) tg g)(ht:∀C s H fp,PTs (JF X N scope cl C s H fp) ifs tt)(he:∀C s H fp,PE (JF X N scope cl C s H fp) elt te)(hs:∀x,apy iter X.env x=pure x:=by intro _;rfl):PE X (.ListComp elt [⟨tg,iter,ifs,0⟩] scope pos) (tLC js ahf g tt te):=by intro pins s σ H Q I h;rw[eval_ListComp];refine apM (use:=none) rfl hs cn.clos cn.kind cn.names (cC (hi pins s σ H _ I h) fun v s1 h1=>cC h1 fun itv s2 h2=>?_);obtain⟨it,fp,tn,J,H2,rfl,agY,T,st2,f2,q⟩:=h2;refine Bk (RR:=fun acc C=>compPost (ai7 X.prog X.w) X.A X.xe none (EP X pins σ Q) acc C) hc cn hg ht he agY T st2 f2 q ?_;intro D C ahq s3 m agy ns hC hL h0 hcl hp q3;exact⟨m,ns,fun h' sb=>⟨.ref D,ahq,agy.turned (t':=s3.toks) (fun b o hb e=>(sb.2 b hb).trans e) hC hL (.inr h0) hcl hp,rfl,q3⟩⟩
theorem vI {elt tg iter:akb}{ifs:List akb}{pos spos py:Pos}{ahf:TI}{g:ahU}{tt:TT}{te:TE}{k:Nat}{y:Str}(hc:X.calm=true)(cn:m5 X N js scope cl)(hi:PI X tg iter ahf)(hN:X.N.Nodup)(hk:X.N[k]?=some y)(hl:X.env.scope.names.lookup y=some .local)(hg:∀C s H fp,PG (JF X N scope cl C s H fp) tg g)(ht:∀C s H fp,PTs (JF X N scope cl C s H fp) ifs tt)(he:∀C s H fp,PE (JF X N scope cl C s H fp) elt te)(hsw:arb (.ListComp elt [⟨tg,iter,ifs,0⟩] scope pos) (some (.Name y py)) spos.line X.env=pure true)(hs:∀x,apy iter X.env x=pure x:=by intro _;rfl):PS X (.Assign [.Name y py] (.ListComp elt [⟨tg,iter,ifs,0⟩] scope pos) spos) (acX (tLC js ahf g tt te) (Sh k)):=by
 intro pins s σ H D' I h;rw[exec_Assign_Name_used _ _ _ _ hsw];refine aiD (wpAny_standAt (aiD ?_));show ai0 _ _ (do let _←comprehension (.ListComp elt [⟨tg,iter,ifs,0⟩] scope pos) scope X.env _ (newList []) false (alg iter X.env) (some (arJ (.Name y py) X.env))) _ _ s;refine aiD (cC (apM (use:=some (arJ (.Name y py) X.env)) (Q:=fun _ s'=>SP X pins D' .next s') rfl hs cn.clos cn.kind cn.names (cC (hi pins s σ H _ I h) fun v s1 h1=>cC h1 fun itv s2 h2=>?_)) fun _ s9 ahr=>aiF (aiF ahr));obtain⟨it,fp,tn,J,H2,rfl,agY,T,st2,f2,q⟩:=h2;refine Bk (RR:=fun acc C=>compPost (ai7 X.prog X.w) X.A X.xe (some (arJ (.Name y py) X.env)) (fun _ s'=>SP X pins D' .next s') acc C) (ag7:=fun x H1=>Sh k x σ H1 D'.nx) hc cn hg ht he agY T st2 f2 q ?_;intro D C ahq s3 m agy ns hC hL h0 hcl hp q3;show ai0 _ _ (arJ (.Name y py) X.env (.ref D)) _ _ s3;refine ar6 (Gi agy hN hk (.inl hl) (v:=.ref D) rfl (fun s4 ag5 ⟨a,sb4,ha⟩=>?_) (.inr hl));have hCa:C≠a:=by
  rcases ha with z|z
  .rw[z];exact hL
  .exact fun q=>hcl y a z q.symm
 refine⟨m,ns.sameBut sb4 hCa,fun h' sb=>⟨_,ahq,ag5.turned (t':=s4.toks) (fun b o hb e=>(sb.2 b hb).trans e) hC hL (.inr h0) hcl hp,q3⟩⟩
end
section
variable{X:aif}{pins:List (aiM×Obj)}{σ:St}{H:ag4}{s:aiK}{h':aj4}
theorem Inv.HQ {t':Nat}{fp:List aiM}(I:Inv X pins σ H s)(k:∀b o,b∉fp->s.heap.get? b=some o->h'.get? b=some o)(hf:∀b∈fp,zK X pins H b):Inv X pins σ H {s with heap:=h',toks:=t'}:=by
 have nfp:∀b u,H b=some u->b∉fp:=fun b u e z=>by rw[(hf b z).1]at e;cases e
 refine I.step (g':=s.gens) (d':=s.drawn) (ch:=fp) (fun b hb=>⟨(hf b hb).2.2.2.1,(hf b hb).2.1,(hf b hb).2.2.2.2.1,(hf b hb).2.2.2.2.2⟩) (fun b o _ _ hc e _=>k b o hc e) (fun b o _ _ hc e _=>⟨o.slots,k b o hc e⟩) (fun _ _ _ _ n=>n) (fun b o hc e=>⟨o,k b o hc e⟩) (fun _ _ e=>e) (fun _ _ _ e=>e) (fun b ps e=>⟨#[],by rw[e];simp⟩) (fun m hm=>?_) (fun b u e=>?_) I.bare
 .obtain⟨o,es,ep,ho,r⟩:=hm;exact⟨o,es,ep,k _ o (fun z=>(hf _ z).2.1 rfl) ho,r⟩
 .refine(I.hok b u e).stay (fun c v hc q=>k c v ?_ q) (fun _ q=>q) fun _ _ q=>q;rcases hc with z|z
  .rw[z];exact nfp b u e
  .exact nfp c _ z
theorem Inv.adp {T:aiM}{xs:List V}{us:List aiH}{n:Nat}(I:Inv X pins σ H s){s0:aiK}{H0:ag4}{Vb:St}(I0:Inv X pins Vb H0 s0)(hT:s0.heap.objs.size<=T)(hn:H T=none)(hv:Vals xs us)(hz:xs.length<=aiV)(ht:s.heap.get? T=some {cls:=.type "tuple",data:=.seq us.toArray n}):Inv X pins σ (upd H T (.tup xs)) s:=by
 refine I.track hn ?_ ?_ ?_ ?_ ⟨hz,us,hv,⟨_,ht,rfl,n,rfl⟩⟩
 .exact aqN (ajt I0.sz hT)
 .exact al4 (ajv I0.lt hT)
 .intro x c e z;obtain⟨v,q⟩:=I0.cell x c e;exact ai8 (ajv q.lt (by rw[z];exact hT)) (aky _)
 .intro p hp z;exact ai8 (ajv (aja (I0.pin p hp).1) (by rw[z];exact hT)) (aky _)
end
mutual
def Rep (K:aiU)(H:ag4):akm->V->Prop
 |.none,v=>v=.non
 |.bool b,v=>v=.bl b
 |.int i,v=>v=.int i
 |.str x,v=>v=.str x
 |.list ds,v=>∃a xs,v=.ref a∧bk K H a xs∧gk K H ds xs
 |.tuple ds,v=>∃a xs,v=.ref a∧cD K H a xs∧gk K H ds xs
 |.dict _,_=>False
def gk (K:aiU)(H:ag4):List akm->List V->Prop
 |[],xs=>xs=[]
 |d::ds,xs=>∃y ys,xs=y::ys∧Rep K H d y∧gk K H ds ys
end
section
variable{K:aiU}{H H':ag4}
theorem gk.nil:gk K H [] []:=by unfold gk;rfl
theorem gk.cons {d:akm}{ds:List akm}{x:V}{xs:List V}(h:Rep K H d x)(t:gk K H ds xs):gk K H (d::ds) (x::xs):=by unfold gk;exact⟨x,xs,rfl,h,t⟩
theorem gk.dM {d:akm}{ds:List akm}{xs:List V}(h:gk K H (d::ds) xs):∃y ys,xs=y::ys∧Rep K H d y∧gk K H ds ys:=by unfold gk at h;exact h
theorem gk.mH {xs:List V}(h:gk K H [] xs):xs=[]:=by unfold gk at h;exact h
theorem Rep.int {i:Int}:Rep K H (.int i) (.int i):=by unfold Rep;rfl
theorem Rep.str {x:Str}:Rep K H (.str x) (.str x):=by unfold Rep;rfl
theorem Rep.bool {b:Bool}:Rep K H (.bool b) (.bl b):=by unfold Rep;rfl
theorem Rep.none:Rep K H .none .non:=by unfold Rep;rfl
theorem Rep.list {a:aiM}{xs:List V}{ds:List akm}(h:bk K H a xs)(r:gk K H ds xs):Rep K H (.list ds) (.ref a):=by unfold Rep;exact⟨a,xs,rfl,h,r⟩
theorem Rep.tuple {a:aiM}{xs:List V}{ds:List akm}(h:cD K H a xs)(r:gk K H ds xs):Rep K H (.tuple ds) (.ref a):=by unfold Rep;exact⟨a,xs,rfl,h,r⟩
theorem Rep.g8 {i:Int}{v:V}(h:Rep K H (.int i) v):v=.int i:=by unfold Rep at h;exact h
theorem Rep.nC {x:Str}{v:V}(h:Rep K H (.str x) v):v=.str x:=by unfold Rep at h;exact h
theorem Rep.iG {b:Bool}{v:V}(h:Rep K H (.bool b) v):v=.bl b:=by unfold Rep at h;exact h
theorem Rep.none_of {v:V}(h:Rep K H .none v):v=.non:=by unfold Rep at h;exact h
theorem Rep.eY {ds:List akm}{v:V}(h:Rep K H (.list ds) v):∃a xs,v=.ref a∧bk K H a xs∧gk K H ds xs:=by unfold Rep at h;exact h
theorem Rep.dF {ds:List akm}{v:V}(h:Rep K H (.tuple ds) v):∃a xs,v=.ref a∧cD K H a xs∧gk K H ds xs:=by unfold Rep at h;exact h
theorem gk.ints:∀(ns:List Int),gk K H (ns.map .int) (ns.map .int)
 |[]=>gk.nil
 |n::ns=>gk.cons Rep.int (gk.ints ns)
end
section
variable{X:aif}{pins:List (aiM×Obj)}{σ:St}{H:ag4}{s:aiK}
mutual
theorem Inv.reads (I:Inv X pins σ H s):∀{d:akm} {v:V} {u:aiH},Rep X.K H d v->RelV v u->∃as,Reads s.heap u d as
 |.none,_,_,h,r=>by rw[h.none_of]at r;cases r;exact⟨_,.none⟩
 |.bool b,_,_,h,r=>by rw[h.iG]at r;cases r;exact⟨_,.bool b⟩
 |.int i,_,_,h,r=>by rw[h.g8]at r;obtain⟨t,rfl⟩:=r;exact⟨_,.int i t⟩
 |.str x,_,_,h,r=>by rw[h.nC]at r;obtain⟨t,rfl⟩:=r;exact⟨_,.str x t⟩
 |.list ds,_,_,h,r=>by
  obtain⟨a,xs,rfl,q,t⟩:=h.eY
  cases r
  obtain⟨its,rv,⟨o,n,e,c,_,d⟩,_⟩:=I.list q
  obtain⟨as,ra⟩:=I.readsAll t rv
  exact⟨_,.list e c d (by simpa using ra)⟩
 |.tuple ds,_,_,h,r=>by
  obtain⟨a,xs,rfl,q,t⟩:=h.dF
  cases r
  obtain⟨its,rv,⟨o,e,c,n,d⟩,_⟩:=I.tuple q
  obtain⟨as,ra⟩:=I.readsAll t rv
  exact⟨_,.tuple e c d (by simpa using ra)⟩
 |.dict _,_,_,h,_=>by unfold Rep at h;exact h.elim
theorem Inv.readsAll (I:Inv X pins σ H s):∀{ds:List akm} {xs:List V} {us:List aiH},gk X.K H ds xs->Vals xs us->∃as,ReadsAll s.heap us ds as
 |[],_,_,h,r=>by rw[h.mH]at r;cases r;exact⟨_,.nil⟩
 |d::ds,_,_,h,r=>by
  obtain⟨y,ys,rfl,p,t⟩:=h.dM
  cases r with
  |cons r1 r2=>
   obtain⟨as,ra⟩:=I.reads p r1
   obtain⟨bs,rb⟩:=I.readsAll t r2
   exact⟨_,.cons ra rb⟩
end
def aeS (K:aiU)(neg:Bool):aho:=fun x y H Q=>∃d e,Rep K H d x∧Rep K H e y∧d.canLay0=true∧e.canLay0=true∧min d.depth e.depth<=60∧Q (.bl (if neg then !akn d e else akn d e)) H
theorem HR (hu:X.A.units+64<ak8):qt X (ake .Eq) (aeS X.K false):=by intro pins s σ H x y v u Q I rx ry h;obtain⟨d,e,hd,he,c1,c2,hm,q⟩:=h;obtain⟨as,ra⟩:=I.reads hd rx;obtain⟨bs,rb⟩:=I.reads he ry;exact SeqAt.compareEq_reads ra rb c1 c2 (by lia) ⟨.bl _,H,I,rfl,q⟩
theorem Pa (hu:X.A.units+64<ak8):qt X (ake .NotEq) (aeS X.K true):=by intro pins s σ H x y v u Q I rx ry h;obtain⟨d,e,hd,he,c1,c2,hm,q⟩:=h;obtain⟨as,ra⟩:=I.reads hd rx;obtain⟨bs,rb⟩:=I.reads he ry;exact SeqAt.compareNe_reads ra rb c1 c2 (by lia) ⟨.bl _,H,I,rfl,q⟩
noncomputable def aeT:V->Option aiH
 |.ty n=>some (.type n)
 |.ref C=>some (.ref C)
 |_=>atb
theorem cO:jb X (.builtin "isinstance") (fun xs H Q=>∃x c t cv b,xs=[x,c]∧aeT c=some cv∧xd X.K H x t∧aiI X.K t cv=some b∧Q (.bl b) H):=by
 intro pins s σ H xs us Q I r h;obtain⟨x,c,t,cv,b,rfl,hc,ty,hk,q⟩:=h;obtain⟨u,u',rfl,agK,ru'⟩:=vals2 r;have e:u'=cv:=by
  cases c with
  |ty n=>cases ru';cases hc;rfl
  |ref C=>cases ru';cases hc;rfl
  |_=>cases hc
 subst e;exact UW I agK ty hk fun tk=>⟨.bl b,H,I.tok tk,rfl,q⟩
theorem log2_small {n:Nat}(h:n<10^20):n.log2<1920:=by
 by_cases h0:n=0
 .subst h0;decide
 .rw[Nat.log2_lt h0];exact ajv h (ajt (by decide:10^20<=2^67) (aj5 (by decide) (by decide)))
def Vc (X:aif)(e:akb)(pre:St->ag4->Prop)(n:Nat):Prop:=∀(pins:List (aiM×Obj)) (s:aiK) (σ:St) (H:ag4),Inv X pins σ H s->pre σ H->ai0 (ai7 X.prog X.w) X.A (alg e X.env) (fun u s'=>∃x t,u=.str x t∧x.length<=n∧Inv X pins σ H s') X.xe s
theorem iH {x:Str}{j:Nat}{pos:Pos}:Vc X (.Constant (.str x) j pos) (fun _ _=>True) x.length:=fun _ _ _ _ I _=>arI ⟨x,_,rfl,aiN _,I.tok _⟩
theorem Yd (i:Nat){x:Str}{p pos:Pos}(hN:X.N[i]?=some x:=by rfl)(hv:Vis X.env.scope x:=by first|exact ajp rfl|exact akk (ajp rfl)|exact akk (akk rfl))(hd:(x==("__debug__":Str))=false:=by decide)(hcd:(x==("__classdict__":Str))=false:=by decide):Vc X (.FormattedValue (.Name x p) (-1) none pos) (fun σ _=>∃k:Int,σ[i]?=some (some (.int k))∧k.natAbs<10^20) 21:=by intro pins s σ H I h;obtain⟨k,e1,hk⟩:=h;refine apf (cC ((Hr hN hv hd hcd) pins s σ H (fun v H1=>v=.int k∧H1=H) I ⟨_,e1,rfl,rfl⟩) fun u s1 ⟨v,H1,I1,r1,e2,e3⟩=>?_);subst e2 e3;obtain⟨t,rfl⟩:=r1;have hl:=aoG (k:=20) (by decide) hk;refine aqF (log2_small hk) ⟨_,_,rfl,?_,I1.tok _⟩;rw[aoo];exact hl
theorem Vd (i:Nat){x:Str}{p pos:Pos}(hN:X.N[i]?=some x:=by rfl)(hv:Vis X.env.scope x:=by first|exact ajp rfl|exact akk (ajp rfl)|exact akk (akk rfl))(hd:(x==("__debug__":Str))=false:=by decide)(hcd:(x==("__classdict__":Str))=false:=by decide):Vc X (.FormattedValue (.Name x p) 114 none pos) (fun σ _=>∃y:Str,σ[i]?=some (some (.str y))∧y.length<=1000∧∀c∈y.cps.toList,c<16^8) 10002:=by
 intro pins s σ H I h;obtain⟨y,e1,hy,hc⟩:=h;refine aps (cC ((Hr hN hv hd hcd) pins s σ H (fun v H1=>v=.str y∧H1=H) I ⟨_,e1,rfl,rfl⟩) fun u s1 ⟨v,H1,I1,r1,e2,e3⟩=>?_);subst e2 e3;obtain⟨t,rfl⟩:=r1;have hl:=atU y hc;have hz:(reprText y).length<=10002:=by lia
 refine pyReprObj_str (aqG ⟨_,_,rfl,hz,I1.tok _⟩ ⟨_,_,rfl,hz,(I1.tok _).tok _⟩ (by rw[aje];lia)) (by rw[aje];lia)
theorem HS (ts:List Str):(tupleText ts).length<=piled ts+3:=by
 unfold tupleText;rw[aoz,aoz];have e1:((("(":String):Str)).length=1:=rfl;have e3:(((if ts.length==1 then",)" else")":String):Str)).length<=2:=by split<;>decide
 rw[e1];by_cases h:ts=[]
 .subst h;have e2:(Str.join ", " ([]:List Str)).length=0:=rfl;rw[e2];lia
 .have:=join_length_add ts h;lia
theorem Bl:∀(ns:List Int),(∀k∈ns,k.natAbs<10^20)->piled (aoR (ns.map .int))<=23*ns.length∧arT (ns.map .int)=true∧apC (ns.map .int)=false∧akP (ns.map .int)=0
 |[],_=>⟨aiN _,rfl,rfl,rfl⟩
 |k::ns,h=>by
  obtain⟨h1,h2,h3,h4⟩:=Bl ns fun j hj=>h j (ajS _ hj)
  have hk:=h k akL
  have hl:=aoG (k:=20) (by decide) hk
  have hz:(alN (toString k)).length<=21:=by rw[aoo];exact hl
  refine⟨?_,?_,?_,?_⟩
  ·show piled ((alN (toString k))::aoR (ns.map .int))<=_
   rw[piled_cons,ajl]
   lia
  ·show(atk (.int k)&&arT (ns.map .int))=true
   rw[h2,apO]
   unfold atk
   exact aiQ (log2_small hk)
  ·show(PyData.hasDict (.int k)||apC (ns.map .int))=false
   rw[h3]
   rfl
  ·show max (an7 (.int k)) (akP (ns.map .int))=0
   rw[h4]
   rfl
theorem Gs {kr:Nat}(hr:jl kr X.A)(i:Nat){x:Str}{p pos:Pos}(hN:X.N[i]?=some x:=by rfl)(hv:Vis X.env.scope x:=by first|exact ajp rfl|exact akk (ajp rfl)|exact akk (akk rfl))(hd:(x==("__debug__":Str))=false:=by decide)(hcd:(x==("__classdict__":Str))=false:=by decide):Vc X (.FormattedValue (.Name x p) 114 none pos) (fun σ H=>∃(a:aiM) (ns:List Int),σ[i]?=some (some (.ref a))∧cD X.K H a (ns.map .int)∧ns.length<=100∧∀k∈ns,k.natAbs<10^20) 2303:=by
 intro pins s σ H I h;obtain⟨a,ns,e1,hq,hl,hk⟩:=h;refine aps (cC ((Hr hN hv hd hcd) pins s σ H (fun v H1=>v=.ref a∧H1=H) I ⟨_,e1,rfl,rfl⟩) fun u s1 ⟨v,H1,I1,r1,e2,e3⟩=>?_);subst e2 e3;obtain⟨as,ra⟩:=I1.reads (Rep.tuple hq (gk.ints ns)) r1;cases r1;obtain⟨h1,h2,h3,h4⟩:=Bl ns hk;have hz:(PyData.shown (.tuple (ns.map .int))).length<=2303:=by have:=HS (aoR (ns.map .int));show(tupleText (aoR (ns.map .int))).length<=2303;lia
 have hu:=hr.un;refine pyReprObj_of_reads ra h2 (fun z=>by have z':apC (ns.map .int)=true:=z;rw[h3]at z';cases z') hr.gd (by show X.A.units+(akP (ns.map .int)+1)<ak8;rw[h4];lia) (fun _ _ e=>e) (fun h' u tk kk=>?_) (by rw[aje];lia);have agY:Inv X pins σ _ {s1 with heap:=h',toks:=tk}:=I1.kept kk;exact aqG ⟨_,_,rfl,hz,agY⟩ ⟨_,_,rfl,hz,agY.tok _⟩ (by rw[aje];lia)
theorem Ye {x:Str}{k:Int}{p pos:Pos}(h:PE X (.Name x p) (ah0 (.int k)))(hk:k.natAbs<10^20):Vc X (.FormattedValue (.Name x p) (-1) none pos) (fun _ _=>True) 21:=by intro pins s σ H I _;refine apf (cC (h pins s σ H (fun v H1=>v=.int k∧H1=H) I ⟨rfl,rfl⟩) fun u s1 ⟨v,H1,I1,r1,e2,e3⟩=>?_);subst e2 e3;obtain⟨t,rfl⟩:=r1;have hl:=aoG (k:=20) (by decide) hk;refine aqF (log2_small hk) ⟨_,_,rfl,?_,I1.tok _⟩;rw[aoo];exact hl
def Td (X:aif)(es:List akb)(pre:St->ag4->Prop)(n:Nat):Prop:=∀(pins:List (aiM×Obj)) (s:aiK) (σ:St) (H:ag4) (acc:Str) (Q:Str->aiK->Prop),Inv X pins σ H s->pre σ H->acc.length+n<=aiV->(∀out s1,out.length<=acc.length+n->Inv X pins σ H s1->Q out s1)->Joins (ai7 X.prog X.w) X.A X.xe (evalEach es X.env) acc Q s
theorem pM:Td X [] (fun _ _=>True) 0:=fun _ s _ _ acc _ I _ _ q=>q acc s (anr _ _) I
theorem cL {e:akb}{es:List akb}{p q:St->ag4->Prop}{n m:Nat}(h:Vc X e p n)(t:Td X es q m)(hs:evalEach (e::es) X.env=alg e X.env::evalEach es X.env:=by rfl):Td X (e::es) (fun σ H=>p σ H∧q σ H) (n+m):=by intro pins s σ H acc Q I hp hz hQ;rw[hs];refine cC (h pins s σ H I hp.1) fun u s1 ⟨x,t1,e1,hx,I1⟩=>⟨x,t1,e1,by rw[aoz];lia,?_⟩;exact t pins s1 σ H (acc++x) Q I1 hp.2 (by rw[aoz];lia) fun out s2 ho agY=>hQ out s2 (by rw[aoz]at ho;lia) agY
theorem vJ {v1 v2:akb}{rest:List akb}{pre:St->ag4->Prop}{n:Nat}{pos:Pos}(h:Td X (v1::v2::rest) pre n):PE X (.JoinedStr (v1::v2::rest) pos) (fun σ H Q=>pre σ H∧n<=aiV∧∀x:Str,x.length<=n->Q (.str x) H):=by intro pins s σ H Q I hw;obtain⟨hp,hz,hq⟩:=hw;have e0:(asI:Str).length=0:=rfl;refine wpAny_JoinedStr (h pins s σ H asI _ I hp (by rw[e0];lia) fun out s1 ho I1=>?_);rw[e0]at ho;exact⟨by lia,.str out,H,I1.tok _,⟨_,rfl⟩,hq out (by lia)⟩
end
section
variable{X:aif}
def Gu (d:Int)(ns:List Int)(M:Int):Prop:=(ns=[]∧M=d)∨(M∈ns∧∀a∈ns,a<=M)
theorem Gu.uniq {d:Int}{ns:List Int}{M M':Int}(h:Gu d ns M)(h':Gu d ns M'):M=M':=by
 rcases h with⟨e,h⟩|⟨h1,h2⟩
 .rcases h' with⟨_,h'⟩|⟨h1',_⟩
  .rw[h,h']
  .rw[e]at h1';cases h1'
 .rcases h' with⟨e,_⟩|⟨h1',h2'⟩
  .rw[e]at h1;cases h1
  .exact Int.le_antisymm (h2' _ h1) (h2 _ h1')
theorem uD {its:List aiH}{ns:List Int}(hi:alM its ns):∃xs:Array (Int×Tok),its.toArray=intItems xs∧ns=xs.toList.map (·.1):=by obtain⟨xs,e⟩:=hi.allInts.items;refine⟨xs,e,?_⟩;rw[←hi.numsOf,←nums_intItems,←e]
theorem Bm (hc:X.calm=true):jb X (.builtin "sum") (fun xs H Q=>∃(p:aiM) (ns:List Int),xs=[.ref p]∧bk X.K H p (ns.map .int)∧Q (.int ns.sum) H):=by intro pins s σ H xs us Q I r h;obtain⟨p,ns,rfl,hq,q⟩:=h;obtain⟨u,rfl,agK⟩:=vals1 r;cases agK;obtain⟨its,rv,pl,hz⟩:=I.list hq;obtain⟨ys,e,hns⟩:=uD (intsAre_of rv);refine sum_intListG (I.ok.hd hc) (by rw[←e];exact pl.isList) fun h1 tk t1 kk=>⟨.int ns.sum,H,I.kept kk,⟨t1,?_⟩,q⟩;rw[preSum_eq,ajY (by simp),hns]
theorem Yg {ys:Array (Int×Tok)}{ns:List Int}(hns:ns=ys.toList.map (·.1))(hs:0<ys.size):arw ys (argBest (fun i j=>decide (arw ys i>arw ys j)) (ys.size-1))∈ns∧∀a∈ns,a<=arw ys (argBest (fun i j=>decide (arw ys i>arw ys j)) (ys.size-1)):=by
 obtain⟨h1,h2⟩:=argBest_gt (arw ys) (ys.size-1);constructor
 .rw[hns,atV];exact getD_mem (by rw[aiJ,ajR];omega)
 .intro a ha;rw[hns]at ha;obtain⟨j,hj,rfl⟩:=mem_getD ha;rw[aiJ,ajR]at hj;rw[←atV];exact h2 j (by omega)
theorem Gv (hc:X.calm=true):jb X (.builtin "max") (fun xs H Q=>∃(p:aiM) (ns:List Int),xs=[.ref p]∧bk X.K H p (ns.map .int)∧ns≠[]∧∀M,Gu 0 ns M->Q (.int M) H):=by
 intro pins s σ H xs us Q I r h;obtain⟨p,ns,rfl,hq,hne,q⟩:=h;obtain⟨u,rfl,agK⟩:=vals1 r;cases agK;obtain⟨its,rv,pl,hz⟩:=I.list hq;obtain⟨ys,e,hns⟩:=uD (intsAre_of rv);have hs:0<ys.size:=by have:0<ns.length:=amA.mpr hne;rw[hns,aiJ,ajR]at this;exact this
 refine max_intList (I.ok.hd hc) (by rw[←e];exact pl.isList) hs fun v h1 tk hv kk=>?_;obtain⟨t,rfl⟩:=intItems_at hv;exact⟨.int _,H,I.kept kk,⟨t,rfl⟩,q _ (.inr (Yg hns hs))⟩
theorem Kc:jb X (.builtin "sorted") (fun xs H Q=>∃(p:aiM) (ns:List Int),xs=[.ref p]∧bk X.K H p (ns.map .int)∧ns.length<64∧∀(l:aiM) (ms:List Int),H l=none->ms.Perm ns->ms.Pairwise (·<=·)->Q (.ref l) (upd H l (.lst (ms.map .int)))):=by intro pins s σ H xs us Q I r h;obtain⟨p,ns,rfl,hq,h64,q⟩:=h;obtain⟨u,rfl,agK⟩:=vals1 r;cases agK;obtain⟨its,rv,pl,hz⟩:=I.list hq;have hl:=rv.length;rw[aiJ]at hl;refine sorted_ints pl.isList (intsAre_of rv) (by lia) fun out ms hi hp hs=>?_;obtain⟨e,he⟩:=sortedAll_at s.heap its out;have fr:H (s.heap.objs.size+1)=none:=I.hok.fresh (aqQ _);refine⟨.ref (s.heap.objs.size+1),upd H (s.heap.objs.size+1) (.lst (ms.map .int)),I.laid (t':=s.toks) (fun b o q=>sortedAll_old q) (aqQ _) ⟨?_,out.toList,e,xq hi,by simpa using he⟩,rfl,q _ ms fr hp hs⟩;have:=hp.length_eq;rw[aiJ,aje];lia
theorem Gw {y:V}:∀{xs:List V} {us:List aiH} {j:Nat},Vals xs us->xs.all mG=true->xs.findIdx? (fun z=>xg z y)=some j->
  ∃hj:j<us.length,Gp y us[j]=true∧∀m (hm:m<us.length),m<j->Gp y us[m]=false
 |_,_,_,.nil,_,e=>by simp at e
 |x::xs,u::us,j,.cons r t,f,e=>by
  rw[apL,aiR]at f
  rw[arU]at e
  by_cases hx:xg x y=true
  ·rw[aiP hx]at e
   cases e
   exact⟨by simp,by simpa[Bc r f.1]using hx,fun m hm hlt=>ai8 hlt (alw _)⟩
  ·rw[aiL hx]at e
   cases q:xs.findIdx? (fun z=>xg z y)with
   |none=>rw[q]at e;cases e
   |some i=>
    rw[q]at e
    have e':i+1=j:=ajn e
    subst e'
    obtain⟨h1,h2,h3⟩:=Gw t f.2 q
    refine⟨by simpa using h1,by simpa using h2,fun m hm hlt=>?_⟩
    cases m with
    |zero=>simpa[Bc r f.1]using hx
    |succ m=>simpa using h3 m (by simpa using hm) (by lia)
theorem Bo {y:V}:∀{xs:List V} {us:List aiH},Vals xs us->xs.all mG=true->us.countP (Gp y)=xs.countP fun z=>xg z y
 |_,_,.nil,_=>rfl
 |x::xs,u::us,.cons r t,f=>by
  rw[apL,aiR]at f
  rw[asM,asM,Bc r f.1,Bo t f.2]
def Yh (K:aiU):V->List V->ag4->ahY->Prop:=fun x vs H Q=>∃l xs y j,x=.ref l∧vs=[y]∧bk K H l xs∧xs.all mG=true∧mG y=true∧xs.findIdx? (fun z=>xg z y)=some j∧Q (.int (j:Nat)) H
theorem vK:MtR X "list.index" (Yh X.K):=by intro pins s σ H x vs v us Q I rx rv h;obtain⟨l,xs,y,j,rfl,rfl,hq,fx,fy,hj,q⟩:=h;cases rx;obtain⟨u,rfl,agK⟩:=vals1 rv;obtain⟨its,r,⟨o,n,e,c,dn,d⟩,hz⟩:=I.list hq;obtain⟨h1,h2,h3⟩:=Gw r fx hj;obtain⟨oc,od,odt,osl⟩:=o;have c':oc=.type "list":=c;have d':odt=.seq its.toArray n:=d;subst c' d';have hl:=r.length;refine apc alk ⟨_,e,rfl⟩ PySem.F.entry_list_index (PySem.F.args_list_index_2 _ _) (SeqAt.list_indexAt l its.toArray n od osl u (Gp y) j (by simpa using h1) (by rw[aje]at hz;lia) (by simpa using h2) (fun m hm hlt=>by simpa using h3 m (by simpa using hm) hlt)) ⟨e,fun w hw=>nj agK fy r fx w (by simpa using hw),⟨.int (j:Nat),H,I.tok _,⟨_,rfl⟩,q⟩⟩
def adq (K:aiU):V->List V->ag4->ahY->Prop:=fun x vs H Q=>∃l xs y,x=.ref l∧vs=[y]∧bk K H l xs∧xs.all mG=true∧mG y=true∧Q (.int (xs.countP fun z=>xg z y:Nat)) H
theorem Yi:MtR X "list.count" (adq X.K):=by intro pins s σ H x vs v us Q I rx rv h;obtain⟨l,xs,y,rfl,rfl,hq,fx,fy,q⟩:=h;cases rx;obtain⟨u,rfl,agK⟩:=vals1 rv;obtain⟨its,r,⟨o,n,e,c,dn,d⟩,hz⟩:=I.list hq;obtain⟨oc,od,odt,osl⟩:=o;have c':oc=.type "list":=c;have d':odt=.seq its.toArray n:=d;subst c' d';refine apc ap4 ⟨_,e,rfl⟩ PySem.F.entry_list_count (PySem.F.args_list_count_2 _ _) (SeqAt.list_countAt l its.toArray n od osl u (Gp y)) ⟨e,fun w hw=>nj agK fy r fx w (by simpa using hw),⟨.int _,H,I.tok _,⟨s.toks,?_⟩,q⟩⟩;rw[show its.toArray.toList=its from rfl,Bo r fx]
def aeU (K:aiU):aho:=fun x y H Q=>∃p xs k v,x=.ref p∧y=.int (k:Nat)∧bk K H p xs∧xs[k]?=some v∧Q v H
theorem Kd:aet X (aeU X.K):=by intro pins s σ H o i ov iv Q I ro ri h;obtain⟨p,xs,k,v,rfl,rfl,hq,he,q⟩:=h;cases ro;obtain⟨t,rfl⟩:=ri;obtain⟨its,r,pl,hz⟩:=I.list hq;obtain⟨u,hu,agK⟩:=r.get he;have hk:=(ajj.mp he).1;rw[aje]at hz;exact wpAny_getItem_list pl.isList (by lia) (by lia) (by simpa using hu) ⟨v,H,I,agK,q⟩
theorem adt {e st:akb}{te tst:TE}{p2 pos:Pos}(he:PE X e te)(hst:PE X st tst):PE X (.Subscript e (.Slice none none (some st) p2) pos) (fun σ H Q=>te σ H fun x H1=>tst σ H1 fun y H2=>y=.int (-1)∧∃a xs,x=.ref a∧bk X.K H2 a xs∧∀p,H2 p=none->Q (.ref p) (upd H2 p (.lst xs.reverse))):=by intro pins s σ H Q I h;refine atM (cC (he pins s σ H _ I h) fun v s1 ⟨x,H1,I1,r1,q1⟩=>?_);refine wpAny_Slice ?_;rw[aru];refine aiF (aiF ?_);rw[evalPart_some];refine cC (hst pins s1 σ H1 _ I1 q1) fun u s2 ⟨y,H2,agY,r2,e2,a,xs,e1,hq,q⟩=>?_;subst e1 e2;cases r1;obtain⟨t,rfl⟩:=r2;have ag5:Inv X pins σ H2 {s2 with heap:=s2.heap.push {cls:=.type "slice",data:=.fields #[.none,.none,.int (-1) t]}}:=agY.kept (t':=s2.toks) fun b ob q=>aiS _ q;obtain⟨its,r,pl,hz⟩:=ag5.list hq;have hl:=r.length;show ai0 (ai7 X.prog X.w) X.A (arv e (.Slice none none (some st) p2) (.ref a) (.ref s2.heap.objs.size)) (EP X pins σ Q) X.xe {s2 with heap:=s2.heap.push {cls:=.type "slice",data:=.fields #[.none,.none,.int (-1) t]}};refine tail_any (ops:=[.ref a,.ref s2.heap.objs.size]) pl.isList.typeIs apA.lookup (apK pl.isList (arO ..) .none .none (.int (-1) t) (by decide) ?_ (by rw[ajk]<;>lia)) (by with_unfolding_all rfl);rw[PySem.W.krv_pick];refine⟨.ref _,_,ag5.laid (t':=s2.toks) (o:=.lst xs.reverse) (fun b ob q=>aiS _ q) (aiN _) ?_,rfl,q _ (ag5.hok.fresh (aiN _))⟩;exact⟨by rw[aro];exact hz,its.reverse,0,r.reverse,ajg _ rfl⟩
end
open PySem.Builtin.Getset_descriptor PySem.W
section
variable{prog:ajr}{w:ajI}{A:ajO}{R:asH->aiK->Prop}{E:aiH->aiK->Prop}{s:aiK}{K:aiU}{x C:aiM}{oe:Obj}
theorem exc_type {M:apU}{h:aj4}(hx:h.get? x=some oe)(hc:oe.cls=.ref C):Looks M h (typeOf (.ref x)) (.ref C):=hc▸(Looks.ld hx).andThen .now
theorem abg {tp:aiH}(X:K.In s.heap)(hx:s.heap.get? x=some oe)(hc:oe.cls=.ref C)(hm:ajM K C (.type "object")=some true)(h:R (.ok (.ret (.ref C))) s):anq (ai7 prog w) A (.call (.builtin "getset_descriptor.__get__") ⟨[.builtin "object.__class__",.ref x,tp],[]⟩) R s:=by
 obtain⟨hh,g,dr,t,os⟩:=s;have L0:=exc_type (M:=ai7 prog w) hx hc;have L1:=looks_mroIn (M:=ai7 prog w) X hm;refine aoH KF.slot_gs.plain KF.entry_gs ?_;refine KF.slot_gs.check _ _ _ _ _ _ _ _ KF.type_class (KF.args_gs _ _ _) ?_;unfold Builtin.«getset_descriptor.__get__» descrGet;rw[dga_obj];refine aiD (aiF ?_);unfold descrGetter descrCheckInstance descrNameAndClass aqe;simp only[KF.owner_class];repeat lk
 refine⟨arV _ (by decide+kernel),alx KF.entry_class ?_⟩;unfold Builtin.«object.__class__» shownTypeOf;repeat lk
 exact h
structure jq (K:aiU)(C:aiM):Prop where
 ga:aju K (.ref C) "__getattribute__"=some (some (.builtin "BaseException.__getattribute__"))
 gt:aju K (.ref C) "__getattr__"=some none
 cl:aju K (.ref C) "__class__"=some (some (.builtin "object.__class__"))
 mo:ajM K C (.type "object")=some true
 mb:ajM K C (.type "BaseException")=some true
 is:∃cd,am8 K C=some cd
theorem Ve {tk:Tok}{Q:Fin->aiK->Prop}(X:K.In s.heap)(L:jq K C)(hx:s.heap.get? x=some oe)(hc:oe.cls=.ref C)(hq:Q (.done (.ret (.ref C))) s):ai0 (ai7 prog w) A (Builtin.«object.__getattribute__» ⟨[.ref x,.str "__class__" tk],[]⟩) Q E s:=by
 obtain⟨hh,g,d,t,os⟩:=s;have hT5:(⟨hh,g,d,t,os⟩:aiK).TypeIs (.builtin "object.__class__") "getset_descriptor":=aqH;have f5:=aqH;have f6:=F.slot_gs_get.lookup;have f7:=F.slot_gs_set.lookup;have L0:=exc_type (M:=ai7 prog w) hx hc;have L1:=ao8 (M:=ai7 prog w) X L.cl;repeat (any_goals (first|assumption|with_reducible refine L0.at ?_|with_reducible refine L1.at ?_|(with_reducible refine an6 hx ?_;rw[hc])|wp_step))
 refine abg X hx hc L.mo ?_;repeat (any_goals (first|assumption|wp_step))
theorem Vf {M:apU}{nameV:aiH}{Q:Unit->aiK->Prop}(X:K.In s.heap)(L:jq K C)(hx:s.heap.get? x=some oe)(hc:oe.cls=.ref C)(hq:Q () s):ai0 M A (ap5 "BaseException.__getattribute__" ⟨[.ref x,nameV],[]⟩) Q E s:=by
 obtain⟨hh,g,d,t,os⟩:=s;have hk:builtinKind "BaseException.__getattribute__"=some .slot:=by decide+kernel
 have hs:splitId "BaseException.__getattribute__"=some ("BaseException","__getattribute__"):=by decide+kernel
 have ha:=F.args_bexc_ga (.ref x) nameV;have L0:=exc_type (M:=M) hx hc;have L2:=looks_mroIn (M:=M) X L.mb;unfold ap5;simp only[hk,hs];refine aiD ?_;unfold aqe;refine aiD (L0.at (L2.at ?_));repeat (any_goals (first|assumption|wp_step))
theorem Yj {Q:Option aiH->aiK->Prop}(X:K.In s.heap)(L:jq K C)(hx:s.heap.get? x=some oe)(hc:oe.cls=.ref C)(hq:Q (some (.ref C)) {s with toks:=s.toks+1}):ai0 (ai7 prog w) A (getAttr? (.ref x) "__class__") Q E s:=by
 obtain⟨hh,g,d,t,os⟩:=s;have FB:=F.excAttr_ValueError;have f3:=FB.ga.bind (.ref x);have hx2:(ak9 "BaseException.__getattribute__"==ak9 "object.__getattribute__")=false:=by decide+kernel
 have hx1:(onTheHeap (ai2 C)&&ak9 "BaseException.__getattribute__"==ak9 "object.__getattribute__")=false:=by rw[hx2];rfl
 have L0:=exc_type (M:=ai7 prog w) hx hc;have L1:=ao8 (M:=ai7 prog w) X L.ga;have L2:=ao8 (M:=ai7 prog w) X L.gt;unfold getAttr? getAttrBy? getAttrBy;repeat (any_goals (first|assumption|with_reducible refine L0.at ?_|with_reducible refine L1.at ?_|with_reducible refine L2.at ?_|wp_step))
 refine aoH FB.ga.plain F.entry_bexc_ga (Vf X L hx hc (Ve X L hx hc ?_));repeat (any_goals (first|assumption|wp_step))
theorem Yk (L:jq K C):KitX K (.ref x) (.ref C) (fun h=>∃oe:Obj,h.get? x=some oe∧oe.cls=.ref C) where
 ty:=fun _ _ _ ⟨_,h1,h2⟩=>exc_type h1 h2;it:=fun _ _ X _=>by
  obtain⟨cd,e⟩:=L.is;unfold am8 at e;split at e
  .rename_i c' d' cd' sl' ho;intro A' Q' E' s' k q;unfold isType loadHead;exact aiD (wpAny_loadPart (k _ _ (X _ _ ho)) (aiF q))
  .cases e
 ne:=fun h tp dd its n sl X htp=>by
  obtain⟨cd,hcl⟩:=L.is;refine akG.mpr fun q=>?_;have e:C=tp:=Value.ref.inj (beq_iff_eq.mp q);subst e;unfold am8 at hcl;split at hcl
  .rename_i ho;have z:=(X _ _ ho).symm.trans htp;cases z
  .cases hcl
 ca:=fun X ⟨_,h1,h2⟩ k=>Yj X L h1 h2 k
end
section
variable{X:aif}
theorem gJ:jb X (.builtin "isinstance") (fun xs H Q=>∃a C c cv b,xs=[.ref a,c]∧aeT c=some cv∧H a=some (J9 a C)∧jq X.K C∧aiI X.K (.ref C) cv=some b∧Q (.bl b) H):=by
 intro pins s σ H xs us Q I r h;obtain⟨a,C,c,cv,b,rfl,hc,hH,L,hk,q⟩:=h;obtain⟨u,u',rfl,agK,ru'⟩:=vals2 r;have e:u'=cv:=by
  cases c with
  |ty n=>cases ru';cases hc;rfl
  |ref C=>cases ru';cases hc;rfl
  |_=>cases hc
 subst e;cases agK;obtain⟨⟨oe,vs,h1,h2,_⟩,_⟩:=(show b8 X.prog X.w H s.heap a (J9 a C)from I.hok a _ hH);exact akV (Yk L) I.wX ⟨oe,h1,h2⟩ hk (fun z=>nomatch z) fun tk=>⟨.bl b,H,I.tok tk,rfl,q⟩
end
end L2
namespace L2
open PySem PySem.Spec PyProof.Rows
mutual
def Dat (H:ag4):akm->V->Prop
 |.none,v=>v=.non
 |.bool b,v=>v=.bl b
 |.int i,v=>v=.int i
 |.str x,v=>v=.str x
 |.list ds,v=>∃a xs,v=.ref a∧H a=some (.lst xs)∧bC H ds xs
 |.tuple ds,v=>∃a xs,v=.ref a∧H a=some (.tup xs)∧bC H ds xs
 |.dict _,_=>False
def bC (H:ag4):List akm->List V->Prop
 |[],xs=>xs=[]
 |d::ds,xs=>∃y ys,xs=y::ys∧Dat H d y∧bC H ds ys
end
section
variable{H H':ag4}
theorem bC.nil:bC H [] []:=by unfold bC;rfl
theorem bC.cons {d:akm}{ds:List akm}{x:V}{xs:List V}(h:Dat H d x)(t:bC H ds xs):bC H (d::ds) (x::xs):=by unfold bC;exact⟨x,xs,rfl,h,t⟩
theorem bC.dM {d:akm}{ds:List akm}{xs:List V}(h:bC H (d::ds) xs):∃y ys,xs=y::ys∧Dat H d y∧bC H ds ys:=by unfold bC at h;exact h
theorem bC.mH {xs:List V}(h:bC H [] xs):xs=[]:=by unfold bC at h;exact h
theorem Dat.int {i:Int}:Dat H (.int i) (.int i):=by unfold Dat;rfl
theorem Dat.str {x:Str}:Dat H (.str x) (.str x):=by unfold Dat;rfl
theorem Dat.bool {b:Bool}:Dat H (.bool b) (.bl b):=by unfold Dat;rfl
theorem Dat.none:Dat H .none .non:=by unfold Dat;rfl
theorem Dat.list {a:aiM}{xs:List V}{ds:List akm}(h:H a=some (.lst xs))(r:bC H ds xs):Dat H (.list ds) (.ref a):=by unfold Dat;exact⟨a,xs,rfl,h,r⟩
theorem Dat.tuple {a:aiM}{xs:List V}{ds:List akm}(h:H a=some (.tup xs))(r:bC H ds xs):Dat H (.tuple ds) (.ref a):=by unfold Dat;exact⟨a,xs,rfl,h,r⟩
theorem Dat.g8 {i:Int}{v:V}(h:Dat H (.int i) v):v=.int i:=by unfold Dat at h;exact h
theorem Dat.nC {x:Str}{v:V}(h:Dat H (.str x) v):v=.str x:=by unfold Dat at h;exact h
theorem Dat.iG {b:Bool}{v:V}(h:Dat H (.bool b) v):v=.bl b:=by unfold Dat at h;exact h
theorem Dat.none_of {v:V}(h:Dat H .none v):v=.non:=by unfold Dat at h;exact h
theorem Dat.eY {ds:List akm}{v:V}(h:Dat H (.list ds) v):∃a xs,v=.ref a∧H a=some (.lst xs)∧bC H ds xs:=by unfold Dat at h;exact h
theorem Dat.dF {ds:List akm}{v:V}(h:Dat H (.tuple ds) v):∃a xs,v=.ref a∧H a=some (.tup xs)∧bC H ds xs:=by unfold Dat at h;exact h
mutual
theorem Dat.mono (e:aC H H'):∀{d:akm} {v:V},Dat H d v->Dat H' d v
 |.none,_,h=>by rw[h.none_of];exact Dat.none
 |.bool b,_,h=>by rw[h.iG];exact Dat.bool
 |.int i,_,h=>by rw[h.g8];exact Dat.int
 |.str x,_,h=>by rw[h.nC];exact Dat.str
 |.list ds,_,h=>by
  obtain⟨a,xs,rfl,q,r⟩:=h.eY
  exact Dat.list (e _ _ q) (bC.mono e r)
 |.tuple ds,_,h=>by
  obtain⟨a,xs,rfl,q,r⟩:=h.dF
  exact Dat.tuple (e _ _ q) (bC.mono e r)
 |.dict _,_,h=>by unfold Dat at h;exact h.elim
theorem bC.mono (e:aC H H'):∀{ds:List akm} {xs:List V},bC H ds xs->bC H' ds xs
 |[],_,h=>by rw[h.mH];exact bC.nil
 |d::ds,_,h=>by
  obtain⟨y,ys,rfl,r,t⟩:=h.dM
  exact bC.cons (Dat.mono e r) (bC.mono e t)
end
theorem bC.length:∀{ds:List akm} {xs:List V},bC H ds xs->ds.length=xs.length
 |[],_,h=>by rw[h.mH];rfl
 |d::ds,_,h=>by
  obtain⟨y,ys,rfl,r,t⟩:=h.dM
  simp[bC.length t]
theorem bC.get:∀{ds:List akm} {xs:List V} {i:Nat} {d:akm},bC H ds xs->ds[i]?=some d->∃x,xs[i]?=some x∧Dat H d x
 |[],_,_,_,h,e=>by simp at e
 |d::ds,_,0,_,h,e=>by
  obtain⟨y,ys,rfl,r,t⟩:=h.dM
  simp at e
  subst e
  exact⟨y,rfl,r⟩
 |d::ds,_,i+1,_,h,e=>by
  obtain⟨y,ys,rfl,r,t⟩:=h.dM
  obtain⟨x,q1,q2⟩:=bC.get (i:=i) t (by simpa using e)
  exact⟨x,by simpa using q1,q2⟩
theorem bC.append:∀{ds es:List akm} {xs ys:List V},bC H ds xs->bC H es ys->bC H (ds++es) (xs++ys)
 |[],_,_,_,h,t=>by rw[h.mH];exact t
 |d::ds,_,_,_,h,t=>by
  obtain⟨y,ys,rfl,r,t'⟩:=h.dM
  exact bC.cons r (bC.append t' t)
theorem bC.ints:∀(ns:List Int),bC H (ns.map .int) (ns.map .int)
 |[]=>bC.nil
 |n::ns=>bC.cons Dat.int (bC.ints ns)
theorem bC.ints_of:∀{ns:List Int} {xs:List V},bC H (ns.map .int) xs->xs=ns.map .int
 |[],_,h=>h.mH
 |n::ns,_,h=>by
  obtain⟨y,ys,rfl,r,t⟩:=bC.dM h
  rw[r.g8,bC.ints_of t]
  rfl
mutual
theorem Dat.rep {K:aiU}:∀{d:akm} {v:V},Dat H d v->Rep K H d v
 |.none,_,h=>by rw[h.none_of];exact Rep.none
 |.bool b,_,h=>by rw[h.iG];exact Rep.bool
 |.int i,_,h=>by rw[h.g8];exact Rep.int
 |.str x,_,h=>by rw[h.nC];exact Rep.str
 |.list ds,_,h=>by
  obtain⟨a,xs,rfl,q,r⟩:=h.eY
  exact Rep.list (bk.of q) (bC.rep r)
 |.tuple ds,_,h=>by
  obtain⟨a,xs,rfl,q,r⟩:=h.dF
  exact Rep.tuple (cD.of q) (bC.rep r)
 |.dict _,_,h=>by unfold Dat at h;exact h.elim
theorem bC.rep {K:aiU}:∀{ds:List akm} {xs:List V},bC H ds xs->gk K H ds xs
 |[],_,h=>by rw[h.mH];exact gk.nil
 |d::ds,_,h=>by
  obtain⟨y,ys,rfl,r,t⟩:=h.dM
  exact gk.cons (Dat.rep r) (bC.rep t)
end
theorem bC.snoc {ds:List akm}{xs:List V}{d:akm}{x:V}(h:bC H ds xs)(r:Dat H d x):bC H (ds++[d]) (xs++[x]):=h.append (.cons r .nil)
theorem Dat.ints {a:aiM}{ns:List Int}(h:H a=some (.lst (ns.map .int))):Dat H (.list (ns.map .int)) (.ref a):=.list h (.ints ns)
theorem Dat.Ke {a:aiM}{ns:List Int}(h:H a=some (.tup (ns.map .int))):Dat H (.tuple (ns.map .int)) (.ref a):=.tuple h (.ints ns)
theorem Dat.Bp {v:V}{ns:List Int}(h:Dat H (.tuple (ns.map .int)) v):∃a,v=.ref a∧H a=some (.tup (ns.map .int)):=by obtain⟨a,xs,rfl,q,r⟩:=h.dF;rw[r.ints_of]at q;exact⟨a,rfl,q⟩
end
noncomputable def mask (D:aiM)(H:ag4):ag4:=fun b=>if b=D then none else H b
section
variable{H H' H'':ag4}{D p:aiM}{o:HO}
theorem mO (h:p≠D):mask D H p=H p:=by unfold mask;rw[aiL h]
theorem pN {u:HO}(h:mask D H p=some u):p≠D∧H p=some u:=by
 unfold mask at h;by_cases e:p=D
 .rw[aiP e]at h;cases h
 .rw[aiL e]at h;exact⟨e,h⟩
theorem jc:aC (mask D H) H:=fun _ _ h=>(pN h).2
theorem Bq:mask D (upd H D o)=mask D H:=by
 funext b;unfold mask;by_cases e:b=D
 .rw[aiP e,aiP e]
 .rw[aiL e,aiL e,aO e]
theorem tD (e:aC H H'):aC (mask D H) (mask D H'):=fun b u h=>by obtain⟨h1,h2⟩:=pN h;rw[mO h1];exact e _ _ h2
theorem bH (h:H p=none):aC H (upd H p o):=fun b u q=>by rw[aO fun e=>by subst e;rw[h]at q;cases q];exact q
theorem aC.put (e:aC H H')(h:H p=none):aC H (upd H' p o):=fun b u q=>by rw[aO fun z=>by subst z;rw[h]at q;cases q];exact e _ _ q
theorem Yl {u:HO}(h:H p=none)(q:H D=some u):p≠D:=fun e=>by subst e;rw[h]at q;cases q
end
section
variable{P:ajr}{w:ajI}{K:aiU}{mg:Str->Option aiH}{base:aj4}
theorem lC.pH {x qual:Str}{st:akM}{f:aiM}{fd:ajA}{N ps:List Str}{k:Nat}{sp:Sp}(F:lC K x qual st f fd)(S:aU N ps (aB st))(len:∀vs H Q E,sp vs H Q E->vs.length=ps.length)(hbody:∀(cdv:aiH) (A:ajO) (outer:List Env) (s:aiK) (H:ag4) (vs:List V) (Q:ahY) (E:agL),jl k (A.deeper (aqR qual (aB st) s.heap.objs.size f cdv))->sp vs H Q E->∃t,zU (ou P w K mg base N qual (aB st) f cdv A outer s H E) (iC st) t∧t {nx:=fun _ H'=>Q .non H',rt:=Q} (start N vs) H):aP P w K mg base (cI P w) (k+1) f fd ps sp:=by obtain⟨oc,od,kV,doc,pm,an,cdv,ct,osl,rfl,lk,hcd⟩:=F.ex;exact aeC lk hcd S len fun A outer s H vs Q E hr hsp=>hbody cdv A outer s H vs Q E hr hsp
end
theorem rF {J:It}{g:ahU}{te:TE}{H1:ag4}{Vb:St}{ag7:aiM->ag4->Prop}(S:St->Prop)(n:Nat)(d:Nat->akm)(s0:S Vb)(hgo:∀i H2,i<n->aC H1 H2->J.go i H2)(hstop:∀H2,aC H1 H2->J.stop n H2)(hn:n<=aiV)(step:∀D i x lK H2 ahq (N:V->St->ag4->Prop),i<n->aC H1 H2->(∃ys,H2 D=some (.lst ys))->S lK->J.yld i H2 x ahq->(∀y oF ag1,S oF->aC H2 ag1->Dat (mask D ag1) (d i) y->N y oF ag1)->g x lK ahq fun oF aiv=>te oF aiv fun y ag1=>N y oF ag1)(fin:∀D ys H2,H1 D=none->aC H1 H2->H2 D=some (.lst ys)->bC (mask D H2) ((aiY n).map d) ys->ag7 D H2):∀D,H1 D=none->∃W:Nat->Nat->St->ag4->Prop,(∃m,W 0 m Vb (upd H1 D (.lst [])))∧∀i m lK H2,W i m lK H2->(J.stop i H2∧ag7 D H2)∨(J.go i H2∧∀x ahq,J.yld i H2 x ahq->g x lK ahq fun oF aiv=>aeR oF aiv fun b agU=>if b=true then te oF agU fun y ag1=>∃xs,ag1 D=some (.lst xs)∧xs.length<aiV∧∃m',m'<m∧W (i+1) m' oF (upd ag1 D (.lst (xs++[y])))else∃m',m'<m∧W (i+1) m' oF agU):=by
 intro D hD;refine⟨fun i m lK H2=>i+m=n∧S lK∧aC H1 H2∧∃ys,H2 D=some (.lst ys)∧bC (mask D H2) ((aiY i).map d) ys,⟨n,by lia,s0,bH hD,[],aA,.nil⟩,?_⟩;intro i m lK H2 ⟨hi,hs,e,ys,hy,dl⟩;by_cases c:i<n
 .refine .inr ⟨hgo i H2 c e,fun x ahq ahh=>?_⟩;refine step D i x lK H2 ahq (fun y oF ag1=>∃xs,ag1 D=some (.lst xs)∧xs.length<aiV∧∃m',m'<m∧_) c e ⟨ys,hy⟩ hs ahh fun y oF ag1 s4 e6 dy=>?_;have hl:=dl.length;rw[aiJ,ajZ]at hl;refine⟨ys,e6 _ _ hy,by lia,m-1,by lia,by lia,s4,(e.trans e6).put hD,ys++[y],aA,?_⟩;rw[Bq,akQ,ajf];exact(dl.mono (tD e6)).snoc dy
 .have hin:i=n:=by lia
  subst hin;exact .inl ⟨hstop H2 e,fin D ys H2 hD e hy dl⟩
theorem fP {J:It}{g:ahU}{tb:TS}{D:Ends}{H1:ag4}{Vb:St}(n:Nat)(I:Nat->St->ag4->Prop)(i0:I 0 Vb H1)(hgo:∀i σ H,i<n->I i σ H->J.go i H)(hstop:∀σ H,I n σ H->J.stop n H)(step:∀i x lK H2 ahq,i<n->I i lK H2->J.yld i H2 x ahq->g x lK ahq fun oF aiv=>tb {D with nx:=I (i+1),ct:=I (i+1),aid:=D.nx} oF aiv)(fin:∀σ H,I n σ H->D.nx σ H):∃W:Nat->Nat->St->ag4->Prop,(∃m,W 0 m Vb H1)∧∀i m σ H,W i m σ H->(J.stop i H∧D.nx σ H)∨(J.go i H∧∃N:St->ag4->Prop,(∀σ' H',N σ' H'->∃m',m'<m∧W (i+1) m' σ' H')∧∀x H',J.yld i H x H'->g x σ H' fun lK H2=>tb {D with nx:=N,ct:=N,aid:=D.nx} lK H2):=by
 refine⟨fun i m σ H=>i+m=n∧I i σ H,⟨n,by lia,i0⟩,fun i m σ H ⟨hi,hI⟩=>?_⟩;by_cases c:i<n
 .refine .inr ⟨hgo i σ H c hI,I (i+1),fun σ' H' q=>⟨m-1,by lia,by lia,q⟩,fun x H' ahh=>step i x σ H H' c hI ahh⟩
 .have hin:i=n:=by lia
  subst hin;exact .inl ⟨hstop σ H hI,fin σ H hI⟩
theorem Te:akf ("bool":Str)=some (aj9 "bool"):=by rfl
theorem Pb:akf ("int":Str)=some (aj9 "int"):=by rfl
theorem HW:akf ("list":Str)=some (aj9 "list"):=by rfl
theorem pO:akf ("tuple":Str)=some (aj9 "tuple"):=by rfl
theorem En:akf ("ValueError":Str)=some (aj9 "ValueError"):=by rfl
theorem bj:akf ("isinstance":Str)=some (ak9 "isinstance"):=by rfl
theorem Pg:akf ("sum":Str)=some (ak9 "sum"):=by rfl
theorem xx:akf ("sorted":Str)=some (ak9 "sorted"):=by rfl
theorem adu:akf ("abs":Str)=some (ak9 "abs"):=by rfl
theorem Br:akf ("max":Str)=some (ak9 "max"):=by rfl
theorem adv:akf ("min":Str)=some (ak9 "min"):=by rfl
theorem lookup_mem {α:Type}{x:Str}{a:α}:∀{l:List (Str×α)},l.lookup x=some a->(x,a)∈l:=fun h=>alZ h
theorem lM {X:aif}{N:List Str}{js:List (Option Nat)}{scope:ao5}{cl:List (Str×aiM)}(hk:scope.kind=.function)(hc:atR scope X.env=pure cl)(h1:∀y∈scope.names,y.2≠.cell)(h2:∀y∈scope.names,y.2=.local->scope.names.lookup y.1=some .local)(hl:js.length=N.length)(hs:∀y∈cl,X.env.cells.lookup y.1=some y.2)(hf:∀y∈scope.names,y.2=.free->(cl.lookup y.1).isSome=true)(hj:∀p∈N.zip js,∀j,p.2=some j->X.N[j]?=some p.1∧X.env.kindOf p.1=some .cell∧scope.names.lookup p.1=some .free)(hfn:X.env.scope.kind=.function):m5 X N js scope cl:=by
 have rl:∀x k,(atw scope X.env).names.lookup x=some k->(k=.cell∨k=.free)->∃y∈scope.names,y.1=x∧y.2=.free:=fun x k q hk2=>by
  have m:=lookup_mem q;unfold atw at m;obtain⟨⟨n,k2⟩,hm,e⟩:=ai'.mp m;have e2:=h1 _ hm;replace e:(if(k2==am3&&X.env.scope.kind==anO&&X.env.kindOf n==some al9)=true then(n,al9)else(n,k2))=(x,k):=e;by_cases hf2:k2=.free
  .subst hf2;refine⟨_,hm,?_,rfl⟩;split at e
   .exact congrArg Prod.fst e
   .exact congrArg Prod.fst e
  .exfalso;have hfb:(k2==am3)=false:=by cases k2<;>first|rfl|exact ai8 rfl hf2
   rw[hfb,akO,akO,aiL aiW]at e;cases e;rcases hk2 with h|h
   .exact e2 h
   .exact hf2 h
 refine⟨hk,hc,h1,h2,fun x c h=>hs _ (lookup_mem h),fun x h=>?_,hl,fun i j x h hx=>?_⟩
 .have:∃y∈scope.names,y.1=x∧y.2=.free:=by
   rcases h with h|h
   .exact rl x _ h (.inl rfl)
   .exact rl x _ h (.inr rfl)
  obtain⟨y,hy,rfl,e⟩:=this;exact anB.mp (hf y hy e)
 .obtain⟨hi,rfl⟩:=ajj.mp hx;obtain⟨hi2,hj2⟩:=ajj.mp h;obtain⟨a,b,c⟩:=hj (N[i],js[i]) (by rw[←List.getElem_zip (l:=N) (l':=js) (h:=by rw[List.length_zip];lia)];exact ajT _) j hj2;refine⟨a,?_,.inl b⟩;show(atw scope X.env).names.lookup N[i]=some .cell∨(atw scope X.env).names.lookup N[i]=some .free;left;have hb:X.env.scope.names.lookup N[i]=some .cell:=b;have gen:∀l:List (Str×asd),l.lookup N[i]=some .free->(l.map (fun x=>match x with|(n,k)=>if(k==am3&&X.env.scope.kind==anO&&X.env.kindOf n==some al9)=true then(n,al9)else(n,k))).lookup N[i]=some .cell:=by
   intro l;induction l with
   |nil=>intro h;cases h
   |cons p r ih=>
    intro h;obtain⟨n,k⟩:=p;rw[aov]at h;rw[ajd];by_cases e:(N[i]==n)=true
    .rw[e]at h;cases h;have en:N[i]=n:=beq_iff_eq.mp e;have hb2:X.env.kindOf n=some al9:=by rw[←en];exact b
     show amM N[i] ((if(am3==am3&&X.env.scope.kind==anO&&X.env.kindOf n==some al9)=true then(n,al9)else(n,am3))::_)=_;rw[hb2,hfn,aiP (by decide),aov,e]
    .rw[Bool.not_eq_true]at e;rw[e]at h;have:=ih h;show amM N[i] ((if(k==am3&&X.env.scope.kind==anO&&X.env.kindOf n==some al9)=true then(n,al9)else(n,k))::_)=_;split
     .rw[aov,e];exact this
     .rw[aov,e];exact this
  exact gen _ c
theorem HX {X:aif}{N:List Str}{js:List (Option Nat)}{scope:ao5}(hk:scope.kind=.function)(hc:atR scope X.env=pure [])(h1:∀y∈scope.names,y.2≠.cell)(h2:∀y∈scope.names,y.2=.local->scope.names.lookup y.1=some .local)(h3:∀y∈scope.names,y.2≠.free)(hl:js.length=N.length)(hj:∀o∈js,o=none)(hfn:X.env.scope.kind=.function):m5 X N js scope []:=lM hk hc h1 h2 hl (fun y hy=>ai8 hy (by simp)) (fun y hy e=>ai8 e (h3 y hy)) (fun p hp j h=>by cases(hj _ (aoO hp).2).symm.trans h) hfn
section
variable{X:aif}{K:aiU}
theorem Tf (h:X.K=K):IxR X (aeF K):=by subst h;exact bG
theorem Gx (h:X.K=K):MtR X "list.index" (Yh K):=by subst h;exact vK
theorem zZ {es:List akb}{k:Nat}{t:TGs}{n:Nat}{pos:Pos}(h:X.K=K)(hc:X.calm=true)(hp:PGs X es t)(hn:(anL es X.env).length=n)(hst:(anL es X.env).findIdx? (·.1)=none):PG X (.Tuple es k pos) (aer K n t):=by subst h;exact qx hc hp hn hst
variable{o e:akb}{es:List akb}{to:TE}{t:TA}{name:Str}{apos cpos:Pos}{T id:String}{r:V->List V->ag4->ahY->Prop}
theorem Ym (h:X.K=K)(pa:PlainAttrs T)(slot:Slot T name id)(hty:typeOf (.builtin id)=pure (.type "method_descriptor"))(hm:MtR X id r)(ho:PE X o to)(ha:PA X (e::es) t)(hbase:am1 o name X.env (alg o X.env)=alg o X.env)(hfew:((amO cpos (ajF (e::es) X.env)).all (fun x=>!x.1)&&(apW cpos (anQ [] X.env)).all (fun x=>x.1.isSome)&&decide ((e::es).length+([]:List asj).length+(if([]:List asj).isEmpty then 0 else 1)<30))=true)(hline:(apos.endLine==cpos.line)=true)(hs:ajF (e::es) X.env=(false,alg e X.env)::ajF es X.env)(hplain:(amO cpos (ajF es X.env)).any (·.1)=false):PE X (.Call (.Attribute o name apos) (e::es) [] cpos) (tBM K T r to t):=by subst h;exact rO pa slot hty hm ho ha hbase hfew hline hs hplain
end
end L2
namespace My
open PySem L2 PySem.Spec PyProof.Rows
structure ahz where
 ik:aiM
 dj:aiM
 cg:aiM
 cU:aiM
 cF:aiM
 cV:aiM
variable{A:ahz}
noncomputable def Eo (t:List Int):akm:=.tuple (t.map .int)
noncomputable def rJ (n:Int)(ts:List (List Int)):akm:=.tuple [.int n,.list (ts.map Eo)]
noncomputable def Ep (ns:List Int):akm:=.list (ns.map .int)
def small (k:Int):Prop:=k.natAbs<10^20
structure j0 (n:Int)(ts:List (List Int)):Prop where
 n:small n
 len:ts.length<=1000
 tie:∀t∈ts,t.length<=100∧∀k∈t,small k
theorem jr {H:ag4}{n:Int}{ts:List (List Int)}{v:V}(h:Dat H (rJ n ts) v):∃a l xs,v=.ref a∧H a=some (.tup [.int n,.ref l])∧H l=some (.lst xs)∧bC H (ts.map Eo) xs:=by obtain⟨a,xs,rfl,q,r⟩:=h.dF;obtain⟨y,ys,rfl,r1,t1⟩:=r.dM;obtain⟨z,zs,rfl,r2,t2⟩:=t1.dM;obtain⟨l,xs,rfl,q2,r3⟩:=r2.eY;rw[r1.g8,t2.mH]at q;exact⟨a,l,xs,rfl,q,q2,r3⟩
theorem Ph {H:ag4}{n:Int}{ts:List (List Int)}{a l:aiM}{xs:List V}(h1:H a=some (.tup [.int n,.ref l]))(h2:H l=some (.lst xs))(h3:bC H (ts.map Eo) xs):Dat H (rJ n ts) (.ref a):=
 .tuple h1 (.cons .int (.cons (.list h2 h3) .nil))
theorem uE {H:ag4}{ts:List (List Int)}{xs:List V}{i:Nat}{t:List Int}(h:bC H (ts.map Eo) xs)(e:ts[i]?=some t):∃a,xs[i]?=some (.ref a)∧H a=some (.tup (t.map .int)):=by obtain⟨x,h1,h2⟩:=h.get (i:=i) (d:=Eo t) (by rw[ai6,e];rfl);obtain⟨a,rfl,q⟩:=Dat.Bp h2;exact⟨a,h1,q⟩
def pP:Sp:=fun vs H Q _=>∃v a b:Int,vs=[.int v,.int a,.int b]∧Q (.bl (decide (a<=v)&&decide (v<=b))) H
noncomputable def cJ (n:Int):List Int->Bool
 |[a,b,c]=>(decide (0<=b)&&decide (b<=n-1))&&((decide (0<=a)&&decide (a<=b-1))&&(decide (1<=c)&&decide (c<=100)))
 |_=>false
theorem vL (n a b c:Int):cJ n [a,b,c]=((decide (0<=b)&&decide (b<=n-1))&&((decide (0<=a)&&decide (a<=b-1))&&(decide (1<=c)&&decide (c<=100)))):=rfl
theorem bB {n:Int}{t:List Int}(h:cJ n t=true):∃a b c,t=[a,b,c]∧0<=b∧b<=n-1∧0<=a∧a<=b-1∧1<=c∧c<=100:=by
 unfold cJ at h;split at h
 .rename_i a b c;simp only[aiR,decide_eq_true_eq]at h;obtain⟨⟨h1,h2⟩,⟨h3,h4⟩,h5,h6⟩:=h;exact⟨a,b,c,rfl,h1,h2,h3,h4,h5,h6⟩
 .cases h
def acI:Sp:=fun vs H Q _=>∃(a:aiM) (t:List Int) (n:Int),vs=[.ref a,.int n]∧H a=some (.tup (t.map .int))∧Q (.bl (cJ n t)) H
noncomputable def cY (n:Int):List Int->List (List Int)->Bool
 |_,[]=>true
 |b,t::r=>cJ n t&&(!HT.lexLe (t.take 2) b&&cY n (t.take 2) r)
def Yn (A:ahz):Sp:=fun vs H Q E=>∃(n:Int) (l:aiM) (xs:List V) (ts:List (List Int)),vs=[.int n,.ref l]∧H l=some (.lst xs)∧bC H (ts.map Eo) xs∧j0 n ts∧(cY n [-1,-1] ts=true->∀H',aC H H'->Q .non H')∧(cY n [-1,-1] ts=false->∀H',aC H H'->E (.ref A.dj) none H')
noncomputable def bN (n:Int)(ts:List (List Int)):Bool:=(decide (0<=n)&&decide (n<=8))&&cY n [-1,-1] ts
def acJ (A:ahz):Sp:=fun vs H Q E=>∃(v:V) (n:Int) (ts:List (List Int)),vs=[v]∧Dat H (rJ n ts) v∧j0 n ts∧(bN n ts=true->∀H',aC H H'->Q .non H')∧(bN n ts=false->∀H',aC H H'->E (.ref A.dj) none H')
noncomputable def dG (n:Int)(ns:List Int):Bool:=decide ((ns.length:Int)=n)&&(ns.all (fun k=>decide (0<=k)&&decide (k<=n-1))&&decide ns.Nodup)
theorem Gy:∀{l m:List Int},l.Nodup->(∀x∈l,x∈m)->l.length<=m.length
 |[],_,_,_=>ajW _
 |a::r,m,h,s=>by
  obtain⟨h1,h2⟩:=aj'.mp h
  have ha:a∈m:=s a (ai3.mpr (.inl rfl))
  have q:=Gy (m:=m.erase a) h2 fun x hx=>(List.mem_erase_of_ne fun z=>h1 (by rw[←z];exact hx)).mpr (s x (ai3.mpr (.inr hx)))
  rw[List.length_erase_of_mem ha]at q
  have:0<m.length:=List.length_pos_of_mem ha
  rw[ajl]
  omega
theorem dZ {n:Int}{ns:List Int}(h:dG n ns=true):(ns.length:Int)=n∧(∀k∈ns,0<=k∧k<=n-1)∧ns.Nodup:=by unfold dG at h;rw[aiR,aiR]at h;obtain⟨h1,h2,h3⟩:=h;refine⟨ai9 h1,fun k hk=>?_,ai9 h3⟩;have:=ajB.mp h2 k hk;rw[aiR]at this;exact⟨ai9 this.1,ai9 this.2⟩
theorem Kf {n:Int}{ns:List Int}(h1:(ns.length:Int)=n)(h2:∀k∈ns,0<=k∧k<=n-1)(h3:ns.Nodup):dG n ns=true:=by unfold dG;rw[aiQ h1,aiQ h3,akH,apO];exact ajB.mpr fun k hk=>by rw[aiQ (h2 k hk).1,aiQ (h2 k hk).2];rfl
noncomputable def upto (n:Nat):List Int:=(aiY n).map fun i:Nat=>(i:Int)
theorem pQ {n:Nat}{k:Int}:k∈upto n↔0<=k∧k<n:=by
 unfold upto;rw[ai'];constructor
 .rintro⟨i,hi,rfl⟩;have:=ajs.mp hi;lia
 .rintro⟨h1,h2⟩;exact⟨k.toNat,ajs.mpr (by lia),by lia⟩
theorem Bs {n:Nat}:(upto n).length=n:=by unfold upto;rw[aiJ,ajZ]
theorem gb {n:Int}{ns:List Int}(h:dG n ns=true){k:Int}(h0:0<=k)(h1:k<=n-1):k∈ns:=by
 obtain⟨hl,hk,hn⟩:=dZ h;by_cases c:k∈ns
 .exact c
 .have q:=Gy (l:=k::ns) (m:=upto ns.length) (aj'.mpr ⟨c,hn⟩) fun x hx=>by
   rcases ai3.mp hx with rfl|hx
   .exact pQ.mpr ⟨h0,by lia⟩
   .exact pQ.mpr ⟨(hk x hx).1,by have:=(hk x hx).2;lia⟩
  rw[Bs,ajl]at q;lia
theorem iI {n:Int}:∀{ts:List (List Int)} {b:List Int},cY n b ts=true->∀t∈ts,cJ n t=true
 |[],_,_,t,ht=>by simp at ht
 |a::r,b,h,t,ht=>by
  unfold cY at h
  rw[aiR,aiR]at h
  rcases ai3.mp ht with rfl|ht
  ·exact h.1
  ·exact iI h.2.2 t ht
theorem gq {n:Int}{ts:List (List Int)}(h:bN n ts=true):0<=n∧n<=8∧∀t∈ts,∃a b c,t=[a,b,c]∧0<=b∧b<=n-1∧0<=a∧a<=b-1∧1<=c∧c<=100:=by unfold bN at h;rw[aiR,aiR]at h;exact⟨ai9 h.1.1,ai9 h.1.2,fun t ht=>bB (iI h.2 t ht)⟩
noncomputable def idx (ns:List Int)(k:Int):Nat:=ns.idxOf k
theorem uF {ns:List Int}{k:Int}(h:k∈ns):idx ns k<ns.length:=List.idxOf_lt_length_of_mem h
theorem Kg {a k:Int}{r:List Int}(e:¬a=k):idx (a::r) k=idx r k+1:=by
 unfold idx;rw[List.idxOf_cons];have:(a==k)=false:=by simpa using e
 rw[this];rfl
noncomputable def Vg (d:Int):Int:=if d<0 then-d else d
noncomputable def uG (ns:List Int):List Int->Int
 |[a,b,_]=>Vg ((idx ns a:Int)-(idx ns b:Int))
 |_=>0
noncomputable def lens (ns:List Int)(ts:List (List Int)):List Int:=ts.map (uG ns)
theorem vM {ns:List Int}{k:Int}(h:k∈ns):(ns.map V.int).findIdx? (fun z=>xg z (.int k))=some (idx ns k):=by
 induction ns with
 |nil=>simp at h
 |cons a r ih=>
  rw[ajd,arU];by_cases e:a=k
  .subst e;have:xg (.int a) (.int a)=true:=by simp[xg]
   rw[this];simp[idx]
  .have e2:xg (.int a) (.int k)=false:=by simp[xg,e]
   rw[e2,ih ((ai3.mp h).resolve_left fun z=>e z.symm)];rw[Kg e];rfl
noncomputable def Kh (ns:List Int)(g:Nat):List Int->Int
 |[a,b,c]=>if min (idx ns a) (idx ns b)<=g∧g<max (idx ns a) (idx ns b)then c else 0
 |_=>0
noncomputable def j4 (ns:List Int)(ts:List (List Int))(g:Nat):Int:=(ts.map (Kh ns g)).sum
noncomputable def nD (m:Nat)(ns:List Int)(ts:List (List Int)):List Int:=(aiY m).map (j4 ns ts)
theorem sum_add {α:Type}(f g:α->Int):∀l:List α,(l.map fun x=>f x+g x).sum=(l.map f).sum+(l.map g).sum
 |[]=>rfl
 |a::r=>by
  simp only[ajd,akz]
  rw[sum_add f g r]
  lia
theorem Bt {α:Type}:∀l:List α,(l.map fun _=>(0:Int)).sum=0
 |[]=>rfl
 |a::r=>by rw[ajd,akz,Bt r];rfl
theorem Yo {lo hi:Nat}{c:Int}(h:lo<=hi):∀{m:Nat},hi<=m->((aiY m).map fun g=>if lo<=g∧g<hi then c else 0).sum=c*((hi:Int)-lo):=by
 have key:∀m:Nat,((aiY m).map fun g=>if lo<=g∧g<hi then c else 0).sum=c*((min m hi-lo:Nat):Int):=by
  intro m;induction m with
  |zero=>simp
  |succ m ih=>
   rw[akQ,ajf,amW,ih];simp only[ajd,an2,akz,auR,asn];by_cases e:lo<=m∧m<hi
   .rw[aiP e];have h1:(min (m+1) hi-lo:Nat)=(min m hi-lo:Nat)+1:=by omega
    rw[h1,aqy,Int.mul_add];simp
   .rw[aiL e];have h1:(min (m+1) hi-lo:Nat)=(min m hi-lo:Nat):=by omega
    rw[h1,asn]
 intro m hm;rw[key m];have:((min m hi-lo:Nat):Int)=(hi:Int)-lo:=by omega
 rw[this]
noncomputable def weigh (ns:List Int):List Int->Int
 |[a,b,c]=>c*uG ns [a,b,c]
 |_=>0
noncomputable def tot (ns:List Int)(ts:List (List Int)):Int:=(ts.map (weigh ns)).sum
theorem Yp {n:Int}{ns:List Int}{t:List Int}(ho:dG n ns=true)(ht:cJ n t=true):((aiY (n-1).toNat).map fun g=>Kh ns g t).sum=weigh ns t:=by obtain⟨a,b,c,rfl,h1,h2,h3,h4,h5,h6⟩:=bB ht;obtain⟨hl,hk,hn⟩:=dZ ho;have ia:=uF (gb ho h3 (by lia));have ib:=uF (gb ho h1 h2);show((aiY (n-1).toNat).map fun g=>if min (idx ns a) (idx ns b)<=g∧g<max (idx ns a) (idx ns b)then c else 0).sum=c*Vg ((idx ns a:Int)-(idx ns b:Int));rw[Yo (by lia) (by lia)];congr 1;unfold Vg;split<;>lia
theorem Bu {n:Int}{ns:List Int}(ho:dG n ns=true):∀{ts:List (List Int)},(∀t∈ts,cJ n t=true)->(nD (n-1).toNat ns ts).sum=tot ns ts
 |[],_=>by
  unfold nD tot
  exact Bt _
 |t::r,h=>by
  have q:=Bu ho (ts:=r) fun x hx=>h x (ai3.mpr (.inr hx))
  have e:nD (n-1).toNat ns (t::r)=(aiY (n-1).toNat).map fun g=>Kh ns g t+j4 ns r g:=by
   unfold nD
   refine akS fun g _=>?_
   unfold j4
   rw[ajd,akz]
  rw[e,sum_add,Yp ho (h t (ai3.mpr (.inl rfl)))]
  unfold nD at q
  rw[q]
  unfold tot
  rw[ajd,akz]
theorem lD {α β:Type}(f:α->β)(z:α):∀ts:List α,(aiY ts.length).map (fun i=>f (ts.getD i z))=ts.map f:=by
 intro ts;apply asN
 .simp
 .intro i h1 h2;have h3:i<ts.length:=by simpa using h2
  simp[ajb,aiG h3]
theorem Kl {ns:List Int}{ts:List (List Int)}:∀x∈lens ns ts,0<=x:=by
 intro x hx;obtain⟨t,_,rfl⟩:=ai'.mp hx;unfold uG;split
 .unfold Vg;split<;>lia
 .exact amo 0
theorem Yq {ns:List Int}{ts:List (List Int)}:(lens ns ts).length=ts.length:=aiJ _
noncomputable def maxOf (ns:List Int):Int:=ns.foldr max 0
theorem Yr {ns:List Int}(h:∀x∈ns,0<=x):Gu 0 ns (maxOf ns):=by
 induction ns with
 |nil=>exact .inl ⟨rfl,rfl⟩
 |cons a r ih=>
  right;have ih2:=ih fun x hx=>h x (ai3.mpr (.inr hx));have ha:=h a (ai3.mpr (.inl rfl));show max a (maxOf r)∈a::r∧∀x∈a::r,x<=max a (maxOf r);rcases ih2 with⟨rfl,e⟩|⟨m,l⟩
  .refine⟨by rw[e];simp;lia,fun x hx=>?_⟩;have:x=a:=by simpa using hx
   lia
  .constructor
   .by_cases c:a<=maxOf r
    .rw[Int.max_eq_right c];exact ai3.mpr (.inr m)
    .rw[Int.max_eq_left (by lia)];exact ai3.mpr (.inl rfl)
   .intro x hx;rcases ai3.mp hx with rfl|hx
    .lia
    .have:=l x hx;lia
theorem Bv {ns:List Int}(h:∀x∈ns,0<=x){M:Int}(q:Gu 0 ([0]++ns) M):M=maxOf ns:=by
 refine q.uniq ?_;right;rcases Yr h with⟨rfl,e⟩|⟨m,l⟩
 .rw[e];simp
 .exact⟨ai1.mpr (.inr m),fun a ha=>by
   rcases ai1.mp ha with z|z
   .have:a=0:=by simpa using z
    have:=h _ m;lia
   .exact l a z⟩
theorem Km {m:Nat}{n:Int}{ns:List Int}{ts:List (List Int)}(h:∀t∈ts,cJ n t=true):∀x∈nD m ns ts,0<=x:=by
 intro x hx;obtain⟨g,_,rfl⟩:=ai'.mp hx;unfold j4;have key:∀l:List Int,(∀y∈l,0<=y)->0<=l.sum:=by
  intro l;induction l with
  |nil=>intro _;exact amo 0
  |cons a r ih=>intro q;rw[akz];have:=ih fun y hy=>q y (ai3.mpr (.inr hy));have:=q a (ai3.mpr (.inl rfl));lia
 refine key _ fun y hy=>?_;obtain⟨t,ht,rfl⟩:=ai'.mp hy;obtain⟨a,b,c,rfl,h1,h2,h3,h4,h5,h6⟩:=bB (h t ht);show 0<=if min (idx ns a) (idx ns b)<=g∧g<max (idx ns a) (idx ns b)then c else 0;split<;>lia
theorem set_range {f f':Nat->Int}{m k:Nat}{v:Int}(h1:∀g,g≠k->f g=f' g)(h2:f' k=v):((aiY m).map f).set k v=(aiY m).map f':=by
 apply asN
 .simp
 .intro i a b;rw[List.getElem_set];simp only[ap6,List.getElem_range];by_cases e:k=i
  .rw[aiP e,←e,h2]
  .rw[aiL e,h1 i fun z=>e z.symm]
theorem Bw {ns:List Int}{ts:List (List Int)}{t:List Int}{g:Nat}:j4 ns (ts++[t]) g=j4 ns ts g+Kh ns g t:=by unfold j4;rw[ajf,amW];simp
noncomputable def Gz (_:Int)(ns:List Int)(ts:List (List Int)):Int:=maxOf (lens ns ts)
noncomputable def Ko (n:Int)(ns:List Int)(ts:List (List Int)):Int:=maxOf (nD (n-1).toNat ns ts)
noncomputable def Kp (_:Int)(ns:List Int)(ts:List (List Int)):Int:=tot ns ts
theorem ite_str {a b:Str}{X Y:Prop}(h1:a=b->X)(h2:a≠b->Y):if decide (V.str a=V.str b)=true then X else Y:=by
 by_cases c:a=b
 .rw[aiQ (congrArg V.str c)];exact dY (h1 c)
 .rw[aiO fun z=>c (V.str.inj z)];exact cN (h2 c)
def HY:Sp:=fun vs H Q _=>∃x,vs=[x]∧((∃i,x=.int i∧Q (.bl true) H)∨∃a xs,x=.ref a∧H a=some (.tup xs)∧Q (.bl false) H)
def dN (kd:Str):Prop:=kd="longest"∨kd="most"∨kd="total"
noncomputable instance{kd:Str}:Decidable (dN kd):=by unfold dN;infer_instance
def Ys (A:ahz):Sp:=fun vs H Q E=>∃kd:Str,vs=[.str kd]∧kd.length<=1000∧(∀c∈kd.cps.toList,c<16^8)∧(dN kd->Q .non H)∧(¬dN kd->E (.ref A.cF) none H)
theorem Yt (kd:Str):inV (.str kd) [.str "longest",.str "most",.str "total"]=decide (dN kd):=by
 have e:∀a b:Str,xg (.str a) (.str b)=decide (b=a):=fun a b=>by
  show(a==b)=_;by_cases c:b=a
  .subst c;simp
  .rw[aiO c];exact beq_eq_false_iff_ne.mpr fun z=>c z.symm
 show(xg (.str "longest") (.str kd)||(xg (.str "most") (.str kd)||(xg (.str "total") (.str kd)||false)))=_;rw[e,e,e,apP];unfold dN;by_cases c1:kd="longest"<;>by_cases c2:kd="most"<;>by_cases c3:kd="total"<;>simp[c1,c2,c3]
noncomputable def Kq (ns:List Int)(k:Int):Int:=if ns=[]then 0 else ns.getD (k %(ns.length:Int)).toNat 0
noncomputable def uH (ns:List Int)(k:Int):Int:=(((Kq ns k+104729*(k+1)) %4294967291*48271 %4294967279)/64*69621+(Kq ns k+104729*(k+1)) %4294967291*48271 %4294967279) %4294967231
theorem Kr (ns:List Int)(k:Int):0<=uH ns k:=akZ _ (by decide)
theorem abh {ns:List Int}(h:ns≠[])(i:Int):Ek (ns.map V.int) (i %((ns.map V.int).length:Int))=some (.int (Kq ns i)):=by
 rw[aiJ];have hl:0<ns.length:=amA.mpr h;have h0:0<=i %(ns.length:Int):=akZ _ (by lia);have h1:i %(ns.length:Int)<ns.length:=akW _ (by lia);have e:i %(ns.length:Int)=(((i %(ns.length:Int)).toNat:Nat):Int):=by lia
 unfold Kq;rw[aiL h];have hj:(i %(ns.length:Int)).toNat<ns.length:=by lia
 generalize(i %(ns.length:Int)).toNat=j at e hj ⊢;rw[e];apply qD;rw[ai6,ajb,aiG hj];rfl
def Yu (K:aiU):Sp:=fun vs H Q _=>∃(a:aiM) (ns:List Int) (k:Int),vs=[.ref a,.int k]∧bk K H a (ns.map .int)∧Q (.int (Kq ns k)) H
def Yv (K:aiU):Sp:=fun vs H Q _=>∃(a:aiM) (ns:List Int) (k:Int),vs=[.ref a,.int k]∧bk K H a (ns.map .int)∧Q (.int (uH ns k)) H
theorem yZ {n:Int}{t:List Int}(h1:cJ n t=true):∀{ts:List (List Int)} {b:List Int},cY n b ts=true->HT.lexLe (t.take 2) b=false->(∀s∈ts,HT.lexLe (t.take 2) (s.take 2)=false)->cY n b (ts++[t])=true
 |[],b,_,h2,_=>by
  show cY n b [t]=true
  unfold cY
  rw[h1,h2]
  rfl
 |s::r,b,h,h2,h3=>by
  unfold cY at h
  rw[aiR,aiR]at h
  rw[asO]
  unfold cY
  rw[h.1,h.2.1,yZ h1 h.2.2 (h3 s akL) fun x hx=>h3 x (ajS _ hx)]
  rfl
theorem Yw {a b c d:Int}:HT.lexLe [a,b] [c,d]=decide (a<c∨a=c∧b<=d):=by
 rw[HT.nq,HT.nq];by_cases e:a=c
 .rw[aiP e];by_cases e2:b=d
  .rw[aiP e2,HT.ur];exact(aiQ (by lia)).symm
  .rw[aiL e2];exact decide_eq_decide.mpr (by lia)
 .rw[aiL e];exact decide_eq_decide.mpr (by lia)
structure TW (n i j:Int)(ts:List (List Int)):Prop where
 ok:cY n [-1,-1] ts=true
 lt:∀s∈ts,∃a b c,s=[a,b,c]∧(a<i∨a=i∧b<j)
theorem TW.later {n i j i' j':Int}{ts:List (List Int)}(h:TW n i j ts)(e:i<i'∨i=i'∧j<=j'):TW n i' j' ts:=⟨h.ok,fun s hs=>by obtain⟨a,b,c,h1,h2⟩:=h.lt s hs;exact⟨a,b,c,h1,by lia⟩⟩
theorem TW.add {n i j w:Int}{ts:List (List Int)}(h:TW n i j ts)(h0:0<=i)(h1:i<j)(h2:j<n)(h3:1<=w)(h4:w<=100):TW n i (j+1) (ts++[[i,j,w]]):=by
 refine⟨yZ ?_ h.ok ?_ fun s hs=>?_,fun s hs=>?_⟩
 .rw[vL];simp only[aiR,decide_eq_true_eq];lia
 .show HT.lexLe [i,j] [-1,-1]=false;rw[Yw];exact aiO (by lia)
 .obtain⟨a,b,c,rfl,e⟩:=h.lt s hs;show HT.lexLe [i,j] [a,b]=false;rw[Yw];exact aiO (by lia)
 .rcases ai1.mp hs with z|z
  .obtain⟨a,b,c,e1,e2⟩:=h.lt s z;exact⟨a,b,c,e1,by lia⟩
  .exact⟨i,j,w,by simpa using z,by lia⟩
theorem TW.nil {n:Int}:TW n 0 0 []:=⟨rfl,fun s hs=>by simp at hs⟩
theorem Pj {i:Int}(h0:0<=i)(h1:i<6):∃w:Int,Ek [V.int 1,V.int 1,V.int 2,V.int 3,V.int 7,V.int 100] i=some (.int w)∧1<=w∧w<=100:=by
 have:i=0∨i=1∨i=2∨i=3∨i=4∨i=5:=by lia
 rcases this with rfl|rfl|rfl|rfl|rfl|rfl
 .exact⟨1,rfl,by decide,by decide⟩
 .exact⟨1,rfl,by decide,by decide⟩
 .exact⟨2,rfl,by decide,by decide⟩
 .exact⟨3,rfl,by decide,by decide⟩
 .exact⟨7,rfl,by decide,by decide⟩
 .exact⟨100,rfl,by decide,by decide⟩
theorem Yx {n:Int}{ts:List (List Int)}(h:bN n ts=true)(hl:ts.length<=1000):j0 n ts:=by obtain⟨h0,h8,ht⟩:=gq h;refine⟨by unfold small;omega,hl,fun t hm=>?_⟩;obtain⟨a,b,c,rfl,_⟩:=ht t hm;refine⟨by show 3<=100;decide,fun k hk=>?_⟩;unfold small;simp only[ai3,aiX,or_false]at hk;rcases hk with rfl|rfl|rfl<;>omega
def Yy (K:aiU):Sp:=fun vs H Q _=>∃(a:aiM) (ns:List Int) (k m:Int),vs=[.ref a,.int k,.int m]∧bk K H a (ns.map .int)∧0<=m∧m<=8∧∀v H' n ts,aC H H'->Dat H' (rJ n ts) v->bN n ts=true->j0 n ts->n<=m->ts.length<=64->Q v H'
theorem Pk {n:Nat}{os:List Int}(h:os.Perm (upto n)):dG n os=true:=by
 refine Kf (by rw[h.length_eq,Bs]) (fun k hk=>?_) (h.nodup_iff.mpr ?_)
 .have:=pQ.mp (h.mem_iff.mp hk);lia
 .unfold upto akD;rw[an8];exact(an9 (n:=n)).imp fun{a b} h=>by lia
def Tg:Sp:=fun vs H Q _=>∃(v:V) (l:aiM) (n:Int) (ts:List (List Int)) (os:List Int),vs=[v,.ref l]∧Dat H (rJ n ts) v∧H l=some (.lst (os.map .int))∧bN n ts=true∧j0 n ts∧dG n os=true∧∀p H',H p=none->aC H H'->H' p=some (.lst ((lens os ts).map .int))->Q (.ref p) H'
def Th:Sp:=fun vs H Q _=>∃(v:V) (l:aiM) (n:Int) (ts:List (List Int)) (os:List Int),vs=[v,.ref l]∧Dat H (rJ n ts) v∧H l=some (.lst (os.map .int))∧bN n ts=true∧j0 n ts∧dG n os=true∧∀p H',H p=none->aC H H'->H' p=some (.lst ((nD (n-1).toNat os ts).map .int))->Q (.ref p) H'
theorem pR (ns:List Int):(ns.map V.int).all mG=true:=ajB.mpr fun x hx=>by obtain⟨i,_,rfl⟩:=ai'.mp hx;rfl
theorem abi {a b:Nat}{ms:List Int}(hp:ms.Perm [(a:Int),(b:Int)])(hs:ms.Pairwise (·<=·)):ms=[((min a b:Nat):Int),((max a b:Nat):Int)]:=by
 have hl:=hp.length_eq;match ms,hl with
 |[x,y],_=>
  have h1:x<=y:=by have:=arW.mp hs;exact this.1 y (by simp)
  have hx:x∈[(a:Int),(b:Int)]:=hp.mem_iff.mp (by simp);have:x=a∨x=b:=by simpa using hx
  have hy:(x=a∧y=b)∨(x=b∧y=a):=by
   rcases this with rfl|rfl
   .have:=(aoI.mp hp.cons_inv);exact .inl ⟨rfl,this⟩
   .have:=(aoI.mp (hp.trans (aqZ _ _ _)).cons_inv);exact .inr ⟨rfl,this⟩
  have e1:x=((min a b:Nat):Int):=by lia
  have e2:y=((max a b:Nat):Int):=by lia
  rw[e1,e2]
def qH (A:ahz)(C:aiM)(x:Str):Prop:=(C=A.cF∧x="kind")∨(C=A.cg∧x="order")∨(C=A.cU∧x="spot")∨(C=A.cV∧x="text")∨(C=A.dj∧x="web")
def acK (A:ahz):Sp:=fun vs H Q _=>∃x,vs=[x]∧((x=.non∧Q (.str "ok") H)∨∃a C y,x=.ref a∧H a=some (J9 a C)∧qH A C y∧∀H',aC H H'->Q (.str y) H')
theorem oG {c X Y:Prop}[Decidable c](hc:c)(h:X):if decide c=true then X else Y:=by rw[aiQ hc];exact dY h
theorem pU {c X Y:Prop}[Decidable c](hc:¬c)(h:Y):if decide c=true then X else Y:=by rw[aiO hc];exact cN h
theorem qH.JG {A:ahz}:qH A A.dj "web":=.inr (.inr (.inr (.inr ⟨rfl,rfl⟩)))
theorem qH.kind {A:ahz}:qH A A.cF "kind":=.inl ⟨rfl,rfl⟩
def Told (A:ahz)(H:ag4)(Q:ahY):agL:=fun ahM _ H1=>∃y C,aC H H1∧ahM=.ref C∧qH A C y∧∀H',aC H1 H'->Q (.str y) H'
theorem abj {K:aiU}{c:Prop}[Decidable c]{σ:L2.St}{i:Nat}{H:ag4}{p:aiM}{xs:List V}{X Y:Prop}(hi:σ[i]?=some (some (.ref p)))(hx:bk K H p xs)(hA:c->xs≠[]->X)(hB:¬(c∧xs≠[])->Y):if decide c=true then(∃v,σ[i]?=some (some v)∧∃k,aaY K v H k∧(if k=true then X else Y))else(if false=true then X else Y):=by
 by_cases hc:c
 .refine oG hc ⟨_,hi,_,ajp ⟨xs,hx,rfl⟩,?_⟩;cases xs with
  |nil=>exact cN (hB fun z=>z.2 rfl)
  |cons a r=>exact dY (hA hc (ant a r))
 .exact pU hc (cN (hB fun z=>hc z.1))
theorem lN {xs:List V}{k:Nat}:jZ xs none (some (k:Int))=xs.take k:=by unfold jZ;rw[HT.JW,HT.zX,ao1,apg];rw[List.take_eq_take_iff];lia
theorem lO {xs:List V}{k:Nat}:jZ xs (some (k:Int)) none=xs.drop k:=by
 unfold jZ;rw[HT.JW,HT.zX];rw[ajY (by rw[akB];lia)];by_cases c:k<=xs.length
 .rw[aoS c]
 .rw[Nat.min_eq_right (by lia),asQ,akh (by lia)]
theorem lay_ints (ns:List Int):am9 (ns.map .int)=true:=by
 induction ns with
 |nil=>rfl
 |cons a r ih=>show(an' (.int a)&&am9 (r.map .int))=true;rw[ih];rfl
theorem Bx (ns:List Int):akP (ns.map .int)=0:=by
 induction ns with
 |nil=>rfl
 |cons a r ih=>show max (an7 (.int a)) (akP (r.map .int))=0;rw[ih];rfl
theorem By (as:List Int):∀bs:List Int,aoA (as.map .int) (bs.map .int)=decide (as=bs):=by
 induction as with
 |nil=>intro bs;cases bs with
  |nil=>rfl
  |cons b r=>exact(aiO (fun z=>nomatch z)).symm
 |cons a r ih=>intro bs;cases bs with
  |nil=>exact(aiO (fun z=>nomatch z)).symm
  |cons b s=>
   show((a==b)&&aoA (r.map .int) (s.map .int))=_;rw[ih s];by_cases e1:a=b
   .by_cases e2:r=s
    .simp[e1,e2]
    .simp[e1,e2]
   .simp[e1]
theorem lQ {d:akm}{X Y:Prop}(hc:d.canLay0=true)(h:Y):if(if true=true then !akn d d else akn d d)=true then X else Y:=by rw[aiP (rfl:true=true),atX d hc];exact cN h
theorem H3 {d:akm}(hc:d.canLay0=true):(if false=true then !akn d d else akn d d)=true:=by rw[aiL aiW,atX d hc]
theorem Pn (n:Nat):(upto n).Nodup:=by unfold upto akD;rw[an8];exact(an9 (n:=n)).imp fun{a b} h=>by lia
theorem au {H:ag4}{p:aiM}{o:HO}(h:H p=none):aC H (upd H p o)∧upd H p o p=some o:=⟨bH h,aA⟩
end My
namespace My
open PySem L2 PySem.Spec PyProof.Rows
section
variable{H H1 H2 H':ag4}{b x pa:aiM}
theorem GC (e:∀c ys,H c=some (.tup ys)->H' c=some (.tup ys)):∀{ts:List (List Int)} {xs:List V},bC H (ts.map Eo) xs->bC H' (ts.map Eo) xs
 |[],_,h=>by rw[h.mH];exact bC.nil
 |t::ts,_,h=>by
  obtain⟨y,ys,rfl,r,q⟩:=h.dM
  obtain⟨a,rfl,z⟩:=Dat.Bp r
  exact bC.cons (Dat.Ke (e _ _ z)) (GC e q)
end
def Ti:Sp:=fun vs H Q _=>∃(v:V) (kd:Str) (l:aiM) (n:Int) (ts:List (List Int)) (os:List Int),vs=[v,.str kd,.ref l]∧Dat H (rJ n ts) v∧H l=some (.lst (os.map .int))∧bN n ts=true∧j0 n ts∧ts.length<=64∧dG n os=true∧(kd="longest"->∀H',aC H H'->Q (.int (Gz n os ts)) H')∧(kd="most"->∀H',aC H H'->Q (.int (Ko n os ts)) H')∧(kd≠"longest"->kd≠"most"->∀H',aC H H'->Q (.int (Kp n os ts)) H')
end My
namespace L2
open PySem PySem.Spec PyProof.Rows
section
variable{X:aif}
def Ks (ns:List Int)(m:Int):Prop:=m∈ns∧∀a∈ns,m<=a
theorem Vh {ys:Array (Int×Tok)}{ns:List Int}(hns:ns=ys.toList.map (·.1))(hs:0<ys.size):Ks ns (arw ys (argBest (fun i j=>decide (arw ys i<arw ys j)) (ys.size-1))):=by
 obtain⟨h1,h2⟩:=argBest_lt (arw ys) (ys.size-1);constructor
 .rw[hns,atV];exact getD_mem (by rw[aiJ,ajR];omega)
 .intro a ha;rw[hns]at ha;obtain⟨j,hj,rfl⟩:=mem_getD ha;rw[aiJ,ajR]at hj;rw[←atV];exact h2 j (by omega)
theorem Vi (hc:X.calm=true):jb X (.builtin "min") (fun xs H Q=>∃(p:aiM) (ns:List Int),xs=[.ref p]∧bk X.K H p (ns.map .int)∧ns≠[]∧∀M,Ks ns M->Q (.int M) H):=by
 intro pins s σ H xs us Q I r h;obtain⟨p,ns,rfl,hq,hne,q⟩:=h;obtain⟨u,rfl,agK⟩:=vals1 r;cases agK;obtain⟨its,rv,pl,hz⟩:=I.list hq;obtain⟨ys,e,hns⟩:=uD (intsAre_of rv);have hs:0<ys.size:=by have:0<ns.length:=amA.mpr hne;rw[hns,aiJ,ajR]at this;exact this
 refine min_intList (I.ok.hd hc) (by rw[←e];exact pl.isList) hs fun v h1 tk hv kk=>?_;obtain⟨t,rfl⟩:=intItems_at hv;exact⟨.int _,H,I.kept kk,⟨t,rfl⟩,q _ (Vh hns hs)⟩
theorem H4:∀{bs:List Bool} {us:List aiH},Vals (bs.map V.bl) us->us=bs.map .bool
 |[],_,.nil=>rfl
 |b::bs,_,.cons r t=>by
  have:=H4 t
  subst this
  cases r
  rfl
theorem all_range (bs:List Bool):((aiY bs.length).all fun i=>(bs[i]?).getD true)=bs.all id:=by
 rw[ajD,ajB,ajB];constructor
 .intro h b hb;obtain⟨i,hi,rfl⟩:=amB hb;have:=h i (ajs.mpr hi);rw[aiG hi]at this;exact this
 .intro h i hi;have hi':=ajs.mp hi;rw[aiG hi'];exact h _ (ajT hi')
theorem tE (hc:X.calm=true):jb X (.builtin "all") (fun xs H Q=>∃(p:aiM) (bs:List Bool),xs=[.ref p]∧bk X.K H p (bs.map .bl)∧Q (.bl (bs.all id)) H):=by
 intro pins s σ H xs us Q I r h;obtain⟨p,bs,rfl,hq,q⟩:=h;obtain⟨u,rfl,agK⟩:=vals1 r;cases agK;obtain⟨its,rv,pl,hz⟩:=I.list hq;have hits:=H4 rv;subst hits;have hl:=pl.isList;have hlt:p<s.heap.objs.size:=by obtain⟨_,e,_⟩:=hl;exact aja e
 have kept:∀{h':aj4} {o:Obj},(∀b x,b∉[s.heap.objs.size]->(s.heap.push o).get? b=some x->h'.get? b=some x)->∀b x,s.heap.get? b=some x->h'.get? b=some x:=fun hk b x e=>hk b x (fun hm=>by rw[ai5.mp hm]at e;exact aky _ (aja e)) (aiS _ e);refine call_all_walk (anV hl ?_);refine⟨s.heap.objs.size,[s.heap.objs.size,p],[s.heap.objs.size],(bs.map alF).toArray.size,_,_,fun i=>(bs[i]?).getD true,rfl,atY (A:=X.A.in1) (I.ok.hd hc) _ p (ajw hlt) (bs.map alF).toArray,⟨⟨_,ajg _ rfl,rfl,rfl⟩,hl.push _⟩,fun i v s' Q' E' hP hQ=>?_,fun h' tk hk=>?_⟩
 .have hP':(bs.map alF)[i]?=some v:=by simpa using hP
  rw[ai6]at hP';cases e:bs[i]? with
  |none=>rw[e]at hP';cases hP'
  |some b=>rw[e]at hP';cases hP';have hQ':Q' ((bs[i]?).getD true) s':=hQ;rw[e]at hQ';exact aj8 hQ'
 .have e:((aiY (bs.map alF).toArray.size).all fun i=>(bs[i]?).getD true)=bs.all id:=by rw[ajk,aiJ];exact all_range bs
  rw[e];exact⟨.bl (bs.all id),H,I.kept (kept hk),rfl,q⟩
end
theorem uI {J:It}{g:ahU}{tt:TT}{te:TE}{H1:ag4}{Vb:St}{ag7:aiM->ag4->Prop}(S:St->Prop)(n:Nat)(c:Nat->Bool)(d:Nat->akm)(s0:S Vb)(hgo:∀i H2,i<n->aC H1 H2->J.go i H2)(hstop:∀H2,aC H1 H2->J.stop n H2)(hn:n<=aiV)(step:∀D i x lK H2 ahq (Y:V->St->ag4->Prop) (Z:St->ag4->Prop),i<n->aC H1 H2->(∃ys,H2 D=some (.lst ys))->S lK->J.yld i H2 x ahq->(∀y oF ag1,c i=true->S oF->aC H2 ag1->Dat (mask D ag1) (d i) y->Y y oF ag1)->(∀oF agU,c i=false->S oF->aC H2 agU->Z oF agU)->g x lK ahq fun oF aiv=>tt oF aiv fun b agU=>if b=true then te oF agU fun y ag1=>Y y oF ag1 else Z oF agU)(fin:∀D ys H2,H1 D=none->aC H1 H2->H2 D=some (.lst ys)->bC (mask D H2) (((aiY n).filter c).map d) ys->ag7 D H2):∀D,H1 D=none->∃W:Nat->Nat->St->ag4->Prop,(∃m,W 0 m Vb (upd H1 D (.lst [])))∧∀i m lK H2,W i m lK H2->(J.stop i H2∧ag7 D H2)∨(J.go i H2∧∀x ahq,J.yld i H2 x ahq->g x lK ahq fun oF aiv=>tt oF aiv fun b agU=>if b=true then te oF agU fun y ag1=>∃xs,ag1 D=some (.lst xs)∧xs.length<aiV∧∃m',m'<m∧W (i+1) m' oF (upd ag1 D (.lst (xs++[y])))else∃m',m'<m∧W (i+1) m' oF agU):=by
 intro D hD;refine⟨fun i m lK H2=>i+m=n∧S lK∧aC H1 H2∧∃ys,H2 D=some (.lst ys)∧bC (mask D H2) (((aiY i).filter c).map d) ys,⟨n,by lia,s0,bH hD,[],aA,.nil⟩,?_⟩;intro i m lK H2 ⟨hi,hs,e,ys,hy,dl⟩;by_cases h:i<n
 .refine .inr ⟨hgo i H2 h e,fun x ahq ahh=>?_⟩;have hl:=dl.length;have hle:((aiY i).filter c).length<=i:=ajt (alA _ _) (by rw[ajZ];exact aiN _);rw[aiJ]at hl;refine step D i x lK H2 ahq (fun y oF ag1=>∃xs,ag1 D=some (.lst xs)∧xs.length<aiV∧∃m',m'<m∧_) (fun oF agU=>∃m',m'<m∧_) h e ⟨ys,hy⟩ hs ahh (fun y oF ag1 hc s4 e6 dy=>?_) fun oF agU hc s4 e5=>?_
  .refine⟨ys,e6 _ _ hy,by lia,m-1,by lia,by lia,s4,(e.trans e6).put hD,ys++[y],aA,?_⟩;rw[Bq,akQ,aph,ajf];have z:(au2 c [i])=[i]:=by rw[amJ,aiP hc];rfl
   rw[z];exact(dl.mono (tD e6)).snoc dy
  .refine⟨m-1,by lia,by lia,s4,e.trans e5,ys,e5 _ _ hy,?_⟩;have z:(au2 c [i])=[]:=by rw[amJ,aiL (by rw[hc];exact aiW)];rfl
   rw[akQ,aph,z,alb];exact dl.mono (tD e5)
 .have hin:i=n:=by lia
  subst hin;exact .inl ⟨hstop H2 e,fin D ys H2 hD e hy dl⟩
section
variable{X:aif}{a b:akb}{rest:List akb}{ta tb:TE}{pos:Pos}
def afR (K:aiU)(ta tb:TE):TE:=fun σ H Q=>ta σ H fun x H1=>∃c,aaY K x H1 c∧if c=true then Q x H1 else tb σ H1 Q
theorem adw (ha:PE X a ta)(hb:PE X (.BoolOp .Or (b::rest) pos) tb):PE X (.BoolOp .Or (a::b::rest) pos) (afR X.K ta tb):=by
 intro pins s σ H Q I h;refine BoolOp_or (cC (ha pins s σ H _ I h) fun v s1 ⟨x,H1,I1,r1,q1⟩=>?_);obtain⟨c,ht,q1⟩:=q1;refine cC (Xr pins s1 σ H1 x v (fun c H2=>if c=true then Q x H2 else tb σ H2 Q) I1 r1 ⟨c,ht,q1⟩) fun d s2 ⟨H2,agY,q2⟩=>?_;cases d with
 |true=>exact⟨x,H2,agY,r1,q2⟩
 |false=>exact hb pins s2 σ H2 Q agY q2
end
section
variable{X:aif}{K:aiU}
theorem Pq (hK:X.K=K):qt X (ake .In) (rIn K false):=hK▸U3
theorem uv (hK:X.K=K):qt X (ake .NotIn) (rIn K true):=hK▸vD
end
end L2
namespace My
open PySem L2 PySem.Spec PyProof.Rows
noncomputable def bit (S p:Nat):Bool:=S/2^p %2==1
theorem jt {S p:Nat}(h:S<2^p):bit S p=false:=by unfold bit;rw[asR h];rfl
theorem Tj {n S p:Nat}(h:S<2^n)(hp:n<=p):bit S p=false:=jt (ajv h (aj5 (by decide) hp))
theorem rP {n S:Nat}(hn:n<=5)(h:S<2^n):S<32:=ajv h (show 2^n<=2^5 from aj5 (by decide) hn)
theorem vN:∀S<32,∀p<5,∀q<5,bit S p=false->bit (S+2^p) q=(decide (q=p)||bit S q):=by decide+kernel
theorem tG:∀n<6,∀S<2^n,∀p<n,bit S p=false->S+2^p<2^n:=by decide+kernel
theorem Ku:∀S<32,∀p<5,bit S p=true->2^p<=S∧bit (S-2^p) p=false:=by decide+kernel
theorem tH:∀n<6,∀q<n,bit (2^n-1) q=true:=by decide+kernel
theorem Vj:∀S<32,S≠0->∃p,p<5∧bit S p=true:=by decide+kernel
theorem Tn {n S p:Nat}(hn:n<=5)(h:S<2^n)(hb:bit S p=true):p<n∧2^p<=S∧bit (S-2^p) p=false:=by
 have hp:p<n:=by
  by_cases c:p<n
  .exact c
  .rw[Tj h (by lia)]at hb;cases hb
 exact⟨hp,Ku S (rP hn h) p (by lia) hb⟩
theorem two_pos (p:Nat):1<=2^p:=Nat.one_le_two_pow
noncomputable def Tp (m S:Nat):List Nat:=(aiY m).filter (bit S)
noncomputable def fewer (m S:Nat):List Nat:=(Tp m S).map fun p=>S-2^p
theorem xF {m S p:Nat}:p∈Tp m S↔p<m∧bit S p=true:=by unfold Tp;rw[aks,ajs]
theorem Kv {m S f:Nat}(hS:S<32)(hm:m<=5)(h:f∈fewer m S):f<S:=by unfold fewer at h;obtain⟨p,hp,rfl⟩:=ai'.mp h;obtain⟨h1,h2⟩:=xF.mp hp;have:=(Ku S hS p (by omega) h2).1;have:=two_pos p;omega
theorem Yz {n S:Nat}(hn:n<=5)(h:S<2^n)(h0:S≠0):fewer n S≠[]:=by obtain⟨p,h1,h2⟩:=Vj S (rP hn h) h0;have hp:=(Tn hn h h2).1;unfold fewer;intro e;have:Tp n S=[]:=aoX.mp e;have hm:=xF.mpr ⟨hp,h2⟩;rw[this]at hm;cases hm
noncomputable def Pr (S:Nat):List Int->Int
 |[a,b,c]=>if bit S a.toNat=bit S b.toNat then 0 else c
 |_=>0
noncomputable def dB (ts:List (List Int))(S:Nat):Int:=(ts.map (Pr S)).sum
noncomputable def abk:List Int->Int
 |[]=>0
 |a::r=>r.foldr min a
theorem Vk (r:List Int)(a:Int):Ks (a::r) (r.foldr min a):=by
 induction r with
 |nil=>exact⟨ai5.mpr rfl,fun b hb=>by rw[ai5.mp hb];exact amo _⟩
 |cons c r ih=>
  obtain⟨h1,h2⟩:=ih;show Ks _ (min c (r.foldr min a));constructor
  .rcases Int.le_total c (r.foldr min a)with z|z
   .rw[Int.min_eq_left z];exact .tail _ (.head _)
   .rw[Int.min_eq_right z];rcases ai3.mp h1 with e|e
    .rw[e];exact .head _
    .exact .tail _ (.tail _ e)
  .intro b hb;rcases ai3.mp hb with rfl|hb
   .exact aso (asS _ _) (h2 _ (.head _))
   .rcases ai3.mp hb with rfl|hb
    .exact Int.min_le_left _ _
    .exact aso (asS _ _) (h2 _ (.tail _ hb))
theorem abl {ns:List Int}(h:ns≠[]):Ks ns (abk ns):=by
 cases ns with
 |nil=>exact ai8 rfl h
 |cons a r=>exact Vk r a
noncomputable def prs (n:Nat)(ts:List (List Int)):Nat->List Int
 |0=>[]
 |1=>[0]
 |k+2=>prs n ts (k+1)++[abk ((fewer n (k+1)).map fun f=>(prs n ts (k+1)).getD f 0)+dB ts (k+1)]
theorem z6 (n:Nat)(ts:List (List Int)):∀k,(prs n ts k).length=k
 |0=>rfl
 |1=>rfl
 |k+2=>by
  unfold prs
  rw[aiZ,z6 n ts (k+1)]
  rfl
noncomputable def za (n:Nat)(ts:List (List Int))(S:Nat):Int:=(prs n ts (S+1)).getD S 0
theorem xG {as bs:List Int}{i:Nat}(h:i<as.length):(as++bs).getD i 0=as.getD i 0:=by rw[ajb,ajb,ak2 h]
theorem Tq {n:Nat}{ts:List (List Int)}{S:Nat}:∀{k:Nat},S<k->(prs n ts k).getD S 0=za n ts S
 |0,h=>ai8 h (alw _)
 |1,h=>by
  obtain rfl:S=0:=by lia
  rfl
 |k+2,h=>by
  by_cases c:S<k+1
  ·show((prs n ts (k+1))++_).getD S 0=_
   rw[xG (by rw[z6];exact c)]
   exact Tq c
  ·obtain rfl:S=k+1:=by lia
   rfl
theorem Pu {n:Nat}{ts:List (List Int)}{S:Nat}(hn:n<=5)(hS:S<2^n)(h0:S≠0):za n ts S=abk ((fewer n S).map (za n ts))+dB ts S:=by obtain⟨k,rfl⟩:∃k,S=k+1:=⟨S-1,by lia⟩;have e:(fewer n (k+1)).map (fun f=>(prs n ts (k+1)).getD f 0)=(fewer n (k+1)).map (za n ts):=akS fun f hf=>Tq (Kv (rP hn hS) hn hf);unfold za;show(prs n ts (k+1)++[_]).getD (k+1) 0=_;rw[ajb,alp (by rw[z6];exact aiN _),z6,aoa];show abk ((fewer n (k+1)).map fun f=>(prs n ts (k+1)).getD f 0)+dB ts (k+1)=_;rw[e];rfl
noncomputable def setOf:List Int->Nat
 |[]=>0
 |p::r=>setOf r+2^p.toNat
theorem qI {n:Nat}(hn:n<=5):∀{ps:List Int},ps.Nodup->(∀p∈ps,0<=p∧p<n)->setOf ps<2^n∧∀q:Nat,q<n->bit (setOf ps) q=decide ((q:Int)∈ps)
 |[],_,_=>⟨akR n,fun q hq=>by
   rw[aiO (fun z=>nomatch z)]
   exact jt (akR q)⟩
 |p::r,hd,hb=>by
  obtain⟨h1,h2⟩:=aj'.mp hd
  obtain⟨a,b⟩:=qI hn h2 fun x hx=>hb x (.tail _ hx)
  obtain⟨p0,p1⟩:=hb p (.head _)
  have hpn:p.toNat<n:=by lia
  have hf:bit (setOf r) p.toNat=false:=by
   rw[b _ hpn,al0 p0]
   exact aiO h1
  refine⟨tG n (by lia) _ a _ hpn hf,fun q hq=>?_⟩
  show bit (setOf r+2^p.toNat) q=_
  rw[vN _ (rP hn a) _ (by lia) q (by lia) hf,b q hq]
  by_cases c:q=p.toNat
  ·rw[aiQ c,aiQ (ai3.mpr (.inl (by lia)))]
   rfl
  ·rw[aiO c,alo]
   by_cases m:(q:Int)∈r
   ·rw[aiQ m,aiQ (ai3.mpr (.inr m))]
   ·rw[aiO m,aiO fun z=>(ai3.mp z).elim (fun e=>c (by lia)) m]
noncomputable def way (ts:List (List Int)):List Int->Int
 |[]=>0
 |p::r=>way ts r+dB ts (setOf (p::r))
theorem GD {n:Nat}(hn:n<=5){ts:List (List Int)}:∀(k S:Nat),S<=k->S<2^n->∃ps:List Int,ps.Nodup∧(∀p∈ps,0<=p∧p<n)∧setOf ps=S∧way ts ps=za n ts S
 |0,S,hk,_=>by
  obtain rfl:S=0:=by lia
  exact⟨[],alq,fun p h=>ai8 h aiX,rfl,rfl⟩
 |k+1,S,hk,hS=>by
  by_cases c:S=0
  ·subst c
   exact⟨[],alq,fun p h=>ai8 h aiX,rfl,rfl⟩
  ·have hne:=Yz hn hS c
   obtain⟨hm,_⟩:=abl (ns:=(fewer n S).map (za n ts)) (fun e=>hne (aoX.mp e))
   obtain⟨f,hf,ef⟩:=ai'.mp hm
   have hlt:=Kv (rP hn hS) hn hf
   unfold fewer at hf
   obtain⟨p,hp,rfl⟩:=ai'.mp hf
   obtain⟨hp1,hp2⟩:=xF.mp hp
   obtain⟨_,hle,hoff⟩:=Tn hn hS hp2
   obtain⟨ps,d,b,m,e⟩:=GD hn (ts:=ts) k (S-2^p) (by lia) (by lia)
   obtain⟨_,bm⟩:=qI hn d b
   have hnp:((p:Nat):Int)∉ps:=by
    have:=bm p hp1
    rw[m,hoff]at this
    exact of_decide_eq_false this.symm
   have hmk:setOf ((p:Int)::ps)=S:=by
    show setOf ps+2^((p:Int)).toNat=S
    rw[m,ai4]
    lia
   refine⟨(p:Int)::ps,aj'.mpr ⟨hnp,d⟩,fun x hx=>?_,hmk,?_⟩
   ·rcases ai3.mp hx with rfl|hx
    ·lia
    ·exact b x hx
   ·show way ts ps+dB ts (setOf ((p:Int)::ps))=_
    rw[hmk,e,Pu hn hS c,ef]
theorem H5:akf ("all":Str)=some (ak9 "all"):=by rfl
def H6:Sp:=fun vs H Q _=>∃n:Nat,vs=[.int n]∧n<=8∧Q (.int ((2^n:Nat):Int)) H
def z7:Sp:=fun vs H Q _=>∃S p:Nat,vs=[.int S,.int p]∧p<=1000∧Q (.bl (bit S p)) H
def YB:Sp:=fun vs H Q _=>∃(v:V) (n:Nat) (ts:List (List Int)),vs=[v]∧Dat H (rJ n ts) v∧bN n ts=true∧j0 n ts∧n<=5∧∀l H',H l=none->aC H H'->H' l=some (.lst (((aiY (2^n)).map (dB ts)).map .int))->Q (.ref l) H'
theorem sum_filter {α:Type}(c:α->Bool)(f:α->Int):∀l:List α,((l.filter c).map f).sum=(l.map fun x=>if c x=true then f x else 0).sum
 |[]=>rfl
 |x::l=>by
  rw[amJ]
  by_cases h:c x=true
  ·rw[aiP h,ajd,ajd,akz,akz,sum_filter c f l,aiP h]
  ·rw[aiL h,ajd,akz,sum_filter c f l,aiL h,auS]
noncomputable def Eh (S:Nat):List Int->Bool
 |[a,b,_]=>!decide (bit S a.toNat=bit S b.toNat)
 |_=>false
noncomputable def w3:List Int->Int
 |[_,_,c]=>c
 |_=>0
theorem abm (S:Nat):∀t:List Int,(if Eh S t=true then w3 t else 0)=Pr S t
 |[a,b,c]=>by
  show(if(!decide (bit S a.toNat=bit S b.toNat))=true then c else 0)=if bit S a.toNat=bit S b.toNat then 0 else c
  by_cases h:bit S a.toNat=bit S b.toNat
  ·rw[aiQ h,aiP h]
   rfl
  ·rw[aiO h,aiL h]
   rfl
 |[]=>rfl
 |[_]=>rfl
 |[_,_]=>rfl
 |_::_::_::_::_=>rfl
theorem Tr (ts:List (List Int))(S:Nat):((((aiY ts.length).filter fun i=>Eh S (ts.getD i [])).map fun i=>w3 (ts.getD i [])).sum)=dB ts S:=by rw[sum_filter,lD (fun t=>if Eh S t=true then w3 t else 0) [] ts];unfold dB;congr 1;exact akS fun t _=>abm S t
theorem GF {l:List Int}(h:l.Nodup):l.reverse.Nodup:=(aob l).nodup_iff.mpr h
theorem qJ {a:Int}:∀{ns:List Int} {k:Nat},a∈ns->(a∈ns.take k↔idx ns a<k)
 |[],_,h=>ai8 h aiX
 |x::r,0,h=>by
  rw[atZ]
  exact⟨fun z=>ai8 z aiX,fun z=>ai8 z (alw _)⟩
 |x::r,k+1,h=>by
  rw[List.take_succ_cons]
  by_cases e:x=a
  ·subst e
   have:idx (x::r) x=0:=by unfold idx;rw[List.idxOf_cons_self]
   rw[this]
   exact⟨fun _=>Nat.succ_pos _,fun _=>.head _⟩
  ·rw[Kg e]
   have hr:a∈r:=(ai3.mp h).elim (fun z=>ai8 z.symm e) id
   rw[ai3]
   have ih:=qJ (ns:=r) (k:=k) hr
   constructor
   ·rintro(z|z)
    ·exact ai8 z.symm e
    ·have:=ih.mp z
     lia
   ·intro z
    exact .inr (ih.mpr (by lia))
noncomputable def upTo (os:List Int)(g:Nat):Nat:=setOf (os.take g).reverse
theorem pW {n:Nat}(hn:n<=5){os:List Int}(ho:dG n os=true)(g:Nat):upTo os g<2^n∧∀q:Nat,q<n->bit (upTo os g) q=decide (idx os (q:Int)<g):=by
 obtain⟨h1,h2,h3⟩:=dZ ho;obtain⟨a,b⟩:=qI hn (ps:=(os.take g).reverse) (GF (h3.sublist (ase _ _))) fun p hp=>by have:=h2 p (aj1 (alI.mp hp));lia
 refine⟨a,fun q hq=>?_⟩;unfold upTo;rw[b q hq];have hm:=gb ho (k:=(q:Int)) (by lia) (by lia);have:=qJ (k:=g) hm;rw[ajD,decide_eq_true_iff,decide_eq_true_iff,alI];exact this
theorem YC {n:Nat}(hn:n<=5){os:List Int}(ho:dG n os=true){t:List Int}(ht:cJ n t=true)(g:Nat):Kh os g t=Pr (upTo os (g+1)) t:=by
 obtain⟨a,b,c,rfl,h1,h2,h3,h4,_,_⟩:=bB ht;obtain⟨a,rfl⟩:∃m:Nat,a=m:=⟨a.toNat,by lia⟩;obtain⟨b,rfl⟩:∃m:Nat,b=m:=⟨b.toNat,by lia⟩;obtain⟨_,hb⟩:=pW hn ho (g+1);show(if min (idx os a) (idx os b)<=g∧g<max (idx os a) (idx os b)then c else 0)=if bit (upTo os (g+1)) ((a:Int)).toNat=bit (upTo os (g+1)) ((b:Int)).toNat then 0 else c;rw[ai4,ai4,hb a (by lia),hb b (by lia)];by_cases c1:idx os (a:Int)<g+1
 .by_cases c2:idx os (b:Int)<g+1
  .rw[aiQ c1,aiQ c2,aiP rfl,aiL (by lia)]
  .rw[aiQ c1,aiO c2,aiP (show min (idx os (a:Int)) (idx os (b:Int))<=g∧g<max (idx os (a:Int)) (idx os (b:Int)) by lia),aiL (show¬(true=false)from fun z=>al' z)]
 .by_cases c2:idx os (b:Int)<g+1
  .rw[aiO c1,aiQ c2,aiP (show min (idx os (a:Int)) (idx os (b:Int))<=g∧g<max (idx os (a:Int)) (idx os (b:Int)) by lia),aiL aiW]
  .rw[aiO c1,aiO c2,aiP rfl,aiL (by lia)]
theorem z8 {n:Nat}(hn:n<=5){os:List Int}(ho:dG n os=true){ts:List (List Int)}(ht:∀t∈ts,cJ n t=true)(g:Nat):j4 os ts g=dB ts (upTo os (g+1)):=by unfold j4 dB;congr 1;exact akS fun t h=>YC hn ho (ht t h) g
theorem rQ {ts:List (List Int)}{os:List Int}:∀{k:Nat},k<=os.length->way ts (os.take k).reverse=((aiY k).map fun g=>dB ts (upTo os (g+1))).sum
 |0,_=>rfl
 |k+1,h=>by
  have ih:=rQ (ts:=ts) (os:=os) (k:=k) (by lia)
  have e:(os.take (k+1)).reverse=os[k]::(os.take k).reverse:=by
   rw[akv,aiG (by lia)]
   simp
  rw[akQ,ajf,amW,←ih]
  unfold upTo
  rw[e]
  show way ts (os.take k).reverse+dB ts (setOf (os[k]::(os.take k).reverse))=_
  simp only[ajd,an2,akz,auR,asn]
  rw[e]
theorem Kw {n:Nat}(hn:n<=5){os:List Int}(ho:dG n os=true){ts:List (List Int)}(ht:∀t∈ts,cJ n t=true):dB ts (upTo os n)=0:=by
 obtain⟨h1,_,_⟩:=dZ ho;obtain⟨_,hb⟩:=pW hn ho n;have z:ts.map (Pr (upTo os n))=ts.map fun _=>(0:Int):=akS fun t h=>by obtain⟨a,b,c,rfl,h1,h2,h3,h4,_,_⟩:=bB (ht t h);obtain⟨a,rfl⟩:∃m:Nat,a=m:=⟨a.toNat,by lia⟩;obtain⟨b,rfl⟩:∃m:Nat,b=m:=⟨b.toNat,by lia⟩;have ia:=uF (gb ho (k:=(a:Int)) (by lia) (by lia));have ib:=uF (gb ho (k:=(b:Int)) (by lia) (by lia));show(if bit (upTo os n) ((a:Int)).toNat=bit (upTo os n) ((b:Int)).toNat then 0 else c)=0;rw[ai4,ai4,hb a (by lia),hb b (by lia),aiQ (by lia),aiQ (by lia),aiP rfl]
 unfold dB;rw[z,Bt]
theorem z9 {n:Nat}(hn:n<=5){os:List Int}(ho:dG n os=true){ts:List (List Int)}(ht:∀t∈ts,cJ n t=true):Kp n os ts=way ts os.reverse:=by
 obtain⟨h1,_,_⟩:=dZ ho;have h1':os.length=n:=by lia
 unfold Kp;rw[←Bu ho ht];have e:=rQ (ts:=ts) (os:=os) (k:=os.length) (aiN _);rw[akt]at e;rw[e,h1'];unfold nD;have z:((aiY ((n:Int)-1).toNat).map (j4 os ts))=(aiY (n-1)).map fun g=>dB ts (upTo os (g+1)):=by rw[show((n:Int)-1).toNat=n-1 by lia];exact akS fun g _=>z8 hn ho ht g
 rw[z];cases n with
 |zero=>rfl
 |succ m=>rw[akQ,ajf,amW];show _=_+(dB ts (upTo os (m+1))+0);rw[Kw hn ho ht,Nat.add_sub_cancel];lia
theorem Px {n:Nat}(hn:n<=5){ts:List (List Int)}(ht:∀t∈ts,cJ n t=true):∃os,dG n os=true∧Kp n os ts=za n ts (2^n-1):=by
 have hp:=two_pos n;obtain⟨ps,d,b,m,e⟩:=GD hn (ts:=ts) (2^n-1) (2^n-1) (aiN _) (by lia);obtain⟨_,hb⟩:=qI hn d b;have ho:dG n ps.reverse=true:=by
  refine Pk ((api (GF d) (Pn n)).mpr fun x=>?_);rw[alI,pQ];constructor
  .intro h;have:=b x h;lia
  .intro h;obtain⟨q,rfl⟩:∃q:Nat,x=q:=⟨x.toNat,by lia⟩;have z:=hb q (by lia);rw[m,tH n (by lia) q (by lia)]at z;exact ai9 z.symm
 refine⟨ps.reverse,ho,?_⟩;rw[z9 hn ho ht,aoJ,e]
noncomputable def oH (n:Nat)(o:List Int):List (List Int):=((upto n).filter fun p=>!decide (p∈o)).map fun p=>o++[p]
noncomputable def cP (n:Nat):Nat->List (List Int)
 |0=>[[]]
 |k+1=>(cP n k).flatMap (oH n)
theorem Tt {n:Nat}{o os:List Int}:os∈oH n o↔∃p:Int,0<=p∧p<n∧p∉o∧os=o++[p]:=by
 unfold oH;rw[ai'];constructor
 .rintro⟨p,hp,rfl⟩;rw[aks,pQ]at hp;exact⟨p,hp.1.1,hp.1.2,by simpa using hp.2,rfl⟩
 .rintro⟨p,h1,h2,h3,rfl⟩;exact⟨p,aks.mpr ⟨pQ.mpr ⟨h1,h2⟩,by simpa using h3⟩,rfl⟩
theorem tK {n:Nat}:∀{k:Nat} {os:List Int},os∈cP n k↔os.length=k∧os.Nodup∧∀p∈os,0<=p∧p<n
 |0,os=>by
  show os∈[[]]↔_
  rw[ai5]
  constructor
  ·rintro rfl
   exact⟨rfl,alq,fun p h=>ai8 h aiX⟩
  ·intro h
   exact amK.mp h.1
 |k+1,os=>by
  show os∈(cP n k).flatMap (oH n)↔_
  rw[asT]
  constructor
  ·rintro⟨o,ho,h⟩
   obtain⟨p,h1,h2,h3,rfl⟩:=Tt.mp h
   obtain⟨a,b,c⟩:=tK.mp ho
   refine⟨by rw[aiZ,a];rfl,?_,fun x hx=>?_⟩
   ·rw[aoc]
    refine⟨b,aj'.mpr ⟨aiX,alq⟩,fun x hx y hy e=>?_⟩
    rw[ai5.mp hy]at e
    exact h3 (e▸hx)
   ·rcases ai1.mp hx with z|z
    ·exact c x z
    ·rw[ai5.mp z]
     exact⟨h1,h2⟩
  ·rintro⟨a,b,c⟩
   rcases List.eq_nil_or_concat os with rfl|⟨o,p,rfl⟩
   ·cases a
   ·rw[List.concat_eq_append]at a b c ⊢
    rw[aoc]at b
    refine⟨o,tK.mpr ⟨by rw[aiZ]at a;exact Nat.succ.inj a,b.1,fun x hx=>c x (ai1.mpr (.inl hx))⟩,Tt.mpr ⟨p,?_,?_,?_,rfl⟩⟩
    ·exact(c p (ai1.mpr (.inr (.head _)))).1
    ·exact(c p (ai1.mpr (.inr (.head _)))).2
    ·intro hp
     exact b.2.2 p hp p (.head _) rfl
theorem jd {n:Nat}(os:List Int):os∈cP n n↔dG n os=true:=by
 rw[tK];constructor
 .rintro⟨a,b,c⟩;exact Kf (by lia) (fun k hk=>by have:=c k hk;lia) b
 .intro h;obtain⟨a,b,c⟩:=dZ h;exact⟨by lia,c,fun k hk=>by have:=b k hk;lia⟩
theorem Tu {n:Nat}(o:List Int):(oH n o).length<=n:=by unfold oH;rw[aiJ];exact ajt (alA _ _) (by rw[Bs];exact aiN _)
theorem BJ {n:Nat}(hn:n<=5):∀L:List (List Int),(L.flatMap (oH n)).length<=5*L.length
 |[]=>aiN _
 |o::L=>by
  rw[ajH,aiZ,ajl]
  have:=Tu (n:=n) o
  have:=BJ hn L
  lia
theorem H7 {n:Nat}(hn:n<=5):∀k,(cP n k).length<=5^k
 |0=>aiN _
 |k+1=>by
  have:=BJ hn (cP n k)
  have:=H7 hn k
  show((cP n k).flatMap (oH n)).length<=5^k*5
  lia
def BK:Sp:=fun vs H Q _=>∃n:Nat,vs=[.int n]∧n<=5∧∀H',aC H H'->Q (.int ((2^n:Nat):Int)) H'
theorem adx {n:Nat}(h:n<=5):Ek [V.int 1,V.int 2,V.int 4,V.int 8,V.int 16,V.int 32] (n:Int)=some (.int ((2^n:Nat):Int)):=by
 have:n=0∨n=1∨n=2∨n=3∨n=4∨n=5:=by lia
 rcases this with rfl|rfl|rfl|rfl|rfl|rfl<;>rfl
def YD:Sp:=fun vs H Q _=>∃(v:V) (n:Nat) (ts:List (List Int)) (S:Nat),vs=[v,.int S]∧Dat H (rJ n ts) v∧bN n ts=true∧j0 n ts∧n<=5∧∀H',aC H H'->Q (.int (dB ts S)) H'
theorem tL {S a:Nat}:(S:Int)/((2^a:Nat):Int) %2=((S/2^a %2:Nat):Int):=by rw[←asU];rfl
theorem Tv {S a:Nat}:decide (V.int ((S/2^a %2:Nat):Int)=V.int 1)=bit S a:=by unfold bit;rw[ajD,decide_eq_true_iff,beq_iff_eq];exact⟨fun h=>by have:=V.int.inj h;lia,fun h=>by rw[h];rfl⟩
theorem YF {S a b:Nat}:(!decide (V.int ((S/2^a %2:Nat):Int)=V.int ((S/2^b %2:Nat):Int)))=!decide (bit S a=bit S b):=by
 have h1:S/2^a %2<2:=anf _ (by decide);have h2:S/2^b %2<2:=anf _ (by decide);congr 1;rw[ajD,decide_eq_true_iff,decide_eq_true_iff];unfold bit;constructor
 .intro h;have:=V.int.inj h;rw[show S/2^a %2=S/2^b %2 by lia]
 .intro h;rw[ajD,beq_iff_eq,beq_iff_eq]at h;rw[show S/2^a %2=S/2^b %2 by lia]
def YG:Sp:=fun vs H Q _=>∃n:Nat,vs=[.int n]∧n<=5∧∀v H',aC H H'->Dat H' (.list ((cP n n).map Ep)) v->Q v H'
theorem YH {H:ag4}{ns:List Int}{v:V}(h:Dat H (Ep ns) v):∃l,v=.ref l∧H l=some (.lst (ns.map .int)):=by obtain⟨l,xs,rfl,hl,d⟩:=h.eY;rw[d.ints_of]at hl;exact⟨l,rfl,hl⟩
theorem Aa (p:Int):∀o:List Int,inV (.int p) (o.map V.int)=decide (p∈o)
 |[]=>rfl
 |a::o=>by
  have e:xg (.int a) (.int p)=decide (p=a):=by
   show(a==p)=_
   by_cases c:p=a
   ·subst c;simp
   ·rw[aiO c];exact beq_eq_false_iff_ne.mpr fun z=>c z.symm
  show(xg (.int a) (.int p)||inV (.int p) (o.map V.int))=_
  rw[e,Aa p o]
  by_cases c1:p=a<;>by_cases c2:p∈o<;>simp[c1,c2]
theorem Ky {b c:Bool}{X Y:Prop}(h:b=c)(h1:c=true->X)(h2:c=false->Y):if b=true then X else Y:=by
 subst h;cases b with
 |true=>exact h1 rfl
 |false=>exact h2 rfl
end My
namespace L2
open PySem
def rK (h:aj4)(d:aiM)(es:Array amI)(ep:Nat):Prop:=∃o,h.get? d=some o∧o.ExactDict∧o.data=.dict es ep
theorem rK.ty {s:aiK}{d:aiM}{es:Array amI}{ep:Nat}(x:rK s.heap d es ep):s.TypeIs (.ref d) "dict":=let⟨o,h,e,_⟩:=x;⟨o,h,e.1⟩
theorem rK.to {h h':aj4}{d:aiM}{es:Array amI}{ep:Nat}(x:rK h d es ep)(k:∀o,h.get? d=some o->h'.get? d=some o):rK h' d es ep:=let⟨o,e,r⟩:=x;⟨o,k o e,r⟩
section
variable{prog:ajr}{w:ajI}{A:ajO}{E:aiH->aiK->Prop}{s:aiK}{d it v:aiM}{es:Array amI}{ep i:Nat}
theorem YJ {Q:aiH->aiK->Prop}(hd:(d==ak3)=false)(x:rK s.heap d es ep)(h:Q (.ref s.heap.objs.size) {s with heap:=s.heap.push {cls:=.type "dict_items",data:=.fields #[.ref d]}}):ai0 (ai7 prog w) A (call (.builtin "dict.items") [.ref d]) Q E s:=by refine aj7 aq0 x.ty F.entry_dict_items ?_ (F.args_dict_items_1 _);unfold Builtin.«dict.items» au4;refine aiD (aiD (aop x.ty (aiF ?_)));unfold aoq;show ai0 _ _ ((if(d==ak3)=true then _ else _)>>=_) _ _ s;rw[hd,aiL aiW];exact aiD (aiF (aiD (ajX (aiF ⟨_,rfl,h⟩))))
theorem H8 {Q:aiH->aiK->Prop}(hv:s.heap.IsItemsView v d)(x:rK s.heap d es ep)(hQ:Q (.ref s.heap.objs.size) {s with heap:=s.heap.push {cls:=.type "dict_itemiterator",data:=.fields #[.none,.bool false,.ref d,.int 0 0,.int es.size 0,.int ep 0,.none,.none]}}):ai0 (ai7 prog w) A (asF (.ref v)) Q E s:=by have hT:=hv.typeIs;obtain⟨ov,g1,_,g2⟩:=hv;obtain⟨o,e1,_,e2⟩:=x;refine apD hT aqp (aj7 aqp hT F.entry_dict_items_iter ?_ (F.args_dict_items_iter_1 _));unfold Builtin.«dict_items.__iter__» aup;refine aiD (aiF (aiD (aiD (anS g1 g2 (x:=.ref d) rfl (aiF (aiD ?_))))));unfold asV;refine aiD (alR e1 e2 (aiD (amX e1 e2 ?_)));simp only[show ald "dict_itemiterator"=true from by decide,if_true];refine ajX (aiF ⟨_,rfl,"dict_itemiterator",_,⟨_,ajg _ rfl,rfl⟩,ak7.lookup,?_⟩) (by simp only[sizeOk,anD,ajk,aiZ,ajl,alv,aje];lia);simpa[anw,anD]using hQ
theorem H9 {ok ov:aiH}{e:amI}{Q:Option aiH->aiK->Prop}(hit:anP s.heap it d i es.size ep ok ov)(x:rK s.heap d es ep)(hx:es[i]?=some e)(hQ:∀h',arx h' it d (i+1) es.size ep e.key e.val s.heap.objs.size->h'.get? s.heap.objs.size=some {cls:=.type "tuple",data:=.seq #[e.key,e.val]}->(∀b o,b≠it->s.heap.get? b=some o->h'.get? b=some o)->Q (some (.ref s.heap.objs.size)) {s with heap:=h'}):ai0 (ai7 prog w) A (am5 (.ref it)) Q E s:=by
 obtain⟨hp,g,dr,tk,os⟩:=s;obtain⟨od,e1,_,e2⟩:=x;have hT:apQ ⟨hp,g,dr,tk,os⟩ (.ref it) "dict_itemiterator":=⟨_,hit,rfl⟩;have hlt:i<es.size:=(akE.mp hx).1;have hei:es[i]=e:=(akE.mp hx).2;unfold am5;refine aiD (am4 (akC (name:=alN "__next__") hT ak7 (aj7 ak7 hT aow ?_ (aoj _))));refine aiD (aiF (aiD (aiD ?_)));first|refine aiD (alJ hT (aiF ?_))|refine aiD (amj hT (aiF ?_))
 refine aiD (ang hit rfl ?_);simp only[show ald "dict_itemiterator"=true from by decide,if_true];show ai0 _ _ (if(ai2 d==akr)=true then _ else _) _ _ _;rw[show(ai2 d==akr)=false from rfl,aiL aiW];refine aiD (aiF (aiD (alR e1 e2 ?_)));rw[aiL (by simp)];refine aiD (aiF (aiD (amX e1 e2 ?_)));rw[aiL (by simp)];refine aiF ?_;simp only[show¬((i:Int)<0)from by lia,if_false,ai4,apt hlt,hei];refine aiD ?_;first|refine aiD (alJ hT (aiF ?_))|refine aiD (amj hT (aiF ?_))
 refine aiD (aod hT ?_);show ai0 _ _ (setField (.ref it) 3 (anw ((i:Int)+1))>>=_) _ _ ⟨hp,g,dr,tk,os⟩;refine aiD (amQ hit (by simp) fun k1 a1 b1=>?_);replace b1:akK it hp k1:=b1;replace a1:anP k1 it d (i+1) es.size ep ok ov:=by unfold anP;rw[show((i+1:Nat):Int)=(i:Int)+1 from by lia];simpa[anw]using a1
 have hT1:apQ ⟨k1,g,dr,tk,os⟩ (.ref it) "dict_itemiterator":=⟨_,a1,rfl⟩;refine aiD (akX (aiD (aod hT1 (aiD (aod hT1 ?_)))));show ai0 _ _ (aoe (.ref it) 6 e.key e.val) _ _ ⟨k1,g,dr,tk,os⟩;unfold aoe;refine aiD (wpAny_newTuple ?_);have sz:k1.objs.size=hp.objs.size:=b1.1;have ahm:hp.objs.size≠it:=al4 (aja hit);obtain⟨k2,ek⟩:∃k2,k1.push {cls:=.type "tuple",data:=.seq #[e.key,e.val]}=k2:=⟨_,rfl⟩;have a2:anP k2 it d (i+1) es.size ep ok ov:=by rw[←ek];exact aiS _ a1
 have t2:k2.get? hp.objs.size=some {cls:=.type "tuple",data:=.seq #[e.key,e.val]}:=by rw[←ek,←sz];exact ajg _ rfl
 have o2:∀b o,b≠it->hp.get? b=some o->k2.get? b=some o:=fun b o n q=>by rw[←ek];exact aiS _ (b1.extBut b o n q)
 show ai0 _ _ (anE (.ref it)>>=_) _ _ ⟨k1.push {cls:=.type "tuple",data:=.seq #[e.key,e.val]},g,dr,tk,os⟩;rw[ek,sz];clear ek a1 b1 hT1 sz k1;unfold anE;refine aiD (aiD (anS a2 rfl (x:=.none) rfl (aiF ?_)));simp only[if_true];refine aiD (anS a2 rfl (x:=ok) rfl (aiD (anS a2 rfl (x:=ov) rfl ?_)));refine aiD (amQ a2 (by simp) fun k3 a3 b3=>?_);replace b3:akK it k2 k3:=b3;replace a3:anP k3 it d (i+1) es.size ep e.key ov:=a3;refine aiD (amQ a3 (by simp) fun k4 a4 b4=>?_);replace b4:akK it k3 k4:=b4;replace a4:anP k4 it d (i+1) es.size ep e.key e.val:=a4;refine aiD (amQ a4 (by simp) fun k5 a5 b5=>?_);replace b5:akK it k4 k5:=b5;replace a5:arx k5 it d (i+1) es.size ep e.key e.val hp.objs.size:=a5;refine aiD (amQ a5 (by simp) fun k6 a6 b6=>?_);replace b6:akK it k5 k6:=b6;replace a6:arx k6 it d (i+1) es.size ep e.key e.val hp.objs.size:=a6;have old:∀b o,b≠it->k2.get? b=some o->k6.get? b=some o:=fun b o n q=>b6.extBut b o n (b5.extBut b o n (b4.extBut b o n (b3.extBut b o n q)));exact aiD (atc (aiF (aiF ⟨_,rfl,aiF (hQ k6 a6 (old _ _ ahm t2) fun b o n q=>old b o n (o2 b o n q))⟩)))
theorem Kz {ok ov:aiH}{Q:Option aiH->aiK->Prop}(hh:A.handled=none)(hit:anP s.heap it d i es.size ep ok ov)(x:rK s.heap d es ep)(hx:es.size<=i)(hQ:∀h',atd it s.heap h'->Q none {s with heap:=h'}):ai0 (ai7 prog w) A (am5 (.ref it)) Q E s:=by
 obtain⟨od,e1,_,e2⟩:=x;have hT:s.TypeIs (.ref it) "dict_itemiterator":=⟨_,hit,rfl⟩;unfold am5;refine aiD (am4 (akC (name:=alN "__next__") hT ak7 (aj7 ak7 hT aow ?_ (aoj _))));refine aiD (aiF (aiD (aiD ?_)));first|refine aiD (alJ hT (aiF ?_))|refine aiD (amj hT (aiF ?_))
 refine aiD (ang hit rfl ?_);simp only[show ald "dict_itemiterator"=true from by decide,if_true];show ai0 _ _ (if(ai2 d==akr)=true then _ else _) _ _ s;rw[show(ai2 d==akr)=false from rfl,aiL aiW];refine aiD (aiF (aiD (alR e1 e2 ?_)));rw[aiL (by simp)];refine aiD (aiF (aiD (amX e1 e2 ?_)));rw[aiL (by simp)];refine aiF ?_;simp only[show¬((i:Int)<0)from by omega,if_false,ai4,aqq hx];refine aiD ?_;first|refine aiD (alJ hT (aiF ?_))|refine aiD (amj hT (aiF ?_))
 show ai0 _ _ (setField (.ref it) 2 .none>>=_) _ _ s;refine aiD (anh hit rfl (by simp) ?_);show ai0 _ _ (at3 (.type "StopIteration") []>>=_) _ _ _;refine aiD ?_;simp only[at3,at4];refine aiD (ajX ?_ (by size_fits));refine aiD (m:=ani _ _) (aq1 (a:=akr) (by first|rfl|(simp only[ani];rfl)) ?_);refine ajX ?_ (by size_fits);simp only[at5];refine aiD (arz ?_);rw[show A.in1.handled=none from hh];refine aiD (aiF (ate ?_));refine aiD (alD (T:="StopIteration") (b:=true) ⟨_,ajg _ rfl,rfl⟩ aq2 ?_);exact aiF (hQ _ (((akT ..).extBut.push _).push _))
end
open PyProof.Rows PySem.Spec
theorem pX {α β:Type}{F:α->β->Prop}:∀{l₁:List α} {l₂:List β},aqM F l₁ l₂->∀{i:Nat} {a:α},l₁[i]?=some a->∃b,l₂[i]?=some b∧F a b
 |_,_,.nil,i,a,h=>by simp at h
 |_,_,.cons r t,0,a,h=>by
  simp only[List.getElem?_cons_zero,Option.some.injEq]at h
  subst h
  exact⟨_,rfl,r⟩
 |_,_,.cons r t,i+1,a,h=>by
  simp only[ap7]at h ⊢
  exact pX t h
noncomputable def Itd (B:Bool)(kvs:List (bh×V))(d:aiM)(o:Obj):It:=⟨fun i H=>i<kvs.length∧H d=some (.uq o (.dT B kvs)),fun i H v H'=>∃T q k x,v=.ref T∧H T=none∧H'=upd H T (.tup [.ref q,x])∧kvs[i]?=some (k,x)∧aY B H k q,fun i H=>kvs.length<=i∧H d=some (.uq o (.dT B kvs))⟩
theorem Ab {P:ajr}{w:ajI}{H:ag4}{h:aj4}{B:Bool}{kvs:List (bh×V)}{d:aiM}{o:Obj}(ok:qw P w H h)(e:H d=some (.uq o (.dT B kvs))):∃es ep xs,o.data=.dict es ep∧rK h d es ep∧KT B H kvs xs∧es.toList=xs.map (aqf (fW P w B))∧es.size=kvs.length∧(d==ak3)=false:=by
 obtain⟨e0,z,y,xs,r,ob,es,ep,e1,h2,h3,h4,_⟩:=(show b8 P w H h d (.uq o (.dT B kvs))from ok d _ e);rw[e0]at e1;cases e1;have hl:es.size=kvs.length:=by have:=congrArg ane h4;rw[ajR,aiJ,←al8 r]at this;exact this
 exact⟨es,ep,xs,h3,⟨o,e0,h2,h3⟩,r,h4,hl,y⟩
theorem Py {P:ajr}{w:ajI}{K:aiU}{elts:List akb}{k:Nat}{pos:Pos}{B:Bool}{kvs:List (bh×V)}{o:Obj}{es:Array amI}{ep:Nat}(d it:aiM)(hne:d≠it)(ho:o.data=.dict es ep):Turn P w K (.Tuple elts k pos) (Itd B kvs d o) [it] it (fun i h=>∃ok ov,anP h it d i es.size ep ok ov) where
 mem:=by simp
 obj:=fun i h st b hb=>by
  obtain⟨ok,ov,h1⟩:=st;obtain rfl:b=it:=by simpa using hb
  exact⟨_,h1,fun v z=>by cases(show auY _=Data.cell v from z)⟩
 keep:=fun i h h' st kk=>by obtain⟨ok,ov,h1⟩:=st;exact⟨ok,ov,kk it (by simp) _ h1⟩
 item:=by
  intro X hP hw hK hc i pins s σ H E I hf st hg;subst hP hw hK;obtain⟨ok,ov,h1⟩:=st;obtain⟨hi,he⟩:=hg;obtain⟨es',ep',xs,hd',raw,rel,hes,hsz,_⟩:=Ab I.hok he;rw[ho]at hd';cases hd';obtain⟨⟨ky,x⟩,hx⟩:∃p,kvs[i]?=some p:=⟨kvs[i],by simp[hi]⟩;obtain⟨⟨k',q,u⟩,hxs,rk,pk,agK⟩:=pX rel hx;have rk':ky=k':=rk;subst rk';have hent:es[i]?=some (aqf (fW X.prog X.w B) (ky,q,u)):=by rw[←akU,hes,ai6,hxs];rfl
  refine H9 h1 raw hent fun h3 ho3 hT hk=>⟨_,rfl,?_⟩;refine wpAny_letOwnedTupleGo_items ho3 fun h4 he4 hs4=>?_;have neT:s.heap.objs.size≠it:=al4 (aja h1);have J:Inv X pins σ H {s with heap:=h4,toks:=s.toks}:=I.HQ (fp:=[it]) (fun b o hb q=>(hs4.2 b (fun z=>hb (by simp[z]))).trans (hk b o (fun z=>hb (by simp[z])) q)) hf;have fr:H s.heap.objs.size=none:=I.hok.fresh (aiN _);refine⟨.ref s.heap.objs.size,upd H s.heap.objs.size (.tup [.ref q,x]),?_,rfl,⟨_,q,ky,x,rfl,fr,rfl,hx,pk⟩,⟨_,_,he4⟩,fun b hb=>?_⟩
  .exact J.adp I (aiN _) fr (us:=[.ref q,u]) (.cons rfl (.cons agK .nil)) (by show 2<=aiV;decide) ((hs4.2 _ neT).trans hT)
  .obtain rfl:b=it:=by simpa using hb
   rw[aO (al3 neT)];exact(hf b hb).1
 done:=by intro X hP hw hK hc i pins s σ H E I hf st hg;subst hP hw hK;obtain⟨ok,ov,h1⟩:=st;obtain⟨hi,he⟩:=hg;obtain⟨es',ep',xs,hd',raw,rel,hes,hsz,_⟩:=Ab I.hok he;rw[ho]at hd';cases hd';exact Kz (I.ok.hd hc) h1 raw (by lia) fun h' eb=>⟨rfl,I.HQ (t':=s.toks) (fp:=[it]) (fun b o hb q=>eb b o (fun z=>hb (by simp[z])) q) hf⟩
 self:=fun _ _ _ _ _ st h=>by obtain⟨ok,ov,h1⟩:=st;exact PySem.W.kcp_self h1 h
section
variable{X:aif}
def VwI (v d:aiM):aj4->Prop:=fun h=>h.IsItemsView v d
theorem ady {P:ajr}{w:ajI}{H:ag4}{h:aj4}{v d:aiM}(x:h.IsItemsView v d):b8 P w H h v (.ext (VwI v d)):=⟨x,let⟨o,e,_⟩:=x;⟨o,e⟩,fun h1 h2 y k=>let⟨o,e,r⟩:=y;⟨o,k o e,r⟩⟩
theorem BL {P:ajr}{w:ajI}{H:ag4}{h:aj4}{B:Bool}{kvs:List (bh×V)}{d:aiM}(ok:qw P w H h)(e:ahi H d (.dT B kvs)):∃o es ep xs,h.get? d=some o∧o.data=.dict es ep∧rK h d es ep∧KT B H kvs xs∧es.toList=xs.map (aqf (fW P w B))∧es.size=kvs.length∧(d==ak3)=false:=by
 obtain⟨z,y,xs,r,ob,es,ep,e1,h2,h3,h4,_⟩:=(show b8 P w H h d (.dT B kvs)from J1 ok e);have hl:es.size=kvs.length:=by have:=congrArg ane h4;rw[ajR,aiJ,←al8 r]at this;exact this
 exact⟨ob,es,ep,xs,e1,h3,⟨ob,e1,h2,h3⟩,r,h4,hl,y⟩
def adz (td:TE):TI:=fun σ H R=>td σ H fun x H1=>∃d B kvs,x=.ref d∧H1 d=some (.dT B kvs)∧∀o v,H1 v=none->R (Itd B kvs d o) (upd (upd H1 v (.ext (VwI v d))) d (.uq o (.dT B kvs)))
theorem YK {elts:List akb}{k:Nat}{pos apos cpos:Pos}{e:akb}{td:TE}(he:PE X e td)(hbase:am1 e "items" X.env (alg e X.env)=alg e X.env:=by rfl)(hline:(apos.endLine==cpos.line)=true:=by rfl):PI X (.Tuple elts k pos) (.Call (.Attribute e "items" apos) [] [] cpos) (adz td):=by
 intro pins s σ H R I h;refine wpAny_Call_method0_late hbase hline (cC (he pins s σ H _ I h) fun v s0 ⟨x,H0,I0,rx,d,B,kvs,ex,e0,q⟩=>?_);subst ex;obtain⟨t1,t2⟩:=XH I0 rx (T:="dict") (.inr (.inr (.inl ⟨rfl,.inr ⟨B,kvs,e0⟩⟩)));cases rx;obtain⟨_,_,_,_,_,_,afS,_,_,_,hd0⟩:=BL I0.hok (.inl e0);refine⟨"dict","dict.items",ap2,aq0,PySem.F.type_dict_items,t1,t2,an3 rfl (PySem.evalArgs_none (YJ hd0 afS ?_))⟩;have fr:H0 s0.heap.objs.size=none:=I0.hok.fresh (aiN _);have I1:Inv X pins σ (upd H0 s0.heap.objs.size (.ext (VwI s0.heap.objs.size d))) {s0 with heap:=s0.heap.push {cls:=.type "dict_items",data:=.fields #[.ref d]}}:=I0.laid (a:=s0.heap.objs.size) (t':=s0.toks) (fun _ _ q=>aiS _ q) (aiN _) (ady ⟨_,ajg _ rfl,rfl,rfl⟩);have q1:=fun o=>q o _ fr;have e1:upd H0 s0.heap.objs.size (.ext (VwI s0.heap.objs.size d)) d=some (.dT B kvs):=by rw[aO (bV e0 fr)];exact e0
 have e2:upd H0 s0.heap.objs.size (.ext (VwI s0.heap.objs.size d)) s0.heap.objs.size=some (.ext (VwI s0.heap.objs.size d)):=aA;generalize upd H0 s0.heap.objs.size (.ext (VwI s0.heap.objs.size d))=H1 at I1 q1 e1 e2;generalize hvw:s0.heap.objs.size=vw at e2;have agm:(ai2 s0.heap.objs.size)=ai2 vw:=by rw[hvw]
 generalize hs1:({s0 with heap:=s0.heap.push {cls:=.type "dict_items",data:=.fields #[.ref d]}}:aiK)=s1 at I1 ⊢;clear hs1 fr q;obtain⟨o,es,ep,xs,g1,g2,raw,rel,hes,hsz,hd⟩:=BL I1.hok (.inl e1);obtain⟨hv,_,_⟩:=(show b8 X.prog X.w H1 s1.heap vw (.ext (VwI vw d))from I1.hok vw _ e2);refine H8 hv raw ?_;have agY:Inv X pins σ (upd H1 d (.uq o (.dT B kvs))) s1:=by
  have:=I1.write (x:=d) (e:=d) (o:=.uq o (.dT B kvs)) (h':=s1.heap) (t':=s1.toks) (by rw[e1];exact alG) (.inl rfl) (fun b u _ z=>z) ⟨o,g1⟩ ⟨g1,?_⟩
  .exact this
  .obtain⟨z,y,xs',r',ob,es',ep',j1,j2,j3,ahn,ahy⟩:=(show b8 X.prog X.w H1 s1.heap d (.dT B kvs)from I1.hok d _ e1);refine⟨z,y,xs',KT.keeps (show KT B H1 kvs xs' from r') fun c ys ec=>?_,ob,es',ep',j1,j2,j3,ahn,ahy⟩;rw[aO (R9 ec e1 (fun z=>nomatch z))];exact ec
 have agy:=agY.kept (t':=s1.toks) (h':=s1.heap.push {cls:=.type "dict_itemiterator",data:=.fields #[.none,.bool false,.ref d,.int 0 0,.int es.size 0,.int ep 0,.none,.none]}) fun b o q=>aiS _ q;refine⟨s1.heap.objs.size,[s1.heap.objs.size],_,Itd B kvs d o,_,rfl,agy,Py d _ (ajw (aja g1)) g2,⟨_,_,ajg _ rfl⟩,fun b hb=>?_,q1 o⟩;obtain rfl:b=s1.heap.objs.size:=by simpa using hb
 exact agY.Xm (aiN _) (agY.hok.fresh (aiN _))
def adA (B:Bool)(tk tv:TE):TE:=fun σ H Q=>∀p,H p=none->O4 [(tk,tv)] σ (upd H p (.dT B [])) fun ps H2=>∃x y k q,ps=[(x,y)]∧x=.ref q∧H2 p=some (.dT B [])∧aY B H2 k q∧Q (.ref p) (upd H2 p (.dT B [(k,y)]))
theorem YL {pos:Pos}{ke ve:akb}{tk tv:TE}(B:Bool)(hu:X.A.units+20<ak8)(hk:PE X ke tk)(hv:PE X ve tv):PE X (.Dict [some ke] [ve] pos) (adA B tk tv):=by
 intro pins s σ H Q I q;have hn:=I.hok.fresh (aiN s.heap.objs.size);have I1:=I.laid (a:=s.heap.objs.size) (o:=.dT B []) (h':=s.heap.push {cls:=.type "dict",data:=.dict #[]}) (t':=s.toks) (fun _ _ q=>aiS _ q) (aiN _) (J3 s.heap I.big);refine wpAny_Dict_any rfl rfl (by simp) (by simp) (cC (XN hk hv aa9 pins _ σ _ _ I1 (q _ hn)) ?_)
 .rintro ws s2 ⟨ps,H2,agY,rel,x,y,k,qa,rfl,rfl,e,pk,q2⟩;cases rel with
  |@cons _ b _ _ h0 t0=>
   cases t0;obtain⟨b1,b2⟩:=b;obtain⟨rx,ry⟩:=h0;obtain rfl:b1=ai2 qa:=rx;obtain⟨z,hd,xs,rl,dd⟩:=acF agY.hok e;cases rl;unfold storeAll;rw[akA];refine aiD (aiD (wpAny_dictSet_heap (hsz:=by simp) (knd:=fW X.prog X.w B) ?_ (xm agY.hok pk) dd fun h' dd' hs=>aiF ?_))
   .show X.A.units+8<ak8;lia
   show ai0 _ _ (storeAll s.heap.objs.size []) _ _ _;unfold storeAll;rw[amD];refine aiF ⟨.ref s.heap.objs.size,_,?_,rfl,q2⟩;obtain⟨ob,es,ep,hq,h2,h3,h4,_,h5⟩:=dd';refine Hz agY (by rw[e];exact alG) hs ⟨ob,hq⟩ ⟨by show 1<=aiV;decide,hd,_,?_,ob,es,ep,hq,h2,h3,h4,h5⟩;refine .cons ⟨rfl,pk.stay fun c ys ec=>?_,ry⟩ .nil;rw[aO (R9 ec e (fun z=>nomatch z))];exact ec
end
section
variable{X:aif}
def Pz (K:aiU):aho:=fun x y H Q=>(∃a b ys,x=.ref a∧y=.ref b∧cD K H a []∧cD K H b ys∧Q (.ref b) H)∨acE K x y H Q
theorem BP:qt X (amm .Add) (Pz X.K):=by
 intro pins s σ H x y v u Q I rx ry h;rcases h with⟨a,b,ys,rfl,rfl,ha,hb,q⟩|h
 .cases rx;cases ry;obtain⟨its,r1,p1,_⟩:=I.tuple ha;obtain⟨its2,r2,p2,_⟩:=I.tuple hb;cases r1;obtain⟨⟨cls,dd,data,sl⟩,ho,hc,n,hd⟩:=p1;obtain⟨⟨cls2,dd2,data2,sl2⟩,ho2,hc2,n2,hd2⟩:=p2;simp only at hc hd hc2 hd2;subst hc hd hc2 hd2;exact ash ⟨_,ho,rfl⟩ ⟨_,ho2,rfl⟩ ap0 art an1 anR (anC _ _) (tuple_addW0 a b _ _ n n2 dd dd2 sl sl2 rfl) ⟨ho,ho2,⟨.ref b,H,I,rfl,q⟩⟩
 .exact aa3 pins s σ H x y v u Q I rx ry h
end
end L2
namespace My
open PySem L2 PySem.Spec PyProof.Rows
noncomputable def clash (x y:Nat):Bool:=(aiY 5).any fun q=>bit x q&&bit y q
noncomputable def iJ (x y:Nat):Bool:=(aiY 5).any fun q=>bit x q&&!bit y q
noncomputable def less (a b:Nat):Nat:=(((aiY 5).filter fun q=>bit a q&&!bit b q).map fun q=>2^q).sum
noncomputable def pY (m:List Int):Nat:=m.foldl (fun s p=>s|||2^p.toNat) 0
theorem abn:∀a<32,∀b<32,less a b<32:=by decide+kernel
theorem vO:∀a<32,∀b<32,∀q<5,bit (less a b) q=(bit a q&&!bit b q):=by decide+kernel
theorem less_int:∀a<32,∀b<32,alP ((a:Nat):Int) (anW ((b:Nat):Int))=((less a b:Nat):Int):=by decide+kernel
theorem Vl:∀a<32,∀b<32,(alP ((a:Nat):Int) ((b:Nat):Int)=0↔clash a b=false):=by decide+kernel
theorem PB:∀a<32,∀b<32,(alP ((a:Nat):Int) (anW ((b:Nat):Int))=0↔iJ a b=false):=by decide+kernel
theorem aeV:∀a<32,∀p<5,a|||2^p<32:=by decide+kernel
theorem adB:∀a<32,∀p<5,∀q<5,bit (a|||2^p) q=(decide (q=p)||bit a q):=by decide+kernel
theorem or_int:∀a<32,∀p<5,ams ((a:Nat):Int) ((2^p:Nat):Int)=((a|||2^p:Nat):Int):=by decide+kernel
theorem YM:∀a<32,∀p<5,bit a p=false->a|||2^p=a+2^p:=by decide+kernel
noncomputable def left (n S:Nat):Nat:=((aiY n).filter fun q=>!bit S q).length
theorem Vm:∀n<6,∀S<2^n,∀p<n,bit S p=false->left n (S+2^p)+1=left n S:=by decide+kernel
theorem Vn:∀n<6,∀S<2^n,(left n S=0↔S=2^n-1):=by decide+kernel
theorem Vo:∀n<6,left n 0=n:=by decide+kernel
theorem Tw {m:List Int}:∀{S:Nat},S<32->(∀p∈m,0<=p∧p<5)->m.foldl (fun s p=>s|||2^p.toNat) S<32∧∀q:Nat,q<5->bit (m.foldl (fun s p=>s|||2^p.toNat) S) q=(decide ((q:Int)∈m)||bit S q):=by
 induction m with
 |nil=>intro S hS _;exact⟨hS,fun q _=>by rw[aiO (fun z=>nomatch z),alo];rfl⟩
 |cons p r ih=>
  intro S hS h;obtain⟨p0,p5⟩:=h p (.head _);have hp:p.toNat<5:=by lia
  obtain⟨a,b⟩:=ih (S:=S|||2^p.toNat) (aeV S hS _ hp) fun x hx=>h x (.tail _ hx);refine⟨a,fun q hq=>?_⟩;rw[aoQ,b q hq,adB S hS _ hp q hq];by_cases c:q=p.toNat
  .rw[aiQ c,aiQ (show(q:Int)∈p::r from ai3.mpr (.inl (by lia)))];simp
  .rw[aiO c,alo];congr 1;by_cases d:(q:Int)∈r
   .rw[aiQ d,aiQ (ai3.mpr (.inr d))]
   .rw[aiO d,aiO fun z=>(ai3.mp z).elim (fun e=>c (by lia)) d]
theorem qK {m:List Int}(h:∀p∈m,0<=p∧p<5):pY m<32:=(Tw (S:=0) (by decide) h).1
theorem vP {m:List Int}(h:∀p∈m,0<=p∧p<5){q:Nat}(hq:q<5):bit (pY m) q=decide ((q:Int)∈m):=by have:=(Tw (S:=0) (by decide) h).2 q hq;rw[jt (akR q),apP]at this;exact this
structure ah8 where
 n:Nat
 ts:List (List Int)
 kd:Str
 bd:Int
noncomputable def nb1 (p:Nat):List Int->Nat
 |[a,b,_]=>(if a.toNat=p then 2^b.toNat else 0)+(if b.toNat=p then 2^a.toNat else 0)
 |_=>0
noncomputable def nb (ts:List (List Int))(p:Nat):Nat:=(ts.map (nb1 p)).sum
noncomputable def pZ (W:ah8)(S:Nat)(m:List Int)(p:Nat):Option (List Int):=if(W.n:Int)-1<=W.bd then some []else if clash (nb W.ts p) (less S (pY m))=true then none else if((m.length+1:Nat):Int)<=W.bd then some (m++[(p:Int)])else if iJ (nb W.ts ((m++[(p:Int)]).headD 0).toNat) (S+2^p)=true then none else some ((m++[(p:Int)]).tail)
noncomputable def jh (W:ah8)(S:Nat)(m:List Int)(p:Nat):Option (List Int):=if W.kd="longest" then pZ W S m p else if W.kd="total" then(if dB W.ts (S+2^p)+m.headD 0<=W.bd then some [dB W.ts (S+2^p)+m.headD 0]else none)else if dB W.ts (S+2^p)<=W.bd then some []else none
noncomputable def stepK (W:ah8)(k:bh)(p:Nat):Option bh:=if bit k.1.toNat p=true then none else(jh W k.1.toNat k.2 p).map fun m=>(((k.1.toNat+2^p:Nat):Int),m)
noncomputable def cj (W:ah8):bh:=(0,if W.kd="total" then[0]else[])
noncomputable def gf (W:ah8)(k:bh)(j:Nat):List (Nat×bh):=(aiY j).filterMap fun p=>(stepK W k p).map fun k'=>(p,k')
noncomputable def aW (W:ah8)(k:bh):List (Nat×bh):=gf W k W.n
noncomputable def rows (W:ah8)(k:bh):Nat->List (List Int)
 |0=>[[]]
 |d+1=>(aW W k).flatMap fun x=>(rows W x.2 d).map fun r=>(x.1:Int)::r
noncomputable def runK (W:ah8)(k:bh):List Int->Option bh
 |[]=>some k
 |p::r=>(stepK W k p.toNat).bind fun k'=>runK W k' r
noncomputable def PJ (n:Nat)(o:List Int):Nat->List (List Int)
 |0=>[[]]
 |d+1=>((upto n).filter fun p=>!decide (p∈o)).flatMap fun p=>(PJ n (o++[p]) d).map fun r=>p::r
theorem GJ (n:Nat)(o:List Int)(d:Nat):PJ n o (d+1)=((upto n).filter fun p=>!decide (p∈o)).flatMap fun p=>(PJ n (o++[p]) d).map fun r=>p::r:=rfl
theorem KC {α β γ:Type}(f:β->γ)(g:α->List β):∀l:List α,(l.flatMap g).map f=l.flatMap fun x=>(g x).map f
 |[]=>rfl
 |a::r=>by rw[ajH,ajf,KC f g r,ajH]
theorem GK {α β γ:Type}(f:β->List γ)(g:α->List β):∀l:List α,(l.flatMap g).flatMap f=l.flatMap fun x=>(g x).flatMap f
 |[]=>rfl
 |a::r=>by rw[ajH,aoY,GK f g r,ajH]
theorem zb {α β:Type}(c:β->Bool)(g:α->List β):∀l:List α,(l.flatMap g).filter c=l.flatMap fun x=>(g x).filter c
 |[]=>rfl
 |a::r=>by rw[ajH,aph,zb c g r,ajH]
theorem qL {α β:Type}{f g:α->List β}:∀{l:List α},(∀x∈l,f x=g x)->l.flatMap f=l.flatMap g
 |[],_=>rfl
 |a::r,h=>by rw[ajH,ajH,h a (.head _),qL fun x hx=>h x (.tail _ hx)]
theorem rR {α β γ:Type}(f:α->β)(g:β->List γ):∀l:List α,(l.map f).flatMap g=l.flatMap fun x=>g (f x)
 |[]=>rfl
 |a::r=>by rw[ajd,ajH,rR f g r,ajH]
theorem rT {α β:Type}(c:α->Bool)(g:α->List β):∀l:List α,(l.filter c).flatMap g=l.flatMap fun x=>if c x=true then g x else[]
 |[]=>rfl
 |a::r=>by
  rw[ajH,←rT c g r,amJ]
  by_cases h:c a=true
  ·rw[aiP h,aiP h,ajH]
  ·rw[aiL h,aiL h,aqw]
theorem oJ {α β γ:Type}(f:α->Option β)(g:β->List γ):∀l:List α,(l.filterMap f).flatMap g=l.flatMap fun x=>match f x with|some y=>g y|none=>[]
 |[]=>rfl
 |a::r=>by
  rw[ajH,←oJ f g r,ajN]
  cases f a with
  |none=>rfl
  |some y=>exact ajH
theorem KD (n:Nat):∀(d j:Nat),cP n (j+d)=(cP n j).flatMap fun o=>(PJ n o d).map fun r=>o++r
 |0,j=>by
  show cP n j=(cP n j).flatMap fun o=>[o++[]]
  have:∀l:List (List Int),l.flatMap (fun o=>[o++[]])=l:=fun l=>by
   induction l with
   |nil=>rfl
   |cons a r ih=>rw[ajH,ih,alb];rfl
  exact(this _).symm
 |d+1,j=>by
  have e:j+(d+1)=(j+1)+d:=by lia
  rw[e,KD n d (j+1)]
  show((cP n j).flatMap (oH n)).flatMap _=_
  rw[GK]
  refine qL fun o _=>?_
  unfold oH
  rw[rR]
  rw[GJ,KC]
  refine qL fun p _=>?_
  rw[ajG]
  refine akS fun r _=>?_
  simp
theorem adC (n:Nat):cP n n=PJ n [] n:=by
 have:=KD n n 0;rw[akp]at this;rw[this];show[[]].flatMap _=_;rw[ajH,ap8,alb];have:∀l:List (List Int),l.map (fun r=>[]++r)=l:=fun l=>by simp
 exact this _
theorem m6 {W:ah8}{k k':bh}{p:Nat}(h:stepK W k p=some k'):bit k.1.toNat p=false∧k'.1=((k.1.toNat+2^p:Nat):Int)∧jh W k.1.toNat k.2 p=some k'.2:=by
 unfold stepK at h;by_cases c:bit k.1.toNat p=true
 .rw[aiP c]at h;cases h
 .rw[aiL c]at h;cases e:jh W k.1.toNat k.2 p with
  |none=>rw[e]at h;cases h
  |some m=>rw[e]at h;cases h;exact⟨akG.mpr c,rfl,rfl⟩
theorem GP {W:ah8}(hn:W.n<=5):∀(d:Nat) (o:List Int) (k:bh),k.1.toNat<2^W.n->(∀q:Nat,q<W.n->bit k.1.toNat q=decide ((q:Int)∈o))->rows W k d=(PJ W.n o d).filter fun r=>(runK W k r).isSome
 |0,o,k,_,_=>rfl
 |d+1,o,k,hS,hb=>by
  rw[GJ]
  unfold rows aW gf
  rw[zb,oJ,rT]
  unfold upto
  rw[rR]
  refine qL fun p hp=>?_
  have hpn:=ajs.mp hp
  have hbp:=hb p hpn
  by_cases c:(p:Int)∈o
  ·have hbt:bit k.1.toNat p=true:=by rw[hbp];exact aiQ c
   have hs:stepK W k p=none:=by unfold stepK;rw[aiP hbt]
   rw[hs,aiQ c]
   rfl
  ·have hbf:bit k.1.toNat p=false:=by rw[hbp];exact aiO c
   rw[aiO c,aiP (show(!false)=true from rfl),aoT]
   cases hs:stepK W k p with
   |none=>
    have:(PJ W.n (o++[(p:Int)]) d).filter ((fun r=>(runK W k r).isSome)∘fun r=>(p:Int)::r)=[]:=by
     rw[List.filter_eq_nil_iff]
     intro r _
     show¬(runK W k ((p:Int)::r)).isSome=true
     unfold runK
     rw[ai4,hs]
     exact aiW
    rw[this]
    rfl
   |some k'=>
    obtain⟨_,e1,_⟩:=m6 hs
    have ih:=GP hn d (o++[(p:Int)]) k' (by rw[e1,ai4];exact tG W.n (by lia) _ hS p hpn hbf) (fun q hq=>by
     rw[e1,ai4,vN _ (rP hn hS) p (by lia) q (by lia) hbf,hb q hq]
     by_cases d1:q=p
     ·rw[aiQ d1,aiQ (ai1.mpr (.inr (ai5.mpr (by lia))))]
      rfl
     ·rw[aiO d1,alo]
      by_cases d2:(q:Int)∈o
      ·rw[aiQ d2,aiQ (ai1.mpr (.inl d2))]
      ·rw[aiO d2,aiO fun z=>(ai1.mp z).elim d2 fun z=>d1 (by have:=ai5.mp z;lia)])
    show(rows W k' d).map _=_
    rw[ih]
    congr 1
    refine asp fun r _=>?_
    show(runK W k' r).isSome=(runK W k ((p:Int)::r)).isSome
    conv=>rhs;unfold runK
    rw[ai4,hs]
    rfl
theorem BR (W:ah8):(cj W).1=0:=rfl
theorem YQ {W:ah8}(hn:W.n<=5):rows W (cj W) W.n=(cP W.n W.n).filter fun os=>(runK W (cj W) os).isSome:=by rw[adC];exact GP hn W.n [] (cj W) (by rw[BR];exact akR _) fun q _=>by rw[BR,aiO (fun z=>nomatch z)];exact jt (akR q)
theorem BV {n:Int}:∀{ts:List (List Int)} {x y:Int},cY n [x,y] ts=true->∀t∈ts,∃a c d,t=[a,c,d]∧(x<a∨(x=a∧y<c))
 |[],_,_,_,t,ht=>ai8 ht aiX
 |t::r,x,y,h,s,hs=>by
  unfold cY at h
  rw[aiR,aiR]at h
  obtain⟨h1,h2,h3⟩:=h
  obtain⟨a,c,d,rfl,_⟩:=bB h1
  have hlt:x<a∨(x=a∧y<c):=by
   have z:HT.lexLe [a,c] [x,y]=false:=by simpa using h2
   rw[HT.nq]at z
   by_cases e:a=x
   ·rw[aiP e,HT.nq]at z
    by_cases e2:c=y
    ·rw[aiP e2]at z
     cases z
    ·rw[aiL e2]at z
     have:=of_decide_eq_false z
     lia
   ·rw[aiL e]at z
    have:=of_decide_eq_false z
    lia
  rcases ai3.mp hs with rfl|hs
  ·exact⟨a,c,d,rfl,hlt⟩
  ·obtain⟨a',c',d',rfl,q⟩:=BV h3 s hs
   exact⟨a',c',d',rfl,by lia⟩
def qM (ts:List (List Int))(p q:Nat):Prop:=∃c:Int,[(p:Int),(q:Int),c]∈ts∨[(q:Int),(p:Int),c]∈ts
theorem qN {n:Nat}(hn:n<=5){p:Nat}(hp:p<n):∀{ts:List (List Int)} {x y:Int},cY n [x,y] ts=true->nb ts p<2^n∧∀q,q<n->(bit (nb ts p) q=true↔qM ts p q)
 |[],_,_,_=>⟨akR n,fun q _=>by
   have:bit (nb [] p) q=false:=jt (akR q)
   rw[this]
   exact⟨fun z=>al' z,fun⟨c,z⟩=>z.elim (fun w=>ai8 w aiX) fun w=>ai8 w aiX⟩⟩
 |t::r,x,y,h=>by
  unfold cY at h
  rw[aiR,aiR]at h
  obtain⟨h1,h2,h3⟩:=h
  obtain⟨a,c,d,rfl,g1,g2,g3,g4,g5,g6⟩:=bB h1
  obtain⟨a,rfl⟩:∃m:Nat,a=m:=⟨a.toNat,by lia⟩
  obtain⟨c,rfl⟩:∃m:Nat,c=m:=⟨c.toNat,by lia⟩
  obtain⟨ih1,ih2⟩:=qN hn hp h3
  have later:=BV h3
  have adD:=iI h3
  have e:nb ([(a:Int),(c:Int),d]::r) p=nb r p+((if a=p then 2^c else 0)+(if c=p then 2^a else 0)):=by
   unfold nb
   rw[ajd,akz,auO]
   rfl
  have aeW:∀z:Int,[(a:Int),(c:Int),z]∉r:=fun z hz=>by
   obtain⟨a',c',d',ee,q⟩:=later _ hz
   simp only[alX]at ee
   lia
  have aeX:∀z:Int,[(c:Int),(a:Int),z]∉r:=fun z hz=>by
   obtain⟨a',c',d',ee,q1,q2,q3,q4,_⟩:=bB (adD _ hz)
   simp only[alX]at ee
   lia
  have YS:∀q:Nat,qM ([(a:Int),(c:Int),d]::r) p q↔((p=a∧q=c)∨(p=c∧q=a))∨qM r p q:=fun q=>by
   constructor
   ·rintro⟨z,hz|hz⟩
    ·rcases ai3.mp hz with ee|hz
     ·simp only[alX]at ee
      exact .inl (.inl ⟨by lia,by lia⟩)
     ·exact .inr ⟨z,.inl hz⟩
    ·rcases ai3.mp hz with ee|hz
     ·simp only[alX]at ee
      exact .inl (.inr ⟨by lia,by lia⟩)
     ·exact .inr ⟨z,.inr hz⟩
   ·rintro((⟨rfl,rfl⟩|⟨rfl,rfl⟩)|⟨z,hz|hz⟩)
    ·exact⟨d,.inl (.head _)⟩
    ·exact⟨d,.inr (.head _)⟩
    ·exact⟨z,.inl (.tail _ hz)⟩
    ·exact⟨z,.inr (.tail _ hz)⟩
  have put:∀b:Nat,b<n->¬qM r p b->(nb r p+2^b<2^n∧∀q,q<n->(bit (nb r p+2^b) q=true↔(q=b∨qM r p q))):=fun b hb nt=>by
   have hf:bit (nb r p) b=false:=akG.mpr fun z=>nt ((ih2 b hb).mp z)
   refine⟨tG n (by lia) _ ih1 b hb hf,fun q hq=>?_⟩
   rw[vN _ (rP hn ih1) b (by lia) q (by lia) hf,aoU,decide_eq_true_iff,ih2 q hq]
  rw[e]
  by_cases ca:a=p
  ·have cc:¬c=p:=by lia
   rw[aiP ca,aiL cc,anu]
   subst ca
   obtain⟨z1,z2⟩:=put c (by lia) (fun⟨z,hz⟩=>hz.elim (aeW z) (aeX z))
   refine⟨z1,fun q hq=>?_⟩
   rw[z2 q hq,YS q]
   constructor
   ·rintro(rfl|z)
    ·exact .inl (.inl ⟨rfl,rfl⟩)
    ·exact .inr z
   ·rintro((⟨_,rfl⟩|⟨z,_⟩)|z)
    ·exact .inl rfl
    ·lia
    ·exact .inr z
  ·by_cases cc:c=p
   ·rw[aiL ca,aiP cc,akp]
    subst cc
    obtain⟨z1,z2⟩:=put a (by lia) (fun⟨z,hz⟩=>hz.elim (aeX z) (aeW z))
    refine⟨z1,fun q hq=>?_⟩
    rw[z2 q hq,YS q]
    constructor
    ·rintro(rfl|z)
     ·exact .inl (.inr ⟨rfl,rfl⟩)
     ·exact .inr z
    ·rintro((⟨z,_⟩|⟨_,rfl⟩)|z)
     ·lia
     ·exact .inl rfl
     ·exact .inr z
   ·rw[aiL ca,aiL cc]
    refine⟨ih1,fun q hq=>?_⟩
    show bit (nb r p) q=true↔_
    rw[ih2 q hq,YS q]
    constructor
    ·exact fun z=>.inr z
    ·rintro((⟨z,_⟩|⟨z,_⟩)|z)
     ·lia
     ·lia
     ·exact z
theorem Ia {os:List Int}(hd:os.Nodup){j:Nat}{x:Int}(h:os[j]?=some x):idx os x=j:=by obtain⟨hj,rfl⟩:=ajj.mp h;exact hd.idxOf_getElem j hj
theorem YT {os:List Int}{x:Int}(h:x∈os):os[idx os x]?=some x:=by have hl:=uF h;rw[aiG hl];exact congrArg some (List.getElem_idxOf hl)
theorem Tz {os:List Int}(hd:os.Nodup){x:Int}(hx:x∈os){i c:Nat}:x∈(os.take i).drop c↔c<=idx os x∧idx os x<i:=by
 constructor
 .intro h;have h1:=(qJ hx).mp (akj h);refine⟨?_,h1⟩;obtain⟨t,ht⟩:=aqI.mp h;rw[apj]at ht;have h2:os[c+t]?=some x:=by
   rw[apk]at ht;by_cases z:c+t<i
   .rw[aiP z]at ht;exact ht
   .rw[aiL z]at ht;cases ht
  have:=Ia hd h2;lia
 .rintro⟨h1,h2⟩;refine aqI.mpr ⟨idx os x-c,?_⟩;rw[apj,show c+(idx os x-c)=idx os x by lia,apk,aiP h2];exact YT hx
theorem p6 {os:List Int}{j:Nat}{x:Int}(h:os[j]?=some x):upTo os (j+1)=upTo os j+2^x.toNat:=by unfold upTo;rw[akv,h];simp[setOf]
noncomputable def j7 (ts:List (List Int))(os:List Int)(j:Nat):Int:=((aiY j).map fun g=>dB ts (upTo os (g+1))).sum
theorem oK (ts:List (List Int))(os:List Int)(j:Nat):j7 ts os (j+1)=dB ts (upTo os (j+1))+j7 ts os j:=by unfold j7;rw[akQ,ajf,amW];simp;lia
noncomputable def GQ (W:ah8)(os:List Int)(j:Nat):List Int:=if W.kd="longest" then(if(W.n:Int)-1<=W.bd then[]else(os.take j).drop (j-W.bd.toNat))else if W.kd="total" then[j7 W.ts os j]else[]
noncomputable def oM (W:ah8)(os:List Int)(j:Nat):bh:=(((upTo os j:Nat):Int),GQ W os j)
theorem PK (W:ah8)(os:List Int):oM W os 0=cj W:=by
 unfold oM cj GQ upTo;congr 1;by_cases c:W.kd="longest"
 .have c2:¬W.kd="total":=by rw[c];decide
  rw[aiP c,aiL c2];by_cases d:(W.n:Int)-1<=W.bd
  .rw[aiP d]
  .rw[aiL d,atZ,List.drop_nil]
 .rw[aiL c];rfl
theorem YW {W:ah8}{os:List Int}(hb:0<=W.bd){j:Nat}{x:Int}(h:os[j]?=some x)(hx0:0<=x){k':bh}(hs:stepK W (oM W os j) x.toNat=some k'):k'=oM W os (j+1):=by
 obtain⟨_,e1,e2⟩:=m6 hs;have ef:(oM W os j).1.toNat=upTo os j:=ai4 _;have ex:((x.toNat:Nat):Int)=x:=al0 hx0;have hjl:j<os.length:=(ajj.mp h).1;have htk:os.take (j+1)=os.take j++[x]:=by rw[akv,h];rfl
 rw[ef,←p6 h]at e1;rw[ef]at e2;refine aqT e1 ?_;show k'.2=GQ W os (j+1);unfold jh at e2;unfold GQ;by_cases c:W.kd="longest"
 .rw[aiP c]at e2;rw[aiP c];unfold pZ at e2;by_cases d:(W.n:Int)-1<=W.bd
  .rw[aiP d]at e2;rw[aiP d];exact(ajn e2).symm
  .rw[aiL d]at e2;rw[aiL d];have em:(oM W os j).2=(os.take j).drop (j-W.bd.toNat):=by show GQ W os j=_;unfold GQ;rw[aiP c,aiL d]
   rw[em]at e2;by_cases c1:clash (nb W.ts x.toNat) (less (upTo os j) (pY ((os.take j).drop (j-W.bd.toNat))))=true
   .rw[aiP c1]at e2;cases e2
   rw[aiL c1]at e2;have hlen:((os.take j).drop (j-W.bd.toNat)).length=j-(j-W.bd.toNat):=by rw[akB,ajC];lia
   have happ:(os.take j).drop (j-W.bd.toNat)++[((x.toNat:Nat):Int)]=(os.take (j+1)).drop (j-W.bd.toNat):=by rw[ex,htk,aoK (by rw[ajC];lia)]
   by_cases c2:((((os.take j).drop (j-W.bd.toNat)).length+1:Nat):Int)<=W.bd
   .rw[aiP c2]at e2;rw[←ajn e2,happ];congr 1;rw[hlen]at c2;lia
   .rw[aiL c2,happ]at e2;by_cases c3:iJ (nb W.ts (((os.take (j+1)).drop (j-W.bd.toNat)).headD 0).toNat) (upTo os j+2^x.toNat)=true
    .rw[aiP c3]at e2;cases e2
    .rw[aiL c3]at e2;rw[←ajn e2,List.tail_drop];congr 1;rw[hlen]at c2;lia
 .rw[aiL c]at e2;rw[aiL c];by_cases d:W.kd="total"
  .rw[aiP d]at e2;rw[aiP d];have em:(oM W os j).2=[j7 W.ts os j]:=by show GQ W os j=_;unfold GQ;rw[aiL c,aiP d]
   rw[em,←p6 h]at e2;by_cases c1:dB W.ts (upTo os (j+1))+[j7 W.ts os j].headD 0<=W.bd
   .rw[aiP c1]at e2;rw[←ajn e2,oK];rfl
   .rw[aiL c1]at e2;cases e2
  .rw[aiL d]at e2;rw[aiL d];by_cases c1:dB W.ts (upTo os j+2^x.toNat)<=W.bd
   .rw[aiP c1]at e2;exact(ajn e2).symm
   .rw[aiL c1]at e2;cases e2
theorem TF {W:ah8}{os:List Int}(hb:0<=W.bd)(h0:∀x∈os,0<=x):∀(d j:Nat),j+d=os.length->((runK W (oM W os j) (os.drop j)).isSome=true↔∀i x,j<=i->os[i]?=some x->(stepK W (oM W os i) x.toNat).isSome=true)
 |0,j,e=>by
  rw[akh (by lia)]
  refine⟨fun _ i x hi hx=>?_,fun _=>rfl⟩
  have:=(ajj.mp hx).1
  lia
 |d+1,j,e=>by
  have hj:j<os.length:=by lia
  have hx:os[j]?=some os[j]:=aiG hj
  rw[akJ hj]
  unfold runK
  cases hs:stepK W (oM W os j) os[j].toNat with
  |none=>
   refine⟨fun z=>?_,fun z=>?_⟩
   ·cases z
   ·have:=z j _ (aiN _) hx
    rw[hs]at this
    cases this
  |some k'=>
   have ek:=YW hb hx (h0 _ (ajT hj)) hs
   subst ek
   show(runK W (oM W os (j+1)) (os.drop (j+1))).isSome=true↔_
   rw[TF hb h0 d (j+1) (by lia)]
   refine⟨fun z i x hi hix=>?_,fun z i x hi hix=>z i x (by lia) hix⟩
   by_cases c:i=j
   ·subst c
    rw[hx]at hix
    cases hix
    rw[hs]
    rfl
   ·exact z i x (by lia) hix
noncomputable def ju (kd:Str)(n:Int)(os:List Int)(ts:List (List Int)):Int:=if kd="longest" then Gz n os ts else if kd="most" then Ko n os ts else Kp n os ts
theorem p7 {b:Int}:∀{ns:List Int},maxOf ns<=b↔0<=b∧∀x∈ns,x<=b
 |[]=>⟨fun h=>⟨h,fun x hx=>ai8 hx aiX⟩,fun h=>h.1⟩
 |a::r=>by
  show max a (maxOf r)<=b↔_
  have ih:=p7 (b:=b) (ns:=r)
  constructor
  ·intro h
   obtain⟨h1,h2⟩:=ih.mp (by omega)
   exact⟨h1,fun x hx=>(ai3.mp hx).elim (fun e=>by omega) (h2 x)⟩
  ·rintro⟨h1,h2⟩
   have:=ih.mpr ⟨h1,fun x hx=>h2 x (.tail _ hx)⟩
   have:=h2 a (.head _)
   omega
theorem KH {n:Int}{S:Nat}{t:List Int}(h:cJ n t=true):0<=Pr S t:=by obtain⟨a,b,c,rfl,_,_,_,_,h5,_⟩:=bB h;show 0<=(if bit S a.toNat=bit S b.toNat then 0 else c);split<;>lia
theorem zc {n:Int}{S:Nat}:∀{ts:List (List Int)},(∀t∈ts,cJ n t=true)->0<=dB ts S
 |[],_=>amo _
 |t::r,h=>by
  have h1:=KH (S:=S) (h t (.head _))
  have h2:=zc (S:=S) (ts:=r) fun t' ht=>h t' (.tail _ ht)
  unfold dB at h2 ⊢
  rw[ajd,akz]
  lia
theorem xH {n:Int}{ts:List (List Int)}(h:∀t∈ts,cJ n t=true)(os:List Int)(i:Nat):∀d,j7 ts os i<=j7 ts os (i+d)
 |0=>amo _
 |d+1=>by
  have:=xH h os i d
  rw[←arA,oK]
  have:=zc (S:=upTo os (i+d+1)) h
  lia
theorem TG {W:ah8}(hn:W.n<=5){os:List Int}(ho:dG W.n os=true){i:Nat}{x:Int}(hx:os[i]?=some x):(stepK W (oM W os i) x.toNat).isSome=(jh W (upTo os i) (GQ W os i) x.toNat).isSome:=by
 obtain⟨h1,h2,h3⟩:=dZ ho;have hm:=h2 x (ajo hx);have hf:bit (upTo os i) x.toNat=false:=by rw[(pW hn ho i).2 x.toNat (by lia),al0 hm.1,Ia h3 hx];exact aiO (aky _)
 unfold stepK;have ef:(oM W os i).1.toNat=upTo os i:=ai4 _;rw[ef,hf,aiL aiW,an5];rfl
theorem KJ {α:Type}{c:Prop}[Decidable c]{a:α}:(if c then some a else none).isSome=decide c:=by
 by_cases h:c
 .rw[aiP h,aiQ h];rfl
 .rw[aiL h,aiO h];rfl
section
variable{W:ah8}{os:List Int}
theorem YX (hn:W.n<=5)(ht:∀t∈W.ts,cJ W.n t=true)(ho:dG W.n os=true)(hb:0<=W.bd)(hk:W.kd="most"):(∀i x,os[i]?=some x->(jh W (upTo os i) (GQ W os i) x.toNat).isSome=true)↔Ko W.n os W.ts<=W.bd:=by
 obtain⟨h1,h2,h3⟩:=dZ ho;have k1:¬W.kd="longest":=by rw[hk];decide
 have k2:¬W.kd="total":=by rw[hk];decide
 have st:∀i x,os[i]?=some x->((jh W (upTo os i) (GQ W os i) x.toNat).isSome=true↔dB W.ts (upTo os (i+1))<=W.bd):=fun i x hx=>by unfold jh;rw[aiL k1,aiL k2,←p6 hx,KJ,decide_eq_true_iff]
 unfold Ko;rw[p7];constructor
 .intro h;refine⟨hb,fun y hy=>?_⟩;unfold nD at hy;obtain⟨g,hg,rfl⟩:=ai'.mp hy;have hg:=ajs.mp hg;rw[z8 hn ho ht];have hgl:g<os.length:=by lia
  exact(st g _ (aiG hgl)).mp (h g _ (aiG hgl))
 .rintro⟨_,h⟩ i x hx;rw[st i x hx];have hil:=(ajj.mp hx).1;by_cases c:i+1=W.n
  .rw[c,Kw hn ho ht];exact hb
  .rw[←z8 hn ho ht];exact h _ (ai'.mpr ⟨i,ajs.mpr (by lia),rfl⟩)
theorem abo (hn:W.n<=5)(ht:∀t∈W.ts,cJ W.n t=true)(ho:dG W.n os=true)(hb:0<=W.bd)(hk:W.kd="total"):(∀i x,os[i]?=some x->(jh W (upTo os i) (GQ W os i) x.toNat).isSome=true)↔Kp W.n os W.ts<=W.bd:=by
 obtain⟨h1,h2,h3⟩:=dZ ho;have k1:¬W.kd="longest":=by rw[hk];decide
 have st:∀i x,os[i]?=some x->((jh W (upTo os i) (GQ W os i) x.toNat).isSome=true↔j7 W.ts os (i+1)<=W.bd):=fun i x hx=>by
  have em:GQ W os i=[j7 W.ts os i]:=by unfold GQ;rw[aiL k1,aiP hk]
  unfold jh;rw[aiL k1,aiP hk,←p6 hx,KJ,decide_eq_true_iff,em,oK];rfl
 have et:Kp W.n os W.ts=j7 W.ts os os.length:=by rw[z9 hn ho ht];have e:=rQ (ts:=W.ts) (os:=os) (k:=os.length) (aiN _);rw[akt]at e;exact e
 rw[et];constructor
 .intro h;cases e:os.length with
  |zero=>exact hb
  |succ m=>
   have hm:m<os.length:=by omega
   exact(st m _ (aiG hm)).mp (h m _ (aiG hm))
 .intro h i x hx;rw[st i x hx];have hil:=(ajj.mp hx).1;have:=xH ht os (i+1) (os.length-(i+1));rw[show i+1+(os.length-(i+1))=os.length by omega]at this;omega
theorem aeY {f:Nat->Bool}:(aiY 5).any f=false↔∀q<5,f q=false:=by rw[ar8];exact⟨fun h q hq=>akG.mpr (h q (ajs.mpr hq)),fun h q hq=>by rw[h q (ajs.mp hq)];exact aiW⟩
theorem YZ {n:Nat}{b:Int}(ht:∀t∈W.ts,cJ n t=true)(hb:0<=b):Gz n os W.ts<=b↔∀p q:Nat,qM W.ts p q->((idx os (p:Int):Nat):Int)<=(idx os (q:Int):Nat)+b:=by
 unfold Gz;rw[p7];have tl:∀a c:Nat,∀d:Int,uG os [(a:Int),(c:Int),d]<=b↔((idx os (a:Int):Nat):Int)<=(idx os (c:Int):Nat)+b∧((idx os (c:Int):Nat):Int)<=(idx os (a:Int):Nat)+b:=fun a c d=>by show Vg _<=b↔_;unfold Vg;split<;>lia
 constructor
 .rintro⟨_,h⟩ p q ⟨d,hz|hz⟩
  .exact((tl p q d).mp (h _ (ai'.mpr ⟨_,hz,rfl⟩))).1
  .exact((tl q p d).mp (h _ (ai'.mpr ⟨_,hz,rfl⟩))).2
 .intro h;refine⟨hb,fun y hy=>?_⟩;obtain⟨t,hmt,rfl⟩:=ai'.mp hy;obtain⟨a,c,d,rfl,g1,g2,g3,g4,_⟩:=bB (ht t hmt);obtain⟨a,rfl⟩:∃m:Nat,a=m:=⟨a.toNat,by lia⟩;obtain⟨c,rfl⟩:∃m:Nat,c=m:=⟨c.toNat,by lia⟩;exact(tl a c d).mpr ⟨h a c ⟨d,.inl hmt⟩,h c a ⟨d,.inr hmt⟩⟩
theorem Y0 (hn:W.n<=5)(hw:bN W.n W.ts=true)(ho:dG W.n os=true)(hb:0<=W.bd)(hk:W.kd="longest"):(∀i x,os[i]?=some x->(jh W (upTo os i) (GQ W os i) x.toNat).isSome=true)↔Gz W.n os W.ts<=W.bd:=by
 obtain⟨h1,h2,h3⟩:=dZ ho;have htk:cY W.n [-1,-1] W.ts=true:=by unfold bN at hw;rw[aiR]at hw;exact hw.2
 have ht:=iI htk;rw[YZ ht hb];have tin:∀{p q:Nat},qM W.ts p q->p<W.n∧q<W.n:=fun{p q} ⟨d,z⟩=>by
  rcases z with z|z
  .obtain⟨a,c,d',ee,g1,g2,g3,g4,_⟩:=bB (ht _ z);simp only[alX]at ee;omega
  .obtain⟨a,c,d',ee,g1,g2,g3,g4,_⟩:=bB (ht _ z);simp only[alX]at ee;omega
 have afT:∀{p q:Nat},qM W.ts p q->qM W.ts q p:=fun{p q} ⟨d,z⟩=>⟨d,z.symm⟩;have ilt:∀{q:Nat},q<W.n->idx os (q:Int)<os.length:=fun{q} hq=>uF (gb ho (k:=(q:Int)) (by omega) (by omega));by_cases d:(W.n:Int)-1<=W.bd
 .constructor
  .intro _ p q hpq;have:=ilt (tin hpq).1;omega
  .intro _ i x hx;unfold jh pZ;rw[aiP hk,aiP d];rfl
 have nbb:∀{p:Nat},p<W.n->∀q,q<5->(bit (nb W.ts p) q=true↔qM W.ts p q):=fun{p} hp q hq=>by
  obtain⟨z1,z2⟩:=qN hn hp htk;by_cases c:q<W.n
  .exact z2 q c
  .rw[Tj z1 (by omega)];exact⟨fun z=>al' z,fun z=>ai8 (tin z).2 c⟩
 have st:∀i x,os[i]?=some x->((jh W (upTo os i) (GQ W os i) x.toNat).isSome=true↔(∀q:Nat,qM W.ts x.toNat q->(i:Int)<=(idx os (q:Int):Nat)+W.bd)∧
  (W.bd<=i->∀y,os[i-W.bd.toNat]?=some y->∀q:Nat,qM W.ts y.toNat q->idx os (q:Int)<=i)):=fun i x hx=>by
  have hil:=(ajj.mp hx).1;have hxm:=h2 x (ajo hx);have ex:((x.toNat:Nat):Int)=x:=al0 hxm.1;have em:GQ W os i=(os.take i).drop (i-W.bd.toNat):=by unfold GQ;rw[aiP hk,aiL d]
  obtain⟨u1,u2⟩:=pW hn ho i;obtain⟨v1,v2⟩:=pW hn ho (i+1);have mw:∀p∈(os.take i).drop (i-W.bd.toNat),0<=p∧p<5:=fun p hp=>by have:=h2 p (aj1 (akj hp));omega
  have t1:clash (nb W.ts x.toNat) (less (upTo os i) (pY ((os.take i).drop (i-W.bd.toNat))))=false↔∀q:Nat,qM W.ts x.toNat q->(i:Int)<=(idx os (q:Int):Nat)+W.bd:=by
   unfold clash;rw[aeY];constructor
   .intro h q hq;obtain⟨_,hqn⟩:=tin hq;have z:=h q (by omega);rw[(nbb (by omega) q (by omega)).mpr hq,akH,vO _ (rP hn u1) _ (qK mw) q (by omega),u2 q hqn,vP mw (by omega)]at z;have hqm:=gb ho (k:=(q:Int)) (by omega) (by omega);by_cases c1:idx os (q:Int)<i
    .rw[aiQ c1,akH]at z;have z2:decide ((q:Int)∈(os.take i).drop (i-W.bd.toNat))=true:=by simpa using z
     have:=(Tz h3 hqm).mp (ai9 z2);omega
    .omega
   .intro h q hq;by_cases c:qM W.ts x.toNat q
    .obtain⟨_,hqn⟩:=tin c;have hqm:=gb ho (k:=(q:Int)) (by omega) (by omega);rw[vO _ (rP hn u1) _ (qK mw) q hq,u2 q hqn,vP mw hq];by_cases c1:idx os (q:Int)<i
     .have:=h q c;rw[aiQ (show(q:Int)∈(os.take i).drop (i-W.bd.toNat)from(Tz h3 hqm).mpr ⟨by omega,c1⟩)];simp
     .rw[aiO c1];simp
    .have:bit (nb W.ts x.toNat) q=false:=akG.mpr fun z=>c ((nbb (by omega) q hq).mp z);rw[this,akO]
  have hlen:((os.take i).drop (i-W.bd.toNat)).length=i-(i-W.bd.toNat):=by rw[akB,ajC];omega
  unfold jh pZ;rw[aiP hk,aiL d,em];by_cases c1:clash (nb W.ts x.toNat) (less (upTo os i) (pY ((os.take i).drop (i-W.bd.toNat))))=true
  .rw[aiP c1];refine⟨fun z=>?_,fun z=>?_⟩
   .cases z
   .rw[t1.mpr z.1]at c1;cases c1
  .rw[aiL c1];have c1':=t1.mp (akG.mpr c1);by_cases c2:((((os.take i).drop (i-W.bd.toNat)).length+1:Nat):Int)<=W.bd
   .rw[aiP c2];refine⟨fun _=>⟨c1',fun z=>?_⟩,fun _=>rfl⟩;rw[hlen]at c2;omega
   .rw[aiL c2];have hbi:W.bd<=i:=by rw[hlen]at c2;omega
    have afU:os.take (i+1)=os.take i++[x]:=by rw[akv,hx];rfl
    have happ:(os.take i).drop (i-W.bd.toNat)++[((x.toNat:Nat):Int)]=(os.take (i+1)).drop (i-W.bd.toNat):=by rw[ex,afU,aoK (by rw[ajC];omega)]
    have hhl:i-W.bd.toNat<os.length:=by omega
    have hhd:((os.take (i+1)).drop (i-W.bd.toNat)).headD 0=os[i-W.bd.toNat]:=by rw[List.headD_eq_head?_getD,List.head?_drop,apk,aiP (by omega),aiG hhl];rfl
    have hym:=h2 _ (ajT hhl);rw[happ,hhd,←p6 hx];have t2:iJ (nb W.ts os[i-W.bd.toNat].toNat) (upTo os (i+1))=false↔∀q:Nat,qM W.ts os[i-W.bd.toNat].toNat q->idx os (q:Int)<=i:=by
     unfold iJ;rw[aeY];constructor
     .intro h q hq;obtain⟨_,hqn⟩:=tin hq;have z:=h q (by omega);rw[(nbb (by omega) q (by omega)).mpr hq,akH,v2 q hqn]at z;have z2:decide (idx os (q:Int)<i+1)=true:=by simpa using z
      have:=ai9 z2;omega
     .intro h q hq;by_cases c:qM W.ts os[i-W.bd.toNat].toNat q
      .obtain⟨_,hqn⟩:=tin c;rw[v2 q hqn,aiQ (by have:=h q c;omega)];simp
      .have:bit (nb W.ts os[i-W.bd.toNat].toNat) q=false:=akG.mpr fun z=>c ((nbb (by omega) q hq).mp z);rw[this,akO]
    by_cases c3:iJ (nb W.ts os[i-W.bd.toNat].toNat) (upTo os (i+1))=true
    .rw[aiP c3];refine⟨fun z=>?_,fun z=>?_⟩
     .cases z
     .rw[t2.mpr (z.2 hbi _ (aiG hhl))]at c3;cases c3
    .rw[aiL c3];refine⟨fun _=>⟨c1',fun _ y hy=>?_⟩,fun _=>rfl⟩;rw[aiG hhl]at hy;cases hy;exact t2.mp (akG.mpr c3)
 constructor
 .intro h p q hpq;obtain⟨hp,hq⟩:=tin hpq;have hpm:=gb ho (k:=(p:Int)) (by omega) (by omega);have hx:=YT hpm;have:=((st _ _ hx).mp (h _ _ hx)).1 q (by rw[ai4];exact hpq);exact this
 .intro h i x hx;have hxm:=h2 x (ajo hx);refine(st i x hx).mpr ⟨fun q hq=>?_,fun hbi y hy q hq=>?_⟩
  .have:=h _ _ hq;rw[al0 hxm.1,Ia h3 hx]at this;exact this
  .have hym:=h2 y (ajo hy);have:=h _ _ (afT hq);rw[al0 hym.1,Ia h3 hy]at this;omega
end
theorem Y4 {W:ah8}(hn:W.n<=5)(hw:bN W.n W.ts=true)(hk:dN W.kd)(hb:0<=W.bd){os:List Int}(ho:dG W.n os=true):(runK W (cj W) os).isSome=decide (ju W.kd W.n os W.ts<=W.bd):=by
 obtain⟨h1,h2,h3⟩:=dZ ho;have ht:∀t∈W.ts,cJ W.n t=true:=by unfold bN at hw;rw[aiR]at hw;exact iI hw.2
 have hr:=TF (W:=W) (os:=os) hb (fun x hx=>(h2 x hx).1) os.length 0 (by lia);rw[PK,apg]at hr;rw[ajD,hr,decide_eq_true_iff];have e:(∀i x,0<=i->os[i]?=some x->(stepK W (oM W os i) x.toNat).isSome=true)↔∀i x,os[i]?=some x->(jh W (upTo os i) (GQ W os i) x.toNat).isSome=true:=by
  constructor
  .intro h i x hx;rw[←TG hn ho hx];exact h i x (ajW _) hx
  .intro h i x _ hx;rw[TG hn ho hx];exact h i x hx
 rw[e];unfold ju;rcases hk with k|k|k
 .rw[aiP k];exact Y0 hn hw ho hb k
 .rw[aiL (by rw[k];decide),aiP k];exact YX hn ht ho hb k
 .rw[aiL (by rw[k];decide),aiL (by rw[k];decide)];exact abo hn ht ho hb k
theorem Vp {W:ah8}(hn:W.n<=5)(hw:bN W.n W.ts=true)(hk:dN W.kd)(hb:0<=W.bd):rows W (cj W) W.n=(cP W.n W.n).filter fun os=>decide (ju W.kd W.n os W.ts<=W.bd):=by rw[YQ hn];exact asp fun os h=>Y4 hn hw hk hb ((jd os).mp h)
noncomputable def toV (L:List (bh×Int)):List (bh×V):=L.map fun x=>(x.1,V.int x.2)
noncomputable def nF:List (bh×Int)->bh->Int->List (bh×Int)
 |[],k,w=>[(k,w)]
 |x::r,k,w=>if x.1=k then(x.1,x.2+w)::r else x::nF r k w
noncomputable def getL:List (bh×Int)->bh->Int
 |[],_=>0
 |x::r,k=>if x.1=k then x.2 else getL r k
theorem KN (k:bh):∀L:List (bh×Int),(ud (toV L) k).getD (.int 0)=.int (getL L k)∧((ud (toV L) k=none)↔k∉L.map (·.1))
 |[]=>⟨rfl,⟨fun _=>aiX,fun _=>rfl⟩⟩
 |x::r=>by
  obtain⟨i1,i2⟩:=KN k r
  show(ud ((x.1,V.int x.2)::toV r) k).getD (.int 0)=.int (if x.1=k then x.2 else getL r k)∧_
  by_cases c:x.1=k
  ·rw[pJ (p:=(x.1,V.int x.2)) c,aiP c]
   refine⟨rfl,⟨fun z=>?_,fun z=>ai8 (ai3.mpr (.inl c.symm)) z⟩⟩
   have z':ud ((x.1,V.int x.2)::toV r) k=none:=z
   rw[pJ (p:=(x.1,V.int x.2)) c]at z'
   cases z'
  ·rw[pK (p:=(x.1,V.int x.2)) c,aiL c]
   refine⟨i1,?_⟩
   show ud ((x.1,V.int x.2)::toV r) k=none↔_
   rw[pK (p:=(x.1,V.int x.2)) c,i2,ajd,ai3]
   exact⟨fun z y=>y.elim (fun e=>c e.symm) z,fun z y=>z (.inr y)⟩
theorem GR {k:bh}{v:V}:∀{L:List (bh×Int)},k∉L.map (·.1)->(toV L).map (fun kv=>if kv.1=k then(kv.1,v)else kv)=toV L
 |[],_=>rfl
 |x::r,h=>by
  rw[ajd,ai3]at h
  show(if x.1=k then(x.1,v)else(x.1,V.int x.2))::(toV r).map _=(x.1,V.int x.2)::toV r
  rw[aiL fun z=>h (.inl z.symm),GR fun z=>h (.inr z)]
theorem TJ (k:bh)(w:Int):∀{L:List (bh×Int)},(L.map (·.1)).Nodup->putK (toV L) k (.int (getL L k+w))=toV (nF L k w)
 |[],_=>by
  show putK [] k (.int (0+w))=[(k,V.int w)]
  rw[auS]
  rfl
 |x::r,hd=>by
  rw[ajd]at hd
  obtain⟨h1,h2⟩:=aj'.mp hd
  have ih:=TJ k w h2
  by_cases c:x.1=k
  ·have a:((toV (x::r)).any fun kv=>decide (kv.1=k))=true:=by
    show(decide (x.1=k)||_)=true
    rw[aiQ c]
    rfl
   unfold putK
   rw[aiP a]
   show(if x.1=k then(x.1,V.int _)else(x.1,V.int x.2))::(toV r).map (fun kv=>if kv.1=k then(kv.1,_)else kv)=toV (if x.1=k then(x.1,x.2+w)::r else x::nF r k w)
   rw[aiP c,aiP c,GR (by rw[←c];exact h1)]
   show(x.1,V.int ((if x.1=k then x.2 else getL r k)+w))::toV r=_
   rw[aiP c]
   rfl
  ·have a:((toV (x::r)).any fun kv=>decide (kv.1=k))=((toV r).any fun kv=>decide (kv.1=k)):=by
    show(decide (x.1=k)||_)=_
    rw[aiO c,alo]
    rfl
   have eg:getL (x::r) k=getL r k:=by
    show(if x.1=k then x.2 else getL r k)=_
    rw[aiL c]
   have ea:toV (nF (x::r) k w)=(x.1,V.int x.2)::toV (nF r k w):=by
    show toV (if x.1=k then(x.1,x.2+w)::r else x::nF r k w)=_
    rw[aiL c]
    rfl
   rw[eg,ea,←ih]
   unfold putK
   rw[a]
   by_cases b:((toV r).any fun kv=>decide (kv.1=k))=true
   ·rw[aiP b,aiP b]
    show(if x.1=k then(x.1,V.int _)else(x.1,V.int x.2))::(toV r).map _=_
    rw[aiL c]
   ·rw[aiL b,aiL b]
    rfl
theorem vQ (k:bh)(w:Int):∀(L:List (bh×Int)) (y:bh),y∈(nF L k w).map (·.1)↔y=k∨y∈L.map (·.1)
 |[],y=>by
  show y∈[k]↔_
  rw[ai5]
  exact⟨.inl,fun h=>h.elim id fun z=>ai8 z aiX⟩
 |x::r,y=>by
  show y∈(if x.1=k then(x.1,x.2+w)::r else x::nF r k w).map (·.1)↔_
  by_cases c:x.1=k
  ·rw[aiP c,ajd,ajd]
   show y∈x.1::r.map (·.1)↔y=k∨y∈x.1::r.map (·.1)
   rw[ai3,c]
   exact⟨fun h=>h.elim .inl fun z=>.inr (.inr z),fun h=>h.elim .inl id⟩
  ·rw[aiL c,ajd,ajd,ai3,ai3,vQ k w r y]
   exact⟨fun h=>h.elim (fun z=>.inr (.inl z)) fun z=>z.elim .inl fun t=>.inr (.inr t),fun h=>h.elim (fun z=>.inr (.inl z)) fun z=>z.elim .inl fun t=>.inr (.inr t)⟩
theorem GX (k:bh)(w:Int):∀{L:List (bh×Int)},(L.map (·.1)).Nodup->((nF L k w).map (·.1)).Nodup
 |[],_=>aj'.mpr ⟨aiX,alq⟩
 |x::r,h=>by
  rw[ajd]at h
  obtain⟨h1,h2⟩:=aj'.mp h
  show((if x.1=k then(x.1,x.2+w)::r else x::nF r k w).map (·.1)).Nodup
  by_cases c:x.1=k
  ·rw[aiP c]
   exact aj'.mpr ⟨h1,h2⟩
  ·rw[aiL c,ajd]
   refine aj'.mpr ⟨fun z=>?_,GX k w h2⟩
   rcases(vQ k w r x.1).mp z with z|z
   ·exact c z
   ·exact h1 z
theorem TP (k:bh)(w:Int):∀L:List (bh×Int),(nF L k w).length<=L.length+1
 |[]=>aiN _
 |x::r=>by
  show(if x.1=k then(x.1,x.2+w)::r else x::nF r k w).length<=_
  by_cases c:x.1=k
  ·rw[aiP c,ajl,ajl]
   lia
  ·rw[aiL c,ajl,ajl]
   have:=TP k w r
   lia
noncomputable def cnt (W:ah8)(k:bh)(d:Nat):Int:=((rows W k d).length:Int)
noncomputable def wsum (W:ah8)(d:Nat)(L:List (bh×Int)):Int:=(L.map fun x=>x.2*cnt W x.1 d).sum
theorem KQ (W:ah8)(d:Nat)(k:bh)(w:Int):∀L:List (bh×Int),wsum W d (nF L k w)=wsum W d L+w*cnt W k d
 |[]=>by
  show w*cnt W k d+0=0+w*cnt W k d
  lia
 |x::r=>by
  have ih:=KQ W d k w r
  show wsum W d (if x.1=k then(x.1,x.2+w)::r else x::nF r k w)=wsum W d (x::r)+_
  by_cases c:x.1=k
  ·rw[aiP c]
   show(x.2+w)*cnt W x.1 d+wsum W d r=(x.2*cnt W x.1 d+wsum W d r)+w*cnt W k d
   rw[c,Int.add_mul]
   lia
  ·rw[aiL c]
   show x.2*cnt W x.1 d+wsum W d (nF r k w)=(x.2*cnt W x.1 d+wsum W d r)+_
   rw[ih]
   lia
noncomputable def cZ (L:List (bh×Int))(w:Int)(ns:List (Nat×bh)):List (bh×Int):=ns.foldl (fun acc x=>nF acc x.2 w) L
theorem KR (L:List (bh×Int))(w:Int)(ns:List (Nat×bh))(x:Nat×bh):cZ L w (ns++[x])=nF (cZ L w ns) x.2 w:=by unfold cZ;rw[apE];rfl
noncomputable def bD (W:ah8)(acc L:List (bh×Int)):List (bh×Int):=L.foldl (fun acc x=>cZ acc x.2 (aW W x.1)) acc
theorem KY (W:ah8)(acc L:List (bh×Int))(x:bh×Int):bD W acc (L++[x])=cZ (bD W acc L) x.2 (aW W x.1):=by unfold bD;rw[apE];rfl
theorem KZ (W:ah8)(d:Nat)(w:Int):∀(ns:List (Nat×bh)) (L:List (bh×Int)),wsum W d (cZ L w ns)=wsum W d L+w*(ns.map fun x=>cnt W x.2 d).sum
 |[],L=>by
  show wsum W d L=wsum W d L+w*0
  lia
 |x::r,L=>by
  show wsum W d (cZ (nF L x.2 w) w r)=_
  rw[KZ W d w r,KQ,ajd,akz,Int.mul_add]
  lia
theorem K1 {α β:Type}(g:α->List β):∀l:List α,((l.flatMap g).length:Int)=(l.map fun x=>((g x).length:Int)).sum
 |[]=>rfl
 |a::r=>by
  rw[ajH,aiZ,ajd,akz,←K1 g r]
  lia
theorem Y5 (W:ah8)(k:bh)(d:Nat):cnt W k (d+1)=((aW W k).map fun x=>cnt W x.2 d).sum:=by unfold cnt;show(((aW W k).flatMap fun x=>(rows W x.2 d).map fun r=>(x.1:Int)::r).length:Int)=_;rw[K1];congr 1;exact akS fun x _=>by rw[aiJ]
theorem zf (W:ah8)(d:Nat):∀(L acc:List (bh×Int)),wsum W d (bD W acc L)=wsum W d acc+wsum W (d+1) L
 |[],acc=>by
  show wsum W d acc=wsum W d acc+0
  lia
 |x::r,acc=>by
  show wsum W d (bD W (cZ acc x.2 (aW W x.1)) r)=wsum W d acc+(x.2*cnt W x.1 (d+1)+wsum W (d+1) r)
  rw[zf W d r,KZ,Y5]
  lia
noncomputable def bu (W:ah8):Nat->List (bh×Int)
 |0=>[(cj W,1)]
 |j+1=>bD W [] (bu W j)
theorem GZ (W:ah8):∀(j d:Nat),wsum W d (bu W j)=cnt W (cj W) (j+d)
 |0,d=>by
  show 1*cnt W (cj W) d+0=cnt W (cj W) (0+d)
  rw[akp]
  lia
 |j+1,d=>by
  show wsum W d (bD W [] (bu W j))=_
  rw[zf,GZ W j (d+1)]
  show 0+_=_
  rw[show j+(d+1)=j+1+d by lia]
  lia
structure Er (W:ah8)(d:Nat)(k:bh):Prop where
 s0:0<=k.1
 lt:k.1.toNat<2^W.n
 lf:left W.n k.1.toNat=d
 tot:W.kd="total"->∃m,k.2=[m]
 oth:W.kd≠"total"->(∀p∈k.2,0<=p∧p<(W.n:Int))∧k.2.length<=20
theorem adE {W:ah8}(hn:W.n<=5):Er W W.n (cj W) where
 s0:=amo _;lt:=akR _;lf:=Vo _ (by lia);tot:=fun h=>⟨0,by unfold cj;rw[aiP h]⟩;oth:=fun h=>by unfold cj;rw[aiL h];exact⟨fun p hp=>ai8 hp aiX,ajW _⟩
theorem Er.step {W:ah8}(hn:W.n<=5){d p:Nat}{k k':bh}(h:Er W d k)(hp:p<W.n)(hs:stepK W k p=some k'):∃e,d=e+1∧Er W e k':=by
 obtain⟨hf,e1,e2⟩:=m6 hs;have hl:=Vm W.n (by lia) _ h.lt p hp hf;have en:k'.1.toNat=k.1.toNat+2^p:=by rw[e1,ai4]
 refine⟨left W.n (k.1.toNat+2^p),by rw[hl,h.lf],by rw[e1];exact anM _,by rw[en];exact tG _ (by lia) _ h.lt p hp hf,by rw[en],fun c=>?_,fun c=>?_⟩
 .unfold jh at e2;rw[aiL (by rw[c];decide),aiP c]at e2;split at e2
  .exact⟨_,(ajn e2).symm⟩
  .cases e2
 .unfold jh at e2;obtain⟨o1,o2⟩:=h.oth c;by_cases c1:W.kd="longest"
  .rw[aiP c1]at e2;unfold pZ at e2;have app:∀x∈k.2++[((p:Nat):Int)],0<=x∧x<(W.n:Int):=fun x hx=>by
    rcases ai1.mp hx with z|z
    .exact o1 x z
    .rw[ai5.mp z];lia
   split at e2
   .rw[←ajn e2];exact⟨fun p hp=>ai8 hp aiX,ajW _⟩
   .rename_i hd;split at e2
    .cases e2
    .split at e2
     .rename_i hlen;rw[←ajn e2];refine⟨app,?_⟩;rw[aiZ,aom];lia
     .split at e2
      .cases e2
      .rw[←ajn e2];refine⟨fun x hx=>app x (List.mem_of_mem_tail hx),?_⟩;rw[asW,aiZ,aom];lia
  .rw[aiL c1,aiL c]at e2;split at e2
   .rw[←ajn e2];exact⟨fun p hp=>ai8 hp aiX,ajW _⟩
   .cases e2
theorem m7 {W:ah8}{k:bh}{j:Nat}{x:Nat×bh}(h:x∈gf W k j):x.1<j∧stepK W k x.1=some x.2:=by
 unfold gf at h;obtain⟨p,hp,e⟩:=ama.mp h;have hp:=ajs.mp hp;cases hs:stepK W k p with
 |none=>rw[hs]at e;cases e
 |some k'=>rw[hs]at e;cases e;exact⟨hp,hs⟩
theorem uJ (W:ah8)(k:bh)(j:Nat):gf W k (j+1)=gf W k j++(match stepK W k j with|some k'=>[(j,k')]|none=>[]):=by unfold gf;rw[akQ,List.filterMap_append];congr 1;rw[ajN];cases stepK W k j<;>rfl
theorem xJ (W:ah8)(k:bh)(j:Nat):(gf W k j).length<=j:=by unfold gf;exact ajt (List.length_filterMap_le _ _) (by rw[ajZ];exact aiN _)
structure G3 (W:ah8)(d:Nat)(L:List (bh×Int)):Prop where
 nd:(L.map (·.1)).Nodup
 ok:∀k∈L.map (·.1),Er W d k
theorem G3.add {W:ah8}{d:Nat}{L:List (bh×Int)}(h:G3 W d L){k:bh}(hk:Er W d k)(w:Int):G3 W d (nF L k w):=
 ⟨GX k w h.nd,fun y hy=>by
  rcases(vQ k w L y).mp hy with z|z
  .rw[z];exact hk
  .exact h.ok y z⟩
theorem G3.all {W:ah8}{d:Nat}(w:Int):∀{ns:List (Nat×bh)} {L:List (bh×Int)},G3 W d L->(∀x∈ns,Er W d x.2)->G3 W d (cZ L w ns)
 |[],_,h,_=>h
 |x::r,L,h,hn=>by
  show G3 W d (cZ (nF L x.2 w) w r)
  exact G3.all w (h.add (hn x (.head _)) w) fun y hy=>hn y (.tail _ hy)
theorem Ac (w:Int):∀(ns:List (Nat×bh)) (L:List (bh×Int)),(cZ L w ns).length<=L.length+ns.length
 |[],_=>aiN _
 |x::r,L=>by
  have h1:=Ac w r (nF L x.2 w)
  have h2:=TP x.2 w L
  show(cZ (nF L x.2 w) w r).length<=_
  rw[ajl]
  lia
theorem G3.behind {W:ah8}(hn:W.n<=5){d:Nat}:∀{L acc:List (bh×Int)},G3 W d acc->(∀k∈L.map (·.1),Er W (d+1) k)->G3 W d (bD W acc L)∧(bD W acc L).length<=acc.length+5*L.length
 |[],acc,h,_=>⟨h,aiN _⟩
 |x::r,acc,h,hk=>by
  have hx:=hk x.1 (.head _)
  have h1:G3 W d (cZ acc x.2 (aW W x.1)):=h.all _ fun y hy=>by
   obtain⟨z1,z2⟩:=m7 hy
   obtain⟨e,e1,e2⟩:=hx.step hn z1 z2
   have:d=e:=by lia
   subst this
   exact e2
  obtain⟨a,b⟩:=G3.behind hn h1 fun y hy=>hk y (.tail _ hy)
  refine⟨a,?_⟩
  have l1:=Ac x.2 (aW W x.1) acc
  have l2:=xJ W x.1 W.n
  unfold aW at l1
  show(bD W (cZ acc x.2 (aW W x.1)) r).length<=_
  rw[ajl]
  unfold aW at b ⊢
  lia
theorem vR {W:ah8}(hn:W.n<=5):∀(j:Nat),j<=W.n->G3 W (W.n-j) (bu W j)∧(bu W j).length<=5^j
 |0,_=>⟨⟨aj'.mpr ⟨aiX,alq⟩,fun k hk=>by rw[ai5.mp hk];exact adE hn⟩,aiN _⟩
 |j+1,h=>by
  obtain⟨a,b⟩:=vR hn j (by lia)
  have e:W.n-j=(W.n-(j+1))+1:=by lia
  rw[e]at a
  obtain⟨c,d⟩:=G3.behind hn (d:=W.n-(j+1)) (L:=bu W j) (acc:=[]) ⟨alq,fun k hk=>ai8 hk aiX⟩ a.ok
  refine⟨c,ajt d ?_⟩
  show 0+5*(bu W j).length<=5^j*5
  lia
variable{A:ahz}
noncomputable def nG (W:ah8)(ol tl:aiM):List (Str×V):=cM "tied" (.ref tl) (cM "out" (.ref ol) (cM "bound" (.int W.bd) (cM "kind" (.str W.kd) (cM "every" (.int (((2^W.n:Nat):Int)-1)) (cM "places" (.int W.n) [])))))
section
variable(W:ah8)(ol tl:aiM)
theorem oN:(nG W ol tl).lookup ("places":Str)=some (.int W.n):=by unfold nG;rw[aN,aiL (by decide+kernel),aN,aiL (by decide+kernel),aN,aiL (by decide+kernel),aN,aiL (by decide+kernel),aN,aiL (by decide+kernel),aN,aiP rfl]
theorem PL:(nG W ol tl).lookup ("every":Str)=some (.int (((2^W.n:Nat):Int)-1)):=by unfold nG;rw[aN,aiL (by decide+kernel),aN,aiL (by decide+kernel),aN,aiL (by decide+kernel),aN,aiL (by decide+kernel),aN,aiP rfl]
theorem j8:(nG W ol tl).lookup ("kind":Str)=some (.str W.kd):=by unfold nG;rw[aN,aiL (by decide+kernel),aN,aiL (by decide+kernel),aN,aiL (by decide+kernel),aN,aiP rfl]
theorem qO:(nG W ol tl).lookup ("bound":Str)=some (.int W.bd):=by unfold nG;rw[aN,aiL (by decide+kernel),aN,aiL (by decide+kernel),aN,aiP rfl]
theorem Y6:(nG W ol tl).lookup ("out":Str)=some (.ref ol):=by unfold nG;rw[aN,aiL (by decide+kernel),aN,aiP rfl]
theorem G4:(nG W ol tl).lookup ("tied":Str)=some (.ref tl):=by unfold nG;rw[aN,aiP rfl]
theorem oO {m:Str}(h1:¬m="tied")(h2:¬m="out")(h3:¬m="bound")(h4:¬m="kind")(h5:¬m="every")(h6:¬m="places"):(nG W ol tl).lookup m=none:=by unfold nG;rw[aN,aiL h1,aN,aiL h2,aN,aiL h3,aN,aiL h4,aN,aiL h5,aN,aiL h6];rfl
end
noncomputable def outs (W:ah8):List Int:=(aiY (2^W.n)).map (dB W.ts)
noncomputable def nbs (W:ah8):List Int:=(aiY W.n).map fun p=>((nb W.ts p:Nat):Int)
def WalkAt (C:aiM)(H:ag4)(x:aiM)(W:ah8):Prop:=∃dx ol tl,H x=some (.ins C dx (nG W ol tl))∧H ol=some (.lst ((outs W).map .int))∧H tl=some (.lst ((nbs W).map .int))
theorem WalkAt.mono {C:aiM}{H H':ag4}{x:aiM}{W:ah8}(h:WalkAt C H x W)(e:aC H H'):WalkAt C H' x W:=by obtain⟨dx,ol,tl,h1,h2,h3⟩:=h;exact⟨dx,ol,tl,e _ _ h1,e _ _ h2,e _ _ h3⟩
structure BW (W:ah8):Prop where
 n5:W.n<=5
 JG:bN W.n W.ts=true
 kd:dN W.kd
 b0:0<=W.bd
noncomputable def flag (W:ah8):Bool:=decide (W.kd="total")
theorem uK {W:ah8}(h:W.kd="total"):flag W=true:=aiQ h
theorem xK {W:ah8}(h:¬W.kd="total"):flag W=false:=aiO h
theorem aY.mono {B:Bool}{H H':ag4}{k:bh}{q:aiM}(x:aY B H k q)(e:aC H H'):aY B H' k q:=x.stay fun b xs h=>e b _ h
def MV (B:Bool)(H:ag4)(m:List Int)(v:V):Prop:=if B=true then∃z:Int,m=[z]∧v=.int z else∃c,v=.ref c∧H c=some (.tup (m.map .int))
theorem MV.key {B:Bool}{H:ag4}{m:List Int}{v:V}{i:Int}{q:aiM}(h:MV B H m v)(hq:H q=some (.tup [.int i,v])):aY B H (i,m) q:=by
 cases B with
 |true=>obtain⟨z,rfl,rfl⟩:∃z:Int,m=[z]∧v=.int z:=h;exact⟨z,rfl,hq⟩
 |false=>obtain⟨c,rfl,hc⟩:∃c,v=.ref c∧H c=some (.tup (m.map .int)):=h;exact⟨c,hq,hc⟩
theorem MV.mono {B:Bool}{H H':ag4}{m:List Int}{v:V}(h:MV B H m v)(e:aC H H'):MV B H' m v:=by
 cases B with
 |true=>exact h
 |false=>obtain⟨c,rfl,hc⟩:∃c,v=.ref c∧H c=some (.tup (m.map .int)):=h;exact⟨c,rfl,e _ _ hc⟩
theorem aY.val {B:Bool}{H:ag4}{k:bh}{q:aiM}(h:aY B H k q):∃v,H q=some (.tup [.int k.1,v])∧MV B H k.2 v:=by
 cases B with
 |true=>obtain⟨m,e,hq⟩:∃m:Int,k.2=[m]∧H q=some (.tup [.int k.1,.int m]):=h;exact⟨_,hq,m,e,rfl⟩
 |false=>obtain⟨c,hq,hc⟩:∃c,H q=some (.tup [.int k.1,.ref c])∧H c=some (.tup (k.2.map V.int)):=h;exact⟨_,hq,c,rfl,hc⟩
def tM (B:Bool)(H:ag4)(ns:List (Nat×bh))(xs:List V):Prop:=aqM (fun(y:Nat×bh) v=>∃t q,v=.ref t∧H t=some (.tup [.int (y.1:Nat),.ref q])∧aY B H y.2 q) ns xs
theorem tM.mono {B:Bool}{H H':ag4}{ns:List (Nat×bh)}{xs:List V}(h:tM B H ns xs)(e:∀b ys,H b=some (.tup ys)->H' b=some (.tup ys)):tM B H' ns xs:=Paired.aaR h fun y v ⟨t,q,a,b,c⟩=>⟨t,q,a,e _ _ b,c.stay e⟩
def TQ:Sp:=fun vs H Q _=>∃(t:aiM) (m:List Int),vs=[.ref t]∧H t=some (.tup (m.map .int))∧(∀p∈m,0<=p∧p<5)∧m.length<=100∧∀H',aC H H'->Q (.int ((pY m:Nat):Int)) H'
def TV:Sp:=fun vs H Q _=>∃(v:V) (n:Nat) (ts:List (List Int)),vs=[v]∧Dat H (rJ n ts) v∧bN n ts=true∧j0 n ts∧n<=5∧∀l H',H l=none->aC H H'->H' l=some (.lst (((aiY n).map fun p=>((nb ts p:Nat):Int)).map .int))->Q (.ref l) H'
def Ad (C:aiM):Sp:=fun vs H Q _=>∃(x dx:aiM) (v:V) (W:ah8),vs=[.ref x,v,.str W.kd,.int W.bd]∧H x=some (.ins C dx [])∧Dat H (rJ W.n W.ts) v∧bN W.n W.ts=true∧j0 W.n W.ts∧W.n<=5∧∀H',aC (mask x H) H'->WalkAt C H' x W->Q .non H'
def Ib (C:aiM):Sp:=fun vs H Q _=>∃(x:aiM) (W:ah8),vs=[.ref x]∧WalkAt C H x W∧∀q H',aC H H'->aY (flag W) H' (cj W) q->Q (.ref q) H'
def Y7 (C:aiM):Sp:=fun vs H Q _=>∃(x q:aiM) (W:ah8) (k:bh) (d p:Nat),vs=[.ref x,.ref q,.int p]∧WalkAt C H x W∧BW W∧W.kd="longest"∧aY (flag W) H k q∧Er W d k∧p<W.n∧bit k.1.toNat p=false∧(pZ W k.1.toNat k.2 p=none->∀H',aC H H'->Q .non H')∧∀m,pZ W k.1.toNat k.2 p=some m->∀v H',aC H H'->MV (flag W) H' m v->Q v H'
def acL (C:aiM):Sp:=fun vs H Q _=>∃(x q:aiM) (W:ah8) (k:bh) (d p:Nat),vs=[.ref x,.ref q,.int p]∧WalkAt C H x W∧BW W∧aY (flag W) H k q∧Er W d k∧p<W.n∧bit k.1.toNat p=false∧(jh W k.1.toNat k.2 p=none->∀H',aC H H'->Q .non H')∧∀m,jh W k.1.toNat k.2 p=some m->∀v H',aC H H'->MV (flag W) H' m v->Q v H'
def Ie (C:aiM):Sp:=fun vs H Q _=>∃(x q:aiM) (W:ah8) (k:bh) (d:Nat),vs=[.ref x,.ref q]∧WalkAt C H x W∧BW W∧aY (flag W) H k q∧Er W d k∧∀l xs H',H l=none->aC H H'->H' l=some (.lst xs)->tM (flag W) H' (aW W k) xs->Q (.ref l) H'
structure Ask (A:ahz)(H:ag4)(v:V)(n:Int)(ts:List (List Int))(kd:Str)(bd:Int)(E:agL):Prop where
 dat:Dat H (rJ n ts) v
 win:j0 n ts
 n5:bN n ts=true->n<=5
 k1:kd.length<=1000
 k2:∀c∈kd.cps.toList,c<16^8
 ew:bN n ts=false->∀H',aC H H'->E (.ref A.dj) none H'
 ek:bN n ts=true->¬(dN kd∧0<=bd∧bd<=1000000)->∀H',aC H H'->E (.ref A.cF) none H'
def Ig (A:ahz):Sp:=fun vs H Q E=>∃(v:V) (n:Int) (ts:List (List Int)) (kd:Str) (bd:Int),vs=[v,.str kd,.int bd]∧Ask A H v n ts kd bd E∧(bN n ts=true->dN kd->0<=bd->bd<=1000000->∀H',aC H H'->Q .non H')
noncomputable def rG (n:Nat)(ts:List (List Int))(kd:Str)(bd:Int):List (List Int):=(cP n n).filter fun os=>decide (ju kd n os ts<=bd)
end My
namespace My
open PySem L2 PySem.Spec PyProof.Rows
theorem aeZ {W:ah8}{p:Nat}(h:p<W.n):Ek ((nbs W).map V.int) (p:Int)=some (.int ((nb W.ts p:Nat):Int)):=by refine qD ?_;unfold nbs;rw[ai6,ai6,al1 h];rfl
theorem acM {W:ah8}(h:BW W){p:Nat}(hp:p<W.n):nb W.ts p<32:=by have hw:=h.JG;unfold bN at hw;rw[aiR]at hw;exact rP h.n5 (qN h.n5 hp hw.2).1
theorem acN {a:Int}{b:Bool}{X Y:Prop}(h:a=0↔b=false)(h1:b=true->X)(h2:b=false->Y):if(!decide (V.int a=V.int 0))=true then X else Y:=by
 by_cases c:a=0
 .rw[aiQ (congrArg V.int c)];exact cN (h2 (h.mp c))
 .rw[aiO fun z=>c (V.int.inj z)];refine dY (h1 ?_);cases b with
  |true=>rfl
  |false=>exact ai8 (h.mpr rfl) c
theorem nH {p:Prop}[Decidable p]{X Y:Prop}(h1:p->X)(h2:¬p->Y):if decide p=true then X else Y:=by
 by_cases c:p
 .rw[aiQ c];exact dY (h1 c)
 .rw[aiO c];exact cN (h2 c)
theorem Ih {K:aiU}{H:ag4}{a b:aiM}{xs ys:List V}{Q:ahY}(ha:cD K H a xs)(hb:H b=some (.tup ys))(hne:ys≠[])(hz:xs.length+ys.length<=aiV)(h:∀la H2,aC H H2->H2 la=some (.tup (xs++ys))->Q (.ref la) H2):Pz K (.ref a) (.ref b) H Q:=by
 by_cases c:xs=[]
 .subst c;exact .inl ⟨a,b,ys,rfl,rfl,ha,cD.of hb,h b H (aC.refl _) hb⟩
 .refine .inr ⟨a,b,xs,ys,rfl,rfl,ha,cD.of hb,c,hz,fun z=>ai8 z hne,fun _ p hp=>?_⟩;obtain⟨s1,n1⟩:=au (o:=.tup (xs++ys)) hp;exact h p _ s1 n1
theorem ae0 {W:ah8}{S:Nat}(h:S<2^W.n):Ek ((outs W).map V.int) (S:Int)=some (.int (dB W.ts S)):=by refine qD ?_;unfold outs;rw[ai6,ai6,al1 h];rfl
theorem Y8 {S p:Nat}{i:Int}(e:i=S)(hS:S<32)(hp:p<5)(hb:bit S p=false):ams i (1*2^((p:Int)).toNat)=((S+2^p:Nat):Int):=by
 have e1:(1:Int)*2^((p:Int)).toNat=((2^p:Nat):Int):=by rw[apF,ai4];exact_mod_cast rfl
 rw[e1,e,or_int S hS p hp,YM S hS p hp hb]
theorem abp {v:V}{X Y:Prop}(h:v≠.non)(hx:X):if(!decide (v=V.non))=true then X else Y:=by rw[aiO h];exact dY hx
theorem abq {X Y:Prop}(hy:Y):if(!decide (V.non=V.non))=true then X else Y:=by rw[aiQ rfl];exact cN hy
theorem Y9 (L:List (bh×Int)){i:Nat}{k:bh}{x:V}(h:(toV L)[i]?=some (k,x)):∃c,x=.int c∧L[i]?=some (k,c):=by unfold toV at h;rw[ai6]at h;obtain⟨⟨k',c⟩,h1,h2⟩:=alr.mp h;cases h2;exact⟨c,rfl,h1⟩
theorem gK {D:aiM}{H H':ag4}(e:aC (mask D H) H'){b:aiM}{u:HO}(h:H b=some u)(ne:b≠D):H' b=some u:=e b u ((mO ne).trans h)
theorem Za {k:bh}{v:V}{kvs:List (bh×V)}{y:bh}(h:y∈(putK kvs k v).map (·.1)):y=k∨y∈kvs.map (·.1):=by
 unfold putK at h;split at h
 .rw[ajG]at h;obtain⟨p,hp,e⟩:=ai'.mp h;have e':(if p.1=k then(p.1,v)else p).1=y:=e;right;refine ai'.mpr ⟨p,hp,?_⟩;split at e'
  .exact e'
  .exact e'
 .rw[ajf,ai1]at h;rcases h with h|h
  .exact .inr h
  .exact .inl (ai5.mp h)
theorem G5 {C x dx:aiM}{ahD:ag4}{v:V}{W:ah8}{Z:ag4->Prop}{E:agL}(dat:Dat ahD (rJ W.n W.ts) v)(hw:bN W.n W.ts=true)(win:j0 W.n W.ts)(n5:W.n<=5)(nx:ahD x=none)(ndx:ahD dx=none)(h:∀H2,aC ahD H2->WalkAt C H2 x W->Z H2):Ad C [.ref x,v,.str W.kd,.int W.bd] (upd (upd ahD dx (.own x)) x (.ins C dx [])) (fun u H2=>u=.non∧Z H2) E:=by
 have s0:aC ahD (upd (upd ahD dx (.own x)) x (.ins C dx [])):=fun b o e=>by rw[aO (bV e nx),aO (bV e ndx)];exact e
 exact⟨x,dx,v,W,rfl,aA,dat.mono s0,hw,win,n5,fun H2 e2 hW=>⟨rfl,h H2 (fun b u z=>gK e2 (s0 _ _ z) (bV z nx)) hW⟩⟩
theorem xM {W:ah8}(ahf:BW W):rows W (cj W) W.n=rG W.n W.ts W.kd W.bd:=Vp ahf.n5 ahf.JG ahf.kd ahf.b0
theorem PN {n:Nat}(hn:n<=5){os:List Int}(ho:dG n os=true){ts:List (List Int)}(ht:∀t∈ts,cJ n t=true):0<=Kp n os ts:=by rw[z9 hn ho ht];have e:=rQ (ts:=ts) (os:=os) (k:=os.length) (aiN _);rw[akt]at e;rw[e];have:=xH ht os 0 os.length;rw[akp]at this;exact this
theorem rU {n:Int}{ts:List (List Int)}(hw:bN n ts=true):∀t∈ts,cJ n t=true:=by unfold bN at hw;rw[aiR]at hw;exact iI hw.2
theorem K3 {kd:Str}{n:Nat}(hn:n<=5){os:List Int}(ho:dG n os=true){ts:List (List Int)}(ht:∀t∈ts,cJ n t=true):0<=ju kd n os ts:=by
 unfold ju;split
 .exact(p7.mp (amo (Gz n os ts))).1
 .split
  .exact(p7.mp (amo (Ko n os ts))).1
  .exact PN hn ho ht
theorem K4 {n:Nat}{ts:List (List Int)}{kd:Str}{b:Int}{os:List Int}:os∈rG n ts kd b↔dG n os=true∧ju kd n os ts<=b:=by unfold rG;rw[aks,jd,decide_eq_true_iff]
theorem TX {n:Int}{S:Nat}:∀{ts:List (List Int)},(∀t∈ts,cJ n t=true)->dB ts S<=100*(ts.length:Int)
 |[],_=>amo _
 |t::r,h=>by
  obtain⟨a,b,c,rfl,_,_,_,_,h5,h6⟩:=bB (h t (.head _))
  have h2:=TX (S:=S) (ts:=r) fun t' ht=>h t' (.tail _ ht)
  have h1:Pr S [a,b,c]<=100:=by
   show(if bit S a.toNat=bit S b.toNat then 0 else c)<=100
   split<;>lia
  unfold dB at h2 ⊢
  rw[ajd,akz,ajl]
  lia
theorem abr {kd:Str}{n:Nat}(hn:n<=5){os:List Int}(ho:dG n os=true){ts:List (List Int)}(ht:∀t∈ts,cJ n t=true)(hl:ts.length<=64):ju kd n os ts<=100000:=by
 have agu:∀S,dB ts S<=6400:=fun S=>by have:=TX (S:=S) ht;lia
 obtain⟨h1,_,_⟩:=dZ ho;unfold ju;split
 .refine(YZ (W:=⟨n,ts,"",0⟩) ht (by decide)).mpr fun p q ⟨d,hz⟩=>?_;have hp:p<n:=by
   rcases hz with z|z
   .obtain⟨a,c,d',ee,g1,g2,g3,g4,_⟩:=bB (ht _ z);simp only[alX]at ee;lia
   .obtain⟨a,c,d',ee,g1,g2,g3,g4,_⟩:=bB (ht _ z);simp only[alX]at ee;lia
  have:=uF (gb ho (k:=(p:Int)) (by lia) (by lia));lia
 .split
  .refine p7.mpr ⟨by decide,fun x hx=>?_⟩;unfold nD at hx;obtain⟨g,_,rfl⟩:=ai'.mp hx;rw[z8 hn ho ht];have:=agu (upTo os (g+1));lia
  .rw[z9 hn ho ht];have e:=rQ (ts:=ts) (os:=os) (k:=os.length) (aiN _);rw[akt]at e;rw[e];have go:∀j,j7 ts os j<=6400*(j:Int):=by
    intro j;induction j with
    |zero=>exact amo _
    |succ j ih=>rw[oK];have:=agu (upTo os (j+1));lia
   have:=go os.length;unfold j7 at this;lia
theorem uL {kd:Str}(h:dN kd):kd.length<=1000∧∀c∈kd.cps.toList,c<16^8:=by
 rcases h with rfl|rfl|rfl
 .exact⟨by decide+kernel,by decide+kernel⟩
 .exact⟨by decide+kernel,by decide+kernel⟩
 .exact⟨by decide+kernel,by decide+kernel⟩
theorem PQ {α β:Type}(l:List α)(d0:α)(p:α->Bool)(f:α->β):((aiY l.length).filter fun i=>p (l.getD i d0)).map (fun i=>f (l.getD i d0))=(l.filter p).map f:=by
 have e:=lD (fun x=>x) d0 l;rw[List.map_id'']at e
 .have h1:((aiY l.length).filter fun i=>p (l.getD i d0)).map (fun i=>l.getD i d0)=l.filter p:=by have:=aoT (f:=fun i=>l.getD i d0) (p:=p) (l:=aiY l.length);rw[e]at this;exact this.symm
  rw[←h1,ajG];rfl
 .intro x;rfl
end My
namespace My
open PySem PyProof.Rows
noncomputable def kf (κ:KeyKind)(x:ajm):κ.α:=(κ.keyOf x.1).getD κ.dflt
def uM (κ:KeyKind)(x:ajm):Prop:=∃a,κ.keyOf x.1=some a
theorem bW {κ:KeyKind}{xs:Array ajm}{i:Nat}{x:ajm}(h:xs[i]?=some x):KK κ xs i=kf κ x:=by unfold KK kf;rw[h]
def lR (prog:ajr)(w:ajI)(A:ajO)(s:aiK)(kk:ame)(κ:KeyKind):Prop:=∀(E:aiH->aiK->Prop) (x y:aiH) (a b:κ.α) (Q:Bool->aiK->Prop),κ.keyOf x=some a->κ.keyOf y=some b->Q (κ.blt a b) s->ai0 (ai7 prog w) A (keyLt' kk x y) Q E s
def vU (κ:KeyKind)(xs:Array ajm)(i j:Nat):Prop:=∀p q,i<=p->p<=q->q<j->κ.kle (KK κ xs p) (KK κ xs q)
def Fal (κ:KeyKind)(xs:Array ajm)(i j:Nat):Prop:=∀p q,i<=p->p<=q->q<j->κ.kle (KK κ xs q) (KK κ xs p)
structure SB (a₀:Array ajm)(lo:Nat)(pd:Array (Nat×Nat×Nat))(kk:ame)(st:ajy):Prop where
 perm:(ajh st).Perm a₀
 pre:∀i,i<lo->(ajh st)[i]?=a₀[i]?
 kind:ak4 st=kk
 failed:anF st=none
 pend:aj0 st=pd
theorem SB.size {a₀:Array ajm}{lo:Nat}{pd:Array (Nat×Nat×Nat)}{kk:ame}{st:ajy}(h:SB a₀ lo pd kk st):(ajh st).size=a₀.size:=h.perm.size_eq
theorem SB.put {a₀:Array ajm}{lo:Nat}{pd:Array (Nat×Nat×Nat)}{kk:ame}{st:ajy}(h:SB a₀ lo pd kk st){xs:Array ajm}(hp:xs.Perm (ajh st))(hq:∀i,i<lo->xs[i]?=(ajh st)[i]?):SB a₀ lo pd kk (asY st xs):=⟨hp.trans h.perm,fun i hi=>(hq i hi).trans (h.pre i hi),h.kind,h.failed,h.pend⟩
theorem SB.here {a₀:Array ajm}{lo:Nat}{pd:Array (Nat×Nat×Nat)}{kk:ame}{st:ajy}{κ:KeyKind}(h:SB a₀ lo pd kk st)(h0:KeysOf κ a₀){i:Nat}(hi:i<a₀.size):∃x,(ajh st)[i]?=some x∧uM κ x:=by
 have hi':i<(ajh st).size:=by rw[h.size];exact hi
 have hm:(ajh st)[i]∈a₀.toList:=(amf.mp h.perm).mem_iff.mp (by simp);exact⟨(ajh st)[i],getElem?_pos _ i hi',h0 _ hm⟩
section
variable{prog:ajr}{w:ajI}{A:ajO}{E:aiH->aiK->Prop}{s:aiK}{κ:KeyKind}{kk:ame}{a₀:Array ajm}{lo:Nat}{pd:Array (Nat×Nat×Nat)}
theorem BX (hO:lR prog w A s kk κ){x y:ajm}{st:ajy}{Q:Option Bool->ajy->Prop}(hk:ak4 st=kk)(hx:uM κ x)(hy:uM κ y)(h:Q (some (κ.blt (kf κ x) (kf κ y))) st):wpS (ai7 prog w) A E s (lt' x y) Q st:=by obtain⟨a,ha⟩:=hx;obtain⟨b,hb⟩:=hy;rw[lt'_eq];refine ajc (aof ?_);rw[hk];refine ajc (ap9 (am4 (hO _ x.1 y.1 a b _ ha hb ⟨rfl,?_⟩)));refine ajq ?_;unfold kf at h;rw[ha,hb]at h;exact h
theorem bR {xs:Array ajm}{i:Nat}{x:ajm}{st:ajy}{Q:ajm->ajy->Prop}(hi:xs[i]?=some x)(h:Q x st):wpS (ai7 prog w) A E s (anG xs i) Q st:=by rw[elem'_eq,hi];exact ajq h
theorem BZ (hO:lR prog w A s kk κ){st:ajy}{i j:Nat}{Q:Option Bool->ajy->Prop}(hB:SB a₀ lo pd kk st)(h0:KeysOf κ a₀)(hi:i<a₀.size)(hj:j<a₀.size)(h:Q (some (κ.blt (KK κ (ajh st) i) (KK κ (ajh st) j))) st):wpS (ai7 prog w) A E s (ltAt' i j) Q st:=by obtain⟨x,e1,k1⟩:=hB.here h0 hi;obtain⟨y,e2,k2⟩:=hB.here h0 hj;rw[ltAt'_eq];refine ajc (aof ?_);dsimp only;refine ajc (bR e1 (ajc (bR e2 (BX hO hB.kind k1 k2 ?_))));rw[bW e1,bW e2]at h;exact h
noncomputable def Zb (lo a m:Nat):StateT ajy Sem AscSt:=
 forIn [a:m] ((none,a):AscSt) fun _ c=>do
  let z←ltAt' (lo+c.2) (lo+c.2-1)
  match z with
  |some y=>if y=true then pure (.done (none,c.2))else pure (.yield (none,c.2+1))
  |_=>pure (.done (some none,c.2))
noncomputable def K5 (lo n m:Nat):StateT ajy Sem (Option Nat):=do
 aoB lo (lo+n)
 let c←Zb lo n m
 match c.1 with
 |some r=>pure r
 |none=>pure (some c.2)
noncomputable def TY (lo n m:Nat):StateT ajy Sem DescSt:=
 forIn [n:m] ((none,n,0):DescSt) fun _ c=>do
  let z←ltAt' (lo+c.2.1) (lo+c.2.1-1)
  match z with
  |some y=>
   if y=true then
    if c.2.2>0 then do
     aoB (lo+c.2.1-(c.2.2+1)) (lo+c.2.1)
     pure (.yield (none,c.2.1+1,0))
    else pure (.yield (none,c.2.1+1,0))
   else do
    let z←ltAt' (lo+c.2.1-1) (lo+c.2.1)
    match z with
    |some v=>
     if v=true then pure (.done (none,c.2.1,c.2.2))
     else pure (.yield (none,c.2.1+1,c.2.2+1))
    |_=>pure (.done (some none,c.2.1,c.2.2))
  |_=>pure (.done (some none,c.2.1,c.2.2))
noncomputable def K6 (lo n m:Nat):StateT ajy Sem (Option Nat):=do
 liftM (arK "list.sort.descending-run")
 let c←TY lo (n+1) m
 match c.1 with
 |some r=>pure r
 |none=>
  if c.2.2>0 then do
   aoB (lo+c.2.1-(c.2.2+1)) (lo+c.2.1)
   K5 lo c.2.1 m
  else K5 lo c.2.1 m
theorem aV {α β:Type}{m m':StateT ajy Sem α}{f g:α->StateT ajy Sem β}(e:m=m')(h:∀a,f a=g a):m>>=f=m'>>=g:=by rw[e,funext h]
theorem Vq (lo m:Nat):asZ lo m=(do
  let c←Zb lo 1 m
  match c.1 with
  |some r=>pure r
  |none=>
   if(c.2==m)=true then pure (some c.2)
   else if c.2>1 then do
    let z←ltAt' lo (lo+c.2-1)
    match z with
    |some v=>if v=true then pure (some c.2)else do
      aoB lo (lo+c.2)
      K6 lo c.2 m
    |_=>pure none
   else K6 lo c.2 m):=by
 rw[countRun'_eq]
 unfold K6 K5 TY Zb
 refine aV rfl fun c=>?_
 obtain⟨r,n⟩:=c
 cases r with
 |some r=>rfl
 |none=>
  dsimp only
  split
  ·rfl
  ·split
   ·refine aV rfl fun x=>?_
    cases x with
    |none=>rfl
    |some v=>
     dsimp only
     split
     ·rfl
     ·refine aV rfl fun _=>aV rfl fun _=>aV rfl fun s2=>?_
      obtain⟨r2,n2,q2⟩:=s2
      cases r2 with
      |some r2=>rfl
      |none=>
       dsimp only
       split
       ·refine aV rfl fun _=>aV rfl fun _=>aV rfl fun s3=>?_
        obtain⟨r3,n3⟩:=s3
        cases r3<;>rfl
       ·refine aV rfl fun _=>aV rfl fun s3=>?_
        obtain⟨r3,n3⟩:=s3
        cases r3<;>rfl
   ·refine aV rfl fun _=>aV rfl fun s2=>?_
    obtain⟨r2,n2,q2⟩:=s2
    cases r2 with
    |some r2=>rfl
    |none=>
     dsimp only
     split
     ·refine aV rfl fun _=>aV rfl fun _=>aV rfl fun s3=>?_
      obtain⟨r3,n3⟩:=s3
      cases r3<;>rfl
     ·refine aV rfl fun _=>aV rfl fun s3=>?_
      obtain⟨r3,n3⟩:=s3
      cases r3<;>rfl
theorem Ae {st:ajy}{i j:Nat}{Q:Unit->ajy->Prop}(h:Q () (asY st (arX (ajh st) i j ((j-i)/2)))):wpS (ai7 prog w) A E s (aoB i j) Q st:=by rw[reverseSlice'_eq];exact amR h
theorem SB.mir {st:ajy}(hB:SB a₀ lo pd kk st){i j:Nat}(hi:lo<=i)(hj:j<=a₀.size):SB a₀ lo pd kk (asY st (arX (ajh st) i j ((j-i)/2))):=hB.put (mirror_perm _ _ _ _) fun k hk=>by rw[getElem?_mirror_all (by rw[hB.size];exact hj),aiL (by lia)]
theorem Zc (hO:lR prog w A s kk κ)(h0:KeysOf κ a₀){st:ajy}{a m:Nat}{Q:AscSt->ajy->Prop}(hm:lo+m<=a₀.size)(ha:1<=a)(ham:a<=m)(hB:SB a₀ lo pd kk st)(hs:vU κ (ajh st) lo (lo+a))(h:∀n,a<=n->n<=m->vU κ (ajh st) lo (lo+n)->(n=m∨κ.klt (KK κ (ajh st) (lo+n)) (KK κ (ajh st) (lo+n-1)))->Q (none,n) st):wpS (ai7 prog w) A E s (Zb lo a m) Q st:=by
 unfold Zb;refine akN (I:=fun x c st'=>st'=st∧c=(none,x)∧vU κ (ajh st) lo (lo+x)) ?g1 ?g2 ⟨rfl,rfl,hs⟩;case g2=>rintro c st' ⟨rfl,rfl,hr⟩;rw[show max a m=m by lia]at hr ⊢;exact h m ham (aiN _) hr (.inl rfl)
 case g1=>
  rintro x c st' h1 h2 ⟨rfl,rfl,hr⟩;dsimp only;refine ajc (BZ hO hB h0 (by lia) (by lia) ?_);cases hc:κ.blt (KK κ (ajh st') (lo+x)) (KK κ (ajh st') (lo+x-1))with
  |true=>simp only[if_true];exact ajq (h x h1 (by lia) hr (.inr hc))
  |false=>
   simp only[aiT,if_false];refine ajq ⟨rfl,rfl,fun i j h3 h4 h5=>?_⟩;by_cases d:j<lo+x
   .exact hr i j h3 h4 d
   .obtain rfl:j=lo+x:=by lia
    by_cases e:i=lo+x
    .rw[e];exact ak0 _
    .exact alK (hr i (lo+x-1) h3 (by lia) (by lia)) hc
theorem T3 (hO:lR prog w A s kk κ)(h0:KeysOf κ a₀){st:ajy}{n m:Nat}{Q:Option Nat->ajy->Prop}(hm:lo+m<=a₀.size)(h1:1<=n)(hnm:n<=m)(hB:SB a₀ lo pd kk st)(hs:Fal κ (ajh st) lo (lo+n))(h:∀k st',SB a₀ lo pd kk st'->1<=k->k<=m->vU κ (ajh st') lo (lo+k)->Q (some k) st'):wpS (ai7 prog w) A E s (K5 lo n m) Q st:=by
 unfold K5;have hz:lo+n<=(ajh st).size:=by rw[hB.size];omega
 have hB':=hB.mir (i:=lo) (j:=lo+n) (aiN _) (by omega);refine ajc (Ae (ajc (Zc hO h0 hm h1 hnm hB' ?_ fun k k1 k2 k3 _=>ajq (h k _ hB' (by omega) k2 k3))));intro i j h3 h4 h5;show κ.kle (KK κ (arX (ajh st) lo (lo+n) ((lo+n-lo)/2)) i) (KK κ (arX (ajh st) lo (lo+n) ((lo+n-lo)/2)) j);rw[KK_mirror hz,KK_mirror hz,aiP (by omega),aiP (by omega)];exact hs _ _ (by omega) (by omega) (by omega)
theorem abt (hO:lR prog w A s kk κ)(h0:KeysOf κ a₀){st:ajy}{n m:Nat}{Q:DescSt->ajy->Prop}(hm:lo+m<=a₀.size)(h1:1<=n)(hnm:n<=m)(hB:SB a₀ lo pd kk st)(hs:Fal κ (ajh st) lo (lo+n))(h:∀k e st',SB a₀ lo pd kk st'->n<=k->k<=m->Fal κ (ajh st') lo (lo+k)->e+1<=k->(∀i,lo+k-(e+1)<=i->i<lo+k->KK κ (ajh st') i=KK κ (ajh st') (lo+k-1))->Q (none,k,e) st'):wpS (ai7 prog w) A E s (TY lo n m) Q st:=by
 unfold TY;refine akN (I:=fun x c st'=>∃e,c=(none,x,e)∧SB a₀ lo pd kk st'∧Fal κ (ajh st') lo (lo+x)∧e+1<=x∧∀i,lo+x-(e+1)<=i->i<lo+x->KK κ (ajh st') i=KK κ (ajh st') (lo+x-1)) ?g1 ?g2 ⟨0,rfl,hB,hs,by lia,fun i _ _=>by congr 1;lia⟩;case g2=>rintro c st' ⟨e,rfl,b1,b2,b3,b4⟩;rw[show max n m=m by lia]at b2 b3 b4 ⊢;exact h m e st' b1 hnm (aiN _) b2 b3 b4
 case g1=>
  rintro x c st' hax hxm ⟨e,rfl,b1,b2,b3,b4⟩;dsimp only;have hz:lo+x<=(ajh st').size:=by rw[b1.size];lia
  refine ajc (BZ hO b1 h0 (by lia) (by lia) ?_);cases hc:κ.blt (KK κ (ajh st') (lo+x)) (KK κ (ajh st') (lo+x-1))with
  |true=>
   simp only[if_true];have nx:∀xs:Array ajm,(∀k,KK κ xs k=KK κ (ajh st') k)->Fal κ xs lo (lo+(x+1)):=by
    intro xs hk i j h3 h4 h5;rw[hk,hk];by_cases d:j<lo+x
    .exact b2 i j h3 h4 d
    .obtain rfl:j=lo+x:=by lia
     by_cases e:i=lo+x
     .rw[e];exact ak0 _
     .exact alK (akx hc) (b2 i (lo+x-1) h3 (by lia) (by lia))
   by_cases g:e>0
   .rw[aiP g];exact ajc (Ae (ajq ⟨0,rfl,b1.mir (by lia) (by lia),nx _ (anK hz b4),by lia,fun i _ _=>by congr 1;lia⟩))
   .rw[aiL g];exact ajq ⟨0,rfl,b1,nx _ (fun _=>rfl),by lia,fun i _ _=>by congr 1;lia⟩
  |false=>
   simp only[aiT,if_false];refine ajc (BZ hO b1 h0 (by lia) (by lia) ?_);cases hd:κ.blt (KK κ (ajh st') (lo+x-1)) (KK κ (ajh st') (lo+x))with
   |true=>simp only[if_true];exact ajq (h x e st' b1 hax (by lia) b2 b3 b4)
   |false=>
    simp only[aiT,if_false];have eq:KK κ (ajh st') (lo+x)=KK κ (ajh st') (lo+x-1):=arp hd hc;refine ajq ⟨e+1,rfl,b1,fun i j h3 h4 h5=>?_,by lia,fun i h3 h4=>?_⟩
    .by_cases d:j<lo+x
     .exact b2 i j h3 h4 d
     .obtain rfl:j=lo+x:=by lia
      by_cases e:i=lo+x
      .rw[e];exact ak0 _
      .rw[eq];exact b2 i (lo+x-1) h3 (by lia) (by lia)
    .rw[show lo+(x+1)-1=lo+x by lia];by_cases d:i=lo+x
     .rw[d]
     .rw[eq];exact b4 i (by lia) (by lia)
theorem K7 (hO:lR prog w A s kk κ)(h0:KeysOf κ a₀){st:ajy}{n m:Nat}{Q:Option Nat->ajy->Prop}(hm:lo+m<=a₀.size)(hnm:n+1<=m)(hB:SB a₀ lo pd kk st)(hs:Fal κ (ajh st) lo (lo+(n+1)))(h:∀k st',SB a₀ lo pd kk st'->1<=k->k<=m->vU κ (ajh st') lo (lo+k)->Q (some k) st'):wpS (ai7 prog w) A E s (K6 lo n m) Q st:=by
 unfold K6;refine ajc (ap9 (amr ⟨rfl,?_⟩));refine ajc (abt hO h0 hm (by lia) hnm hB hs fun k e st' b1 k1 k2 b2 b3 b4=>?_);dsimp only;have hz:lo+k<=(ajh st').size:=by rw[b1.size];lia
 by_cases g:e>0
 .rw[aiP g];refine ajc (Ae (T3 hO h0 hm (by lia) k2 (b1.mir (by lia) (by lia)) ?_ h));intro i j h3 h4 h5;show κ.kle (KK κ (arX (ajh st') _ _ _) j) (KK κ (arX (ajh st') _ _ _) i);rw[anK hz b4,anK hz b4];exact b2 i j h3 h4 h5
 .rw[aiL g];exact T3 hO h0 hm (by lia) k2 b1 b2 h
theorem Zd (hO:lR prog w A s kk κ)(h0:KeysOf κ a₀){st:ajy}{m:Nat}{Q:Option Nat->ajy->Prop}(hm:lo+m<=a₀.size)(h1:1<=m)(hB:SB a₀ lo pd kk st)(h:∀k st',SB a₀ lo pd kk st'->1<=k->k<=m->vU κ (ajh st') lo (lo+k)->Q (some k) st'):wpS (ai7 prog w) A E s (asZ lo m) Q st:=by
 rw[Vq];refine ajc (Zc hO h0 hm (aiN 1) h1 hB (fun i j h3 h4 h5=>by rw[show i=j by lia];exact ak0 _) fun n n1 n2 n3 n4=>?_);dsimp only;by_cases c:n=m
 .rw[aiP (by simpa using c)];exact ajq (h n st hB n1 n2 n3)
 .rw[aiL (by simpa using c)];have hl:=n4.resolve_left c;by_cases d:n>1
  .rw[aiP d];refine ajc (BZ hO hB h0 (by lia) (by lia) ?_);cases hd:κ.blt (KK κ (ajh st) lo) (KK κ (ajh st) (lo+n-1))with
   |true=>simp only[if_true];exact ajq (h n st hB n1 n2 n3)
   |false=>
    simp only[aiT,if_false];have hz:lo+n<=(ajh st).size:=by rw[hB.size];lia
    have al:∀k,lo<=k->k<lo+n->KK κ (ajh st) k=KK κ (ajh st) (lo+n-1):=fun k k1 k2=>arp (n3 k (lo+n-1) k1 (by lia) (by lia)) (alK hd (n3 lo k (by lia) k1 k2));refine ajc (Ae (K7 hO h0 hm (by lia) (hB.mir (aiN _) (by lia)) ?_ h));intro i j h3 h4 h5;show κ.kle (KK κ (arX (ajh st) _ _ _) j) (KK κ (arX (ajh st) _ _ _) i);rw[anK hz al,anK hz al];by_cases e:j<lo+n
    .rw[al i h3 (by lia),al j (by lia) e];exact ak0 _
    .obtain rfl:j=lo+n:=by lia
     by_cases f:i=lo+n
     .rw[f];exact ak0 _
     .rw[al i h3 (by lia)];exact akx hl
  .rw[aiL d];obtain rfl:n=1:=by lia
   refine K7 hO h0 hm (by lia) hB ?_ h;intro i j h3 h4 h5;by_cases f:i=j
   .rw[f];exact ak0 _
   .obtain rfl:i=lo:=by lia
    obtain rfl:j=i+1:=by lia
    exact akx hl
theorem SB.bub {st:ajy}(hB:SB a₀ lo pd kk st){k d:Nat}(hk:k<a₀.size)(hd:lo+d<=k):SB a₀ lo pd kk (asY st (bubble (ajh st) k d)):=hB.put (bubble_perm _ _ _) fun i hi=>by rw[getElem?_bubble (by rw[hB.size];exact hk) d (by omega),aiL (by omega),aiL (by omega)]
theorem adF (hO:lR prog w A s kk κ)(h0:KeysOf κ a₀){st:ajy}{n ok:Nat}{Q:Bool->ajy->Prop}(hn:lo+n<=a₀.size)(hok:ok<=n)(hB:SB a₀ lo pd kk st)(hs:vU κ (ajh st) lo (lo+ok))(h:∀st',SB a₀ lo pd kk st'->vU κ (ajh st') lo (lo+n)->Q true st'):wpS (ai7 prog w) A E s (atf lo n ok) Q st:=by
 rw[binarySort'_eq];refine ajc (amY (akN (I:=fun k c st'=>c=(none,())∧SB a₀ lo pd kk st'∧vU κ (ajh st') lo (lo+min k n)) (Q:=fun c st'=>c=(none,())∧SB a₀ lo pd kk st'∧vU κ (ajh st') lo (lo+n)) ?g1 ?g2 ?g3) ?g4);case g4=>rintro c st' ⟨rfl,b1,b2⟩;exact ajq (h st' b1 b2)
 case g3=>
  refine⟨rfl,hB,fun i j h3 h4 h5=>?_⟩;by_cases e:ok=0
  .rw[show i=j by lia];exact ak0 _
  .exact hs i j h3 h4 (by lia)
 case g2=>rintro c st' ⟨b0,b1,b2⟩;rw[show min (max (max ok 1) n) n=n by lia]at b2;exact⟨b0,b1,b2⟩
 case g1=>
  rintro k c st' hak hkn ⟨rfl,b1,b2⟩;rw[show min k n=k by lia]at b2;refine ajc (amY (akN (I:=fun x c st2=>st2=st'∧∃l r,c=(none,l,r)∧l<=r∧r<=k∧r-l<=k-x∧(∀i,i<l->κ.kle (KK κ (ajh st') (lo+i)) (KK κ (ajh st') (lo+k)))∧∀i,r<=i->i<k->κ.klt (KK κ (ajh st') (lo+k)) (KK κ (ajh st') (lo+i))) (Q:=fun c st2=>st2=st'∧∃l r,c=(none,l,r)∧l<=k∧(∀i,i<l->κ.kle (KK κ (ajh st') (lo+i)) (KK κ (ajh st') (lo+k)))∧∀i,l<=i->i<k->κ.klt (KK κ (ajh st') (lo+k)) (KK κ (ajh st') (lo+i))) ?i1 ?i2 ⟨rfl,0,k,rfl,by lia,by lia,by lia,fun i _=>by lia,fun i _ _=>by lia⟩) ?i4);case i2=>
   rintro c st2 ⟨rfl,l,r,rfl,l1,l2,l3,l4,l5⟩;obtain rfl:l=r:=by lia
   exact⟨rfl,l,l,rfl,l2,l4,l5⟩
  case i1=>
   rintro x c st2 _ hxk ⟨rfl,l,r,rfl,l1,l2,l3,l4,l5⟩;dsimp only;by_cases g:l≥r
   .rw[aiP g];obtain rfl:l=r:=by lia
    exact ajq ⟨rfl,l,l,rfl,l2,l4,l5⟩
   .rw[aiL g];refine ajc (BZ hO b1 h0 (by lia) (by lia) ?_);cases hc:κ.blt (KK κ (ajh st2) (lo+k)) (KK κ (ajh st2) (lo+(l+r)/2))with
    |true=>simp only[if_true];exact ajq ⟨rfl,l,(l+r)/2,rfl,by lia,by lia,by lia,l4,fun i h3 h4=>KeyOrd.klt_of_klt_of_kle hc (b2 _ _ (by lia) (by lia) (by lia))⟩
    |false=>simp only[aiT,if_false];exact ajq ⟨rfl,(l+r)/2+1,r,rfl,by lia,by lia,by lia,fun i h3=>alK (b2 (lo+i) (lo+(l+r)/2) (by lia) (by lia) (by lia)) (show κ.kle _ _ from hc),l5⟩
  case i4=>
   rintro c st2 ⟨rfl,l,r,rfl,l2,l4,l5⟩;show wpS _ _ _ _ (do moveDown' (lo+k) (lo+l);pure (anJ (none,()))) _ _;rw[moveDown'_eq];refine ajc (amR (ajq ⟨rfl,b1.bub (by lia) (by lia),?_⟩));rw[show min (k+1) n=k+1 by lia];have hz:lo+k<(ajh st2).size:=by rw[b1.size];lia
   intro i j h3 h4 h5;show κ.kle (KK κ (bubble (ajh st2) (lo+k) (lo+k-(lo+l))) i) (KK κ (bubble (ajh st2) (lo+k) (lo+k-(lo+l))) j);rw[KK_bubble hz (by lia),KK_bubble hz (by lia),show lo+k-(lo+k-(lo+l))=lo+l by lia];have l4':∀i,lo<=i->i<lo+l->κ.kle (KK κ (ajh st2) i) (KK κ (ajh st2) (lo+k)):=fun i a b=>by have:=l4 (i-lo) (by lia);rwa [show lo+(i-lo)=i by lia]at this
   have l5':∀i,lo+l<=i->i<lo+k->κ.klt (KK κ (ajh st2) (lo+k)) (KK κ (ajh st2) i):=fun i a b=>by have:=l5 (i-lo) (by lia) (by lia);rwa [show lo+(i-lo)=i by lia]at this
   repeat' split
   all_goals first
    |(exfalso;lia)
    |exact ak0 _
    |exact l4' _ (by lia) (by lia)
    |exact akx (l5' _ (by lia) (by lia))
    |exact b2 _ _ (by lia) (by lia) (by lia)
end
noncomputable def gal:Bool->ajm->Array ajm->Nat->Nat->Nat->StateT ajy Sem (Option Nat):=sortPriv%PySem.Builtin.gallop
noncomputable def bey (lf:Bool)(ky:ajm)(xs:Array ajm)(bs i:Nat):StateT ajy Sem (Option Bool):=do
 let x←anG xs (bs+i)
 if lf then lt' x ky else return (←lt' ky x).map (!·)
noncomputable def Vr (lf:Bool)(ky:ajm)(xs:Array ajm)(bs n lo hi:Nat):StateT ajy Sem (Option Nat):=do
 let mut lo:=lo
 let mut hi:=hi
 for _ in[0:n] do
  if lo≥hi then break
  let m:=lo+(hi-lo)/2
  let some b←bey lf ky xs bs m|return none
  if b then lo:=m+1 else hi:=m
 return some hi
theorem adG (lf:Bool)(ky:ajm)(xs:Array ajm)(bs n ht:Nat):gal lf ky xs bs n ht=(do
 let mut la:=0
 let mut o:=1
 let some r←bey lf ky xs bs ht|return none
 if r then
  for _ in[0:n] do
   if o≥n-ht then break
   let some b←bey lf ky xs bs (ht+o)|return none
   if !b then break
   la:=o
   o:=2*o+1
  Vr lf ky xs bs n (ht+la+1) (ht+min o (n-ht))
 else
  for _ in[0:n] do
   if o≥ht+1 then break
   let some b←bey lf ky xs bs (ht-o)|return none
   if b then break
   la:=o
   o:=2*o+1
  Vr lf ky xs bs n (ht+1-min o (ht+1)) (ht-la)):=by
 unfold gal
 refine aV rfl fun r=>?_
 cases r with
 |none=>rfl
 |some r=>
  cases r with
  |true=>
   refine aV rfl fun c=>?_
   obtain⟨r,la,o⟩:=c
   cases r with
   |some r=>rfl
   |none=>
    unfold Vr
    refine aV rfl fun c=>?_
    obtain⟨r,l,h⟩:=c
    cases r<;>rfl
  |false=>
   refine aV rfl fun c=>?_
   obtain⟨r,la,o⟩:=c
   cases r with
   |some r=>rfl
   |none=>
    unfold Vr
    refine aV rfl fun c=>?_
    obtain⟨r,l,h⟩:=c
    cases r<;>rfl
section
variable{prog:ajr}{w:ajI}{A:ajO}{E:aiH->aiK->Prop}{s:aiK}{κ:KeyKind}{kk:ame}
structure ahV (κ:KeyKind)(lf:Bool)(ky:ajm)(xs:Array ajm)(bs n:Nat)(b:Nat->Bool):Prop where
 key:uM κ ky
 at_:∀i,i<n->∃x,xs[bs+i]?=some x∧uM κ x∧b i=if lf=true then κ.blt (kf κ x) (kf κ ky)else !κ.blt (kf κ ky) (kf κ x)
 mono:∀i j,i<=j->j<n->b j=true->b i=true
theorem Ii (hO:lR prog w A s kk κ){lf:Bool}{ky:ajm}{xs:Array ajm}{bs n i:Nat}{b:Nat->Bool}{st:ajy}{Q:Option Bool->ajy->Prop}(G:ahV κ lf ky xs bs n b)(hk:ak4 st=kk)(hi:i<n)(h:Q (some (b i)) st):wpS (ai7 prog w) A E s (bey lf ky xs bs i) Q st:=by
 obtain⟨x,e1,e2,e3⟩:=G.at_ i hi;unfold bey;refine ajc (bR e1 ?_);cases lf with
 |true=>simp only[if_true]at e3 ⊢;refine BX hO hk e2 G.key ?_;rw[←e3];exact h
 |false=>simp only[aiT,if_false]at e3 ⊢;refine ajc (BX hO hk G.key e2 (ajq ?_));show Q (some (!κ.blt (kf κ ky) (kf κ x))) st;rw[←e3];exact h
theorem T4 (hO:lR prog w A s kk κ){lf:Bool}{ky:ajm}{xs:Array ajm}{bs n lo hi:Nat}{b:Nat->Bool}{st:ajy}{Q:Option Nat->ajy->Prop}(G:ahV κ lf ky xs bs n b)(hk:ak4 st=kk)(h1:lo<=hi)(h2:hi<=n)(h3:∀i,i<lo->b i=true)(h4:∀i,hi<=i->i<n->b i=false)(h:∀k,k<=n->(∀i,i<k->b i=true)->(∀i,k<=i->i<n->b i=false)->Q (some k) st):wpS (ai7 prog w) A E s (Vr lf ky xs bs n lo hi) Q st:=by
 unfold Vr;refine ajc (amY (akN (I:=fun x c st'=>st'=st∧∃l r,c=(none,l,r)∧l<=r∧r<=n∧r-l<=n-x∧(∀i,i<l->b i=true)∧∀i,r<=i->i<n->b i=false) (Q:=fun c st'=>st'=st∧∃l,c=(none,l,l)∧l<=n∧(∀i,i<l->b i=true)∧∀i,l<=i->i<n->b i=false) ?g1 ?g2 ⟨rfl,lo,hi,rfl,h1,h2,by lia,h3,h4⟩) ?g4);case g2=>
  rintro c st' ⟨rfl,l,r,rfl,l1,l2,l3,l4,l5⟩;obtain rfl:l=r:=by lia
  exact⟨rfl,l,rfl,l2,l4,l5⟩
 case g1=>
  rintro x c st' _ hx ⟨rfl,l,r,rfl,l1,l2,l3,l4,l5⟩;dsimp only;by_cases g:l≥r
  .rw[aiP g];obtain rfl:l=r:=by lia
   exact ajq ⟨rfl,l,rfl,l2,l4,l5⟩
  .rw[aiL g];refine ajc (Ii hO G hk (i:=l+(r-l)/2) (by lia) ?_);dsimp only;cases e:b (l+(r-l)/2)with
   |true=>simp only[if_true];exact ajq ⟨rfl,_,_,rfl,by lia,by lia,by lia,fun i hi=>G.mono i _ (by lia) (by lia) e,l5⟩
   |false=>
    simp only[aiT,if_false];refine ajq ⟨rfl,_,_,rfl,by lia,by lia,by lia,l4,fun i h5 h6=>?_⟩;cases f:b i with
    |false=>rfl
    |true=>rw[G.mono _ i h5 h6 f]at e;cases e
 case g4=>rintro c st' ⟨rfl,l,rfl,l1,l2,l3⟩;exact ajq (h l l1 l2 l3)
theorem xN (hO:lR prog w A s kk κ){lf:Bool}{ky:ajm}{xs:Array ajm}{bs n ht:Nat}{b:Nat->Bool}{st:ajy}{Q:Option Nat->ajy->Prop}(G:ahV κ lf ky xs bs n b)(hk:ak4 st=kk)(hh:ht<n)(h:∀k,k<=n->(∀i,i<k->b i=true)->(∀i,k<=i->i<n->b i=false)->Q (some k) st):wpS (ai7 prog w) A E s (gal lf ky xs bs n ht) Q st:=by
 have no:∀i j,i<=j->j<n->b i=false->b j=false:=fun i j a c e=>by
  cases f:b j with
  |false=>rfl
  |true=>rw[G.mono i j a c f]at e;cases e
 rw[adG];refine ajc (Ii hO G hk hh ?_);cases e:b ht with
 |true=>
  dsimp only;simp only[if_true];refine ajc (amY (akN (I:=fun x c st'=>st'=st∧∃la o,c=(none,la,o)∧la<o∧x+1<=o∧ht+la<n∧b (ht+la)=true) (Q:=fun c st'=>st'=st∧∃la o,c=(none,la,o)∧la<o∧ht+la<n∧b (ht+la)=true∧(n-ht<=o∨(ht+o<n∧b (ht+o)=false))) ?g1 ?g2 ⟨rfl,0,1,rfl,by omega,by omega,by omega,e⟩) ?g4);case g2=>rintro c st' ⟨rfl,la,o,rfl,a1,a2,a3,a4⟩;exact⟨rfl,la,o,rfl,a1,a3,a4,.inl (by omega)⟩
  case g1=>
   rintro x c st' _ hx ⟨rfl,la,o,rfl,a1,a2,a3,a4⟩;dsimp only;by_cases g:o≥n-ht
   .rw[aiP g];exact ajq ⟨rfl,la,o,rfl,a1,a3,a4,.inl g⟩
   .rw[aiL g];refine ajc (Ii hO G hk (i:=ht+o) (by omega) ?_);dsimp only;cases f:b (ht+o)with
    |true=>simp only[ajP,aiT,if_false];exact ajq ⟨rfl,o,2*o+1,rfl,by omega,by omega,by omega,f⟩
    |false=>simp only[amE,if_true];exact ajq ⟨rfl,la,o,rfl,a1,a3,a4,.inr ⟨by omega,f⟩⟩
  case g4=>
   rintro c st' ⟨rfl,la,o,rfl,a1,a3,a4,a5⟩;dsimp only;refine T4 hO G hk (by omega) (by omega) (fun i hi=>G.mono i _ (by omega) a3 a4) (fun i h5 h6=>?_) h;rcases a5 with a5|⟨a5,a6⟩
   .omega
   .exact no (ht+o) i (by omega) h6 a6
 |false=>
  dsimp only;simp only[aiT,if_false];refine ajc (amY (akN (I:=fun x c st'=>st'=st∧∃la o,c=(none,la,o)∧la<o∧x+1<=o∧la<=ht∧b (ht-la)=false) (Q:=fun c st'=>st'=st∧∃la o,c=(none,la,o)∧la<o∧la<=ht∧b (ht-la)=false∧(ht+1<=o∨(o<=ht∧b (ht-o)=true))) ?g1 ?g2 ⟨rfl,0,1,rfl,by omega,by omega,by omega,e⟩) ?g4);case g2=>rintro c st' ⟨rfl,la,o,rfl,a1,a2,a3,a4⟩;exact⟨rfl,la,o,rfl,a1,a3,a4,.inl (by omega)⟩
  case g1=>
   rintro x c st' _ hx ⟨rfl,la,o,rfl,a1,a2,a3,a4⟩;dsimp only;by_cases g:o≥ht+1
   .rw[aiP g];exact ajq ⟨rfl,la,o,rfl,a1,a3,a4,.inl g⟩
   .rw[aiL g];refine ajc (Ii hO G hk (i:=ht-o) (by omega) ?_);dsimp only;cases f:b (ht-o)with
    |false=>simp only[aiT,if_false];exact ajq ⟨rfl,o,2*o+1,rfl,by omega,by omega,by omega,f⟩
    |true=>simp only[if_true];exact ajq ⟨rfl,la,o,rfl,a1,a3,a4,.inr ⟨by omega,f⟩⟩
  case g4=>
   rintro c st' ⟨rfl,la,o,rfl,a1,a3,a4,a5⟩;dsimp only;refine T4 hO G hk (by omega) (by omega) (fun i hi=>?_) (fun i h5 h6=>no (ht-la) i (by omega) h6 a4) h;rcases a5 with a5|⟨a5,a6⟩
   .omega
   .exact G.mono i (ht-o) (by omega) (by omega) a6
end
abbrev aiz:=Option (Array ajm)×Array ajm×Nat×Nat×Nat
abbrev agG:=Option (Array ajm)×Array ajm×Nat×Nat×Nat×Nat
abbrev agI:=Option (Array ajm)×Array ajm×Nat×Nat×Nat×Nat×Nat
noncomputable def mLo:Array ajm->Array ajm->StateT ajy Sem (Array ajm):=sortPriv%PySem.Builtin.mergeLo
noncomputable def setG:Nat->StateT ajy Sem Unit:=sortPriv%PySem.Builtin.setMinGallop
noncomputable abbrev vq (st:ajy)(g:Nat):ajy:=au8 (ak4 st) (ajh st) (aj0 st) g (anF st)
theorem Af (g:Nat):setG g=modify fun st=>vq st g:=rfl
noncomputable def dnL (a b o:Array ajm)(i j:Nat):Array ajm:=o++a.extract i++b.extract j
noncomputable def ltL (a b o:Array ajm)(i j:Nat):Array ajm:=o++b.extract j++a.extract i
noncomputable def lo1 (a b:Array ajm)(tt mg:Nat)(o:Array ajm)(i j:Nat):StateT ajy Sem agG:=
 forIn [0:tt] ((none,o,i,j,0,0):agG) fun _ c=>do
  let y←anG b c.2.2.2.1
  let x←anG a c.2.2.1
  let z←lt' y x
  match z with
  |some v=>
   if v=true then do
    let y←anG b c.2.2.2.1
    if(c.2.2.2.1+1==b.size)=true then pure (.done (some (dnL a b (c.2.1.push y) c.2.2.1 (c.2.2.2.1+1)),c.2.1.push y,c.2.2.1,c.2.2.2.1+1,0,c.2.2.2.2.2+1))
    else if c.2.2.2.2.2+1≥mg then pure (.done (none,c.2.1.push y,c.2.2.1,c.2.2.2.1+1,0,c.2.2.2.2.2+1))
    else pure (.yield (none,c.2.1.push y,c.2.2.1,c.2.2.2.1+1,0,c.2.2.2.2.2+1))
   else do
    let x←anG a c.2.2.1
    if(c.2.2.1+1+1==a.size)=true then pure (.done (some (ltL a b (c.2.1.push x) (c.2.2.1+1) c.2.2.2.1),c.2.1.push x,c.2.2.1+1,c.2.2.2.1,c.2.2.2.2.1+1,0))
    else if c.2.2.2.2.1+1≥mg then pure (.done (none,c.2.1.push x,c.2.2.1+1,c.2.2.2.1,c.2.2.2.2.1+1,0))
    else pure (.yield (none,c.2.1.push x,c.2.2.1+1,c.2.2.2.1,c.2.2.2.2.1+1,0))
  |_=>pure (.done (some (dnL a b c.2.1 c.2.2.1 c.2.2.2.1),c.2.1,c.2.2.1,c.2.2.2.1,c.2.2.2.2.1,c.2.2.2.2.2))
noncomputable def lo4 (a b:Array ajm)(mg ac ahE:Nat)(o:Array ajm)(i j:Nat):StateT ajy Sem (ForInStep agI):=do
 let x←anG a i
 if(i+1+1==a.size)=true then pure (.done (some (ltL a b (o.push x) (i+1) j),o.push x,i+1,j,mg,ac,ahE))
 else if(decide (ac<7)&&decide (ahE<7))=true then pure (.done (none,o.push x,i+1,j,mg,ac,ahE))
 else pure (.yield (none,o.push x,i+1,j,mg,ac,ahE))
noncomputable def lo3 (a b:Array ajm)(mg ac ahE:Nat)(o:Array ajm)(i j:Nat):StateT ajy Sem (ForInStep agI):=do
 let y←anG b j
 if(j+1==b.size)=true then pure (.done (some (dnL a b (o.push y) i (j+1)),o.push y,i,j+1,mg,ac,ahE))
 else do
  let x←anG a i
  let z←gal true x b (j+1) (b.size-(j+1)) 0
  match z with
  |some k=>
   if k>0 then
    if(j+1+k==b.size)=true then pure (.done (some (dnL a b (o.push y++b.extract (j+1) (j+1+k)) i (j+1+k)),o.push y++b.extract (j+1) (j+1+k),i,j+1+k,mg,ac,k))
    else lo4 a b mg ac k (o.push y++b.extract (j+1) (j+1+k)) i (j+1+k)
   else lo4 a b mg ac k (o.push y) i (j+1)
  |_=>pure (.done (some (dnL a b (o.push y) i (j+1)),o.push y,i,j+1,mg,ac,ahE))
noncomputable def lo5 (a b:Array ajm)(ac ahE:Nat)(o:Array ajm)(i j mg:Nat):StateT ajy Sem (ForInStep agI):=do
 setG mg
 let y←anG b j
 let z←gal false y a i (a.size-i) 0
 match z with
 |some k=>
  if k>0 then
   if(i+k+1==a.size)=true then pure (.done (some (ltL a b (o++a.extract i (i+k)) (i+k) j),o++a.extract i (i+k),i+k,j,mg,k,ahE))
   else if(i+k==a.size)=true then pure (.done (some (dnL a b (o++a.extract i (i+k)) (i+k) j),o++a.extract i (i+k),i+k,j,mg,k,ahE))
   else lo3 a b mg k ahE (o++a.extract i (i+k)) (i+k) j
  else lo3 a b mg k ahE o i j
 |_=>pure (.done (some (dnL a b o i j),o,i,j,mg,ac,ahE))
noncomputable def lo2 (a b:Array ajm)(tt mg:Nat)(o:Array ajm)(i j ac ahE:Nat):StateT ajy Sem agI:=forIn [0:tt] ((none,o,i,j,mg,ac,ahE):agI) fun _ c=>if c.2.2.2.2.1>1 then lo5 a b c.2.2.2.2.2.1 c.2.2.2.2.2.2 c.2.1 c.2.2.1 c.2.2.2.1 (c.2.2.2.2.1-1)else lo5 a b c.2.2.2.2.2.1 c.2.2.2.2.2.2 c.2.1 c.2.2.1 c.2.2.2.1 c.2.2.2.2.1
noncomputable def loB (a b:Array ajm)(tt:Nat)(c:aiz):StateT ajy Sem (ForInStep aiz):=do
 let d←lo1 a b tt c.2.2.2.2 c.2.1 c.2.2.1 c.2.2.2.1
 match d.1 with
 |some r=>pure (.done (some r,d.2.1,d.2.2.1,d.2.2.2.1,c.2.2.2.2))
 |none=>do
  liftM (arK "list.sort.gallop")
  let e←lo2 a b tt (c.2.2.2.2+1) d.2.1 d.2.2.1 d.2.2.2.1 d.2.2.2.2.1 d.2.2.2.2.2
  match e.1 with
  |some r=>pure (.done (some r,e.2.1,e.2.2.1,e.2.2.2.1,e.2.2.2.2.1))
  |none=>do
   setG (e.2.2.2.2.1+1)
   pure (.yield (none,e.2.1,e.2.2.1,e.2.2.2.1,e.2.2.2.2.1+1))
theorem p8 {p:Prop}[Decidable p]{α:Type}{x x' y y':α}(h1:x=x')(h2:y=y'):(if p then x else y)=if p then x' else y':=by rw[h1,h2]
theorem Vs {β:Type}{r:Std.Legacy.Range}{c:β}{f g:Nat->β->StateT ajy Sem (ForInStep β)}(h:∀x c,f x c=g x c):forIn r c f=forIn r c g:=by rw[show f=g from funext fun x=>funext fun c=>h x c]
theorem adH (a b:Array ajm):mLo a b=(do
  liftM (arK "list.sort.merge-lo")
  let y←anG b 0
  if(1==b.size)=true then pure (dnL a b #[y] 0 1)
  else if(0+1==a.size)=true then pure (ltL a b #[y] 0 1)
  else do
   let st←get
   let c←forIn [0:a.size+b.size] ((none,#[y],0,1,apl st):aiz) fun _ c=>loB a b (a.size+b.size) c
   match c.1 with
   |some r=>pure r
   |none=>liftM (unsupported "internal:list.sort.merge-bound")):=by
 refine aV rfl fun _=>aV rfl fun y=>?_
 refine p8 rfl (p8 rfl (aV rfl fun st=>aV (Vs fun x c=>?_) fun c=>by obtain⟨r,_⟩:=c;cases r<;>rfl))
 refine aV (Vs fun x c=>?_) fun d=>?_
 ·refine aV rfl fun y=>aV rfl fun x=>aV rfl fun z=>?_
  cases z with
  |none=>rfl
  |some v=>rfl
 ·obtain⟨r,d⟩:=d
  cases r with
  |some r=>rfl
  |none=>
   refine aV rfl fun _=>aV (Vs fun x c=>?_) fun e=>?_
   ·refine p8 ?_ ?_
    ·refine aV rfl fun _=>aV rfl fun y=>aV rfl fun z=>?_
     cases z with
     |none=>rfl
     |some k=>
      refine p8 (p8 rfl (p8 rfl ?_)) ?_
      ·refine aV rfl fun y=>p8 rfl (aV rfl fun x=>aV rfl fun z=>?_)
       cases z with
       |none=>rfl
       |some k=>rfl
      ·refine aV rfl fun y=>p8 rfl (aV rfl fun x=>aV rfl fun z=>?_)
       cases z with
       |none=>rfl
       |some k=>rfl
    ·refine aV rfl fun _=>aV rfl fun y=>aV rfl fun z=>?_
     cases z with
     |none=>rfl
     |some k=>
      refine p8 (p8 rfl (p8 rfl ?_)) ?_
      ·refine aV rfl fun y=>p8 rfl (aV rfl fun x=>aV rfl fun z=>?_)
       cases z with
       |none=>rfl
       |some k=>rfl
      ·refine aV rfl fun y=>p8 rfl (aV rfl fun x=>aV rfl fun z=>?_)
       cases z with
       |none=>rfl
       |some k=>rfl
   ·obtain⟨r,e⟩:=e
    cases r<;>rfl
structure ML (le:ajm->ajm->Prop)(X Y o:List ajm)(i j:Nat):Prop where
 perm:o.Perm (X.take i++Y.take j)
 up:o.Pairwise le
 agB:∀u∈o,∀v∈X.drop i,le u v
 by_:∀u∈o,∀v∈Y.drop j,le u v
variable{le:ajm->ajm->Prop}{X Y o:List ajm}{i j k:Nat}
theorem ML.swap (h:ML le X Y o i j):ML le Y X o j i:=⟨h.perm.trans am6,h.up,h.by_,h.agB⟩
theorem ML.take (h:ML le X Y o i j)(sx:X.Pairwise le)(k:Nat)(hl:∀u∈(X.drop i).take k,∀v∈Y.drop j,le u v):ML le X Y (o++(X.drop i).take k) (i+k) j:=by
 have e1:X.take (i+k)=X.take i++(X.drop i).take k:=arB;have e2:X.drop i=(X.drop i).take k++X.drop (i+k):=by rw[←at6];exact(amh k (X.drop i)).symm
 have sd:(X.drop i).Pairwise le:=sx.sublist (asq i X);rw[e2,anj]at sd;obtain⟨s1,s2,s3⟩:=sd;have hm:∀v,v∈(X.drop i).take k->v∈X.drop i:=fun v hv=>aj1 hv;have hd:∀v,v∈X.drop (i+k)->v∈X.drop i:=fun v hv=>by rw[e2];exact ai1.mpr (.inr hv)
 refine⟨?_,anj.mpr ⟨h.up,s1,fun u hu v hv=>h.agB u hu v (hm v hv)⟩,fun u hu v hv=>?_,fun u hu v hv=>?_⟩
 .rw[e1];refine(h.perm.append_right _).trans ?_;rw[ak6,ak6];exact aor _ am6
 .rcases ai1.mp hu with hu|hu
  .exact h.agB u hu v (hd v hv)
  .exact s3 u hu v hv
 .rcases ai1.mp hu with hu|hu
  .exact h.by_ u hu v hv
  .exact hl u hu v hv
def G6 (le:ajm->ajm->Prop)(X Y o:List ajm):Prop:=o.Perm (X++Y)∧o.Pairwise le
theorem ML.T5 (h:ML le X Y o i j)(sx:X.Pairwise le)(ag2:Y.Pairwise le)(hl:∀u∈X.drop i,∀v∈Y.drop j,le u v):G6 le X Y (o++X.drop i++Y.drop j):=by
 have h1:=h.take sx X.length (by rw[ajY (by simp)];exact hl);rw[ajY (by simp)]at h1;have h2:=h1.swap.take ag2 Y.length (fun u _ v hv=>by rw[akh (by lia)]at hv;exact ai8 hv aiX)
 rw[ajY (by simp)]at h2;refine⟨h2.perm.trans ?_,h2.up⟩;rw[ajY (by lia),ajY (by lia)];exact am6
theorem G6.swap (h:G6 le X Y o):G6 le Y X o:=⟨h.1.trans am6,h.2⟩
theorem ML.one (h:ML le X Y o i j)(sx:X.Pairwise le){x:ajm}(hx:X[i]?=some x)(hl:∀v∈Y.drop j,le x v):ML le X Y (o++[x]) (i+1) j:=by
 have e:(X.drop i).take 1=[x]:=by obtain⟨hi,rfl⟩:=ajj.mp hx;rw[akJ hi];rfl
 have:=h.take sx 1 (by rw[e];intro u hu;rw[ai5.mp hu];exact hl);rwa [e]at this
theorem vV {Z:List ajm}(sz:Z.Pairwise le)(hr:∀x,le x x){j:Nat}{y:ajm}(hy:Z[j]?=some y):∀v∈Z.drop j,le y v:=by
 obtain⟨hj,rfl⟩:=ajj.mp hy;have:=sz.sublist (asq j Z);rw[akJ hj]at this ⊢;intro v hv;rcases ai3.mp hv with rfl|hv
 .exact hr _
 .exact(arW.mp this).1 v hv
def kl (κ:KeyKind)(x y:ajm):Prop:=κ.kle (kf κ x) (kf κ y)
theorem tO (κ:KeyKind)(x:ajm):kl κ x x:=ak0 _
theorem rW {κ:KeyKind}{x y z:ajm}(h:kl κ x y)(g:kl κ y z):kl κ x z:=alK h g
structure Mc (κ:KeyKind)(a b:Array ajm):Prop where
 ka:∀x∈a.toList,uM κ x
 kb:∀x∈b.toList,uM κ x
 sa:a.toList.Pairwise (kl κ)
 sb:b.toList.Pairwise (kl κ)
def Rs (κ:KeyKind)(a b o:Array ajm):Prop:=G6 (kl κ) a.toList b.toList o.toList
def aiy (κ:KeyKind)(a b o:Array ajm)(i j:Nat):Prop:=ML (kl κ) a.toList b.toList o.toList i j∧i+1<a.size∧j<b.size
theorem rY (a:Array ajm)(i:Nat):(a.extract i).toList=a.toList.drop i:=by rw[akI,aka,ajY (by simp)]
theorem K8 (a:Array ajm)(i k:Nat):(a.extract i (i+k)).toList=(a.toList.drop i).take k:=by rw[akI,aka];congr 1;lia
theorem dK {a:Array ajm}{i:Nat}{x:ajm}(h:a[i]?=some x):a.toList[i]?=some x:=by rw[←h];simp
theorem cW {a:Array ajm}{i:Nat}(h:i<a.size):∃x,a[i]?=some x∧x∈a.toList:=⟨a[i],getElem?_pos _ i h,by simp⟩
section
variable{prog:ajr}{w:ajI}{A:ajO}{E:aiH->aiK->Prop}{s:aiK}{κ:KeyKind}{kk:ame}{a b o:Array ajm}{i j:Nat}
theorem K9 (M:Mc κ a b)(h:ML (kl κ) a.toList b.toList o.toList i j)(e:i=a.size∨j=b.size):Rs κ a b (dnL a b o i j):=by
 unfold Rs dnL;rw[aj3,aj3,rY,rY];refine h.T5 M.sa M.sb fun u hu v hv=>?_;rcases e with rfl|rfl
 .rw[akh (by simp)]at hu;exact ai8 hu aiX
 .rw[akh (by simp)]at hv;exact ai8 hv aiX
theorem T6 (M:Mc κ a b)(hl:∀x,a[a.size-1]?=some x->∀y∈b.toList,kl κ y x)(h:ML (kl κ) a.toList b.toList o.toList i j)(e:i+1=a.size):Rs κ a b (ltL a b o i j):=by
 unfold Rs ltL;rw[aj3,aj3,rY,rY];refine(h.swap.T5 M.sb M.sa fun u hu v hv=>?_).swap;obtain⟨x,hx,_⟩:=cW (a:=a) (i:=i) (by lia);have e2:a.toList.drop i=[x]:=by obtain⟨hi,rfl⟩:=ajj.mp (dK hx);rw[akJ hi,akh (by simp;lia)]
 rw[e2]at hv;rw[ai5.mp hv];exact hl x (by rw[show a.size-1=i by lia];exact hx) u (akj hu)
theorem PT (M:Mc κ a b)(h:ML (kl κ) a.toList b.toList o.toList i j){x y:ajm}(hx:a[i]?=some x)(hy:b[j]?=some y)(hc:kl κ y x):ML (kl κ) a.toList b.toList (o.push y).toList i (j+1):=by rw[alS];exact(h.swap.one M.sb (dK hy) fun v hv=>rW hc (vV M.sa (tO κ) (dK hx) v hv)).swap
theorem adI (M:Mc κ a b)(h:ML (kl κ) a.toList b.toList o.toList i j){x y:ajm}(hx:a[i]?=some x)(hy:b[j]?=some y)(hc:kl κ x y):ML (kl κ) a.toList b.toList (o.push x).toList (i+1) j:=by rw[alS];exact h.one M.sa (dK hx) fun v hv=>rW hc (vV M.sb (tO κ) (dK hy) v hv)
theorem adJ (hO:lR prog w A s kk κ)(M:Mc κ a b)(hl:∀x,a[a.size-1]?=some x->∀y∈b.toList,kl κ y x){tt mg:Nat}{st:ajy}{Q:agG->ajy->Prop}(hk:ak4 st=kk)(ht:1<=tt)(h:aiy κ a b o i j)(h1:∀r c,Rs κ a b r->Q (some r,c) st)(h2:∀o' i' j' ac ahE,aiy κ a b o' i' j'->i+j+1<=i'+j'->Q (none,o',i',j',ac,ahE) st):wpS (ai7 prog w) A E s (lo1 a b tt mg o i j) Q st:=by
 unfold lo1;refine akN (I:=fun x c st'=>st'=st∧∃o' i' j' ac ahE,c=(none,o',i',j',ac,ahE)∧aiy κ a b o' i' j'∧i+j+x<=i'+j') ?g1 ?g2 ⟨rfl,o,i,j,0,0,rfl,h,by lia⟩;case g2=>rintro c st' ⟨rfl,o',i',j',ac,ahE,rfl,m1,m2⟩;exact h2 _ _ _ _ _ m1 (by lia)
 case g1=>
  rintro x c st' _ _ ⟨rfl,o',i',j',ac,ahE,rfl,⟨m1,m2,m3⟩,m4⟩;dsimp only;obtain⟨u,hu,hu'⟩:=cW (a:=a) (i:=i') (by lia);obtain⟨v,hv,hv'⟩:=cW (a:=b) (i:=j') (by lia);refine ajc (bR hv (ajc (bR hu (ajc (BX hO hk (M.kb v hv') (M.ka u hu') ?_)))));cases hc:κ.blt (kf κ v) (kf κ u)with
  |true=>
   have n1:=PT M m1 hu hv (akx hc);dsimp only;simp only[if_true];refine ajc (bR hv ?_);by_cases e:j'+1=b.size
   .rw[aiP (by simpa using e)];exact ajq (h1 _ _ (K9 M n1 (.inr e)))
   .rw[aiL (by simpa using e)];by_cases f:ahE+1≥mg
    .rw[aiP f];exact ajq (h2 _ _ _ _ _ ⟨n1,m2,by lia⟩ (by lia))
    .rw[aiL f];exact ajq ⟨rfl,_,_,_,_,_,rfl,⟨n1,m2,by lia⟩,by lia⟩
  |false=>
   have n1:=adI M m1 hu hv hc;dsimp only;simp only[aiT,if_false];refine ajc (bR hu ?_);by_cases e:i'+1+1=a.size
   .rw[aiP (by simpa using e)];exact ajq (h1 _ _ (T6 M hl n1 e))
   .rw[aiL (by simpa using e)];by_cases f:ac+1≥mg
    .rw[aiP f];exact ajq (h2 _ _ _ _ _ ⟨n1,by lia,m3⟩ (by lia))
    .rw[aiL f];exact ajq ⟨rfl,_,_,_,_,_,rfl,⟨n1,by lia,m3⟩,by lia⟩
def agX (κ:KeyKind)(a b:Array ajm)(t:Nat)(st:ajy)(r:ForInStep agI)(st':ajy):Prop:=(∃g,st'=vq st g)∧((∃x c,r=.done (some x,c)∧Rs κ a b x)∨∃o i j mg ac ahE,(r=.done (none,o,i,j,mg,ac,ahE)∨r=.yield (none,o,i,j,mg,ac,ahE))∧aiy κ a b o i j∧t<=i+j)
theorem Ze (M:Mc κ a b)(hl:∀x,a[a.size-1]?=some x->∀y∈b.toList,kl κ y x){mg ac ahE t:Nat}{dg st:ajy}(hs:∃g,st=vq dg g)(h:ML (kl κ) a.toList b.toList o.toList i j)(hi:i+1<a.size)(hj:j<b.size)(ht:t<=i+1+j){x:ajm}(hx:a[i]?=some x)(hc:∀v∈b.toList.drop j,kl κ x v):wpS (ai7 prog w) A E s (lo4 a b mg ac ahE o i j) (agX κ a b t dg) st:=by
 have n1:ML (kl κ) a.toList b.toList (o.push x).toList (i+1) j:=by rw[alS];exact h.one M.sa (dK hx) hc
 unfold lo4;refine ajc (bR hx ?_);by_cases e:i+1+1=a.size
 .rw[aiP (by simpa using e)];exact ajq ⟨hs,.inl ⟨_,_,rfl,T6 M hl n1 e⟩⟩
 .rw[aiL (by simpa using e)];by_cases f:(decide (ac<7)&&decide (ahE<7))=true
  .rw[aiP f];exact ajq ⟨hs,.inr ⟨_,_,_,_,_,_,.inl rfl,⟨n1,by lia,hj⟩,ht⟩⟩
  .rw[aiL f];exact ajq ⟨hs,.inr ⟨_,_,_,_,_,_,.inr rfl,⟨n1,by lia,hj⟩,ht⟩⟩
theorem Ca {n:Nat}(ks:∀x∈a.toList,uM κ x)(hn:i+n<=a.size)(sa:vU κ a i (i+n)){y:ajm}(hy:uM κ y):ahV κ false y a i n (fun k=>!κ.blt (kf κ y) (KK κ a (i+k))):=by
 refine⟨hy,fun k hk=>?_,fun p q h1 h2 h3=>?_⟩
 .obtain⟨x,e1,e2⟩:=cW (a:=a) (i:=i+k) (by lia);refine⟨x,e1,ks x e2,?_⟩;simp only[aiT,if_false];rw[bW e1]
 .have hz:κ.kle (KK κ a (i+q)) (kf κ y):=by unfold aqr;simpa using h3
  have r:κ.kle (KK κ a (i+p)) (kf κ y):=alK (sa _ _ (by lia) (by lia) (by lia)) hz;unfold aqr at r;simpa using r
theorem Ij {n:Nat}(ks:∀x∈a.toList,uM κ x)(hn:i+n<=a.size)(sa:vU κ a i (i+n)){y:ajm}(hy:uM κ y):ahV κ true y a i n (fun k=>κ.blt (KK κ a (i+k)) (kf κ y)):=by refine⟨hy,fun k hk=>?_,fun p q h1 h2 h3=>KeyOrd.klt_of_kle_of_klt (sa _ _ (by lia) (by lia) (by lia)) h3⟩;obtain⟨x,e1,e2⟩:=cW (a:=a) (i:=i+k) (by lia);refine⟨x,e1,ks x e2,?_⟩;simp only[if_true];rw[bW e1]
theorem Cd (sa:a.toList.Pairwise (kl κ)){p q:Nat}(hq:q<=a.size):vU κ a p q:=by
 intro u v h1 h2 h3;obtain⟨x,e1,e2⟩:=cW (a:=a) (i:=u) (by lia);obtain⟨z,f1,f2⟩:=cW (a:=a) (i:=v) (by lia);rw[bW e1,bW f1];by_cases e:u=v
 .rw[e,f1]at e1;cases e1;exact tO κ _
 .have:=alz.mp sa u v (by simp;lia) (by simp;lia) (by lia);obtain⟨g1,rfl⟩:=ajj.mp (dK e1);obtain⟨g2,rfl⟩:=ajj.mp (dK f1);exact this
theorem Ce {k:Nat}{u:ajm}(h:u∈(a.toList.drop i).take k):∃p,i<=p∧p<i+k∧a[p]?=some u:=by obtain⟨q,hq,e⟩:=ank.mp h;rw[ajC,akB]at hq;refine⟨i+q,by lia,by lia,?_⟩;rw[←e,asr,ass];simp
theorem La {u:ajm}(h:u∈a.toList.drop i):∃p,i<=p∧a[p]?=some u:=by obtain⟨q,hq,e⟩:=ank.mp h;refine⟨i+q,by lia,?_⟩;rw[←e,ass];simp
theorem Zf (hO:lR prog w A s kk κ)(M:Mc κ a b)(hl:∀x,a[a.size-1]?=some x->∀y∈b.toList,kl κ y x){mg ac ahE t:Nat}{dg st:ajy}(hk:ak4 st=kk)(hs:∃g,st=vq dg g)(h:ML (kl κ) a.toList b.toList o.toList i j)(hi:i+1<a.size)(hj:j<b.size)(ht:t<=i+1+j){x y:ajm}(hx:a[i]?=some x)(hy:b[j]?=some y)(hc:kl κ y x):wpS (ai7 prog w) A E s (lo3 a b mg ac ahE o i j) (agX κ a b t dg) st:=by
 have n1:=PT M h hx hy hc;unfold lo3;refine ajc (bR hy ?_);by_cases e:j+1=b.size
 .rw[aiP (by simpa using e)];exact ajq ⟨hs,.inl ⟨_,_,rfl,K9 M n1 (.inr e)⟩⟩
 .rw[aiL (by simpa using e)];refine ajc (bR hx ?_);have kx:uM κ x:=M.ka x (ajo (dK hx));refine ajc (xN hO (Ij (n:=b.size-(j+1)) M.kb (by omega) (Cd M.sb (by omega)) kx) hk (by omega) fun k k1 k2 k3=>?_);have hlo:∀u∈(b.toList.drop (j+1)).take k,∀v∈a.toList.drop i,kl κ u v:=fun u hu v hv=>by obtain⟨p,p1,p2,p3⟩:=Ce hu;have:=k2 (p-(j+1)) (by omega);rw[show j+1+(p-(j+1))=p by omega,bW p3]at this;exact rW (akx this) (vV M.sa (tO κ) (dK hx) v hv)
  have n2:=(n1.swap.take M.sb k hlo).swap;rw[←K8,←aj3]at n2;have hhi:j+1+k<b.size->∀v∈b.toList.drop (j+1+k),kl κ x v:=fun hb v hv=>by obtain⟨p,p1,p2⟩:=La hv;have pl:p<b.size:=(akE.mp p2).1;have:=k3 (p-(j+1)) (by omega) (by omega);rw[show j+1+(p-(j+1))=p by omega,bW p2]at this;exact this
  dsimp only;by_cases g:k>0
  .rw[aiP g];by_cases f:j+1+k=b.size
   .rw[aiP (by simpa using f)];exact ajq ⟨hs,.inl ⟨_,_,rfl,K9 M n2 (.inr f)⟩⟩
   .rw[aiL (by simpa using f)];exact Ze M hl hs n2 hi (by omega) (by omega) hx (hhi (by omega))
  .rw[aiL g];obtain rfl:k=0:=by omega
   exact Ze M hl hs n1 hi (by omega) (by omega) hx (hhi (by omega))
theorem adK (hO:lR prog w A s kk κ)(M:Mc κ a b)(hl:∀x,a[a.size-1]?=some x->∀y∈b.toList,kl κ y x){mg ac ahE t:Nat}{dg st:ajy}(hk:ak4 st=kk)(hs:∃g,st=vq dg g)(h:aiy κ a b o i j)(ht:t<=i+j):wpS (ai7 prog w) A E s (lo5 a b ac ahE o i j mg) (agX κ a b t dg) st:=by
 obtain⟨m1,m2,m3⟩:=h;unfold lo5;rw[Af];refine ajc (amR ?_);have hs':∃g,vq st mg=vq dg g:=by obtain⟨g,rfl⟩:=hs;exact⟨mg,rfl⟩
 obtain⟨y,hy,hy'⟩:=cW (a:=b) (i:=j) m3;refine ajc (bR hy ?_);refine ajc (xN hO (Ca (n:=a.size-i) M.ka (by omega) (Cd M.sa (by omega)) (M.kb y hy')) hk (by omega) fun k k1 k2 k3=>?_);have hlo:∀u∈(a.toList.drop i).take k,∀v∈b.toList.drop j,kl κ u v:=fun u hu v hv=>by
  obtain⟨p,p1,p2,p3⟩:=Ce hu;have:=k2 (p-i) (by omega);rw[show i+(p-i)=p by omega,bW p3]at this;have r:kl κ u y:=by unfold kl aqr;simpa using this
  exact rW r (vV M.sb (tO κ) (dK hy) v hv)
 have n2:=m1.take M.sa k hlo;rw[←K8,←aj3]at n2;have nx:∀x,i+k<a.size->a[i+k]?=some x->kl κ y x:=fun x hb hx=>by have:=k3 k (aiN _) (by omega);rw[bW hx]at this;exact akx (by unfold at7;simpa using this)
 dsimp only;by_cases g:k>0
 .rw[aiP g];by_cases e:i+k+1=a.size
  .rw[aiP (by simpa using e)];exact ajq ⟨hs',.inl ⟨_,_,rfl,T6 M hl n2 e⟩⟩
  .rw[aiL (by simpa using e)];by_cases f:i+k=a.size
   .rw[aiP (by simpa using f)];exact ajq ⟨hs',.inl ⟨_,_,rfl,K9 M n2 (.inl f)⟩⟩
   .rw[aiL (by simpa using f)];obtain⟨x,hx,hx'⟩:=cW (a:=a) (i:=i+k) (by omega);exact Zf hO M hl hk hs' n2 (by omega) m3 (by omega) hx hy (nx x (by omega) hx)
 .rw[aiL g];obtain rfl:k=0:=by omega
  obtain⟨x,hx,hx'⟩:=cW (a:=a) (i:=i) (by omega);exact Zf hO M hl hk hs' m1 (by omega) m3 (by omega) hx hy (nx x (by omega) hx)
theorem adL (hO:lR prog w A s kk κ)(M:Mc κ a b)(hl:∀x,a[a.size-1]?=some x->∀y∈b.toList,kl κ y x){tt mg ac ahE:Nat}{dg st:ajy}{Q:agI->ajy->Prop}(hk:ak4 dg=kk)(hs:∃g,st=vq dg g)(h:aiy κ a b o i j)(h1:∀r c g,Rs κ a b r->Q (some r,c) (vq dg g))(h2:∀o' i' j' mg ac ahE g,aiy κ a b o' i' j'->i+j<=i'+j'->Q (none,o',i',j',mg,ac,ahE) (vq dg g)):wpS (ai7 prog w) A E s (lo2 a b tt mg o i j ac ahE) Q st:=by
 unfold lo2;refine akN (I:=fun x c st'=>(∃g,st'=vq dg g)∧∃o' i' j' mg ac ahE,c=(none,o',i',j',mg,ac,ahE)∧aiy κ a b o' i' j'∧i+j<=i'+j') ?g1 ?g2 ⟨hs,o,i,j,mg,ac,ahE,rfl,h,aiN _⟩;case g2=>rintro c st' ⟨⟨g,rfl⟩,o',i',j',mg,ac,ahE,rfl,m1,m2⟩;exact h2 _ _ _ _ _ _ _ m1 m2
 case g1=>
  rintro x c st' _ _ ⟨⟨g,rfl⟩,o',i',j',mg,ac,ahE,rfl,m1,m2⟩;dsimp only;split;all_goals
   refine amY (adK hO M hl hk ⟨g,rfl⟩ m1 m2) ?_;rintro r st' ⟨⟨g,rfl⟩,⟨x,c,rfl,z⟩|⟨o,i,j,mg,ac,ahE,rfl|rfl,z,z2⟩⟩
   .exact h1 _ _ _ z
   .exact h2 _ _ _ _ _ _ _ z z2
   .exact⟨⟨g,rfl⟩,_,_,_,_,_,_,rfl,z,z2⟩
theorem adM (hO:lR prog w A s kk κ)(M:Mc κ a b)(hl:∀x,a[a.size-1]?=some x->∀y∈b.toList,kl κ y x){st:ajy}{Q:Array ajm->ajy->Prop}(hk:ak4 st=kk)(ahQ:1<=a.size)(aiB:1<=b.size)(hf:∀x y,a[0]?=some x->b[0]?=some y->kl κ y x)(h:∀r g,Rs κ a b r->Q r (vq st g)):wpS (ai7 prog w) A E s (mLo a b) Q st:=by
 rw[adH];refine ajc (ap9 (amr ⟨rfl,?_⟩));obtain⟨y,hy,hy'⟩:=cW (a:=b) (i:=0) aiB;obtain⟨x,hx,hx'⟩:=cW (a:=a) (i:=0) ahQ;refine ajc (bR hy ?_);have n0:ML (kl κ) a.toList b.toList (#[]:Array ajm).toList 0 0:=⟨amL _,apB,fun u hu=>ai8 hu aiX,fun u hu=>ai8 hu aiX⟩;have n1:ML (kl κ) a.toList b.toList (#[y]:Array ajm).toList 0 1:=PT M n0 hx hy (hf x y hx hy);by_cases e:1=b.size
 .rw[aiP (by simpa using e)];exact ajq (h _ (apl st) (K9 M n1 (.inr e)))
 .rw[aiL (by simpa using e)];by_cases f:0+1=a.size
  .rw[aiP (by simpa using f)];exact ajq (h _ (apl st) (T6 M hl n1 f))
  .rw[aiL (by simpa using f)];refine ajc (aof ?_);refine ajc (amY (akN (I:=fun x c st'=>(∃g,st'=vq st g)∧∃o' i' j' mg,c=(none,o',i',j',mg)∧aiy κ a b o' i' j'∧x+1<=i'+j') (Q:=fun c st'=>(∃g,st'=vq st g)∧∃r d,c=(some r,d)∧Rs κ a b r) ?g1 ?g2 ⟨⟨apl st,rfl⟩,_,_,_,_,rfl,⟨n1,by lia,by lia⟩,by lia⟩) ?g4);case g2=>rintro c st' ⟨_,o',i',j',mg,rfl,⟨m1,m2,m3⟩,m4⟩;lia
   case g4=>rintro c st' ⟨⟨g,rfl⟩,r,d,rfl,m1⟩;exact ajq (h r g m1)
   case g1=>rintro x c st' _ _ ⟨⟨g,rfl⟩,o',i',j',mg,rfl,m1,m2⟩;unfold loB;dsimp only;refine ajc (adJ hO M hl hk (by lia) m1 (fun r d z=>ajq ⟨⟨g,rfl⟩,_,_,rfl,z⟩) fun o2 i2 j2 ac ahE z1 z2=>?_);dsimp only;refine ajc (ap9 (amr ⟨rfl,?_⟩));refine ajc (adL hO M hl (dg:=st) hk ⟨g,rfl⟩ z1 (fun r d g z=>ajq ⟨⟨g,rfl⟩,_,_,rfl,z⟩) fun o3 i3 j3 mg ac ahE g z3 z4=>?_);dsimp only;rw[Af];exact ajc (amR (ajq ⟨⟨_,rfl⟩,_,_,_,_,rfl,z3,by lia⟩))
end
end My
namespace My
open PySem PyProof.Rows
abbrev agU:=Option (Array ajm)×Nat×Nat×Array ajm×Nat
abbrev ag1:=Option (Array ajm)×Nat×Nat×Array ajm×Nat×Nat
abbrev ahC:=Option (Array ajm)×Nat×Nat×Array ajm×Nat×Nat×Nat
noncomputable def mHi:Array ajm->Array ajm->StateT ajy Sem (Array ajm):=sortPriv%PySem.Builtin.mergeHi
noncomputable def Zg (a b o:Array ajm)(i j:Nat):Array ajm:=a.extract 0 i++b.extract 0 j++o.reverse
noncomputable def fbH (a b o:Array ajm)(i j:Nat):Array ajm:=b.extract 0 j++a.extract 0 i++o.reverse
noncomputable def hi1 (a b:Array ajm)(tt mg:Nat)(o:Array ajm)(i j:Nat):StateT ajy Sem ag1:=
 forIn [0:tt] ((none,i,j,o,0,0):ag1) fun _ c=>do
  let y←anG b (c.2.2.1-1)
  let x←anG a (c.2.1-1)
  let z←lt' y x
  match z with
  |some v=>
   if v=true then do
    let x←anG a (c.2.1-1)
    if(c.2.1-1==0)=true then pure (.done (some (Zg a b (c.2.2.2.1.push x) (c.2.1-1) c.2.2.1),c.2.1-1,c.2.2.1,c.2.2.2.1.push x,c.2.2.2.2.1+1,0))
    else if c.2.2.2.2.1+1≥mg then pure (.done (none,c.2.1-1,c.2.2.1,c.2.2.2.1.push x,c.2.2.2.2.1+1,0))
    else pure (.yield (none,c.2.1-1,c.2.2.1,c.2.2.2.1.push x,c.2.2.2.2.1+1,0))
   else do
    let y←anG b (c.2.2.1-1)
    if(c.2.2.1-1==1)=true then pure (.done (some (fbH a b (c.2.2.2.1.push y) c.2.1 (c.2.2.1-1)),c.2.1,c.2.2.1-1,c.2.2.2.1.push y,0,c.2.2.2.2.2+1))
    else if c.2.2.2.2.2+1≥mg then pure (.done (none,c.2.1,c.2.2.1-1,c.2.2.2.1.push y,0,c.2.2.2.2.2+1))
    else pure (.yield (none,c.2.1,c.2.2.1-1,c.2.2.2.1.push y,0,c.2.2.2.2.2+1))
  |_=>pure (.done (some (Zg a b c.2.2.2.1 c.2.1 c.2.2.1),c.2.1,c.2.2.1,c.2.2.2.1,c.2.2.2.2.1,c.2.2.2.2.2))
noncomputable def Vt (a b:Array ajm)(mg ac ahE:Nat)(o:Array ajm)(i j:Nat):StateT ajy Sem (ForInStep ahC):=do
 let x←anG a (i-1)
 if(i-1==0)=true then pure (.done (some (Zg a b (o.push x) (i-1) j),i-1,j,o.push x,mg,ac,ahE))
 else if(decide (ac<7)&&decide (ahE<7))=true then pure (.done (none,i-1,j,o.push x,mg,ac,ahE))
 else pure (.yield (none,i-1,j,o.push x,mg,ac,ahE))
noncomputable def hi3 (a b:Array ajm)(mg ac ahE:Nat)(o:Array ajm)(i j:Nat):StateT ajy Sem (ForInStep ahC):=do
 let y←anG b (j-1)
 if(j-1==1)=true then pure (.done (some (fbH a b (o.push y) i (j-1)),i,j-1,o.push y,mg,ac,ahE))
 else do
  let x←anG a (i-1)
  let z←gal true x b 0 (j-1) (j-1-1)
  match z with
  |some k=>
   if j-1-k>0 then
    if(k==1)=true then pure (.done (some (fbH a b (o.push y++(b.extract k (j-1)).reverse) i k),i,k,o.push y++(b.extract k (j-1)).reverse,mg,ac,j-1-k))
    else if(k==0)=true then pure (.done (some (Zg a b (o.push y++(b.extract k (j-1)).reverse) i k),i,k,o.push y++(b.extract k (j-1)).reverse,mg,ac,j-1-k))
    else Vt a b mg ac (j-1-k) (o.push y++(b.extract k (j-1)).reverse) i k
   else Vt a b mg ac (j-1-k) (o.push y) i (j-1)
  |_=>pure (.done (some (Zg a b (o.push y) i (j-1)),i,j-1,o.push y,mg,ac,ahE))
noncomputable def hi5 (a b:Array ajm)(ac ahE:Nat)(o:Array ajm)(i j mg:Nat):StateT ajy Sem (ForInStep ahC):=do
 setG mg
 let y←anG b (j-1)
 let z←gal false y a 0 i (i-1)
 match z with
 |some k=>
  if i-k>0 then
   if(k==0)=true then pure (.done (some (Zg a b (o++(a.extract k i).reverse) k j),k,j,o++(a.extract k i).reverse,mg,i-k,ahE))
   else hi3 a b mg (i-k) ahE (o++(a.extract k i).reverse) k j
  else hi3 a b mg (i-k) ahE o i j
 |_=>pure (.done (some (Zg a b o i j),i,j,o,mg,ac,ahE))
noncomputable def hi2 (a b:Array ajm)(tt mg:Nat)(o:Array ajm)(i j ac ahE:Nat):StateT ajy Sem ahC:=forIn [0:tt] ((none,i,j,o,mg,ac,ahE):ahC) fun _ c=>if c.2.2.2.2.1>1 then hi5 a b c.2.2.2.2.2.1 c.2.2.2.2.2.2 c.2.2.2.1 c.2.1 c.2.2.1 (c.2.2.2.2.1-1)else hi5 a b c.2.2.2.2.2.1 c.2.2.2.2.2.2 c.2.2.2.1 c.2.1 c.2.2.1 c.2.2.2.2.1
noncomputable def hiB (a b:Array ajm)(tt:Nat)(c:agU):StateT ajy Sem (ForInStep agU):=do
 let d←hi1 a b tt c.2.2.2.2 c.2.2.2.1 c.2.1 c.2.2.1
 match d.1 with
 |some r=>pure (.done (some r,d.2.1,d.2.2.1,d.2.2.2.1,c.2.2.2.2))
 |none=>do
  liftM (arK "list.sort.gallop")
  let e←hi2 a b tt (c.2.2.2.2+1) d.2.2.2.1 d.2.1 d.2.2.1 d.2.2.2.2.1 d.2.2.2.2.2
  match e.1 with
  |some r=>pure (.done (some r,e.2.1,e.2.2.1,e.2.2.2.1,e.2.2.2.2.1))
  |none=>do
   setG (e.2.2.2.2.1+1)
   pure (.yield (none,e.2.1,e.2.2.1,e.2.2.2.1,e.2.2.2.2.1+1))
theorem adN (a b:Array ajm):mHi a b=(do
  liftM (arK "list.sort.merge-hi")
  let x←anG a (a.size-1)
  if(a.size-1==0)=true then pure (Zg a b #[x] (a.size-1) b.size)
  else if(b.size==1)=true then pure (fbH a b #[x] (a.size-1) b.size)
  else do
   let st←get
   let c←forIn [0:a.size+b.size] ((none,a.size-1,b.size,#[x],apl st):agU) fun _ c=>hiB a b (a.size+b.size) c
   match c.1 with
   |some r=>pure r
   |none=>liftM (unsupported "internal:list.sort.merge-bound")):=by
 refine aV rfl fun _=>aV rfl fun y=>?_
 refine p8 rfl (p8 rfl (aV rfl fun st=>aV (Vs fun x c=>?_) fun c=>by obtain⟨r,_⟩:=c;cases r<;>rfl))
 refine aV (Vs fun x c=>?_) fun d=>?_
 ·refine aV rfl fun y=>aV rfl fun x=>aV rfl fun z=>?_
  cases z with
  |none=>rfl
  |some v=>rfl
 ·obtain⟨r,d⟩:=d
  cases r with
  |some r=>rfl
  |none=>
   refine aV rfl fun _=>aV (Vs fun x c=>?_) fun e=>?_
   ·refine p8 ?_ ?_
    all_goals
     refine aV rfl fun _=>aV rfl fun y=>aV rfl fun z=>?_
     cases z with
     |none=>rfl
     |some k=>
      refine p8 (p8 rfl ?_) ?_
      all_goals
       refine aV rfl fun y=>p8 rfl (aV rfl fun x=>aV rfl fun z=>?_)
       cases z with
       |none=>rfl
       |some k=>rfl
   ·obtain⟨r,e⟩:=e
    cases r<;>rfl
def kg (κ:KeyKind)(x y:ajm):Prop:=kl κ y x
theorem abu (κ:KeyKind)(x:ajm):kg κ x x:=tO κ x
theorem rZ {κ:KeyKind}{x y z:ajm}(h:kg κ x y)(g:kg κ y z):kg κ x z:=rW g h
section
variable{prog:ajr}{w:ajI}{A:ajO}{E:aiH->aiK->Prop}{s:aiK}{κ:KeyKind}{kk:ame}{a b o:Array ajm}{i j:Nat}
def HL (κ:KeyKind)(a b o:Array ajm)(i j:Nat):Prop:=ML (kg κ) a.toList.reverse b.toList.reverse o.toList (a.size-i) (b.size-j)
def ah9 (κ:KeyKind)(a b o:Array ajm)(i j:Nat):Prop:=HL κ a b o i j∧1<=i∧i<=a.size∧2<=j∧j<=b.size
theorem qP {X:List ajm}(h:X.Pairwise (kl κ)):X.reverse.Pairwise (kg κ):=aqJ.mpr h
theorem acO {r:Array ajm}(h:G6 (kg κ) a.toList.reverse b.toList.reverse r.toList.reverse):Rs κ a b r:=by
 refine⟨?_,?_⟩
 .refine(aob _).symm.trans (h.1.trans ?_);exact(aob _).append (aob _)
 .have:=aqJ.mp h.2;exact this
theorem qb {X:List ajm}{n i:Nat}(e:X.length=n)(h:i<=n):(X.take i).reverse=X.reverse.drop (n-i):=by rw[List.reverse_take,e]
theorem qd (a:Array ajm)(i:Nat):(a.extract 0 i).toList=a.toList.take i:=by rw[akI,aka,apg,ao1]
theorem Cg (M:Mc κ a b)(hi:i<=a.size)(hj:j<=b.size)(h:HL κ a b o i j)(e:i=0∨j=0):Rs κ a b (Zg a b o i j):=by
 refine acO ?_;have:=(ML.swap h).T5 (qP M.sb) (qP M.sa) fun u hu v hv=>by
  rcases e with rfl|rfl
  .rw[ao1,akh (by simp)]at hv;exact ai8 hv aiX
  .rw[ao1,akh (by simp)]at hu;exact ai8 hu aiX
 have e2:(Zg a b o i j).toList.reverse=o.toList++b.toList.reverse.drop (b.size-j)++a.toList.reverse.drop (a.size-i):=by unfold Zg;rw[aj3,aj3,qd,qd,anl,anz,anz,aoJ,qb (by simp) hi,qb (by simp) hj,ak6]
 rw[e2];exact this.swap
theorem Ik (M:Mc κ a b)(hf:∀y,b[0]?=some y->∀x∈a.toList,kl κ y x)(hi:i<=a.size)(h:HL κ a b o i j)(e:j=1)(hb:1<=b.size):Rs κ a b (fbH a b o i j):=by
 refine acO ?_;subst e;obtain⟨y,hy,_⟩:=cW (a:=b) (i:=0) hb;have:=ML.T5 h (qP M.sa) (qP M.sb) fun u hu v hv=>by
  have e2:b.toList.reverse.drop (b.size-1)=[y]:=by rw[←qb (by simp) hb];obtain⟨hi,rfl⟩:=ajj.mp (dK hy);rw[List.take_one,List.head?_eq_getElem?,dK hy];rfl
  rw[e2]at hv;rw[ai5.mp hv];exact hf y hy u (alI.mp (akj hu))
 have e2:(fbH a b o i 1).toList.reverse=o.toList++a.toList.reverse.drop (a.size-i)++b.toList.reverse.drop (b.size-1):=by unfold fbH;rw[aj3,aj3,qd,qd,anl,anz,anz,aoJ,qb (by simp) hi,qb (by simp) hb,ak6]
 rw[e2];exact this
theorem PX {i:Nat}{x:ajm}(h1:1<=i)(h2:i<=a.size)(h:a[i-1]?=some x):a.toList.reverse[a.size-i]?=some x:=by rw[List.getElem?_reverse (by simp;omega)];rw[←dK h];congr 1;simp;omega
theorem Il (M:Mc κ a b)(h:HL κ a b o i j)(h1:1<=i)(h2:i<=a.size){x:ajm}(hx:a[i-1]?=some x)(hc:∀v∈b.toList.reverse.drop (b.size-j),kg κ x v):HL κ a b (o.push x) (i-1) j:=by have:=ML.one h (qP M.sa) (PX h1 h2 hx) hc;unfold HL;rw[alS,show a.size-(i-1)=a.size-i+1 by lia];exact this
theorem T7 (M:Mc κ a b)(h:HL κ a b o i j)(h1:1<=j)(h2:j<=b.size){y:ajm}(hy:b[j-1]?=some y)(hc:∀v∈a.toList.reverse.drop (a.size-i),kg κ y v):HL κ a b (o.push y) i (j-1):=by have:=(ML.one (ML.swap h) (qP M.sb) (PX h1 h2 hy) hc).swap;unfold HL;rw[alS,show b.size-(j-1)=b.size-j+1 by lia];exact this
theorem Lb (sa:a.toList.Pairwise (kl κ))(h1:1<=i)(h2:i<=a.size){x:ajm}(hx:a[i-1]?=some x):∀v∈a.toList.reverse.drop (a.size-i),kg κ x v:=vV (qP sa) (abu κ) (PX h1 h2 hx)
theorem adO (hO:lR prog w A s kk κ)(M:Mc κ a b)(hf:∀y,b[0]?=some y->∀x∈a.toList,kl κ y x){tt mg:Nat}{st:ajy}{Q:ag1->ajy->Prop}(hk:ak4 st=kk)(ht:1<=tt)(h:ah9 κ a b o i j)(h1:∀r c,Rs κ a b r->Q (some r,c) st)(h2:∀o' i' j' ac ahE,ah9 κ a b o' i' j'->i'+j'+1<=i+j->Q (none,i',j',o',ac,ahE) st):wpS (ai7 prog w) A E s (hi1 a b tt mg o i j) Q st:=by
 unfold hi1;refine akN (I:=fun x c st'=>st'=st∧∃o' i' j' ac ahE,c=(none,i',j',o',ac,ahE)∧ah9 κ a b o' i' j'∧i'+j'+x<=i+j) ?g1 ?g2 ⟨rfl,o,i,j,0,0,rfl,h,by lia⟩;case g2=>rintro c st' ⟨rfl,o',i',j',ac,ahE,rfl,m1,m2⟩;exact h2 _ _ _ _ _ m1 (by lia)
 case g1=>
  rintro x c st' _ _ ⟨rfl,o',i',j',ac,ahE,rfl,⟨m1,m2,m3,m4,aiu⟩,ahs⟩;dsimp only;obtain⟨u,hu,hu'⟩:=cW (a:=a) (i:=i'-1) (by lia);obtain⟨v,hv,hv'⟩:=cW (a:=b) (i:=j'-1) (by lia);refine ajc (bR hv (ajc (bR hu (ajc (BX hO hk (M.kb v hv') (M.ka u hu') ?_)))));cases hc:κ.blt (kf κ v) (kf κ u)with
  |true=>
   have n1:=Il M m1 m2 m3 hu fun z hz=>rZ (show kg κ u v from akx hc) (Lb M.sb (by lia) aiu hv z hz);dsimp only;simp only[if_true];refine ajc (bR hu ?_);by_cases e:i'-1=0
   .rw[aiP (by simpa using e)];exact ajq (h1 _ _ (Cg M (by lia) aiu n1 (.inl e)))
   .rw[aiL (by simpa using e)];by_cases f:ac+1≥mg
    .rw[aiP f];exact ajq (h2 _ _ _ _ _ ⟨n1,by lia,by lia,m4,aiu⟩ (by lia))
    .rw[aiL f];exact ajq ⟨rfl,_,_,_,_,_,rfl,⟨n1,by lia,by lia,m4,aiu⟩,by lia⟩
  |false=>
   have n1:=T7 M m1 (by lia) aiu hv fun z hz=>rZ (show kg κ v u from hc) (Lb M.sa m2 m3 hu z hz);dsimp only;simp only[aiT,if_false];refine ajc (bR hv ?_);by_cases e:j'-1=1
   .rw[aiP (by simpa using e)];exact ajq (h1 _ _ (Ik M hf m3 n1 e (by lia)))
   .rw[aiL (by simpa using e)];by_cases f:ahE+1≥mg
    .rw[aiP f];exact ajq (h2 _ _ _ _ _ ⟨n1,m2,m3,by lia,by lia⟩ (by lia))
    .rw[aiL f];exact ajq ⟨rfl,_,_,_,_,_,rfl,⟨n1,m2,m3,by lia,by lia⟩,by lia⟩
def ahR (κ:KeyKind)(a b:Array ajm)(t:Nat)(st:ajy)(r:ForInStep ahC)(st':ajy):Prop:=(∃g,st'=vq st g)∧((∃x c,r=.done (some x,c)∧Rs κ a b x)∨∃o i j mg ac ahE,(r=.done (none,i,j,o,mg,ac,ahE)∨r=.yield (none,i,j,o,mg,ac,ahE))∧ah9 κ a b o i j∧i+j<=t)
theorem Zh (M:Mc κ a b){mg ac ahE t:Nat}{dg st:ajy}(hs:∃g,st=vq dg g)(h:ah9 κ a b o i j)(ht:i+j<=t){x:ajm}(hx:a[i-1]?=some x)(hc:∀v∈b.toList.reverse.drop (b.size-j),kg κ x v):wpS (ai7 prog w) A E s (Vt a b mg ac ahE o i j) (ahR κ a b t dg) st:=by
 obtain⟨m1,m2,m3,m4,aiu⟩:=h;have n1:=Il M m1 m2 m3 hx hc;unfold Vt;refine ajc (bR hx ?_);by_cases e:i-1=0
 .rw[aiP (by simpa using e)];exact ajq ⟨hs,.inl ⟨_,_,rfl,Cg M (by lia) aiu n1 (.inl e)⟩⟩
 .rw[aiL (by simpa using e)];by_cases f:(decide (ac<7)&&decide (ahE<7))=true
  .rw[aiP f];exact ajq ⟨hs,.inr ⟨_,_,_,_,_,_,.inl rfl,⟨n1,by lia,by lia,m4,aiu⟩,by lia⟩⟩
  .rw[aiL f];exact ajq ⟨hs,.inr ⟨_,_,_,_,_,_,.inr rfl,⟨n1,by lia,by lia,m4,aiu⟩,by lia⟩⟩
theorem Im {k i:Nat}(hk:k<=i)(hi:i<=a.size):(a.extract k i).reverse.toList=(a.toList.reverse.drop (a.size-i)).take (i-k):=by rw[anl,akI,aka,←qb (n:=a.size) (by simp) hi,List.take_reverse];rw[ajC,aoS (by simpa using hi),show i-(i-k)=k by lia,List.drop_take]
theorem Ci {k i:Nat}(hk:k<=i)(hi:i<=a.size){u:ajm}(h:u∈(a.toList.reverse.drop (a.size-i)).take (i-k)):∃p,k<=p∧p<i∧a[p]?=some u:=by rw[←Im hk hi,anl,alI,akI,aka]at h;obtain⟨p,p1,p2,p3⟩:=Ce h;exact⟨p,p1,by lia,p3⟩
theorem abv {i:Nat}(hi:i<=a.size){u:ajm}(h:u∈a.toList.reverse.drop (a.size-i)):∃p,p<i∧a[p]?=some u:=by obtain⟨p,_,p2,p3⟩:=Ci (a:=a) (ajW i) hi (u:=u) (by rw[ajY (by simp;omega)];exact h);exact⟨p,p2,p3⟩
theorem Zi (hO:lR prog w A s kk κ)(M:Mc κ a b)(hf:∀y,b[0]?=some y->∀x∈a.toList,kl κ y x){mg ac ahE t:Nat}{dg st:ajy}(hk:ak4 st=kk)(hs:∃g,st=vq dg g)(h:ah9 κ a b o i j)(ht:i+j<=t){x y:ajm}(hx:a[i-1]?=some x)(hy:b[j-1]?=some y)(hc:kl κ x y):wpS (ai7 prog w) A E s (hi3 a b mg ac ahE o i j) (ahR κ a b t dg) st:=by
 obtain⟨m1,m2,m3,m4,aiu⟩:=h;have n1:=T7 M m1 (by lia) aiu hy fun z hz=>rZ (show kg κ y x from hc) (Lb M.sa m2 m3 hx z hz);unfold hi3;refine ajc (bR hy ?_);by_cases e:j-1=1
 .rw[aiP (by simpa using e)];exact ajq ⟨hs,.inl ⟨_,_,rfl,Ik M hf m3 n1 e (by lia)⟩⟩
 .rw[aiL (by simpa using e)];refine ajc (bR hx ?_);have kx:uM κ x:=M.ka x (ajo (dK hx));refine ajc (xN hO (Ij (i:=0) (n:=j-1) M.kb (by lia) (Cd M.sb (by lia)) kx) hk (by lia) fun k k1 k2 k3=>?_);have hlo:∀u∈(b.toList.reverse.drop (b.size-(j-1))).take (j-1-k),∀v∈a.toList.reverse.drop (a.size-i),kg κ u v:=fun u hu v hv=>by obtain⟨p,p1,p2,p3⟩:=Ci k1 (by lia) hu;have:=k3 p p1 p2;rw[akp,bW p3]at this;exact rZ (show kg κ u x from this) (Lb M.sa m2 m3 hx v hv)
  have n2:HL κ a b (o.push y++(b.extract k (j-1)).reverse) i k:=by have:=((ML.swap n1).take (qP M.sb) (j-1-k) hlo).swap;unfold HL;rw[aj3,Im k1 (by lia),show b.size-k=b.size-(j-1)+(j-1-k) by lia];exact this
  have hhi:∀v∈b.toList.reverse.drop (b.size-k),kg κ x v:=fun v hv=>by obtain⟨p,p1,p2⟩:=abv (by lia) hv;have:=k2 p p1;rw[akp,bW p2]at this;exact akx this
  dsimp only;by_cases g:j-1-k>0
  .rw[aiP g];by_cases f:k=1
   .rw[aiP (by simpa using f)];exact ajq ⟨hs,.inl ⟨_,_,rfl,Ik M hf m3 n2 f (by lia)⟩⟩
   .rw[aiL (by simpa using f)];by_cases f0:k=0
    .rw[aiP (by simpa using f0)];exact ajq ⟨hs,.inl ⟨_,_,rfl,Cg M m3 (by lia) n2 (.inr f0)⟩⟩
    .rw[aiL (by simpa using f0)];exact Zh M hs ⟨n2,m2,m3,by lia,by lia⟩ (by lia) hx hhi
  .rw[aiL g];have ek:k=j-1:=by lia
   exact Zh M hs ⟨n1,m2,m3,by lia,by lia⟩ (by lia) hx (by rw[←ek];exact hhi)
theorem adP (hO:lR prog w A s kk κ)(M:Mc κ a b)(hf:∀y,b[0]?=some y->∀x∈a.toList,kl κ y x){mg ac ahE t:Nat}{dg st:ajy}(hk:ak4 st=kk)(hs:∃g,st=vq dg g)(h:ah9 κ a b o i j)(ht:i+j<=t):wpS (ai7 prog w) A E s (hi5 a b ac ahE o i j mg) (ahR κ a b t dg) st:=by
 obtain⟨m1,m2,m3,m4,aiu⟩:=h;unfold hi5;rw[Af];refine ajc (amR ?_);have hs':∃g,vq st mg=vq dg g:=by obtain⟨g,rfl⟩:=hs;exact⟨mg,rfl⟩
 obtain⟨y,hy,hy'⟩:=cW (a:=b) (i:=j-1) (by lia);refine ajc (bR hy ?_);refine ajc (xN hO (Ca (i:=0) (n:=i) M.ka (by lia) (Cd M.sa (by lia)) (M.kb y hy')) hk (by lia) fun k k1 k2 k3=>?_);have hlo:∀u∈(a.toList.reverse.drop (a.size-i)).take (i-k),∀v∈b.toList.reverse.drop (b.size-j),kg κ u v:=fun u hu v hv=>by obtain⟨p,p1,p2,p3⟩:=Ci k1 m3 hu;have:=k3 p p1 p2;rw[akp,bW p3]at this;have r:kg κ u y:=akx (by unfold at7;simpa using this);exact rZ r (Lb M.sb (by lia) aiu hy v hv)
 have n2:HL κ a b (o++(a.extract k i).reverse) k j:=by have:=ML.take m1 (qP M.sa) (i-k) hlo;unfold HL;rw[aj3,Im k1 m3,show a.size-k=a.size-i+(i-k) by lia];exact this
 have nx:∀x,1<=k->a[k-1]?=some x->kl κ x y:=fun x hb hx=>by have:=k2 (k-1) (by lia);rw[akp,bW hx]at this;unfold kl aqr;simpa using this
 dsimp only;by_cases g:i-k>0
 .rw[aiP g];by_cases e:k=0
  .rw[aiP (by simpa using e)];exact ajq ⟨hs',.inl ⟨_,_,rfl,Cg M (by lia) aiu n2 (.inl e)⟩⟩
  .rw[aiL (by simpa using e)];obtain⟨x,hx,hx'⟩:=cW (a:=a) (i:=k-1) (by lia);exact Zi hO M hf hk hs' ⟨n2,by lia,by lia,m4,aiu⟩ (by lia) hx hy (nx x (by lia) hx)
 .rw[aiL g];obtain rfl:k=i:=by lia
  obtain⟨x,hx,hx'⟩:=cW (a:=a) (i:=k-1) (by lia);exact Zi hO M hf hk hs' ⟨m1,m2,m3,m4,aiu⟩ (by lia) hx hy (nx x (by lia) hx)
theorem adQ (hO:lR prog w A s kk κ)(M:Mc κ a b)(hf:∀y,b[0]?=some y->∀x∈a.toList,kl κ y x){tt mg ac ahE:Nat}{dg st:ajy}{Q:ahC->ajy->Prop}(hk:ak4 dg=kk)(hs:∃g,st=vq dg g)(h:ah9 κ a b o i j)(h1:∀r c g,Rs κ a b r->Q (some r,c) (vq dg g))(h2:∀o' i' j' mg ac ahE g,ah9 κ a b o' i' j'->i'+j'<=i+j->Q (none,i',j',o',mg,ac,ahE) (vq dg g)):wpS (ai7 prog w) A E s (hi2 a b tt mg o i j ac ahE) Q st:=by
 unfold hi2;refine akN (I:=fun x c st'=>(∃g,st'=vq dg g)∧∃o' i' j' mg ac ahE,c=(none,i',j',o',mg,ac,ahE)∧ah9 κ a b o' i' j'∧i'+j'<=i+j) ?g1 ?g2 ⟨hs,o,i,j,mg,ac,ahE,rfl,h,aiN _⟩;case g2=>rintro c st' ⟨⟨g,rfl⟩,o',i',j',mg,ac,ahE,rfl,m1,m2⟩;exact h2 _ _ _ _ _ _ _ m1 m2
 case g1=>
  rintro x c st' _ _ ⟨⟨g,rfl⟩,o',i',j',mg,ac,ahE,rfl,m1,m2⟩;dsimp only;split;all_goals
   refine amY (adP hO M hf hk ⟨g,rfl⟩ m1 m2) ?_;rintro r st' ⟨⟨g,rfl⟩,⟨x,c,rfl,z⟩|⟨o,i,j,mg,ac,ahE,rfl|rfl,z,z2⟩⟩
   .exact h1 _ _ _ z
   .exact h2 _ _ _ _ _ _ _ z z2
   .exact⟨⟨g,rfl⟩,_,_,_,_,_,_,rfl,z,z2⟩
theorem adR (hO:lR prog w A s kk κ)(M:Mc κ a b)(hl:∀x,a[a.size-1]?=some x->∀y∈b.toList,kl κ y x)(hf:∀y,b[0]?=some y->∀x∈a.toList,kl κ y x){st:ajy}{Q:Array ajm->ajy->Prop}(hk:ak4 st=kk)(ahQ:1<=a.size)(aiB:1<=b.size)(h:∀r g,Rs κ a b r->Q r (vq st g)):wpS (ai7 prog w) A E s (mHi a b) Q st:=by
 rw[adN];refine ajc (ap9 (amr ⟨rfl,?_⟩));obtain⟨x,hx,hx'⟩:=cW (a:=a) (i:=a.size-1) (by lia);refine ajc (bR hx ?_);have n0:HL κ a b #[] a.size b.size:=by unfold HL;rw[aoa,aoa];exact⟨amL _,apB,fun u hu=>ai8 hu aiX,fun u hu=>ai8 hu aiX⟩
 have n1:HL κ a b #[x] (a.size-1) b.size:=Il M n0 ahQ (aiN _) hx fun v hv=>hl x hx v (alI.mp (akj hv));by_cases e:a.size-1=0
 .rw[aiP (by simpa using e)];exact ajq (h _ (apl st) (Cg M (by lia) (aiN _) n1 (.inl e)))
 .rw[aiL (by simpa using e)];by_cases f:b.size=1
  .rw[aiP (by simpa using f)];exact ajq (h _ (apl st) (Ik M hf (by lia) n1 f aiB))
  .rw[aiL (by simpa using f)];refine ajc (aof ?_);refine ajc (amY (akN (I:=fun x c st'=>(∃g,st'=vq st g)∧∃o' i' j' mg,c=(none,i',j',o',mg)∧ah9 κ a b o' i' j'∧i'+j'+x+1<=a.size+b.size) (Q:=fun c st'=>(∃g,st'=vq st g)∧∃r d,c=(some r,d)∧Rs κ a b r) ?g1 ?g2 ⟨⟨apl st,rfl⟩,_,_,_,_,rfl,⟨n1,by lia,by lia,by lia,by lia⟩,by lia⟩) ?g4);case g2=>rintro c st' ⟨_,o',i',j',mg,rfl,⟨m1,m2,m3,m4,aiu⟩,ahs⟩;lia
   case g4=>rintro c st' ⟨⟨g,rfl⟩,r,d,rfl,m1⟩;exact ajq (h r g m1)
   case g1=>rintro x c st' _ _ ⟨⟨g,rfl⟩,o',i',j',mg,rfl,m1,m2⟩;unfold hiB;dsimp only;refine ajc (adO hO M hf hk (by lia) m1 (fun r d z=>ajq ⟨⟨g,rfl⟩,_,_,rfl,z⟩) fun o2 i2 j2 ac ahE z1 z2=>?_);dsimp only;refine ajc (ap9 (amr ⟨rfl,?_⟩));refine ajc (adQ hO M hf (dg:=st) hk ⟨g,rfl⟩ z1 (fun r d g z=>ajq ⟨⟨g,rfl⟩,_,_,rfl,z⟩) fun o3 i3 j3 mg ac ahE g z3 z4=>?_);dsimp only;rw[Af];exact ajc (amR (ajq ⟨⟨_,rfl⟩,_,_,_,_,rfl,z3,by lia⟩))
end
noncomputable def putAll (xs:Array ajm)(k:Nat)(r:Array ajm):Array ajm:=r.toList.zipIdx.foldl (fun a x=>a.setIfInBounds (k+x.2) x.1) xs
theorem G7 (k:Nat):∀(l:List ajm) (n:Nat) (xs:Array ajm),k+n+l.length<=xs.size->((l.zipIdx n).foldl (fun(a:Array ajm) x=>a.setIfInBounds (k+x.2) x.1) xs).toList=xs.toList.take (k+n)++l++xs.toList.drop (k+n+l.length)
 |[],n,xs,_=>by
  show xs.toList=xs.toList.take (k+n)++[]++xs.toList.drop (k+n+0)
  rw[alb,anu,amh]
 |p::l,n,xs,h=>by
  rw[ajl]at h
  rw[List.zipIdx_cons,aoQ]
  have z:(xs.setIfInBounds (k+n) p).size=xs.size:=apR
  rw[G7 k l (n+1) _ (by rw[z];lia),Array.toList_setIfInBounds]
  have e:xs.toList.set (k+n) p=xs.toList.take (k+n)++p::xs.toList.drop (k+n+1):=List.set_eq_take_append_cons_drop.trans (aiP (by simp;lia))
  have lt:(xs.toList.take (k+n)).length=k+n:=by
   rw[ajC,aoS (by simp;lia)]
  rw[e,ajl]
  rw[show xs.toList.take (k+n)++p::xs.toList.drop (k+n+1)=(xs.toList.take (k+n)++[p])++xs.toList.drop (k+n+1) by simp]
  have l2:(xs.toList.take (k+n)++[p]).length=k+(n+1):=by
   rw[aiZ,lt]
   rfl
  rw[List.take_left' l2,List.drop_append,akh (by rw[l2];lia),l2,at6]
  simp only[aqw,ak6,asO]
  rw[show k+n+1+(k+(n+1)+l.length-(k+(n+1)))=k+n+(l.length+1) by lia]
theorem Ld {xs r:Array ajm}{k:Nat}(h:k+r.size<=xs.size):(putAll xs k r).toList=xs.toList.take k++r.toList++xs.toList.drop (k+r.size):=by unfold putAll;have:=G7 k r.toList 0 xs (by simpa using h);simpa using this
section
variable{prog:ajr}{w:ajI}{A:ajO}{E:aiH->aiK->Prop}{s:aiK}{κ:KeyKind}{kk:ame}
theorem abw {σ:Type}{x:σ}{Q:PUnit->σ->Prop}{st:σ}{M:apU}(h:Q ⟨⟩ x):wpS M A E s (set x:StateT σ Sem PUnit) Q st:=by unfold wpS;rw[StateT.run_set];exact aiF ⟨rfl,h⟩
noncomputable def abx (k:Nat)(r:Array ajm):StateT ajy Sem Bool:=do
 modify fun st=>asY st (putAll (ajh st) k r)
 return (anF (←get)).isNone
theorem adS:asu 0=(do
  let st←get
  match(aj0 st)[0]?,(aj0 st)[0+1]? with
  |some (sa,na,pw),some (sb,nb,_)=>do
   set (apm st (((aj0 st).setIfInBounds 0 (sa,na+nb,pw)).eraseIdxIfInBounds (0+1)))
   let x←anG (ajh st) sb
   let z←gal false x (ajh st) sa na 0
   match z with
   |some k=>
    if(na-k==0)=true then pure true
    else do
     let y←anG (ajh st) (sa+k+(na-k)-1)
     let z←gal true y (ajh st) sb nb (nb-1)
     match z with
     |some m=>
      if(m==0)=true then pure true
      else if na-k<=m then do
       let r←mLo ((ajh st).extract (sa+k) sb) ((ajh st).extract sb (sb+m))
       abx (sa+k) r
      else do
       let r←mHi ((ajh st).extract (sa+k) sb) ((ajh st).extract sb (sb+m))
       abx (sa+k) r
     |_=>pure false
   |_=>pure false
  |_,_=>liftM (unsupported "internal:list.sort.pending")):=by
 refine aV rfl fun st=>?_
 cases(aj0 st)[0]? with
 |none=>rfl
 |some p=>
  cases(aj0 st)[0+1]? with
  |none=>rfl
  |some q=>
   obtain⟨sa,na,pw⟩:=p
   obtain⟨sb,nb,_⟩:=q
   refine aV rfl fun _=>aV rfl fun x=>aV rfl fun z=>?_
   cases z with
   |none=>rfl
   |some k=>
    refine p8 rfl (aV rfl fun y=>aV rfl fun z=>?_)
    cases z with
    |none=>rfl
    |some m=>rfl
theorem T8 {a:Array ajm}{p q:Nat}(hq:q<=a.size)(h:vU κ a p q):((a.extract p q).toList).Pairwise (kl κ):=by
 rw[alz];intro i j hi hj hij;have e:∀n (hn:n<(a.extract p q).toList.length),a[p+n]?=some (a.extract p q).toList[n]:=fun n hn=>by rw[aq3,aqK];exact getElem?_pos _ _ _
 have:=h (p+i) (p+j) (by lia) (by lia) (by
  have h2:(a.extract p q).toList.length=q-p:=by simp;lia
  lia)
 rw[bW (e i hi),bW (e j hj)]at this;exact this
theorem Zj {a:Array ajm}{p q n:Nat}(hn:p+n<q)(hq:q<=a.size):(a.extract p q)[n]?=a[p+n]?:=by rw[Array.getElem?_extract_of_lt (by lia)];exact(getElem?_pos a (p+n) (by lia)).symm
theorem ext_mem {a:Array ajm}{p q:Nat}{u:ajm}(hq:q<=a.size)(h:u∈(a.extract p q).toList):∃n,p<=n∧n<q∧a[n]?=some u:=by
 obtain⟨n,hn,e⟩:=ank.mp h;have h2:(a.extract p q).toList.length=q-p:=by simp;lia
 refine⟨p+n,by lia,by lia,?_⟩;rw[←e,aq3,aqK];exact getElem?_pos _ _ _
theorem adT (hO:lR prog w A s kk κ){st:ajy}{n1 n2 pw p2:Nat}{Q:Bool->ajy->Prop}(hk:ak4 st=kk)(hf:anF st=none)(hp:aj0 st=#[(0,n1,pw),(n1,n2,p2)])(ks:∀x∈(ajh st).toList,uM κ x)(z1:1<=n1)(z2:1<=n2)(hz:n1+n2=(ajh st).size)(r1:vU κ (ajh st) 0 n1)(r2:vU κ (ajh st) n1 (n1+n2))(h:∀st',(ajh st').Perm (ajh st)->vU κ (ajh st') 0 (ajh st).size->anF st'=none->aj0 st'=#[(0,n1+n2,pw)]->ak4 st'=kk->Q true st'):wpS (ai7 prog w) A E s (asu 0) Q st:=by
 rw[adS];refine ajc (aof ?_);have g0:(aj0 st)[0]?=some (0,n1,pw):=by rw[hp];rfl
 have g1:(aj0 st)[0+1]?=some (n1,n2,p2):=by rw[hp];rfl
 have g2:((aj0 st).setIfInBounds 0 (0,n1+n2,pw)).eraseIdxIfInBounds (0+1)=#[(0,n1+n2,pw)]:=by rw[hp];apply Array.ext';simp
 rw[g0,g1];dsimp only;rw[g2];refine ajc (abw ?_);have hg:∀n,n<(ajh st).size->∃x,(ajh st)[n]?=some x∧uM κ x:=fun n hn=>by obtain⟨x,a,b⟩:=cW hn;exact⟨x,a,ks x b⟩
 obtain⟨x,hx,kx⟩:=hg n1 (by lia);obtain⟨y,hy,ky⟩:=hg (n1-1) (by lia);refine ajc (bR hx ?_);refine ajc (xN hO (Ca (i:=0) (n:=n1) ks (by lia) (by rw[akp];exact r1) kx) hk z1 fun k k1 k2 k3=>?_);have lo:∀p q,p<k->k<=q->q<n1+n2->κ.kle (KK κ (ajh st) p) (KK κ (ajh st) q):=fun p q h1 h2 h3=>by
  by_cases e:q<n1
  .exact r1 p q (by lia) (by lia) e
  .have:=k2 p h1;rw[akp]at this;have t:κ.kle (KK κ (ajh st) p) (kf κ x):=by unfold aqr;simpa using this
   rw[←bW hx]at t;exact alK t (r2 n1 q (by lia) (by lia) h3)
 dsimp only;by_cases c:n1-k=0
 .rw[aiP (by simpa using c)];refine ajq (h _ (aoV _) ?_ hf rfl hk);intro p q _ h2 h3;by_cases e:q<n1
  .exact r1 p q (by lia) h2 e
  .by_cases e2:p<k
   .exact lo p q e2 (by lia) (by lia)
   .exact r2 p q (by lia) h2 (by lia)
 .rw[aiL (by simpa using c),show 0+k+(n1-k)-1=n1-1 by lia];refine ajc (bR hy ?_);refine ajc (xN hO (Ij (i:=n1) (n:=n2) ks (by lia) r2 ky) hk (by lia) fun m m1 m2 m3=>?_);have hi:∀p q,p<n1+m->n1+m<=q->q<n1+n2->κ.kle (KK κ (ajh st) p) (KK κ (ajh st) q):=fun p q h1 h2 h3=>by
   by_cases e:p<n1
   .have:=m3 (q-n1) (by lia) (by lia);rw[show n1+(q-n1)=q by lia,←bW hy]at this;exact alK (r1 p (n1-1) (by lia) (by lia) (by lia)) this
   .exact r2 p q (by lia) (by lia) h3
  dsimp only;by_cases d:m=0
  .rw[aiP (by simpa using d)];refine ajq (h _ (aoV _) ?_ hf rfl hk);intro p q _ h2 h3;by_cases e:q<n1
   .exact r1 p q (by lia) h2 e
   .by_cases e2:p<n1
    .exact hi p q (by lia) (by lia) (by lia)
    .exact r2 p q (by lia) h2 (by lia)
  .rw[aiL (by simpa using d),akp];have M:Mc κ ((ajh st).extract k n1) ((ajh st).extract n1 (n1+m)):=by
    refine⟨fun u hu=>?_,fun u hu=>?_,T8 (by lia) fun p q h1 h2 h3=>r1 p q (by lia) h2 h3,T8 (by lia) fun p q h1 h2 h3=>r2 p q h1 h2 (by lia)⟩
    .obtain⟨n,_,_,e⟩:=ext_mem (by lia) hu;exact ks u (ajo (dK e))
    .obtain⟨n,_,_,e⟩:=ext_mem (by lia) hu;exact ks u (ajo (dK e))
   have s1:((ajh st).extract k n1).size=n1-k:=by rw[arY];lia
   have s2:((ajh st).extract n1 (n1+m)).size=m:=by rw[arY];lia
   have hl:∀u,((ajh st).extract k n1)[((ajh st).extract k n1).size-1]?=some u->∀v∈((ajh st).extract n1 (n1+m)).toList,kl κ v u:=fun u hu v hv=>by rw[s1,Zj (by lia) (by lia),show k+(n1-k-1)=n1-1 by lia,hy]at hu;cases hu;obtain⟨n,n1',n2',e⟩:=ext_mem (by lia) hv;have:=m2 (n-n1) (by lia);rw[show n1+(n-n1)=n by lia,bW e]at this;exact akx this
   have ae1:∀v,((ajh st).extract n1 (n1+m))[0]?=some v->∀u∈((ajh st).extract k n1).toList,kl κ v u:=fun v hv u hu=>by rw[Zj (by lia) (by lia),anu,hx]at hv;cases hv;obtain⟨n,a1,a2,e⟩:=ext_mem (by lia) hu;have:=k3 n a1 a2;rw[akp,bW e]at this;exact akx (by unfold at7;simpa using this)
   have fin:∀r g,Rs κ ((ajh st).extract k n1) ((ajh st).extract n1 (n1+m)) r->wpS (ai7 prog w) A E s (abx k r) Q (vq (apm st #[(0,n1+n2,pw)]) g):=by
    intro r g ⟨q1,q2⟩;unfold abx;refine ajc (amR (ajc (aof (ajq ?_))));have hr:r.size=n1-k+m:=by have:=q1.length_eq;rw[aiZ]at this;simp only[ajR]at this;lia
    have e1:(putAll (ajh st) k r).toList=(ajh st).toList.take k++r.toList++(ajh st).toList.drop (n1+m):=by rw[Ld (by lia),hr,show k+(n1-k+m)=n1+m by lia]
    have e0:(ajh st).toList=(ajh st).toList.take k++(((ajh st).extract k n1).toList++((ajh st).extract n1 (n1+m)).toList)++(ajh st).toList.drop (n1+m):=by
     rw[akI,akI,aka,aka,show n1+m-n1=m by lia];conv=>lhs;rw[←amh (n1+m) (ajh st).toList]
     congr 1;rw[arB,show n1=k+(n1-k) by lia,arB,show k+(n1-k)=n1 by lia,ak6]
    have pm:(putAll (ajh st) k r).Perm (ajh st):=by
     rw[amf,e1];conv=>rhs;rw[e0]
     exact(aor _ q1).append_right _
    have key:anF (asY (vq (apm st #[(0,n1+n2,pw)]) g) (putAll (ajh st) k r))=none:=hf;show Q (anF (asY (vq (apm st #[(0,n1+n2,pw)]) g) (putAll (ajh st) k r))).isNone _;rw[key];refine h _ pm ?_ hf rfl hk;refine Cd ?_ (aqh pm.size_eq.symm);have ix:∀p u,p<(ajh st).size->(ajh st)[p]?=some u->KK κ (ajh st) p=kf κ u:=fun p u _ e=>bW e;have ae2:∀u,u∈r.toList->∃n,k<=n∧n<n1+m∧(ajh st)[n]?=some u:=fun u hu=>by
     rcases ai1.mp (q1.mem_iff.mp hu)with hu|hu
     .obtain⟨n,a1,a2,e⟩:=ext_mem (by lia) hu;exact⟨n,a1,by lia,e⟩
     .obtain⟨n,a1,a2,e⟩:=ext_mem (by lia) hu;exact⟨n,by lia,by lia,e⟩
    have inp:∀u,u∈(ajh st).toList.take k->∃n,n<k∧(ajh st)[n]?=some u:=fun u hu=>by rw[←qd]at hu;obtain⟨n,a1,a2,e⟩:=ext_mem (by lia) hu;exact⟨n,a2,e⟩
    have ins:∀u,u∈(ajh st).toList.drop (n1+m)->∃n,n1+m<=n∧n<n1+n2∧(ajh st)[n]?=some u:=fun u hu=>by obtain⟨n,a1,e⟩:=La hu;exact⟨n,a1,by have:=(akE.mp e).1;lia,e⟩
    show((putAll (ajh st) k r).toList).Pairwise (kl κ);rw[e1,anj,anj];refine⟨⟨?_,q2,fun u hu v hv=>?_⟩,?_,fun u hu v hv=>?_⟩
    .rw[←qd];exact T8 (by lia) fun p q h1 h2 h3=>r1 p q h1 h2 (by lia)
    .obtain⟨p,p1,p2⟩:=inp u hu;obtain⟨q,q1,q2,q3⟩:=ae2 v hv;have:=lo p q p1 q1 (by lia);rwa [bW p2,bW q3]at this
    .rw[←rY];exact T8 (aiN _) fun p q h1 h2 h3=>r2 p q (by lia) h2 (by lia)
    .obtain⟨q,q1,q2,q3⟩:=ins v hv;have:∃p,p<n1+m∧(ajh st)[p]?=some u:=by
      rcases ai1.mp hu with hu|hu
      .obtain⟨p,p1,p2⟩:=inp u hu;exact⟨p,by lia,p2⟩
      .obtain⟨p,p1,p2,p3⟩:=ae2 u hu;exact⟨p,p2,p3⟩
     obtain⟨p,p1,p2⟩:=this;have:=hi p q p1 q1 q2;rwa [bW p2,bW q3]at this
   by_cases f:n1-k<=m
   .rw[aiP f];refine ajc (adM hO M hl hk (by lia) (by lia) (fun u v hu hv=>?_) fin);exact ae1 v hv u (ajo (dK hu))
   .rw[aiL f];exact ajc (adR hO M hl ae1 hk (by lia) (by lia) fin)
end
theorem Le {n:Nat}(h2:2<=n)(h:n<128):1<=ari n n 0∧ari n n 0<=n∧n<=2*ari n n 0:=by
 obtain⟨f,rfl⟩:∃f,n=f+2:=⟨n-2,by lia⟩;rw[minRun'_succ];by_cases c:f+2<64
 .rw[aiP c];lia
 .rw[aiL c,minRun'_succ,aiP (by lia)];lia
section
variable{prog:ajr}{w:ajI}{A:ajO}{E:aiH->aiK->Prop}{s:aiK}{κ:KeyKind}{kk:ame}{a₀:Array ajm}
structure One (κ:KeyKind)(kk:ame)(a₀:Array ajm)(n:Nat)(pd:Array (Nat×Nat×Nat))(st:ajy):Prop where
 perm:(ajh st).Perm a₀
 kind:ak4 st=kk
 failed:anF st=none
 pend:aj0 st=pd
 up:vU κ (ajh st) 0 n
theorem keys_perm {xs ys:Array ajm}(h:xs.Perm ys)(k:KeysOf κ ys):KeysOf κ xs:=fun p hp=>k p ((amf.mp h).mem_iff.mp hp)
theorem Zk (hO:lR prog w A s kk κ){st:ajy}{lo m:Nat}{pd:Array (Nat×Nat×Nat)}{T:Type}{f:Nat->StateT ajy Sem T}{g:StateT ajy Sem T}{Q:T->ajy->Prop}(h0:KeysOf κ a₀)(hB:SB a₀ lo pd kk st)(hlo:lo<a₀.size)(hm1:1<=m)
  (h:∀n st',SB a₀ lo pd kk st'->1<=n->lo+n<=a₀.size->(min (a₀.size-lo) m<=n)->vU κ (ajh st') lo (lo+n)->wpS (ai7 prog w) A E s (f n) Q st'):
  wpS (ai7 prog w) A E s (do
   let z←asZ lo (a₀.size-lo)
   match z with
   |some n=>
    if n<m then do
     liftM (arK "list.sort.binary-insertion")
     let b←atf lo (min (a₀.size-lo) m) n
     if(!b)=true then g else f (min (a₀.size-lo) m)
    else f n
   |_=>g) Q st:=by
 refine ajc (Zd hO h0 (by omega) (by omega) hB fun k st' b1 k1 k2 k3=>?_)
 dsimp only
 by_cases c:k<m
 ·rw[aiP c]
  refine ajc (ap9 (amr ⟨rfl,?_⟩))
  refine ajc (adF hO h0 (by omega) (by omega) b1 k3 fun st2 b2 k4=>?_)
  simp only[ajP,aiT,if_false]
  exact h _ st2 b2 (by omega) (by omega) (aiN _) k4
 ·rw[aiL c]
  exact h k st' b1 k1 (by omega) (by omega) k3
noncomputable def psh (lo n:Nat):StateT ajy Sem (ForInStep (Option Unit×Nat)):=do
 modify fun st=>apm st ((aj0 st).push (lo,n,0))
 pure (.yield (none,lo+n))
noncomputable def pwr (z pw:Nat):StateT ajy Sem (Option Unit×Unit):=
 forIn [0:z] ((none,()):Option Unit×Unit) fun _ _=>do
  let d←get
  match if(aj0 d).size>1 then(aj0 d)[(aj0 d).size-2]? else none with
  |some (_,_,older)=>
   if older<=pw then pure (.done (none,()))
   else do
    let b←asu ((aj0 d).size-2)
    if(!b)=true then pure (.done (some (),()))else pure (.yield (none,()))
  |_=>pure (.done (none,()))
noncomputable def nxt (z lo n:Nat):StateT ajy Sem (ForInStep (Option Unit×Nat)):=do
 let d←get
 match(aj0 d).back? with
 |some (s1,n1,_)=>do
  let c←pwr z (power' z (2*s1+n1) (2*s1+n1+n1+n) z)
  match c.1 with
  |some r=>pure (.done (some r,lo))
  |none=>do
   modify fun st=>apm st ((aj0 st).modify ((aj0 st).size-1) fun x=>(x.1,x.2.1,power' z (2*s1+n1) (2*s1+n1+n1+n) z))
   psh lo n
 |_=>psh lo n
noncomputable def fnl (z:Nat):StateT ajy Sem (Option Unit×Unit):=
 forIn [0:z] ((none,()):Option Unit×Unit) fun _ _=>do
  let d←get
  if(aj0 d).size<=1 then pure (.done (none,()))
  else do
   let b←asu (if(if(aj0 d).size-2>0 then au9 (fun x=>x.2.1) (aj0 d)[(aj0 d).size-2-1]? else none).any (fun x=>decide (x<(aj0 d)[(aj0 d).size-2+1]?.elim 0 fun x=>x.2.1))=true then(aj0 d).size-2-1 else(aj0 d).size-2)
   if(!b)=true then pure (.done (some (),()))else pure (.yield (none,()))
theorem aby:sortRuns'=(do
  let d←get
  let c←forIn [0:(ajh d).size] ((none,0):Option Unit×Nat) fun _ c=>
   if c.2≥(ajh d).size then pure (.done (none,c.2))
   else do
    let z←asZ c.2 ((ajh d).size-c.2)
    match z with
    |some n=>
     if n<ari (ajh d).size (ajh d).size 0 then do
      liftM (arK "list.sort.binary-insertion")
      let b←atf c.2 (min ((ajh d).size-c.2) (ari (ajh d).size (ajh d).size 0)) n
      if(!b)=true then pure (.done (some (),c.2))else nxt (ajh d).size c.2 (min ((ajh d).size-c.2) (ari (ajh d).size (ajh d).size 0))
     else nxt (ajh d).size c.2 n
    |_=>pure (.done (some (),c.2))
  match c.1 with
  |some r=>pure r
  |none=>do
   let c←fnl (ajh d).size
   match c.1 with
   |some r=>pure r
   |none=>pure ()):=by
 kernel_rfl
theorem abz (hO:lR prog w A s kk κ){st:ajy}{Q:Unit->ajy->Prop}(h0:KeysOf κ a₀)(ha:ajh st=a₀)(hk:ak4 st=kk)(hf:anF st=none)(hp:aj0 st=#[])(h2:2<=a₀.size)(Cj:a₀.size<128)(h:∀st',(ajh st').Perm a₀->anF st'=none->vU κ (ajh st') 0 a₀.size->Q () st'):wpS (ai7 prog w) A E s sortRuns' Q st:=by
 rw[aby];refine ajc (aof ?_);rw[ha];obtain⟨m1,m2,m3⟩:=Le h2 Cj;generalize ari a₀.size a₀.size 0=m at m1 m2 m3 ⊢;refine ajc (amY (akN
  (I:=fun x c st'=>(x=0∧c=(none,0)∧SB a₀ 0 #[] kk st')∨(x=1∧∃n,c=(none,n)∧1<=n∧n<=a₀.size∧a₀.size-n<=m∧One κ kk a₀ n #[(0,n,0)] st')∨(2<=x∧c=(none,a₀.size)∧∃n pw,1<=n∧n<a₀.size∧One κ kk a₀ n #[(0,n,pw),(n,a₀.size-n,0)] st'∧vU κ (ajh st') n a₀.size))
  (Q:=fun c st'=>c=(none,a₀.size)∧(One κ kk a₀ a₀.size #[(0,a₀.size,0)] st'∨∃n pw,1<=n∧n<a₀.size∧One κ kk a₀ n #[(0,n,pw),(n,a₀.size-n,0)] st'∧vU κ (ajh st') n a₀.size)) ?g1 ?g2 (.inl ⟨rfl,rfl,⟨by rw[ha],fun i hi=>by lia,hk,hf,hp⟩⟩)) ?g4)
 case g2=>
  rintro c st' (⟨h1,_⟩|⟨h1,_⟩|⟨h1,rfl,h3⟩)
  .lia
  .lia
  .exact⟨rfl,.inr h3⟩
 case g1=>
  rintro x c st' _ _ (⟨rfl,rfl,hB⟩|⟨rfl,n,rfl,n1,n2,n3,O⟩|⟨h1,rfl,h3⟩)
  .dsimp only;rw[aiL (by lia)];refine Zk (f:=fun n=>nxt a₀.size 0 n) hO h0 hB (by lia) m1 fun n st2 b1 k1 k2 k3 k4=>?_;unfold nxt psh;refine ajc (aof ?_);rw[b1.pend];refine ajc (amR (ajq ?_));rw[akp];rw[akp]at k4;refine .inr (.inl ⟨rfl,n,rfl,k1,by lia,by lia,b1.perm,b1.kind,b1.failed,?_,k4⟩);show(aj0 st2).push (0,n,0)=_;rw[b1.pend];rfl
  .dsimp only;by_cases e:n=a₀.size
   .rw[aiP (by lia)];subst e;exact ajq ⟨rfl,.inl O⟩
   .rw[aiL (by lia)];have hz:(ajh st').size=a₀.size:=O.perm.size_eq;have hB:SB (ajh st') n #[(0,n,0)] kk st':=⟨aoV _,fun i _=>rfl,O.kind,O.failed,O.pend⟩;have:=Zk (f:=fun k=>nxt a₀.size n k) (g:=pure (.done (some (),n))) hO (keys_perm O.perm h0) hB (by lia) (m:=m) m1 (E:=E) (Q:=fun r st'=>match r with
     |.done c'=>c'=(none,a₀.size)∧(One κ kk a₀ a₀.size #[(0,a₀.size,0)] st'∨∃n pw,1<=n∧n<a₀.size∧One κ kk a₀ n #[(0,n,pw),(n,a₀.size-n,0)] st'∧vU κ (ajh st') n a₀.size)
     |.yield c'=>(1+1=0∧c'=(none,0)∧SB a₀ 0 #[] kk st')∨(1+1=1∧∃n,c'=(none,n)∧1<=n∧n<=a₀.size∧a₀.size-n<=m∧One κ kk a₀ n #[(0,n,0)] st')∨(2<=1+1∧c'=(none,a₀.size)∧∃n pw,1<=n∧n<a₀.size∧One κ kk a₀ n #[(0,n,pw),(n,a₀.size-n,0)] st'∧vU κ (ajh st') n a₀.size)) fun k st2 b1 k1 k2 k3 k4=>?_
    .rw[hz]at this;refine amY this fun r st2 hr=>?_;cases r<;>exact hr
    .have ek:n+k=a₀.size:=by lia
     unfold nxt psh pwr;refine ajc (aof ?_);have hb:(aj0 st2).back?=some (0,n,0):=by rw[b1.pend];rfl
     rw[hb];dsimp only;generalize power' a₀.size (2*0+n) (2*0+n+n+k) a₀.size=pw;refine ajc (amY (akN (I:=fun _ c st3=>c=(none,())∧st3=st2) (Q:=fun c st3=>c=(none,())∧st3=st2) ?_ (fun c st3 hh=>hh) ⟨rfl,rfl⟩) ?_)
     .rintro x c st3 _ _ ⟨rfl,rfl⟩;refine ajc (aof ?_);rw[b1.pend];exact ajq ⟨rfl,rfl⟩
     .rintro c st3 ⟨rfl,rfl⟩;dsimp only;refine ajc (amR (ajc (amR (ajq ?_))));refine .inr (.inr ⟨by lia,by rw[ek],n,pw,n1,by lia,⟨b1.perm.trans O.perm,b1.kind,b1.failed,?_,?_⟩,?_⟩)
      .show((aj0 st3).modify ((aj0 st3).size-1) fun x=>(x.1,x.2.1,pw)).push (n,k,0)=_;rw[b1.pend,show a₀.size-n=k by lia];rfl
      .intro p q h1 h3 h4;have e1:KK κ (ajh st3) p=KK κ (ajh st') p:=KK_congr (b1.pre p (by lia));have e2:KK κ (ajh st3) q=KK κ (ajh st') q:=KK_congr (b1.pre q (by lia));show κ.kle (KK κ (ajh st3) p) (KK κ (ajh st3) q);rw[e1,e2];exact O.up p q h1 h3 h4
      .rw[ek]at k4;exact k4
  .dsimp only;rw[aiP (aiN _)];exact ajq ⟨rfl,.inr h3⟩
 case g4=>
  rintro c st' ⟨rfl,h3⟩;dsimp only;unfold fnl;refine ajc (amY (akN
   (I:=fun x c st2=>c=(none,())∧((∃n,One κ kk a₀ a₀.size #[(0,a₀.size,n)] st2)∨(x=0∧∃n pw,1<=n∧n<a₀.size∧One κ kk a₀ n #[(0,n,pw),(n,a₀.size-n,0)] st2∧vU κ (ajh st2) n a₀.size)))
   (Q:=fun c st2=>c=(none,())∧∃n,One κ kk a₀ a₀.size #[(0,a₀.size,n)] st2) ?i1 ?i2 ⟨rfl,h3.elim (fun z=>.inl ⟨0,z⟩) fun z=>.inr ⟨rfl,z⟩⟩) ?i4)
  case i2=>
   rintro c st2 ⟨rfl,z|⟨z,_⟩⟩
   .exact⟨rfl,z⟩
   .lia
  case i4=>rintro c st2 ⟨rfl,n,O⟩;exact ajq (h st2 O.perm O.failed O.up)
  case i1=>
   rintro x c st2 _ _ ⟨rfl,⟨n,O⟩|⟨rfl,n,pw,n1,n2,O,r2⟩⟩
   .refine ajc (aof ?_);rw[O.pend];exact ajq ⟨rfl,n,O⟩
   .refine ajc (aof ?_);rw[O.pend,aiL (by show¬2<=1;lia)];refine ajc ?_;show wpS _ _ _ _ (asu 0) _ _;have hz:(ajh st2).size=a₀.size:=O.perm.size_eq;refine adT hO O.kind O.failed O.pend (keys_perm O.perm h0) n1 (by lia) (by lia) O.up (by rw[show n+(a₀.size-n)=a₀.size by lia];exact r2) fun st3 q1 q2 q3 q4 q5=>?_;simp only[ajP,aiT,if_false];refine ajq ⟨rfl,.inl ⟨pw,q1.trans O.perm,q5,q3,?_,?_⟩⟩
    .rw[q4,show n+(a₀.size-n)=a₀.size by lia]
    .rw[←hz];exact q2
end
def But (a:aiM)(h h':aj4):Prop:=∀b o,b≠a->h.get? b=some o->h'.get? b=some o
section
variable{prog:ajr}{w:ajI}{A:ajO}{E:aiH->aiK->Prop}{s:aiK}{κ:KeyKind}{kk:ame}
theorem abA {a:aiM}{vs:List aiH}{n:Nat}{P:PySem.Fin->aiK->Prop}(ho:s.heap.get? a=some (amv "list" vs.toArray n))(h0:KeysOf κ (apG vs))(Cj:vs.length<128)(hK:2<=vs.length->∀(s':aiK) (Q:ame->aiK->Prop),But a s.heap s'.heap->Q kk s'->ai0 (ai7 prog w) A (keyKind' vs.toArray) Q E s')(hO:∀s':aiK,But a s.heap s'.heap->lR prog w A s' kk κ)(h:∀xs:Array ajm,xs.Perm (apG vs)->vU κ xs 0 vs.length->P (.done (.ret .none)) {s with heap:=at8 s.heap a vs (xs.map (·.2))}):ai0 (ai7 prog w) A (Builtin.«list.sort» ⟨[.ref a],[]⟩) P E s:=by
 rw[list_sort_plain];have hz:a<s.heap.objs.size:=aja ho;have hl:vs.toArray.size=vs.length:=by simp
 obtain⟨e1,ho1⟩:∃e1,(s.heap.update a (aj2 fun _=>#[])).get? a=some (amv "list" #[] e1):=⟨_,get?_update_seq ho (fun _=>#[])⟩;refine aiD (aqs ho rfl (aiD (arC ho rfl (aiD (atg ho1 rfl (aiD (wpAny_newTuple (aiD (wpAny_newList (akX ?_))))))))));have pn:∀b,b<s.heap.objs.size->(((s.heap.update a (aj2 fun _=>#[])).push (amv "tuple" vs.toArray 0)).push (amv "list" #[] 0)).get? b=(s.heap.update a (aj2 fun _=>#[])).get? b:=fun b hb=>by rw[asv _ _ _ (by rw[at9,alL];exact ajw (als hb)),asv _ _ _ (by rw[alL];exact ajw hb)]
 have ho6:=(pn a hz).trans ho1;have bt:But a s.heap (((s.heap.update a (aj2 fun _=>#[])).push (amv "tuple" vs.toArray 0)).push (amv "list" #[] 0)):=fun b o hb hg=>by rw[pn b (aja hg)];exact(anx _ _ _ _ hb).trans hg
 show ai0 (ai7 prog w) A _ P E {s with heap:=((s.heap.update a (aj2 fun _=>#[])).push (amv "tuple" vs.toArray 0)).push (amv "list" #[] 0)};dsimp only;by_cases h2:vs.toArray.size<2
 .rw[aiP h2,aiP h2];refine aiD (aiF ?_);rw[StateT.run_pure];refine aiD (aiF ?_);dsimp only;refine aiD (atg ho6 rfl ?_);refine aiD (arC ho6 rfl ?_ (hsz2:=by rw[apn];show(apG vs).size<=_;rw[ao2,aje];lia));simp only[bne_self_eq_false,aiT,if_false];refine aiF (h (vs.toArray.zip vs.toArray) (aoV _) fun p q _ _ _=>?_);rw[show p=q by lia];exact ak0 _
 .rw[aiL h2,aiL h2];refine aiD (hK (by lia) _ _ bt ?_);have:=abz (prog:=prog) (w:=w) (A:=A) (E:=E) (a₀:=apG vs) (st:=au8 kk (vs.toArray.zip vs.toArray) #[] 7 none) (hO {s with heap:=((s.heap.update a (aj2 fun _=>#[])).push (amv "tuple" vs.toArray 0)).push (amv "list" #[] 0)} bt) (Q:=fun _ st'=>(ajh st').Perm (apG vs)∧anF st'=none∧vU κ (ajh st') 0 (apG vs).size) h0 rfl rfl rfl rfl (by rw[ao2];lia) (by rw[ao2];exact Cj) fun st' a1 a2 a3=>⟨a1,a2,a3⟩;refine aiD (alE this ?_ fun _ _ e=>e);rintro⟨⟨⟩,st'⟩ s' ⟨rfl,hp,hf,hs⟩;dsimp only;refine aiD (atg ho6 rfl ?_);refine aiD (arC ho6 rfl ?_ (hsz2:=by refine ajt (aqh ((apn ..).trans (hp.size_eq.trans (ao2 _)))) ?_;rw[aje];lia));rw[hf];simp only[bne_self_eq_false,aiT,if_false];rw[ao2]at hs;exact aiF (h (ajh st') hp hs)
theorem Vu {v:aiH}{vs:List aiH}{P:aiK->Prop}{Q:aiH->aiK->Prop}(hc:∀Q':List aiH->aiK->Prop,(∀s₁,P s₁->Q' vs s₁)->ai0 (ai7 prog w) A.in1 (collect v) Q' E s)(hP:∀s₁,P s₁->∀b o,s.heap.get? b=some o->s₁.heap.get? b=some o)(h0:KeysOf κ (apG vs))(Cj:vs.length<128)(hK:2<=vs.length->∀(A':ajO) (s':aiK) (Q:ame->aiK->Prop) (E:aiH->aiK->Prop),(∀b o,s.heap.get? b=some o->s'.heap.get? b=some o)->Q kk s'->ai0 (ai7 prog w) A' (keyKind' vs.toArray) Q E s')(hO:∀(A':ajO) (s':aiK),A'.units<=A.units+2->(∀b o,s.heap.get? b=some o->s'.heap.get? b=some o)->lR prog w A' s' kk κ)(h:∀(s₁:aiK) (xs:Array ajm),P s₁->xs.Perm (apG vs)->vU κ xs 0 vs.length->Q (.ref s₁.heap.objs.size) {s₁ with heap:=at8 (s₁.heap.push (amv "list" vs.toArray 0)) s₁.heap.objs.size vs (xs.map (·.2))}):ai0 (ai7 prog w) A (call (.builtin "sorted") [v]) Q E s:=by
 refine apu kind_sorted plain_sorted entry_sorted (args_sorted1 _) ?_;unfold Builtin.«sorted»;refine aiD (m:=checkCount "sorted" 1 1 _) (aiF ?_);refine aiD (hc _ fun s₁ p₁=>?_);refine aiD (wpAny_newList ?_);have hoL:(s₁.heap.push (amv "list" vs.toArray 0)).get? s₁.heap.objs.size=some (amv "list" vs.toArray 0):=ajg _ rfl;have kp:∀s':aiK,But s₁.heap.objs.size (s₁.heap.push (amv "list" vs.toArray 0)) s'.heap->∀b o,s.heap.get? b=some o->s'.heap.get? b=some o:=fun s' hb b o hg=>by have hg:=hP s₁ p₁ b o hg;exact hb b o (ajw (aja hg)) (aiS _ hg)
 refine aiD (akX (aj7 slot_list_sort ⟨_,hoL,rfl⟩ entry_list_sort (abA hoL h0 Cj (fun h2 s' Q' hb hq=>hK h2 _ s' Q' _ (kp s' hb) hq) (fun s' hb=>hO _ s' ?_ (kp s' hb)) fun xs a1 a2=>⟨_,rfl,?_⟩) (args_list_sort _)))
 .rw[alC,alC];exact aiN _
 .exact aiF ⟨_,rfl,h s₁ xs p₁ a1 a2⟩
end
end My
namespace My
open PySem
noncomputable def fl (M i:Nat):Nat:=(i*5+1) %M
noncomputable def it (M:Nat):Nat->Nat->Nat
 |0,i=>i
 |m+1,i=>it M m (fl M i)
noncomputable def orb (M:Nat):Nat->Nat->List Nat
 |0,_=>[]
 |n+1,i=>i::orb M n (fl M i)
theorem P0 {M:Nat}:∀{n i e:Nat},e∈orb M n i->∃m,m<n∧it M m i=e
 |0,_,_,h=>ai8 h aiX
 |n+1,i,e,h=>by
  rcases ai3.mp h with rfl|h
  ·exact⟨0,by lia,rfl⟩
  ·obtain⟨m,h1,h2⟩:=P0 h
   exact⟨m+1,by lia,h2⟩
theorem Io (M:Nat):∀(a b i:Nat),it M (a+b) i=it M b (it M a i)
 |0,b,i=>by rw[akp];rfl
 |a+1,b,i=>by
  rw[show a+1+b=(a+b)+1 by lia]
  exact Io M a b (fl M i)
theorem T9:∀(l:List Nat) (a e:Nat),(l.foldl (fun a x=>a|||2^x) a).testBit e=true->a.testBit e=true∨e∈l
 |[],a,e,h=>.inl h
 |x::l,a,e,h=>by
  rcases T9 l _ e h with h|h
  ·rw[Nat.testBit_or,aoU]at h
   rcases h with h|h
   ·exact .inl h
   ·rw[Nat.testBit_two_pow]at h
    exact .inr (ai3.mpr (.inl (ai9 h).symm))
  ·exact .inr (ai3.mpr (.inr h))
def qQ (m:Nat):Prop:=m=7∨m=31∨m=127∨m=511
theorem abB {m:Nat}(h:qQ m):(∀e,e<m+1->e∈orb (m+1) (m+1) 0)∧it (m+1) (m+1) 0=0:=by
 have k:∀M,(orb M M 0).foldl (fun a x=>a|||2^x) 0=2^M-1->∀e,e<M->e∈orb M M 0:=fun M hM e he=>by refine(T9 (orb M M 0) 0 e ?_).resolve_left (by simp);rw[hM,Nat.testBit_two_pow_sub_one,aiQ he]
 rcases h with rfl|rfl|rfl|rfl
 .exact⟨k 8 (by decide+kernel),by decide+kernel⟩
 .exact⟨k 32 (by decide+kernel),by decide+kernel⟩
 .exact⟨k 128 (by decide+kernel),by decide+kernel⟩
 .exact⟨k 512 (by decide+kernel),by decide+kernel⟩
theorem Zm {m:Nat}(h:qQ m){i e:Nat}(hi:i<=m)(he:e<=m):∃k,k<=m∧it (m+1) k i=e:=by
 obtain⟨h1,h2⟩:=abB h;obtain⟨a,a1,rfl⟩:=P0 (h1 i (by omega));obtain⟨b,b1,rfl⟩:=P0 (h1 e (by omega));by_cases c:a<=b
 .refine⟨b-a,by omega,?_⟩;rw[←Io,show a+(b-a)=b by omega]
 .refine⟨b+(m+1)-a,by omega,?_⟩;rw[←Io,show a+(b+(m+1)-a)=(m+1)+b by omega,Io,h2]
noncomputable def lp (mask:Nat):Nat->Nat×Nat->Nat×Nat
 |0,x=>x
 |n+1,x=>lp mask n (arD mask x.1 x.2)
theorem Zn {mask:Nat}:∀(n:Nat) (x:Nat×Nat),x.1<=mask->(lp mask n x).1<=mask
 |0,_,h=>h
 |n+1,x,_=>Zn n _ (by
  show(x.1*5+1+x.2/32) %(mask+1)<=mask
  have:=anf (x.1*5+1+x.2/32) (show 0<mask+1 by lia)
  lia)
theorem Zo {mask:Nat}:∀(n:Nat) (x:Nat×Nat),(lp mask n x).2=x.2/32^n
 |0,x=>by
  show x.2=x.2/1
  rw[Nat.div_one]
 |n+1,x=>by
  show(lp mask n (arD mask x.1 x.2)).2=_
  rw[Zo n]
  show x.2/32/32^n=_
  rw[Nat.div_div_eq_div_mul,Nat.pow_succ,auP]
theorem Zq (mask:Nat):∀(a b:Nat) (x:Nat×Nat),lp mask (a+b) x=lp mask b (lp mask a x)
 |0,b,x=>by rw[akp];rfl
 |a+1,b,x=>by
  rw[show a+1+b=(a+b)+1 by lia]
  exact Zq mask a b _
theorem Ua {mask:Nat}:∀(n i:Nat),lp mask n (i,0)=(it (mask+1) n i,0)
 |0,_=>rfl
 |n+1,i=>by
  show lp mask n ((i*5+1+0/32) %(mask+1),0/32)=_
  rw[Nat.zero_div,anu]
  exact Ua n (fl (mask+1) i)
theorem Lf {mask:Nat}(h:qQ mask){i pt e:Nat}(hi:i<=mask)(hp:pt<2^64)(he:e<=mask):∃m,m<mask+14∧(lp mask m (i,pt)).1=e:=by
 have z:(lp mask 13 (i,pt)).2=0:=by rw[Zo];exact asR (ajv hp (by decide))
 obtain⟨k,k1,k2⟩:=Zm h (Zn 13 (i,pt) hi) he;refine⟨13+k,by lia,?_⟩;rw[Zq,show lp mask 13 (i,pt)=((lp mask 13 (i,pt)).1,0)from aqT rfl z,Ua];exact k2
noncomputable def advs (t:akd):Nat->ak'->ak'
 |0,p=>p
 |n+1,p=>advs t n (t.advance p)
theorem vW (t:akd):∀(a b:Nat) (p:ak'),advs t (a+b) p=advs t b (advs t a p)
 |0,b,p=>by rw[akp];rfl
 |a+1,b,p=>by
  rw[show a+1+b=(a+b)+1 by lia]
  exact vW t a b _
def Head (t:akd)(p:ak')(x:Nat×Nat):Prop:=p.j=x.1∧p.i=x.1∧p.perturb=x.2∧p.more=aly t.mask x.1-x.1∧p.dummy=none
theorem stretch (t:akd):∀(n:Nat) (p:ak'),p.more=n->p.dummy=none->Head t (advs t (n+1) p) (arD t.mask p.i p.perturb)
 |0,p,h,hd=>by
  show Head t (t.advance p) _
  unfold aox
  rw[aiL (by lia)]
  exact⟨rfl,rfl,rfl,rfl,hd⟩
 |n+1,p,h,hd=>by
  show Head t (advs t (n+1) (t.advance p)) _
  have e:t.advance p={p with j:=p.j+1,more:=p.more-1}:=by
   unfold aox
   rw[aiP (by lia)]
  rw[e]
  exact stretch t n _ (by show p.more-1=n;lia) hd
theorem adU (mask i:Nat):aly mask i-i<=9:=by unfold aly;split<;>lia
theorem heads (t:akd):∀(m:Nat) (p:ak') (x:Nat×Nat),Head t p x->∃N,N<=10*m∧Head t (advs t N p) (lp t.mask m x)
 |0,p,x,h=>⟨0,aiN _,h⟩
 |m+1,p,x,h=>by
  obtain⟨h1,h2,h3,h4,h5⟩:=h
  have s:=stretch t p.more p rfl h5
  rw[h2,h3]at s
  obtain⟨N,n1,n2⟩:=heads t m _ _ s
  refine⟨p.more+1+N,?_,?_⟩
  ·have:=adU t.mask x.1
   lia
  ·rw[vW]
   exact n2
theorem Lg (h:Int):akq h<2^64:=by unfold akq;have h1:=akW h (show(0:Int)<2^64 by decide);have h2:=akZ h (show(2^64:Int)≠0 by decide);lia
theorem Qa (t:akd)(h:Int):Head t (t.probeStart h) (akq h %(t.mask+1),akq h):=⟨rfl,rfl,rfl,rfl,rfl⟩
theorem meets {t:akd}(hm:qQ t.mask)(h:Int){e:Nat}(he:e<=t.mask):∃N,N<10*ala t.mask∧(advs t N (t.probeStart h)).j=e:=by
 obtain⟨m,m1,m2⟩:=Lf hm (i:=akq h %(t.mask+1)) (by have:=anf (akq h) (show 0<t.mask+1 by lia);lia) (Lg h) he;obtain⟨N,n1,n2⟩:=heads t m _ _ (Qa t h);refine⟨N,?_,?_⟩
 .unfold ala;lia
 .rw[n2.1,m2]
def agV (xs:Array Nat):Prop:=∀i j,i<j->j<xs.size->xs.getD i 0<xs.getD j 0
theorem abC {xs:Array Nat}{i d:Nat}(h:i<xs.size):xs.getD i d=xs.getD i 0:=by rw[ajE,ajE,getElem?_pos xs i h];rfl
theorem Ck {xs:Array Nat}{j:Nat}(h:agV xs):∀(f lo hi:Nat),lo<=hi->hi<=xs.size->hi-lo<=f->(∀i,i<lo->xs.getD i 0<j)->(∀i,hi<=i->i<xs.size->j<=xs.getD i 0)->
  am' xs j f lo hi<=xs.size∧(∀i,i<am' xs j f lo hi->xs.getD i 0<j)∧∀i,am' xs j f lo hi<=i->i<xs.size->j<=xs.getD i 0
 |0,lo,hi,h1,h2,h3,h4,h5=>by
  unfold am'
  exact⟨by omega,h4,fun i a b=>h5 i (by omega) b⟩
 |f+1,lo,hi,h1,h2,h3,h4,h5=>by
  unfold am'
  by_cases c:lo<hi
  ·rw[aiP c]
   dsimp only
   have hm:(lo+hi)/2<xs.size:=by omega
   rw[abC hm]
   by_cases d:xs.getD ((lo+hi)/2) 0<j
   ·rw[aiP d]
    refine Ck h f _ _ (by omega) h2 (by omega) (fun i hi'=>?_) h5
    by_cases e:i=(lo+hi)/2
    ·rw[e]
     exact d
    ·have:=h i ((lo+hi)/2) (by omega) hm
     omega
   ·rw[aiL d]
    refine Ck h f _ _ (by omega) (by omega) (by omega) h4 fun i a b=>?_
    by_cases e:i=(lo+hi)/2
    ·rw[e]
     omega
    ·have:=h ((lo+hi)/2) i (by omega) b
     omega
  ·rw[aiL c]
   exact⟨by omega,h4,fun i a b=>h5 i (by omega) b⟩
theorem sr {xs:Array Nat}(h:agV xs)(j:Nat):ajK xs j<=xs.size∧(∀i,i<ajK xs j->xs.getD i 0<j)∧∀i,ajK xs j<=i->i<xs.size->j<=xs.getD i 0:=Ck h xs.size 0 xs.size (ajW _) (aiN _) (by lia) (fun i hi=>ai8 hi (alw i)) fun i a b=>by lia
theorem Qc {xs:Array Nat}(h:agV xs):ajK xs 0=0:=by
 obtain⟨h1,h2,h3⟩:=sr h 0;by_cases c:ajK xs 0=0
 .exact c
 .have:=h2 0 (by lia);lia
theorem Qd {xs:Array Nat}(h:agV xs){i:Nat}(hi:i<xs.size):ajK xs (xs.getD i 0+1)=i+1:=by
 obtain⟨h1,h2,h3⟩:=sr h (xs.getD i 0+1);have a:¬ajK xs (xs.getD i 0+1)<=i:=fun z=>by have:=h3 i z hi;omega
 have b:¬i+1<ajK xs (xs.getD i 0+1):=fun z=>by have h5:=h2 (i+1) z;have h6:=h i (i+1) (by omega) (by omega);omega
 omega
structure Tb (t:akd)(n:Nat):Prop where
 mask:qQ t.mask
 dum:t.dummies=#[]
 Zr:t.place.size=n
 up:agV t.place
 top:∀i,i<n->t.place.getD i 0<=t.mask
 room:n*5<t.mask*3
theorem at_getD {xs:Array Nat}{i j:Nat}(h:xs[i]?=some j):i<xs.size∧xs.getD i 0=j:=by obtain⟨h1,h2⟩:=akE.mp h;refine⟨h1,?_⟩;rw[ajE,h];rfl
theorem has_none (j:Nat):asw #[] j=false:=by unfold asw;simp
theorem Ip {t:akd}{n:Nat}(T:Tb t n)(j:Nat):(∃i,t.slot j=.live i∧i<n∧t.place.getD i 0=j)∨(t.slot j=.empty∧∀i,i<n->t.place.getD i 0≠j):=by
 unfold SetTable.slot;dsimp only;by_cases c:(t.place[ajK t.place j]?==some j)=true
 .rw[aiP c];obtain⟨h1,h2⟩:=at_getD (eq_of_beq c);exact .inl ⟨_,rfl,by rw[←T.Zr];exact h1,h2⟩
 .rw[aiL c,T.dum,has_none,aiL aiW];refine .inr ⟨rfl,fun i hi e=>c ?_⟩;rw[←T.Zr]at hi;obtain⟨h1,h2,h3⟩:=sr T.up j;have a:¬i<ajK t.place j:=fun z=>by have:=h2 i z;omega
  have b:ajK t.place j=i:=by
   by_cases d:ajK t.place j=i
   .exact d
   .have h4:=T.up (ajK t.place j) i (by omega) hi;have h5:=h3 (ajK t.place j) (aiN _) (by omega);omega
  rw[b,getElem?_pos t.place i hi];rw[ajE,getElem?_pos t.place i hi]at e;have e':t.place[i]=j:=e;rw[e'];simp
theorem Vv {t:akd}{n:Nat}(T:Tb t n):∃e,e<=t.mask∧t.slot e=.empty:=by
 by_cases h:∃e,e<=t.mask∧t.slot e=.empty
 .exact h
 .exfalso;have all:∀e,e∈aiY (t.mask+1)->e∈(aiY n).map fun i=>t.place.getD i 0:=fun e he=>by
   rcases Ip T e with⟨i,_,h1,h2⟩|⟨h1,_⟩
   .exact ai'.mpr ⟨i,ajs.mpr h1,h2⟩
   .exact ai8 ⟨e,by have:=ajs.mp he;lia,h1⟩ h
  have:=(aqa (n:=t.mask+1)).length_le_of_subset all;rw[ajZ,aiJ,ajZ]at this;have:=T.room;lia
theorem G8 (t:akd)(p:ak'):(t.advance p).dummy=p.dummy:=by unfold aox;split<;>rfl
theorem Cm (t:akd):∀(n:Nat) (p:ak'),(advs t n p).dummy=p.dummy
 |0,_=>rfl
 |n+1,p=>(Cm t n _).trans (G8 t p)
theorem Vw (t:akd)(n:Nat)(p:ak'):advs t (n+1) p=t.advance (advs t n p):=vW t n 1 p
theorem xO {mask i:Nat}(h:i<=mask):i<=aly mask i∧aly mask i<=mask:=by unfold aly;split<;>lia
theorem Lh (t:akd)(h:Int):∀n,(advs t n (t.probeStart h)).j+(advs t n (t.probeStart h)).more<=t.mask
 |0=>by
  show akq h %(t.mask+1)+(aly t.mask (akq h %(t.mask+1))-akq h %(t.mask+1))<=t.mask
  have:=anf (akq h) (show 0<t.mask+1 by omega)
  have:=xO (mask:=t.mask) (i:=akq h %(t.mask+1)) (by omega)
  omega
 |n+1=>by
  have ih:=Lh t h n
  rw[Vw]
  generalize advs t n (t.probeStart h)=p at ih ⊢
  unfold aox
  by_cases c:p.more>0
  ·rw[aiP c]
   show p.j+1+(p.more-1)<=_
   omega
  ·rw[aiL c]
   show(p.i*5+1+p.perturb/32) %(t.mask+1)+(aly t.mask ((p.i*5+1+p.perturb/32) %(t.mask+1))-(p.i*5+1+p.perturb/32) %(t.mask+1))<=t.mask
   have:=anf (p.i*5+1+p.perturb/32) (show 0<t.mask+1 by omega)
   have:=xO (mask:=t.mask) (i:=(p.i*5+1+p.perturb/32) %(t.mask+1)) (by omega)
   omega
theorem Qe {t:akd}{n:Nat}(T:Tb t n)(h:Int):∃N,N<10*ala t.mask∧t.slot (advs t N (t.probeStart h)).j=.empty∧∀m,m<N->t.slot (advs t m (t.probeStart h)).j≠.empty:=by
 obtain⟨e,e1,e2⟩:=Vv T;obtain⟨K,k1,k2⟩:=meets T.mask h e1;have:∀k,k<=K->t.slot (advs t k (t.probeStart h)).j=.empty->∃N,N<=K∧t.slot (advs t N (t.probeStart h)).j=.empty∧∀m,m<N->t.slot (advs t m (t.probeStart h)).j≠.empty:=by
  intro k;induction k using atl with
  |_ k ih=>
   intro hk he;by_cases c:∃m,m<k∧t.slot (advs t m (t.probeStart h)).j=.empty
   .obtain⟨m,m1,m2⟩:=c;exact ih m m1 (by lia) m2
   .exact⟨k,hk,he,fun m hm z=>c ⟨m,hm,z⟩⟩
 obtain⟨N,n1,n2,n3⟩:=this K (aiN _) (by rw[k2];exact e2);exact⟨N,by lia,n2,n3⟩
theorem Li {t:akd}{n:Nat}(T:Tb t n)(ha:Nat->Int)(h:Int):∀(k f:Nat) (p:ak'),k<f->t.slot (advs t k p).j=.empty->(∀m,m<k->t.slot (advs t m p).j≠.empty)->
  aog t ha h f p=some (.empty (advs t k p).j p.dummy)∨∃m i,m<k∧i<n∧t.slot (advs t m p).j=.live i∧ha i=h∧aog t ha h f p=some (.candidate (advs t m p).j i (advs t (m+1) p))
 |0,0,_,hf,_,_=>ai8 hf (aky 0)
 |0,f+1,p,_,he,_=>by
  unfold aog
  have he':t.slot p.j=.empty:=he
  rw[he']
  exact .inl rfl
 |k+1,0,_,hf,_,_=>ai8 hf (alw _)
 |k+1,f+1,p,hf,he,hn=>by
  unfold aog
  rcases Ip T p.j with⟨i,h1,h2,h3⟩|⟨h1,_⟩
  ·rw[h1]
   dsimp only
   by_cases c:(ha i==h)=true
   ·rw[aiP c]
    exact .inr ⟨0,i,by lia,h2,h1,eq_of_beq c,rfl⟩
   ·rw[aiL c]
    rcases Li T ha h k f (t.advance p) (by lia) he (fun m hm=>hn (m+1) (by lia))with g|⟨m,i',g1,g2,g3,g4,g5⟩
    ·rw[G8]at g
     exact .inl g
    ·exact .inr ⟨m+1,i',by lia,g2,g3,g4,g5⟩
  ·exact ai8 h1 (hn 0 (by lia))
theorem zg {α:Type}(xs:Array α)(p:Nat)(x:α):(ajx xs p x).toList=xs.toList.take p++x::xs.toList.drop p:=by unfold ajx;rw[aj3,alS,akI,akI,aka,aka,apg,ao1,ajY (show(xs.toList.drop p).length<=xs.size-p by simp),ak6];rfl
theorem zj {α:Type}(xs:Array α)(p:Nat)(x:α):(ajx xs p x).toList.Perm (x::xs.toList):=by rw[zg];refine as3.trans ?_;rw[amh]
theorem su {α:Type}(xs:Array α)(p:Nat)(x:α):(ajx xs p x).size=xs.size+1:=by have:=(zj xs p x).length_eq;simpa using this
theorem sy {xs:Array Nat}{p j:Nat}(hp:p<=xs.size)(i:Nat):(ajx xs p j).getD i 0=if i<p then xs.getD i 0 else if i=p then j else xs.getD (i-1) 0:=by
 have e:∀(ys:Array Nat) k,ys.getD k 0=ys.toList.getD k 0:=fun ys k=>by rw[ajE,ajb,akU]
 rw[e,e,e,zg];simp only[ajb];have hl:(xs.toList.take p).length=p:=by rw[ajC,aoS (by simpa using hp)]
 by_cases c:i<p
 .rw[aiP c,ak2 (by lia),apI c]
 .rw[aiL c,alp (by lia),hl];by_cases d:i=p
  .rw[aiP d,d,aoa];rfl
  .rw[aiL d];obtain⟨k,rfl⟩:∃k,i=p+(k+1):=⟨i-p-1,by lia⟩;rw[show p+(k+1)-p=k+1 by lia,ap7,apj,show p+(k+1)-1=p+k by lia]
theorem adV {xs:Array Nat}(h:agV xs){j:Nat}(hj:∀i,i<xs.size->xs.getD i 0≠j):agV (ajx xs (ajK xs j) j):=by
 obtain⟨h1,h2,h3⟩:=sr h j;have h4:∀i,ajK xs j<=i->i<xs.size->j<xs.getD i 0:=fun i a b=>by have:=h3 i a b;have:=hj i b;lia
 intro a b hab hb;rw[su]at hb;rw[sy h1,sy h1];generalize ajK xs j=p at h1 h2 h4;by_cases c:b<p
 .rw[aiP c,aiP (by lia)];exact h a b hab (by lia)
 .rw[aiL c];by_cases d:b=p
  .rw[aiP d,aiP (by lia)];exact h2 a (by lia)
  .rw[aiL d];by_cases e:a<p
   .rw[aiP e];have:=h2 a e;have:=h4 (b-1) (by lia) (by lia);lia
   .rw[aiL e];by_cases f:a=p
    .rw[aiP f];exact h4 (b-1) (by lia) (by lia)
    .rw[aiL f];exact h (a-1) (b-1) (by lia) (by lia)
theorem Ub {mask e:Nat}{ow:Array (Option Nat)}(he:(ow.getD e (some 0)).isNone=true):∀(f i pt:Nat),i<=mask->(∃m,m<f∧(lp mask m (i,pt)).1=e)->
  ∃j,amS mask ow f i pt=some j∧j<=mask∧(ow.getD j (some 0)).isNone=true
 |0,_,_,_,⟨m,h,_⟩=>ai8 h (alw m)
 |f+1,i,pt,hi,⟨m,m1,m2⟩=>by
  unfold amS
  obtain⟨r1,r2⟩:=xO hi
  cases c:(aiY (aly mask i+1-i)).find? fun k=>(ow.getD (i+k) (some 0)).isNone with
  |some k=>
   have h1:=ajs.mp (List.mem_of_find?_eq_some c)
   have h2:=List.find?_some c
   exact⟨i+k,rfl,by omega,h2⟩
  |none=>
   dsimp only
   have h0:=List.find?_eq_none.mp c 0 (ajs.mpr (by omega))
   rw[anu]at h0
   obtain⟨m,rfl⟩:∃k,m=k+1:=by
    cases m with
    |zero=>
     have m2:i=e:=m2
     rw[m2]at h0
     exact ai8 he h0
    |succ k=>exact⟨k,rfl⟩
   exact Ub he f _ _ (Zn 1 (i,pt) hi) ⟨m,by omega,m2⟩
noncomputable def live (mask:Nat)(ow:Array (Option Nat)):List (Nat×Nat):=(aiY (mask+1)).filterMap fun j=>(ow.getD j none).map fun k=>(j,k)
theorem Lj {α β:Type}{f g:α->Option β}:∀{l:List α},(∀x∈l,f x=g x)->l.filterMap f=l.filterMap g
 |[],_=>rfl
 |x::l,h=>by rw[ajN,ajN,h x (.head _),Lj fun y hy=>h y (.tail _ hy)]
theorem Lk {α β:Type}{f g:α->Option β}{j:α}{b:β}(h0:f j=none)(h1:g j=some b)(h2:∀x,x≠j->g x=f x):∀{l:List α},l.Nodup->j∈l->(l.filterMap g).Perm (b::l.filterMap f)
 |[],_,h=>ai8 h aiX
 |x::l,hn,h=>by
  obtain⟨n1,n2⟩:=aj'.mp hn
  by_cases c:x=j
  ·subst c
   have e:l.filterMap g=l.filterMap f:=Lj fun y hy=>h2 y fun z=>n1 (z▸hy)
   rw[ajN,h1,ajN,h0,e]
  ·have ih:=Lk h0 h1 h2 n2 ((ai3.mp h).resolve_left fun z=>c z.symm)
   rw[ajN,h2 x c,ajN]
   cases f x with
   |none=>exact ih
   |some y=>exact(aq4 y ih).trans (aqZ b y _)
theorem Ln {α β:Type}{f:α->Option β}:∀{l:List α},(∀x∈l,(f x).isSome=true)->(l.filterMap f).length=l.length
 |[],_=>rfl
 |x::l,h=>by
  rw[ajN]
  have hx:=h x (.head _)
  cases e:f x with
  |none=>rw[e]at hx;cases hx
  |some y=>
   show(y::l.filterMap f).length=_
   rw[ajl,ajl,Ln fun z hz=>h z (.tail _ hz)]
theorem abD (mask:Nat)(ow:Array (Option Nat)):((live mask ow).map (·.1)).Pairwise (·<·)∧∀j∈(live mask ow).map (·.1),j<=mask:=by
 constructor
 .rw[an8];unfold live;refine aqb _ (fun a a' h b hb b' hb'=>?_) (an9 (n:=mask+1));obtain⟨k,_,rfl⟩:=alr.mp hb;obtain⟨k',_,rfl⟩:=alr.mp hb';exact h
 .intro j hj;obtain⟨x,hx,rfl⟩:=ai'.mp hj;obtain⟨a,ha,hb⟩:=ama.mp hx;obtain⟨k,_,rfl⟩:=alr.mp hb;have:=ajs.mp ha;show a<=mask;lia
structure ahp (mask k:Nat)(ow:Array (Option Nat)):Prop where
 Zr:ow.size=mask+1
 ks:((live mask ow).map (·.2)).Perm (aiY k)
theorem Lp {ow:Array (Option Nat)}{j:Nat}(h:j<ow.size):ow.getD j (some 0)=ow.getD j none:=by rw[ajE,ajE,getElem?_pos ow j h];rfl
theorem abE {mask k:Nat}{ow:Array (Option Nat)}(O:ahp mask k ow){j:Nat}(hj:j<=mask)(hf:(ow.getD j (some 0)).isNone=true):ahp mask (k+1) (ow.setIfInBounds j (some k)):=by
 refine⟨by rw[apR];exact O.Zr,?_⟩;have hz:j<ow.size:=by rw[O.Zr];lia
 rw[Lp hz]at hf;have h0:ow.getD j none=none:=by
  cases e:ow.getD j none with
  |none=>rfl
  |some x=>rw[e]at hf;cases hf
 have h1:(ow.setIfInBounds j (some k)).getD j none=some k:=by rw[ajE,Array.getElem?_setIfInBounds_self_of_lt hz];rfl
 have h2:∀x,x≠j->(ow.setIfInBounds j (some k)).getD x none=ow.getD x none:=fun x hx=>by rw[ajE,ajE,aoi fun z=>hx z.symm]
 have p:=Lk (f:=fun x=>(ow.getD x none).map fun k=>(x,k)) (g:=fun x=>((ow.setIfInBounds j (some k)).getD x none).map fun k=>(x,k)) (j:=j) (b:=(j,k)) (by rw[h0];rfl) (by rw[h1];rfl) (fun x hx=>by rw[h2 x hx]) (aqa (n:=mask+1)) (ajs.mpr (by lia));refine(p.map (·.2)).trans ?_;rw[ajd,show aiY (k+1)=aiY k++[k]from akQ];exact(aq4 k O.ks).trans (apo k _).symm
theorem abF {mask k:Nat}{ow:Array (Option Nat)}(O:ahp mask k ow)(hk:k<=mask):∃e,e<=mask∧(ow.getD e (some 0)).isNone=true:=by
 by_cases h:∃e,e<=mask∧(ow.getD e (some 0)).isNone=true
 .exact h
 .exfalso;have:=Ln (f:=fun j=>(ow.getD j none).map fun k=>(j,k)) (l:=aiY (mask+1)) fun x hx=>by
   have hx:=ajs.mp hx;rw[an5];cases e:ow.getD x none with
   |some y=>rfl
   |none=>refine ai8 ⟨x,by lia,?_⟩ h;rw[Lp (by rw[O.Zr];exact hx),e];rfl
  have h2:=O.ks.length_eq;rw[aiJ,ajZ]at h2;unfold live at h2;rw[this,ajZ]at h2;lia
theorem Zt {mask:Nat}(hm:qQ mask):∀(hs:List Int) (k:Nat) (ow:Array (Option Nat)),ahp mask k ow->k+hs.length<=mask+1->
  ∃ow',hs.foldl (fun acc h=>do
   let(owner,k)←acc
   let j←amS mask owner (ala mask) (akq h %(mask+1)) (akq h)
   pure (owner.setIfInBounds j (some k),k+1)) (some (ow,k))=some (ow',k+hs.length)∧ahp mask (k+hs.length) ow'
 |[],k,ow,O,_=>⟨ow,rfl,O⟩
 |h::hs,k,ow,O,hl=>by
  rw[ajl]at hl ⊢
  obtain⟨e,e1,e2⟩:=abF O (by lia)
  have hb:akq h %(mask+1)<=mask:=by
   have:=anf (akq h) (show 0<mask+1 by lia)
   lia
  obtain⟨m,m1,m2⟩:=Lf hm hb (Lg h) e1
  obtain⟨j,j1,j2,j3⟩:=Ub e2 (ala mask) _ _ hb ⟨m,by unfold ala;lia,m2⟩
  obtain⟨ow',g1,g2⟩:=Zt hm hs (k+1) _ (abE O j2 j3) (by lia)
  rw[show k+(hs.length+1)=k+1+hs.length by lia]
  refine⟨ow',?_,g2⟩
  rw[aoQ]
  rw[←g1]
  congr 1
  show(amS mask ow (ala mask) (akq h %(mask+1)) (akq h)).bind _=_
  rw[j1]
  rfl
theorem Zu (mask:Nat):ahp mask 0 (atm (mask+1) none):=by
 refine⟨by simp,?_⟩;have:live mask (atm (mask+1) none)=[]:=by unfold live;rw[List.filterMap_eq_nil_iff];intro a ha;have:=ajs.mp ha;rw[ajE,Array.getElem?_replicate,aiP this];rfl
 rw[this];exact amL _
theorem Vx (t:akd){hs:Array Int}{wanted:Nat}(hm:qQ (amg wanted-1))(hr:hs.size*5<(amg wanted-1)*3):∃t' order,t.relaid hs wanted=some (t',order)∧order.toList.Perm (aiY hs.size)∧Tb t' hs.size∧t'.plain=t.plain∧t'.led=t.led:=by
 generalize em:amg wanted-1=mask at hm hr;obtain⟨ow,g1,g2⟩:=Zt hm hs.toList 0 _ (Zu mask) (by simp;lia);rw[akp]at g1 g2;have e:t.relaid hs wanted=some ({mask,place:=((live mask ow).map (·.1)).toArray,dummies:=#[],finger:=t.finger,led:=t.led,moves:=t.movedTo mask,plain:=t.plain},((live mask ow).map (·.2)).toArray):=by unfold SetTable.relaid SetTable.laid SetTable.layClean;rw[em,←Array.foldl_toList,g1];rfl
 have hl:(live mask ow).length=hs.size:=by have:=g2.ks.length_eq;simpa using this
 obtain⟨u1,u2⟩:=abD mask ow;have gd:∀i (hi:i<((live mask ow).map (·.1)).length),((live mask ow).map (·.1)).toArray.getD i 0=((live mask ow).map (·.1))[i]:=fun i hi=>by rw[ajE,List.getElem?_toArray,aiG hi];rfl
 refine⟨_,_,e,by simpa using g2.ks,⟨hm,rfl,by simp[hl],fun i j hij hj=>?_,fun i hi=>?_,hr⟩,rfl,rfl⟩
 .have hj':j<((live mask ow).map (·.1)).length:=by simpa using hj
  show((live mask ow).map (·.1)).toArray.getD i 0<((live mask ow).map (·.1)).toArray.getD j 0;rw[gd i (by lia),gd j hj'];exact alz.mp u1 i j (by lia) hj' hij
 .have hi':i<((live mask ow).map (·.1)).length:=by simpa[hl]using hi
  show((live mask ow).map (·.1)).toArray.getD i 0<=mask;rw[gd i hi'];exact u2 _ (ajT _)
theorem Qf {α:Type}{es:Array α}{order:Array Nat}(h:order.toList.Perm (aiY es.size)):(order.filterMap (es[·]?)).toList.Perm es.toList:=by
 rw[Array.toList_filterMap];refine(h.filterMap _).trans ?_;have:(aiY es.size).filterMap (es[·]?)=es.toList:=by
  have e:(fun i=>es[i]?)=fun i=>es.toList[i]?:=funext fun i=>by rw[akU]
  show(aiY es.size).filterMap (fun i=>es[i]?)=_;rw[e,←ajR];generalize es.toList=l;induction l with
  |nil=>rfl
  |cons x l ih=>rw[ajl,List.range_succ_eq_map,ajN];show x::((aiY l.length).map Nat.succ).filterMap _=_;rw[apb];congr 1
 rw[this]
theorem Ir {t:akd}{n:Nat}(T:Tb t n):t.fits n=true:=by unfold auF auG;rw[T.Zr,T.dum];have:=T.room;simp;lia
section
variable{prog:ajr}{w:ajI}{A:ajO}{E:aiH->aiK->Prop}{s:aiK}
structure Other (prog:ajr)(w:ajI)(A:ajO)(E:aiH->aiK->Prop)(s:aiK)(es:Array (Int×aiH))(h:Int)(x:aiH):Prop where
 refs:∀e∈es.toList,∃q,e.2=.ref q
 eq:∀e∈es.toList,e.1=h->∀Q:Bool->aiK->Prop,Q false s->ai0 (ai7 prog w) A (atx e.2 x) Q E s
 seen:∀(l:List aiH) (Q:Bool->aiK->Prop),(∀y∈l,∃e∈es.toList,e.2=y)->Q false s->ai0 (ai7 prog w) A (apH x l) Q E s
theorem Lq {a:aiM}{o:Obj}{es:Array (Int×aiH)}{ep n N:Nat}{t:akd}{x:aiH}{h:Int}{Q:SetFound->aiK->Prop}(ho:s.heap.get? a=some o)(hd:o.data=.set es ep t)(hz:es.size=n)(T:Tb t n)(H:Other prog w A E s es h x)
  (n1:N<10*ala t.mask) (n2:t.slot (advs t N (t.probeStart h)).j=.empty) (n3:∀m,m<N->t.slot (advs t m (t.probeStart h)).j≠.empty) (hq:Q (.free (advs t N (t.probeStart h)).j false) s):
  ∀(k f i:Nat) (st:Option ak'),N-i=k->i<=N->k<f->st.getD (t.probeStart h)=advs t i (t.probeStart h)->ai0 (ai7 prog w) A (apS a x h true f st) Q E s:=by
 have hf:t.fits es.size=true:=by rw[hz];exact Ir T
 have hgw:t.gaveWay=false:=by
  unfold SetTable.gaveWay
  rcases T.mask with e|e|e|e<;>rw[e]<;>rfl
 intro k
 induction k using atl with
 |_ k ih=>
  intro f i st hk hi hkf hst
  obtain⟨f,rfl⟩:∃g,f=g+1:=⟨f-1,by lia⟩
  unfold apS
  refine aiD (amq ho hd hf ?_)
  dsimp only
  rw[hgw]
  simp only[aiT,↓reduceIte]
  have hu:∀m,advs t m (advs t i (t.probeStart h))=advs t (i+m) (t.probeStart h):=fun m=>(vW t i m _).symm
  rw[hst]
  have go:=fun ha=>Li T ha h (N-i) (10*ala t.mask) (advs t i (t.probeStart h)) (by lia) (by rw[hu,show i+(N-i)=N by lia];exact n2) (fun m hm=>by rw[hu];exact n3 (i+m) (by lia))
  unfold SetTable.probe
  rcases go _ with g|⟨m,j,g1,g2,g3,g4,g5⟩
  ·rw[g]
   dsimp only
   rw[Cm]
   rw[hu,show i+(N-i)=N by lia]
   exact aiF hq
  ·rw[g5]
   dsimp only
   have hj:j<es.size:=by lia
   have he:es[j]∈es.toList:=by simp
   obtain⟨q,hq2⟩:=H.refs es[j] he
   have hh:es[j].1=h:=by
    rw[←g4]
    show es[j].1=(es[j]?.map (·.1)).getD 0
    rw[getElem?_pos es j hj]
    rfl
   have rest:ai0 (ai7 prog w) A (do
     let some (_,y):=es[j]?|unsupported "internal:set-entry"
     let equal←aqg [y] (atx y x)
     let(es',_,t')←setState a
     if true&&equal then return .there none
     let some same:=t'.sameMemory t.moves t.mask|unsupported "set.changed-during-lookup:is-the-new-block-at-the-old-address"
     let still←match(if same then t'.slot (advs t m (advs t i (t.probeStart h))).j else .empty)with
      |.live i'=>match es'[i']? with
       |some (_,y')=>do pure (if←isSame y' y then some i' else none)
       |none=>pure none
      |_=>pure none
     match still with
     |none=>arK "set.search.anew";apS a x h true f none
     |some i'=>if equal then return .there (some i')else apS a x h true f (some (advs t (m+1) (advs t i (t.probeStart h))))) Q E s:=by
    rw[getElem?_pos es j hj]
    dsimp only
    refine aiD (akX (H.eq es[j] he hh _ ?_))
    refine aiD (amq ho hd hf ?_)
    dsimp only
    simp only[apd,aiT,↓reduceIte]
    have sm:t.sameMemory t.moves t.mask=some true:=by
     unfold SetTable.sameMemory
     rw[aiP (by simp)]
    rw[sm]
    dsimp only
    simp only[↓reduceIte]
    rw[g3]
    dsimp only
    rw[getElem?_pos es j hj]
    dsimp only
    rw[hq2]
    refine aiD (wpAny_isSame_ref_self (aiD (aiF ?_)))
    simp only[↓reduceIte]
    refine ih (N-(i+m+1)) (by lia) f (i+m+1) _ rfl (by lia) (by lia) ?_
    show advs t (m+1) (advs t i (t.probeStart h))=_
    rw[hu]
    rfl
   cases hl:t.led with
   |true=>
    simp only[ajP,aiT,↓reduceIte]
    exact rest
   |false=>
    simp only[amE,↓reduceIte]
    refine aiD (H.seen _ _ (fun y hy=>?_) ?_)
    ·obtain⟨e,he,rfl⟩:=ai'.mp hy
     exact⟨e,(Array.mem_filter.mp (aqP.mp he)).1.val,rfl⟩
    ·simp only[aiT,↓reduceIte]
     exact rest
theorem Vy {a:aiM}{o:Obj}{es:Array (Int×aiH)}{ep n:Nat}{t:akd}{x:aiH}{h:Int}{Q:SetFound->aiK->Prop}(ho:s.heap.get? a=some o)(hd:o.data=.set es ep t)(hz:es.size=n)(T:Tb t n)(H:Other prog w A E s es h x)(hq:∀j,j<=t.mask->(∀i,i<n->t.place.getD i 0≠j)->Q (.free j false) s):ai0 (ai7 prog w) A (setSearch a x h (adding:=true)) Q E s:=by
 obtain⟨N,n1,n2,n3⟩:=Qe T h;unfold setSearch;refine Lq ho hd hz T H n1 n2 n3 ?_ (N-0) 100000 0 none rfl (ajW _) ?_ rfl
 .refine hq _ ?_ ?_
  .have:=Lh t h N;lia
  .rcases Ip T (advs t N (t.probeStart h)).j with⟨i,h1,_⟩|⟨_,h2⟩
   .rw[h1]at n2;cases n2
   .exact h2
 .have:ala t.mask<=600:=by unfold ala;rcases T.mask with e|e|e|e<;>lia
  lia
theorem adW {t:akd}{n j:Nat}(T:Tb t n)(hj:j<=t.mask)(hf:∀i,i<n->t.place.getD i 0≠j):(t.put j).1.mask=t.mask∧(t.put j).1.dummies=#[]∧(t.put j).1.place.size=n+1∧agV (t.put j).1.place∧(∀i,i<n+1->(t.put j).1.place.getD i 0<=t.mask)∧(t.put j).1.plain=t.plain∧(t.put j).1.led=t.led:=by
 obtain⟨b1,b2,b3⟩:=sr T.up j;refine⟨rfl,?_,?_,?_,?_,rfl,rfl⟩
 .show(if asw t.dummies j then SetTable.eraseAt t.dummies (ajK t.dummies j)else t.dummies)=_;rw[T.dum,has_none,aiL aiW]
 .show(ajx t.place (ajK t.place j) j).size=_;rw[su,T.Zr]
 .exact adV T.up (by rw[T.Zr];exact hf)
 .intro i hi;show(ajx t.place (ajK t.place j) j).getD i 0<=_;rw[sy b1];have h1:=T.Zr;by_cases c:i<ajK t.place j
  .rw[aiP c];exact T.top i (by omega)
  .rw[aiL c];by_cases d:i=ajK t.place j
   .rw[aiP d];exact hj
   .rw[aiL d];exact T.top (i-1) (by omega)
theorem abG {m n:Nat}(hm:qQ m)(h1:n*5<m*3)(h2:m*3<=(n+1)*5)(h3:n<200):qQ (amg (apq (n+1))-1)∧(n+1)*5<(amg (apq (n+1))-1)*3∧amg (apq (n+1))<=512:=by
 rcases hm with rfl|rfl|rfl|rfl
 .obtain rfl:n=4:=by lia
  exact⟨.inr (.inl (by decide)),by decide,by decide⟩
 .obtain rfl:n=18:=by lia
  exact⟨.inr (.inr (.inl (by decide))),by decide,by decide⟩
 .obtain rfl:n=76:=by lia
  exact⟨.inr (.inr (.inr (by decide))),by decide,by decide⟩
 .lia
theorem abH {a q:aiM}{o:Obj}{es:Array (Int×aiH)}{ep n:Nat}{t:akd}{h:Int}{Q:Bool->aiK->Prop}(ho:s.heap.get? a=some o)(hd:o.data=.set es ep t)(hz:es.size=n)(hn:n<200)(T:Tb t n)(hp:t.plain=true)(H:Other prog w A E s es h (.ref q))
  (hv:∀Q:Bool->aiK->Prop,Q true s->ai0 (ai7 prog w) A (anm 8 (.ref q)) Q E s)
  (hq:∀h' es' ep' t',akK a s.heap h'->h'.get? a=some {o with data:=.set es' ep' t'}->es'.toList.Perm ((h,.ref q)::es.toList)->Tb t' (n+1)->t'.plain=true->t'.led=t.led->Q true {s with heap:=h'}):
  ai0 (ai7 prog w) A (setAddHashed a (.ref q) h) Q E s:=by
 have hf:t.fits es.size=true:=by rw[hz];exact Ir T
 unfold setAddHashed setAddHashedIn
 refine akX (aiD (amq ho hd hf ?_))
 dsimp only
 have bs:byScan (.ref q) es=false:=rfl
 rw[bs]
 simp only[aiT,↓reduceIte]
 refine aiD (Vy ho hd hz T H fun j j1 j2=>?_)
 dsimp only
 refine aiD (amq ho hd hf ?_)
 obtain⟨p1,p2,p3,p4,p5,aic,agz⟩:=adW T j1 j2
 dsimp only
 rw[aic,hp]
 simp only[↓reduceIte]
 refine aiD (hv _ ?_)
 simp only[↓reduceIte,amE,akH]
 have ip:(ajx es (t.put j).2 (h,ai2 q)).toList.Perm ((h,.ref q)::es.toList):=zj _ _ _
 have ag6:(ajx es (t.put j).2 (h,ai2 q)).size=n+1:=by rw[su,hz]
 refine aiD (asx ho hd ?_ (by rw[ag6,aje];lia))
 have ho1:(s.heap.update a (arZ (ajx es (t.put j).2 (h,ai2 q)) (t.put j).1)).get? a=some {o with data:=.set (ajx es (t.put j).2 (h,ai2 q)) (ep+1) (t.put j).1}:=by
  rw[ajV _ ho (by rw[putSet_of _ _ hd];rfl),putSet_of _ _ hd]
 have fl:(t.put j).1.fill=n+1:=by
  unfold auG
  rw[p2,p3]
  rfl
 by_cases c:(t.put j).1.tooFull=true
 ·rw[aiP c]
  unfold as4 at c
  rw[fl,p1]at c
  have c':t.mask*3<=(n+1)*5:=ai9 c
  obtain⟨g1,g2,g3⟩:=abG T.mask T.room c' hn
  unfold setRelay
  have hz1:(ajx es (t.put j).2 (h,ai2 q)).size=es.size+1:=by rw[ag6,hz]
  have hf1:(t.put j).1.fits (ajx es (t.put j).2 (h,ai2 q)).size=true:=by
   unfold auF
   rw[ag6,p3,fl,p1]
   have:=T.room
   simp
   lia
  refine aiD (aiD (amq (s:={s with heap:=_}) ho1 rfl hf1 ?_))
  dsimp only
  rw[hz,aiL (by rw[aje];lia)]
  obtain⟨t',order,r1,r2,r3,r4,r5⟩:=Vx (t.put j).1 (hs:=(ajx es (t.put j).2 (h,ai2 q)).map (·.1)) (wanted:=apq (n+1)) g1 (by rw[apn,ag6];exact g2)
  rw[apn]at r2 r3
  rw[r1]
  have op:=Qf r2
  have oz:(order.filterMap ((ajx es (t.put j).2 (h,ai2 q))[·]?)).size=(ajx es (t.put j).2 (h,ai2 q)).size:=by
   rw[←ajR,←ajR]
   exact op.length_eq
  refine aiD ?_
  have hb:((order.filterMap ((ajx es (t.put j).2 (h,ai2 q))[·]?)).size !=(ajx es (t.put j).2 (h,ai2 q)).size)=false:=by
   rw[oz]
   simp
  show ai0 (ai7 prog w) A (do
   if(order.filterMap ((ajx es (t.put j).2 (h,ai2 q))[·]?)).size !=(ajx es (t.put j).2 (h,ai2 q)).size then unsupported "internal:set-table-lost-an-element"
   pure (order.filterMap ((ajx es (t.put j).2 (h,ai2 q))[·]?),t')) _ _ _
  rw[hb]
  simp only[aiT,↓reduceIte]
  refine aiF (asx (s:={s with heap:=s.heap.update a (arZ (ajx es (t.put j).2 (h,ai2 q)) (t.put j).1)}) ho1 rfl (aiF ?_) (by rw[oz,ag6,aje];lia))
  have ho2:((s.heap.update a (arZ (ajx es (t.put j).2 (h,ai2 q)) (t.put j).1)).update a (arZ (order.filterMap ((ajx es (t.put j).2 (h,ai2 q))[·]?)) t')).get? a=some {o with data:=.set (order.filterMap ((ajx es (t.put j).2 (h,ai2 q))[·]?)) (ep+1+1) t'}:=by
   rw[ajV _ ho1 rfl]
   rfl
  rw[ag6]at r3
  exact hq _ _ _ _ ((akT _ a _).trans (akT _ a _)) ho2 (op.trans ip) r3 (by rw[r4,aic];exact hp) (by rw[r5,agz])
 ·rw[aiL c]
  unfold as4 at c
  rw[fl,p1]at c
  have c':¬t.mask*3<=(n+1)*5:=fun z=>c (aiQ z)
  exact aiF (hq _ _ _ _ (akT _ a _) ho1 ip ⟨by rw[p1];exact T.mask,p2,p3,p4,fun i hi=>by rw[p1];exact p5 i hi,by rw[p1];lia⟩ (by rw[aic];exact hp) agz)
end
open L2
section
variable{prog:ajr}{w:ajI}{A:ajO}{E:aiH->aiK->Prop}{s:aiK}{B:Bool}
theorem oR {h h':aj4}{k:Int×List Int}{a:aiM}(x:bx prog w B h k a)(hk:∀b o,h.get? b=some o->o.cls=.type "tuple"->h'.get? b=some o):bx prog w B h' k a:=by
 obtain⟨o,n,t,v,ho,hc,hd,hi⟩:=x;refine⟨o,n,t,v,hk _ _ ho hc,hc,hd,?_⟩;cases B with
 |true=>exact hi
 |false=>obtain⟨c,e1,o',its,n',g1,g2,g3,g4⟩:∃c,v=.ref c∧alf (aku prog w) h k.2 c:=hi;exact⟨c,e1,o',its,n',hk _ _ g1 g2,g2,g3,g4⟩
theorem vX {ks:List Int}{vs:List aiH}(h:ItemsAre (aku prog w) ks vs):∀v∈vs,∃i t,v=.int i t:=by
 induction h with
 |nil=>intro v hv;exact ai8 hv aiX
 |cons hk _ ih=>
  intro v hv;rcases ai3.mp hv with rfl|hv
  .have:ana _ v=true:=hk;cases v<;>simp[ana]at this;exact⟨_,_,rfl⟩
  .exact ih v hv
theorem Vz {ks:List Int}{c:aiM}{Q:Bool->aiK->Prop}(hk:alf (aku prog w) s.heap ks c)(h:Q true s):ai0 (ai7 prog w) A (anm 7 (.ref c)) Q E s:=by
 have hT:=hk.typeIs;obtain⟨o,its,n,ho,_,hd,hi⟩:=hk;unfold anm;refine aiD (alV hT aml.lookup ?_);dsimp only;refine aiD (amF ho hd ?_);refine aiD ?_;show ai0 _ _ (forIn its _ _) _ _ s;rw[←alB];refine amG _ (fun rest r s'=>r.1=none∧s'=s∧∀v∈rest,∃i t,v=aj6 i t) _ ?_ ?_ _ _ ⟨rfl,rfl,vX hi⟩
 .rintro v rest r s' ⟨hr,rfl,hall⟩;obtain⟨i,t,rfl⟩:=hall v akL;have e:anm 6 (.int i t)=pure true:=rfl;rw[e];refine aiD (aiF ?_);simp only[ajP,aiT,if_false];exact aiF ⟨rfl,rfl,fun u hu'=>hall u (ajS _ hu')⟩
 .rintro⟨r1,r2⟩ s' ⟨hr,rfl,_⟩;simp only at hr;subst hr;exact aiF h
theorem Qg {k:Int×List Int}{a:aiM}{Q:Bool->aiK->Prop}(hk:bx prog w B s.heap k a)(h:Q true s):ai0 (ai7 prog w) A (anm 8 (.ref a)) Q E s:=by
 have hT:=hk.typeIs;obtain⟨o,n,t,v,ho,_,hd,hi⟩:=hk;unfold anm;refine aiD (alV hT aml.lookup ?_);dsimp only;refine aiD (amF ho hd ?_);refine aiD ?_;show ai0 _ _ (forIn #[aj6 k.1 t,v] _ _) _ _ s;rw[←alB];show ai0 _ _ (forIn [aj6 k.1 t,v] ((none,()):Option Bool×Unit) _) _ _ s;have e:anm 7 (.int k.1 t)=pure true:=rfl;rw[akA,e];refine aiD (aiD (aiF ?_));simp only[ajP,aiT,if_false];refine aiF ?_;show ai0 _ _ (forIn [v] ((none,()):Option Bool×Unit) _) _ _ s;rw[akA];have fin:ai0 (ai7 prog w) A (anm 7 v) (fun r s'=>r=true∧s'=s) E s:=by
  cases B with
  |true=>obtain⟨m,t,e1,e2⟩:∃(m:Int) (t:Tok),k.2=[m]∧v=.int m t:=hi;subst e2;exact aiF ⟨rfl,rfl⟩
  |false=>obtain⟨c,e1,k1⟩:∃c,v=.ref c∧alf (aku prog w) s.heap k.2 c:=hi;subst e1;exact Vz k1 ⟨rfl,rfl⟩
 refine aiD (aiD (alE fin (fun r s' z=>?_) fun _ _ z=>z));obtain⟨rfl,rfl⟩:=z;simp only[ajP,aiT,if_false];refine aiF ?_;show ai0 _ _ (forIn ([]:List aiH) ((none,()):Option Bool×Unit) _) _ _ _;rw[amD];exact aiF (aiF h)
theorem Zv {ks:List Int}{c:aiM}{Q:Bool->aiK->Prop}(hk:alf (aku prog w) s.heap ks c)(h:Q false s):ai0 (ai7 prog w) A (alT 7 (.ref c)) Q E s:=by
 have hT:=hk.typeIs;obtain⟨o,its,n,ho,_,hd,hi⟩:=hk;unfold alT;refine aiD (amn hT ?_);dsimp only;rw[aiP (show("tuple"=="tuple")=true by decide)];refine aiD (aiF ?_);simp only[ajP,aiT,if_false];refine aiD (amF ho hd ?_);dsimp only;refine aiD ?_;show ai0 _ _ (forIn its _ _) _ _ s;rw[←alB];refine amG _ (fun rest r s'=>r.1=none∧s'=s∧∀v∈rest,∃i t,v=aj6 i t) _ ?_ ?_ _ _ ⟨rfl,rfl,vX hi⟩
 .rintro v rest r s' ⟨hr,rfl,hall⟩;obtain⟨i,t,rfl⟩:=hall v akL;have e:alT 6 (.int i t)=pure false:=rfl;rw[e];refine aiD (aiF ?_);simp only[aiT,if_false];exact aiF ⟨rfl,rfl,fun u hu'=>hall u (ajS _ hu')⟩
 .rintro⟨r1,r2⟩ s' ⟨hr,rfl,_⟩;simp only at hr;subst hr;exact aiF h
theorem G9 {k:Int×List Int}{a:aiM}{Q:Bool->aiK->Prop}(hk:bx prog w B s.heap k a)(h:Q false s):ai0 (ai7 prog w) A (alT 8 (.ref a)) Q E s:=by
 have hT:=hk.typeIs;obtain⟨o,n,t,v,ho,_,hd,hi⟩:=hk;unfold alT;refine aiD (amn hT ?_);dsimp only;rw[aiP (show("tuple"=="tuple")=true by decide)];refine aiD (aiF ?_);simp only[ajP,aiT,if_false];refine aiD (amF ho hd ?_);dsimp only;refine aiD ?_;show ai0 _ _ (forIn #[aj6 k.1 t,v] _ _) _ _ s;rw[←alB];show ai0 _ _ (forIn [aj6 k.1 t,v] ((none,()):Option Bool×Unit) _) _ _ s;have e:alT 7 (.int k.1 t)=pure false:=rfl;rw[akA,e];refine aiD (aiD (aiF ?_));simp only[aiT,if_false];refine aiF ?_;show ai0 _ _ (forIn [v] ((none,()):Option Bool×Unit) _) _ _ s;rw[akA];have fin:ai0 (ai7 prog w) A (alT 7 v) (fun r s'=>r=false∧s'=s) E s:=by
  cases B with
  |true=>obtain⟨m,t,e1,e2⟩:∃(m:Int) (t:Tok),k.2=[m]∧v=.int m t:=hi;subst e2;exact aiF ⟨rfl,rfl⟩
  |false=>obtain⟨c,e1,k1⟩:∃c,v=.ref c∧alf (aku prog w) s.heap k.2 c:=hi;subst e1;exact Zv k1 ⟨rfl,rfl⟩
 refine aiD (aiD (alE fin (fun r s' z=>?_) fun _ _ z=>z));obtain⟨rfl,rfl⟩:=z;simp only[aiT,if_false];refine aiF ?_;show ai0 _ _ (forIn ([]:List aiH) ((none,()):Option Bool×Unit) _) _ _ _;rw[amD];exact aiF (aiF h)
theorem abI {k:Int×List Int}{a:aiM}{l:List aiH}{Q:Bool->aiK->Prop}(hk:bx prog w B s.heap k a)(hl:∀y∈l,∃k' q,y=.ref q∧bx prog w B s.heap k' q)(h:Q false s):ai0 (ai7 prog w) A (apH (.ref a) l) Q E s:=by
 unfold apH;refine aiD ?_;refine amG _ (fun rest r s'=>r.1=none∧s'=s∧∀y∈rest,∃k' q,y=ai2 q∧bx prog w B s.heap k' q) _ ?_ ?_ _ _ ⟨rfl,rfl,hl⟩
 .rintro y rest r s' ⟨hr,rfl,hall⟩;obtain⟨k',q,rfl,hq⟩:=hall y akL;have nx:∀u∈rest,∃k' q,u=ai2 q∧bx prog w B s'.heap k' q:=fun u hu'=>hall u (ajS _ hu');dsimp only;split
  .exact aiF ⟨rfl,rfl,nx⟩
  .refine aiD (qu hk ?_);simp only[ajP,aiT,if_false];refine aiD (qu hq ?_);simp only[ajP,aiT,if_false];refine aiD (G9 hk ?_);simp only[aiT,if_false];refine aiD (G9 hq ?_);simp only[aiT,if_false];exact aiF ⟨rfl,rfl,nx⟩
 .rintro⟨r1,r2⟩ s' ⟨hr,rfl,_⟩;simp only at hr;subst hr;exact aiF h
structure Es (prog:ajr)(w:ajI)(B:Bool)(h:aj4)(a:aiM)(o:Obj)(xs:List ((Int×List Int)×aiM))(led:Bool):Prop where
 at_:h.get? a=some o
 Zw:o.ExactSet
 data:∃es ep t,o.data=.set es ep t∧es.toList.Perm (xs.map fun x=>(pI prog w B x.1,ai2 x.2))∧Tb t xs.length∧t.plain=true∧t.led=led
theorem afV {a q:aiM}{o:Obj}{k:Int×List Int}{xs:List ((Int×List Int)×aiM)}{led:Bool}{Q:Bool->aiK->Prop}(hu:A.units+8<ak8)(S:Es prog w B s.heap a o xs led)(hl:xs.length<200)(hx:∀x∈xs,bx prog w B s.heap x.1 x.2)(hk:bx prog w B s.heap k q)(hn:∀x∈xs,x.1≠k)(hq:∀h' o' tk,akK a s.heap h'->Es prog w B h' a o' (xs++[(k,q)]) led->s.toks<=tk->Q true {s with heap:=h',toks:=tk}):ai0 (ai7 prog w) A (setAdd a (.ref q)) Q E s:=by
 obtain⟨ho,hex,es,ep,t,hd,hp,T,pl,ld⟩:=S;unfold setAdd;refine akX (aiD (yQ hu hk ?_));have hz:es.size=xs.length:=by have:=hp.length_eq;simpa using this
 have mem:∀e∈es.toList,∃x∈xs,e=(pI prog w B x.1,ai2 x.2):=fun e he=>by obtain⟨x,h1,h2⟩:=ai'.mp (hp.mem_iff.mp he);exact⟨x,h1,h2.symm⟩
 refine abH (s:={s with toks:=s.toks+(gm B k.2+2)}) ho hd hz hl T pl ⟨fun e he=>?_,fun e he _ Q hQ=>?_,fun l Q hl' hQ=>?_⟩ (fun Q hQ=>Qg (s:={s with toks:=s.toks+(gm B k.2+2)}) hk hQ) fun h' es' ep' t' c1 c2 c3 c4 c5 c6=>?_
 .obtain⟨x,_,rfl⟩:=mem e he;exact⟨x.2,rfl⟩
 .obtain⟨x,x1,rfl⟩:=mem e he;refine Gg (s:={s with toks:=s.toks+(gm B k.2+2)}) hu (hx x x1) hk ?_;rw[aiO (hn x x1)];exact hQ
 .refine abI (s:={s with toks:=s.toks+(gm B k.2+2)}) hk (fun y hy=>?_) hQ;obtain⟨e,e1,rfl⟩:=hl' y hy;obtain⟨x,x1,rfl⟩:=mem e e1;exact⟨x.1,x.2,rfl,hx x x1⟩
 .refine hq h' _ _ c1 ⟨c2,hex,es',ep',t',rfl,?_,?_,c5,c6.trans ld⟩ (anr _ _)
  .refine c3.trans ?_;rw[ajf];exact(aq4 _ hp).trans (apo _ _).symm
  .rw[aiZ];exact c4
end
noncomputable abbrev dC (led:Bool):Obj:={cls:=.type "set",dict:=none,data:=.set #[] 0 (.fresh 0 0 led)}
noncomputable abbrev mJ (w:ajI):Bool:=!w.params.followText "set-order"
section
variable{prog:ajr}{w:ajI}{A:ajO}{E:aiH->aiK->Prop}{s:aiK}{B:Bool}
theorem abJ (v:aiH){Q:aiH->aiK->Prop}(hq:Q (.ref s.heap.objs.size) {s with heap:=s.heap.push (dC (mJ w))}):anq (ai7 prog w) A (.call (.builtin "set.__new__") ⟨[.type "set",v],[]⟩) (wants Q E) s:=by refine codeAny_of_tree ?_;show ai0 _ A.in1 (do ap5 "set.__new__" ⟨[.type "set",v],[]⟩;atF (.builtin "set.__new__" ⟨[.type "set",v],[]⟩)) _ _ s;refine aiD (aq1 (F.newCall_set_1 v) (aiF ⟨anH atn _,alx F.entry_set_new ?_⟩));rw[alm atn _];unfold Builtin.«set.__new__» aua;have sb:=sub_set_self;obtain⟨hp,g,d,tk,os⟩:=s;dsimp only;wp_walk;refine aqc (aiF ?_);dsimp only;simp only[newObj];refine aiD (wpAny_alloc (aiF ?_));exact aiF hq
theorem Zx (led:Bool):Tb (.fresh 0 0 led) 0:=⟨.inl rfl,rfl,rfl,fun i j _ hj=>ai8 hj (alw j),fun i hi=>ai8 hi (alw i),show 0*5<7*3 by decide⟩
theorem VB {h:aj4}{a:aiM}{led:Bool}(ho:h.get? a=some (dC led)):Es prog w B h a (dC led) [] led:=⟨ho,⟨rfl,rfl,rfl⟩,#[],0,_,rfl,amL _,Zx led,rfl,rfl⟩
theorem Es.moved {h h':aj4}{a:aiM}{o:Obj}{xs:List ((Int×List Int)×aiM)}{led:Bool}(S:Es prog w B h a o xs led)(hk:∀o,h.get? a=some o->h'.get? a=some o):Es prog w B h' a o xs led:=⟨hk _ S.at_,S.Zw,S.data⟩
theorem abK {h:aj4}{I l b:aiM}{i:Nat}{o:Obj}(x:h.IsListIter I l i)(e:h.get? b=some o)(ec:o.cls=.type "tuple"):b≠I:=by rintro rfl;obtain⟨o',h1,h2,_⟩:=x;rw[e]at h1;cases h1;rw[ec]at h2;exact ai8 h2 (by decide)
theorem ae3 {I S l:aiM}{its:Array aiH}{xs:List ((Int×List Int)×aiM)}{led:Bool}(hh:A.in1.handled=none)(hne:l≠I)(hS:S≠I)(hS2:S≠l)(hu:A.units+20<ak8)(hz:xs.length<=200)(hits:its.toList=xs.map fun x=>ai2 x.2)(hnd:(xs.map (·.1)).Nodup){R:asH->aiK->Prop}:∀(k i:Nat) (s:aiK) (o:Obj),xs.length-i=k->i<=xs.length->s.heap.IsListIter I l i->s.heap.IsList l its->Es prog w B s.heap S o (xs.take i) led->(∀x∈xs,bx prog w B s.heap x.1 x.2)->(∀s' o',Moved (S::[I]) (fun a b=>b=a) s s'->Es prog w B s'.heap S o' xs led->R (.ok (.ret .none)) s')->anq (ai7 prog w) A (.builtin "set.update.loop" ⟨[.ref S,.ref I],[]⟩) R s:=by
 have W:=(atY (prog:=prog) (w:=w) hh I l hne its).toS;have zi:its.size=xs.length:=by have:=congrArg ane hits;simpa using this
 intro k;induction k with
 |zero=>
  intro i s o hk hi h1 h2 h3 h4 hR;obtain rfl:i=xs.length:=by lia
  refine alx anA ?_;rw[alm al2 _];show ai0 _ A.in1 (am5 (.ref I)>>=_) _ _ s;refine aiD (W.done s _ _ ⟨by rw[zi];exact h1,h2⟩ fun s' hm=>?_);show ai0 _ A.in1 (ret akr) _ _ s';rw[akt]at h3;exact aiF (hR s' o (hm.mono fun b hb=>ajS _ hb) (h3.moved fun o e=>hm.heap S o (by simpa using hS) e))
 |succ k ih=>
  intro i s o hk hi h1 h2 h3 h4 hR;have hlt':i<xs.length:=by lia
  refine alx anA ?_;rw[alm al2 _];show ai0 _ A.in1 (am5 (.ref I)>>=_) _ _ s;refine aiD (W.item i s _ _ (by lia) ⟨h1,h2⟩ fun v s' hP hst' hm=>?_);obtain⟨g1,g2⟩:=hst';have ev:v=.ref xs[i].2:=by
   have:its.toList[i]?=some v:=by rw[akU];exact hP
   rw[hits,ai6,aiG hlt']at this;exact(ajn this).symm
  subst ev;have kp:∀b o,s.heap.get? b=some o->o.cls=.type "tuple"->s'.heap.get? b=some o:=fun b o e ec=>hm.heap b o (by simpa using abK h1 e ec) e;have p4:∀x∈xs,bx prog w B s'.heap x.1 x.2:=fun x hx=>oR (h4 x hx) kp;show ai0 _ A.in1 (aqg [ai2 xs[i].2] (setAdd S (.ref xs[i].2))>>=_) _ _ s';refine aiD (akX ?_);refine afV (by rw[alC];lia) (h3.moved fun o e=>hm.heap S o (by simpa using hS) e) (by rw[ajC];lia) (fun x hx=>p4 x (aj1 hx)) (p4 _ (ajT hlt')) (fun x hx e=>?_) fun h' o' tk c1 c2 c3=>?_
  .obtain⟨j,hj,rfl⟩:=ank.mp hx;rw[ajC]at hj;rw[asr]at e;have:=alz.mp hnd j i (by simp;lia) (by simpa using hlt') (by lia);rw[ap6,ap6]at this;exact this e
  .have et:xs.take i++[(xs[i].1,xs[i].2)]=xs.take (i+1):=by rw[akv,aiG hlt'];rfl
   rw[et]at c2;have kb:∀b o,b≠S->s'.heap.get? b=some o->h'.get? b=some o:=fun b o hb e=>(c1.2 b hb).trans e;refine aiF ⟨anH al2 _,ih (i+1) _ o' (by lia) (by lia) (g1.at fun o e=>kb I o (fun z=>hS z.symm) e) (g2.at fun o e=>kb l o (fun z=>hS2 z.symm) e) c2 (fun x hx=>oR (p4 x hx) fun b o e ec=>kb b o (fun z=>?_) e) fun s2 o2 hm2 hS3=>?_⟩
   .subst z;have:=(h3.moved fun o e=>hm.heap b o (by simpa using hS) e).at_;rw[e]at this;cases this;rw[h3.Zw.1]at ec;exact ai8 ec (by decide)
   .refine hR s2 o2 (Moved.trans (fun a b c h1 h2=>h2.trans h1) ((hm.mono fun b hb=>ajS _ hb).then_heap c3 fun b o hb e=>?_) hm2) hS3;exact kb b o (fun h:b=S=>hb (by rw[h];exact akL)) e
theorem Zy {l:aiM}{its:Array aiH}{xs:List ((Int×List Int)×aiM)}{Q:aiH->aiK->Prop}(hh:A.handled=none)(hu:A.units+30<ak8)(hl:s.heap.IsList l its)(hits:its.toList=xs.map fun x=>ai2 x.2)(hz:xs.length<=200)(hnd:(xs.map (·.1)).Nodup)(hx:∀x∈xs,bx prog w B s.heap x.1 x.2)(hq:∀(h':aj4) (o:Obj) (tk:Nat),Es prog w B h' s.heap.objs.size o xs (mJ w)->(∀b o,b<s.heap.objs.size->s.heap.get? b=some o->h'.get? b=some o)->s.heap.objs.size<h'.objs.size->s.toks<=tk->Q (.ref s.heap.objs.size) {s with heap:=h',toks:=tk}):ai0 (ai7 prog w) A (call (.type "set") [.ref l]) Q E s:=by
 obtain⟨c,tl,mr⟩:=amT.mro;have md:=amT.made;have sb:=amT.sub;refine atH (codeAny_of_tree ?_);show ai0 _ _ (callAny (.type "set") _) _ _ _;refine aiF ⟨arV _ (by decide+kernel),alx F.entry_type_call ?_⟩;rw[Around.under_plain (weight_type_call_type "set" [.ref l] []) rfl];have z1:=amT.notType;have z2:=amT.canCreate;have z3:=F.typeCall_set_1 (.ref l);repeat (any_goals (first|assumption|wp_step))
 refine anZ (abJ (.ref l) (E:=E) (Q:=fun v s₁=>v=.ref s.heap.objs.size∧s₁={s with heap:=s.heap.push (dC (mJ w))}) ⟨rfl,rfl⟩) fun r s₁ hr=>?_;cases r with
 |error e=>exact hr
 |ok fl=>
  cases fl with
  |ret v=>
   obtain⟨rfl,rfl⟩:=hr;have hS:(s.heap.push (dC (mJ w))).get? s.heap.objs.size=some (dC (mJ w)):=ajg _ rfl;have hT:apQ {s with heap:=s.heap.push (dC (mJ w))} (.ref s.heap.objs.size) "set":=⟨_,hS,rfl⟩;have z4:=amT.init.lookup;have z5:=amT.init.bind (.ref s.heap.objs.size);repeat (any_goals (first|assumption|wp_step))
   refine anZ (aoH (R:=wants (fun r s₂=>r=.none∧∃h' o tk,s₂={s with heap:=h',toks:=tk}∧Es prog w B h' s.heap.objs.size o xs (mJ w)∧(∀b o,b<s.heap.objs.size->s.heap.get? b=some o->h'.get? b=some o)∧s.toks<=tk) E) amT.init.plain F.entry_set_init (check_set_init_1 hT ?_)) fun r₂ s₂ hr₂=>?_
   .obtain⟨⟨cl,aiq,da,sl⟩,ho,hc,nn,hd⟩:=hl;simp only at hc hd;subst hc;subst hd;have ho':(s.heap.push (dC (mJ w))).get? l=some {cls:=.type "list",dict:=aiq,data:=.seq its nn,slots:=sl}:=aiS _ ho;have y1:=F.sub_list_set;have y2:=F.sub_list_frozenset;have y3:(aj9 "list"==aj9 "dict")=false:=by decide
    have hl1:(s.heap.push (dC (mJ w))).IsList l its:=⟨_,ho',rfl,nn,rfl⟩;unfold Builtin.«set.__init__» noKeywords ato;generalize ep:asF=PI;wp_walk;subst ep;refine anV hl1 ?_;refine aiD (wpAny_runValue ?_);have ls:l<s.heap.objs.size:=aja ho;have h3:A.in1.in1.in1.handled=none:=by simp[hh]
    have zs:(s.heap.push (dC (mJ w))).objs.size=s.heap.objs.size+1:=amc _ _;refine ae3 (S:=s.heap.objs.size) (I:=(s.heap.push (dC (mJ w))).objs.size) (l:=l) (led:=mJ w) (xs:=xs) (its:=its) (B:=B) h3 (by rw[zs];exact ajw (als ls)) (by rw[zs];exact ajw (amH _)) (al4 ls) (by simp only[alC];lia) hz hits hnd (xs.length-0) 0 _ (dC (mJ w)) rfl (ajW _) ?a1 ?a2 ?a3 ?a4 ?a5;case a1=>exact⟨_,ajg _ rfl,rfl,rfl⟩
    case a2=>exact hl1.push _
    case a3=>exact VB (aiS _ hS)
    case a4=>exact fun x h=>oR (hx x h) fun b o e _=>aiS _ (aiS _ e)
    intro s' o' hm hS';obtain⟨h',g',d',tk',os'⟩:=s';have eg:g'=s.gens:=hm.gens;have ed:d'=s.drawn:=hm.drawn;have eo:os'=s.os:=hm.os;subst eg;subst ed;subst eo;show ai0 _ _ _ _ _ _;refine aiF ?_;show ai0 _ _ (ret akr) _ _ _;refine aiF ⟨rfl,h',o',tk',rfl,hS',fun b o hb e=>?_,hm.toks⟩;refine hm.heap b o ?_ (aiS _ (aiS _ e));have b1:b≠s.heap.objs.size:=ajw hb;have b2:b≠(s.heap.push (dC (mJ w))).objs.size:=by rw[zs];exact ajw (als hb)
    simp only[ai3,aiX,or_false,not_or];exact⟨b1,b2⟩
   .cases r₂ with
    |error e=>exact hr₂
    |ok fl₂=>
     cases fl₂ with
     |ret r=>
      obtain⟨rfl,h',o,tk,rfl,hS',hk',ht'⟩:=hr₂;repeat (any_goals (first|assumption|wp_step))
      exact hq _ _ _ hS' hk' (aja hS'.at_) ht'
     |_=>exact hr₂.elim
  |_=>exact hr.elim
end
theorem Uc {α:Type}(nx:Nat->Nat):∀(f k:Nat) (l:List α) (o:Array α),l.length=f->(asy nx f k l o).toList.Perm (o.toList++l)
 |0,k,l,o,h=>by
  unfold asy
  rw[amK.mp h,alb]
 |f+1,k,l,o,h=>by
  unfold asy
  have hm:nx k %l.length<l.length:=anf _ (by lia)
  rw[aiG hm]
  dsimp only
  refine(Uc nx f (k+1) _ _ (by rw[List.length_eraseIdx,aiP hm];lia)).trans ?_
  rw[alS,ak6]
  refine aor _ ?_
  show(l[nx k %l.length]::l.eraseIdx (nx k %l.length)).Perm l
  rw[List.eraseIdx_eq_take_drop_succ]
  refine as3.symm.trans ?_
  rw[←akJ hm,amh]
theorem VD {α:Type}(nx:Nat->Nat)(xs:Array α):(as5 nx xs).toList.Perm xs.toList:=by have:=Uc nx xs.size 0 xs.toList #[] (by simp);simpa[as5]using this
noncomputable def walked (w:ajI)(a:aiM)(ep:Nat)(es:Array (Int×aiH)):Array (Int×aiH):=if w.params.followText "set-order"=true then as5 (w.params.setOrder a ep) es else es
theorem zm (w:ajI)(a:aiM)(ep:Nat)(es:Array (Int×aiH)):(walked w a ep es).toList.Perm es.toList:=by
 unfold walked;split
 .exact VD _ _
 .exact amL _
noncomputable def qR (t:akd):Nat->Nat
 |0=>0
 |i+1=>t.place.getD i 0+1
namespace SI
theorem slot_next:Slot "set_iterator" "__next__" "set_iterator.__next__":=
 .of (owner:="set_iterator") (n:="__next__") (by rw[aqz,aos];kernel_rfl) (by decide+kernel) (by decide+kernel) (by decide+kernel) (by first|exact .inl (by decide+kernel)|exact .inr (by decide+kernel)) (by rw[isSubtype_type];kernel_rfl)
theorem entry_next:entryFor table "set_iterator.__next__"=some Builtin.«set_iterator.__next__»:=entryFor_of_tree (by kernel_rfl)
theorem args_next (a:aiH):argsOk "set_iterator.__next__" ⟨[a],[]⟩:=by unfold argsOk;kernel_rfl
theorem Qh:entryFor table "set.__iter__"=some Builtin.«frozenset.__iter__»:=entryFor_alias (id':="frozenset.__iter__") (by kernel_rfl) rfl (by decide+kernel) (by kernel_rfl)
theorem VF (a:aiH):argsOk "set.__iter__" ⟨[a],[]⟩:=by unfold argsOk;kernel_rfl
end SI
def Ud (h:aj4)(I a:aiM)(sl i n ep:Nat):Prop:=h.get? I=some {cls:=.type "set_iterator",data:=.fields #[.int sl 0,.int i 0,.ref a,.int n 0,.int ep 0]}
section
variable{prog:ajr}{w:ajI}{A:ajO}{E:aiH->aiK->Prop}{s:aiK}
structure nJ (w:ajI)(h:aj4)(a:aiM)(es:Array (Int×aiH))(ep:Nat)(t:akd):Prop where
 at_:∃o,h.get? a=some o∧o.cls=.type "set"∧o.data=.set es ep t
 tb:Tb t es.size
 plain:t.plain=true
 led:t.led=mJ w
theorem nJ.keep {h h':aj4}{a:aiM}{es:Array (Int×aiH)}{ep:Nat}{t:akd}(x:nJ w h a es ep t)(hk:∀o,h.get? a=some o->h'.get? a=some o):nJ w h' a es ep t:=by obtain⟨o,h1,h2⟩:=x.at_;exact⟨⟨o,hk o h1,h2⟩,x.tb,x.plain,x.led⟩
theorem nJ.typeIs {a:aiM}{es:Array (Int×aiH)}{ep:Nat}{t:akd}(x:nJ w s.heap a es ep t):s.TypeIs (.ref a) "set":=by obtain⟨o,h1,h2,_⟩:=x.at_;exact⟨o,h1,h2⟩
theorem nM {a:aiM}{es:Array (Int×aiH)}{ep:Nat}{t:akd}{Q:(Array (Int×aiH)×Nat×akd)->aiK->Prop}(x:nJ w s.heap a es ep t)(h:Q (es,ep,t) s):ai0 (ai7 prog w) A (setState a) Q E s:=by obtain⟨o,h1,_,h2⟩:=x.at_;exact amq h1 h2 (Ir x.tb) h
theorem xP {Q:Bool->aiK->Prop}(h:Q (w.params.followText "set-order") s):ai0 (ai7 prog w) A setsByText Q E s:=by unfold setsByText;exact aiD (aqc (aiF h))
theorem abL {a:aiM}{es:Array (Int×aiH)}{ep:Nat}{t:akd}{Q:aiH->aiK->Prop}(x:nJ w s.heap a es ep t)
  (hq:Q (.ref s.heap.objs.size) {s with heap:=s.heap.push {cls:=.type "set_iterator",data:=.fields #[.int (0:Nat) 0,.int (0:Nat) 0,.ref a,.int es.size 0,.int ep 0]}}):ai0 (ai7 prog w) A (asF (.ref a)) Q E s:=by
 refine apD x.typeIs atp (aj7 atp x.typeIs SI.Qh ?_ (SI.VF _))
 show ai0 _ _ (do
  let n←apT a
  let first←if←setDrawn a then at4 ((←drawOrder n (aiY n)).map fun(i:Nat)=>anw i)else pure (anw 0)
  ret (←newFields "set_iterator" [first,anw 0,.ref a,anw n,anw (←setEpoch a)])) _ _ s
 unfold apT aub
 refine aiD (aiD (aiD (nM x (aiF (aiF ?_)))))
 unfold setDrawn
 refine aiD (aiD (nM x (aiD (xP (aiF ?_)))))
 have dr:∀c:Bool,(c&&(!t.plain&&decide (es.size>1)))=false:=fun c=>by
  rw[x.plain]
  simp
 dsimp only
 show ai0 (ai7 prog w) A.in1 (if(!w.params.followText "set-order"&&(!t.plain&&decide (es.size>1)))=true then _ else _) _ E s
 rw[aiL (fun z=>al' ((dr (!w.params.followText "set-order")).symm.trans z))]
 refine aiD (aiF ?_)
 unfold setEpoch
 refine aiD (aiD (nM x (aiF ?_)))
 refine aiD (ajX (aiF ⟨_,rfl,"set_iterator",_,⟨_,ajg _ rfl,rfl⟩,SI.slot_next.lookup,?_⟩))
 exact hq
theorem Ue {a:aiM}{es:Array (Int×aiH)}{ep i:Nat}{t:akd}{Q:Option (aiH×Nat)->aiK->Prop}(x:nJ w s.heap a es ep t)(hi:i<=es.size)(hq:∀sl,(w.params.followText "set-order"=false->sl=qR t (i+1))->Q (((walked w a ep es)[i]?).map fun e=>(e.2,sl)) s){sl:Nat}(hs:w.params.followText "set-order"=false->sl=qR t i):ai0 (ai7 prog w) A (setNext a sl i ep) Q E s:=by
 unfold setNext;refine aiD (nM x (aiD (xP ?_)));have we:walked w a ep es=if w.params.followText "set-order"=true then as5 (w.params.setOrder a ep) es else es:=rfl;cases c:w.params.followText "set-order" with
 |true=>rw[c]at we;simp only[if_true]at we;dsimp only;simp only[if_true,bne_self_eq_false,aiT,if_false];unfold setWalk;refine aiD (aiD (nM x (aiD (xP ?_))));rw[c];simp only[if_true];refine aiD (aqc (aiF (aiF ?_)));have:=hq sl (fun z=>by rw[c]at z;cases z);rw[we]at this;exact this
 |false=>
  rw[c]at we;simp only[aiT,if_false]at we;dsimp only;simp only[aiT,if_false];have dr:(!t.plain&&decide (es.size>1))=false:=by rw[x.plain];simp
  show ai0 (ai7 prog w) A (if(!t.plain&&decide (es.size>1))=true then _ else _) Q E s;rw[aiL (fun z=>al' (dr.symm.trans z))];have ld:t.led=true:=by rw[x.led];show(!w.params.followText "set-order")=true;rw[c];rfl
  refine aiD ?_;show ai0 (ai7 prog w) A (if(!t.led&&!es.isEmpty)=true then _ else _) _ E s;rw[ld];simp only[ajP,akO,aiT,if_false];refine aiF (aiF ?_);have es_:sl=qR t i:=hs c;have ahB:t.place.size=es.size:=x.tb.Zr;have eb:ajK t.place sl=i:=by
   rw[es_];cases i with
   |zero=>exact Qc x.tb.up
   |succ i=>exact Qd x.tb.up (by lia)
  have h2:=hq (qR t (i+1)) fun _=>rfl;rw[we]at h2;rw[eb];by_cases d:i<es.size
  .rw[getElem?_pos es i d]at h2 ⊢;have d':i<t.place.size:=by lia
   rw[getElem?_pos t.place i d'];have e1:qR t (i+1)=t.place[i]+1:=by show t.place.getD i 0+1=_;rw[ajE,getElem?_pos t.place i d'];rfl
   rw[e1]at h2;exact h2
  .rw[getElem?_neg es i d]at h2 ⊢;exact h2
theorem abM {I a:aiM}{es:Array (Int×aiH)}{ep i sl:Nat}{t:akd}{e:Int×aiH}{Q:Option aiH->aiK->Prop}(x:nJ w s.heap a es ep t)(hI:Ud s.heap I a sl i es.size ep)(hs:w.params.followText "set-order"=false->sl=qR t i)(he:(walked w a ep es)[i]?=some e)(hi:i<=es.size)(hq:∀h' sl',Ud h' I a sl' (i+1) es.size ep->(w.params.followText "set-order"=false->sl'=qR t (i+1))->akK I s.heap h'->Q (some e.2) {s with heap:=h'}):ai0 (ai7 prog w) A (am5 (.ref I)) Q E s:=by have hT:s.TypeIs (.ref I) "set_iterator":=⟨_,hI,rfl⟩;unfold am5;refine aiD (am4 (akC (name:=alN "__next__") hT SI.slot_next (aj7 SI.slot_next hT SI.entry_next ?_ (SI.args_next _))));show ai0 _ _ (fieldsOf (.ref I)>>=_) _ _ s;refine aiD (ang hI rfl ?_);dsimp only;unfold aub;refine aiD (aiD (nM x (aiF ?_)));simp only[bne_self_eq_false,aiT,if_false];refine aiD (Ue x hi (fun sl' hsl=>?_) (sl:=sl) hs);rw[he];show ai0 _ _ (setField (.ref I) 0 (anw sl')>>=fun _=>setField (.ref I) 1 (anw ((i:Int)+1))>>=fun _=>ret e.2) _ _ s;have h1:=ajV (arE (·.setIfInBounds 0 (anw sl'))) hI rfl;refine aiD (anh hI rfl (by show 0<5;decide) ?_);refine aiD (anh (s:={s with heap:=_}) h1 rfl (by show 1<5;decide) (aiF ⟨_,rfl,aiF (hq _ sl' ?_ hsl ((akT ..).trans (akT ..)))⟩));exact ajV _ h1 rfl
theorem adX {I a:aiM}{es:Array (Int×aiH)}{ep i sl:Nat}{t:akd}{Q:Option aiH->aiK->Prop}(hh:A.handled=none)(x:nJ w s.heap a es ep t)(hI:Ud s.heap I a sl i es.size ep)(hs:w.params.followText "set-order"=false->sl=qR t i)(he:(walked w a ep es)[i]?=none)(hi:i<=es.size)(hq:∀h',atd I s.heap h'->s.heap.objs.size<=h'.objs.size->Q none {s with heap:=h'}):ai0 (ai7 prog w) A (am5 (.ref I)) Q E s:=by have hT:s.TypeIs (.ref I) "set_iterator":=⟨_,hI,rfl⟩;unfold am5;refine aiD (am4 (akC (name:=alN "__next__") hT SI.slot_next (aj7 SI.slot_next hT SI.entry_next ?_ (SI.args_next _))));show ai0 _ _ (fieldsOf (.ref I)>>=_) _ _ s;refine aiD (ang hI rfl ?_);dsimp only;unfold aub;refine aiD (aiD (nM x (aiF ?_)));simp only[bne_self_eq_false,aiT,if_false];refine aiD (Ue x hi (fun sl' hsl=>?_) (sl:=sl) hs);rw[he];show ai0 _ _ (setField (.ref I) 2 .none>>=fun _=>at3 (.type "StopIteration") []>>=fun v=>at5 v) _ _ s;refine aiD (anh hI rfl (by show 2<5;decide) ?_);refine aiD ?_;simp only[at3,at4];refine aiD (ajX ?_ (by size_fits));refine aiD (m:=ani _ _) (aq1 (a:=akr) (by first|rfl|(simp only[ani];rfl)) ?_);refine ajX ?_ (by size_fits);simp only[at5];refine aiD (arz ?_);rw[show A.in1.handled=none from hh];refine aiD (aiF (ate ?_));refine aiD (alD (T:="StopIteration") (b:=true) ⟨_,ajg _ rfl,rfl⟩ aq2 ?_);exact aiF (hq _ (((akT ..).extBut.push _).push _) (by simp only[amc,alL];exact anr _ 2))
theorem afW {I a L:aiM}{es:Array (Int×aiH)}{ep:Nat}{t:akd}{res:aiH}{R:asH->aiK->Prop}(hh:A.in1.handled=none)(hLI:L≠I)(hLa:L≠a)(haI:a≠I)(hz:es.size<=1000):∀(k i sl:Nat) (s:aiK) (acc:Array aiH) (c:Nat),es.size-i=k->i<=es.size->nJ w s.heap a es ep t->Ud s.heap I a sl i es.size ep->(w.params.followText "set-order"=false->sl=qR t i)->s.heap.get? L=some {cls:=.type "list",dict:=none,data:=.seq acc c,slots:=#[]}->acc.size=i->(∀h' c',s.heap.objs.size<=h'.objs.size->(∀b o,b≠L->b≠I->s.heap.get? b=some o->h'.get? b=some o)->h'.get? L=some {cls:=.type "list",dict:=none,data:=.seq (acc++((walked w a ep es).toList.drop i).map (·.2)) c',slots:=#[]}->R (.ok (.ret res)) {s with heap:=h'})->anq (ai7 prog w) A (.builtin "list.extend.loop" ⟨[.ref L,.ref I,res],[]⟩) R s:=by
 have zw:(walked w a ep es).size=es.size:=by have:=(zm w a ep es).length_eq;simpa using this
 intro k;induction k with
 |zero=>
  intro i sl s acc c hk hi x hI hs hL hz2 hR;obtain rfl:i=es.size:=by lia
  refine alx arq ?_;rw[alm amC _];show ai0 _ A.in1 (am5 (.ref I)>>=_) _ _ s;refine aiD (adX hh x hI hs (by rw[getElem?_neg _ _ (by lia)]) hi fun h' hb hzz=>?_);refine aiF (hR h' c hzz (fun b o _ hb2 e=>hb b o hb2 e) ?_);rw[akh (by simp;lia)];simpa using hb L _ hLI hL
 |succ k ih=>
  intro i sl s acc c hk hi x hI hs hL hz2 hR;refine alx arq ?_;rw[alm amC _];show ai0 _ A.in1 (am5 (.ref I)>>=_) _ _ s;have hw:i<(walked w a ep es).size:=by lia
  refine aiD (abM x hI hs (getElem?_pos (walked w a ep es) i hw) hi fun h' sl' g1 g2 g3=>?_);have hL':h'.get? L=some {cls:=.type "list",dict:=none,data:=.seq acc c,slots:=#[]}:=(g3.2 L hLI).trans hL;show ai0 _ A.in1 (aqd L (·.push (walked w a ep es)[i].2)>>=_) _ _ _;refine aiD (amZ (s:={s with heap:=h'}) hL' rfl (aiF ⟨anH amC _,ih (i+1) sl' _ (acc.push (walked w a ep es)[i].2) _ (by lia) (by lia) (x.keep fun o e=>?_) ?_ g2 (ajV _ hL' rfl) (by rw[atq,hz2]) fun h2 c2 k0 k1 k2=>?_⟩) (by rw[hz2,aje];lia) (by show(acc.push _).size<=aiV+1;rw[atq,hz2,aje];lia))
  .exact(akg _ _ hLa).trans ((g3.2 a haI).trans e)
  .exact(akg _ _ hLI).trans g1
  .refine hR h2 c2 ?_ (fun b o b1 b2 e=>k1 b o b1 b2 ((akg _ _ (al3 b1)).trans ((g3.2 b b2).trans e))) ?_
   .have z0:=g3.1;have z1:(h'.update L (aj2 (·.push (walked w a ep es)[i].2))).objs.size<=h2.objs.size:=k0;rw[alL]at z1;lia
   have e:acc++(List.drop i (walked w a ep es).toList).map (·.2)=acc.push (walked w a ep es)[i].2++(List.drop (i+1) (walked w a ep es).toList).map (·.2):=by rw[akJ (by simpa using hw)];simp
   rw[e];exact k2
end
theorem Cp:atL (.type "set") "__len__"=pure (some (.builtin "set.__len__")):=by rw[aqz,aos];kernel_rfl
theorem Et:splitId "set.__len__"=some ("set","__len__"):=by kernel_rfl
section
variable{prog:ajr}{w:ajI}{A:ajO}{E:aiH->aiK->Prop}{s:aiK}
theorem abN {a:aiM}{Q:Bool->aiK->Prop}(hT:s.TypeIs (.ref a) "set")(hq:Q false s):ai0 (ai7 prog w) A (al5 (.ref a)) Q E s:=by
 unfold al5;refine aiD (alV hT Cp ?_);dsimp only;rw[Et];dsimp only;refine aiD (alD hT sub_set_self ?_);simp only[ajP,aiT,if_false];rw[aiP]
 .refine aiD (amn hT ?_);exact aiF hq
 .decide+kernel
theorem Zz {a:aiM}{es:Array (Int×aiH)}{ep:Nat}{t:akd}{Q:List aiH->aiK->Prop}(hh:A.handled=none)(x:nJ w s.heap a es ep t)(hz:es.size<=1000)(hq:∀h':aj4,(∀b o,s.heap.get? b=some o->h'.get? b=some o)->s.heap.objs.size<=h'.objs.size->Q ((walked w a ep es).toList.map (·.2)) {s with heap:=h'}):ai0 (ai7 prog w) A (collect (.ref a)) Q E s:=by
 have ha:a<s.heap.objs.size:=by obtain⟨o,h1,_⟩:=x.at_;exact aja h1
 unfold collect;refine aiD (wpAny_runValue (alx F.entry_proto_collect ?_));rw[alm F.plain_proto_collect _];show ai0 _ A.in1 (newList []>>=fun l=>atF (.builtin "list.__iadd__" ⟨[l,.ref a],[]⟩)) _ _ s;refine aiD (ajX ?_);refine aiF ⟨anH asz _,alx F.entry_list_iadd ?_⟩;rw[alm asz _];have x1:nJ w (s.heap.push {cls:=.type "list",data:=.seq ([]:List aiH).toArray}) a es ep t:=x.keep fun o e=>aiS _ e;show ai0 _ A.in1 (aln (.ref s.heap.objs.size) (.ref a) (.ref s.heap.objs.size)) _ _ _;unfold aln;refine aiD (amn x1.typeIs ?_);have y1:amw (.ref s.heap.objs.size) (.ref a)=false:=by have:s.heap.objs.size≠a:=al4 ha;simp[amw,this]
 have y2:(aj9 "set"==aj9 "list")=false:=by decide
 have y3:(aj9 "set"==aj9 "tuple")=false:=by decide
 simp only[y1,y2,y3,apP,aiT,if_false];refine aiD (abL x1 ?_);have x2:nJ w ((s.heap.push {cls:=.type "list",data:=.seq ([]:List aiH).toArray}).push {cls:=.type "set_iterator",data:=.fields #[.int (0:Nat) 0,.int (0:Nat) 0,.ref a,.int es.size 0,.int ep 0]}) a es ep t:=x1.keep fun o e=>aiS _ e;refine aiD (akX (abN x2.typeIs ?_));have zs:(s.heap.push {cls:=.type "list",data:=.seq ([]:List aiH).toArray}).objs.size=s.heap.objs.size+1:=amc _ _;have hL:((s.heap.push {cls:=.type "list",data:=.seq ([]:List aiH).toArray}).push {cls:=.type "set_iterator",data:=.fields #[.int (0:Nat) 0,.int (0:Nat) 0,.ref a,.int es.size 0,.int ep 0]}).get? s.heap.objs.size=some {cls:=.type "list",data:=.seq ([]:List aiH).toArray}:=aiS _ (ajg _ rfl);have hI:((s.heap.push {cls:=.type "list",data:=.seq ([]:List aiH).toArray}).push {cls:=.type "set_iterator",data:=.fields #[.int (0:Nat) 0,.int (0:Nat) 0,.ref a,.int es.size 0,.int ep 0]}).get? (s.heap.objs.size+1)=some {cls:=.type "set_iterator",data:=.fields #[.int (0:Nat) 0,.int (0:Nat) 0,.ref a,.int es.size 0,.int ep 0]}:=by rw[←zs];exact ajg _ rfl
 have old:∀b o,s.heap.get? b=some o->((s.heap.push {cls:=.type "list",data:=.seq ([]:List aiH).toArray}).push {cls:=.type "set_iterator",data:=.fields #[.int (0:Nat) 0,.int (0:Nat) 0,.ref a,.int es.size 0,.int ep 0]}).get? b=some o:=fun b o e=>aiS _ (aiS _ e);have hpz:s.heap.objs.size<=((s.heap.push {cls:=.type "list",data:=.seq ([]:List aiH).toArray}).push {cls:=.type "set_iterator",data:=.fields #[.int (0:Nat) 0,.int (0:Nat) 0,.ref a,.int es.size 0,.int ep 0]}).objs.size:=by rw[amc,zs];exact anr _ 2
 generalize((s.heap.push {cls:=.type "list",data:=.seq ([]:List aiH).toArray}).push {cls:=.type "set_iterator",data:=.fields #[.int (0:Nat) 0,.int (0:Nat) 0,.ref a,.int es.size 0,.int ep 0]})=hp at hL hI old x2 hpz ⊢;show ai0 _ A.in1 (if(false||_)=true then _ else _) _ _ _;rw[aiP (by decide+kernel)];refine aiD (amr ?_);refine aiD ?_;show ai0 _ A.in1 (aqd s.heap.objs.size (·.push .none)>>=fun _=>aqd s.heap.objs.size (·.pop)) _ _ {s with heap:=hp};refine aiD (amZ (s:={s with heap:=hp}) hL rfl ?_);have hL2:=ajV (aj2 (·.push akr)) hL rfl;refine amZ (s:={s with heap:=_}) hL2 rfl ?_;have hL3:=ajV (aj2 (·.pop)) hL2 rfl;have oth:∀b o,b≠s.heap.objs.size->hp.get? b=some o->((hp.update s.heap.objs.size (aj2 (·.push akr))).update s.heap.objs.size (aj2 (·.pop))).get? b=some o:=fun b o hb e=>(akg _ _ (al3 hb)).trans ((akg _ _ (al3 hb)).trans e);have ns:s.heap.objs.size≠s.heap.objs.size+1:=ajw (amH _);have na:a≠s.heap.objs.size:=ajw ha;rw[zs];refine aiF ⟨anH amC _,afW (t:=t) (by simp[hh]) ns na.symm (ajw (als ha)) hz (es.size-0) 0 0 _ _ _ rfl (ajW _) (x2.keep fun o e=>oth a o na e) (oth _ _ ns.symm hI) (fun _=>rfl) hL3 rfl fun h' c' k0 k1 k2=>?_⟩;show ai0 _ A (load s.heap.objs.size>>=_) _ _ _;refine aiD (wpAny_load k2 ?_);refine aiF ?_;have:=hq h' fun b o e=>k1 b o (ajw (aja e)) (ajw (als (aja e))) (oth b o (ajw (aja e)) (old b o e));have:=this (by have z1:((hp.update s.heap.objs.size (aj2 (·.push akr))).update s.heap.objs.size (aj2 (·.pop))).objs.size<=h'.objs.size:=k0;rw[alL,alL]at z1;exact ajt hpz z1)
 simpa using this
end
open PyProof.Rows
theorem lex_irrefl:∀l:List Int,HT.lexLt l l=false
 |[]=>rfl
 |x::l=>by rw[HT.m9,aiP rfl];exact lex_irrefl l
theorem lex_trans:∀a b c:List Int,HT.lexLt a b=true->HT.lexLt b c=true->HT.lexLt a c=true
 |[],[],_,h,_=>by rw[HT.o9]at h;cases h
 |[],_::_,[],_,h=>by rw[HT.jm]at h;cases h
 |[],_::_,_::_,_,_=>rfl
 |_::_,[],_,h,_=>by rw[HT.jm]at h;cases h
 |_::_,_::_,[],_,h=>by rw[HT.jm]at h;cases h
 |x::a,y::b,z::c,h1,h2=>by
  rw[HT.m9]at h1 h2 ⊢
  by_cases e1:x=y
  ·rw[aiP e1]at h1
   by_cases e2:y=z
   ·rw[aiP e2]at h2
    rw[aiP (e1.trans e2)]
    exact lex_trans a b c h1 h2
   ·rw[aiL e2]at h2
    have:=ai9 h2
    rw[aiL (by omega),aiQ (by omega)]
  ·rw[aiL e1]at h1
   have l1:=ai9 h1
   by_cases e2:y=z
   ·rw[aiL (by omega),aiQ (by omega)]
   ·rw[aiL e2]at h2
    have:=ai9 h2
    rw[aiL (by omega),aiQ (by omega)]
theorem tQ:∀a b:List Int,HT.lexLt a b=false->HT.lexLt b a=false->a=b
 |[],[],_,_=>rfl
 |[],_::_,h,_=>by rw[HT.ni]at h;cases h
 |_::_,[],_,h=>by rw[HT.ni]at h;cases h
 |x::a,y::b,h1,h2=>by
  rw[HT.m9]at h1 h2
  by_cases e:x=y
  ·rw[aiP e]at h1
   rw[aiP e.symm]at h2
   rw[e,tQ a b h1 h2]
  ·rw[aiL e]at h1
   rw[aiL fun z=>e z.symm]at h2
   have:=of_decide_eq_false h1
   have:=of_decide_eq_false h2
   omega
theorem abO (a b c:List Int)(h:HT.lexLt a c=true):HT.lexLt a b=true∨HT.lexLt b c=true:=by
 cases h1:HT.lexLt a b with
 |true=>exact .inl rfl
 |false=>
  refine .inr ?_;cases h2:HT.lexLt b a with
  |true=>exact lex_trans b a c h2 h
  |false=>rw[←tQ a b h1 h2];exact h
noncomputable def pLt (x y:bh):Bool:=HT.lexLt (x.1::x.2) (y.1::y.2)
theorem adY (x y:bh):pLt x y=if x.1=y.1 then HT.lexLt x.2 y.2 else decide (x.1<y.1):=rfl
section
variable{prog:ajr}{w:ajI}{A:ajO}{E:aiH->aiK->Prop}{s:aiK}{B:Bool}
open Classical in
noncomputable def Lr (prog:ajr)(w:ajI)(B:Bool)(h:aj4):KeyKind where
 α:=bh;blt:=pLt;irrefl:=fun x=>lex_irrefl _;trans:=fun x y z=>lex_trans _ _ _;negTrans:=fun x y z=>abO _ _ _;total:=fun x y h1 h2=>by have:=tQ _ _ h1 h2;exact aqT (al7 this).1 (al7 this).2
 keyOf:=fun v=>if hh:∃k a,v=.ref a∧bx prog w B h k a then some hh.choose else none;dflt:=(0,[])
open Classical in
theorem Cq {h:aj4}{v:aiH}{k:bh}(e:(Lr prog w B h).keyOf v=some k):∃a,v=.ref a∧bx prog w B h k a:=by
 have e':(if hh:∃k a,v=.ref a∧bx prog w B h k a then some hh.choose else none)=some k:=e;by_cases c:∃k a,v=.ref a∧bx prog w B h k a
 .rw[dif_pos c]at e';cases e';exact c.choose_spec
 .rw[dif_neg c]at e';cases e'
open Classical in
theorem Ls {h:aj4}{a:aiM}{k:bh}(x:bx prog w B h k a):(Lr prog w B h).keyOf (.ref a)=some k:=by have c:∃k' a',ai2 a=.ref a'∧bx prog w B h k' a':=⟨k,a,rfl,x⟩;show(if hh:∃k' a',ai2 a=.ref a'∧bx prog w B h k' a' then some hh.choose else none)=some k;rw[dif_pos c];obtain⟨a',e,y⟩:=c.choose_spec;cases e;exact congrArg some (y.inj x)
theorem VG (b:Bool)(x y:aiH):keyLt' (tuples' b) x y=(do
 let xs←al6 x
 let ys←al6 y
 for z in(xs.toList.zip ys.toList).zipIdx do
  if !(←atx z.1.1 z.1.2)then return←oneLt' (b&&z.2==0) z.1.1 z.1.2
 return xs.size<ys.size):=rfl
theorem ints_of {ks:List Int}{vs:List aiH}(h:ItemsAre (aku prog w) ks vs):alM vs ks:=by
 induction h with
 |nil=>exact .nil
 |cons hk _ ih=>rename_i k v _ _ _;have h0:ana k v=true:=hk;cases v<;>simp[ana]at h0;subst h0;exact .cons _ _ ih
theorem ZC {l m:List Int}{u v:aiH}{Q:Bool->aiK->Prop}(hu:A.units<ak8)(hx:Gf prog w B s.heap l u)(hy:Gf prog w B s.heap m v)(h:Q (HT.lexLt l m) s):ai0 (ai7 prog w) A (oneLt' false u v) Q E s:=by
 rw[oneLt'_eq];simp only[aiT,if_false];cases B with
 |true=>
  obtain⟨i,t,e1,e2⟩:∃(m:Int) (t:Tok),l=[m]∧u=.int m t:=hx;obtain⟨j,t',e1',e2'⟩:∃(i:Int) (t:Tok),m=[i]∧v=.int i t:=hy;subst e1 e2 e1' e2';refine aiD (HT.JV A s i t j t' prog w _ _ (aj8 ?_));have e:HT.lexLt [i] [j]=decide (i<j):=by
   rw[HT.m9];by_cases c:i=j
   .rw[aiP c,HT.o9,aiO (by lia)]
   .rw[aiL c]
  rw[e]at h;exact h
 |false=>obtain⟨c,e1,o1,i1,n1,a1,a2,a3,a4⟩:∃c,u=.ref c∧alf (aku prog w) s.heap l c:=hx;obtain⟨c',e1',o2,i2,n2,b1,b2,b3,b4⟩:∃c,v=.ref c∧alf (aku prog w) s.heap m c:=hy;subst e1 e1';exact aiD (HT.OJ (items:=i1) (items2:=i2) ⟨o1,a1,a2,n1,a3⟩ ⟨o2,b1,b2,n2,b3⟩ (ints_of a4) (ints_of b4) hu (aj8 h))
theorem VH {x y:bh}{a c:aiM}{Q:Bool->aiK->Prop}(hu:A.units+8<ak8)(hx:bx prog w B s.heap x a)(hy:bx prog w B s.heap y c)(h:Q (pLt x y) s):ai0 (ai7 prog w) A (keyLt' (tuples' true) (.ref a) (.ref c)) Q E s:=by
 obtain⟨oa,na,ta,va,hoa,_,hda,hia⟩:=hx;obtain⟨ob,nb,tb,vb,hob,_,hdb,hib⟩:=hy;obtain⟨x1,x2⟩:=x;obtain⟨y1,y2⟩:=y;rw[VG];refine aiD (aqs hoa hda (aiD (aqs hob hdb ?_)));refine aiD ?_;show ai0 (ai7 prog w) A (forIn [((aj6 x1 ta,aj6 y1 tb),0),((va,vb),1)] ((none,()):Option Bool×Unit) _) _ _ s;rw[akA];refine aiD (aiD ((aku prog w).eqBool (int_is x1 ta) (int_is y1 tb) ?_));rw[adY]at h;by_cases c1:x1=y1
 .rw[aiQ c1];rw[aiP c1]at h;simp only[ajP,aiT,if_false];refine aiF ?_;show ai0 (ai7 prog w) A (forIn [((va,vb),1)] ((none,()):Option Bool×Unit) _) _ _ s;rw[akA];refine aiD (aiD (JH (by lia) hia hib ?_));by_cases c2:x2=y2
  .rw[aiQ c2];simp only[ajP,aiT,if_false];refine aiF ?_;show ai0 (ai7 prog w) A (forIn ([]:List ((aiH×aiH)×Nat)) ((none,()):Option Bool×Unit) _) _ _ s;rw[amD];have h':Q (HT.lexLt x2 y2) s:=h;rw[c2,lex_irrefl]at h';exact aiF (aiF h')
  .rw[aiO c2];simp only[amE,if_true];refine aiD (ZC (s:=s) (A:=A) (by lia) hia hib ?_);exact aiF (aiF (aiF h))
 .rw[aiO c1];rw[aiL c1]at h;simp only[amE,if_true];refine aiD (oneLt_int ?_);exact aiF (aiF (aiF h))
theorem ZD (v:aiH):firstOfTuple' v=(do
 if(←typeOf v) !=.type "tuple" then return none
 return (←al6 v)[0]?):=rfl
theorem Ha:∀(vs:List aiH) {Q:List (Option aiH)->aiK->Prop},(∀v∈vs,∃k q,v=.ref q∧bx prog w B s.heap k q)->(∀fs:List (Int×Tok),fs.length=vs.length->Q (fs.map fun f=>some (.int f.1 f.2)) s)->ai0 (ai7 prog w) A (vs.mapM firstOfTuple') Q E s
 |[],Q,_,h=>by
  rw[auH]
  exact aiF (h [] rfl)
 |v::vs,Q,hv,h=>by
  rw[auc]
  obtain⟨k,q,rfl,hk⟩:=hv v (.head _)
  have hT:=hk.typeIs
  obtain⟨o,n,t,u,ho,hc,hd,_⟩:=hk
  refine aiD ?_
  rw[ZD]
  refine aiD (amn hT ?_)
  rw[aiL (by decide)]
  refine aiD (aqs ho hd (aiF ?_))
  exact aiD (Ha vs (fun v hv'=>hv v (.tail _ hv')) fun fs hf=>aiF (h ((k.1,t)::fs) (by rw[ajl,ajl,hf])))
theorem Lw:∀(fs:List (Int×Tok)) {Q:List aiH->aiK->Prop},Q (fs.map fun _=>aj9 "int") s->ai0 (ai7 prog w) A ((fs.map fun f=>aj6 f.1 f.2).mapM typeOf) Q E s
 |[],Q,h=>by
  rw[an2,auH]
  exact aiF h
 |f::fs,Q,h=>by
  rw[ajd,auc]
  refine aiD (amn (arQ s f.1 f.2) ?_)
  exact aiD (Lw fs (Q:=fun bs s'=>ai0 _ _ (pure (aj9 "int"::bs)) Q E s') (aiF h))
theorem abP {vs:List aiH}{Q:ame->aiK->Prop}(hv:∀v∈vs,∃k q,v=.ref q∧bx prog w B s.heap k q)(h2:2<=vs.length)(h:Q (tuples' true) s):ai0 (ai7 prog w) A (keyKind' vs.toArray) Q E s:=by
 rw[keyKind'_eq,asA,map_eq_pure_bind];refine aiD (aiD (Ha vs hv fun fs hf=>aiF ?_));rw[aiP (by simp)];refine aiD (amr ?_);have ef:((fs.map fun f=>some (aj6 f.1 f.2)).toArray.filterMap id)=(fs.map fun f=>aj6 f.1 f.2).toArray:=by simp[apb]
 rw[ef,oneTypeOnly'_eq,asA,map_eq_pure_bind];refine aiD (aiD (aiD (Lw fs (aiF ?_))));obtain⟨f,r,rfl⟩:∃f r,fs=f::r:=by
  match fs,hf with
  |[],hf=>simp at hf;lia
  |f::r,_=>exact⟨f,r,rfl⟩
 have h0:(List.map (fun _=>aj9 "int") (f::r)).toArray[0]?=some (aj9 "int"):=by simp
 have h1:((List.map (fun _=>aj9 "int") (f::r)).toArray.all fun x=>x==aj9 "int")=true:=by simp only[List.all_toArray,asB,ajB];intro _ _;exact(by decide:(aj9 "int"==aj9 "int")=true)
 rw[h0];simp only[h1,if_true];exact aiF (aiF h)
theorem zp {α β:Type}(f:α->β){l m:List β}(h:l.Perm m):∀xs:List α,m=xs.map f->∃xs':List α,xs'.Perm xs∧l=xs'.map f:=by
 induction h with
 |nil=>intro xs hx;exact⟨xs,amL _,hx⟩
 |cons x _ ih=>
  intro xs hx;cases xs with
  |nil=>cases hx
  |cons y ys=>rw[ajd]at hx;obtain⟨rfl,hy⟩:=al7 hx;obtain⟨xs',h1,h2⟩:=ih ys hy;exact⟨y::xs',h1.cons y,by rw[ajd,h2]⟩
 |swap x y l=>
  intro xs hx;match xs,hx with
  |[],hx=>cases hx
  |[_],hx=>cases hx
  |a::b::r,hx=>rw[ajd,ajd]at hx;obtain⟨rfl,hy⟩:=al7 hx;obtain⟨rfl,rfl⟩:=al7 hy;exact⟨b::a::r,aqZ _ _ _,rfl⟩
 |trans _ _ ih1 ih2=>intro xs hx;obtain⟨xs1,h1,h2⟩:=ih2 xs hx;obtain⟨xs2,h3,h4⟩:=ih1 xs1 h2;exact⟨xs2,h3.trans h1,h4⟩
theorem Iu {h:aj4}{xs:List (bh×aiM)}(hx:∀x∈xs,bx prog w B h x.1 x.2){Z:Array ajm}(hp:Z.Perm (apG (xs.map fun x=>ai2 x.2)))(hs:vU (Lr prog w B h) Z 0 xs.length):∃xs':List (bh×aiM),xs'.Perm xs∧(Z.map (·.2)).toList=xs'.map (fun x=>ai2 x.2)∧(xs'.map (·.1)).Pairwise fun a b=>pLt b a=false:=by
 have hl:Z.toList.Perm ((xs.map fun x=>ai2 x.2).zip (xs.map fun x=>ai2 x.2)):=by rw[←pairsOf_toList];exact amf.mp hp
 have ez:∀ys:List (bh×aiM),(ys.map fun x=>ai2 x.2).zip (ys.map fun x=>ai2 x.2)=ys.map fun x=>(ai2 x.2,ai2 x.2):=fun ys=>by
  induction ys with
  |nil=>rfl
  |cons y ys ih=>rw[ajd,amP,ih,ajd]
 rw[ez]at hl;obtain⟨xs',h1,h2⟩:=zp _ hl xs rfl;refine⟨xs',h1,?_,?_⟩
 .rw[Array.toList_map,h2,ajG];rfl
 .rw[an8,alz];intro i j hi hj hij;have zl:xs'.length=xs.length:=h1.length_eq;have at_:∀n (hn:n<xs'.length),KK (Lr prog w B h) Z n=xs'[n].1:=fun n hn=>by
   have e:Z[n]?=some (ai2 xs'[n].2,ai2 xs'[n].2):=by rw[←akU,h2,ai6,aiG hn];rfl
   rw[bW e];unfold kf;rw[Ls (hx _ (h1.mem_iff.mp (ajT hn)))];rfl
  have:=hs i j (ajW _) (by lia) (by lia);rw[at_ i hi,at_ j hj]at this;exact this
theorem Ug {v:aiH}{xs:List (bh×aiM)}{P:aiK->Prop}{Q:aiH->aiK->Prop}(hu:A.units+20<ak8)(hc:∀Q':List aiH->aiK->Prop,(∀s₁,P s₁->Q' (xs.map fun x=>ai2 x.2) s₁)->ai0 (ai7 prog w) A.in1 (collect v) Q' E s)(hP:∀s₁,P s₁->∀b o,s.heap.get? b=some o->s₁.heap.get? b=some o)(hx:∀x∈xs,bx prog w B s.heap x.1 x.2)(Cj:xs.length<128)(h:∀(s₁:aiK) (xs':List (bh×aiM)) (hp:aj4) (l:aiM) (e:Nat),P s₁->xs'.Perm xs->((xs'.map (·.1)).Pairwise fun a b=>pLt b a=false)->(∀b o,s₁.heap.get? b=some o->hp.get? b=some o)->s₁.heap.objs.size<=l->l<hp.objs.size->hp.get? l=some (amv "list" (xs'.map fun x=>ai2 x.2).toArray e)->Q (.ref l) {s₁ with heap:=hp}):ai0 (ai7 prog w) A (call (.builtin "sorted") [v]) Q E s:=by
 have st:∀s':aiK,(∀b o,s.heap.get? b=some o->s'.heap.get? b=some o)->∀{k:bh} {a:aiM},bx prog w B s.heap k a->bx prog w B s'.heap k a:=fun s' hs k a x=>oR x fun b o e _=>hs b o e;refine Vu (κ:=Lr prog w B s.heap) (kk:=tuples' true) hc hP (fun p hp=>?_) (by simpa using Cj) (fun h2 A' s' Q' E' hs hq=>abP (B:=B) (fun v hv=>?_) h2 hq) (fun A' s' hA hs=>?_) fun s₁ Z p₁ hz hr=>?_
 .rw[pairsOf_toList]at hp;obtain⟨e,hm⟩:=mem_zip_self hp;obtain⟨x,hx',e2⟩:=ai'.mp hm;rw[←e2];exact⟨x.1,Ls (hx x hx')⟩
 .obtain⟨x,hx',rfl⟩:=ai'.mp hv;exact⟨x.1,x.2,rfl,st s' hs (hx x hx')⟩
 .intro E' u v a b Q' hu' hv' hq;obtain⟨p,rfl,hp⟩:=Cq hu';obtain⟨q,rfl,hq'⟩:=Cq hv';exact VH (by lia) (st s' hs hp) (st s' hs hq') hq
 .rw[aiJ]at hr;obtain⟨xs',h1,h2,h3⟩:=Iu hx hz hr;have hoL:(s₁.heap.push (amv "list" (xs.map fun x=>ai2 x.2).toArray 0)).get? s₁.heap.objs.size=some (amv "list" (xs.map fun x=>ai2 x.2).toArray 0):=ajg _ rfl;obtain⟨e,he⟩:∃e,(at8 (s₁.heap.push (amv "list" (xs.map fun x=>ai2 x.2).toArray 0)) s₁.heap.objs.size (xs.map fun x=>ai2 x.2) (Z.map (·.2))).get? s₁.heap.objs.size=some (amv "list" (Z.map (·.2)) e):=sortedHeap_at hoL;refine h s₁ xs' _ s₁.heap.objs.size e p₁ h1 h3 (fun b o hb=>?_) (aiN _) (aja he) ?_
  .have hl:=aja hb;rw[sortedHeap_old (ajw hl) (by rw[at9];exact als hl)];exact aiS _ hb
  .rw[he,←h2]
end
open PySem.Spec
abbrev Iv:=List (bh×aiM)
noncomputable abbrev refs (xs:Iv):List V:=xs.map fun x=>V.ref x.2
def nO (B:Bool)(H:ag4)(xs:Iv):Prop:=∀x∈xs,aY B H x.1 x.2
theorem nO.stay {B:Bool}{H H':ag4}{xs:Iv}(h:nO B H xs)(e:∀b ys,H b=some (.tup ys)->H' b=some (.tup ys)):nO B H' xs:=fun x hx=>(h x hx).stay e
theorem nO.mono {B:Bool}{H H':ag4}{xs:Iv}(h:nO B H xs)(e:aC H H'):nO B H' xs:=h.stay fun b ys q=>e b _ q
theorem xQ:∀{xs:Iv} {us:List aiH},Vals (refs xs) us->us=xs.map fun x=>ai2 x.2
 |[],_,h=>by cases h;rfl
 |x::xs,_,h=>by
  have h':Vals (V.ref x.2::refs xs) _:=h
  cases h' with
  |cons r t=>
   rw[xQ t]
   have r':_=ai2 x.2:=r
   rw[r']
   rfl
theorem tR:∀(xs:Iv),Vals (refs xs) (xs.map fun x=>ai2 x.2)
 |[]=>.nil
 |x::xs=>.cons rfl (tR xs)
def ae4 (X:aif)(o:Obj)(B:Bool)(xs:Iv):Prop:=o.cls=.type "set"∧∃es ep t,o.data=.set es ep t∧es.toList.Perm (xs.map fun x=>(pI X.prog X.w B x.1,ai2 x.2))∧Tb t xs.length∧t.plain=true∧t.led=mJ X.w
section
variable{X:aif}
theorem isP {pins:List (aiM×Obj)}{σ:L2.St}{H:ag4}{s:aiK}{B:Bool}{xs:Iv}(I:Inv X pins σ H s)(h:nO B H xs):∀x∈xs,bx X.prog X.w B s.heap x.1 x.2:=fun x hx=>xm I.hok (h x hx)
theorem Qi (hu:X.A.units+20<ak8):jb X (.builtin "sorted") (fun vs H Q=>∃(p:aiM) (B:Bool) (xs:Iv),vs=[.ref p]∧bk X.K H p (refs xs)∧nO B H xs∧xs.length<128∧∀(l:aiM) (ys:Iv),H l=none->ys.Perm xs->((ys.map (·.1)).Pairwise fun a b=>pLt b a=false)->Q (.ref l) (upd H l (.lst (refs ys)))):=by
 intro pins s σ H vs us Q I r h;obtain⟨p,B,xs,rfl,hq,hx,Cj,q⟩:=h;obtain⟨u,rfl,agK⟩:=vals1 r;cases agK;obtain⟨its,rv,pl,hz⟩:=I.list hq;have ei:=xQ rv;subst ei;refine Ug (B:=B) (xs:=xs) (P:=fun s₁=>s₁={s with heap:=(s.heap.push (amv "list" #[] 0)).update s.heap.objs.size (aj2 (·++(xs.map fun x=>ai2 x.2).toArray))}) (by lia) (fun Q' hQ'=>collect_list pl.isList (hQ' _ rfl) (by rw[aiJ,aje];lia)) (fun s₁ e b o hb=>?_) (isP I hx) Cj fun s₁ ys hp l e p₁ h1 h2 h3 h4 h5 h6=>?_
 .subst e;have hl:=aja hb;exact(anx _ _ _ _ (ajw hl)).trans (aiS _ hb)
 .subst p₁;have hsz:((s.heap.push (amv "list" #[] 0)).update s.heap.objs.size (aj2 (·++(xs.map fun x=>ai2 x.2).toArray))).objs.size=s.heap.objs.size+1:=by rw[alL,at9]
  have hl:s.heap.objs.size<=l:=by have:_<=l:=h4;rw[show({s with heap:=(s.heap.push (amv "list" #[] 0)).update s.heap.objs.size (aj2 (·++(xs.map fun x=>ai2 x.2).toArray))}:aiK).heap.objs.size=s.heap.objs.size+1 from hsz]at this;exact Nat.le_of_succ_le this
  have kp:∀b o,s.heap.get? b=some o->hp.get? b=some o:=fun b o hb=>h3 b o ((anx _ _ _ _ (ajw (aja hb))).trans (aiS _ hb));have fr:H l=none:=I.hok.fresh hl;refine⟨.ref l,upd H l (.lst (refs ys)),I.laid (t':=s.toks) kp hl ⟨?_,ys.map fun x=>ai2 x.2,e,tR ys,h6⟩,rfl,q l ys fr h1 h2⟩;rw[aiJ,h1.length_eq,aje];lia
theorem VJ (hc:X.calm=true)(hu:X.A.units+30<ak8):jb X (.type "set") (fun vs H Q=>∃(p:aiM) (B:Bool) (xs:Iv),vs=[.ref p]∧bk X.K H p (refs xs)∧nO B H xs∧xs.length<=200∧(xs.map (·.1)).Nodup∧∀(a:aiM) (o:Obj),H a=none->ae4 X o B xs->Q (.ref a) (upd H a (.ext fun h=>h.get? a=some o))):=by intro pins s σ H vs us Q I r h;obtain⟨p,B,xs,rfl,hq,hx,hl,hn,q⟩:=h;obtain⟨u,rfl,agK⟩:=vals1 r;cases agK;obtain⟨its,rv,pl,hz⟩:=I.list hq;have ei:=xQ rv;subst ei;refine Zy (B:=B) (xs:=xs) (I.ok.hd hc) hu pl.isList (by simp) hl hn (isP I hx) fun h' o tk S k1 k2 k3=>?_;have fr:H s.heap.objs.size=none:=I.hok.fresh (aiN _);obtain⟨S1,S2,S3⟩:=S;refine⟨.ref s.heap.objs.size,upd H s.heap.objs.size (.ext fun h=>h.get? s.heap.objs.size=some o),I.laid (t':=tk) (fun b o e=>k1 b o (aja e) e) (aiN _) ⟨S1,⟨o,S1⟩,fun h1 h2 e1 e2=>e2 o e1⟩,rfl,q _ o fr ⟨S2.1,S3⟩⟩
theorem Qj (hc:X.calm=true)(hu:X.A.units+20<ak8):jb X (.builtin "sorted") (fun vs H Q=>∃(a:aiM) (o:Obj) (B:Bool) (xs:Iv),vs=[.ref a]∧H a=some (.ext fun h=>h.get? a=some o)∧ae4 X o B xs∧nO B H xs∧xs.length<128∧∀(l:aiM) (ys:Iv),H l=none->ys.Perm xs->((ys.map (·.1)).Pairwise fun a b=>pLt b a=false)->Q (.ref l) (upd H l (.lst (refs ys)))):=by
 intro pins s σ H vs us Q I r h;obtain⟨a,o,B,xs,rfl,ha,⟨f1,es,ep,t,f2,f3,f4,f5,f6⟩,hx,Cj,q⟩:=h;obtain⟨u,rfl,agK⟩:=vals1 r;cases agK;obtain⟨ho,_⟩:=(show b8 X.prog X.w H s.heap a (.ext fun h=>h.get? a=some o)from I.hok a _ ha);have ze:es.size=xs.length:=by have:=f3.length_eq;simpa using this
 have A1:nJ X.w s.heap a es ep t:=⟨⟨o,ho,f1,f2⟩,by rw[ze];exact f4,f5,f6⟩;have pw:((walked X.w a ep es).toList.map (·.2)).Perm (xs.map fun x=>ai2 x.2):=by refine(((zm X.w a ep es).trans f3).map (·.2)).trans ?_;rw[ajG];exact amL _
 obtain⟨xs1,g1,g2⟩:=zp _ pw xs rfl;have hh:X.A.in1.handled=none:=by have:=I.ok.hd hc;simpa using this
 refine Ug (B:=B) (xs:=xs1) (P:=fun s₁=>∃h',s₁={s with heap:=h'}∧s.heap.objs.size<=h'.objs.size∧∀b o,s.heap.get? b=some o->h'.get? b=some o) (by lia) (fun Q' hQ'=>?_) (fun s₁ e b o hb=>?_) (fun x hx1=>isP I hx x (g1.mem_iff.mp hx1)) (by rw[g1.length_eq];exact Cj) fun s₁ ys hp l e p₁ h1 h2 h3 h4 h5 h6=>?_
 .refine Zz hh A1 (by lia) fun h' k kz=>?_;rw[g2];exact hQ' _ ⟨h',rfl,kz,k⟩
 .obtain⟨h',rfl,_,k⟩:=e;exact k b o hb
 .obtain⟨h',rfl,kz,k⟩:=p₁;have hl:s.heap.objs.size<=l:=by have h4':h'.objs.size<=l:=h4;exact ajt kz h4'
  have fr:H l=none:=I.hok.fresh hl;refine⟨.ref l,upd H l (.lst (refs ys)),I.laid (t':=s.toks) (fun b o hb=>h3 b o (k b o hb)) hl ⟨?_,ys.map fun x=>ai2 x.2,e,tR ys,h6⟩,rfl,q l ys fr (h1.trans g1) h2⟩;rw[aiJ,h1.length_eq,g1.length_eq,aje];lia
end
end My
namespace L2
open PySem PySem.Spec PyProof.Rows
section
variable{prog:ajr}{w:ajI}{A:ajO}{E:aiH->aiK->Prop}{s:aiK}{d it:aiM}{es:Array amI}{ep i:Nat}
theorem zq {Q:aiH->aiK->Prop}(hd:(d==ak3)=false)(x:rK s.heap d es ep)(hQ:Q (.ref s.heap.objs.size) {s with heap:=s.heap.push {cls:=.type "dict_keyiterator",data:=.fields #[.ref d,.int 0 0,.int es.size 0,.int ep 0]}}):ai0 (ai7 prog w) A (asF (.ref d)) Q E s:=by have hT:=x.ty;obtain⟨o,e1,_,e2⟩:=x;refine apD hT as6 (aj7 as6 hT F.entry_dict_iter ?_ (F.args_dict_iter_1 _));unfold Builtin.«dict.__iter__»;refine aiD ?_;unfold apv;refine aiD (aop hT ?_);show ai0 _ _ (pure (ai2 d)) _ _ s;refine aiF ?_;show ai0 _ _ (aoq d>>=_) _ _ s;unfold aoq;rw[aiL (by rw[hd];exact aiW)];refine aiD (aiF (aiD (alR e1 e2 (aiD (amX e1 e2 ?_)))));refine aiD (ajX (aiF ⟨_,rfl,"dict_keyiterator",_,⟨_,ajg _ rfl,rfl⟩,ale.lookup,?_⟩));simpa[anw]using hQ
theorem zr {e:amI}{Q:Option aiH->aiK->Prop}(hit:s.heap.IsKeyIter it d i es.size ep)(x:rK s.heap d es ep)(hx:es[i]?=some e)(hQ:∀h',h'.IsKeyIter it d (i+1) es.size ep->akK it s.heap h'->Q (some e.key) {s with heap:=h'}):ai0 (ai7 prog w) A (am5 (.ref it)) Q E s:=by
 have hT:=hit.typeIs;obtain⟨o,ho,hc,hd⟩:=hit;obtain⟨od,e1,_,e2⟩:=x;have hlt:i<es.size:=(akE.mp hx).1;have hei:es[i]=e:=(akE.mp hx).2;unfold am5;refine aiD (am4 (akC (name:=alN "__next__") hT ale (aj7 ale hT aoL ?_ (aoy _))));refine aiD (aiF (aiD (aiD ?_)));first|refine aiD (alQ hT (aiF ?_))|refine aiD (amx hT (aiF ?_))
 refine aiD (ang ho hd ?_);simp only[show ald "dict_keyiterator"=false from by decide,aiT,if_false];show ai0 _ _ (if(ai2 d==akr)=true then _ else _) _ _ s;rw[show(ai2 d==akr)=false from rfl,aiL aiW];refine aiD (aiF (aiD (alR e1 e2 ?_)));rw[aiL (by simp)];refine aiD (aiF (aiD (amX e1 e2 ?_)));rw[aiL (by simp)];refine aiF ?_;simp only[show¬((i:Int)<0)from by lia,if_false,ai4,apt hlt,hei];refine aiD ?_;first|refine aiD (alQ hT (aiF ?_))|refine aiD (amx hT (aiF ?_))
 refine aiD (aqL hT ?_);show ai0 _ _ (setField (.ref it) 1 (anw ((i:Int)+1))>>=_) _ _ s;refine aiD (anh ho hd (by simp) ?_);have hit':(s.heap.update it (arE (·.setIfInBounds 1 (anw ((i:Int)+1))))).IsKeyIter it d (i+1) es.size ep:=⟨_,ajV _ ho (aqD (ape hd _)),(Obj.cls_mapFields ..).trans hc,by rw[ape hd];simp[anw]⟩;have hT':apQ {s with heap:=s.heap.update it (arE (·.setIfInBounds 1 (anw ((i:Int)+1))))} (.ref it) "dict_keyiterator":=hit'.typeIs;refine aiD (akX (aiD (aqL hT' ?_)));show ai0 _ _ (pure e.key) _ _ _;exact aiF (aiF ⟨_,rfl,aiF (hQ _ hit' (akT ..))⟩)
theorem Cr {Q:Option aiH->aiK->Prop}(hh:A.handled=none)(hit:s.heap.IsKeyIter it d i es.size ep)(x:rK s.heap d es ep)(hx:es.size<=i)(hQ:∀h',atd it s.heap h'->Q none {s with heap:=h'}):ai0 (ai7 prog w) A (am5 (.ref it)) Q E s:=by
 have hT:=hit.typeIs;obtain⟨o,ho,hc,hd⟩:=hit;obtain⟨od,e1,_,e2⟩:=x;unfold am5;refine aiD (am4 (akC (name:=alN "__next__") hT ale (aj7 ale hT aoL ?_ (aoy _))));refine aiD (aiF (aiD (aiD ?_)));first|refine aiD (alQ hT (aiF ?_))|refine aiD (amx hT (aiF ?_))
 refine aiD (ang ho hd ?_);simp only[show ald "dict_keyiterator"=false from by decide,aiT,if_false];show ai0 _ _ (if(ai2 d==akr)=true then _ else _) _ _ s;rw[show(ai2 d==akr)=false from rfl,aiL aiW];refine aiD (aiF (aiD (alR e1 e2 ?_)));rw[aiL (by simp)];refine aiD (aiF (aiD (amX e1 e2 ?_)));rw[aiL (by simp)];refine aiF ?_;simp only[show¬((i:Int)<0)from by lia,if_false,ai4,aqq hx];refine aiD ?_;first|refine aiD (alQ hT (aiF ?_))|refine aiD (amx hT (aiF ?_))
 show ai0 _ _ (setField (.ref it) 0 .none>>=_) _ _ s;refine aiD (anh ho hd (by simp) ?_);show ai0 _ _ (at3 (.type "StopIteration") []>>=_) _ _ _;refine aiD ?_;simp only[at3,at4];refine aiD (ajX ?_ (by size_fits));refine aiD (m:=ani _ _) (aq1 (a:=akr) (by first|rfl|(simp only[ani];rfl)) ?_);refine ajX ?_ (by size_fits);simp only[at5];refine aiD (arz ?_);rw[show A.in1.handled=none from hh];refine aiD (aiF (ate ?_));refine aiD (alD (T:="StopIteration") (b:=true) ⟨_,ajg _ rfl,rfl⟩ aq2 ?_);exact aiF (hQ _ (((akT ..).extBut.push _).push _))
end
noncomputable def Itk (B:Bool)(kvs:List (bh×V))(d:aiM)(o:Obj):It:=⟨fun i H=>i<kvs.length∧H d=some (.uq o (.dT B kvs)),fun i H v H'=>∃q k x,v=.ref q∧H'=H∧kvs[i]?=some (k,x)∧aY B H k q,fun i H=>kvs.length<=i∧H d=some (.uq o (.dT B kvs))⟩
theorem VK {P:ajr}{w:ajI}{K:aiU}{tg:akb}{B:Bool}{kvs:List (bh×V)}{o:Obj}{es:Array amI}{ep:Nat}(d it:aiM)(hne:d≠it)(ho:o.data=.dict es ep):Turn P w K tg (Itk B kvs d o) [it] it (fun i h=>h.IsKeyIter it d i es.size ep) where
 mem:=by simp
 obj:=fun i h st b hb=>by
  obtain⟨o,e,c,dd⟩:=st;obtain rfl:b=it:=by simpa using hb
  exact⟨o,e,fun v z=>by rw[dd]at z;cases z⟩
 keep:=fun i h h' st kk=>by obtain⟨o,e,r⟩:=st;exact⟨o,kk it (by simp) _ e,r⟩
 item:=by
  intro X hP hw hK hc i pins s σ H E I hf st hg;subst hP hw hK;obtain⟨hi,he⟩:=hg;obtain⟨es',ep',xs,hd',raw,rel,hes,hsz,_⟩:=Ab I.hok he;rw[ho]at hd';cases hd';obtain⟨⟨ky,x⟩,hx⟩:∃p,kvs[i]?=some p:=⟨kvs[i],by simp[hi]⟩;obtain⟨⟨k',q,u⟩,hxs,rk,pk,agK⟩:=pX rel hx;have rk':ky=k':=rk;subst rk';have hent:es[i]?=some (aqf (fW X.prog X.w B) (ky,q,u)):=by rw[←akU,hes,ai6,hxs];rfl
  obtain⟨f0,f1,f2,f3,f4,f5⟩:=hf it (by simp);refine zr st raw hent fun h' st' sb=>?_;have I1:Inv X pins σ H {s with heap:=h'}:=I.turned (t':=s.toks) (fun b o hb e=>(sb.2 b hb).trans e) f0 f1 f3 f4 f5;obtain⟨o',e,c,d'⟩:=id st';exact⟨.ref q,rfl,Ss (s:={s with heap:=h'}) e c d' (by decide) ⟨.ref q,H,I1,rfl,⟨q,ky,x,rfl,rfl,hx,pk⟩,st',fun b hb=>(hf b hb).1⟩⟩
 done:=by intro X hP hw hK hc i pins s σ H E I hf st hg;subst hP hw hK;obtain⟨hi,he⟩:=hg;obtain⟨es',ep',xs,hd',raw,rel,hes,hsz,_⟩:=Ab I.hok he;rw[ho]at hd';cases hd';exact Cr (I.ok.hd hc) st raw (by lia) fun h' eb=>⟨rfl,I.HQ (t':=s.toks) (fp:=[it]) (fun b o hb q=>eb b o (fun z=>hb (by simp[z])) q) hf⟩
 self:=fun _ _ _ _ _ st h=>aq5 st h
section
variable{X:aif}
def ae5 (td:TE):TI:=fun σ H R=>td σ H fun x H1=>∃d B kvs,x=.ref d∧H1 d=some (.dT B kvs)∧∀o,R (Itk B kvs d o) (upd H1 d (.uq o (.dT B kvs)))
theorem abQ {tg e:akb}{td:TE}(he:PE X e td):PI X tg e (ae5 td):=by
 intro pins s σ H R I h;refine cC (he pins s σ H _ I h) fun v s1 ⟨x,H1,I1,r1,d,B,kvs,ex,e1,q⟩=>?_;subst ex;cases r1;obtain⟨o,es,ep,xs,g1,g2,raw,rel,hes,hsz,hd⟩:=BL I1.hok (.inl e1);refine zq hd raw ?_;have agY:Inv X pins σ (upd H1 d (.uq o (.dT B kvs))) s1:=by
  have:=I1.write (x:=d) (e:=d) (o:=.uq o (.dT B kvs)) (h':=s1.heap) (t':=s1.toks) (by rw[e1];exact alG) (.inl rfl) (fun b u _ z=>z) ⟨o,g1⟩ ⟨g1,?_⟩
  .exact this
  .obtain⟨z,y,xs',r',ob,es',ep',j1,j2,j3,ahn,ahy⟩:=(show b8 X.prog X.w H1 s1.heap d (.dT B kvs)from I1.hok d _ e1);refine⟨z,y,xs',KT.keeps (show KT B H1 kvs xs' from r') fun c ys ec=>?_,ob,es',ep',j1,j2,j3,ahn,ahy⟩;rw[aO (R9 ec e1 (fun z=>nomatch z))];exact ec
 have agy:=agY.kept (t':=s1.toks) (h':=s1.heap.push {cls:=.type "dict_keyiterator",data:=.fields #[.ref d,.int 0 0,.int es.size 0,.int ep 0]}) fun b o q=>aiS _ q;refine⟨s1.heap.objs.size,[s1.heap.objs.size],_,Itk B kvs d o,_,rfl,agy,VK d _ (ajw (aja g1)) g2,⟨_,ajg _ rfl,rfl,rfl⟩,fun b hb=>?_,q o⟩;obtain rfl:b=s1.heap.objs.size:=by simpa using hb
 exact agY.Xm (aiN _) (agY.hok.fresh (aiN _))
end
section
variable{prog:ajr}{w:ajI}{A:ajO}{E:aiH->aiK->Prop}{s:aiK}
theorem ZF (hh:A.handled=none)(I d:aiM)(hne:d≠I)(es:Array amI)(ep:Nat):Walks prog w A I [I,d] [I] es.size (fun i v=>∃e,es[i]?=some e∧v=e.key) (fun i h=>h.IsKeyIter I d i es.size ep∧rK h d es ep) where
 sub:=fun b hb=>by simp at hb;simp[hb]
 frame:=fun _ _ _ st hk=>⟨let⟨o,e,r⟩:=st.1;⟨o,hk I (by simp) o e,r⟩,st.2.to fun o e=>hk d (by simp) o e⟩;item:=fun i s Q E hi st hQ=>by refine zr st.1 st.2 (e:=es[i]) (by simp[hi]) fun h' a b=>?_;exact hQ _ h' s.toks ⟨es[i],by simp[hi],rfl⟩ ⟨a,st.2.to fun o e=>b.extBut d o hne e⟩ fun c o hc e=>b.extBut c o (fun h=>hc (by simp[h])) e
 done:=fun s Q E st hQ=>Cr hh st.1 st.2 (aiN _) fun h' he=>hQ h' s.toks fun b o hb e=>he b o (fun h=>hb (by simp[h])) e;self:=fun _ _ _ _ st hQ=>aq5 st.1 hQ
theorem zM:atL (.type "dict") "__len__"=pure (some (.builtin "dict.__len__")):=by rw[aqz,aos];kernel_rfl
theorem Cu:splitId "dict.__len__"=some ("dict","__len__"):=by kernel_rfl
theorem sub_dict_dict:isSubtype (.type "dict") (.type "dict")=pure true:=by rw[isSubtype_type];kernel_rfl
theorem VL {a:aiM}{Q:Bool->aiK->Prop}(hT:s.TypeIs (.ref a) "dict")(hq:Q false s):ai0 (ai7 prog w) A (al5 (.ref a)) Q E s:=by
 unfold al5;refine aiD (alV hT zM ?_);dsimp only;rw[Cu];dsimp only;refine aiD (alD hT sub_dict_dict ?_);simp only[ajP,aiT,if_false];rw[aiP]
 .refine aiD (amn hT ?_);exact aiF hq
 .decide+kernel
theorem Qk {d:aiM}{es:Array amI}{ep:Nat}{Q:aiH->aiK->Prop}(hh:A.handled=none)(hd:(d==ak3)=false)(x:rK s.heap d es ep)(hz:es.size<=aiV)(hQ:∀h' tk acc' c',(∀b o,s.heap.get? b=some o->h'.get? b=some o)->h'.get? s.heap.objs.size=some {cls:=.type "list",dict:=none,data:=.seq acc' c',slots:=#[]}->ItemsOf (fun i v=>∃e,es[i]?=some e∧v=e.key) acc' es.size->Q (.ref s.heap.objs.size) {s with heap:=h',toks:=tk}):ai0 (ai7 prog w) A (call (.type "list") [.ref d]) Q E s:=by
 have dlt:d<s.heap.objs.size:=let⟨o,e,_⟩:=x;aja e
 refine callType_codes (Q₁:=fun obj s₁=>obj=.ref s.heap.objs.size∧s₁={s with heap:=s.heap.push {cls:=.type "list",data:=.seq #[]}}) F.called_list (F.typeCall_list_1 _) F.entry_list_init (code_list_new _ ⟨rfl,rfl⟩) fun obj s₁ h₁=>?_;obtain⟨rfl,rfl⟩:=h₁;have hS:(s.heap.push {cls:=.type "list",data:=.seq #[]}).get? s.heap.objs.size=some {cls:=.type "list",data:=.seq #[]}:=ajg _ rfl;refine⟨⟨_,hS,rfl⟩,F.args_list_init_2 _ _,?_⟩;show ai0 _ _ (do let old←al6 (.ref s.heap.objs.size);auM (.ref s.heap.objs.size) (fun _=>#[]);letGo old.toList.reverse;aln (.ref s.heap.objs.size) (.ref d) .none) _ _ _;refine aiD ?_;unfold al6;refine aiD (amF hS rfl (aiF ?_));show ai0 _ _ (aqd s.heap.objs.size (fun _=>#[])>>=fun _=>letGo (#[]:Array aiH).toList.reverse>>=fun _=>aln (.ref s.heap.objs.size) (.ref d) .none) _ _ _;refine aiD (amZ hS rfl ?_);have hS2:=ajV (aj2 (fun _=>(#[]:Array aiH))) hS rfl;refine aiD (atc ?_);have dne:s.heap.objs.size≠d:=al4 dlt;have adZ:∀b o,s.heap.get? b=some o->((s.heap.push {cls:=.type "list",data:=.seq #[]}).update s.heap.objs.size (aj2 (fun _=>(#[]:Array aiH)))).get? b=some o:=fun b o e=>(akg _ _ (al4 (aja e))).trans (aiS _ e);have z1:((s.heap.push {cls:=.type "list",data:=.seq #[]}).update s.heap.objs.size (aj2 (fun _=>(#[]:Array aiH)))).objs.size=s.heap.objs.size+1:=by rw[alL,amc]
 generalize(s.heap.push {cls:=.type "list",data:=.seq #[]}).update s.heap.objs.size (aj2 (fun _=>(#[]:Array aiH)))=h1 at hS2 adZ z1 ⊢;have x1:rK h1 d es ep:=x.to fun o e=>adZ d o e;unfold aln;refine aiD (amn (s:={s with heap:=h1}) x1.ty ?_);have y1:amw (.ref s.heap.objs.size) (.ref d)=false:=by simp[amw,dne]
 have y2:(aj9 "dict"==aj9 "list")=false:=by decide
 have y3:(aj9 "dict"==aj9 "tuple")=false:=by decide
 simp only[y1,y2,y3,apP,aiT,if_false];refine aiD (zq (s:={s with heap:=h1}) hd x1 ?_);have hI:(h1.push {cls:=.type "dict_keyiterator",data:=.fields #[.ref d,.int 0 0,.int es.size 0,.int ep 0]}).get? h1.objs.size=some {cls:=.type "dict_keyiterator",data:=.fields #[.ref d,.int 0 0,.int es.size 0,.int ep 0]}:=ajg _ rfl;have hS3:=aiS {cls:=.type "dict_keyiterator",data:=.fields #[.ref d,.int 0 0,.int es.size 0,.int ep 0]} hS2;have x2:rK (h1.push {cls:=.type "dict_keyiterator",data:=.fields #[.ref d,.int 0 0,.int es.size 0,.int ep 0]}) d es ep:=x1.to fun o e=>aiS _ e;refine aiD (akX (VL x2.ty ?_));have ae6:∀b o,s.heap.get? b=some o->(h1.push {cls:=.type "dict_keyiterator",data:=.fields #[.ref d,.int 0 0,.int es.size 0,.int ep 0]}).get? b=some o:=fun b o e=>aiS _ (adZ b o e);show ai0 _ _ (if(false||_)=true then _ else _) _ _ {s with heap:=h1.push {cls:=.type "dict_keyiterator",data:=.fields #[.ref d,.int 0 0,.int es.size 0,.int ep 0]}};rw[aiP (by decide+kernel)];rw[z1]at hI ⊢;generalize(h1.push {cls:=.type "dict_keyiterator",data:=.fields #[.ref d,.int 0 0,.int es.size 0,.int ep 0]})=h2 at hI hS3 x2 ae6 ⊢;refine aiD (amr ?_);refine aiD ?_;show ai0 _ _ (aqd s.heap.objs.size (·.push .none)>>=fun _=>aqd s.heap.objs.size (·.pop)) _ _ _;refine aiD (amZ (s:={s with heap:=h2}) hS3 rfl ?_);have hS4:=ajV (aj2 (·.push akr)) hS3 rfl;refine amZ (s:={s with heap:=_}) hS4 rfl ?_;have hS5:=ajV (aj2 (·.pop)) hS4 rfl;have oth:∀b o,b≠s.heap.objs.size->h2.get? b=some o->((h2.update s.heap.objs.size (aj2 (·.push akr))).update s.heap.objs.size (aj2 (·.pop))).get? b=some o:=fun b o hb e=>(akg _ _ (al3 hb)).trans ((akg _ _ (al3 hb)).trans e);have ns:s.heap.objs.size+1≠s.heap.objs.size:=al4 (amH _);have W:=(ZF (prog:=prog) (w:=w) (A:=A.in1.in1) (by simp[hh]) (s.heap.objs.size+1) d (ajw (als dlt)) es ep).toS;refine aiF ⟨anH amC _,codeAny_extend_loopS W hz _ ?_ _ es.size 0 _ _ _ rfl (ajW _) ⟨⟨_,oth _ _ ns hI,rfl,rfl⟩,x2.to fun o e=>oth d o dne.symm e⟩ hS5 (ItemsOf.nil _) fun s' acc' c' hm hS' hacc=>?_⟩
 .intro hm;rcases ai3.mp hm with e|hm
  .exact ns e.symm
  .rw[ai5.mp hm]at dlt;exact aky _ dlt
 .rw[Moved.eq_with hm];refine⟨rfl,hQ s'.heap s'.toks acc' c' (fun b o e=>hm.heap b o (fun hmem=>?_) (oth b o (ajw (aja e)) (ae6 b o e))) hS' hacc⟩;have hb:=aja e;rcases ai3.mp hmem with e'|hmem
  .rw[e']at hb;exact aky _ hb
  .rw[ai5.mp hmem]at hb;exact ai8 hb (Nat.not_lt_of_lt (amH _))
end
section
variable{X:aif}
theorem Ql (hc:X.calm=true):jb X (.type "list") (fun vs H Q=>∃(d:aiM) (B:Bool) (kvs:List (bh×V)),vs=[.ref d]∧ahi H d (.dT B kvs)∧∀(l:aiM) (ys:My.Iv),H l=none->ys.map (·.1)=kvs.map (·.1)->My.nO B H ys->Q (.ref l) (upd H l (.lst (My.refs ys)))):=by
 intro pins s σ H vs us Q I r h;obtain⟨d,B,kvs,rfl,e,q⟩:=h;obtain⟨u,rfl,agK⟩:=vals1 r;cases agK;obtain⟨o,es,ep,xs,g1,g2,raw,rel,hes,hsz,hd⟩:=BL I.hok e;have hz:es.size<=aiV:=by obtain⟨z,_⟩:=(show b8 X.prog X.w H s.heap d (.dT B kvs)from J1 I.hok e);rw[hsz];exact z
 refine Qk (I.ok.hd hc) hd raw hz fun h' tk acc c' kk hS hacc=>?_;have fr:H s.heap.objs.size=none:=I.hok.fresh (aiN _);have pr:∀{l₁:List (bh×V)} {l₂:List (bh×aiM×aiH)},KT B H l₁ l₂->l₂.map (·.1)=l₁.map (·.1)∧∀x∈l₂,aY B H x.1 x.2.1:=fun{l₁ l₂} hr=>by
  induction hr with
  |nil=>exact⟨rfl,fun x hx=>ai8 hx aiX⟩
  |cons h _ ih=>
   obtain⟨h1,h2,_⟩:=h;refine⟨by rw[ajd,ajd,ih.1,h1],fun x hx=>?_⟩;rcases ai3.mp hx with rfl|hx
   .rw[←h1];exact h2
   .exact ih.2 x hx
 obtain⟨p1,p2⟩:=pr rel;have ea:acc.toList=(xs.map fun x=>(x.1,x.2.1)).map fun x=>ai2 x.2:=by
  apply asC;intro i;rw[ajG,ai6,akU];by_cases hi:i<es.size
  .obtain⟨v,hv⟩:∃v,acc[i]?=some v:=⟨acc[i]'(by rw[hacc.1];exact hi),getElem?_pos _ _ _⟩;obtain⟨en,e1,e2⟩:=hacc.2 i v hv;rw[←akU,hes,ai6]at e1;rw[hv];cases ex:xs[i]? with
   |none=>rw[ex]at e1;cases e1
   |some x=>rw[ex]at e1;cases e1;rw[e2];rfl
  .have hx:xs.length=es.size:=by have:=congrArg ane hes;simpa using this.symm
   rw[getElem?_neg acc i (by rw[hacc.1];exact hi),aot (by lia)];rfl
 refine⟨.ref s.heap.objs.size,upd H s.heap.objs.size (.lst (My.refs (xs.map fun x=>(x.1,x.2.1)))),I.laid (t':=tk) kk (aiN _) ⟨?_,acc.toList,c',?_,by simpa using hS⟩,rfl,q _ _ fr (by rw[ajG];exact p1) fun x hx=>?_⟩
 .have hx:xs.length=es.size:=by have:=congrArg ane hes;simpa using this.symm
  simp only[My.refs,aiJ];lia
 .rw[ea];exact My.tR _
 .obtain⟨y,hy,rfl⟩:=ai'.mp hx;exact p2 y hy
def abR (K:aiU)(neg:Bool):aho:=fun x y H Q=>∃e p ds xs,Rep K H e x∧y=.ref p∧bk K H p xs∧gk K H ds xs∧e.canLay0=true∧(∀d∈ds,d.canLay0=true∧d.depth<=60)∧Q (.bl (if neg then !(ds.any fun d=>akn d e)else ds.any fun d=>akn d e)) H
theorem Lx {pins:List (aiM×Obj)}{σ:St}{H:ag4}{s:aiK}{a:aiM}{xs ys:List V}(I:Inv X pins σ H s)(h:bk X.K H a xs)(h':cD X.K H a ys):False:=by obtain⟨its,r,⟨o,n,e,c,_,d⟩,_⟩:=I.list h;obtain⟨its',r',⟨o',e',c',n',d'⟩,_⟩:=I.tuple h';rw[e]at e';cases e';rw[c]at c';exact ai8 c' (by decide)
mutual
theorem Uh {pins:List (aiM×Obj)}{σ:St}{H:ag4}{s:aiK}(I:Inv X pins σ H s):∀{d d':akm} {x:V},Rep X.K H d x->Rep X.K H d' x->d=d'
 |.none,d',x,h,h'=>by
  rw[h.none_of]at h'
  cases d' with
  |none=>rfl
  |bool b=>exact nomatch h'.iG
  |int b=>exact nomatch h'.g8
  |str b=>exact nomatch h'.nC
  |list b=>obtain⟨_,_,z,_⟩:=h'.eY;exact nomatch z
  |tuple b=>obtain⟨_,_,z,_⟩:=h'.dF;exact nomatch z
  |dict b=>unfold Rep at h';exact h'.elim
 |.bool a,d',x,h,h'=>by
  rw[h.iG]at h'
  cases d' with
  |none=>exact nomatch h'.none_of
  |bool b=>have:=h'.iG;cases this;rfl
  |int b=>exact nomatch h'.g8
  |str b=>exact nomatch h'.nC
  |list b=>obtain⟨_,_,z,_⟩:=h'.eY;exact nomatch z
  |tuple b=>obtain⟨_,_,z,_⟩:=h'.dF;exact nomatch z
  |dict b=>unfold Rep at h';exact h'.elim
 |.int a,d',x,h,h'=>by
  rw[h.g8]at h'
  cases d' with
  |none=>exact nomatch h'.none_of
  |bool b=>exact nomatch h'.iG
  |int b=>have:=h'.g8;cases this;rfl
  |str b=>exact nomatch h'.nC
  |list b=>obtain⟨_,_,z,_⟩:=h'.eY;exact nomatch z
  |tuple b=>obtain⟨_,_,z,_⟩:=h'.dF;exact nomatch z
  |dict b=>unfold Rep at h';exact h'.elim
 |.str a,d',x,h,h'=>by
  rw[h.nC]at h'
  cases d' with
  |none=>exact nomatch h'.none_of
  |bool b=>exact nomatch h'.iG
  |int b=>exact nomatch h'.g8
  |str b=>have:=h'.nC;cases this;rfl
  |list b=>obtain⟨_,_,z,_⟩:=h'.eY;exact nomatch z
  |tuple b=>obtain⟨_,_,z,_⟩:=h'.dF;exact nomatch z
  |dict b=>unfold Rep at h';exact h'.elim
 |.list ds,d',x,h,h'=>by
  obtain⟨a,xs,rfl,q,r⟩:=h.eY
  cases d' with
  |none=>exact nomatch h'.none_of
  |bool b=>exact nomatch h'.iG
  |int b=>exact nomatch h'.g8
  |str b=>exact nomatch h'.nC
  |list b=>
   obtain⟨a',xs',z,q',r'⟩:=h'.eY
   cases z
   rw[I.JP q' q]at r'
   rw[Cv I r r']
  |tuple b=>
   obtain⟨a',xs',z,q',r'⟩:=h'.dF
   cases z
   exact(Lx I q q').elim
  |dict b=>unfold Rep at h';exact h'.elim
 |.tuple ds,d',x,h,h'=>by
  obtain⟨a,xs,rfl,q,r⟩:=h.dF
  cases d' with
  |none=>exact nomatch h'.none_of
  |bool b=>exact nomatch h'.iG
  |int b=>exact nomatch h'.g8
  |str b=>exact nomatch h'.nC
  |list b=>
   obtain⟨a',xs',z,q',r'⟩:=h'.eY
   cases z
   exact(Lx I q' q).elim
  |tuple b=>
   obtain⟨a',xs',z,q',r'⟩:=h'.dF
   cases z
   rw[I.Gj q' q]at r'
   rw[Cv I r r']
  |dict b=>unfold Rep at h';exact h'.elim
 |.dict _,d',x,h,h'=>by unfold Rep at h;exact h.elim
theorem Cv {pins:List (aiM×Obj)}{σ:St}{H:ag4}{s:aiK}(I:Inv X pins σ H s):∀{ds ds':List akm} {xs:List V},gk X.K H ds xs->gk X.K H ds' xs->ds=ds'
 |[],ds',xs,h,h'=>by
  rw[h.mH]at h'
  cases ds' with
  |nil=>rfl
  |cons d ds'=>obtain⟨_,_,z,_⟩:=h'.dM;cases z
 |d::ds,ds',xs,h,h'=>by
  obtain⟨y,ys,rfl,r,t⟩:=h.dM
  cases ds' with
  |nil=>exact nomatch h'.mH
  |cons d' ds'=>
   obtain⟨y',ys',z,r',t'⟩:=h'.dM
   cases z
   rw[Uh I r r',Cv I t t']
end
theorem RelV.afX {x y:V}{u:aiH}(h:RelV x u)(h':RelV y u):x=y:=by have a:Vals [x] [u]:=.cons h .nil;have b:Vals [y] [u]:=.cons h' .nil;have:=a.inj b;cases this;rfl
open Classical in
theorem ZG {pins:List (aiM×Obj)}{σ:St}{H:ag4}{s:aiK}{e:akm}{x:V}{v:aiH}{ds:List akm}{xs:List V}{us:List aiH}(hu:X.A.units+64<ak8)(I:Inv X pins σ H s)(hx:Rep X.K H e x)(rx:RelV x v)(ce:e.canLay0=true)(rl:gk X.K H ds xs)(rv:Vals xs us)(hd:∀d∈ds,d.canLay0=true∧d.depth<=60):∃f:aiH->Bool,(∀u∈us,aqk X.A.in1 s u v (f u))∧us.any f=ds.any fun d=>akn d e:=by
 obtain⟨as,ra⟩:=I.reads hx rx;have each:∀(d:akm) (y:V) (u:aiH),d∈ds->Rep X.K H d y->RelV y u->aqk X.A.in1 s u v (akn d e):=fun d y u hm hr hy=>by obtain⟨bs,rb⟩:=I.reads hr hy;obtain⟨c1,c2⟩:=hd d hm;refine SeqAt.eqAt_reads d e X.A.in1 s u v bs as rb ra c1 ce ?_;rw[alC];have:min d.depth e.depth<=60:=ajt (Nat.min_le_left _ _) c2;lia
 let f:aiH->Bool:=fun u=>if h:∃d y,d∈ds∧Rep X.K H d y∧RelV y u then akn h.choose e else false;have fe:∀d y u,d∈ds->Rep X.K H d y->RelV y u->f u=akn d e:=fun d y u hm hr hy=>by have c:∃d y,d∈ds∧Rep X.K H d y∧RelV y u:=⟨d,y,hm,hr,hy⟩;show(if h:∃d y,d∈ds∧Rep X.K H d y∧RelV y u then akn h.choose e else false)=_;rw[dif_pos c];obtain⟨y',_,h2,h3⟩:=c.choose_spec;rw[RelV.afX h3 hy]at h2;rw[Uh I h2 hr]
 have go:∀{ds':List akm} {xs':List V} {us':List aiH},gk X.K H ds' xs'->Vals xs' us'->(∀d∈ds',d∈ds)->(∀u∈us',∃d y,d∈ds∧Rep X.K H d y∧RelV y u)∧us'.any f=ds'.any fun d=>akn d e:=fun{ds'}=>by
  induction ds' with
  |nil=>intro xs' us' h1 h2 _;rw[h1.mH]at h2;cases h2;exact⟨fun u hu'=>ai8 hu' aiX,rfl⟩
  |cons d ds' ih=>
   intro xs' us' h1 h2 h3;obtain⟨y,ys,rfl,r,t⟩:=h1.dM;cases h2 with
   |cons r1 r2=>
    obtain⟨i1,i2⟩:=ih t r2 fun z hz=>h3 z (.tail _ hz);refine⟨fun u hu'=>?_,?_⟩
    .rcases ai3.mp hu' with rfl|hu'
     .exact⟨d,y,h3 d (.head _),r,r1⟩
     .exact i1 u hu'
    .rw[am2,am2,i2,fe d y _ (h3 d (.head _)) r r1]
 obtain⟨g1,g2⟩:=go rl rv fun d hd'=>hd';refine⟨f,fun u hu'=>?_,g2⟩;obtain⟨d,y,a,b,c⟩:=g1 u hu';rw[fe d y u a b c];exact each d y u a b c
theorem ad0 (hu:X.A.units+64<ak8):qt X (ake .In) (abR X.K false):=by intro pins s σ H x y v u Q I rx ry h;obtain⟨e,p,ds,xs,hx,rfl,hq,rl,ce,hd,q⟩:=h;cases ry;obtain⟨its,r,pl,hz⟩:=I.list hq;obtain⟨f,f1,f2⟩:=ZG hu I hx rx ce rl r hd;refine ati f pl.isList (fun w hw=>f1 w (by simpa using hw)) ⟨.bl _,H,I,rfl,?_⟩;rw[show its.toArray.any f=its.any f by simp,f2];exact q
theorem Hb (hu:X.A.units+64<ak8):qt X (ake .NotIn) (abR X.K true):=by intro pins s σ H x y v u Q I rx ry h;obtain⟨e,p,ds,xs,hx,rfl,hq,rl,ce,hd,q⟩:=h;cases ry;obtain⟨its,r,pl,hz⟩:=I.list hq;obtain⟨f,f1,f2⟩:=ZG hu I hx rx ce rl r hd;refine arP f pl.isList (fun w hw=>f1 w (by simpa using hw)) ⟨.bl _,H,I,rfl,?_⟩;rw[show its.toArray.any f=its.any f by simp,f2];exact q
theorem any_range (bs:List Bool):((aiY bs.length).any fun i=>(bs[i]?).getD false)=bs.any id:=by
 rw[ajD,akl,akl];constructor
 .rintro⟨i,hi,h⟩;have hi':=ajs.mp hi;rw[aiG hi']at h;exact⟨_,ajT hi',h⟩
 .rintro⟨b,hb,h⟩;obtain⟨i,hi,rfl⟩:=amB hb;refine⟨i,ajs.mpr hi,?_⟩;rw[aiG hi];exact h
theorem Hc (hc:X.calm=true):jb X (.builtin "any") (fun xs H Q=>∃(p:aiM) (bs:List Bool),xs=[.ref p]∧bk X.K H p (bs.map .bl)∧Q (.bl (bs.any id)) H):=by
 intro pins s σ H xs us Q I r h;obtain⟨p,bs,rfl,hq,q⟩:=h;obtain⟨u,rfl,agK⟩:=vals1 r;cases agK;obtain⟨its,rv,pl,hz⟩:=I.list hq;have hits:=H4 rv;subst hits;have hl:=pl.isList;have hlt:p<s.heap.objs.size:=by obtain⟨_,e,_⟩:=hl;exact aja e
 have kept:∀{h':aj4} {o:Obj},(∀b x,b∉[s.heap.objs.size]->(s.heap.push o).get? b=some x->h'.get? b=some x)->∀b x,s.heap.get? b=some x->h'.get? b=some x:=fun hk b x e=>hk b x (fun hm=>by rw[ai5.mp hm]at e;exact aky _ (aja e)) (aiS _ e);refine call_any_walk (anV hl ?_);refine⟨s.heap.objs.size,[s.heap.objs.size,p],[s.heap.objs.size],(bs.map alF).toArray.size,_,_,fun i=>(bs[i]?).getD false,rfl,atY (A:=X.A.in1) (I.ok.hd hc) _ p (ajw hlt) (bs.map alF).toArray,⟨⟨_,ajg _ rfl,rfl,rfl⟩,hl.push _⟩,fun i v s' Q' E' hP hQ=>?_,fun h' tk hk=>?_⟩
 .have hP':(bs.map alF)[i]?=some v:=by simpa using hP
  rw[ai6]at hP';cases e:bs[i]? with
  |none=>rw[e]at hP';cases hP'
  |some b=>rw[e]at hP';cases hP';have hQ':Q' ((bs[i]?).getD false) s':=hQ;rw[e]at hQ';exact aj8 hQ'
 .have e:((aiY (bs.map alF).toArray.size).any fun i=>(bs[i]?).getD false)=bs.any id:=by rw[ajk,aiJ];exact any_range bs
  rw[e];exact⟨.bl (bs.any id),H,I.kept (kept hk),rfl,q⟩
theorem VM:jb X (.builtin "len") (fun xs H Q=>∃a B kvs,xs=[V.ref a]∧ahi H a (.dT B kvs)∧Q (.int (kvs.length:Nat)) H):=by
 intro pins s σ H xs us Q I r h;obtain⟨a,B,kvs,rfl,ha,q⟩:=h;obtain⟨u,rfl,agK⟩:=vals1 r;cases agK;obtain⟨o,es,ep,xs,g1,g2,raw,rel,hes,hsz,hd⟩:=BL I.hok ha;have hz:es.size<=aiV:=by obtain⟨z,_⟩:=(show b8 X.prog X.w H s.heap a (.dT B kvs)from J1 I.hok ha);rw[hsz];exact z
 rw[aje]at hz;refine apu kind_len plain_len entry_len (args_len1 _) ?_;unfold Builtin.«len»;refine aiD (m:=oneArg "len" _) (aiF ?_);refine aiD (m:=callSpecial? (.ref a) (alN "__len__")) (akC (name:=alN "__len__") raw.ty atr (aj7 atr raw.ty F.entry_dict_len ?_ (F.args_dict_len_1 _)));unfold Builtin.«dict.__len__»;refine aiD ?_;unfold apv;refine aiD (aop raw.ty ?_);show ai0 _ _ (pure (ai2 a)) _ _ s;refine aiF ?_;refine aiD (m:=au5 _) (aiF ?_);unfold dictSize;refine aiD (aiD (alR g1 g2 (aiF ?_)));unfold auq;rw[aiL (by rw[hd];exact aiW)];refine aiD (aiF ?_);refine wpAny_ret_mkInt ?_;have ez:((es.size:Int)+((0:Nat):Int))=(kvs.length:Nat):=by lia
 show ai0 _ _ _ _ _ {s with toks:=s.toks+1};rw[ez];refine aiD (akX (aiF ?_));refine aiD (atc ?_);show ai0 _ _ (if((kvs.length:Nat):Int)<0 then _ else _) _ _ _;rw[aiL (by lia)];show ai0 _ _ (if((kvs.length:Nat):Int)≥2^63 then _ else _) _ _ _;rw[aiL (by lia)];exact aiD (wpAny_mkInt (aiF ⟨_,rfl,⟨.int _,H,I.tok _,⟨_,rfl⟩,q⟩⟩))
end
section
variable{X:aif}{K:aiU}
theorem abS {e:akb}{f:Str}{pos:Pos}{ta:TE}(hK:X.K=K)(he:PE X e ta)(hb:am1 e f X.env (alg e X.env)=alg e X.env):PE X (.Attribute e f pos) (aey K ta f):=hK▸gn he hb
theorem abT (hK:X.K=K)(hu:X.A.units+64<ak8):qt X (ake .In) (abR K false):=hK▸ad0 hu
theorem Qm (hK:X.K=K)(hu:X.A.units+64<ak8):qt X (ake .NotIn) (abR K true):=hK▸Hb hu
end
end L2
namespace My
open PySem L2 PySem.Spec PyProof.Rows
inductive Reach (W:ah8):bh->Prop
 |beg:Reach W (cj W)
 |step {k:bh} {x:Nat×bh}:Reach W k->x∈aW W k->Reach W x.2
noncomputable def fK (L:List (bh×Int)):List bh:=L.map (·.1)
theorem Cw (w:Int):∀(ns:List (Nat×bh)) (L:List (bh×Int)) (y:bh),y∈fK (cZ L w ns)↔y∈fK L∨∃x∈ns,x.2=y
 |[],L,y=>⟨.inl,fun h=>h.elim id fun⟨x,hx,_⟩=>ai8 hx aiX⟩
 |x::ns,L,y=>by
  show y∈fK (cZ (nF L x.2 w) w ns)↔_
  rw[Cw w ns]
  unfold fK
  rw[vQ]
  constructor
  ·rintro((rfl|h)|⟨z,hz,rfl⟩)
   ·exact .inr ⟨x,.head _,rfl⟩
   ·exact .inl h
   ·exact .inr ⟨z,.tail _ hz,rfl⟩
  ·rintro(h|⟨z,hz,rfl⟩)
   ·exact .inl (.inr h)
   ·rcases ai3.mp hz with rfl|hz
    ·exact .inl (.inl rfl)
    ·exact .inr ⟨z,hz,rfl⟩
theorem Cx (W:ah8):∀(L acc:List (bh×Int)) (y:bh),y∈fK (bD W acc L)↔y∈fK acc∨∃k∈fK L,∃x∈aW W k,x.2=y
 |[],acc,y=>⟨.inl,fun h=>h.elim id fun⟨k,hk,_⟩=>ai8 hk aiX⟩
 |l::L,acc,y=>by
  show y∈fK (bD W (cZ acc l.2 (aW W l.1)) L)↔_
  rw[Cx W L,Cw]
  constructor
  ·rintro((h|⟨x,hx,rfl⟩)|⟨k,hk,x,hx,rfl⟩)
   ·exact .inl h
   ·exact .inr ⟨l.1,.head _,x,hx,rfl⟩
   ·exact .inr ⟨k,.tail _ hk,x,hx,rfl⟩
  ·rintro(h|⟨k,hk,x,hx,rfl⟩)
   ·exact .inl (.inl h)
   ·rcases ai3.mp hk with rfl|hk
    ·exact .inl (.inr ⟨x,hx,rfl⟩)
    ·exact .inr ⟨k,hk,x,hx,rfl⟩
theorem tU (W:ah8)(j:Nat)(y:bh):y∈fK (bu W (j+1))↔∃k∈fK (bu W j),∃x∈aW W k,x.2=y:=by show y∈fK (bD W [] (bu W j))↔_;rw[Cx];exact⟨fun h=>h.elim (fun z=>ai8 z aiX) id,.inr⟩
theorem uN (W:ah8):fK (bu W 0)=[cj W]:=rfl
theorem oU (W:ah8):∀(j:Nat) (k:bh),k∈fK (bu W j)->Reach W k
 |0,k,h=>by
  rw[uN]at h
  rw[ai5.mp h]
  exact .beg
 |j+1,k,h=>by
  obtain⟨k0,h0,x,hx,rfl⟩:=(tU W j k).mp h
  exact .step (oU W j k0 h0) hx
theorem j9 {W:ah8}(hn:W.n<=5){j:Nat}(hj:j<=W.n){k:bh}(h:k∈fK (bu W j)):Er W (W.n-j) k:=(vR hn j hj).1.ok k h
theorem zu {W:ah8}(hn:W.n<=5){k:bh}(h:Reach W k):∃j,j<=W.n∧k∈fK (bu W j):=by
 induction h with
 |beg=>exact⟨0,ajW _,by rw[uN];exact ai5.mpr rfl⟩
 |step _ hx ih=>obtain⟨j,hj,hk⟩:=ih;obtain⟨h1,h2⟩:=m7 hx;obtain⟨e,he,_⟩:=(j9 hn hj hk).step hn h1 h2;exact⟨j+1,by omega,(tU W j _).mpr ⟨_,hk,_,hx,rfl⟩⟩
theorem xR {W:ah8}(hn:W.n<=5){k:bh}(h:Reach W k):∃d,Er W d k:=by obtain⟨j,hj,hk⟩:=zu hn h;exact⟨_,j9 hn hj hk⟩
noncomputable def j5 (W:ah8)(j:Nat):List bh:=(aiY j).flatMap fun i=>fK (bu W i)
theorem fQ (W:ah8)(j:Nat):j5 W (j+1)=j5 W j++fK (bu W j):=by unfold j5;rw[akQ,aoY,ajH,ap8,alb]
theorem Hd (W:ah8)(j:Nat)(k:bh):k∈j5 W j↔∃i,i<j∧k∈fK (bu W i):=by unfold j5;rw[asT];exact⟨fun⟨i,h1,h2⟩=>⟨i,ajs.mp h1,h2⟩,fun⟨i,h1,h2⟩=>⟨i,ajs.mpr h1,h2⟩⟩
theorem zx {W:ah8}(hn:W.n<=5):∀j,j<=W.n+1->(j5 W j).Nodup
 |0,_=>alq
 |j+1,hj=>by
  rw[fQ,aoc]
  refine⟨zx hn j (by lia),(vR hn j (by lia)).1.nd,fun a ha b hb e=>?_⟩
  subst e
  obtain⟨i,hi,ha⟩:=(Hd W j a).mp ha
  have h1:=(j9 hn (by lia) ha).lf
  have h2:=(j9 hn (by lia) hb).lf
  lia
theorem Iw {W:ah8}(hn:W.n<=5)(k:bh):k∈j5 W (W.n+1)↔Reach W k:=by
 rw[Hd];constructor
 .rintro⟨i,_,h⟩;exact oU W i k h
 .intro h;obtain⟨j,hj,hk⟩:=zu hn h;exact⟨j,by lia,hk⟩
theorem uw (W:ah8):∀(j d:Nat) (k:bh),k∈fK (bu W j)->rows W k d≠[]->rows W (cj W) (j+d)≠[]
 |0,d,k,h,hr=>by
  rw[uN]at h
  rw[ai5.mp h]at hr
  rw[akp]
  exact hr
 |j+1,d,k,h,hr=>by
  obtain⟨k0,h0,x,hx,rfl⟩:=(tU W j k).mp h
  rw[show j+1+d=j+(d+1) by lia]
  refine uw W j (d+1) k0 h0 fun z=>hr ?_
  have z':(aW W k0).flatMap (fun x=>(rows W x.2 d).map fun r=>(x.1:Int)::r)=[]:=z
  rw[List.flatMap_eq_nil_iff]at z'
  exact aoX.mp (z' x hx)
theorem tV {W:ah8}:rows W (cj W) W.n=[]↔bu W W.n=[]:=by
 constructor
 .intro h;cases e:bu W W.n with
  |nil=>rfl
  |cons x r=>have:=uw W W.n 0 x.1 (by rw[e];exact .head _) (by show([[]]:List (List Int))≠[];exact ant _ _);exact ai8 h this
 .intro h;have:=GZ W W.n 0;rw[h]at this;have this:(0:Int)=cnt W (cj W) W.n:=this;unfold cnt at this;exact amK.mp (by lia)
theorem uO {W:ah8}(hn:W.n<=5)(k:bh):(aW W k).length<=left W.n k.1.toNat:=by
 unfold aW gf left;generalize aiY W.n=l;induction l with
 |nil=>exact aiN _
 |cons p l ih=>
  rw[ajN,amJ];cases hb:bit k.1.toNat p with
  |true=>
   have:stepK W k p=none:=by unfold stepK;rw[aiP hb]
   rw[this];exact ih
  |false=>
   rw[aiP (by rfl)];cases(stepK W k p).map fun k'=>(p,k')with
   |none=>exact ajt ih (aqQ _)
   |some y=>exact Nat.succ_le_succ ih
theorem Cy {W:ah8}{d:Nat}:∀(L acc:List (bh×Int)),(∀k∈fK L,(aW W k).length<=d)->(bD W acc L).length<=acc.length+d*L.length
 |[],acc,_=>by
  show acc.length<=acc.length+d*0
  lia
 |l::L,acc,h=>by
  show(bD W (cZ acc l.2 (aW W l.1)) L).length<=_
  have h1:=Cy L (cZ acc l.2 (aW W l.1)) fun k hk=>h k (.tail _ hk)
  have h2:=Ac l.2 (aW W l.1) acc
  have h3:=h l.1 (.head _)
  rw[ajl,Nat.mul_succ]
  lia
theorem tW {W:ah8}(hn:W.n<=5){j:Nat}(hj:j<W.n):(bu W (j+1)).length<=(W.n-j)*(bu W j).length:=by
 have:=Cy (W:=W) (d:=W.n-j) (bu W j) [] fun k hk=>by have h1:=uO hn k;rw[(j9 hn (by lia) hk).lf]at h1;exact h1
 show(bD W [] (bu W j)).length<=_;simpa using this
structure LI (W:ah8)(k:bh):Prop where
 tot:W.kd="total"->∃m,k.2=[m]∧m<=W.bd
 lon:W.kd="longest"->¬(W.n:Int)-1<=W.bd->∀q,q<W.n->bit k.1.toNat q=true->(q:Int)∉k.2->∀p,p<W.n->bit k.1.toNat p=false->bit (nb W.ts q) p=false
theorem ad1 {W:ah8}(hb:0<=W.bd):LI W (cj W):=by refine⟨fun h=>⟨0,by unfold cj;rw[aiP h],hb⟩,fun _ _ q _ hq=>?_⟩;rw[BR]at hq;have:bit (0:Int).toNat q=false:=jt (akR q);rw[this]at hq;cases hq
theorem VN {x y:Nat}(h:¬iJ x y=true){p:Nat}(hp:p<5)(hy:bit y p=false):bit x p=false:=by
 cases hx:bit x p with
 |false=>rfl
 |true=>refine ai8 ?_ h;unfold iJ;rw[akl];exact⟨p,ajs.mpr hp,by rw[hx,hy];rfl⟩
theorem abU {W:ah8}(ahf:BW W){k:bh}{d:Nat}(ok:Er W d k)(h:LI W k){x:Nat×bh}(hx:x∈aW W k):LI W x.2:=by
 obtain⟨h1,h2⟩:=m7 hx;obtain⟨hf,e1,e2⟩:=m6 h2;have hn:=ahf.n5;have en:x.2.1.toNat=k.1.toNat+2^x.1:=by rw[e1,ai4]
 have hS:=rP hn ok.lt;have bp:∀q,q<5->bit (k.1.toNat+2^x.1) q=(decide (q=x.1)||bit k.1.toNat q):=fun q hq=>vN _ hS x.1 (by lia) q hq hf;refine⟨fun c=>?_,fun c c2 q hq hb hm p hp hbp=>?_⟩
 .unfold jh at e2;rw[aiL (by rw[c];decide),aiP c]at e2;split at e2
  .rename_i z;exact⟨_,(ajn e2).symm,z⟩
  .cases e2
 .unfold jh at e2;rw[aiP c]at e2;unfold pZ at e2;rw[aiL c2]at e2;rw[en,bp q (by lia)]at hb;rw[en,bp p (by lia)]at hbp;rw[Bool.or_eq_false_iff]at hbp;have old:bit k.1.toNat q=true->(q:Int)∉k.2->bit (nb W.ts q) p=false:=fun a b=>h.lon c c2 q hq a b p hp hbp.2;split at e2
  .cases e2
  .split at e2
   .have em:=(ajn e2).symm;rw[em]at hm;have hm1:(q:Int)∉k.2:=fun z=>hm (ai1.mpr (.inl z));have hq2:¬q=x.1:=fun z=>hm (ai1.mpr (.inr (by rw[z];exact ai5.mpr rfl)));rw[aiO hq2,alo]at hb;exact old hb hm1
   .split at e2
    .cases e2
    .rename_i hc;have em:=(ajn e2).symm;rw[em]at hm;by_cases z:(q:Int)∈k.2++[(x.1:Int)]
     .have hh:(k.2++[(x.1:Int)]).headD 0=q:=by
       cases e:k.2++[(x.1:Int)]with
       |nil=>rw[e]at z;cases z
       |cons y r=>
        rw[e]at z hm;rcases ai3.mp z with z|z
        .exact z.symm
        .exact ai8 z hm
      rw[hh,ai4]at hc;refine VN hc (by lia) ?_;rw[bp p (by lia),hbp.1,hbp.2];rfl
     .have hm1:(q:Int)∉k.2:=fun y=>z (ai1.mpr (.inl y));have hq2:¬q=x.1:=fun y=>z (ai1.mpr (.inr (by rw[y];exact ai5.mpr rfl)));rw[aiO hq2,alo]at hb;exact old hb hm1
theorem ZJ {W:ah8}(ahf:BW W){k:bh}(h:Reach W k):LI W k:=by
 induction h with
 |beg=>exact ad1 ahf.b0
 |step hr hx ih=>obtain⟨d,ok⟩:=xR ahf.n5 hr;exact abU ahf ok ih hx
theorem VP:∀n<6,∀S<2^n,left n S=1->((aiY n).any fun p=>!bit S p&&decide (S+2^p=2^n-1))=true:=by decide+kernel
theorem ZK {n:Nat}(hn:n<=5){S:Nat}(hS:S<2^n)(h:left n S=1):∃p,p<n∧bit S p=false∧S+2^p=2^n-1:=by have:=VP n (by lia) S hS h;rw[akl]at this;obtain⟨p,hp,hq⟩:=this;rw[aiR]at hq;exact⟨p,ajs.mp hp,by simpa using hq.1,ai9 hq.2⟩
theorem Iz {n:Int}{ts:List (List Int)}(h:bN n ts=true):cY n [-1,-1] ts=true:=by unfold bN at h;rw[aiR]at h;exact h.2
theorem abV {n:Nat}(hn:n<=5){ts:List (List Int)}(h:∀t∈ts,cJ n t=true):dB ts (2^n-1)=0:=by
 have z:ts.map (Pr (2^n-1))=ts.map fun _=>(0:Int):=akS fun t ht=>by obtain⟨a,b,c,rfl,h1,h2,h3,h4,_⟩:=bB (h t ht);show(if bit (2^n-1) a.toNat=bit (2^n-1) b.toNat then 0 else c)=0;rw[tH n (by lia) a.toNat (by lia),tH n (by lia) b.toNat (by lia),aiP rfl]
 unfold dB;rw[z];generalize ts.length=m at*;induction ts with
 |nil=>rfl
 |cons t ts ih=>
  rw[ajd,akz];have:=ih (fun t ht=>h t (.tail _ ht)) (by rw[ajd,ajd]at z;exact(al7 z).2)
  rw[this];rfl
theorem VR {ts:List (List Int)}{p q:Nat}(h:qM ts p q):qM ts q p:=let⟨c,z⟩:=h;⟨c,z.symm⟩
theorem abW {W:ah8}(ahf:BW W){p q:Nat}(hp:p<W.n)(hq:q<W.n):bit (nb W.ts p) q=true->bit (nb W.ts q) p=true:=fun h=>by have hxy:=Iz ahf.JG;exact((qN ahf.n5 hq hxy).2 p hp).mpr (VR (((qN ahf.n5 hp hxy).2 q hq).mp h))
theorem ZL {W:ah8}(ahf:BW W){k:bh}(ok:Er W 1 k)(h:LI W k):aW W k≠[]:=by
 have hn:=ahf.n5;obtain⟨p,hp,hb,hS⟩:=ZK hn ok.lt ok.lf;have ht:=rU ahf.JG;have m:(jh W k.1.toNat k.2 p).isSome=true:=by
  unfold jh;rw[hS];by_cases c:W.kd="longest"
  .rw[aiP c];unfold pZ;by_cases c2:(W.n:Int)-1<=W.bd
   .rw[aiP c2];rfl
   .rw[aiL c2];have Qn:W.kd≠"total":=by rw[c];decide
    obtain⟨o1,o2⟩:=ok.oth Qn;have aiu:∀p∈k.2,0<=p∧p<5:=fun y hy=>by have:=o1 y hy;lia
    have nc:¬clash (nb W.ts p) (less k.1.toNat (pY k.2))=true:=by
     intro z;unfold clash at z;rw[akl]at z;obtain⟨q,hq,z⟩:=z;have hq:=ajs.mp hq;rw[aiR]at z;obtain⟨z1,z2⟩:=z;rw[vO _ (rP hn ok.lt) _ (qK aiu) q hq,aiR,vP aiu hq]at z2;have hqn:q<W.n:=by
      by_cases e:q<W.n
      .exact e
      .have:bit k.1.toNat q=false:=jt (ajv ok.lt (aj5 (by decide) (by lia)));rw[this]at z2;cases z2.1
     have:=h.lon c c2 q hqn z2.1 (by simpa using z2.2) p hp hb;rw[abW ahf hp hqn z1]at this;cases this
    rw[aiL nc];split
    .rfl
    .have nn:¬iJ (nb W.ts ((k.2++[(p:Int)]).headD 0).toNat) (k.1.toNat+2^p)=true:=by
      intro z;unfold iJ at z;rw[akl]at z;obtain⟨q,hq,z⟩:=z;rw[aiR]at z;obtain⟨z1,z2⟩:=z;have hh:((k.2++[(p:Int)]).headD 0).toNat<W.n:=by
       have hm:(k.2++[(p:Int)]).headD 0∈k.2++[(p:Int)]:=by
        cases k.2 with
        |nil=>exact .head _
        |cons y r=>exact .head _
       rcases ai1.mp hm with z|z
       .have:=o1 _ z;lia
       .rw[ai5.mp z];lia
      have hxy:=Iz ahf.JG;have hlt:=(qN hn hh hxy).1;have hqn:q<W.n:=by
       by_cases e:q<W.n
       .exact e
       .rw[jt (ajv hlt (aj5 (by decide) (by lia)))]at z1;cases z1
      rw[hS,tH W.n (by lia) q hqn]at z2;cases z2
     rw[hS]at nn;rw[hS,aiL nn];rfl
  .rw[aiL c,abV hn ht];by_cases c2:W.kd="total"
   .obtain⟨m,e,hm⟩:=h.tot c2;rw[aiP c2,e];show(if 0+m<=W.bd then some [0+m]else none).isSome=true;rw[aiP (by lia)];rfl
   .rw[aiL c2,aiP ahf.b0];rfl
 intro z;obtain⟨v,hv⟩:=anB.mp m;have hs:stepK W k p=some (((k.1.toNat+2^p:Nat):Int),v):=by unfold stepK;rw[aiL (by rw[hb];exact aiW),hv];rfl
 have:(p,(((k.1.toNat+2^p:Nat):Int),v))∈aW W k:=by unfold aW gf;exact ama.mpr ⟨p,ajs.mpr hp,by rw[hs];rfl⟩
 rw[z]at this;cases this
theorem few {W:ah8}(ahf:BW W)(h:rows W (cj W) W.n=[]):(j5 W (W.n+1)).length<128:=by
 have hn:=ahf.n5;have hl:=tV.mp h;have hp:1<=W.n->bu W (W.n-1)=[]:=fun h1=>by
  cases e:bu W (W.n-1)with
  |nil=>rfl
  |cons x r=>
   have hx:x.1∈fK (bu W (W.n-1)):=by rw[e];exact .head _
   have ok:=j9 hn (by lia) hx;rw[show W.n-(W.n-1)=1 by lia]at ok;have nx:=ZL ahf ok (ZJ ahf (oU W _ _ hx));obtain⟨y,hy⟩:=List.exists_mem_of_ne_nil _ nx;have:=(tU W (W.n-1) y.2).mpr ⟨x.1,hx,y,hy,rfl⟩;rw[show W.n-1+1=W.n by lia,hl]at this;cases this
 have l:∀j,(fK (bu W j)).length=(bu W j).length:=fun j=>aiJ _;have l0:(bu W 0).length=1:=rfl;have h01:=@tW W hn 0;have h12:=@tW W hn 1;have h23:=@tW W hn 2;have h34:=@tW W hn 3;have hnn:W.n=0∨W.n=1∨W.n=2∨W.n=3∨W.n=4∨W.n=5:=by lia
 rcases hnn with e|e
 .rw[e];simp only[fQ,aiZ,l];have hz:(j5 W 0).length=0:=rfl;lia
 have hpz:=congrArg ane (hp (by lia));have hlz:=congrArg ane hl;rw[alv]at hlz hpz;have hz:(j5 W 0).length=0:=rfl;rcases e with e|e|e|e|e
 .rw[e]at hpz;have:(bu W 0).length=0:=hpz;lia
 .rw[e]at hlz hpz h01 ⊢;have g1:=h01 (by decide);simp only[fQ,aiZ,l];simp at g1 hpz;lia
 .rw[e]at hlz hpz h01 h12 ⊢;have g1:=h01 (by decide);have g2:=h12 (by decide);simp only[fQ,aiZ,l];simp at g1 g2 hpz;lia
 .rw[e]at hlz hpz h01 h12 h23 ⊢;have g1:=h01 (by decide);have g2:=h12 (by decide);have g3:=h23 (by decide);simp only[fQ,aiZ,l];simp at g1 g2 g3 hpz;lia
 .rw[e]at hlz hpz h01 h12 h23 h34 ⊢;have g1:=h01 (by decide);have g2:=h12 (by decide);have g3:=h23 (by decide);have g4:=h34 (by decide);simp only[fQ,aiZ,l];have agn:(bu W 4).length=0:=hpz;have ago:(bu W 5).length=0:=hlz;simp at g1 g2 g3 g4;lia
variable{A:ahz}
abbrev ahx:=Bool×bh
abbrev ML_:=List (ahx×aiM)
noncomputable def m8 (x:ahx):akm:=.tuple [.int x.2.1,if x.1=true then .int (x.2.2.headD 0)else .tuple (x.2.2.map .int)]
noncomputable def cu (xs:ML_):List V:=xs.map fun x=>V.ref x.2
def sE (H:ag4)(xs:ML_):Prop:=∀x∈xs,aY x.1.1 H x.1.2 x.2
theorem sE.stay {H H':ag4}{xs:ML_}(h:sE H xs)(e:∀b ys,H b=some (.tup ys)->H' b=some (.tup ys)):sE H' xs:=fun x hx=>(h x hx).stay e
theorem sE.mono {H H':ag4}{xs:ML_}(h:sE H xs)(e:aC H H'):sE H' xs:=h.stay fun b ys q=>e b _ q
def Ly (x:ahx):Prop:=x.1=true->∃m,x.2.2=[m]
theorem aY.okM {B:Bool}{H:ag4}{k:bh}{q:aiM}(h:aY B H k q):Ly (B,k):=fun e=>by have e:B=true:=e;subst e;obtain⟨m,hm,_⟩:∃m:Int,k.2=[m]∧H q=some (.tup [.int k.1,.int m]):=h;exact⟨m,hm⟩
theorem aY.dat {B:Bool}{H:ag4}{k:bh}{q:aiM}(h:aY B H k q):Dat H (m8 (B,k)) (.ref q):=by
 cases B with
 |true=>
  obtain⟨m,hm,hq⟩:∃m:Int,k.2=[m]∧H q=some (.tup [.int k.1,.int m]):=h;have e:m8 (true,k)=.tuple [.int k.1,.int m]:=by unfold m8;rw[aiP rfl,hm];rfl
  rw[e];exact .tuple hq (.cons .int (.cons .int .nil))
 |false=>
  obtain⟨c,hq,hc⟩:∃c,H q=some (.tup [.int k.1,.ref c])∧H c=some (.tup (k.2.map V.int)):=h;have e:m8 (false,k)=.tuple [.int k.1,.tuple (k.2.map .int)]:=by unfold m8;rw[aiL aiW]
  rw[e];exact .tuple hq (.cons .int (.cons (.Ke hc) .nil))
theorem sE.dat {H:ag4}:∀{xs:ML_},sE H xs->bC H (xs.map fun x=>m8 x.1) (cu xs)
 |[],_=>.nil
 |x::xs,h=>.cons (aY.dat (h x (.head _))) (sE.dat fun y hy=>h y (.tail _ hy))
theorem Cz (i:Int)(l:List Int):m8 (true,i,l)=.tuple [.int i,.int (l.headD 0)]:=rfl
theorem CG (i:Int)(l:List Int):m8 (false,i,l)=.tuple [.int i,.tuple (l.map .int)]:=rfl
theorem xT (x:ahx):(m8 x).canLay0=true∧(m8 x).depth<=60:=by
 obtain⟨B,i,l⟩:=x;cases B with
 |true=>rw[Cz];exact⟨rfl,by simp[an7,akP]⟩
 |false=>
  rw[CG];refine⟨?_,?_⟩
  .show(an' (.int i)&&(am9 (l.map .int)&&true))=true;rw[lay_ints];rfl
  .show max 0 (max (akP (l.map .int)+1) 0)+1<=60;rw[Bx];decide
theorem ZM {x y:ahx}(hx:Ly x)(hy:Ly y):akn (m8 x) (m8 y)=decide (x=y):=by
 obtain⟨B,i,l⟩:=x;obtain⟨C,j,m⟩:=y;cases B with
 |true=>
  obtain⟨a,ha⟩:=hx rfl;have ha:l=[a]:=ha;subst ha;cases C with
  |true=>
   obtain⟨b,hb⟩:=hy rfl;have hb:m=[b]:=hb;subst hb;rw[Cz,Cz];show((i==j)&&((a==b)&&true))=_;rw[apO,ajD,aiR,decide_eq_true_eq,beq_iff_eq,beq_iff_eq];constructor
   .rintro⟨rfl,rfl⟩;rfl
   .intro h;cases h;exact⟨rfl,rfl⟩
  |false=>rw[Cz,CG];show((i==j)&&(false&&true))=_;rw[akO,apd];exact(aiO fun h=>by cases h).symm
 |false=>
  cases C with
  |true=>rw[CG,Cz];show((i==j)&&(false&&true))=_;rw[akO,apd];exact(aiO fun h=>by cases h).symm
  |false=>
   rw[CG,CG];show((i==j)&&(aoA (l.map .int) (m.map .int)&&true))=_;rw[apO,By,ajD,aiR,decide_eq_true_eq,decide_eq_true_eq,beq_iff_eq];constructor
   .rintro⟨rfl,rfl⟩;rfl
   .intro h;cases h;exact⟨rfl,rfl⟩
theorem Qo {xs:List ahx}{y:ahx}(hx:∀x∈xs,Ly x)(hy:Ly y):((xs.map m8).any fun d=>akn d (m8 y))=decide (y∈xs):=by
 rw[ajD,akl,decide_eq_true_eq];constructor
 .rintro⟨d,hd,h⟩;obtain⟨x,h1,rfl⟩:=ai'.mp hd;rw[ZM (hx x h1) hy]at h;rw[←ai9 h];exact h1
 .intro h;exact⟨m8 y,ai'.mpr ⟨y,h,rfl⟩,by rw[ZM hy hy];exact aiQ rfl⟩
noncomputable def zy (W:ah8)(B:Bool)(k:bh):Bool:=if W.kd="total" then B else if W.kd="most" then !B&&decide (k.2=[])else !B&&k.2.all fun p=>decide (0<=p)&&decide (p<=(W.n:Int)-1)&&bit k.1.toNat p.toNat
noncomputable def stand (W:ah8)(x:ahx):Bool:=(decide (0<=x.2.1)&&decide (x.2.1<=((2^W.n:Nat):Int)-2))&&zy W x.1 x.2
noncomputable def fX (W:ah8)(ks:List ahx):Bool:=ks.all (stand W)&&decide ((flag W,cj W)∈ks)&&ks.all fun x=>(aW W x.2).all fun y=>decide ((flag W,y.2)∈ks)
theorem qT {W:ah8}(hk:dN W.kd){x:ahx}(h:stand W x=true):x.1=flag W:=by
 unfold stand at h;rw[aiR]at h;have h2:=h.2;unfold zy at h2;unfold flag;by_cases c:W.kd="total"
 .rw[aiP c]at h2;rw[h2,aiQ c]
 .rw[aiL c]at h2;rw[aiO c];by_cases d:W.kd="most"
  .rw[aiP d,aiR]at h2;simpa using h2.1
  .rw[aiL d,aiR]at h2;simpa using h2.1
theorem Qp {n:Nat}:(1:Int)<=((2^n:Nat):Int):=aqt.mpr (akR n)
theorem Hf {W:ah8}(ahf:BW W){x:ahx}(h:stand W x=true)(hx:Ly x)(hl:x.2.2.length<=20):Er W (left W.n x.2.1.toNat) x.2:=by
 have hf:=qT ahf.kd h;unfold stand at h;rw[aiR,aiR]at h;obtain⟨⟨h1,h2⟩,h3⟩:=h;have h1:=ai9 h1;have h2:=ai9 h2;refine⟨h1,by have:=Qp (n:=W.n);omega,rfl,fun c=>?_,fun c=>⟨?_,hl⟩⟩
 .exact hx (by rw[hf];exact uK c)
 .unfold zy at h3;rw[aiL c]at h3;by_cases d:W.kd="most"
  .rw[aiP d,aiR]at h3;rw[ai9 h3.2];exact fun p hp=>ai8 hp aiX
  .rw[aiL d,aiR,ajB]at h3;intro p hp;have:=h3.2 p hp;rw[aiR,aiR]at this;have z1:=ai9 this.1.1;have z2:=ai9 this.1.2;omega
theorem Qq {W:ah8}(ahf:BW W){ks:List ahx}(h:fX W ks=true):rows W (cj W) W.n=[]:=by
 unfold fX at h;rw[aiR,aiR]at h;obtain⟨⟨h1,h2⟩,h3⟩:=h;have h2:=ai9 h2;rw[ajB]at h1 h3;have all:∀k,Reach W k->(flag W,k)∈ks:=fun k hr=>by
  induction hr with
  |beg=>exact h2
  |step hr hx ih=>have:=h3 _ ih;rw[ajB]at this;exact ai9 (this _ hx)
 rw[tV];cases e:bu W W.n with
 |nil=>rfl
 |cons x r=>
  have hx:x.1∈fK (bu W W.n):=by rw[e];exact .head _
  have ok:=j9 ahf.n5 (aiN _) hx;rw[aoa]at ok;have full:=(Vn W.n (by have:=ahf.n5;omega) _ ok.lt).mp ok.lf;have s:=h1 _ (all _ (oU W _ _ hx));unfold stand at s;rw[aiR,aiR]at s;have s2:=ai9 s.1.2;have:=ok.s0;have:=akR W.n;have s3:x.1.1<=((2^W.n:Nat):Int)-2:=s2;omega
theorem Lz {W:ah8}(hn:W.n<=5){fs:List bh}(nd:fs.Nodup)(hb:cj W∈fs)(hr:∀k∈fs,Reach W k)(hc:∀k∈fs,∀x∈aW W k,x.2∈fs):fs.Perm (j5 W (W.n+1)):=by
 rw[api nd (zx hn _ (aiN _))];intro k;rw[Iw hn];refine⟨hr k,fun h=>?_⟩;induction h with
 |beg=>exact hb
 |step _ hx ih=>exact hc _ ih _ hx
def Srt (l:List bh):Prop:=l.Pairwise fun a b=>pLt b a=false
theorem ad2 {l m:List bh}(h:l.Perm m)(a:Srt l)(b:Srt m):l=m:=h.eq_of_pairwise (fun x y _ _ h1 h2=>by have:=tQ _ _ h2 h1;exact aqT (al7 this).1 (al7 this).2) a b
theorem sub_len {W:ah8}(hn:W.n<=5){fs:List bh}(nd:fs.Nodup)(hr:∀k∈fs,Reach W k):fs.length<=(j5 W (W.n+1)).length:=nd.length_le_of_subset fun k hk=>(Iw hn k).mpr (hr k hk)
theorem qU {H:ag4}:∀{bs:List Bool} {ys:List V},bC H (bs.map ano) ys->ys=bs.map V.bl
 |[],_,h=>h.mH
 |b::bs,_,h=>by
  obtain⟨y,ys,rfl,r,t⟩:=bC.dM h
  rw[r.iG,qU t]
  rfl
theorem uP (f:Nat->Bool)(n:Nat):((aiY n).map f).all id=(aiY n).all f:=by rw[asB];rfl
theorem IK (m:List Int)(f:Int->Bool):((aiY m.length).all fun i=>f (m.getD i 0))=m.all f:=by
 rw[ajD,ajB,ajB];constructor
 .intro h x hx;obtain⟨i,hi,rfl⟩:=amB hx;have:=h i (ajs.mpr hi);rwa [ajb,aiG hi]at this
 .intro h i hi;have hi:=ajs.mp hi;rw[ajb,aiG hi];exact h _ (ajT hi)
theorem Ui (m:List Int)(f:Int->Bool):((aiY m.length).any fun i=>f (m.getD i 0))=m.any f:=by
 rw[ajD,akl,akl];constructor
 .rintro⟨i,hi,h⟩;have hi:=ajs.mp hi;rw[ajb,aiG hi]at h;exact⟨_,ajT hi,h⟩
 .rintro⟨x,hx,h⟩;obtain⟨i,hi,rfl⟩:=amB hx;refine⟨i,ajs.mpr hi,?_⟩;rw[ajb,aiG hi];exact h
theorem int_at (m:List Int){i:Nat}(hi:i<m.length):(m.map V.int)[i]?=some (.int (m.getD i 0)):=by rw[ai6,ajb,aiG hi];rfl
theorem CJ (W:ah8)(i:Nat):∀d,(j5 W i).length<=(j5 W (i+d)).length
 |0=>aiN _
 |d+1=>by
  rw[←arA,fQ,aiZ]
  exact ajt (CJ W i d) (anr _ _)
theorem Qs {W:ah8}{H H':ag4}{ps:List aiM}(h:∀i p,ps[i]?=some p->ahi H p (.dT (flag W) (toV (bu W i))))(e:aC H H'):∀i p,ps[i]?=some p->ahi H' p (.dT (flag W) (toV (bu W i))):=fun i p hp=>by
 rcases h i p hp with z|⟨o,z⟩
 .exact .inl (e _ _ z)
 .exact .inr ⟨o,e _ _ z⟩
theorem ZP (L:List (bh×Int)):(toV L).map (·.1)=fK L:=by unfold toV fK;rw[ajG];rfl
theorem IV (k:bh):∀kvs:List (bh×V),(ud kvs k).isSome=decide (k∈kvs.map (·.1))
 |[]=>rfl
 |p::r=>by
  by_cases c:p.1=k
  ·rw[pJ c,aiQ (ai'.mpr ⟨p,.head _,c⟩)]
   rfl
  ·rw[pK c,IV k r,ajD,decide_eq_true_eq,decide_eq_true_eq,ajd,ai3]
   exact⟨.inr,fun h=>h.elim (fun e=>ai8 e.symm c) id⟩
theorem VV {k:bh}{v:V}{kvs:List (bh×V)}(y:bh):y∈(putK kvs k v).map (·.1)↔y=k∨y∈kvs.map (·.1):=by
 refine⟨Za,fun h=>?_⟩;unfold putK;split
 .rename_i c;rw[akl]at c;obtain⟨p,hp,hc⟩:=c;have hm:∀z∈kvs.map (·.1),z∈(kvs.map fun kv=>if kv.1=k then(kv.1,v)else kv).map (·.1):=fun z hz=>by obtain⟨u,hu,rfl⟩:=ai'.mp hz;refine ai'.mpr ⟨_,ai'.mpr ⟨u,hu,rfl⟩,?_⟩;split<;>rfl
  rcases h with rfl|h
  .exact hm _ (ai'.mpr ⟨p,hp,ai9 hc⟩)
  .exact hm _ h
 .rw[ajf,ai1];rcases h with rfl|h
  .exact .inr (ai5.mpr rfl)
  .exact .inl h
theorem abX {k:bh}{v:V}{kvs:List (bh×V)}:(putK kvs k v).length<=kvs.length+1:=by
 unfold putK;split
 .rw[aiJ];lia
 .rw[aiZ];exact aiN _
structure abY (W:ah8)(xs:List ahx)(kvs:List (bh×V)):Prop where
 keys:∀k,k∈kvs.map (·.1)↔(flag W,k)∈xs
 all:∀x∈xs,stand W x=true
theorem ZQ {W:ah8}{xs:List ahx}{kvs:List (bh×V)}(h:abY W xs kvs)(hk:dN W.kd)(hb:cj W∈kvs.map (·.1))(hc:∀k∈kvs.map (·.1),∀x∈aW W k,x.2∈kvs.map (·.1)):fX W xs=true:=by unfold fX;rw[aiR,aiR,ajB,ajB];refine⟨⟨h.all,aiQ ((h.keys _).mp hb)⟩,fun x hx=>?_⟩;rw[ajB];intro y hy;have hf:=qT hk (h.all x hx);have:x.2∈kvs.map (·.1):=(h.keys _).mpr (by rw[←hf];exact hx);exact aiQ ((h.keys _).mp (hc _ this y hy))
theorem Hg {W:ah8}{xs:List ahx}{x:ahx}(hx:x∈xs)(h:stand W x=false):fX W xs=false:=by
 cases e:fX W xs with
 |false=>rfl
 |true=>unfold fX at e;rw[aiR,aiR,ajB]at e;rw[e.1.1 x hx]at h;cases h
theorem V0 {W:ah8}{xs:List ahx}{kvs:List (bh×V)}(h:abY W xs kvs)(hb:cj W∉kvs.map (·.1)):fX W xs=false:=by
 cases e:fX W xs with
 |false=>rfl
 |true=>unfold fX at e;rw[aiR,aiR]at e;exact ai8 ((h.keys _).mpr (ai9 e.1.2)) hb
theorem V1 {W:ah8}{xs:List ahx}{kvs:List (bh×V)}(h:abY W xs kvs){k:bh}(hk:k∈kvs.map (·.1)){x:Nat×bh}(hx:x∈aW W k)(hn:x.2∉kvs.map (·.1)):fX W xs=false:=by
 cases e:fX W xs with
 |false=>rfl
 |true=>unfold fX at e;rw[aiR,ajB]at e;have:=e.2 _ ((h.keys _).mp hk);rw[ajB]at this;exact ai8 ((h.keys _).mpr (ai9 (this x hx))) hn
theorem afY {A:ajO}{k:Nat}(hr:jl k A):A.units+30<ak8:=by have:=hr.units;lia
theorem ZR:akf ("any":Str)=some (ak9 "any"):=by rfl
theorem ad3:akf ("set":Str)=some (aj9 "set"):=by rfl
def ZS (C:aiM):Sp:=fun vs H Q _=>∃(x:aiM) (W:ah8) (S:Nat) (mv:V) (B:Bool) (m:List Int),vs=[.ref x,.int S,mv]∧WalkAt C H x W∧BW W∧S<2^W.n∧MV B H m mv∧m.length<=20∧∀H',aC H H'->Q (.bl (zy W B ((S:Int),m))) H'
def ZV (C:aiM):Sp:=fun vs H Q _=>∃(x q:aiM) (W:ah8) (B:Bool) (k:bh),vs=[.ref x,.ref q]∧WalkAt C H x W∧BW W∧aY B H k q∧k.2.length<=20∧∀H',aC H H'->Q (.bl (stand W (B,k))) H'
def Hh (C:aiM):Sp:=fun vs H Q _=>∃(x a:aiM) (W:ah8) (d:Nat) (L:List (bh×Int)),vs=[.ref x,.ref a]∧WalkAt C H x W∧BW W∧H a=some (.dT (flag W) (toV L))∧G3 W (d+1) L∧L.length<=10000∧∀p H',H p=none->aC (mask a H) H'->ahi H' a (.dT (flag W) (toV L))->H' p=some (.dT (flag W) (toV (bD W [] L)))->Q (.ref p) H'
def ZW (W:ah8)(H:ag4)(ps:List aiM):Prop:=∀i p,ps[i]?=some p->ahi H p (.dT (flag W) (toV (bu W i)))
def Hi (C:aiM):Sp:=fun vs H Q _=>∃(x:aiM) (W:ah8),vs=[.ref x]∧WalkAt C H x W∧BW W∧∀l ps H',aC H H'->H' l=some (.lst (ps.map V.ref))->ps.length=W.n+1->ZW W H' ps->H l=none->(∀p∈ps,H p=none)->Q (.ref l) H'
def vY (W:ah8)(H:ag4)(l:aiM):Prop:=∃ys:Iv,H l=some (.lst (refs ys))∧nO (flag W) H ys∧Srt (ys.map (·.1))∧(ys.map (·.1)).Perm (j5 W (W.n+1))
def Uj (A:ahz):Sp:=fun vs H Q E=>∃(v:V) (n:Int) (ts:List (List Int)) (kd:Str) (bd:Int),vs=[v,.str kd,.int bd]∧Ask A H v n ts kd bd E∧
 (bN n ts=true->dN kd->0<=bd->bd<=1000000->(bd=0->∀l H',aC H H'->H' l=some (.lst [])->Q (.ref l) H')∧
  (0<bd->rG n.toNat ts kd (bd-1)≠[]->∀H',aC H H'->Q .non H')∧(0<bd->rG n.toNat ts kd (bd-1)=[]->∀l H',aC H H'->vY ⟨n.toNat,ts,kd,bd-1⟩ H' l->Q (.ref l) H'))
def LC (A:ahz):Sp:=fun vs H Q E=>∃(v:V) (n:Int) (ts:List (List Int)) (kd:Str) (bd:Int) (l:aiM) (ms:ML_),vs=[v,.str kd,.int bd,.ref l]∧Ask A H v n ts kd bd E∧H l=some (.lst (cu ms))∧sE H ms∧ms.length<=300∧(∀x∈ms,x.1.2.2.length<=20)∧(bN n ts=true->dN kd->0<=bd->bd<=1000000->∀H',aC H H'->Q (.bl (decide (bd=0)||fX ⟨n.toNat,ts,kd,bd-1⟩ (ms.map (·.1)))) H')
end My
namespace My
open PySem L2 PySem.Spec PyProof.Rows
variable{A:ahz}
noncomputable def isAt (p:Int):List Int->Bool
 |[a,b,_]=>decide (a=p)||decide (b=p)
 |_=>false
noncomputable def oth (p:Int):List Int->Int
 |[a,b,_]=>a+b-p
 |_=>0
noncomputable def cQ (ts:List (List Int))(p:Int):List Int:=(ts.filter (isAt p)).map (oth p)
theorem CK {n:Nat}{ts:List (List Int)}(ht:∀t∈ts,cJ n t=true){p:Nat}(x:Int):x∈cQ ts p↔∃q:Nat,q<n∧x=q∧qM ts p q:=by
 unfold cQ;rw[ai'];constructor
 .rintro⟨t,h1,rfl⟩;obtain⟨h1,h2⟩:=aks.mp h1;obtain⟨a,b,c,rfl,g1,g2,g3,g4,_⟩:=bB (ht t h1);have h2:(decide (a=(p:Int))||decide (b=(p:Int)))=true:=h2;rw[aoU,decide_eq_true_eq,decide_eq_true_eq]at h2;rcases h2 with rfl|rfl
  .refine⟨b.toNat,by lia,?_,c,.inl ?_⟩
   .show(p:Int)+b-p=_;lia
   .rw[show((b.toNat:Nat):Int)=b by lia];exact h1
  .refine⟨a.toNat,by lia,?_,c,.inr ?_⟩
   .show a+(p:Int)-p=_;lia
   .rw[show((a.toNat:Nat):Int)=a by lia];exact h1
 .rintro⟨q,hq,rfl,c,h|h⟩
  .refine⟨_,aks.mpr ⟨h,?_⟩,?_⟩
   .show(decide ((p:Int)=p)||_)=true;rw[aiQ rfl];rfl
   .show(p:Int)+q-p=q;lia
  .refine⟨_,aks.mpr ⟨h,?_⟩,?_⟩
   .show(_||decide ((p:Int)=p))=true;rw[aiQ rfl,auQ]
   .show(q:Int)+p-p=q;lia
theorem LK {W:ah8}(ahf:BW W){p:Nat}(hp:p<W.n)(f:Nat->Bool):((cQ W.ts p).any fun x=>f x.toNat)=(aiY 5).any fun q=>bit (nb W.ts p) q&&f q:=by
 have hn:=ahf.n5;have ht:=rU ahf.JG;obtain⟨b1,b2⟩:=qN hn hp (Iz ahf.JG);rw[ajD,akl,akl];constructor
 .rintro⟨x,hx,h⟩;obtain⟨q,hq,rfl,hT⟩:=(CK ht x).mp hx;rw[ai4]at h;exact⟨q,ajs.mpr (by lia),by rw[(b2 q hq).mpr hT,h];rfl⟩
 .rintro⟨q,hq,h⟩;rw[aiR]at h;have hqn:q<W.n:=by
   by_cases e:q<W.n
   .exact e
   .rw[jt (ajv b1 (aj5 (by decide) (by lia)))]at h;cases h.1
  exact⟨q,(CK ht _).mpr ⟨q,hqn,rfl,(b2 q hqn).mp h.1⟩,by rw[ai4];exact h.2⟩
theorem Qt {f g:Nat->Bool}(h:∀q,q<5->f q=g q):(aiY 5).any f=(aiY 5).any g:=by
 rw[ajD,akl,akl];constructor
 .rintro⟨q,hq,z⟩;exact⟨q,hq,by rw[←h q (ajs.mp hq)];exact z⟩
 .rintro⟨q,hq,z⟩;exact⟨q,hq,by rw[h q (ajs.mp hq)];exact z⟩
theorem Qu {W:ah8}(ahf:BW W){p:Nat}(hp:p<W.n){S:Nat}(hS:S<32){m:List Int}(aiu:∀p∈m,0<=p∧p<5):((cQ W.ts p).any fun x=>bit S x.toNat&&!decide (((x.toNat:Nat):Int)∈m))=clash (nb W.ts p) (less S (pY m)):=by rw[LK ahf hp fun q=>bit S q&&!decide ((q:Int)∈m)];unfold clash;refine Qt fun q hq=>?_;rw[vO S hS _ (qK aiu) q hq,vP aiu hq]
theorem LQ {W:ah8}(ahf:BW W){p:Nat}(hp:p<W.n)(S:Nat):((cQ W.ts p).any fun x=>!bit S x.toNat)=iJ (nb W.ts p) S:=LK ahf hp fun q=>!bit S q
theorem Uk {n:Nat}{ts:List (List Int)}(ht:∀t∈ts,cJ n t=true){p:Nat}{x:Int}(h:x∈cQ ts p):0<=x∧x<n:=by obtain⟨q,hq,rfl,_⟩:=(CK ht x).mp h;lia
theorem LR (ts:List (List Int))(p:Int):(cQ ts p).length<=ts.length:=by unfold cQ;rw[aiJ];exact alA _ _
theorem Ma {S a:Nat}:decide (V.int ((S/2^a %2:Nat):Int)=V.int 0)=!bit S a:=by
 have h1:S/2^a %2<2:=anf _ (by decide);have hc:S/2^a %2=0∨S/2^a %2=1:=by lia
 unfold bit;rcases hc with hc|hc
 .rw[hc];exact aiQ rfl
 .rw[hc];exact aiO fun z=>by cases z
theorem Mf {ts:List (List Int)}{p:Int}{i:Nat}(h:i<(cQ ts p).length):(cQ ts p).getD i 0∈cQ ts p:=by rw[ajb,aiG h];exact ajT h
theorem CN (f:Nat->Bool)(n:Nat):((aiY n).map f).any id=(aiY n).any f:=by rw[List.any_map];rfl
theorem p32 (m:Nat)(hm:m<=5):(0:Int)<((2^m:Nat):Int)∧((2^m:Nat):Int)<1073741824:=by have z1:=two_pos m;have z2:2^m<=2^5:=aj5 (by decide) hm;exact⟨auT.mpr z1,apr (aqt.mpr z2) (by decide)⟩
theorem acP {p:Prop}[Decidable p]{X Y:Prop}(h1:¬p->X)(h2:p->Y):if(!decide p)=true then X else Y:=by
 by_cases c:p
 .rw[aiQ c];exact cN (h2 c)
 .rw[aiO c];exact dY (h1 c)
def ZX:Sp:=fun vs H Q _=>∃(v:V) (n:Nat) (ts:List (List Int)) (p:Nat),vs=[v,.int p]∧Dat H (rJ n ts) v∧bN n ts=true∧j0 n ts∧∀l H',aC H H'->H' l=some (.lst ((cQ ts p).map .int))->Q (.ref l) H'
structure IW (W:ah8)(H:ag4)(v:V):Prop where
 ahf:BW W
 dat:Dat H (rJ W.n W.ts) v
 win:j0 W.n W.ts
theorem IW.mono {W:ah8}{H H':ag4}{v:V}(h:IW W H v)(e:aC H H'):IW W H' v:=⟨h.ahf,h.dat.mono e,h.win⟩
def Ul:Sp:=fun vs H Q _=>∃(v:V) (W:ah8) (q:aiM) (k:bh) (d p:Nat),vs=[v,.str W.kd,.int W.bd,.ref q,.int p]∧IW W H v∧aY (flag W) H k q∧Er W d k∧p<W.n∧bit k.1.toNat p=false∧(stepK W k p=none->∀H',aC H H'->Q .non H')∧∀k',stepK W k p=some k'->∀q' H',aC H H'->aY (flag W) H' k' q'->Q (.ref q') H'
def Qv:Sp:=fun vs H Q _=>∃(v:V) (W:ah8) (q:aiM) (k:bh) (d:Nat),vs=[v,.str W.kd,.int W.bd,.ref q]∧IW W H v∧aY (flag W) H k q∧Er W d k∧∀l ys H',H l=none->aC H H'->H' l=some (.lst (refs ys))->nO (flag W) H' ys->ys.map (·.1)=(aW W k).map (·.2)->Q (.ref l) H'
def ZZ:Sp:=fun vs H Q _=>∃(v:V) (W:ah8),vs=[v,.str W.kd,.int W.bd]∧IW W H v∧rows W (cj W) W.n=[]∧∀l H',aC H H'->vY W H' l->Q (.ref l) H'
noncomputable def uQ (W:ah8)(x:ahx):Bool:=(decide (0<=x.2.1)&&decide (x.2.1<((2^W.n:Nat):Int)))&&zy W x.1 x.2
def acQ:Sp:=fun vs H Q _=>∃(v:V) (W:ah8) (q:aiM) (B:Bool) (k:bh),vs=[v,.str W.kd,.ref q]∧IW W H v∧aY B H k q∧k.2.length<=20∧∀H',aC H H'->Q (.bl (uQ W (B,k))) H'
theorem Z0 (W:ah8)(x:ahx):stand W x=(uQ W x&&!decide (x.2.1=((2^W.n:Nat):Int)-1)):=by
 unfold stand uQ;generalize zy W x.1 x.2=m;have:decide (x.2.1<=((2^W.n:Nat):Int)-2)=(decide (x.2.1<((2^W.n:Nat):Int))&&!decide (x.2.1=((2^W.n:Nat):Int)-1)):=by rw[ajD,aiR,decide_eq_true_eq,decide_eq_true_eq];simp only[Bool.not_eq_true',decide_eq_false_iff_not];omega
 rw[this];cases decide (0<=x.2.1)<;>cases decide (x.2.1<((2^W.n:Nat):Int))<;>cases decide (x.2.1=((2^W.n:Nat):Int)-1)<;>cases m<;>rfl
def Um:Sp:=fun vs H Q _=>∃(v:V) (W:ah8) (bd:Int) (l:aiM) (ms:ML_),vs=[v,.str W.kd,.int bd,.ref l]∧W.bd=bd-1∧(0<bd->IW W H v)∧H l=some (.lst (cu ms))∧sE H ms∧ms.length<=300∧(∀x∈ms,x.1.2.2.length<=20)∧0<=bd∧∀H',aC H H'->Q (.bl (decide (bd=0)||fX W (ms.map (·.1)))) H'
def Un:Sp:=fun vs H Q _=>∃(l ah5:aiM) (ms:ML_) (nm:Int) (ah6:Bool) (kw:bh),vs=[.ref l,.int nm,.ref ah5]∧H l=some (.lst (cu ms))∧sE H ms∧ms.length<=200∧(∀x∈ms,x.1.2.2.length<=5)∧aY ah6 H kw ah5∧kw.2.length<=5∧0<=nm∧∀l' yU H',aC H H'->H' l'=some (.lst (cu yU))->sE H' yU->yU.length<=300->(∀x∈yU,x.1.2.2.length<=20)->Q (.ref l') H'
end My
namespace My
open PySem L2 PySem.Spec PyProof.Rows
theorem Z1 {X:aif}{e0 ei e1 e2 e3 e4 e5 e6:akb}{t0 ti t1 t2 t3 t4 t5 ahv:TE}{p1 p2 p3 p4:Pos}(h0:PE X e0 t0)(hi:PE X ei ti)(hp:S5 ei)(h1:PE X e1 t1)(s1:∀es,ajF (e1::es) X.env=(false,alg e1 X.env)::ajF es X.env)(h2:PE X e2 t2)(s2:∀es,ajF (e2::es) X.env=(false,alg e2 X.env)::ajF es X.env)(h3:PE X e3 t3)(s3:∀es,ajF (e3::es) X.env=(false,alg e3 X.env)::ajF es X.env)(h4:PE X e4 t4)(s4:∀es,ajF (e4::es) X.env=(false,alg e4 X.env)::ajF es X.env)(h5:PE X e5 t5)(s5:∀es,ajF (e5::es) X.env=(false,alg e5 X.env)::ajF es X.env)(h6:PE X e6 ahv)(aht:∀es,ajF (e6::es) X.env=(false,alg e6 X.env)::ajF es X.env):PE X (.BinOp e0 .Add (.List [.Subscript (.List [e1,e2,e3,e4,e5,e6] p1) ei p2] p3) p4) (tOp aeI t0 (ac4 (yS (tOp (aeE X.K) (ac4 (yS t1 (yS t2 (yS t3 (yS t4 (yS t5 (yS ahv Xx))))))) ti) Xx))):=aG pg h0 (bQ (aa (bA dX (bQ (aa h1 (aa h2 (aa h3 (aa h4 (aa h5 (aa h6 aj (aht _)) (s5 _)) (s4 _)) (s3 _)) (s2 _)) (s1 _))) hi hp) aj))
theorem Uo {B:Bool}{H:ag4}{k:bh}{v:V}(h:Dat H (m8 (B,k)) v)(ok:Ly (B,k)):∃q,v=.ref q∧aY B H k q:=by
 obtain⟨i,l⟩:=k;cases B with
 |true=>obtain⟨m,hm⟩:=ok rfl;have hm:l=[m]:=hm;subst hm;rw[Cz]at h;obtain⟨q,xs,rfl,hq,dl⟩:=h.dF;obtain⟨y,ys,rfl,d1,dl⟩:=bC.dM dl;obtain⟨z,zs,rfl,d2,dl⟩:=bC.dM dl;rw[d1.g8,d2.g8,dl.mH]at hq;exact⟨q,rfl,m,rfl,hq⟩
 |false=>rw[CG]at h;obtain⟨q,xs,rfl,hq,dl⟩:=h.dF;obtain⟨y,ys,rfl,d1,dl⟩:=bC.dM dl;obtain⟨z,zs,rfl,d2,dl2⟩:=bC.dM dl;obtain⟨c,rfl,hc⟩:=d2.Bp;rw[d1.g8,dl2.mH]at hq;exact⟨q,rfl,c,hq,hc⟩
theorem aY.mask {B:Bool}{H:ag4}{k:bh}{q a:aiM}{xs:List V}(h:aY B H k q)(ha:H a=some (.lst xs)):aY B (mask a H) k q:=h.stay fun b ys e=>by rw[mO fun z=>by rw[z,ha]at e;cases e];exact e
theorem I2 {B:Bool}{H:ag4}:∀{ks:List bh} {xs:List V},bC H (ks.map fun k=>m8 (B,k)) xs->(∀k∈ks,Ly (B,k))->∃ys:Iv,xs=refs ys∧nO B H ys∧ys.map (·.1)=ks
 |[],xs,h,_=>⟨[],h.mH,fun _ hx=>ai8 hx aiX,rfl⟩
 |k::ks,xs,h,ok=>by
  obtain⟨y,zs,rfl,d,t⟩:=bC.dM h
  obtain⟨q,rfl,hq⟩:=Uo d (ok k (.head _))
  obtain⟨ys,rfl,h1,h2⟩:=I2 t fun k hk=>ok k (.tail _ hk)
  refine⟨(k,q)::ys,rfl,fun x hx=>?_,by rw[ajd,h2]⟩
  rcases ai3.mp hx with rfl|hx
  ·exact hq
  ·exact h1 x hx
noncomputable def Z2 (B:Bool):Option bh->akm
 |none=>.none
 |some k=>m8 (B,k)
theorem range_getD {α:Type}(l:List α)(z:α):(aiY l.length).map (fun i=>l.getD i z)=l:=by
 apply asC;intro i;rw[ai6];by_cases h:i<l.length
 .rw[al1 h,aiG h];show some (l.getD i z)=_;rw[ajb,aiG h];rfl
 .rw[aot (by rw[ajZ];lia),aot (by lia)];rfl
theorem Mg {α β:Type}(l:List α)(z:α)(c:α->Bool)(d:α->β):((aiY l.length).filter fun i=>c (l.getD i z)).map (fun i=>d (l.getD i z))=(l.filter c).map d:=by have h:=range_getD l z;generalize hm:aiY l.length=r at h;rw[←h,aoT,ajG];rw[h];rfl
theorem Z3 {α β:Type}(l:List α)(z:α)(d:α->β):(aiY l.length).map (fun i=>d (l.getD i z))=l.map d:=by have h:=range_getD l z;generalize hm:aiY l.length=r at h;rw[←h,ajG,h];rfl
theorem CP (B:Bool)(f:Nat->Option bh):∀l:List Nat,((l.filter fun p=>(f p).isSome).map fun p=>Z2 B (f p))=(l.filterMap f).map fun k=>m8 (B,k)
 |[]=>rfl
 |p::l=>by
  rw[amJ,ajN]
  cases e:f p with
  |none=>exact CP B f l
  |some k=>
   show((p::l.filter _).map _)=_
   rw[ajd,CP B f l,e]
   rfl
theorem Qw (W:ah8)(k:bh):((aiY W.n).filter fun p=>!bit k.1.toNat p).filterMap (stepK W k)=(aW W k).map (·.2):=by
 unfold aW gf;rw[List.filterMap_filter,ar0];congr 1;funext p;cases h:bit k.1.toNat p with
 |true=>
  have:stepK W k p=none:=by unfold stepK;rw[aiP h]
  rw[this];rfl
 |false=>cases stepK W k p<;>rfl
theorem CQ {W:ah8}(hn:W.n<=5){d:Nat}{k:bh}(ok:Er W d k){x:Nat×bh}(hx:x∈aW W k):Ly (flag W,x.2):=fun e=>by obtain⟨h1,h2⟩:=m7 hx;obtain⟨e',_,ok'⟩:=ok.step hn h1 h2;exact ok'.tot (ai9 e)
theorem Mh (W:ah8)(k:bh):((aW W k).map (·.2)).Nodup:=by
 unfold aW gf;rw[ar0];refine aqb (R:=fun a b:Nat=>a≠b) (S:=fun a b:bh=>a≠b) _ (fun a b hab x hx y hy e=>?_) aqa;subst e;have one:∀p,(au9 (·.2) ((stepK W k p).map fun k'=>(p,k')):Option bh)=some x->x.1=((k.1.toNat+2^p:Nat):Int):=fun p hp=>by
  cases h:stepK W k p with
  |none=>rw[h]at hp;cases hp
  |some k'=>rw[h]at hp;cases hp;exact(m6 h).2.1▸rfl
 have h1:=one a hx;have h2:=one b hy;have h3:2^a=2^b:=by lia
 exact hab ((Nat.pow_right_inj (by decide)).mp h3)
theorem V2 {W:ah8}(hn:W.n<=5){k:bh}(h:Reach W k):Ly (flag W,k):=fun e=>by obtain⟨d,ok⟩:=xR hn h;exact ok.tot (ai9 e)
theorem ae7 {B:Bool}{ks:List bh}{k:bh}(hk:∀x∈ks,Ly (B,x))(h:Ly (B,k)):((ks.map fun x=>m8 (B,x)).any fun d=>akn d (m8 (B,k)))=decide (k∈ks):=by
 have:=Qo (xs:=ks.map fun x=>(B,x)) (y:=(B,k)) (fun x hx=>by obtain⟨z,hz,rfl⟩:=ai'.mp hx;exact hk z hz) h
 rw[ajG]at this;rw[show(ks.map fun x=>m8 (B,x))=ks.map (m8∘fun x=>(B,x))from rfl,this,ajD,decide_eq_true_eq,decide_eq_true_eq,ai'];exact⟨fun⟨z,hz,e⟩=>by cases e;exact hz,fun h=>⟨k,h,rfl⟩⟩
theorem nO.dat {B:Bool}{H:ag4}:∀{xs:Iv},nO B H xs->bC H ((xs.map (·.1)).map fun k=>m8 (B,k)) (refs xs)
 |[],_=>.nil
 |x::xs,h=>.cons (aY.dat (h x (.head _))) (nO.dat fun y hy=>h y (.tail _ hy))
theorem Up (n S:Nat):left n S<=n:=by unfold left;exact ajt (alA _ _) (by rw[ajZ];exact aiN _)
theorem CT {W:ah8}{σ:L2.St}{H:ag4}{R:V->ag4->Prop}(go:∀mv H1,aC H H1->MV (flag W) H1 (cj W).2 mv->R mv H1):if decide (V.str W.kd=V.str "total")=true then ah0 (.int 0) σ H R else aez Xx σ H R:=by
 refine nH (fun c=>?_) fun c=>⟨ajW _,fun r hr=>?_⟩
 .have c:=V.str.inj c;refine go _ _ (aC.refl _) ?_;rw[uK c];exact⟨0,by unfold cj;rw[aiP c],rfl⟩
 .have c:¬W.kd="total":=fun z=>c (congrArg V.str z);obtain⟨s1,n1⟩:=au (o:=.tup []) hr;refine go _ _ s1 ?_;rw[xK c];exact⟨r,rfl,by rw[n1];unfold cj;rw[aiL c];rfl⟩
theorem Uq {W:ah8}{H:ag4}{v:V}{q:aiM}(h:MV (flag W) H (cj W).2 v)(hq:H q=some (.tup [.int 0,v])):aY (flag W) H (cj W) q:=h.key hq
theorem Z4 {W:ah8}{xs:List ahx}(hb:(flag W,cj W)∉xs):fX W xs=false:=by
 cases e:fX W xs with
 |false=>rfl
 |true=>unfold fX at e;rw[aiR,aiR]at e;exact ai8 (ai9 e.1.2) hb
theorem Z5 {W:ah8}{xs:List ahx}{x:ahx}(hx:x∈xs)(h:((aW W x.2).all fun y=>decide ((flag W,y.2)∈xs))=false):fX W xs=false:=by
 cases e:fX W xs with
 |false=>rfl
 |true=>unfold fX at e;rw[aiR,ajB]at e;rw[e.2 x hx]at h;cases h
theorem Z6 {W:ah8}{xs:List ahx}(h1:∀x∈xs,stand W x=true)(h2:(flag W,cj W)∈xs)(h3:∀x∈xs,((aW W x.2).all fun y=>decide ((flag W,y.2)∈xs))=true):fX W xs=true:=by unfold fX;rw[aiR,aiR,ajB,ajB];exact⟨⟨h1,aiQ h2⟩,h3⟩
theorem ae8 {p1 p2 p3 p4 p5 aic:V}{i:Int}{Z:V->Prop}(h0:0<=i)(h7:i<6)(z1:Z p1)(z2:Z p2)(z3:Z p3)(z4:Z p4)(z5:Z p5)(agx:Z aic):∃v,Ek [p1,p2,p3,p4,p5,aic] i=some v∧Z v:=by
 have:i=0∨i=1∨i=2∨i=3∨i=4∨i=5:=by lia
 rcases this with rfl|rfl|rfl|rfl|rfl|rfl
 .exact⟨p1,rfl,z1⟩
 .exact⟨p2,rfl,z2⟩
 .exact⟨p3,rfl,z3⟩
 .exact⟨p4,rfl,z4⟩
 .exact⟨p5,rfl,z5⟩
 .exact⟨aic,rfl,agx⟩
theorem ad4 {K:aiU}{H:ag4}{a:aiM}{xs:List V}{Q:ahY}(ha:H a=some (.tup xs))(hz:xs.length+xs.length<=aiV)(h:∀la H2,aC H H2->H2 la=some (.tup (xs++xs))->Q (.ref la) H2):Pz K (.ref a) (.ref a) H Q:=by
 by_cases c:xs=[]
 .subst c;exact .inl ⟨a,a,[],rfl,rfl,cD.of ha,cD.of ha,h a H (aC.refl _) ha⟩
 .exact Ih (cD.of ha) ha c hz h
def Mi (A:ahz):Sp:=fun vs H Q _=>∃(way:Int) (v:V) (n:Int) (ts:List (List Int)) (kd:Str) (bd:Int) (l:aiM) (ms:ML_),vs=[.int way,v,.str kd,.int bd,.ref l]∧Dat H (rJ n ts) v∧j0 n ts∧(bN n ts=true->n<=5)∧kd.length<=1000∧(∀c∈kd.cps.toList,c<16^8)∧
 H l=some (.lst (cu ms))∧sE H ms∧ms.length<=300∧(∀x∈ms,x.1.2.2.length<=20)∧(bN n ts=false->∀H',aC H H'->Q (.str "web") H')∧(bN n ts=true->¬(dN kd∧0<=bd∧bd<=1000000)->∀H',aC H H'->Q (.str "kind") H')∧
 (bN n ts=true->dN kd->0<=bd->bd<=1000000->(way=0->(bd=0->∀l H',aC H H'->H' l=some (.lst [])->Q (.ref l) H')∧
  (0<bd->rG n.toNat ts kd (bd-1)≠[]->∀H',aC H H'->Q .non H')∧(0<bd->rG n.toNat ts kd (bd-1)=[]->∀l H',aC H H'->vY ⟨n.toNat,ts,kd,bd-1⟩ H' l->Q (.ref l) H'))∧
  (way≠0->∀H',aC H H'->Q (.bl (decide (bd=0)||fX ⟨n.toNat,ts,kd,bd-1⟩ (ms.map (·.1)))) H'))
theorem ad5 {X:aif}{s1 s2 s3 s4 s5 aht agD ahS:akM}{post:List akM}{D:Ends}{Vb:L2.St}{H0:ag4}(G:L2.St->ag4->Prop)(hpost:∃t,zU X post t∧∀σ H,G σ H->t D σ H)(hpre:∀t,zU X post t->(∀σ H,G σ H->t D σ H)->∃u,zU X (s1::s2::s3::s4::s5::aht::agD::ahS::post) u∧u D Vb H0):∃u,zU X (s1::s2::s3::s4::s5::aht::agD::ahS::post) u∧u D Vb H0:=by obtain⟨t,h,g⟩:=hpost;exact hpre t h g
theorem ad6 {X:aif}{s1 s2:akM}{post:List akM}{D:Ends}{G':L2.St->ag4->Prop}(G:L2.St->ag4->Prop)(hpost:∃t,zU X post t∧∀σ H,G σ H->t D σ H)(hpre:∀t,zU X post t->(∀σ H,G σ H->t D σ H)->∃u,zU X (s1::s2::post) u∧∀σ H,G' σ H->u D σ H):∃u,zU X (s1::s2::post) u∧∀σ H,G' σ H->u D σ H:=by obtain⟨t,h,g⟩:=hpost;exact hpre t h g
theorem ad7 {X:aif}{s1 s2 s3:akM}{post:List akM}{D:Ends}{G':L2.St->ag4->Prop}(G:L2.St->ag4->Prop)(hpost:∃t,zU X post t∧∀σ H,G σ H->t D σ H)(hpre:∀t,zU X post t->(∀σ H,G σ H->t D σ H)->∃u,zU X (s1::s2::s3::post) u∧∀σ H,G' σ H->u D σ H):∃u,zU X (s1::s2::s3::post) u∧∀σ H,G' σ H->u D σ H:=by obtain⟨t,h,g⟩:=hpost;exact hpre t h g
structure LS (H:ag4)(wa:aiM)(N:Nat)(ts:List (List Int))(kd:Str)(M:Int):Prop where
 dat:Dat H (rJ N ts) (.ref wa)
 JG:bN N ts=true
 win:j0 N ts
 n5:N<=5
 kk:dN kd
 low:∀os,dG N os=true->M<=ju kd N os ts
 at_:∃os,dG N os=true∧ju kd N os ts=M
 m0:0<=M
 m1:M<=100000
theorem LS.mono {H H':ag4}{wa:aiM}{N:Nat}{ts:List (List Int)}{kd:Str}{M:Int}(h:LS H wa N ts kd M)(e:aC H H'):LS H' wa N ts kd M:=⟨h.dat.mono e,h.JG,h.win,h.n5,h.kk,h.low,h.at_,h.m0,h.m1⟩
theorem LS.ad8 {H:ag4}{wa:aiM}{N:Nat}{ts:List (List Int)}{kd:Str}{M b:Int}(h:LS H wa N ts kd M)(hb:0<=b):IW ⟨N,ts,kd,b⟩ H (.ref wa):=⟨⟨h.n5,h.JG,h.kk,hb⟩,h.dat,h.win⟩
theorem LS.good {H:ag4}{wa:aiM}{N:Nat}{ts:List (List Int)}{kd:Str}{M b:Int}(h:LS H wa N ts kd M):rG N ts kd b=[]↔¬M<=b:=by
 constructor
 .intro z y;obtain⟨os,h1,h2⟩:=h.at_;have:os∈rG N ts kd b:=K4.mpr ⟨h1,by lia⟩;rw[z]at this;cases this
 .intro z;cases e:rG N ts kd b with
  |nil=>rfl
  |cons os r=>
   have hm:os∈rG N ts kd b:=by rw[e];exact .head _
   obtain⟨h1,h2⟩:=K4.mp hm;have:=h.low os h1;lia
theorem V3 {W:ah8}(hn:W.n<=5){k:bh}(h:Reach W k):k.2.length<=5:=by
 have:k.2.length<=1∨((k.2.length:Int)<=W.bd∧W.bd<(W.n:Int)-1):=by
  induction h with
  |beg=>
   refine .inl ?_;unfold cj;split
   .exact aiN _
   .exact ajW _
  |step hr hx ih=>
   obtain⟨h1,h2⟩:=m7 hx;obtain⟨_,_,e2⟩:=m6 h2;unfold jh at e2;split at e2
   .unfold pZ at e2;split at e2
    .rw[←ajn e2];exact .inl (ajW _)
    rename_i c0;split at e2
    .cases e2
    split at e2
    .rename_i c1;rw[←ajn e2,aiZ];exact .inr ⟨c1,by lia⟩
    split at e2
    .cases e2
    .rw[←ajn e2,asW,aiZ];exact ih
   .split at e2
    .split at e2
     .rw[←ajn e2];exact .inl (aiN _)
     .cases e2
    .split at e2
     .rw[←ajn e2];exact .inl (ajW _)
     .cases e2
 lia
theorem ad9 (x:ahx):(m8 x).depth<=2:=by
 obtain⟨B,i,l⟩:=x;cases B with
 |true=>rw[Cz];simp[an7,akP]
 |false=>rw[CG];show max 0 (max (akP (l.map .int)+1) 0)+1<=2;rw[Bx];decide
theorem I3:∀xs:List ahx,am9 (xs.map m8)=true∧akP (xs.map m8)<=2
 |[]=>⟨rfl,ajW _⟩
 |x::xs=>by
  obtain⟨h1,h2⟩:=I3 xs
  refine⟨?_,?_⟩
  ·show((m8 x).canLay0&&am9 (xs.map m8))=true
   rw[(xT x).1,h1]
   rfl
  ·show max (m8 x).depth (akP (xs.map m8))<=2
   have:=ad9 x
   lia
theorem ad' {W:ah8}(ahf:BW W)(re:rows W (cj W) W.n=[]){H:ag4}{l:aiM}(h:vY W H l):∃ms:ML_,H l=some (.lst (cu ms))∧sE H ms∧ms.length<=200∧∀x∈ms,x.1.2.2.length<=5:=by
 obtain⟨ys,h1,h2,h3,h4⟩:=h;refine⟨ys.map fun x=>((flag W,x.1),x.2),?_,fun x hx=>?_,?_,fun x hx=>?_⟩
 .rw[h1];unfold cu;rw[ajG];rfl
 .obtain⟨y,hy,rfl⟩:=ai'.mp hx;exact h2 y hy
 .have:=h4.length_eq;have h5:=few ahf re;rw[aiJ]at this ⊢;lia
 .obtain⟨y,hy,rfl⟩:=ai'.mp hx;exact V3 ahf.n5 ((Iw ahf.n5 _).mp (h4.mem_iff.mp (ai'.mpr ⟨y,hy,rfl⟩)))
theorem abZ {W:ah8}{H:ag4}{l l':aiM}(h:vY W H l)(h':vY W H l'):∃d:akm,Dat H d (.ref l)∧Dat H d (.ref l')∧d.canLay0=true∧d.depth<=60:=by
 obtain⟨ys,h1,h2,h3,h4⟩:=h;obtain⟨zs,k1,k2,k3,k4⟩:=h';have e:ys.map (·.1)=zs.map (·.1):=ad2 (h4.trans k4.symm) h3 k3;have em:∀ks:List bh,(ks.map fun k=>m8 (flag W,k))=(ks.map fun k=>(flag W,k)).map m8:=fun ks=>by rw[ajG];rfl
 refine⟨.list ((ys.map (·.1)).map fun k=>m8 (flag W,k)),.list h1 (nO.dat h2),?_,?_,?_⟩
 .rw[e];exact .list k1 (nO.dat k2)
 .rw[em];exact(I3 _).1
 .rw[em];show akP _+1<=60;have:=(I3 ((ys.map (·.1)).map fun k=>(flag W,k))).2;lia
theorem vY.mono {W:ah8}{H H':ag4}{l:aiM}(h:vY W H l)(e:aC H H'):vY W H' l:=by obtain⟨ys,h1,h2,h3,h4⟩:=h;exact⟨ys,e _ _ h1,h2.mono e,h3,h4⟩
theorem uR (ns:List Int)(i:Nat):0<=uH ns i:=by unfold uH;exact akZ _ (by decide)
def top (i:Nat):akM:=ajL.main.body.getD i (.Pass ⟨0,0,0,0⟩)
abbrev sG:akM:=top 8
abbrev I4:akM:=top 9
abbrev CV:akM:=top 10
abbrev ph:akM:=top 11
abbrev qW:akM:=top 12
abbrev uT:akM:=top 17
abbrev sH:akM:=top 18
abbrev CW:akM:=top 19
abbrev sI:akM:=top 20
abbrev uU:akM:=top 21
abbrev sJ:akM:=top 22
abbrev qX:akM:=top 26
abbrev nP:akM:=top 27
abbrev CX:akM:=top 28
abbrev I5:akM:=top 29
abbrev I6:akM:=top 30
abbrev uV:akM:=top 32
abbrev xU:akM:=top 33
abbrev xV:akM:=top 34
abbrev pq:akM:=top 35
abbrev uW:akM:=top 36
abbrev nQ:akM:=top 37
abbrev xW:akM:=top 38
abbrev pA:akM:=top 39
abbrev xX:akM:=top 40
abbrev xY:akM:=top 41
abbrev uX:akM:=top 42
abbrev uY:akM:=top 43
abbrev qY:akM:=top 44
abbrev sO:akM:=top 45
abbrev pB:akM:=top 46
abbrev xZ:akM:=top 47
abbrev uZ:akM:=top 48
abbrev u0:akM:=top 49
abbrev Z7:akM:=top 50
abbrev sS:akM:=inClass (top 25) 0
abbrev kh:akM:=inClass (top 25) 1
abbrev kj:akM:=inClass (top 25) 2
abbrev ie:akM:=inClass (top 25) 3
abbrev qZ:akM:=inClass (top 25) 4
abbrev jw:akM:=inClass (top 25) 5
abbrev km:akM:=inClass (top 25) 6
abbrev V4:List aiH:=[.type "ValueError",.type "Exception",.type "BaseException",.type "object"]
set_option genInjectivity false in
set_option genSizeOf false in
structure ahJ where
 fB:aiM
 holds:aiM
 q7:aiM
 d7:aiM
 fU:aiM
 gr:aiM
 cz:aiM
 q8:aiM
 gM:aiM
 jx:aiM
 gO:aiM
 dH:aiM
 dm:aiM
 layers:aiM
 vZ:aiM
 shows:aiM
 jy:aiM
 jz:aiM
 mQ:aiM
 d8:aiM
 jA:aiM
 dq:aiM
 mR:aiM
 d9:aiM
 du:aiM
 mU:aiM
 jB:aiM
 jC:aiM
 dI:aiM
 gP:aiM
 eE:aiM
 mV:aiM
 jD:aiM
 jE:aiM
 law:aiM
 ik:aiM
 dj:aiM
 cg:aiM
 cU:aiM
 cF:aiM
 cV:aiM
 Z8:aiM
 Walk:aiM
 fC:aiM
 bT:aiM
 cG:aiM
 bM:aiM
 dJ:aiM
 bZ:aiM
 cH:aiM
abbrev ahJ.er (A:ahJ):ahz:=⟨A.ik,A.dj,A.cg,A.cU,A.cF,A.cV⟩
set_option genInjectivity false in
set_option genSizeOf false in
structure FD where
 fB:ajA
 holds:ajA
 q7:ajA
 d7:ajA
 fU:ajA
 gr:ajA
 cz:ajA
 q8:ajA
 gM:ajA
 jx:ajA
 gO:ajA
 dH:ajA
 dm:ajA
 layers:ajA
 vZ:ajA
 shows:ajA
 jy:ajA
 jz:ajA
 mQ:ajA
 d8:ajA
 jA:ajA
 dq:ajA
 mR:ajA
 d9:ajA
 du:ajA
 mU:ajA
 jB:ajA
 jC:ajA
 dI:ajA
 gP:ajA
 eE:ajA
 mV:ajA
 jD:ajA
 jE:ajA
 law:ajA
 fC:ajA
 bT:ajA
 cG:ajA
 bM:ajA
 dJ:ajA
 bZ:ajA
 cH:ajA
structure Txt (K:aiU)(mg:Str->Option aiH)(A:ahJ)(D:FD):Prop where
 je:lC K "set_count" "set_count" sG A.fB D.fB
 zz:mg "set_count"=some (.ref A.fB)
 zA:Binds K D.fB ["places"] []
 oV:lC K "holds" "holds" I4 A.holds D.holds
 Ag:mg "holds"=some (.ref A.holds)
 Ah:Binds K D.holds ["some","place"] []
 sU:lC K "set_of" "set_of" CV A.q7 D.q7
 Z9:mg "set_of"=some (.ref A.q7)
 aaa:Binds K D.q7 ["places"] []
 il:lC K "leading_out" "leading_out" ph A.d7 D.d7
 Eu:mg "leading_out"=some (.ref A.d7)
 Ew:Binds K D.d7 ["web"] []
 jF:lC K "neighbours" "neighbours" qW A.fU D.fU
 I7:mg "neighbours"=some (.ref A.fU)
 I8:Binds K D.fU ["web"] []
 kE:lC K "is_whole" "is_whole" uT A.gr D.gr
 CZ:mg "is_whole"=some (.ref A.gr)
 Dc:Binds K D.gr ["value"] []
 cR:lC K "is_within" "is_within" sH A.cz D.cz
 gw:mg "is_within"=some (.ref A.cz)
 gA:Binds K D.cz ["value","least","greatest"] []
 sV:lC K "is_tie" "is_tie" CW A.q8 D.q8
 aab:mg "is_tie"=some (.ref A.q8)
 aac:Binds K D.q8 ["tie","places"] []
 lU:lC K "look_ties" "look_ties" sI A.gM D.gM
 Mj:mg "look_ties"=some (.ref A.gM)
 Ml:Binds K D.gM ["places","ties"] []
 nR:lC K "look_web" "look_web" uU A.jx D.jx
 Qx:mg "look_web"=some (.ref A.jx)
 Qy:Binds K D.jx ["web"] []
 lV:lC K "look_kind" "look_kind" sJ A.gO D.gO
 Mm:mg "look_kind"=some (.ref A.gO)
 Mp:Binds K D.gO ["kind"] []
 gQ:lC K "look_asked" "look_asked" qX A.dH D.dH
 v5:mg "look_asked"=some (.ref A.dH)
 v7:Binds K D.dH ["web","kind","bound"] []
 gB:lC K "layer_behind" "layer_behind" nP A.dm D.dm
 Dd:mg "layer_behind"=some (.ref A.dm)
 De:Binds K D.dm ["walk","layer"] []
 sW:lC K "layers" "layers" CX A.layers D.layers
 aad:mg "layers"=some (.ref A.layers)
 aae:Binds K D.layers ["walk"] []
 v8:lC K "paper" "paper" I5 A.vZ D.vZ
 ab0:mg "paper"=some (.ref A.vZ)
 ab1:Binds K D.vZ ["web","kind","bound"] []
 v9:lC K "shows" "shows" I6 A.shows D.shows
 ab2:mg "shows"=some (.ref A.shows)
 ab3:Binds K D.shows ["web","kind","bound","some"] []
 nT:lC K "_law_cell" "_law_cell" uV A.jy D.jy
 Qz:mg "_law_cell"=some (.ref A.jy)
 QB:Binds K D.jy ["_law_script","_law_k"] []
 fD:lC K "_law_mix" "_law_mix" xU A.jz D.jz
 kI:mg "_law_mix"=some (.ref A.jz)
 kJ:Binds K D.jz ["_law_script","_law_k"] []
 qe:lC K "_law_web" "_law_web" xV A.mQ D.mQ
 V5:mg "_law_web"=some (.ref A.mQ)
 V6:Binds K D.mQ ["_law_script","_law_k","_law_places"] []
 ir:lC K "_law_lengths" "_law_lengths" pq A.d8 D.d8
 Ex:mg "_law_lengths"=some (.ref A.d8)
 Ey:Binds K D.d8 ["_law_web_here","_law_order"] []
 nU:lC K "_law_gaps" "_law_gaps" uW A.jA D.jA
 QC:mg "_law_gaps"=some (.ref A.jA)
 QD:Binds K D.jA ["_law_web_here","_law_order"] []
 gC:lC K "_law_measured" "_law_measured" nQ A.dq D.dq
 Df:mg "_law_measured"=some (.ref A.dq)
 Dg:Binds K D.dq ["_law_web_here","_law_kind","_law_order"] []
 qg:lC K "_law_all" "_law_all" xW A.mR D.mR
 V7:mg "_law_all"=some (.ref A.mR)
 V8:Binds K D.mR ["_law_many"] []
 iu:lC K "_law_refusal" "_law_refusal" pA A.d9 D.d9
 Ez:mg "_law_refusal"=some (.ref A.d9)
 EY:Binds K D.d9 ["_law_kept"] []
 cX:lC K "_law_two" "_law_two" xX A.du D.du
 fY:mg "_law_two"=some (.ref A.du)
 fZ:Binds K D.du ["_law_many"] []
 qi:lC K "_law_cut" "_law_cut" xY A.mU D.mU
 V9:mg "_law_cut"=some (.ref A.mU)
 Wa:Binds K D.mU ["_law_web_here","_law_some"] []
 kO:lC K "_law_near" "_law_near" uX A.jB D.jB
 Dh:mg "_law_near"=some (.ref A.jB)
 Di:Binds K D.jB ["_law_web_here","_law_place"] []
 nW:lC K "_law_more" "_law_more" uY A.jC D.jC
 QF:mg "_law_more"=some (.ref A.jC)
 QG:Binds K D.jC ["_law_web_here","_law_kind","_law_bound","_law_here","_law_place"] []
 gR:lC K "_law_behind" "_law_behind" qY A.dI D.dI
 wg:mg "_law_behind"=some (.ref A.dI)
 wi:Binds K D.dI ["_law_web_here","_law_kind","_law_bound","_law_here"] []
 lW:lC K "_law_paper" "_law_paper" sO A.gP D.gP
 Mq:mg "_law_paper"=some (.ref A.gP)
 Mr:Binds K D.gP ["_law_web_here","_law_kind","_law_bound"] []
 iw:lC K "_law_is_pair" "_law_is_pair" pB A.eE D.eE
 Fb:mg "_law_is_pair"=some (.ref A.eE)
 Fd:Binds K D.eE ["_law_web_here","_law_kind","_law_here"] []
 qj:lC K "_law_due" "_law_due" xZ A.mV D.mV
 Wb:mg "_law_due"=some (.ref A.mV)
 Wc:Binds K D.mV ["_law_web_here","_law_kind","_law_bound","_law_some"] []
 nY:lC K "_law_bent" "_law_bent" uZ A.jD D.jD
 QH:mg "_law_bent"=some (.ref A.jD)
 QJ:Binds K D.jD ["_law_some","_law_number","_law_whole"] []
 gD:lC K "_law_told" "_law_told" u0 A.jE D.jE
 q9:mg "_law_told"=some (.ref A.jE)
 rm:Binds K D.jE ["_law_way","_law_web_here","_law_kind","_law_bound","_law_some"] []
 Ms:lC K "law" "law" Z7 A.law D.law
 ae9:mg "law"=some (.ref A.law)
 agf:Binds K D.law ["_law_script"] []
 aea:∀(s:aiK) (u:aiH),ard s D.law ⟨[u],[]⟩ [("_law_script",u)]
 QK:mg "LayError"=some (.ref A.ik)
 u5:aki K A.ik V4 "ValueError.__new__"=true
 ql:mg "BadWeb"=some (.ref A.dj)
 lX:aki K A.dj V4 "ValueError.__new__"=true
 aaf:jq K A.dj
 Dj:ajM K A.dj (.ref A.ik)=some true
 Dk:aiI K (.ref A.dj) (.type "ValueError")=some true
 QL:mg "BadOrder"=some (.ref A.cg)
 u6:aki K A.cg V4 "ValueError.__new__"=true
 QM:jq K A.cg
 u9:ajM K A.cg (.ref A.ik)=some true
 vd:aiI K (.ref A.cg) (.type "ValueError")=some true
 Wd:mg "BadSpot"=some (.ref A.cU)
 yc:aki K A.cU V4 "ValueError.__new__"=true
 We:jq K A.cU
 yd:ajM K A.cU (.ref A.ik)=some true
 ye:aiI K (.ref A.cU) (.type "ValueError")=some true
 yf:mg "BadKind"=some (.ref A.cF)
 qm:aki K A.cF V4 "ValueError.__new__"=true
 Wf:jq K A.cF
 yg:ajM K A.cF (.ref A.ik)=some true
 yh:aiI K (.ref A.cF) (.type "ValueError")=some true
 Wg:mg "BadText"=some (.ref A.cV)
 yj:aki K A.cV V4 "ValueError.__new__"=true
 Wh:jq K A.cV
 yl:ajM K A.cV (.ref A.ik)=some true
 ym:aiI K (.ref A.cV) (.type "ValueError")=some true
 mz:aiI K (.ref A.dj) (.ref A.dj)=some true
 jG:aiI K (.ref A.dj) (.ref A.cg)=some false
 kW:aiI K (.ref A.dj) (.ref A.cU)=some false
 kY:aiI K (.ref A.dj) (.ref A.cF)=some false
 kZ:aiI K (.ref A.dj) (.ref A.cV)=some false
 jH:aiI K (.ref A.cg) (.ref A.dj)=some false
 ig:aiI K (.ref A.cg) (.ref A.cg)=some true
 iK:aiI K (.ref A.cg) (.ref A.cU)=some false
 iM:aiI K (.ref A.cg) (.ref A.cF)=some false
 iQ:aiI K (.ref A.cg) (.ref A.cV)=some false
 lg:aiI K (.ref A.cU) (.ref A.dj)=some false
 iR:aiI K (.ref A.cU) (.ref A.cg)=some false
 jJ:aiI K (.ref A.cU) (.ref A.cU)=some true
 jK:aiI K (.ref A.cU) (.ref A.cF)=some false
 jL:aiI K (.ref A.cU) (.ref A.cV)=some false
 lq:aiI K (.ref A.cF) (.ref A.dj)=some false
 iT:aiI K (.ref A.cF) (.ref A.cg)=some false
 jM:aiI K (.ref A.cF) (.ref A.cU)=some false
 jN:aiI K (.ref A.cF) (.ref A.cF)=some true
 jO:aiI K (.ref A.cF) (.ref A.cV)=some false
 lr:aiI K (.ref A.cV) (.ref A.dj)=some false
 iU:aiI K (.ref A.cV) (.ref A.cg)=some false
 jP:aiI K (.ref A.cV) (.ref A.cU)=some false
 jQ:aiI K (.ref A.cV) (.ref A.cF)=some false
 jR:aiI K (.ref A.cV) (.ref A.cV)=some true
 pC:∃t,mg "MOST_PLACES"=some (.int 8 t)
 pD:∃t,mg "MOST_WEIGHT"=some (.int 100 t)
 lu:∃t,mg "GREATEST_BOUND"=some (.int 1000000 t)
 ab4:mg "KINDS"=some (.ref A.Z8)
 ab5:∀H,cD K H A.Z8 [.str "longest",.str "most",.str "total"]
 aag:mg "Walk"=some (.ref A.Walk)
 bO:Xe K A.Walk
 Ai:Mk K A.Walk A.fC
 fV:my K A.Walk "bound"
 mW:my K A.Walk "every"
 dw:my K A.Walk "kind"
 rn:my K A.Walk "out"
 eV:my K A.Walk "places"
 lY:my K A.Walk "tied"
 oW:lC K "__init__" "Walk.__init__" sS A.fC D.fC
 zB:Binds K D.fC ["self","web","kind","bound"] []
 fG:lC K "beginning" "Walk.beginning" kh A.bT D.bT
 oX:Meth K A.Walk "beginning" A.bT
 qp:Binds K D.bT ["self"] []
 fH:lC K "last_then" "Walk.last_then" kj A.cG D.cG
 wj:Meth K A.Walk "last_then" A.cG
 yo:Binds K D.cG ["self","pair","place"] []
 dh:lC K "matters_then" "Walk.matters_then" ie A.bM D.bM
 sX:Meth K A.Walk "matters_then" A.bM
 ue:Binds K D.bM ["self","pair","place"] []
 jT:lC K "steps" "Walk.steps" qZ A.dJ D.dJ
 ux:Meth K A.Walk "steps" A.dJ
 wk:Binds K D.dJ ["self","pair"] []
 eF:lC K "may_matter" "Walk.may_matter" jw A.bZ D.bZ
 vf:Meth K A.Walk "may_matter" A.bZ
 wu:Binds K D.bZ ["self","some","matters"] []
 fJ:lC K "may_stand" "Walk.may_stand" km A.cH D.cH
 wy:Meth K A.Walk "may_stand" A.cH
 yp:Binds K D.cH ["self","pair"] []
 aah:mg "abs"=none
 Hj:mg "all"=none
 Ur:mg "any"=none
 I9:mg "bool"=none
 Mt:mg "int"=none
 bf:mg "isinstance"=none
 rH:mg "len"=none
 Dl:mg "list"=none
 Dm:mg "max"=none
 aai:mg "min"=none
 gh:mg "range"=none
 aaj:mg "set"=none
 sY:mg "sorted"=none
 Mu:mg "sum"=none
 oY:mg "tuple"=none
 ru:mg "ValueError"=none
 sZ:aiI K (.type "bool") (.type "bool")=some true
 Dn:aiI K (.type "bool") (.type "int")=some true
 Dp:aiI K (.type "bool") (.type "str")=some false
 zE:aiI K (.type "bool") (.type "list")=some false
 wz:aiI K (.type "bool") (.type "tuple")=some false
 vg:aiI K (.type "int") (.type "bool")=some false
 tX:aiI K (.type "int") (.type "int")=some true
 Hk:aiI K (.type "int") (.type "str")=some false
 Dq:aiI K (.type "int") (.type "list")=some false
 lZ:aiI K (.type "int") (.type "tuple")=some false
 Dr:aiI K (.type "str") (.type "bool")=some false
 Hl:aiI K (.type "str") (.type "int")=some false
 Hm:aiI K (.type "str") (.type "str")=some true
 Ds:aiI K (.type "str") (.type "list")=some false
 zF:aiI K (.type "str") (.type "tuple")=some false
 zG:aiI K (.type "list") (.type "bool")=some false
 Dt:aiI K (.type "list") (.type "int")=some false
 Du:aiI K (.type "list") (.type "str")=some false
 s6:aiI K (.type "list") (.type "list")=some true
 wA:aiI K (.type "list") (.type "tuple")=some false
 wB:aiI K (.type "tuple") (.type "bool")=some false
 oZ:aiI K (.type "tuple") (.type "int")=some false
 zH:aiI K (.type "tuple") (.type "str")=some false
 wC:aiI K (.type "tuple") (.type "list")=some false
 dz:aiI K (.type "tuple") (.type "tuple")=some true
def FX (K:aiU)(x:Str)(st:akM):Prop:=∃f fd,ajJ K ajz x=some (some (.ref f))∧lC K x x st f fd
def MX (K:aiU)(C:aiM)(x qual:Str)(st:akM):Prop:=∃f fd,aju K (.ref C) x=some (some (.ref f))∧ao0 K (.ref f)=true∧lC K x qual st f fd
theorem fx_mk {K:aiU}{x:Str}{st:akM}{f:aiM}{oc:aiH}{od an:Option aiM}{osl:Array (Option aiH)}{kV doc pm cdv ct:aiH}(a:ajJ K ajz x=some (some (.ref f)))(l:K.lookup f=some ⟨oc,od,.func (alc x x (jo st) (iC st) (aB st) .none kV doc pm an cdv ct),osl⟩)(c:an0 K cdv x=true)(k:amb K (.ref f)=true):FX K x st:=⟨_,_,a,XS l c k⟩
theorem mx_mk {K:aiU}{x qual:Str}{st:akM}{f:aiM}{oc:aiH}{od an:Option aiM}{osl:Array (Option aiH)}{kV doc pm cdv ct:aiH}{C:aiM}(a:aju K (.ref C) x=some (some (.ref f)))(i:ao0 K (.ref f)=true)(l:K.lookup f=some ⟨oc,od,.func (alc x qual (jo st) (iC st) (aB st) .none kV doc pm an cdv ct),osl⟩)(c:an0 K cdv qual=true)(k:amb K (.ref f)=true):MX K C x qual st:=⟨_,_,a,i,XS l c k⟩
theorem Wi {K:aiU}{x qual:Str}{st:akM}{f:aiM}{fd:ajA}{p0:Str}(F:lC K x qual st f fd)(h:∀(kV doc pm:aiH) (an:Option aiM) (cdv ct:aiH) (ahW:aiH),apY (alc x qual (jo st) (iC st) (aB st) .none kV doc pm an cdv ct) ⟨[ahW],[]⟩=pure ([p0].zip [ahW])):Binds K fd [p0] []:=F.binds fun _ _ _ _ _ _ us hl=>match us,hl with|[ahW],_=>h _ _ _ _ _ _ _
theorem Xf {K:aiU}{x qual:Str}{st:akM}{f:aiM}{fd:ajA}{p0 p1:Str}(F:lC K x qual st f fd)(h:∀(kV doc pm:aiH) (an:Option aiM) (cdv ct:aiH) (ahW u1:aiH),apY (alc x qual (jo st) (iC st) (aB st) .none kV doc pm an cdv ct) ⟨[ahW,u1],[]⟩=pure ([p0,p1].zip [ahW,u1])):Binds K fd [p0,p1] []:=F.binds fun _ _ _ _ _ _ us hl=>match us,hl with|[ahW,u1],_=>h _ _ _ _ _ _ _ _
theorem bi3 {K:aiU}{x qual:Str}{st:akM}{f:aiM}{fd:ajA}{p0 p1 p2:Str}(F:lC K x qual st f fd)(h:∀(kV doc pm:aiH) (an:Option aiM) (cdv ct:aiH) (ahW u1 u2:aiH),apY (alc x qual (jo st) (iC st) (aB st) .none kV doc pm an cdv ct) ⟨[ahW,u1,u2],[]⟩=pure ([p0,p1,p2].zip [ahW,u1,u2])):Binds K fd [p0,p1,p2] []:=F.binds fun _ _ _ _ _ _ us hl=>match us,hl with|[ahW,u1,u2],_=>h _ _ _ _ _ _ _ _ _
theorem bi4 {K:aiU}{x qual:Str}{st:akM}{f:aiM}{fd:ajA}{p0 p1 p2 p3:Str}(F:lC K x qual st f fd)(h:∀(kV doc pm:aiH) (an:Option aiM) (cdv ct:aiH) (ahW u1 u2 u3:aiH),apY (alc x qual (jo st) (iC st) (aB st) .none kV doc pm an cdv ct) ⟨[ahW,u1,u2,u3],[]⟩=pure ([p0,p1,p2,p3].zip [ahW,u1,u2,u3])):Binds K fd [p0,p1,p2,p3] []:=F.binds fun _ _ _ _ _ _ us hl=>match us,hl with|[ahW,u1,u2,u3],_=>h _ _ _ _ _ _ _ _ _ _
theorem bi5 {K:aiU}{x qual:Str}{st:akM}{f:aiM}{fd:ajA}{p0 p1 p2 p3 p4:Str}(F:lC K x qual st f fd)(h:∀(kV doc pm:aiH) (an:Option aiM) (cdv ct:aiH) (ahW u1 u2 u3 u4:aiH),apY (alc x qual (jo st) (iC st) (aB st) .none kV doc pm an cdv ct) ⟨[ahW,u1,u2,u3,u4],[]⟩=pure ([p0,p1,p2,p3,p4].zip [ahW,u1,u2,u3,u4])):Binds K fd [p0,p1,p2,p3,p4] []:=F.binds fun _ _ _ _ _ _ us hl=>match us,hl with|[ahW,u1,u2,u3,u4],_=>h _ _ _ _ _ _ _ _ _ _ _
theorem txt_mk {K:aiU}{h:aj4}{mg:Str->Option aiH}(X:K.In h)(G:h.Ns ajz mg){gF:aiM}{bY:aiM}{bz:aiM}{bI:aiM}{bJ:aiM}{bK:aiM}{Wj:arj}{Mv:arj}{QQ:arj}{QR:arj}{QS:arj}{Fe:Tok}{Ff:Tok}{yq:Tok}{Ja:aiM}{aak:Option aiM}{ab6:Nat}{aal:Array (Option aiH)}{aam aan aao:Tok}{eX:aiM}(Mw:FX K "set_count" sG)(ab7:FX K "holds" I4)(aap:FX K "set_of" CV)(Fg:FX K "leading_out" ph)(Jb:FX K "neighbours" qW)(QT:FX K "is_whole" uT)(Mx:FX K "is_within" sH)(aaq:FX K "is_tie" CW)(Mz:FX K "look_ties" sI)(QV:FX K "look_web" uU)(MF:FX K "look_kind" sJ)(Jc:FX K "look_asked" qX)(Dv:FX K "layer_behind" nP)(aar:FX K "layers" CX)(ab8:FX K "paper" I5)(ab9:FX K "shows" I6)(QW:FX K "_law_cell" uV)(Wk:FX K "_law_mix" xU)(Wl:FX K "_law_web" xV)(Fi:FX K "_law_lengths" pq)(QX:FX K "_law_gaps" uW)(Dw:FX K "_law_measured" nQ)(Wm:FX K "_law_all" xW)(Fj:FX K "_law_refusal" pA)(Wn:FX K "_law_two" xX)(Wo:FX K "_law_cut" xY)(QZ:FX K "_law_near" uX)(Q0:FX K "_law_more" uY)(Jd:FX K "_law_behind" qY)(MJ:FX K "_law_paper" sO)(Fl:FX K "_law_is_pair" pB)(Wq:FX K "_law_due" xZ)(Q3:FX K "_law_bent" uZ)(Q4:FX K "_law_told" u0)(ae':FX K "law" Z7)(Q5:ajJ K ajz "LayError"=some (some (.ref gF)))(aas:ajJ K ajz "BadWeb"=some (some (.ref bY)))(Q6:ajJ K ajz "BadOrder"=some (some (.ref bz)))(Wr:ajJ K ajz "BadSpot"=some (some (.ref bI)))(Ws:ajJ K ajz "BadKind"=some (some (.ref bJ)))(Wt:ajJ K ajz "BadText"=some (some (.ref bK)))(Wu:aju K (.ref bY) "__getattribute__"=some (some (.builtin "BaseException.__getattribute__")))(Wv:aju K (.ref bY) "__getattr__"=some none)(Ww:aju K (.ref bY) "__class__"=some (some (.builtin "object.__class__")))(Wx:ajM K bY (.type "object")=some true)(Wy:ajM K bY (.type "BaseException")=some true)(Wz:am8 K bY=some Wj)(Dj:ajM K bY (.ref gF)=some true)(MK:aju K (.ref bz) "__getattribute__"=some (some (.builtin "BaseException.__getattribute__")))(MN:aju K (.ref bz) "__getattr__"=some none)(MP:aju K (.ref bz) "__class__"=some (some (.builtin "object.__class__")))(MT:ajM K bz (.type "object")=some true)(M3:ajM K bz (.type "BaseException")=some true)(M4:am8 K bz=some Mv)(u9:ajM K bz (.ref gF)=some true)(Q7:aju K (.ref bI) "__getattribute__"=some (some (.builtin "BaseException.__getattribute__")))(Q8:aju K (.ref bI) "__getattr__"=some none)(Q9:aju K (.ref bI) "__class__"=some (some (.builtin "object.__class__")))(Ra:ajM K bI (.type "object")=some true)(Rb:ajM K bI (.type "BaseException")=some true)(Rc:am8 K bI=some QQ)(yd:ajM K bI (.ref gF)=some true)(Rd:aju K (.ref bJ) "__getattribute__"=some (some (.builtin "BaseException.__getattribute__")))(Rf:aju K (.ref bJ) "__getattr__"=some none)(Rg:aju K (.ref bJ) "__class__"=some (some (.builtin "object.__class__")))(Rh:ajM K bJ (.type "object")=some true)(Ri:ajM K bJ (.type "BaseException")=some true)(Rj:am8 K bJ=some QR)(yg:ajM K bJ (.ref gF)=some true)(Rk:aju K (.ref bK) "__getattribute__"=some (some (.builtin "BaseException.__getattribute__")))(Rm:aju K (.ref bK) "__getattr__"=some none)(Rn:aju K (.ref bK) "__class__"=some (some (.builtin "object.__class__")))(Ro:ajM K bK (.type "object")=some true)(Rp:ajM K bK (.type "BaseException")=some true)(Rq:am8 K bK=some QS)(yl:ajM K bK (.ref gF)=some true)(pC:ajJ K ajz "MOST_PLACES"=some (some (.int 8 Fe)))(pD:ajJ K ajz "MOST_WEIGHT"=some (some (.int 100 Ff)))(lu:ajJ K ajz "GREATEST_BOUND"=some (some (.int 1000000 yq)))(ab':ajJ K ajz "KINDS"=some (some (.ref Ja)))(aca:K.lookup Ja=some ⟨.type "tuple",aak,.seq #[.str "longest" aam,.str "most" aan,.str "total" aao] ab6,aal⟩)(aeb:ajJ K ajz "Walk"=some (some (.ref eX)))(acb:anp K eX asI=true)(acd:anY K eX=true)(ace:apz K eX=true)(acf:aju K (.ref eX) "__setattr__"=some (some (.builtin "object.__setattr__")))(Ai:aqv K eX=true)(acg:amb K (.ref eX)=true)(fV:aju K (.ref eX) "bound"=some none)(mW:aju K (.ref eX) "every"=some none)(dw:aju K (.ref eX) "kind"=some none)(rn:aju K (.ref eX) "out"=some none)(eV:aju K (.ref eX) "places"=some none)(lY:aju K (.ref eX) "tied"=some none)(aah:ajJ K ajz "abs"=some none)(Hj:ajJ K ajz "all"=some none)(Ur:ajJ K ajz "any"=some none)(I9:ajJ K ajz "bool"=some none)(Mt:ajJ K ajz "int"=some none)(bf:ajJ K ajz "isinstance"=some none)(rH:ajJ K ajz "len"=some none)(Dl:ajJ K ajz "list"=some none)(Dm:ajJ K ajz "max"=some none)(aai:ajJ K ajz "min"=some none)(gh:ajJ K ajz "range"=some none)(aaj:ajJ K ajz "set"=some none)(sY:ajJ K ajz "sorted"=some none)(Mu:ajJ K ajz "sum"=some none)(oY:ajJ K ajz "tuple"=some none)(ru:ajJ K ajz "ValueError"=some none)(M5:MX K eX "__init__" "Walk.__init__" sS)(yr:MX K eX "beginning" "Walk.beginning" kh)(yt:MX K eX "last_then" "Walk.last_then" kj)(uf:MX K eX "matters_then" "Walk.matters_then" ie)(Je:MX K eX "steps" "Walk.steps" qZ)(wD:MX K eX "may_matter" "Walk.may_matter" jw)(yu:MX K eX "may_stand" "Walk.may_stand" km)(u5:aki K gF V4 "ValueError.__new__"=true)(lX:aki K bY V4 "ValueError.__new__"=true)(u6:aki K bz V4 "ValueError.__new__"=true)(yc:aki K bI V4 "ValueError.__new__"=true)(qm:aki K bJ V4 "ValueError.__new__"=true)(yj:aki K bK V4 "ValueError.__new__"=true)(Dk:aiI K (.ref bY) (.type "ValueError")=some true)(vd:aiI K (.ref bz) (.type "ValueError")=some true)(ye:aiI K (.ref bI) (.type "ValueError")=some true)(yh:aiI K (.ref bJ) (.type "ValueError")=some true)(ym:aiI K (.ref bK) (.type "ValueError")=some true)(mz:aiI K (.ref bY) (.ref bY)=some true)(jG:aiI K (.ref bY) (.ref bz)=some false)(kW:aiI K (.ref bY) (.ref bI)=some false)(kY:aiI K (.ref bY) (.ref bJ)=some false)(kZ:aiI K (.ref bY) (.ref bK)=some false)(jH:aiI K (.ref bz) (.ref bY)=some false)(ig:aiI K (.ref bz) (.ref bz)=some true)(iK:aiI K (.ref bz) (.ref bI)=some false)(iM:aiI K (.ref bz) (.ref bJ)=some false)(iQ:aiI K (.ref bz) (.ref bK)=some false)(lg:aiI K (.ref bI) (.ref bY)=some false)(iR:aiI K (.ref bI) (.ref bz)=some false)(jJ:aiI K (.ref bI) (.ref bI)=some true)(jK:aiI K (.ref bI) (.ref bJ)=some false)(jL:aiI K (.ref bI) (.ref bK)=some false)(lq:aiI K (.ref bJ) (.ref bY)=some false)(iT:aiI K (.ref bJ) (.ref bz)=some false)(jM:aiI K (.ref bJ) (.ref bI)=some false)(jN:aiI K (.ref bJ) (.ref bJ)=some true)(jO:aiI K (.ref bJ) (.ref bK)=some false)(lr:aiI K (.ref bK) (.ref bY)=some false)(iU:aiI K (.ref bK) (.ref bz)=some false)(jP:aiI K (.ref bK) (.ref bI)=some false)(jQ:aiI K (.ref bK) (.ref bJ)=some false)(jR:aiI K (.ref bK) (.ref bK)=some true)(sZ:aiI K (.type "bool") (.type "bool")=some true)(Dn:aiI K (.type "bool") (.type "int")=some true)(Dp:aiI K (.type "bool") (.type "str")=some false)(zE:aiI K (.type "bool") (.type "list")=some false)(wz:aiI K (.type "bool") (.type "tuple")=some false)(vg:aiI K (.type "int") (.type "bool")=some false)(tX:aiI K (.type "int") (.type "int")=some true)(Hk:aiI K (.type "int") (.type "str")=some false)(Dq:aiI K (.type "int") (.type "list")=some false)(lZ:aiI K (.type "int") (.type "tuple")=some false)(Dr:aiI K (.type "str") (.type "bool")=some false)(Hl:aiI K (.type "str") (.type "int")=some false)(Hm:aiI K (.type "str") (.type "str")=some true)(Ds:aiI K (.type "str") (.type "list")=some false)(zF:aiI K (.type "str") (.type "tuple")=some false)(zG:aiI K (.type "list") (.type "bool")=some false)(Dt:aiI K (.type "list") (.type "int")=some false)(Du:aiI K (.type "list") (.type "str")=some false)(s6:aiI K (.type "list") (.type "list")=some true)(wA:aiI K (.type "list") (.type "tuple")=some false)(wB:aiI K (.type "tuple") (.type "bool")=some false)(oZ:aiI K (.type "tuple") (.type "int")=some false)(zH:aiI K (.type "tuple") (.type "str")=some false)(wC:aiI K (.type "tuple") (.type "list")=some false)(dz:aiI K (.type "tuple") (.type "tuple")=some true):∃(A:ahJ) (D:FD),Txt K mg A D:=by
 obtain⟨M6,M7,M8,je⟩:=Mw;obtain⟨ach,aci,acj,oV⟩:=ab7;obtain⟨aat,aau,aav,sU⟩:=aap;obtain⟨Fo,Fp,Fq,il⟩:=Fg;obtain⟨Jf,Jg,Jh,jF⟩:=Jb;obtain⟨Rr,Rt,Ru,kE⟩:=QT;obtain⟨M9,Nb,Nf,cR⟩:=Mx;obtain⟨aaw,aax,aay,sV⟩:=aaq;obtain⟨Ng,Nh,Ni,lU⟩:=Mz;obtain⟨Rv,Rw,Rx,nR⟩:=QV;obtain⟨Nj,Nk,Nm,lV⟩:=MF;obtain⟨Ji,Jj,Jk,gQ⟩:=Jc;obtain⟨Dy,Dz,DG,gB⟩:=Dv;obtain⟨aaz,aaA,aaB,sW⟩:=aar;obtain⟨ack,acn,aco,v8⟩:=ab8;obtain⟨acp,acq,acr,v9⟩:=ab9;obtain⟨Ry,Rz,RB,nT⟩:=QW;obtain⟨WD,WK,WL,fD⟩:=Wk;obtain⟨WM,WN,WQ,qe⟩:=Wl;obtain⟨Ft,Fv,Fw,ir⟩:=Fi;obtain⟨RC,RD,RG,nU⟩:=QX;obtain⟨DK,DN,DP,gC⟩:=Dw;obtain⟨WR,WT,WW,qg⟩:=Wm;obtain⟨Fx,Fy,Fz,iu⟩:=Fj;obtain⟨WX,WY,W0,cX⟩:=Wn;obtain⟨W2,W3,W4,qi⟩:=Wo;obtain⟨RJ,RK,RL,kO⟩:=QZ;obtain⟨RM,RN,RP,nW⟩:=Q0;obtain⟨Jl,Jm,Jo,gR⟩:=Jd;obtain⟨Np,Nq,Nr,lW⟩:=MJ;obtain⟨FJ,FN,FP,iw⟩:=Fl;obtain⟨W5,W6,W7,qj⟩:=Wq;obtain⟨RQ,RT,RV,nY⟩:=Q3;obtain⟨RW,RX,RZ,gD⟩:=Q4;obtain⟨afa,afb,afc,Ms⟩:=ae';obtain⟨Nt,Nu,Nv,Nx,oW⟩:=M5;obtain⟨yw,yx,yz,yC,fG⟩:=yr;obtain⟨yD,yE,yF,yG,fH⟩:=yt;obtain⟨ug,uh,um,uo,dh⟩:=uf;obtain⟨Jp,Jq,Jr,Js,jT⟩:=Je;obtain⟨wF,wG,wH,wI,eF⟩:=wD;obtain⟨yH,yI,yJ,yK,fJ⟩:=yu;refine⟨⟨M6,ach,aat,Fo,Jf,Rr,M9,aaw,Ng,Rv,Nj,Ji,Dy,aaz,ack,acp,Ry,WD,WM,Ft,RC,DK,WR,Fx,WX,W2,RJ,RM,Jl,Np,FJ,W5,RQ,RW,afa,gF,bY,bz,bI,bJ,bK,Ja,eX,Nt,yw,yD,ug,Jp,wF,yH⟩,⟨M7,aci,aau,Fp,Jg,Rt,Nb,aax,Nh,Rw,Nk,Jj,Dz,aaA,acn,acq,Rz,WK,WN,Fv,RD,DN,WT,Fy,WY,W3,RK,RN,Jm,Nq,FN,W6,RT,RX,afb,Nu,yx,yE,uh,Jq,wG,yI⟩,?_⟩;constructor
 .exact je
 .exact aji X G M8
 .exact Wi je fun _ _ _ _ _ _ _=>rfl
 .exact oV
 .exact aji X G acj
 .exact Xf oV fun _ _ _ _ _ _ _ _=>rfl
 .exact sU
 .exact aji X G aav
 .exact Wi sU fun _ _ _ _ _ _ _=>rfl
 .exact il
 .exact aji X G Fq
 .exact Wi il fun _ _ _ _ _ _ _=>rfl
 .exact jF
 .exact aji X G Jh
 .exact Wi jF fun _ _ _ _ _ _ _=>rfl
 .exact kE
 .exact aji X G Ru
 .exact Wi kE fun _ _ _ _ _ _ _=>rfl
 .exact cR
 .exact aji X G Nf
 .exact bi3 cR fun _ _ _ _ _ _ _ _ _=>rfl
 .exact sV
 .exact aji X G aay
 .exact Xf sV fun _ _ _ _ _ _ _ _=>rfl
 .exact lU
 .exact aji X G Ni
 .exact Xf lU fun _ _ _ _ _ _ _ _=>rfl
 .exact nR
 .exact aji X G Rx
 .exact Wi nR fun _ _ _ _ _ _ _=>rfl
 .exact lV
 .exact aji X G Nm
 .exact Wi lV fun _ _ _ _ _ _ _=>rfl
 .exact gQ
 .exact aji X G Jk
 .exact bi3 gQ fun _ _ _ _ _ _ _ _ _=>rfl
 .exact gB
 .exact aji X G DG
 .exact Xf gB fun _ _ _ _ _ _ _ _=>rfl
 .exact sW
 .exact aji X G aaB
 .exact Wi sW fun _ _ _ _ _ _ _=>rfl
 .exact v8
 .exact aji X G aco
 .exact bi3 v8 fun _ _ _ _ _ _ _ _ _=>rfl
 .exact v9
 .exact aji X G acr
 .exact bi4 v9 fun _ _ _ _ _ _ _ _ _ _=>rfl
 .exact nT
 .exact aji X G RB
 .exact Xf nT fun _ _ _ _ _ _ _ _=>rfl
 .exact fD
 .exact aji X G WL
 .exact Xf fD fun _ _ _ _ _ _ _ _=>rfl
 .exact qe
 .exact aji X G WQ
 .exact bi3 qe fun _ _ _ _ _ _ _ _ _=>rfl
 .exact ir
 .exact aji X G Fw
 .exact Xf ir fun _ _ _ _ _ _ _ _=>rfl
 .exact nU
 .exact aji X G RG
 .exact Xf nU fun _ _ _ _ _ _ _ _=>rfl
 .exact gC
 .exact aji X G DP
 .exact bi3 gC fun _ _ _ _ _ _ _ _ _=>rfl
 .exact qg
 .exact aji X G WW
 .exact Wi qg fun _ _ _ _ _ _ _=>rfl
 .exact iu
 .exact aji X G Fz
 .exact Wi iu fun _ _ _ _ _ _ _=>rfl
 .exact cX
 .exact aji X G W0
 .exact Wi cX fun _ _ _ _ _ _ _=>rfl
 .exact qi
 .exact aji X G W4
 .exact Xf qi fun _ _ _ _ _ _ _ _=>rfl
 .exact kO
 .exact aji X G RL
 .exact Xf kO fun _ _ _ _ _ _ _ _=>rfl
 .exact nW
 .exact aji X G RP
 .exact bi5 nW fun _ _ _ _ _ _ _ _ _ _ _=>rfl
 .exact gR
 .exact aji X G Jo
 .exact bi4 gR fun _ _ _ _ _ _ _ _ _ _=>rfl
 .exact lW
 .exact aji X G Nr
 .exact bi3 lW fun _ _ _ _ _ _ _ _ _=>rfl
 .exact iw
 .exact aji X G FP
 .exact bi3 iw fun _ _ _ _ _ _ _ _ _=>rfl
 .exact qj
 .exact aji X G W7
 .exact bi4 qj fun _ _ _ _ _ _ _ _ _ _=>rfl
 .exact nY
 .exact aji X G RV
 .exact bi3 nY fun _ _ _ _ _ _ _ _ _=>rfl
 .exact gD
 .exact aji X G RZ
 .exact bi5 gD fun _ _ _ _ _ _ _ _ _ _ _=>rfl
 .exact Ms
 .exact aji X G afc
 .exact Wi Ms fun _ _ _ _ _ _ _=>rfl
 .exact fun s u=>by obtain⟨_,_,_,_,_,_,_,_,_,rfl,_,_⟩:=Ms.ex;exact .of_eq rfl
 .exact aji X G Q5
 .exact u5
 .exact aji X G aas
 .exact lX
 .exact⟨Wu,Wv,Ww,Wx,Wy,_,Wz⟩
 .exact Dj
 .exact Dk
 .exact aji X G Q6
 .exact u6
 .exact⟨MK,MN,MP,MT,M3,_,M4⟩
 .exact u9
 .exact vd
 .exact aji X G Wr
 .exact yc
 .exact⟨Q7,Q8,Q9,Ra,Rb,_,Rc⟩
 .exact yd
 .exact ye
 .exact aji X G Ws
 .exact qm
 .exact⟨Rd,Rf,Rg,Rh,Ri,_,Rj⟩
 .exact yg
 .exact yh
 .exact aji X G Wt
 .exact yj
 .exact⟨Rk,Rm,Rn,Ro,Rp,_,Rq⟩
 .exact yl
 .exact ym
 .exact mz
 .exact jG
 .exact kW
 .exact kY
 .exact kZ
 .exact jH
 .exact ig
 .exact iK
 .exact iM
 .exact iQ
 .exact lg
 .exact iR
 .exact jJ
 .exact jK
 .exact jL
 .exact lq
 .exact iT
 .exact jM
 .exact jN
 .exact jO
 .exact lr
 .exact iU
 .exact jP
 .exact jQ
 .exact jR
 .exact⟨_,aji X G pC⟩
 .exact⟨_,aji X G pD⟩
 .exact⟨_,aji X G lu⟩
 .exact aji X G ab'
 .exact fun H=>.inr ⟨_,_,_,aca,rfl,rfl,(by show 3<=aiV;decide),(.cons ⟨_,rfl⟩ (.cons ⟨_,rfl⟩ (.cons ⟨_,rfl⟩ .nil)))⟩
 .exact aji X G aeb
 .exact⟨acb,acd,ace,acf⟩
 .exact⟨Ai,Nv,Nx,acg⟩
 .exact fV
 .exact mW
 .exact dw
 .exact rn
 .exact eV
 .exact lY
 .exact oW
 .exact bi4 oW fun _ _ _ _ _ _ _ _ _ _=>rfl
 .exact fG
 .exact⟨yz,yC,fG.kp⟩
 .exact Wi fG fun _ _ _ _ _ _ _=>rfl
 .exact fH
 .exact⟨yF,yG,fH.kp⟩
 .exact bi3 fH fun _ _ _ _ _ _ _ _ _=>rfl
 .exact dh
 .exact⟨um,uo,dh.kp⟩
 .exact bi3 dh fun _ _ _ _ _ _ _ _ _=>rfl
 .exact jT
 .exact⟨Jr,Js,jT.kp⟩
 .exact Xf jT fun _ _ _ _ _ _ _ _=>rfl
 .exact eF
 .exact⟨wH,wI,eF.kp⟩
 .exact bi3 eF fun _ _ _ _ _ _ _ _ _=>rfl
 .exact fJ
 .exact⟨yJ,yK,fJ.kp⟩
 .exact Xf fJ fun _ _ _ _ _ _ _ _=>rfl
 .exact ajQ X G aah
 .exact ajQ X G Hj
 .exact ajQ X G Ur
 .exact ajQ X G I9
 .exact ajQ X G Mt
 .exact ajQ X G bf
 .exact ajQ X G rH
 .exact ajQ X G Dl
 .exact ajQ X G Dm
 .exact ajQ X G aai
 .exact ajQ X G gh
 .exact ajQ X G aaj
 .exact ajQ X G sY
 .exact ajQ X G Mu
 .exact ajQ X G oY
 .exact ajQ X G ru
 .exact sZ
 .exact Dn
 .exact Dp
 .exact zE
 .exact wz
 .exact vg
 .exact tX
 .exact Hk
 .exact Dq
 .exact lZ
 .exact Dr
 .exact Hl
 .exact Hm
 .exact Ds
 .exact zF
 .exact zG
 .exact Dt
 .exact Du
 .exact s6
 .exact wA
 .exact wB
 .exact oZ
 .exact zH
 .exact wC
 .exact dz
variable{P:ajr}{w:ajI}{K:aiU}{mg:Str->Option aiH}{base:aj4}{A:ahJ}{D:FD}
theorem Hn (T:Txt K mg A D){C:aiM}{y:Str}(h:qH A.er C y):aki K C V4 "ValueError.__new__"=true∧ajM K C (.ref A.ik)=some true∧jq K C∧aiI K (.ref C) (.type "ValueError")=some true:=by
 rcases h with⟨rfl,_⟩|⟨rfl,_⟩|⟨rfl,_⟩|⟨rfl,_⟩|⟨rfl,_⟩
 .exact⟨T.qm,T.yg,T.Wf,T.yh⟩
 .exact⟨T.u6,T.u9,T.QM,T.vd⟩
 .exact⟨T.yc,T.yd,T.We,T.ye⟩
 .exact⟨T.yj,T.yl,T.Wh,T.ym⟩
 .exact⟨T.lX,T.Dj,T.aaf,T.Dk⟩
theorem Ny:aU ["value"] ["value"] (aB uT):=⟨rfl,rfl,rfl,by decide+kernel,rfl,by decide+kernel,by decide+kernel⟩
theorem az {A:Type}{p q:A->Prop}(a)(P:p a)(Q:q a):∃a,p a∧q a:=⟨a,P,Q⟩
theorem c7 {A:Type}{p q r:A->Prop}(a)(P:p a)(Q:q a)(R:r a):∃a,p a∧q a∧r a:=⟨a,P,Q,R⟩
theorem aaC {A:Type}{p q r s:A->Prop}(a)(P:p a)(Q:q a)(R:r a)(S:s a):∃a,p a∧q a∧r a∧s a:=⟨a,P,Q,R,S⟩
theorem mC {A B:Type}{p q:A->B->Prop}(a b)(P:p a b)(Q:q a b):∃a b,p a b∧q a b:=⟨a,b,P,Q⟩
theorem bU {A B:Type}{p q r:A->B->Prop}(a b)(P:p a b)(Q:q a b)(R:r a b):∃a b,p a b∧q a b∧r a b:=⟨a,b,P,Q,R⟩
theorem iV {A B:Type}{p q r s:A->B->Prop}(a b)(P:p a b)(Q:q a b)(R:r a b)(S:s a b):∃a b,p a b∧q a b∧r a b∧s a b:=⟨a,b,P,Q,R,S⟩
theorem FQ {A B:Type}{p q r s t u:A->B->Prop}(a b)(P:p a b)(Q:q a b)(R:r a b)(S:s a b)(T:t a b)(U:u a b):∃a b,p a b∧q a b∧r a b∧s a b∧t a b∧u a b:=⟨a,b,P,Q,R,S,T,U⟩
theorem wJ {A B C:Type}{p q r:A->B->C->Prop}(a b c)(P:p a b c)(Q:q a b c)(R:r a b c):∃a b c,p a b c∧q a b c∧r a b c:=⟨a,b,c,P,Q,R⟩
theorem acs {A B C:Type}{p q r s:A->B->C->Prop}(a b c)(P:p a b c)(Q:q a b c)(R:r a b c)(S:s a b c):∃a b c,p a b c∧q a b c∧r a b c∧s a b c:=⟨a,b,c,P,Q,R,S⟩
theorem acu {A B C:Type}{p q r s t:A->B->C->Prop}(a b c)(P:p a b c)(Q:q a b c)(R:r a b c)(S:s a b c)(T:t a b c):∃a b c,p a b c∧q a b c∧r a b c∧s a b c∧t a b c:=⟨a,b,c,P,Q,R,S,T⟩
theorem mj {A B C D:Type}{p q r s t:A->B->C->D->Prop}(a b c d)(P:p a b c d)(Q:q a b c d)(R:r a b c d)(S:s a b c d)(T:t a b c d):∃a b c d,p a b c d∧q a b c d∧r a b c d∧s a b c d∧t a b c d:=⟨a,b,c,d,P,Q,R,S,T⟩
theorem vh {A B C D:Type}{p q r s t u:A->B->C->D->Prop}(a b c d)(P:p a b c d)(Q:q a b c d)(R:r a b c d)(S:s a b c d)(T:t a b c d)(U:u a b c d):∃a b c d,p a b c d∧q a b c d∧r a b c d∧s a b c d∧t a b c d∧u a b c d:=⟨a,b,c,d,P,Q,R,S,T,U⟩
theorem aaD {A B C D:Type}{p q r s t u v:A->B->C->D->Prop}(a b c d)(P:p a b c d)(Q:q a b c d)(R:r a b c d)(S:s a b c d)(T:t a b c d)(U:u a b c d)(V:v a b c d):∃a b c d,p a b c d∧q a b c d∧r a b c d∧s a b c d∧t a b c d∧u a b c d∧v a b c d:=⟨a,b,c,d,P,Q,R,S,T,U,V⟩
theorem W8 {A B C D E:Type}{p q r s t:A->B->C->D->E->Prop}(a b c d e)(P:p a b c d e)(Q:q a b c d e)(R:r a b c d e)(S:s a b c d e)(T:t a b c d e):∃a b c d e,p a b c d e∧q a b c d e∧r a b c d e∧s a b c d e∧t a b c d e:=⟨a,b,c,d,e,P,Q,R,S,T⟩
theorem yL {A B C D E:Type}{p q r s t u:A->B->C->D->E->Prop}(a b c d e)(P:p a b c d e)(Q:q a b c d e)(R:r a b c d e)(S:s a b c d e)(T:t a b c d e)(U:u a b c d e):∃a b c d e,p a b c d e∧q a b c d e∧r a b c d e∧s a b c d e∧t a b c d e∧u a b c d e:=⟨a,b,c,d,e,P,Q,R,S,T,U⟩
theorem aaE {A B C D E F:Type}{p q r s t u v w:A->B->C->D->E->F->Prop}(a b c d e f)(P:p a b c d e f)(Q:q a b c d e f)(R:r a b c d e f)(S:s a b c d e f)(T:t a b c d e f)(U:u a b c d e f)(V:v a b c d e f)(W:w a b c d e f):∃a b c d e f,p a b c d e f∧q a b c d e f∧r a b c d e f∧s a b c d e f∧t a b c d e f∧u a b c d e f∧v a b c d e f∧w a b c d e f:=⟨a,b,c,d,e,f,P,Q,R,S,T,U,V,W⟩
theorem Us {A B C D E F G H:Type}{p q r s t u v w x y z i j:A->B->C->D->E->F->G->H->Prop}(a b c d e f g h)(P:p a b c d e f g h)(Q:q a b c d e f g h)(R:r a b c d e f g h)(S:s a b c d e f g h)(T:t a b c d e f g h)(U:u a b c d e f g h)(V:v a b c d e f g h)(W:w a b c d e f g h)(X:x a b c d e f g h)(Y:y a b c d e f g h)(Z:z a b c d e f g h)(I:i a b c d e f g h)(J:j a b c d e f g h):∃a b c d e f g h,p a b c d e f g h∧q a b c d e f g h∧r a b c d e f g h∧s a b c d e f g h∧t a b c d e f g h∧u a b c d e f g h∧v a b c d e f g h∧w a b c d e f g h∧x a b c d e f g h∧y a b c d e f g h∧z a b c d e f g h∧i a b c d e f g h∧j a b c d e f g h:=⟨a,b,c,d,e,f,g,h,P,Q,R,S,T,U,V,W,X,Y,Z,I,J⟩
theorem aaF (T:Txt K mg A D){k:Nat}:aP P w K mg base (cI P w) (k+1) A.gr D.gr ["value"] HY:=by
 refine T.kE.pH Ny (fun vs H Q E h=>?_) (fun cdv A' outer s H vs Q E hr h=>?_)
 .obtain⟨_,rfl,_⟩:=h;rfl
 obtain⟨x,rfl,h⟩:=h;refine⟨_,(aq (aF (wZ (aK cO rfl T.bf bj (aa (pv 0) (aa (iz (v:=.ty "int") rfl T.Mt Pb rfl) aj))) (uA (acV (aK cO rfl T.bf bj (aa (pv 0) (aa (iz (v:=.ty "bool") rfl T.I9 Te rfl) aj)))))))),?_⟩;dsimp only[ou,eU];rcases h with⟨i,rfl,q⟩|⟨a,xs,rfl,ha,q⟩
 .refine⟨_,rfl,_,_,_,_,_,rfl,rfl,.int i,T.tX,_,rfl,dY ?_⟩;exact⟨_,rfl,_,_,_,_,_,rfl,rfl,.int i,T.vg,_,rfl,q⟩
 .exact⟨_,rfl,_,_,_,_,_,rfl,rfl,.tup ha,T.oZ,_,rfl,cN q⟩
theorem Jt:aU ["value","least","greatest"] ["value","least","greatest"] (aB sH):=⟨rfl,rfl,rfl,by decide+kernel,rfl,by decide+kernel,by decide+kernel⟩
theorem W9 (T:Txt K mg A D){k:Nat}(gG:aP P w K mg base (cI P w) k A.gr D.gr ["value"] HY):aP P w K mg base (cI P w) (k+1) A.cz D.cz ["value","least","greatest"] pP:=by
 refine T.cR.pH Jt (fun vs H Q E h=>?_) (fun cdv A' outer s H vs Q E hr h=>?_)
 .obtain⟨_,_,_,rfl,_⟩:=h;rfl
 obtain⟨v,a,b,rfl,q⟩:=h;refine⟨_,(aq (aF (wZ (aD gG hr rfl T.CZ T.kE.kp T.Dc .nil aL (aa (pv 0) aj)) (uA (Ax Aw Aw (pv 1) (pv 0) (pv 2)))))),?_⟩;refine⟨_,rfl,_,rfl,.inl ⟨v,rfl,_,rfl,dY ?_⟩⟩;refine⟨_,rfl,_,rfl,_,_,rfl,rfl,_,rfl,aba (fun c=>?_) (fun c=>?_)⟩
 .refine⟨_,rfl,_,_,rfl,rfl,?_⟩;have c':a<=v:=ai9 c;rw[aiQ c',akH]at q;exact q
 .have c':¬a<=v:=of_decide_eq_false (akG.mpr c);rw[aiO c',akO]at q;exact q
theorem Xa:aU ["tie","places"] ["tie","places"] (aB CW):=⟨rfl,rfl,rfl,by decide+kernel,rfl,by decide+kernel,by decide+kernel⟩
theorem aec (T:Txt K mg A D){k:Nat}(aZ:aP P w K mg base (cI P w) k A.cz D.cz ["value","least","greatest"] pP):aP P w K mg base (cI P w) (k+1) A.q8 D.q8 ["tie","places"] acI:=by
 refine T.sV.pH Xa (fun vs H Q E h=>?_) (fun cdv A' outer s H vs Q E hr h=>?_)
 .obtain⟨_,_,_,rfl,_⟩:=h;rfl
 obtain⟨p,t,n,rfl,ht,q⟩:=h;obtain⟨tw,DQ⟩:=T.pD;refine⟨_,(ao (bF (PW.pt (yR (f9 (fc (aK cO rfl T.bf bj (aa (pv 0) (aa (iz (v:=.ty "tuple") rfl T.oY pO rfl) aj))))) (uz (aJ vA (aK di rfl T.rH alu (aa (pv 0) aj)) ak (aQ _))))) (aq (aF gY)) aM) (ao (bF (f9 (fc (aD aZ hr rfl T.gw T.cR.kp T.gA .nil aL (aa (bA bG (pv 0) ak (fun _ _=>rfl)) (aa ak (aa (aG gZ (pv 1) ak) aj)))))) (aq (aF gY)) aM) (aq (aF (wZ (aD aZ hr rfl T.gw T.cR.kp T.gA .nil aL (aa (bA bG (pv 0) ak (fun _ _=>rfl)) (aa ak (aa (aG gZ (bA bG (pv 0) ak (fun _ _=>rfl)) ak) aj)))) (uA (aD aZ hr rfl T.gw T.cR.kp T.gA .nil aL (aa (bA bG (pv 0) ak (fun _ _=>rfl)) (aa ak (aa (ji (v:=.int 100) rfl DQ ⟨_,rfl⟩) aj)))))))))),?_⟩;dsimp only[ou,eU];refine⟨_,rfl,_,_,_,_,_,rfl,rfl,.tup ht,T.dz,_,rfl,cN ?_⟩;refine⟨_,rfl,p,_,rfl,.inr (cD.of ht),rfl,_,rfl,?_⟩;by_cases h3:t.length=3
 .obtain⟨a,b,c,rfl⟩:∃a b c,t=[a,b,c]:=by
   match t,h3 with
   |[a,b,c],_=>exact⟨a,b,c,rfl⟩
  refine cN ?_;refine⟨_,rfl,_,_,_,_,rfl,rfl,cD.of ht,rfl,_,rfl,_,_,rfl,rfl,b,0,n-1,rfl,_,rfl,?_⟩;show if(!(decide (0<=b)&&decide (b<=n-1)))=true then _ else _;cases e1:(decide (0<=b)&&decide (b<=n-1))with
  |false=>
   refine dY ?_;have z:cJ n [a,b,c]=false:=by rw[vL,e1,akO]
   rw[z]at q;exact q
  |true=>
   refine cN ?_;refine⟨_,rfl,_,_,_,_,rfl,rfl,cD.of ht,rfl,_,rfl,_,_,_,_,rfl,rfl,cD.of ht,rfl,_,_,rfl,rfl,a,0,b-1,rfl,_,rfl,?_⟩;cases e2:(decide (0<=a)&&decide (a<=b-1))with
   |false=>
    refine cN ?_;have z:cJ n [a,b,c]=false:=by rw[vL,e1,e2,akO,akH]
    rw[z]at q;exact q
   |true=>
    refine dY ?_;refine⟨_,rfl,_,_,_,_,rfl,rfl,cD.of ht,rfl,c,1,100,rfl,?_⟩;have z:cJ n [a,b,c]=(decide (1<=c)&&decide (c<=100)):=by rw[vL,e1,e2,akH,akH]
    rw[z]at q;exact q
 .have hl:((t.map V.int).length:Int)≠3:=by rw[aiJ];lia
  have c:(!decide (V.int ((t.map V.int).length:Int)=V.int 3))=true:=by rw[aiO (fun z=>hl (V.int.inj z))];rfl
  rw[c];refine dY ?_;have z:cJ n t=false:=by
   unfold cJ;split
   .exact ai8 rfl h3
   .rfl
  rw[z]at q;exact q
theorem mX:aU ["places","ties","before","tie"] ["places","ties"] (aB sI):=⟨rfl,rfl,rfl,by decide+kernel,rfl,by decide+kernel,by decide+kernel⟩
theorem acv (T:Txt K mg A D){k:Nat}(wK:aP P w K mg base (cI P w) k A.q8 D.q8 ["tie","places"] acI):aP P w K mg base (cI P w) (k+1) A.gM D.gM ["places","ties"] (Yn A.er):=by
 refine T.lU.pH mX (fun vs H Q E h=>?_) (fun cdv A' outer s H vs Q E hr h=>?_)
 .obtain⟨_,_,_,_,rfl,_⟩:=h;rfl
 obtain⟨n,l,xs,ts,rfl,hl,dl,win,qn,air⟩:=h;refine⟨_,(ao (aR (i:=2) mX.nd rfl (ajp rfl) (bL (aa (rM qz ak) (aa (rM qz ak) aj)))) (aq (fO aX rfl (cT (pv 1)) (aH (i:=3) mX.nd rfl (ajp rfl)) (ao (bF (f9 (fc (aD wK hr rfl T.aab T.sV.kp T.aac .nil aL (aa (pv 3) (aa (pv 0) aj))))) (aq (nu j6 rfl T.ql T.lX akF rfl (aa (vJ (cL (Gs hr 3) (cL iH (cL (Yd 0) (cL iH pM))))) aj))) aM) (ao (bF (aJ (adi hr.ac3) (lL Hv (pv 3) oA (oE ak)) (pv 2) (aQ _)) (aq (nu j6 rfl T.ql T.lX akF rfl (aa (vJ (cL (Gs hr 3) (cL iH pM))) aj))) aM) (aq (aR (i:=2) mX.nd rfl (ajp rfl) (lL Hv (pv 3) oA (oE ak))))))))),?_⟩;dsimp only[ou,eU];refine⟨_,rfl,_,rfl,by decide,fun p hp=>?_⟩;have e0:aC H (upd H p (.tup [.int (-1),.int (-1)])):=bH hp;refine⟨_,rfl,l,rfl,⟨xs,bk.of (e0 _ _ hl)⟩,?_⟩;have hlen:xs.length=ts.length:=by rw[←dl.length,aiJ]
 refine fP ts.length (fun i σ H'=>∃b v3 bef,σ=[some (.int n),some (.ref l),some (.ref b),v3]∧aC H H'∧H' b=some (.tup (bef.map V.int))∧cY n bef (ts.drop i)=cY n [-1,-1] ts) ⟨p,none,[-1,-1],rfl,e0,aA,rfl⟩ ?_ ?_ ?_ ?_
 .rintro i σ H' hi ⟨b,v3,bef,rfl,e,hb,ht⟩;have hx:i<xs.length:=by lia
  exact⟨xs,xs[i],bk.of (e _ _ hl),aiG hx⟩
 .rintro σ H' ⟨b,v3,bef,rfl,e,hb,ht⟩;exact⟨xs,bk.of (e _ _ hl),by lia⟩
 .rintro i x σ H2 ahq hi ⟨b,v3,bef,rfl,e,hb,ht⟩ ⟨rfl,hx⟩;obtain⟨t,htt⟩:∃t,ts[i]?=some t:=⟨ts[i],aiG hi⟩;obtain⟨a,hxa,Nz⟩:=uE (dl.mono e) htt;have hx2:=hx xs (bk.of (e _ _ hl));rw[hxa]at hx2;cases hx2;have hin:=win.tie t (ajo htt);have hdrop:ts.drop i=t::ts.drop (i+1):=by obtain⟨h1,h2⟩:=ajj.mp htt;rw[←h2];exact akJ h1
  rw[hdrop]at ht;refine⟨_,rfl,_,rfl,a,t,n,rfl,Nz,_,rfl,?_⟩;cases e1:cJ n t with
  |false=>refine dY ?_;refine⟨⟨⟨a,t,rfl,cD.of Nz,hin.1,hin.2⟩,trivial,⟨n,rfl,win.n⟩,trivial,trivial⟩,by decide,fun x hx=>?_⟩;refine⟨(by show 1<=aiV;decide),air ?_ _ e⟩;rw[←ht,cY,e1,akO]
  |true=>
   refine cN ?_;obtain⟨ta,tb,tc,rfl,_⟩:=bB e1;refine⟨_,rfl,_,rfl,a,_,rfl,cD.of Nz,(by show¬(HT.jn 3 0 none=0∧HT.jn 3 3 (some 2)=3);decide),fun p2 hp2=>?_⟩;have hpb:b≠p2:=fun z=>by subst z;rw[hp2]at hb;cases hb
   refine⟨_,rfl,p2,b,[ta,tb],bef,rfl,rfl,cD.of aA,cD.of (by rw[aO hpb];exact hb),_,rfl,?_⟩;cases e2:HT.lexLe [ta,tb] bef with
   |true=>refine dY ?_;have aed:=bH (o:=.tup (jZ ([ta,tb,tc].map V.int) none (some 2))) hp2 _ _ Nz;refine⟨⟨⟨a,[ta,tb,tc],rfl,cD.of aed,hin.1,hin.2⟩,trivial,trivial⟩,by decide,fun x hx=>?_⟩;refine⟨(by show 1<=aiV;decide),air ?_ _ (e.trans (bH hp2))⟩;rw[←ht,cY,e1,akH];show(!HT.lexLe [ta,tb] bef&&_)=false;rw[e2];rfl
   |false=>refine cN ?_;have aed:=bH (o:=.tup (jZ ([ta,tb,tc].map V.int) none (some 2))) hp2 _ _ Nz;refine⟨_,rfl,_,rfl,a,_,rfl,cD.of aed,(by show¬(HT.jn 3 0 none=0∧HT.jn 3 3 (some 2)=3);decide),fun p3 hp3=>?_⟩;refine⟨p3,_,[ta,tb],rfl,(e.trans (bH hp2)).trans (bH hp3),aA,?_⟩;rw[←ht,cY,e1,akH];show _=(!HT.lexLe [ta,tb] bef&&_);rw[e2];rfl
 .rintro σ H' ⟨b,v3,bef,rfl,e,hb,ht⟩;rw[asQ]at ht;exact qn ht.symm _ e
theorem NB:aU ["web"] ["web"] (aB uU):=⟨rfl,rfl,rfl,by decide+kernel,rfl,by decide+kernel,by decide+kernel⟩
theorem aee (T:Txt K mg A D){k:Nat}(aZ:aP P w K mg base (cI P w) k A.cz D.cz ["value","least","greatest"] pP)(o4:aP P w K mg base (cI P w) k A.gM D.gM ["places","ties"] (Yn A.er)):aP P w K mg base (cI P w) (k+1) A.jx D.jx ["web"] (acJ A.er):=by
 refine T.nR.pH NB (fun vs H Q E h=>?_) (fun cdv A' outer s H vs Q E hr h=>?_)
 .obtain⟨_,_,_,rfl,_⟩:=h;rfl
 obtain⟨v,n,ts,rfl,dv,win,qn,air⟩:=h;obtain⟨a,l,xs,rfl,ha,hl,dl⟩:=jr dv;obtain⟨tp,s7⟩:=T.pC;refine⟨_,(ao (bF (PW.pt (yR (f9 (fc (aK cO rfl T.bf bj (aa (pv 0) (aa (iz (v:=.ty "tuple") rfl T.oY pO rfl) aj))))) (uz (aJ vA (aK di rfl T.rH alu (aa (pv 0) aj)) ak (aQ _))))) (aq (nu j6 rfl T.ql T.lX akF rfl (aa b7 aj))) aM) (ao (bF (f9 (fc (aD aZ hr rfl T.gw T.cR.kp T.gA .nil aL (aa (bA bG (pv 0) ak (fun _ _=>rfl)) (aa ak (aa (ji (v:=.int 8) rfl s7 ⟨_,rfl⟩) aj)))))) (aq (nu j6 rfl T.ql T.lX akF rfl (aa (vJ (cL iH (cL (Ye (ji (v:=.int 8) rfl s7 ⟨_,rfl⟩) (by decide)) (cL iH pM)))) aj))) aM) (ao (bF (f9 (fc (aK cO rfl T.bf bj (aa (bA bG (pv 0) ak (fun _ _=>rfl)) (aa (iz (v:=.ty "list") rfl T.Dl HW rfl) aj))))) (aq (nu j6 rfl T.ql T.lX akF rfl (aa b7 aj))) aM) (aq (jj (aD o4 hr rfl T.Mj T.lU.kp T.Ml .nil pL (aa (bA bG (pv 0) ak (fun _ _=>rfl)) (aa (bA bG (pv 0) ak (fun _ _=>rfl)) aj)))))))),?_⟩;dsimp only[ou,eU];refine⟨_,rfl,_,_,_,_,_,rfl,rfl,.tup ha,T.dz,_,rfl,cN ?_⟩;refine⟨_,rfl,a,_,rfl,.inr (cD.of ha),rfl,_,rfl,cN ?_⟩;refine⟨_,rfl,_,_,_,_,rfl,rfl,cD.of ha,rfl,n,0,8,rfl,_,rfl,?_⟩;show if(!(decide (0<=n)&&decide (n<=8)))=true then _ else _;cases e1:(decide (0<=n)&&decide (n<=8))with
 |false=>refine dY ?_;refine⟨⟨trivial,trivial,trivial,trivial⟩,by decide,fun x hx=>⟨(by show 1<=aiV;decide),air ?_ _ (aC.refl _)⟩⟩;unfold bN;rw[e1,akO]
 |true=>
  refine cN ?_;have z:bN n ts=cY n [-1,-1] ts:=by unfold bN;rw[e1,akH]
  refine⟨_,rfl,_,_,_,_,rfl,rfl,cD.of ha,rfl,_,_,_,_,_,rfl,rfl,.lst hl,T.s6,_,rfl,cN ?_⟩;refine⟨_,rfl,_,_,_,_,rfl,rfl,cD.of ha,rfl,_,rfl,_,_,_,_,rfl,rfl,cD.of ha,rfl,n,l,xs,ts,rfl,hl,dl,win,fun c H' e=>qn (z.trans c) H' e,fun c H' e=>air (z.trans c) H' e⟩
theorem Ju:aU ["kind"] ["kind"] (aB sJ):=⟨rfl,rfl,rfl,by decide+kernel,rfl,by decide+kernel,by decide+kernel⟩
theorem acw (T:Txt K mg A D){k:Nat}:aP P w K mg base (cI P w) (k+1) A.gO D.gO ["kind"] (Ys A.er):=by
 refine T.lV.pH Ju (fun vs H Q E h=>?_) (fun cdv A' outer s H vs Q E hr h=>?_)
 .obtain⟨_,rfl,_⟩:=h;rfl
 obtain⟨kd,rfl,hk1,hk2,qn,air⟩:=h;refine⟨_,(aq (bF (aJ vD (pv 0) (ji (v:=.ref A.Z8) rfl T.ab4 rfl) (by with_unfolding_all rfl)) (aq (nu j6 rfl T.yf T.qm akF rfl (aa (vJ (cL (Vd 0) (cL iH pM))) aj))) aM)),?_⟩;dsimp only[ou,eU];refine⟨_,rfl,_,_,rfl,.inr (T.ab5 H),rfl,rfl,_,rfl,?_⟩;show if(!inV (.str kd) [.str "longest",.str "most",.str "total"])=true then _ else _;rw[Yt];by_cases c:dN kd
 .rw[aiQ c];exact cN (qn c)
 .rw[aiO c];refine dY ?_;exact⟨⟨⟨kd,rfl,hk1,hk2⟩,trivial,trivial⟩,by decide,fun x hx=>⟨(by show 1<=aiV;decide),air c⟩⟩
theorem Jv:aU ["places"] ["places"] (aB sG):=⟨rfl,rfl,rfl,by decide+kernel,rfl,by decide+kernel,by decide+kernel⟩
theorem Jw (T:Txt K mg A D){k:Nat}:aP P w K mg base (cI P w) (k+1) A.fB D.fB ["places"] H6:=by
 refine T.je.pH Jv (fun vs H Q E h=>?_) (fun cdv A' outer s H vs Q E hr h=>?_)
 .obtain⟨_,rfl,_⟩:=h;rfl
 obtain⟨n,rfl,hn,q⟩:=h;refine⟨_,(aq (aF (aG uB ak (pv 0)))),?_⟩;refine⟨_,rfl,_,_,rfl,rfl,⟨by lia,by lia,by decide⟩,?_⟩;dsimp only;rw[apF,ai4];exact_mod_cast q
theorem aaG:aU ["some","place"] ["some","place"] (aB I4):=⟨rfl,rfl,rfl,by decide+kernel,rfl,by decide+kernel,by decide+kernel⟩
theorem aaH (T:Txt K mg A D){k:Nat}:aP P w K mg base (cI P w) (k+1) A.holds D.holds ["some","place"] z7:=by
 refine T.oV.pH aaG (fun vs H Q E h=>?_) (fun cdv A' outer s H vs Q E hr h=>?_)
 .obtain⟨_,_,rfl,_⟩:=h;rfl
 obtain⟨S,p,rfl,hp,q⟩:=h;refine⟨_,(aq (aF (mL dW (aG Hu (aG ac2 (pv 0) (pv 1)) ak) ak (aQ _)))),?_⟩;refine⟨_,rfl,_,rfl,_,_,rfl,rfl,by lia,_,_,rfl,rfl,rfl,?_⟩;have e:alP ((S:Int)/2^((p:Int)).toNat) 1=((S/2^p %2:Nat):Int):=by
  rw[ai4];have z:(S:Int)/2^p=((S/2^p:Nat):Int):=by rw[asU,Int.natCast_pow];rfl
  rw[z,bitAnd_pp (anM _) (by decide),ai4];show(((S/2^p)&&&1:Nat):Int)=_;rw[Nat.and_one_is_mod]
 have b:decide (V.int (alP ((S:Int)/2^((p:Int)).toNat) 1)=V.int 1)=bit S p:=by rw[e];unfold bit;rw[ajD,decide_eq_true_iff,beq_iff_eq];exact⟨fun h=>by have:=V.int.inj h;lia,fun h=>by rw[h];rfl⟩
 show Q (V.bl (decide (V.int (alP ((S:Int)/2^((p:Int)).toNat) 1)=V.int 1))) H;rw[b];exact q
theorem tY:aU ["places","some","place"] ["places"] (aB CV):=⟨rfl,rfl,rfl,by decide+kernel,rfl,by decide+kernel,by decide+kernel⟩
theorem Xb (T:Txt K mg A D){k:Nat}:aP P w K mg base (cI P w) (k+1) A.q7 D.q7 ["places"] TQ:=by
 refine T.sU.pH tY (fun vs H Q E h=>?_) (fun cdv A' outer s H vs Q E hr h=>?_)
 .obtain⟨_,_,rfl,_⟩:=h;rfl
 obtain⟨t,m,rfl,ht,hm,hl,q⟩:=h;refine⟨_,(ao (aR (i:=1) tY.nd rfl (ajp rfl) ak) (ao (fO aX rfl (Ht (pv 0)) (aH (i:=2) tY.nd rfl (ajp rfl)) (aq (aR (i:=1) tY.nd rfl (ajp rfl) (aG Su (pv 1) (aG uB ak (pv 2)))))) (aq (aF (pv 1))))),?_⟩;dsimp only[ou,eU];refine⟨_,rfl,t,rfl,⟨_,cD.of ht⟩,?_⟩;refine fP m.length (fun i σ H'=>∃v2,σ=[some (.ref t),some (.int ((pY (m.take i):Nat):Int)),v2]∧aC H H') ⟨none,rfl,aC.refl _⟩ ?_ ?_ ?_ ?_
 .rintro i σ H' hi ⟨v2,rfl,e⟩;exact⟨_,V.int m[i],cD.of (e _ _ ht),by rw[ai6,aiG hi];rfl⟩
 .rintro σ H' ⟨v2,rfl,e⟩;exact⟨_,cD.of (e _ _ ht),by rw[aiJ];exact aiN _⟩
 .rintro i x σ H2 ahq hi ⟨v2,rfl,e2⟩ ⟨rfl,hx⟩;have hx2:=hx _ (cD.of (e2 _ _ ht));have hgi:m[i]?=some m[i]:=aiG hi;rw[ai6,hgi]at hx2;cases hx2;have hmi:=hm _ (ajT hi);obtain⟨p,hp⟩:∃p:Nat,m[i]=p:=⟨m[i].toNat,by lia⟩;have hS:pY (m.take i)<32:=qK fun p hp=>hm p (aj1 hp);have e:ams ((pY (m.take i):Nat):Int) (1*2^(m[i]).toNat)=((pY (m.take (i+1)):Nat):Int):=by
   have e1:(1:Int)*2^(m[i]).toNat=((2^p:Nat):Int):=by rw[apF,hp,ai4];exact_mod_cast rfl
   rw[e1,or_int _ hS p (by lia)];congr 1;unfold pY;rw[akv,hgi,apE];show _=_|||2^(m[i]).toNat;rw[hp,ai4]
  refine⟨_,rfl,_,rfl,_,_,rfl,rfl,⟨by lia,by lia,by decide⟩,_,_,rfl,rfl,some (.int m[i]),?_,e2⟩;show[_,some (V.int (ams ((pY (m.take i):Nat):Int) (1*2^(m[i]).toNat))),_]=_;rw[e]
 .rintro σ H' ⟨v2,rfl,e⟩;rw[akt];exact⟨_,rfl,q H' e⟩
theorem jU:aU ["web","found","some","weights"] ["web"] (aB ph):=⟨rfl,rfl,rfl,by decide+kernel,rfl,by decide+kernel,by decide+kernel⟩
theorem lz:akD (["some","one","other","weight"]:List Str):=by decide+kernel
theorem DR (T:Txt K mg A D){k:Nat}(fL:aP P w K mg base (cI P w) k A.fB D.fB ["places"] H6)(gU:aP P w K mg base (cI P w) k A.holds D.holds ["some","place"] z7):aP P w K mg base (cI P w) (k+1) A.d7 D.d7 ["web"] YB:=by
 refine T.il.pH jU (fun vs H Q E h=>?_) (fun cdv A' outer s H vs Q E hr h=>?_)
 .obtain⟨_,_,_,rfl,_⟩:=h;rfl
 obtain⟨v,n,ts,rfl,dv,hw,hin,hn,q⟩:=h;obtain⟨hn0,hn8,htt⟩:=gq hw;obtain⟨a,tl,xs,rfl,ha,hl,dl⟩:=jr dv;have hlen:xs.length=ts.length:=by rw[←dl.length,aiJ]
 have hts:=hin.len;have h32:2^n<=32:=show 2^n<=2^5 from aj5 (by decide) hn
 refine⟨_,(ao (aR (i:=1) jU.nd rfl (ajp rfl) (bQ aj)) (ao (fO aX rfl (fj rfl T.gh (aa (aD fL hr rfl T.zz T.je.kp T.zA .nil aL (aa (bA bG (pv 0) ak (fun _ _=>rfl)) aj)) aj)) (aH (i:=2) jU.nd rfl (akk rfl)) (ao (vI rfl (lM (N:=["some","one","other","weight"]) (js:=[some 2,none,none,none]) rfl rfl (by decide+kernel) (by decide+kernel) rfl (aiE.mpr ⟨rfl,fun _ h=>nomatch h⟩) (aiE.mpr ⟨(fun h=>nomatch h),(aiE.mpr ⟨(fun h=>nomatch h),(aiE.mpr ⟨(fun h=>nomatch h),(aiE.mpr ⟨(fun h=>nomatch h),(aiE.mpr ⟨(fun h=>nomatch h),(aiE.mpr ⟨(fun _=>rfl),fun _ h=>nomatch h⟩)⟩)⟩)⟩)⟩)⟩) (aiE.mpr ⟨(fun j h=>(by cases h;exact⟨rfl,rfl,rfl⟩)),(aiE.mpr ⟨(fun j h=>nomatch h),(aiE.mpr ⟨(fun j h=>nomatch h),(aiE.mpr ⟨(fun j h=>nomatch h),fun _ h=>nomatch h⟩)⟩)⟩)⟩) rfl) (cT (bA bG (pv 0) ak (fun _ _=>rfl))) jU.nd (k:=3) rfl rfl (fun _ _ _ _=>(zZ (K:=K) (n:=3) rfl rfl (bw (aH (i:=1) lz rfl (ajp rfl) (hf:=akk rfl)) (bw (aH (i:=2) lz rfl (ajp rfl) (hf:=akk rfl)) (bw (aH (i:=3) lz rfl (ajp rfl) (hf:=akk rfl)) iB))) rfl rfl)) (fun _ _ _ _=>(qG (aJ vA (aD gU hr rfl T.Ag T.oV.kp T.Ah .nil aL (aa (pv 0) (aa (pv 1) aj))) (aD gU hr rfl T.Ag T.oV.kp T.Ah .nil aL (aa (pv 0) (aa (pv 2) aj))) (aQ _)))) (fun _ _ _ _=>(pv 3)) (by rfl)) (aq (jj (rO ajU ali alO mZ (pv 1) (aa (aK (Bm rfl) rfl T.Mu Pg (aa (pv 3) aj)) aj)))))) (aq (aF (pv 1))))),?_⟩;dsimp only[ou,eU];refine⟨ajW _,fun f hf=>?_⟩;have e0:aC H (upd H f (.lst [])):=bH hf;refine az _ rfl (mj _ _ _ _ rfl rfl (cD.of (e0 _ _ ha)) rfl (c7 n rfl (by lia) (aaC _ rfl (aso (by decide) (anM _)) (apr (aqt.mpr h32) (by decide)) ?_)));rw[ai4];refine fP (2^n) (fun i σ H'=>∃v2 v3,σ=[some (.ref a),some (.ref f),v2,v3]∧aC H H'∧H' f=some (.lst (((aiY i).map (dB ts)).map .int))) ⟨none,none,rfl,e0,aA⟩ (fun i σ H' hi _=>hi) (fun σ H' _=>aiN _) ?_ ?_
 .rintro S x σ H2 ahq hi ⟨v2,v3,rfl,e2,hg⟩ ⟨rfl,rfl⟩;have ei:(0:Int)+(S:Nat)=S:=by lia
  rw[ei];refine az _ rfl (mj _ _ _ _ rfl rfl (cD.of (e2 _ _ ha)) rfl (c7 tl rfl ⟨xs,bk.of (e2 _ _ hl)⟩ ?_));refine uI (fun σ=>∃x y z,σ=[some (.int S),x,y,z]) ts.length (fun i=>Eh S (ts.getD i [])) (fun i=>.int (w3 (ts.getD i []))) ⟨none,none,none,rfl⟩ ?_ ?_ (by rw[aje];lia) ?_ ?_
  .intro i aiv Vt e4;have hx:i<xs.length:=by lia
   exact mC xs (xs[i]) (bk.of (e4 _ _ (e2 _ _ hl))) (aiG hx)
  .intro aiv e4;exact⟨xs,bk.of (e4 _ _ (e2 _ _ hl)),by lia⟩
  .rintro agA i x lK aiv agU Y Z Vt e4 hD ⟨x1,y1,z1,rfl⟩ ⟨rfl,hx⟩ yes no;obtain⟨t,nZ⟩:∃t,ts[i]?=some t:=⟨ts[i],aiG Vt⟩;obtain⟨ta,hxa,Nz⟩:=uE (dl.mono (e2.trans e4)) nZ;have hx2:=hx xs (bk.of (e4 _ _ (e2 _ _ hl)));rw[hxa]at hx2;cases hx2;have htd:ts.getD i []=t:=by rw[ajb,nZ];rfl
   obtain⟨pa,pb,pc,rfl,h1,h2,h3,h4,h5,h6⟩:=htt t (ajo nZ);obtain⟨pa,rfl⟩:∃m:Nat,pa=m:=⟨pa.toNat,by lia⟩;obtain⟨pb,rfl⟩:∃m:Nat,pb=m:=⟨pb.toNat,by lia⟩;refine iV ta _ rfl (cD.of Nz) rfl (mC _ _ rfl (mC _ _ rfl (bU _ _ rfl rfl ?_)));refine az _ rfl (az _ rfl (bU S pa rfl (by lia) (az _ rfl (az _ rfl (iV S pb rfl (by lia) rfl (az _ rfl ?_))))));have hc:Eh S (ts.getD i [])=!decide (bit S pa=bit S pb):=by rw[htd];rfl
   have hb:(!decide (V.bl (bit S pa)=V.bl (bit S pb)))=Eh S (ts.getD i []):=by rw[hc,Oo];cases bit S pa<;>cases bit S pb<;>rfl
   rw[hb];refine aba (fun c=>?_) (fun c=>?_)
   .refine⟨_,rfl,yes _ _ _ c ⟨_,_,_,rfl⟩ (aC.refl _) ?_⟩;rw[htd];exact .int
   .exact no _ _ (akG.mpr c) ⟨_,_,_,rfl⟩ (aC.refl _)
  .intro agA ys aiv hD e4 hy dy;have z:(((aiY ts.length).filter fun i=>Eh S (ts.getD i [])).map fun i=>amU (w3 (ts.getD i [])))=(((aiY ts.length).filter fun i=>Eh S (ts.getD i [])).map fun i=>w3 (ts.getD i [])).map .int:=by rw[ajG];rfl
   rw[z]at dy;rw[dy.ints_of]at hy;have hg4:=e4 _ _ hg;have hfl:(((aiY S).map (dB ts)).map V.int).length<aiV:=by rw[aiJ,aiJ,ajZ,aje];lia
   refine c7 _ rfl (.inl ⟨rfl,_,bk.of hg4⟩) (az _ rfl (bU agA _ rfl (bk.of hy) (acu _ _ _ rfl rfl hg4 hfl (bU _ _ rfl ((e2.trans e4).put hf) ?_))));rw[aA,Tr,akQ,ajf,ajf];rfl
 .rintro σ H' ⟨v2,v3,rfl,e,hg⟩;exact⟨_,rfl,q f H' hf e hg⟩
theorem Ut (ts:List (List Int))(t:List Int)(p:Nat):nb (ts++[t]) p=nb ts p+nb1 p t:=by unfold nb;rw[ajf,amW];rfl
theorem iy:aU ["web","found","one","other","weight"] ["web"] (aB qW):=⟨rfl,rfl,rfl,by decide+kernel,rfl,by decide+kernel,by decide+kernel⟩
theorem zN:akD (["place"]:List Str):=by decide+kernel
theorem FT (T:Txt K mg A D){k:Nat}:aP P w K mg base (cI P w) (k+1) A.fU D.fU ["web"] TV:=by
 refine T.jF.pH iy (fun vs H Q E h=>?_) (fun cdv A' outer s H vs Q E hr h=>?_)
 .obtain⟨_,_,_,rfl,_⟩:=h;rfl
 obtain⟨v,n,ts,rfl,dv,hw,hin,hn,q⟩:=h;obtain⟨hn0,hn8,htt⟩:=gq hw;obtain⟨a,tl,xs,rfl,ha,hl,dl⟩:=jr dv;have hlen:xs.length=ts.length:=by rw[←dl.length,aiJ]
 refine⟨_,(ao (vI rfl (HX (N:=["place"]) (js:=[none]) rfl rfl (by decide+kernel) (by decide+kernel) (by decide+kernel) rfl (by decide) rfl) (fj rfl T.gh (aa (bA bG (pv 0) ak (fun _ _=>rfl)) aj)) iy.nd (k:=1) rfl rfl (fun _ _ _ _=>(aH (i:=0) zN rfl (ajp rfl) (hf:=akk rfl))) (fun _ _ _ _=>iD) (fun _ _ _ _=>ak) (by rfl)) (ao (fO aX rfl (cT (bA bG (pv 0) ak (fun _ _=>rfl))) (qx rfl (bw (aH (i:=2) iy.nd rfl (ajp rfl)) (bw (aH (i:=3) iy.nd rfl (ajp rfl)) (bw (aH (i:=4) iy.nd rfl (ajp rfl)) iB)))) (ao (Sq (pv 1) (pv 2) Kd (aG uB ak (pv 3)) Oi set_list) (aq (Sq (pv 1) (pv 3) Kd (aG uB ak (pv 2)) Oi set_list)))) (aq (aF (pv 1))))),?_⟩;dsimp only[ou,eU];refine⟨_,rfl,_,_,_,_,rfl,rfl,cD.of ha,rfl,(n:Int),rfl,by lia,by lia,?_⟩;rw[ai4];refine rF (fun σ=>∃x,σ=[x]) n (fun i=>.int 0) ⟨none,rfl⟩ (fun i ahq hi e3=>hi) (fun ahq e3=>aiN _) (by rw[aje];lia) ?_ ?_
 .rintro agA i x lK ahq aiv N hi e3 hD ⟨x1,rfl⟩ ⟨rfl,rfl⟩ fin;exact fin _ _ _ ⟨_,rfl⟩ (aC.refl _) .int
 intro f ys ahq hf e3 hy dy;have z0:(aiY n).map (fun _=>amU 0)=((aiY n).map fun p=>((nb [] p:Nat):Int)).map .int:=by rw[ajG];rfl
 rw[z0]at dy;rw[dy.ints_of]at hy;refine⟨_,rfl,_,_,_,_,rfl,rfl,cD.of (e3 _ _ ha),rfl,tl,rfl,⟨xs,bk.of (e3 _ _ hl)⟩,?_⟩;refine fP ts.length (fun i σ H'=>∃v2 v3 v4,σ=[some (.ref a),some (.ref f),v2,v3,v4]∧aC H H'∧H' f=some (.lst (((aiY n).map fun p=>((nb (ts.take i) p:Nat):Int)).map .int))) ⟨_,_,_,rfl,e3,hy⟩ ?_ ?_ ?_ ?_
 .rintro i σ H' hi ⟨v2,v3,v4,rfl,e,hg⟩;have hx:i<xs.length:=by lia
  exact⟨xs,xs[i],bk.of (e _ _ hl),aiG hx⟩
 .rintro σ H' ⟨v2,v3,v4,rfl,e,hg⟩;exact⟨xs,bk.of (e _ _ hl),by lia⟩
 .rintro i x σ aiv agU hi ⟨v2,v3,v4,rfl,e,hg⟩ ⟨rfl,hx⟩;obtain⟨t,nZ⟩:∃t,ts[i]?=some t:=⟨ts[i],aiG hi⟩;obtain⟨ta,hxa,Nz⟩:=uE (dl.mono e) nZ;have hx2:=hx xs (bk.of (e _ _ hl));rw[hxa]at hx2;cases hx2;have htk:ts.take (i+1)=ts.take i++[t]:=by rw[akv,nZ];rfl
  obtain⟨pa,pb,pc,rfl,h1,h2,h3,h4,h5,h6⟩:=htt t (ajo nZ);obtain⟨pa,rfl⟩:∃m:Nat,pa=m:=⟨pa.toNat,by lia⟩;obtain⟨pb,rfl⟩:∃m:Nat,pb=m:=⟨pb.toNat,by lia⟩;refine⟨ta,_,rfl,cD.of Nz,rfl,_,_,rfl,_,_,rfl,_,_,rfl,rfl,?_⟩;have sh:∀b:Nat,(1:Int)*2^((b:Int)).toNat=((2^b:Nat):Int):=fun b=>by rw[apF,ai4];exact_mod_cast rfl
  have ix:∀{g:Nat->Int} {b:Nat},b<n->XF (((aiY n).map g).map V.int).length (b:Int)=some b:=fun{g b} hb=>by simp only[aiJ,ajZ];unfold XF;rw[aiP (by lia),aiP (by lia)];congr 1
  refine⟨_,rfl,_,rfl,f,_,pa,.int ((nb (ts.take i) pa:Nat):Int),rfl,rfl,bk.of hg,?_,_,rfl,_,_,rfl,rfl,⟨by lia,by lia,by decide⟩,_,_,rfl,rfl,f,_,_,pa,rfl,rfl,hg,ix (by lia),?_⟩
  .rw[ai6,ai6,al1 (by lia)];rfl
  have hg1:upd agU f (.lst ((((aiY n).map fun p=>((nb (ts.take i) p:Nat):Int)).map V.int).set pa (V.int (((nb (ts.take i) pa:Nat):Int)+1*2^((pb:Int)).toNat)))) f=some (.lst (((aiY n).map fun p=>((nb (ts.take i) p+(if pa=p then 2^pb else 0):Nat):Int)).map .int)):=by
   rw[aA,←auU,set_range (f':=fun p=>((nb (ts.take i) p+(if pa=p then 2^pb else 0):Nat):Int))]
   .intro g hgk;rw[aiL (fun z=>hgk z.symm),anu]
   .rw[aiP rfl,sh,aqy]
  have e1:aC H (upd agU f (.lst ((((aiY n).map fun p=>((nb (ts.take i) p:Nat):Int)).map V.int).set pa (V.int (((nb (ts.take i) pa:Nat):Int)+1*2^((pb:Int)).toNat))))):=e.put hf;refine⟨_,rfl,_,rfl,f,_,pb,.int ((nb (ts.take i) pb+(if pa=pb then 2^pb else 0):Nat):Int),rfl,rfl,bk.of hg1,?_,_,rfl,_,_,rfl,rfl,⟨by lia,by lia,by decide⟩,_,_,rfl,rfl,f,_,_,pb,rfl,rfl,hg1,ix (by lia),_,_,_,rfl,e1.put hf,?_⟩
  .rw[ai6,ai6,al1 (by lia)];rfl
  .rw[aA,←auU,set_range (f':=fun p=>((nb (ts.take (i+1)) p:Nat):Int))]
   .intro g hgk;rw[htk,Ut];show _=((nb (ts.take i) g+((if pa=g then 2^pb else 0)+(if pb=g then 2^pa else 0)):Nat):Int);rw[aiL (fun z:pb=g=>hgk z.symm),anu]
   .rw[htk,Ut];show((nb (ts.take i) pb+((if pa=pb then 2^pb else 0)+(if pb=pb then 2^pa else 0)):Nat):Int)=_;rw[aiP rfl,sh,←arA];exact aqy _ _
 .rintro σ H' ⟨v2,v3,v4,rfl,e,hg⟩;rw[akt]at hg;exact⟨_,rfl,q f H' hf e hg⟩
theorem wL {f:Str}{v:V}{fs:List (Str×V)}{n:Nat}(h:fs.length<=n):(cM f v fs).length<=n+1:=by have:=rN f v fs;lia
theorem Jx:aU ["self","web","kind","bound"] ["self","web","kind","bound"] (aB sS):=⟨rfl,rfl,rfl,by decide+kernel,rfl,by decide+kernel,by decide+kernel⟩
theorem Jy (T:Txt K mg A D){k:Nat}(fL:aP P w K mg base (cI P w) k A.fB D.fB ["places"] H6)(lE:aP P w K mg base (cI P w) k A.d7 D.d7 ["web"] YB)(mY:aP P w K mg base (cI P w) k A.fU D.fU ["web"] TV):aP P w K mg base (cI P w) (k+1) A.fC D.fC ["self","web","kind","bound"] (Ad A.Walk):=by
 refine T.oW.pH Jx (fun vs H Q E h=>?_) (fun cdv A' outer s H vs Q E hr h=>?_)
 .obtain⟨_,_,_,_,rfl,_⟩:=h;rfl
 obtain⟨x,dx,v,W,rfl,hx,dv,hw,win,hn,q⟩:=h;obtain⟨a,tl0,xs,rfl,ha,hl,dl⟩:=jr dv;have ax:a≠x:=fun z=>by rw[z,hx]at ha;cases ha
 have stay:∀{ahl:ag4} {o:HO},aC (mask x H) ahl->aC (mask x H) (upd ahl x o):=fun{ahl o} e b u z=>by have:=(pN z).1;rw[aO this];exact e b u z
 have dwm:Dat (mask x H) (rJ W.n W.ts) (.ref a):=by refine Ph ((mO ax).trans ha) ((mO fun z=>by rw[z,hx]at hl;cases hl).trans hl) (GC (fun c ys z=>?_) dl);exact(mO fun y=>by rw[y,hx]at z;cases z).trans z
 have hC:=T.bO;refine⟨_,(ao (w7 (pv 0) (bA bG (pv 1) ak (fun _ _=>rfl)) rfl) (ao (w7 (pv 0) (aG gZ (aD fL hr rfl T.zz T.je.kp T.zA .nil aL (aa (bA bG (pv 1) ak (fun _ _=>rfl)) aj)) ak) rfl) (ao (w7 (pv 0) (pv 2) rfl) (ao (w7 (pv 0) (pv 3) rfl) (ao (w7 (pv 0) (aD lE hr rfl T.Eu T.il.kp T.Ew .nil aL (aa (pv 1) aj)) rfl) (aq (w7 (pv 0) (aD mY hr rfl T.I7 T.jF.kp T.I8 .nil aL (aa (pv 1) aj)) rfl))))))),?_⟩;dsimp only[ou,eU];refine⟨_,rfl,_,_,_,_,rfl,rfl,cD.of ha,rfl,_,rfl,x,A.Walk,dx,_,rfl,hx,hC,T.eV,(by show 0<1000;decide),?_⟩;have e1:aC (mask x H) (upd H x (.ins A.Walk dx (cM "places" (.int W.n) []))):=stay jc;have ha1:=e1 _ _ ((mO ax).trans ha);have l1:∀{v:V},(cM "places" v []).length<=1:=wL (ajW _);have l2:∀{v v':V},(cM "every" v (cM "places" v' [])).length<=2:=wL l1;have l3:∀{v v' v'':V},(cM "kind" v (cM "every" v' (cM "places" v'' []))).length<=3:=wL l2;have l4:∀{v v' v'' v3:V},(cM "bound" v (cM "kind" v' (cM "every" v'' (cM "places" v3 [])))).length<=4:=wL l3;have l5:∀{v v' v'' v3 v4:V},(cM "out" v (cM "bound" v' (cM "kind" v'' (cM "every" v3 (cM "places" v4 []))))).length<=5:=wL l4;refine⟨_,rfl,_,_,_,_,rfl,rfl,cD.of ha1,rfl,W.n,rfl,by lia,_,_,rfl,rfl,_,rfl,x,A.Walk,dx,_,rfl,aA,hC,T.mW,amd l1 (by decide),?_⟩;refine⟨_,rfl,_,rfl,x,A.Walk,dx,_,rfl,aA,hC,T.dw,amd l2 (by decide),?_⟩;refine⟨_,rfl,_,rfl,x,A.Walk,dx,_,rfl,aA,hC,T.fV,amd l3 (by decide),?_⟩;have e4:=stay (o:=.ins A.Walk dx (cM "bound" (.int W.bd) (cM "kind" (.str W.kd) (cM "every" (.int (((2^W.n:Nat):Int)-1)) (cM "places" (.int W.n) []))))) (stay (o:=.ins A.Walk dx (cM "kind" (.str W.kd) (cM "every" (.int (((2^W.n:Nat):Int)-1)) (cM "places" (.int W.n) [])))) (stay (o:=.ins A.Walk dx (cM "every" (.int (((2^W.n:Nat):Int)-1)) (cM "places" (.int W.n) []))) e1));refine⟨_,rfl,.ref a,W.n,W.ts,rfl,dwm.mono e4,hw,win,hn,fun ol agU hol e5 ho5=>⟨_,rfl,x,A.Walk,dx,_,rfl,e5 _ _ aA,hC,T.rn,amd l4 (by decide),?_⟩⟩;have olx:ol≠x:=(bV aA hol).symm;have e6:=stay (o:=.ins A.Walk dx (cM "out" (.ref ol) (cM "bound" (.int W.bd) (cM "kind" (.str W.kd) (cM "every" (.int (((2^W.n:Nat):Int)-1)) (cM "places" (.int W.n) [])))))) (e4.trans e5);refine⟨_,rfl,.ref a,W.n,W.ts,rfl,dwm.mono e6,hw,win,hn,fun tl ahC htl e7 ht7=>⟨_,rfl,x,A.Walk,dx,_,rfl,e7 _ _ aA,hC,T.lY,amd l5 (by decide),?_⟩⟩;have tlx:tl≠x:=(bV aA htl).symm;refine q _ (stay (e6.trans e7)) ⟨dx,ol,tl,aA,?_,?_⟩
 .rw[aO olx];exact e7 _ _ ((aO olx).trans ho5)
 .rw[aO tlx];exact ht7
theorem wM:aU ["self"] ["self"] (aB kh):=⟨rfl,rfl,rfl,by decide+kernel,rfl,by decide+kernel,by decide+kernel⟩
theorem wN (T:Txt K mg A D){k:Nat}:aP P w K mg base (cI P w) (k+1) A.bT D.bT ["self"] (Ib A.Walk):=by
 refine T.fG.pH wM (fun vs H Q E h=>?_) (fun cdv A' outer s H vs Q E hr h=>?_)
 .obtain⟨_,_,rfl,_⟩:=h;rfl
 obtain⟨x,W,rfl,hW,q⟩:=h;obtain⟨dx,ol,tl,hx,ho,ht⟩:=hW;refine⟨_,(ao (bF (aJ dW (gn (pv 0) rfl) b7 (aQ _)) (aq (aF (bL (aa ak (aa ak aj))))) aM) (aq (aF (bL (aa ak (aa (bL aj) aj)))))),?_⟩;dsimp only[ou,eU];refine⟨_,rfl,x,A.Walk,dx,_,_,rfl,hx,T.bO,T.dw,j8 _ _ _,rfl,_,rfl,ite_str (fun c=>?_) fun c=>?_⟩
 .refine⟨(by show 2<=aiV;decide),fun p hp=>?_⟩;obtain⟨s1,n1⟩:=au (o:=.tup [V.int 0,V.int 0]) hp;refine q p _ s1 ?_;rw[uK c];unfold cj;rw[aiP c];exact⟨0,rfl,n1⟩
 .refine⟨(by show 0<=aiV;decide),fun p hp=>⟨(by show 2<=aiV;decide),fun p2 hp2=>?_⟩⟩;obtain⟨s1,n1⟩:=au (o:=.tup []) hp;obtain⟨s2,n2⟩:=au (o:=.tup [V.int 0,V.ref p]) hp2;refine q p2 _ (s1.trans s2) ?_;rw[xK c];unfold cj;rw[aiL c];exact⟨p,n2,s2 _ _ n1⟩
theorem jV:aU ["self","pair","place","gone","last"] ["self","pair","place"] (aB kj):=⟨rfl,rfl,rfl,by decide+kernel,rfl,by decide+kernel,by decide+kernel⟩
theorem wO (T:Txt K mg A D){k:Nat}(wQ:aP P w K mg base (cI P w) k A.q7 D.q7 ["places"] TQ):aP P w K mg base (cI P w) (k+1) A.cG D.cG ["self","pair","place"] (Y7 A.Walk):=by
 refine T.fH.pH jV (fun vs H Q E h=>?_) (fun cdv A' outer s H vs Q E hr h=>?_)
 .obtain⟨_,_,_,_,_,_,rfl,_⟩:=h;rfl
 obtain⟨x,q,W,ky,d,p,rfl,hW,ahf,hk,pk,ok,hp,hb,qn,qs⟩:=h;obtain⟨dx,ol,tl,hx,ho,ht⟩:=hW;have Qn:¬W.kd="total":=by rw[hk];decide
 rw[xK Qn]at pk qs;obtain⟨c,hq,hc⟩:∃c,H q=some (.tup [.int ky.1,.ref c])∧H c=some (.tup (ky.2.map V.int)):=pk;obtain⟨o1,o2⟩:=ok.oth Qn;have hn:=ahf.n5;have hS:=rP hn ok.lt;have aiu:∀p∈ky.2,0<=p∧p<5:=fun y hy=>by have:=o1 y hy;lia
 obtain⟨S,eS⟩:∃S:Nat,ky.1=S:=⟨ky.1.toNat,by have:=ok.s0;lia⟩;have eS':ky.1.toNat=S:=by lia
 rw[eS']at hb qn qs hS;unfold pZ at qn qs;refine⟨_,(ao (bF (aJ acA (gn (pv 0) rfl) (aG gZ (gn (pv 0) rfl) ak) (aQ _)) (aq (aF (bL aj))) aM) (ao (aR (i:=3) jV.nd rfl (ajp rfl) (aG Hu (bA bG (pv 1) ak (fun _ _=>rfl)) (rM Xo (aD wQ hr rfl T.Z9 T.sU.kp T.aaa .nil aL (aa (bA bG (pv 1) ak (fun _ _=>rfl)) aj))))) (ao (bF (aJ vA (aG Hu (bA dX (gn (pv 0) rfl) (pv 2) (fun _ _=>rfl)) (pv 3)) ak (aQ _)) (aq (aF o8)) aM) (ao (aR (i:=4) jV.nd rfl (ajp rfl) (aG BP (bA bG (pv 1) ak (fun _ _=>rfl)) (bL (aa (pv 2) aj)))) (ao (bF (aJ Aw (aK di rfl T.rH alu (aa (pv 4) aj)) (gn (pv 0) rfl) (aQ _)) (aq (aF (pv 4))) aM) (ao (bF (aJ vA (aG Hu (bA dX (gn (pv 0) rfl) (bA bG (pv 4) ak (fun _ _=>rfl)) (fun _ _=>rfl)) (rM Xo (aG Su (bA bG (pv 1) ak (fun _ _=>rfl)) (aG uB ak (pv 2))))) ak (aQ _)) (aq (aF o8)) aM) (aq (aF (lL Hv (pv 4) (oE ak) oA))))))))),?_⟩;dsimp only[ou,eU];refine az _ rfl (yL x A.Walk dx _ _ rfl hx T.bO T.fV (qO _ _ _) (az _ rfl (yL x A.Walk dx _ _ rfl hx T.bO T.eV (oN _ _ _) (bU _ _ rfl rfl (bU _ _ rfl rfl (az _ rfl (nH (fun c1=>?_) fun c1=>?_)))))))
 .refine⟨(by show 0<=aiV;decide),fun r hr=>?_⟩;obtain⟨s1,n1⟩:=au (o:=.tup []) hr;exact qs [] (aiP c1) _ _ s1 ⟨r,rfl,n1⟩
 rw[aiL c1]at qn;refine az _ rfl (mj _ _ _ _ rfl rfl (cD.of hq) rfl (az _ rfl (mj _ _ _ _ rfl rfl (cD.of hq) rfl ⟨c,ky.2,rfl,hc,aiu,(by lia),(fun H1 e1=>?_)⟩)));refine az _ rfl (bU _ _ rfl rfl ?_);have eg:alP ky.1 (anW ((pY ky.2:Nat):Int))=((less S (pY ky.2):Nat):Int):=by rw[eS];exact less_int S hS _ (qK aiu)
 dsimp only;rw[eg];have hx1:=e1 _ _ hx;have ht1:=e1 _ _ ht;have hq1:=e1 _ _ hq;have hc1:=e1 _ _ hc;refine az _ rfl (yL x A.Walk dx _ _ rfl hx1 T.bO T.lY (G4 _ _ _) (az _ rfl (mj tl _ _ _ rfl rfl (bk.of ht1) (aeZ hp) (az _ rfl (iV _ _ rfl rfl rfl (az _ rfl (acN (Vl _ (acM ahf hp) _ (abn _ hS _ (qK aiu))) (fun c2=>?_) fun c2=>?_)))))))
 .exact qn (aiP c2) H1 e1
 have c2':¬clash (nb W.ts p) (less S (pY ky.2))=true:=by rw[c2];exact aiW
 rw[aiL c2']at qn;refine az _ rfl (mj _ _ _ _ rfl rfl (cD.of hq1) rfl (c7 _ rfl (by show 1<=aiV;decide) (fun u hu=>?_)));obtain⟨s2,n2⟩:=au (o:=.tup [V.int (p:Int)]) hu;refine Ih (cD.of (s2 _ _ hc1)) n2 (ant _ _) (by rw[aiJ,aje];show _+1<=_;lia) fun la ahq e3' hla=>?_;have e3:=(e1.trans s2).trans e3';have hla:ahq la=some (.tup ((ky.2++[(p:Int)]).map V.int)):=by rw[hla,ajf];rfl
 have hx3:=e3 _ _ hx;have hlen:(((ky.2++[(p:Int)]).map V.int).length:Int)=((ky.2.length+1:Nat):Int):=by rw[aiJ,aiZ];rfl
 refine az _ rfl (bU la _ rfl (.inr (cD.of hla)) (az _ rfl (yL x A.Walk dx _ _ rfl hx3 T.bO T.fV (qO _ _ _) (bU _ _ rfl rfl (az _ rfl (nH (fun c3=>?_) fun c3=>?_))))))
 .rw[hlen]at c3;exact⟨_,rfl,qs _ (by rw[aiL c1,aiL c2',aiP c3]) _ _ e3 ⟨la,rfl,hla⟩⟩
 rw[hlen]at c3;rw[aiL c3]at qn;obtain⟨h0,hh0,hhn⟩:∃h0:Nat,(ky.2++[(p:Int)]).headD 0=h0∧h0<W.n:=by
  have hm:(ky.2++[(p:Int)]).headD 0∈ky.2++[(p:Int)]:=by
   cases ky.2 with
   |nil=>exact .head _
   |cons y r=>exact .head _
  have:0<=(ky.2++[(p:Int)]).headD 0∧(ky.2++[(p:Int)]).headD 0<(W.n:Int):=by
   rcases ai1.mp hm with z|z
   .exact o1 _ z
   .rw[ai5.mp z];lia
  exact⟨((ky.2++[(p:Int)]).headD 0).toNat,by lia,by lia⟩
 have hat:Ek ((ky.2++[(p:Int)]).map V.int) 0=some (.int (h0:Int)):=by
  rw[←hh0];cases ky.2 with
  |nil=>rfl
  |cons y r=>exact qD rfl
 rw[hh0,ai4]at qn;have eo:ams ky.1 (1*2^((p:Int)).toNat)=((S+2^p:Nat):Int):=by
  have e1:(1:Int)*2^((p:Int)).toNat=((2^p:Nat):Int):=by rw[apF,ai4];exact_mod_cast rfl
  rw[e1,eS,or_int S hS p (by lia),YM S hS p (by lia) hb]
 have hS2:S+2^p<32:=rP hn (tG _ (by lia) _ (by rw[←eS'];exact ok.lt) p hp hb);have en:alP ((nb W.ts h0:Nat):Int) (anW (ams ky.1 (1*2^((p:Int)).toNat)))=0↔iJ (nb W.ts h0) (S+2^p)=false:=by rw[eo];exact PB _ (acM ahf hhn) _ hS2
 refine az _ rfl (yL x A.Walk dx _ _ rfl hx3 T.bO T.lY (G4 _ _ _) (az _ rfl (mj _ _ _ _ rfl rfl (cD.of hla) hat (mj tl _ _ _ rfl rfl (bk.of (e3 _ _ ht)) (aeZ hhn) (az _ rfl (mj _ _ _ _ rfl rfl (cD.of (e3 _ _ hq)) rfl (az _ rfl (iV _ _ rfl rfl ⟨by lia,by lia,by decide⟩ (bU _ _ rfl rfl (az _ rfl (iV _ _ rfl rfl rfl (az _ rfl (acN en (fun c4=>?_) fun c4=>?_)))))))))))))
 .exact qn (aiP c4) ahq e3
 have c4':¬iJ (nb W.ts h0) (S+2^p)=true:=by rw[c4];exact aiW
 refine az _ rfl (az _ rfl (iV la _ rfl (cD.of hla) (fun z=>?_) (fun r hr=>?_)))
 .have z1:HT.jn ((ky.2++[(p:Int)]).map V.int).length 0 (some ((1:Nat):Int))=0:=z.1;rw[HT.zX,aiJ,aiZ]at z1;simp at z1
 .obtain⟨s5,n5⟩:=au (o:=.tup (jZ ((ky.2++[(p:Int)]).map V.int) (some 1) none)) hr;refine qs ((ky.2++[(p:Int)]).tail) (by rw[aiL c1,aiL c2',aiL c3,hh0,ai4,aiL c4']) _ _ (e3.trans s5) ⟨r,rfl,?_⟩;rw[n5,show(some (1:Int))=some ((1:Nat):Int)from rfl,lO,←aoC,auI]
theorem gH:aU ["self","pair","place","lies"] ["self","pair","place"] (aB ie):=⟨rfl,rfl,rfl,by decide+kernel,rfl,by decide+kernel,by decide+kernel⟩
theorem s8 (T:Txt K mg A D){k:Nat}(gV:aP P w K mg base (cI P w) k A.cG D.cG ["self","pair","place"] (Y7 A.Walk)):aP P w K mg base (cI P w) (k+1) A.bM D.bM ["self","pair","place"] (acL A.Walk):=by
 refine T.dh.pH gH (fun vs H Q E h=>?_) (fun cdv A' outer s H vs Q E hr h=>?_)
 .obtain⟨_,_,_,_,_,_,rfl,_⟩:=h;rfl
 obtain⟨x,q,W,ky,d,p,rfl,hW,ahf,pk,ok,hp,hb,qn,qs⟩:=h;obtain⟨dx,ol,tl,hx,ho,ht⟩:=id hW;obtain⟨mv,hq,Jz⟩:=aY.val pk;have hn:=ahf.n5;have hS:=rP hn ok.lt;obtain⟨S,eS⟩:∃S:Nat,ky.1=S:=⟨ky.1.toNat,by have:=ok.s0;lia⟩;have eS':ky.1.toNat=S:=by lia
 have hlt:S+2^p<2^W.n:=tG _ (by lia) _ (by rw[←eS'];exact ok.lt) p hp (by rw[←eS'];exact hb);have hor:=Y8 (p:=p) eS (by rw[←eS'];exact hS) (by lia) (by rw[←eS'];exact hb);have hout:Ek ((outs W).map V.int) (ams ky.1 (1*2^((p:Int)).toNat))=some (.int (dB W.ts (S+2^p))):=by rw[hor];exact ae0 hlt
 refine⟨_,(ao (bF (aJ dW (gn (pv 0) rfl) b7 (aQ _)) (aq (aF (tB (pv 0) T.bO T.wj gV hr T.yo .nil aL (aa (pv 1) (aa (pv 2) aj))))) aM) (ao (aR (i:=3) gH.nd rfl (ajp rfl) (bA dX (gn (pv 0) rfl) (aG Su (bA bG (pv 1) ak (fun _ _=>rfl)) (aG uB ak (pv 2))) (fun _ _=>rfl))) (ao (bF (aJ dW (gn (pv 0) rfl) b7 (aQ _)) (aq (acY (i:=3) gH.nd rfl (ajp rfl) (bA bG (pv 1) ak (fun _ _=>rfl)) Oi)) aM) (ao (bF (aJ Sy (pv 3) (gn (pv 0) rfl) (aQ _)) (aq (aF o8)) aM) (aq (aF (dU (aJ dW (gn (pv 0) rfl) b7 (aQ _)) (pv 3) (bL aj)))))))),?_⟩;dsimp only[ou,eU];refine⟨_,rfl,x,A.Walk,dx,_,_,rfl,hx,T.bO,T.dw,j8 _ _ _,rfl,_,rfl,ite_str (fun c=>?_) fun c=>?_⟩
 .refine⟨_,rfl,x,dx,_,rfl,hx,oO _ _ _ (by decide+kernel) (by decide+kernel) (by decide+kernel) (by decide+kernel) (by decide+kernel) (by decide+kernel),_,rfl,_,rfl,x,q,W,ky,d,p,rfl,hW,ahf,c,pk,ok,hp,hb,fun z=>qn ?_,fun m z=>qs m ?_⟩
  .unfold jh;rw[aiP c];exact z
  .unfold jh;rw[aiP c];exact z
 unfold jh at qn qs;rw[aiL c]at qn;rw[eS']at qn qs;refine⟨_,rfl,x,A.Walk,dx,_,_,rfl,hx,T.bO,T.rn,Y6 _ _ _,_,rfl,_,_,_,_,rfl,rfl,cD.of hq,rfl,_,rfl,_,_,rfl,rfl,⟨by lia,by lia,by decide⟩,_,_,rfl,rfl,ol,_,_,_,rfl,rfl,bk.of ho,hout,?_⟩;refine⟨_,rfl,x,A.Walk,dx,_,_,rfl,hx,T.bO,T.dw,j8 _ _ _,rfl,_,rfl,ite_str (fun c2=>?_) fun c2=>?_⟩
 .rw[uK c2]at Jz;obtain⟨m0,em,rfl⟩:∃z:Int,ky.2=[z]∧mv=.int z:=Jz;rw[em]at qn qs;rw[aiP c2]at qn;refine⟨_,rfl,_,rfl,_,_,_,_,rfl,rfl,cD.of hq,rfl,_,_,rfl,rfl,?_⟩;refine⟨_,rfl,_,rfl,x,A.Walk,dx,_,_,rfl,hx,T.bO,T.fV,qO _ _ _,_,_,rfl,rfl,_,rfl,nH (fun c3=>?_) fun c3=>?_⟩
  .refine qn (aiL ?_) H (aC.refl _);have c3':dB W.ts (S+2^p)+m0>W.bd:=c3;show¬dB W.ts (S+2^p)+m0<=W.bd;lia
  .refine⟨_,rfl,x,A.Walk,dx,_,_,rfl,hx,T.bO,T.dw,j8 _ _ _,rfl,_,rfl,oG (congrArg V.str c2) ⟨_,rfl,?_⟩⟩;refine qs [dB W.ts (S+2^p)+m0] ?_ _ H (aC.refl _) ?_
   .rw[aiL c,aiP c2];refine aiP ?_;have c3':¬dB W.ts (S+2^p)+m0>W.bd:=c3;show dB W.ts (S+2^p)+m0<=W.bd;lia
   .rw[uK c2];exact⟨_,rfl,rfl⟩
 .rw[aiL c2]at qn;refine⟨_,rfl,_,rfl,x,A.Walk,dx,_,_,rfl,hx,T.bO,T.fV,qO _ _ _,_,_,rfl,rfl,_,rfl,nH (fun c3=>?_) fun c3=>?_⟩
  .refine qn (aiL ?_) H (aC.refl _);lia
  .refine⟨_,rfl,x,A.Walk,dx,_,_,rfl,hx,T.bO,T.dw,j8 _ _ _,rfl,_,rfl,pU (fun z=>c2 (V.str.inj z)) ⟨(by show 0<=aiV;decide),fun r hr=>?_⟩⟩;obtain⟨s1,n1⟩:=au (o:=.tup []) hr;refine qs [] ?_ _ _ s1 ?_
   .rw[aiL c,aiL c2];exact aiP (by lia)
   .rw[xK c2];exact⟨r,rfl,n1⟩
theorem lF:aU ["self","pair","found","place","matters"] ["self","pair"] (aB qZ):=⟨rfl,rfl,rfl,by decide+kernel,rfl,by decide+kernel,by decide+kernel⟩
theorem FW (T:Txt K mg A D){k:Nat}(gU:aP P w K mg base (cI P w) k A.holds D.holds ["some","place"] z7)(eZ:aP P w K mg base (cI P w) k A.bM D.bM ["self","pair","place"] (acL A.Walk)):aP P w K mg base (cI P w) (k+1) A.dJ D.dJ ["self","pair"] (Ie A.Walk):=by
 refine T.jT.pH lF (fun vs H Q E h=>?_) (fun cdv A' outer s H vs Q E hr h=>?_)
 .obtain⟨_,_,_,_,_,rfl,_⟩:=h;rfl
 obtain⟨x,q,W,ky,d,rfl,hW,ahf,pk,ok,qq⟩:=h;obtain⟨dx,ol,tl,hx,ho,ht⟩:=id hW;obtain⟨mv,hq,Jz⟩:=aY.val pk;have hn:=ahf.n5;have hS:=rP hn ok.lt;obtain⟨S,eS⟩:∃S:Nat,ky.1=S:=⟨ky.1.toNat,by have:=ok.s0;lia⟩;have eS':ky.1.toNat=S:=by lia
 refine⟨_,(ao (aR (i:=2) lF.nd rfl (ajp rfl) (bQ aj)) (ao (fO aX rfl (fj rfl T.gh (aa (gn (pv 0) rfl) aj)) (aH (i:=3) lF.nd rfl (ajp rfl)) (aq (bF (f9 (fc (aD gU hr rfl T.Ag T.oV.kp T.Ah .nil aL (aa (bA bG (pv 1) ak (fun _ _=>rfl)) (aa (pv 3) aj))))) (ao (aR (i:=4) lF.nd rfl (ajp rfl) (tB (pv 0) T.bO T.sX eZ hr T.ue .nil aL (aa (pv 1) (aa (pv 3) aj)))) (aq (bF (wY (Sg (pv 4))) (aq (jj (rO ajU ali alO mZ (pv 2) (aa (bL (aa (pv 3) (aa (bL (aa (aG Su (bA bG (pv 1) ak (fun _ _=>rfl)) (aG uB ak (pv 3))) (aa (pv 4) aj))) aj))) aj)))) aM))) aM))) (aq (aF (pv 2))))),?_⟩;dsimp only[ou,eU];refine⟨(by show 0<=aiV;decide),fun f hf=>?_⟩;obtain⟨s0,n0⟩:=au (o:=.lst []) hf;refine⟨_,rfl,x,A.Walk,dx,_,_,rfl,s0 _ _ hx,T.bO,T.eV,oN _ _ _,(W.n:Int),rfl,by lia,by lia,?_⟩;rw[ai4];refine fP W.n (fun i σ H'=>∃v3 v4 xs,σ=[some (.ref x),some (.ref q),some (.ref f),v3,v4]∧aC H H'∧H' f=some (.lst xs)∧tM (flag W) H' (gf W ky i) xs) ⟨none,none,[],rfl,s0,n0,.nil⟩ (fun i σ H' hi _=>hi) (fun σ H' _=>aiN _) ?_ ?_
 .rintro i y σ aiv agU hi ⟨v3,v4,xs,rfl,e,hf5,st⟩ ⟨rfl,rfl⟩;have ei:(0:Int)+(i:Nat)=i:=by lia
  rw[ei];have hlen:xs.length<=5:=by have:=al8 st;have:=xJ W ky i;lia
  have hq5:=e _ _ hq;refine⟨_,rfl,_,_,_,_,rfl,rfl,cD.of hq5,rfl,_,rfl,S,i,by rw[eS];rfl,by lia,_,rfl,?_⟩;cases hb:bit S i with
  |true=>
   refine cN ⟨_,_,xs,rfl,e,hf5,?_⟩;have hs:stepK W ky i=none:=by unfold stepK;rw[eS',aiP hb]
   rw[uJ,hs,alb];exact st
  |false=>
   refine dY ⟨_,rfl,x,dx,_,rfl,e _ _ hx,oO _ _ _ (by decide+kernel) (by decide+kernel) (by decide+kernel) (by decide+kernel) (by decide+kernel) (by decide+kernel),_,rfl,_,rfl,x,q,W,ky,d,i,rfl,hW.mono e,ahf,aY.mono pk e,ok,hi,(by rw[eS'];exact hb),fun z ag1 e6=>?_,fun m z v ag1 e6 hv=>?_⟩
   .refine⟨_,rfl,_,rfl,abq ⟨_,_,xs,rfl,e.trans e6,e6 _ _ hf5,?_⟩⟩;have hs:stepK W ky i=none:=by unfold stepK;rw[aiL (by rw[eS',hb];exact aiW),z];rfl
    rw[uJ,hs,alb];exact st.mono fun b ys h=>e6 _ _ h
   .have nv:v≠.non:=fun y=>by
     rw[y]at hv;unfold MV at hv;split at hv
     .obtain⟨_,_,z⟩:=hv;cases z
     .obtain⟨_,z,_⟩:=hv;cases z
    have hor:=Y8 (p:=i) eS (by rw[←eS'];exact hS) (by lia) hb;have hs:stepK W ky i=some (((S+2^i:Nat):Int),m):=by unfold stepK;rw[aiL (by rw[eS',hb];exact aiW),z,eS'];rfl
    refine⟨_,rfl,_,rfl,abp nv ?_⟩;have hf6:=e6 _ _ hf5;refine⟨_,rfl,.inl ⟨rfl,_,bk.of hf6⟩,_,rfl,_,rfl,_,_,_,_,rfl,rfl,cD.of (e6 _ _ hq5),rfl,_,rfl,_,_,rfl,rfl,⟨by lia,by lia,by decide⟩,_,_,rfl,rfl,_,rfl,(by show 2<=aiV;decide),fun t1 ht1=>⟨(by show 2<=aiV;decide),fun t2 ht2=>?_⟩⟩;dsimp only at ht1 ht2 ⊢;rw[hor]at ht2 ⊢;obtain⟨s1,n1⟩:=au (o:=.tup [V.int ((S+2^i:Nat):Int),v]) ht1;obtain⟨s2,n2⟩:=au (o:=.tup [V.int (i:Int),V.ref t1]) ht2;have s12:=s1.trans s2;have e8:=(e.trans e6).trans s12;refine⟨_,_,_,rfl,rfl,s12 _ _ hf6,by rw[aje];lia,_,_,_,rfl,e8.put hf,aA,?_⟩;rw[uJ,hs];have tup:∀b ys,upd (upd ag1 t1 (.tup [V.int ((S+2^i:Nat):Int),v])) t2 (.tup [V.int (i:Int),V.ref t1]) b=some (.tup ys)->upd (upd (upd ag1 t1 (.tup [V.int ((S+2^i:Nat):Int),v])) t2 (.tup [V.int (i:Int),V.ref t1])) f (.lst (xs++[.ref t2])) b=some (.tup ys):=fun b ys z=>by rw[aO (fun y=>by rw[y,s12 _ _ hf6]at z;cases z)];exact z
    refine ata ((st.mono fun b ys h=>s12 _ _ (e6 _ _ h)).mono tup) ⟨t2,t1,rfl,tup _ _ n2,?_⟩;exact aY.stay ((hv.mono s12).key (s2 _ _ n1)) tup
 .rintro σ H' ⟨v3,v4,xs,rfl,e,hf5,st⟩;exact⟨_,rfl,qq f xs H' hf e hf5 st⟩
theorem FZ:aU ["web","kind","bound"] ["web","kind","bound"] (aB qX):=⟨rfl,rfl,rfl,by decide+kernel,rfl,by decide+kernel,by decide+kernel⟩
theorem Ga (T:Txt K mg A D){k:Nat}(rz:aP P w K mg base (cI P w) k A.jx D.jx ["web"] (acJ A.er))(o5:aP P w K mg base (cI P w) k A.gO D.gO ["kind"] (Ys A.er))(aZ:aP P w K mg base (cI P w) k A.cz D.cz ["value","least","greatest"] pP):aP P w K mg base (cI P w) (k+1) A.dH D.dH ["web","kind","bound"] (Ig A.er):=by
 refine T.gQ.pH FZ (fun vs H Q E h=>?_) (fun cdv A' outer s H vs Q E hr h=>?_)
 .obtain⟨_,_,_,_,_,rfl,_⟩:=h;rfl
 obtain⟨v,n,ts,kd,bd,rfl,ask,q⟩:=h;obtain⟨tg,o6⟩:=T.lu;refine⟨_,(ao (jj (aD rz hr rfl T.Qx T.nR.kp T.Qy .nil pL (aa (pv 0) aj))) (ao (jj (aD o5 hr rfl T.Mm T.lV.kp T.Mp .nil pL (aa (pv 1) aj))) (aq (bF (f9 (fc (aD aZ hr rfl T.gw T.cR.kp T.gA .nil aL (aa (pv 2) (aa ak (aa (ji (v:=.int 1000000) rfl o6 ⟨_,rfl⟩) aj)))))) (aq (nu j6 rfl T.yf T.qm akF rfl (aa (vJ (cL iH (cL (Ye (ji (v:=.int 1000000) rfl o6 ⟨_,rfl⟩) (by decide)) pM))) aj))) aM)))),?_⟩;refine⟨_,rfl,v,n,ts,rfl,ask.dat,ask.win,fun hw H1 e1=>?_,fun hw H1 e1=>ask.ew hw H1 e1⟩;refine⟨_,rfl,kd,rfl,ask.k1,ask.k2,fun hk=>?_,fun hk=>ask.ek hw (fun z=>hk z.1) H1 e1⟩;refine⟨_,rfl,bd,0,1000000,rfl,_,rfl,?_⟩;cases e:(decide (0<=bd)&&decide (bd<=1000000))with
 |true=>rw[aiR]at e;exact cN (q hw hk (ai9 e.1) (ai9 e.2) H1 e1)
 |false=>refine dY ⟨⟨trivial,trivial,trivial⟩,by decide,fun x hx=>⟨(by show 1<=aiV;decide),ask.ek hw (fun z=>?_) _ e1⟩⟩;rw[aiQ z.2.1,aiQ z.2.2]at e;cases e
theorem dO:aU ["walk","layer","found","pair","ways","place","after"] ["walk","layer"] (aB nP):=⟨rfl,rfl,rfl,by decide+kernel,rfl,by decide+kernel,by decide+kernel⟩
theorem zO (T:Txt K mg A D){k:Nat}(eG:aP P w K mg base (cI P w) k A.dJ D.dJ ["self","pair"] (Ie A.Walk)):aP P w K mg base (cI P w) (k+1) A.dm D.dm ["walk","layer"] (Hh A.Walk):=by
 refine T.gB.pH dO (fun vs H Q E h=>?_) (fun cdv A' outer s H vs Q E hr h=>?_)
 .obtain⟨_,_,_,_,_,rfl,_⟩:=h;rfl
 obtain⟨x,a,W,d,L,rfl,hW,ahf,ha,lok,hlen,qq⟩:=h;obtain⟨dx,ol,tl,hx,ho,ht⟩:=id hW;have hn:=ahf.n5;refine⟨_,(ao (aR (i:=2) dO.nd rfl (ajp rfl) (J4 (flag W))) (ao (fO aX rfl (YK (pv 1)) (qx rfl (bw (aH (i:=3) dO.nd rfl (ajp rfl)) (bw (aH (i:=4) dO.nd rfl (ajp rfl)) iB))) (aq (fO aX rfl (cT (tB (pv 0) T.bO T.ux eG hr T.wk .nil aL (aa (pv 3) aj))) (qx rfl (bw (aH (i:=5) dO.nd rfl (ajp rfl)) (bw (aH (i:=6) dO.nd rfl (ajp rfl)) iB))) (aq (S8 (yX hr) (pv 2) (pv 6) (aG eQ (XQ (yX hr) (pv 2) (pv 6) ak ⟨rfl,rfl,rfl,rfl⟩) (pv 4)) rfl))))) (aq (aF (pv 2))))),?_⟩;dsimp only[ou,eU];refine fun f hf=>?_;obtain⟨s0,n0⟩:=au (o:=.dT (flag W) []) hf;refine az _ rfl (wJ a (flag W) (toV L) rfl (s0 _ _ ha) (fun o vw hvw=>?_));have xa:x≠a:=fun z=>by rw[z,ha]at hx;cases hx
 have fa:f≠a:=(bV ha hf).symm;have vwf:vw≠f:=fun z=>by rw[z,n0]at hvw;cases hvw
 have vwa:vw≠a:=fun z=>by rw[z,s0 _ _ ha]at hvw;cases hvw
 have wm:∀{ahl:ag4},aC (mask a H) ahl->WalkAt A.Walk ahl x W:=fun{ahl} e=>⟨dx,ol,tl,gK e hx xa,gK e ho (fun z=>by rw[z,ha]at ho;cases ho),gK e ht (fun z=>by rw[z,ha]at ht;cases ht)⟩;have bl:∀i,G3 W d (bD W [] (L.take i))∧(bD W [] (L.take i)).length<=50000:=fun i=>by
  obtain⟨z1,z2⟩:=G3.behind hn (d:=d) (L:=L.take i) (acc:=[]) ⟨alq,fun k hk=>ai8 hk aiX⟩ (fun k hk=>lok.ok k (by obtain⟨p,hp,e⟩:=ai'.mp hk;exact ai'.mpr ⟨p,aj1 hp,e⟩))
  refine⟨z1,ajt z2 ?_⟩;rw[ajC];show 0+5*_<=_;lia
 have tl0:(toV L).length=L.length:=aiJ _;refine fP L.length (fun i σ H'=>∃v3 v4 agT v6,σ=[some (.ref x),some (.ref a),some (.ref f),v3,v4,agT,v6]∧aC (mask a H) H'∧H' a=some (.uq o (.dT (flag W) (toV L)))∧H' f=some (.dT (flag W) (toV (bD W [] (L.take i))))) ⟨none,none,none,none,rfl,?_,aA,?_⟩ ?_ ?_ ?_ ?_
 .intro b u z;obtain⟨z1,z2⟩:=pN z;rw[aO z1,aO (bV (s0 _ _ z2) hvw)];exact s0 _ _ z2
 .rw[aO fa,aO (al3 vwf)];exact n0
 .rintro i σ H' hi ⟨v3,v4,agT,v6,rfl,e,h1,h2⟩;exact⟨by lia,h1⟩
 .rintro σ H' ⟨v3,v4,agT,v6,rfl,e,h1,h2⟩;exact⟨by lia,h1⟩
 .rintro i y σ H2 ahq hi ⟨v3,v4,agT,v6,rfl,e,h1,h2⟩ ⟨T1,q,ky,xv,rfl,hT1,rfl,hkv,pk⟩;obtain⟨c,rfl,hL⟩:=Y9 L hkv;obtain⟨s3,n3⟩:=au (o:=.tup [V.ref q,V.int c]) hT1;have e3:=e.trans s3;have kok:Er W (d+1) ky:=lok.ok ky (ai'.mpr ⟨_,ajo hL,rfl⟩);refine iV T1 _ rfl (cD.of n3) rfl (mC _ _ rfl (bU _ _ rfl rfl ?_));refine az _ rfl (acs x dx _ rfl (gK e3 hx xa) (oO _ _ _ (by decide+kernel) (by decide+kernel) (by decide+kernel) (by decide+kernel) (by decide+kernel) (by decide+kernel)) (az _ rfl (yL x q W ky (d+1) rfl (wm e3) ahf (aY.mono pk s3) kok (fun l xs aiv hl e4 hl4 st=>⟨l,rfl,⟨xs,bk.of hl4⟩,?_⟩))));have lf:l≠f:=(bV (s3 _ _ h2) hl).symm;have xl:=al8 st;have nl:=xJ W ky W.n;have ok2:∀y∈aW W ky,Er W d y.2:=fun y hy=>by
   obtain⟨z1,z2⟩:=m7 hy;obtain⟨e',e1,e2⟩:=kok.step hn z1 z2;have:d=e':=by lia
   subst this;exact e2
  have ml:∀j,G3 W d (cZ (bD W [] (L.take i)) c ((aW W ky).take j))∧(cZ (bD W [] (L.take i)) c ((aW W ky).take j)).length<=50010:=fun j=>by refine⟨(bl i).1.all c fun y hy=>ok2 y (aj1 hy),?_⟩;have:=Ac c ((aW W ky).take j) (bD W [] (L.take i));have:=(bl i).2;rw[ajC]at*;unfold aW at*;lia
  refine fP xs.length (fun j σ H'=>∃agT v6,σ=[some (.ref x),some (.ref a),some (.ref f),some (.ref q),some (.int c),agT,v6]∧aC (mask a H) H'∧H' a=some (.uq o (.dT (flag W) (toV L)))∧H' f=some (.dT (flag W) (toV (cZ (bD W [] (L.take i)) c ((aW W ky).take j))))∧H' l=some (.lst xs)∧tM (flag W) H' (aW W ky) xs) ⟨_,_,rfl,e3.trans e4,e4 _ _ (s3 _ _ h1),e4 _ _ (s3 _ _ h2),hl4,st⟩ ?_ ?_ ?_ ?_
  .rintro j σ H' hj ⟨agT,v6,rfl,e,g1,g2,g3,g4⟩;exact mC xs (xs[j]) (bk.of g3) (aiG hj)
  .rintro σ H' ⟨agT,v6,rfl,e,g1,g2,g3,g4⟩;exact⟨xs,bk.of g3,aiN _⟩
  .rintro j y σ agU ag1 hj ⟨agT,v6,rfl,e,g1,g2,g3,g4⟩ ⟨rfl,hy⟩;have hy2:=hy xs (bk.of g3);have hjn:j<(aW W ky).length:=by lia
   obtain⟨⟨p,k'⟩,hp⟩:∃z,(aW W ky)[j]?=some z:=⟨_,aiG hjn⟩;obtain⟨yv,hyv,t,q2,rfl,ht2,pk2⟩:=pX g4 hp;rw[hy2]at hyv;cases hyv;refine iV t _ rfl (cD.of ht2) rfl (mC _ _ rfl (bU _ _ rfl rfl ?_));refine az _ rfl (c7 f rfl (.inr ⟨flag W,_,.inl g2⟩) (az _ rfl (az _ (.inr ⟨flag W,_,k',q2,.inl g2,rfl,pk2,rfl⟩) ?_)));rw[(KN k' _).1];have afZ:=TJ k' c (ml j).1.nd;have hsn:(aW W ky).take (j+1)=(aW W ky).take j++[(p,k')]:=by rw[akv,hp];rfl
   have hll:(toV (cZ (bD W [] (L.take i)) c ((aW W ky).take j))).length<aiV:=by have:=(ml j).2;unfold toV;rw[aiJ,aje];lia
   refine az _ rfl (bU _ _ rfl rfl (az _ rfl (az _ rfl (bU f _ rfl (.inr ⟨flag W,_,k',q2,g2,rfl,pk2,hll,rfl⟩) ?_))));have fa':∀{b:aiM} {u:HO},mask a H b=some u->b≠f:=fun{b u} z y=>by rw[y]at z;rw[(pN z).2]at hf;cases hf
   have tup:∀b ys,ag1 b=some (.tup ys)->upd ag1 f (.dT (flag W) (putK (toV (cZ (bD W [] (L.take i)) c ((aW W ky).take j))) k' (.int (getL (cZ (bD W [] (L.take i)) c ((aW W ky).take j)) k'+c)))) b=some (.tup ys):=fun b ys z=>by rw[aO (fun y=>by rw[y,g2]at z;cases z)];exact z
   refine FQ _ _ rfl (fun b u z=>?_) ?_ ?_ ?_ (g4.mono tup)
   .rw[aO (fa' z)];exact e b u z
   .rw[aO (al3 fa)];exact g1
   .rw[aA];show some (HO.dT _ (putK _ k' (.int (getL _ k'+c))))=_;rw[afZ,hsn,KR]
   .rw[aO lf];exact g3
  .rintro σ H' ⟨agT,v6,rfl,e,g1,g2,g3,g4⟩;refine⟨_,_,_,_,rfl,e,g1,?_⟩;rw[g2,show(aW W ky).take xs.length=aW W ky from ajY (by lia),show L.take (i+1)=L.take i++[(ky,c)]from by rw[akv,hL];rfl,KY]
 .rintro σ H' ⟨v3,v4,agT,v6,rfl,e,h1,h2⟩;rw[akt]at h2;exact⟨_,rfl,qq f H' hf e (.inr ⟨o,h1⟩) h2⟩
theorem yM:aU ["walk","found","step"] ["walk"] (aB CX):=⟨rfl,rfl,rfl,by decide+kernel,rfl,by decide+kernel,by decide+kernel⟩
theorem Xc (T:Txt K mg A D){k:Nat}(cA:aP P w K mg base (cI P w) k A.bT D.bT ["self"] (Ib A.Walk))(jW:aP P w K mg base (cI P w) k A.dm D.dm ["walk","layer"] (Hh A.Walk)):aP P w K mg base (cI P w) (k+1) A.layers D.layers ["walk"] (Hi A.Walk):=by
 refine T.sW.pH yM (fun vs H Q E h=>?_) (fun cdv A' outer s H vs Q E hr h=>?_)
 .obtain⟨_,_,rfl,_⟩:=h;rfl
 obtain⟨x,W,rfl,hW,ahf,qq⟩:=h;obtain⟨dx,ol,tl,hx,ho,ht⟩:=id hW;have hn:=ahf.n5;refine⟨_,(ao (aR (i:=1) yM.nd rfl (ajp rfl) (bQ (aa (YL (flag W) (yX hr) (JR (pv 0) T.bO T.oX cA hr T.qp .nil aL) ak) aj))) (ao (fO aX rfl (fj rfl T.gh (aa (gn (pv 0) rfl) aj)) (aH (i:=2) yM.nd rfl (ajp rfl)) (aq (jj (rO ajU ali alO mZ (pv 1) (aa (aD jW hr rfl T.Dd T.gB.kp T.De .nil aL (aa (pv 0) (aa (bA dX (pv 1) (rM qz ak) (fun _ _=>rfl)) aj))) aj))))) (aq (aF (pv 1))))),?_⟩;dsimp only[ou,eU];refine fun p hp=>?_;obtain⟨s0,n0⟩:=au (o:=.dT (flag W) []) hp;refine⟨_,rfl,x,dx,_,rfl,s0 _ _ hx,oO _ _ _ (by decide+kernel) (by decide+kernel) (by decide+kernel) (by decide+kernel) (by decide+kernel) (by decide+kernel),x,W,rfl,hW.mono s0,fun q H2 e2 pk=>⟨_,_,_,q,rfl,rfl,e2 _ _ n0,pk,(by show 1<=aiV;decide),fun l hl=>?_⟩⟩;have e2':aC H (upd H2 p (.dT (flag W) [(cj W,.int 1)])):=(s0.trans e2).put hp;obtain⟨s3,n3⟩:=au (o:=.lst [V.ref p]) hl;have hlH:H l=none:=e2'.free hl;have e3:=e2'.trans s3;refine⟨_,rfl,x,A.Walk,dx,_,_,rfl,e3 _ _ hx,T.bO,T.eV,oN _ _ _,(W.n:Int),rfl,by lia,by lia,?_⟩;rw[ai4];have lay0:∀{ahl:ag4},ahl p=some (.dT (flag W) [(cj W,.int 1)])->ZW W ahl [p]:=fun hz i q hq=>by
  cases i with
  |zero=>have:p=q:=ajn hq;rw[←this];exact .inl hz
  |succ i=>cases hq
 refine fP W.n (fun i σ H'=>∃v2 ps p,σ=[some (.ref x),some (.ref l),v2]∧aC H H'∧H' l=some (.lst ((ps++[p]).map V.ref))∧ps.length=i∧H' p=some (.dT (flag W) (toV (bu W i)))∧ZW W H' (ps++[p])∧p∉ps∧∀q∈ps++[p],H q=none) ⟨none,[],p,rfl,e3,n3,rfl,s3 _ _ aA,lay0 (s3 _ _ aA),aiX,fun q hq=>by rw[ai5.mp hq];exact hp⟩ (fun i σ H' hi _=>hi) (fun σ H' _=>aiN _) ?_ ?_
 .rintro i y σ aiv agU hi ⟨v2,ps,p,rfl,e,hl5,hxl,hp5,lay,hnp,hpH⟩ ⟨rfl,rfl⟩;obtain⟨lok,agp⟩:=vR hn i (by lia);have h5:5^i<=3125:=show 5^i<=5^5 from aj5 (by decide) (by lia)
  have af0:G3 W (W.n-(i+1)+1) (bu W i):=by rw[show W.n-(i+1)+1=W.n-i by lia];exact lok
  have aef:agU l=some (.lst (ps.map V.ref++[.ref p])):=by rw[hl5,ajf];rfl
  refine⟨_,rfl,.inl ⟨rfl,_,bk.of aef⟩,_,rfl,_,rfl,_,rfl,l,_,_,_,rfl,rfl,bk.of aef,JX _ _,x,p,W,W.n-(i+1),bu W i,rfl,hW.mono e,ahf,hp5,af0,by lia,fun p2 ag1 hp2 e6 ra hp6=>?_⟩;have lp:l≠p:=fun z=>by rw[z,hp5]at hl5;cases hl5
  have hl6:=gK e6 aef lp;have af1:H p=none:=hpH p (ai1.mpr (.inr (ai5.mpr rfl)));have eH6:aC H ag1:=fun b u z=>gK e6 (e _ _ z) (bV z af1);have p2l:p2≠l:=(bV hl5 hp2).symm;have rdn:∀q u,ahi agU q u->q≠l->q≠p->ahi (upd ag1 l (.lst ((ps++[p]++[p2]).map V.ref))) q u:=fun q u z z1 z2=>by
   rcases z with z|⟨o,z⟩
   .exact .inl (by rw[aO z1];exact gK e6 z z2)
   .exact .inr ⟨o,by rw[aO z1];exact gK e6 z z2⟩
  have rdl:∀q u,ahi agU q u->∃o,agU q=some o:=fun q u z=>by
   rcases z with z|⟨o,z⟩
   .exact⟨_,z⟩
   .exact⟨_,z⟩
  have af2:∀q∈ps++[p],q≠l:=fun q hq z=>by
   obtain⟨j,hj⟩:=aq6 hq;have:=lay j q hj;rw[z]at this;rcases this with this|⟨o,this⟩
   .rw[hl5]at this;cases this
   .rw[hl5]at this;cases this
  have p2n:p2∉ps++[p]:=fun hq=>by obtain⟨j,hj⟩:=aq6 hq;obtain⟨o,ho⟩:=rdl p2 _ (lay j p2 hj);rw[ho]at hp2;cases hp2
  refine⟨_,_,_,rfl,rfl,hl6,(by rw[aiZ,aiJ,aje];show _+1<_;lia),_,ps++[p],p2,rfl,?_,?_,(by rw[aiZ];show _+1=_;lia),?_,?_,p2n,fun q hq=>?_⟩
  .exact eH6.put hlH
  .rw[aA];simp
  .rw[aO p2l];exact hp6
  .intro j q hq;have ee:ps.map V.ref++[V.ref p]++[V.ref p2]=(ps++[p]++[p2]).map V.ref:=by simp
   rw[ee];by_cases hj:j<(ps++[p]).length
   .rw[ak2 hj]at hq;by_cases hqp:q=p
    .have hj2:j=i:=by
      by_cases hj3:j<ps.length
      .rw[ak2 hj3]at hq;exact ai8 (by rw[←hqp];exact ajo hq) hnp
      .rw[aiZ]at hj;have:[p].length=1:=rfl;lia
     rw[hj2,hqp];rcases ra with ra|⟨o,ra⟩
     .exact .inl (by rw[aO (al3 lp)];exact ra)
     .exact .inr ⟨o,by rw[aO (al3 lp)];exact ra⟩
    .exact rdn q _ (lay j q hq) (af2 q (ajo hq)) hqp
   .rw[alp (by lia)]at hq;have hj0:j-(ps++[p]).length=0:=by
     cases hh:j-(ps++[p]).length with
     |zero=>rfl
     |succ m=>rw[hh]at hq;cases hq
    rw[hj0]at hq;have:p2=q:=ajn hq;rw[←this];have hji:j=i+1:=by rw[aiZ]at hj hj0;have:[p].length=1:=rfl;lia
    rw[hji];refine .inl ?_;rw[aO p2l];exact hp6
  .rcases ai1.mp hq with hq|hq
   .exact hpH q hq
   .rw[ai5.mp hq];exact e.free hp2
 .rintro σ H' ⟨v2,ps,p,rfl,e,hl5,hxl,hp5,lay,hnp,hpH⟩;refine⟨_,rfl,qq l (ps++[p]) H' e hl5 ?_ lay hlH hpH⟩;rw[aiZ];show _+1=_;lia
theorem vm:aU ["self","some","matters"] ["self","some","matters"] (aB jw):=⟨rfl,rfl,rfl,by decide+kernel,rfl,by decide+kernel,by decide+kernel⟩
theorem tu:akD (["self","some","place"]:List Str):=by decide+kernel
theorem vo (T:Txt K mg A D){k:Nat}(gG:aP P w K mg base (cI P w) k A.gr D.gr ["value"] HY)(aZ:aP P w K mg base (cI P w) k A.cz D.cz ["value","least","greatest"] pP)(gU:aP P w K mg base (cI P w) k A.holds D.holds ["some","place"] z7):aP P w K mg base (cI P w) (k+1) A.bZ D.bZ ["self","some","matters"] (ZS A.Walk):=by
 refine T.eF.pH vm (fun vs H Q E h=>?_) (fun cdv A' outer s H vs Q E hr h=>?_)
 .obtain⟨_,_,_,_,_,_,rfl,_⟩:=h;rfl
 obtain⟨x,W,S,mv,B,m,rfl,hW,ahf,hS,hm,hl,q⟩:=h;obtain⟨dx,ol,tl,hx,ho,ht⟩:=id hW;have hn:=ahf.n5;unfold zy at q;have hmD:Dat H (if B=true then .int (m.headD 0)else .tuple (m.map .int)) mv∧((B=true∧∃z,m=[z]∧mv=.int z)∨(B=false∧∃c,mv=.ref c∧H c=some (.tup (m.map .int)))):=by
  cases B with
  |true=>obtain⟨z,rfl,rfl⟩:∃z:Int,m=[z]∧mv=.int z:=hm;exact⟨.int,.inl ⟨rfl,z,rfl,rfl⟩⟩
  |false=>obtain⟨c,rfl,hc⟩:∃c,mv=.ref c∧H c=some (.tup (m.map .int)):=hm;exact⟨.Ke hc,.inr ⟨rfl,c,rfl,hc⟩⟩
 obtain⟨hD,hcase⟩:=hmD;refine⟨_,(ao (bF (aJ dW (gn (pv 0) rfl) b7 (aQ _)) (aq (aF (aD gG hr rfl T.CZ T.kE.kp T.Dc .nil aL (aa (pv 2) aj)))) aM) (ao (bF (aJ dW (gn (pv 0) rfl) b7 (aQ _)) (aq (aF (mL (HR hr.units) (pv 2) (bL aj) (aQ _)))) aM) (ao (bF (f9 (fc (aK cO rfl T.bf bj (aa (pv 2) (aa (iz (v:=.ty "tuple") rfl T.oY pO rfl) aj))))) (aq (aF gY)) aM) (aq (aF (aK (tE rfl) rfl T.Hj H5 (aa (nA rfl (lM (N:=["self","some","place"]) (js:=[some 0,some 1,none]) rfl rfl (by decide+kernel) (by decide+kernel) rfl (aiE.mpr ⟨rfl,(aiE.mpr ⟨rfl,fun _ h=>nomatch h⟩)⟩) (aiE.mpr ⟨(fun h=>nomatch h),(aiE.mpr ⟨(fun h=>nomatch h),(aiE.mpr ⟨(fun h=>nomatch h),(aiE.mpr ⟨(fun h=>nomatch h),(aiE.mpr ⟨(fun _=>rfl),(aiE.mpr ⟨(fun _=>rfl),fun _ h=>nomatch h⟩)⟩)⟩)⟩)⟩)⟩) (aiE.mpr ⟨(fun j h=>(by cases h;exact⟨rfl,rfl,rfl⟩)),(aiE.mpr ⟨(fun j h=>(by cases h;exact⟨rfl,rfl,rfl⟩)),(aiE.mpr ⟨(fun j h=>nomatch h),fun _ h=>nomatch h⟩)⟩)⟩) rfl) (Ht (pv 2)) (fun _ _ _ _=>(aH (i:=2) tu rfl (ajp rfl) (hf:=akk rfl))) (fun _ _ _ _=>iD) (fun _ _ _ _=>(wZ (aD aZ hr rfl T.gw T.cR.kp T.gA .nil aL (aa (pv 2) (aa ak (aa (aG gZ (abS (K:=K) rfl (pv 0) rfl) ak) aj)))) (uA (aD gU hr rfl T.Ag T.oV.kp T.Ah .nil aL (aa (pv 1) (aa (pv 2) aj))))))) aj))))))),?_⟩;dsimp only[ou,eU];refine⟨_,rfl,x,A.Walk,dx,_,_,rfl,hx,T.bO,T.dw,j8 _ _ _,rfl,_,rfl,ite_str (fun c1=>?_) fun c1=>?_⟩
 .rw[aiP c1]at q;rcases hcase with⟨rfl,z,rfl,rfl⟩|⟨rfl,c,rfl,hc⟩
  .exact⟨_,rfl,_,rfl,.inl ⟨z,rfl,q H (aC.refl _)⟩⟩
  .exact⟨_,rfl,_,rfl,.inr ⟨c,_,rfl,hc,q H (aC.refl _)⟩⟩
 rw[aiL c1]at q;refine⟨_,rfl,x,A.Walk,dx,_,_,rfl,hx,T.bO,T.dw,j8 _ _ _,rfl,_,rfl,ite_str (fun c2=>?_) fun c2=>?_⟩
 .rw[aiP c2]at q;refine⟨_,rfl,(by show 0<=aiV;decide),fun t ht=>?_⟩;obtain⟨s1,n1⟩:=au (o:=.tup []) ht;have e1:min (an7 (if B=true then .int (m.headD 0)else .tuple (m.map .int))) (an7 (.tuple []))<=60:=ajt (aou _ _) (by decide);have e2:an' (if B=true then .int (m.headD 0)else .tuple (m.map .int))=true:=by
   cases B with
   |true=>rfl
   |false=>exact lay_ints m
  refine⟨_,_,(hD.mono s1).rep,(Dat.tuple n1 .nil).rep,e2,rfl,e1,?_⟩;have e3:akn (if B=true then .int (m.headD 0)else .tuple (m.map .int)) (.tuple [])=(!B&&decide (m=[])):=by
   cases B with
   |true=>rfl
   |false=>show aoA (m.map .int) ([].map .int)=_;rw[By];rfl
  show Q (.bl (akn _ _)) _;rw[e3];exact q _ s1
 rw[aiL c2]at q;rcases hcase with⟨rfl,z,rfl,rfl⟩|⟨rfl,c,rfl,hc⟩
 .refine⟨_,rfl,_,_,_,_,_,rfl,rfl,.int z,T.lZ,_,rfl,?_⟩;exact dY (q H (aC.refl _))
 .refine⟨_,rfl,_,_,_,_,_,rfl,rfl,.tup hc,T.dz,_,rfl,?_⟩;refine cN ⟨_,rfl,c,rfl,⟨_,cD.of hc⟩,?_⟩;refine rF (fun σ=>∃x2,σ=[some (.ref x),some (.int S),x2]) m.length (fun i=>.bool (decide (0<=m.getD i 0)&&decide (m.getD i 0<=(W.n:Int)-1)&&bit S (m.getD i 0).toNat)) ⟨none,rfl⟩ ?_ ?_ (by rw[aje];lia) ?_ ?_
  .intro i ahq hi e3;exact⟨_,_,cD.of (e3 _ _ hc),int_at m hi⟩
  .intro ahq e3;exact⟨_,cD.of (e3 _ _ hc),by rw[aiJ];exact aiN _⟩
  .rintro agA i y lK ahq aiv agN hi e3 hD' ⟨x1,rfl⟩ ⟨rfl,hy⟩ fin;have hy2:=hy _ (cD.of (e3 _ _ hc));rw[int_at m hi]at hy2;cases hy2;refine⟨_,rfl,_,rfl,x,A.Walk,dx,_,_,rfl,e3 _ _ hx,T.bO,T.eV,oN _ _ _,_,_,rfl,rfl,_,_,_,rfl,_,rfl,?_⟩;cases hb:(decide (0<=m.getD i 0)&&decide (m.getD i 0<=(W.n:Int)-1))with
   |false=>refine cN (fin _ _ _ ⟨_,rfl⟩ (aC.refl _) ?_);rw[hb];exact .bool
   |true=>have hb':=hb;rw[aiR]at hb';have b1:=ai9 hb'.1;have b2:=ai9 hb'.2;refine dY ⟨_,rfl,_,rfl,S,(m.getD i 0).toNat,by rw[show(((m.getD i 0).toNat:Nat):Int)=m.getD i 0 by lia];rfl,by lia,fin _ _ _ ⟨_,rfl⟩ (aC.refl _) ?_⟩;rw[hb];exact .bool
  .intro D1 ys1 ahq hD1 e3 hy1 R0;have ez:(aiY m.length).map (fun i=>ano (decide (0<=m.getD i 0)&&decide (m.getD i 0<=(W.n:Int)-1)&&bit S (m.getD i 0).toNat))=((aiY m.length).map fun i=>(decide (0<=m.getD i 0)&&decide (m.getD i 0<=(W.n:Int)-1)&&bit S (m.getD i 0).toNat)).map .bool:=by rw[ajG];rfl
   rw[ez]at R0;rw[qU R0]at hy1;refine⟨D1,_,rfl,bk.of hy1,?_⟩;rw[uP,IK m fun p=>decide (0<=p)&&decide (p<=(W.n:Int)-1)&&bit S p.toNat];exact q ahq e3
theorem wR:aU ["self","pair"] ["self","pair"] (aB km):=⟨rfl,rfl,rfl,by decide+kernel,rfl,by decide+kernel,by decide+kernel⟩
theorem wU (T:Txt K mg A D){k:Nat}(aZ:aP P w K mg base (cI P w) k A.cz D.cz ["value","least","greatest"] pP)(gj:aP P w K mg base (cI P w) k A.bZ D.bZ ["self","some","matters"] (ZS A.Walk)):aP P w K mg base (cI P w) (k+1) A.cH D.cH ["self","pair"] (ZV A.Walk):=by
 refine T.fJ.pH wR (fun vs H Q E h=>?_) (fun cdv A' outer s H vs Q E hr h=>?_)
 .obtain⟨_,_,_,_,_,rfl,_⟩:=h;rfl
 obtain⟨x,qa,W,B,ky,rfl,hW,ahf,pk,hl,q⟩:=h;obtain⟨dx,ol,tl,hx,ho,ht⟩:=id hW;obtain⟨mv,hq,Jz⟩:=aY.val pk;refine⟨_,(ao (bF (PW.pt (yR (f9 (fc (aK cO rfl T.bf bj (aa (pv 1) (aa (iz (v:=.ty "tuple") rfl T.oY pO rfl) aj))))) (uz (aJ vA (aK di rfl T.rH alu (aa (pv 1) aj)) ak (aQ _))))) (aq (aF gY)) aM) (aq (aF (wZ (aD aZ hr rfl T.gw T.cR.kp T.gA .nil aL (aa (bA bG (pv 1) ak (fun _ _=>rfl)) (aa ak (aa (aG gZ (gn (pv 0) rfl) ak) aj)))) (uA (tB (pv 0) T.bO T.vf gj hr T.wu .nil aL (aa (bA bG (pv 1) ak (fun _ _=>rfl)) (aa (bA bG (pv 1) ak (fun _ _=>rfl)) aj)))))))),?_⟩;dsimp only[ou,eU];refine⟨_,rfl,_,_,_,_,_,rfl,rfl,.tup hq,T.dz,_,rfl,?_⟩;refine cN ⟨_,rfl,qa,_,rfl,.inr (cD.of hq),rfl,_,rfl,?_⟩;refine cN ?_;refine⟨_,rfl,_,_,_,_,rfl,rfl,cD.of hq,rfl,_,rfl,x,A.Walk,dx,_,_,rfl,hx,T.bO,T.mW,PL _ _ _,_,_,rfl,rfl,_,_,_,rfl,_,rfl,?_⟩;unfold stand at q;have eb:decide (ky.1<=((2^W.n:Nat):Int)-1-1)=decide (ky.1<=((2^W.n:Nat):Int)-2):=by rw[show((2^W.n:Nat):Int)-1-1=((2^W.n:Nat):Int)-2 by omega]
 rw[eb];cases hb:(decide (0<=ky.1)&&decide (ky.1<=((2^W.n:Nat):Int)-2))with
 |false=>have q':=q H (aC.refl _);rw[hb]at q';exact cN q'
 |true=>have hb':=hb;rw[aiR]at hb';have b1:=ai9 hb'.1;have b2:=ai9 hb'.2;have h2:=akR W.n;refine dY ⟨_,rfl,x,dx,_,rfl,hx,oO _ _ _ (by decide+kernel) (by decide+kernel) (by decide+kernel) (by decide+kernel) (by decide+kernel) (by decide+kernel),_,rfl,_,_,_,_,rfl,rfl,cD.of hq,rfl,_,rfl,_,_,_,_,rfl,rfl,cD.of hq,rfl,x,W,ky.1.toNat,mv,B,ky.2,by rw[show((ky.1.toNat:Nat):Int)=ky.1 by omega];rfl,hW,ahf,by omega,Jz,hl,fun H' e=>?_⟩;have q':=q H' e;rw[hb]at q';rw[show((ky.1.toNat:Nat):Int)=ky.1 by omega];exact q'
theorem wV:aU ["web","kind","bound","found","pairs","layer"] ["web","kind","bound"] (aB I5):=⟨rfl,rfl,rfl,by decide+kernel,rfl,by decide+kernel,by decide+kernel⟩
theorem aaI (T:Txt K mg A D){k:Nat}(eH:aP P w K mg base (cI P w) (k+1) A.dH D.dH ["web","kind","bound"] (Ig A.er))(wW:aP P w K mg base (cI P w) (k+1) A.layers D.layers ["walk"] (Hi A.Walk))(fM:aP P w K mg base (cI P w) k A.fC D.fC ["self","web","kind","bound"] (Ad A.Walk)):aP P w K mg base (cI P w) (k+2) A.vZ D.vZ ["web","kind","bound"] (Uj A.er):=by
 refine T.v8.pH wV (fun vs H Q E h=>?_) (fun cdv A' outer s H vs Q E hr h=>?_)
 .obtain⟨_,_,_,_,_,rfl,_⟩:=h;rfl
 obtain⟨v,n,ts,kd,bd,rfl,ask,q⟩:=h;refine⟨_,(ao (jj (aD eH hr rfl T.v5 T.gQ.kp T.v7 .nil pL (aa (pv 0) (aa (pv 1) (aa (pv 2) aj))))) (ao (bF (aJ dW (pv 2) ak (aQ _)) (aq (aF (bQ aj))) aM) (ao (aR (i:=3) wV.nd rfl (ajp rfl) (aD wW hr rfl T.aad T.sW.kp T.aae .nil aL (aa (SJ T.Ai fM hr rfl T.aag T.zB .nil aL (aa (pv 0) (aa (pv 1) (aa (aG gZ (pv 2) ak) aj)))) aj))) (ao (bF (aJ Sy (aK VM rfl T.rH alu (aa (bA dX (pv 3) (rM qz ak) (fun _ _=>rfl)) aj)) ak (aQ _)) (aq (aF o8)) aM) (ao (aR (i:=4) wV.nd rfl (ajp rfl) (bQ aj)) (ao (fO aX rfl (cT (pv 3)) (aH (i:=5) wV.nd rfl (ajp rfl)) (aq (jj (rO ajU aqC PySem.F.type_list_extend U5 (pv 4) (aa (tC (Ql rfl) rfl T.Dl HW (aa (pv 5) aj)) aj))))) (aq (aF (aK (Qi (yX hr)) rfl T.sY xx (aa (pv 4) aj)))))))))),?_⟩;dsimp only[ou,eU];refine az _ rfl (az _ rfl (az _ rfl ⟨v,n,ts,kd,bd,rfl,ask,(fun hw hk h0 h1 H1 e1=>?_)⟩));obtain⟨hn0,_,_⟩:=gq hw;obtain⟨N,rfl⟩:∃N:Nat,n=N:=⟨n.toNat,by lia⟩;have hN:N<=5:=by have:=ask.n5 hw;lia
 obtain⟨q1,q2,q3⟩:=q hw hk h0 h1;rw[ai4]at q2 q3;refine c7 _ rfl rfl (az _ rfl ?_);by_cases c0:bd=0
 .refine oG (congrArg V.int c0) ⟨(by show 0<=aiV;decide),fun l hl=>?_⟩;obtain⟨s1,n1⟩:=au (o:=.lst []) hl;exact q1 c0 l _ (e1.trans s1) n1
 refine pU (fun z=>c0 (V.int.inj z)) ?_;have ahf:BW ⟨N,ts,kd,bd-1⟩:=⟨hN,hw,hk,by show 0<=bd-1;lia⟩;have ah4:=xM ahf;generalize hWW:(⟨N,ts,kd,bd-1⟩:ah8)=W at ahf ah4 q3;have hWn:W.n=N:=by rw[←hWW]
 refine az _ rfl (az _ rfl (az _ rfl (bU _ _ rfl rfl (fun x dx nx ndx ne=>?_))));refine G5 (W:=⟨N,ts,kd,bd-1⟩) (ask.dat.mono e1) hw ask.win hN nx ndx fun H2 e2 hW=>⟨x,⟨N,ts,kd,bd-1⟩,rfl,hW,by rw[hWW];exact ahf,fun l ps ahq e3 hl hpl lay hlH agq=>?_⟩;rw[hWW]at hpl lay;have e13:=e1.trans (e2.trans e3);obtain⟨ps0,p,rfl⟩:∃ps0 p,ps=ps0++[p]:=by
  have hne:ps≠[]:=fun z=>by rw[z]at hpl;simp at hpl
  exact⟨ps.dropLast,ps.getLast hne,(List.dropLast_concat_getLast hne).symm⟩
 have hp0:ps0.length=W.n:=by rw[aiZ]at hpl;have:[p].length=1:=rfl;lia
 have hl':ahq l=some (.lst (ps0.map V.ref++[.ref p])):=by rw[hl,ajf];rfl
 have rdp:ahi ahq p (.dT (flag W) (toV (bu W W.n))):=lay W.n p (by rw[alp (by lia),hp0,aoa];rfl);refine az _ rfl (az _ rfl (mj l _ _ _ rfl rfl (bk.of hl') (JX _ _) (wJ p _ _ rfl rdp (bU _ _ rfl rfl (az _ rfl ?_)))));have lv:(toV (bu W W.n)).length=(bu W W.n).length:=aiJ _;rw[lv];have gl:rG N ts kd (bd-1)=rows W (cj W) W.n:=by rw[ah4,←hWW]
 refine nH (fun c1=>?_) fun c1=>?_
 .refine q2 (by lia) (fun z=>?_) ahq e13;rw[gl,tV]at z;rw[z]at c1;simp at c1
 have le:bu W W.n=[]:=amK.mp (by lia);have re:rows W (cj W) W.n=[]:=tV.mpr le;have hfew:=few ahf re;refine⟨(by show 0<=aiV;decide),fun pl afd=>?_⟩;obtain⟨s4,n4⟩:=au (o:=.lst []) afd;refine az _ rfl (c7 l rfl ⟨_,bk.of (s4 _ _ hl)⟩ ?_);refine fP (W.n+1) (fun i σ H'=>∃agT ys,σ=[some v,some (.str kd),some (.int bd),some (.ref l),some (.ref pl),agT]∧aC ahq H'∧H' pl=some (.lst (refs ys))∧ys.map (·.1)=j5 W i∧nO (flag W) H' ys) ⟨none,[],rfl,s4,n4,rfl,fun x hx=>ai8 hx aiX⟩ ?_ ?_ ?_ ?_
 .rintro i σ H' hi ⟨agT,ys,rfl,e,hp',hk',pl'⟩;exact mC _ (V.ref ((ps0++[p])[i]'(by lia))) (bk.of (e _ _ hl)) (by rw[ai6,aiG (by lia)];rfl)
 .rintro σ H' ⟨agT,ys,rfl,e,hp',hk',pl'⟩;exact⟨_,bk.of (e _ _ hl),by rw[aiJ];lia⟩
 .rintro i y σ aiv agU hi ⟨agT,ys,rfl,e,hp',hk',pl'⟩ ⟨rfl,hy⟩;have hy2:=hy _ (bk.of (e _ _ hl));rw[ai6,aiG (show i<(ps0++[p]).length by lia)]at hy2;cases hy2;have rdi:=Qs lay e i _ (aiG (show i<(ps0++[p]).length by lia));have af3:ys.length=(j5 W i).length:=by rw[←hk',aiJ]
  have l1:=CJ W i (W.n+1-i);rw[show i+(W.n+1-i)=W.n+1 by lia]at l1;refine c7 _ rfl (.inl ⟨rfl,_,bk.of hp'⟩) (az _ rfl (wJ _ _ _ rfl rdi (fun l2 ys2 hl2 ek2 pl2=>?_)));obtain⟨aht,ahX⟩:=au (o:=.lst (refs ys2)) hl2;have hp6:=aht _ _ hp';rw[ZP]at ek2;have yl2:ys2.length=(fK (bu W i)).length:=by rw[←ek2,aiJ]
  have l2':=CJ W (i+1) (W.n+1-(i+1));rw[show i+1+(W.n+1-(i+1))=W.n+1 by lia,fQ,aiZ]at l2';refine vh pl l2 _ _ rfl rfl hp6 ahX (by simp only[refs,aiJ];rw[aje];lia) ⟨_,(ys++ys2),rfl,((e.trans aht).put afd),?_,?_,?_⟩
  .rw[aA];simp[refs]
  .rw[ajf,hk',ek2,fQ]
  .have tup:∀b zs,agU b=some (.tup zs)->upd (upd agU l2 (.lst (refs ys2))) pl (.lst (refs ys++refs ys2)) b=some (.tup zs):=fun b zs z=>by have agx:=aht _ _ z;rw[aO (fun y=>by rw[y,hp6]at agx;cases agx)];exact agx
   intro x hx;rcases ai1.mp hx with hx|hx
   .exact(pl' x hx).stay tup
   .exact(pl2 x hx).stay tup
 .rintro σ H' ⟨agT,ys,rfl,e,hp',hk',pl'⟩;have af3:ys.length=(j5 W (W.n+1)).length:=by rw[←hk',aiJ]
  refine az _ rfl (acu pl (flag W) ys rfl (bk.of hp') pl' (by lia) (fun l2 zs hl2 hperm aaJ=>?_));obtain⟨aht,ahX⟩:=au (o:=.lst (refs zs)) hl2;refine q3 (by lia) (by rw[gl];exact re) l2 _ (e13.trans (e.trans aht)) ⟨zs,ahX,fun x hx=>aY.mono (pl' x (hperm.mem_iff.mp hx)) aht,aaJ,?_⟩;rw[←hk'];exact hperm.map _
theorem n6:aU ["web","kind","bound","some","walk","kept","pair","place","after"] ["web","kind","bound","some"] (aB I6):=⟨rfl,rfl,rfl,by decide+kernel,rfl,by decide+kernel,by decide+kernel⟩
theorem aaK (T:Txt K mg A D){k:Nat}(eH:aP P w K mg base (cI P w) (k+1) A.dH D.dH ["web","kind","bound"] (Ig A.er))(fM:aP P w K mg base (cI P w) k A.fC D.fC ["self","web","kind","bound"] (Ad A.Walk))(gW:aP P w K mg base (cI P w) (k+1) A.cH D.cH ["self","pair"] (ZV A.Walk))(cA:aP P w K mg base (cI P w) (k+1) A.bT D.bT ["self"] (Ib A.Walk))(eG:aP P w K mg base (cI P w) (k+1) A.dJ D.dJ ["self","pair"] (Ie A.Walk)):aP P w K mg base (cI P w) (k+2) A.shows D.shows ["web","kind","bound","some"] (LC A.er):=by
 refine T.v9.pH n6 (fun vs H Q E h=>?_) (fun cdv A' outer s H vs Q E hr h=>?_)
 .obtain⟨_,_,_,_,_,_,_,rfl,_⟩:=h;rfl
 obtain⟨v,n,ts,kd,bd,l,ms,rfl,ask,hl,hms,hlen,h20,q⟩:=h;obtain⟨W,hWW⟩:∃W:ah8,W=⟨n.toNat,ts,kd,bd-1⟩:=⟨_,rfl⟩;refine⟨_,(ao (jj (aD eH hr rfl T.v5 T.gQ.kp T.v7 .nil pL (aa (pv 0) (aa (pv 1) (aa (pv 2) aj))))) (ao (bF (aJ dW (pv 2) ak (aQ _)) (aq (aF gY)) aM) (ao (aR (i:=4) n6.nd rfl (ajp rfl) (SJ T.Ai fM hr rfl T.aag T.zB .nil aL (aa (pv 0) (aa (pv 1) (aa (aG gZ (pv 2) ak) aj))))) (ao (aR (i:=5) n6.nd rfl (ajp rfl) (J4 (flag W))) (ao (fO aX rfl (cT (pv 3)) (aH (i:=6) n6.nd rfl (ajp rfl)) (ao (bF (f9 (fc (tB (pv 4) T.bO T.wy gW hr T.yp .nil aL (aa (pv 6) aj)))) (aq (aF gY)) aM) (aq (S8 (yX hr) (pv 5) (pv 6) gY rfl)))) (ao (bF (wY (Gq (yX hr) (JR (pv 4) T.bO T.oX cA hr T.qp .nil aL) (pv 5))) (aq (aF gY)) aM) (ao (fO aX rfl (abQ (pv 5)) (aH (i:=6) n6.nd rfl (ajp rfl)) (aq (fO aX rfl (cT (tB (pv 4) T.bO T.ux eG hr T.wk .nil aL (aa (pv 6) aj))) (qx rfl (bw (aH (i:=7) n6.nd rfl (ajp rfl)) (bw (aH (i:=8) n6.nd rfl (ajp rfl)) iB))) (aq (bF (wY (Gq (yX hr) (pv 8) (pv 5))) (aq (aF gY)) aM))))) (aq (aF gY))))))))),?_⟩;dsimp only[ou,eU];refine az _ rfl (az _ rfl (az _ rfl ⟨v,n,ts,kd,bd,rfl,ask,(fun hw hk h0 h1 H1 e1=>?_)⟩));obtain⟨hn0,_,_⟩:=gq hw;obtain⟨N,rfl⟩:∃N:Nat,n=N:=⟨n.toNat,by lia⟩;have hN:N<=5:=by have:=ask.n5 hw;lia
 have q:=q hw hk h0 h1;rw[←hWW]at q;rw[ai4]at hWW;refine c7 _ rfl rfl (az _ rfl ?_);by_cases c0:bd=0
 .refine oG (congrArg V.int c0) ?_;have:=q H1 e1;rw[aiQ c0]at this;exact this
 refine pU (fun z=>c0 (V.int.inj z)) ?_;rw[aiO c0]at q;simp only[alo]at q;have ahf:BW W:=by rw[hWW];exact⟨hN,hw,hk,by show 0<=bd-1;lia⟩
 have hkW:dN W.kd:=ahf.kd;have hn:=ahf.n5;refine az _ rfl (az _ rfl (az _ rfl (bU _ _ rfl rfl (fun x dx nx ndx ne=>?_))));refine G5 (W:=⟨N,ts,kd,bd-1⟩) (ask.dat.mono e1) hw ask.win hN nx ndx fun H2 e2 hW=>?_;rw[←hWW]at hW;refine fun f hf=>?_;obtain⟨s3,n3⟩:=au (o:=.dT (flag W) []) hf;have Xg:=e1.trans e2;have e13:=Xg.trans s3;refine az _ rfl (c7 l rfl ⟨_,bk.of (e13 _ _ hl)⟩ ?_);have DW:(cu ms).length=ms.length:=aiJ _;refine fP ms.length (fun i σ H'=>∃v6 agC agR kvs,σ=[some v,some (.str kd),some (.int bd),some (.ref l),some (.ref x),some (.ref f),v6,agC,agR]∧aC H2 H'∧H' f=some (.dT (flag W) kvs)∧kvs.length<=i∧abY W ((ms.take i).map (·.1)) kvs) ⟨none,none,none,[],rfl,s3,n3,aiN _,⟨fun k=>⟨fun z=>ai8 z aiX,fun z=>ai8 z aiX⟩,fun x hx=>ai8 hx aiX⟩⟩ ?_ ?_ ?_ ?_
 .rintro i σ H' hi ⟨v6,agC,agR,kvs,rfl,e,hf',hlk,kp⟩;exact mC _ (V.ref (ms[i]).2) (bk.of (e _ _ (Xg _ _ hl))) (by unfold cu;rw[ai6,aiG hi];rfl)
 .rintro σ H' ⟨v6,agC,agR,kvs,rfl,e,hf',hlk,kp⟩;exact⟨_,bk.of (e _ _ (Xg _ _ hl)),by rw[DW];exact aiN _⟩
 .rintro i y σ aiv agU hi ⟨v6,agC,agR,kvs,rfl,e,hf',hlk,kp⟩ ⟨rfl,hy⟩;have hy2:=hy _ (bk.of (e _ _ (Xg _ _ hl)));unfold cu at hy2;rw[ai6,aiG hi]at hy2;cases hy2;have hWx:=hW.mono e;obtain⟨dx',ol,tl,hx,ho,ht⟩:=id hWx;have hmem:ms[i]∈ms:=ajT hi;have pk:aY (ms[i]).1.1 agU (ms[i]).1.2 (ms[i]).2:=aY.mono (hms _ hmem) (Xg.trans e);refine az _ rfl (acs x dx' _ rfl hx (oO _ _ _ (by decide+kernel) (by decide+kernel) (by decide+kernel) (by decide+kernel) (by decide+kernel) (by decide+kernel)) (az _ rfl (yL x ((ms[i]).2) W ((ms[i]).1.1) ((ms[i]).1.2) rfl hWx ahf pk (h20 _ hmem) (fun ag1 e6=>⟨_,rfl,?_⟩))));have etk:(ms.take (i+1)).map (·.1)=(ms.take i).map (·.1)++[(ms[i]).1]:=by rw[akv,aiG hi,ajf];rfl
  cases hst:stand W ((ms[i]).1.1,(ms[i]).1.2)with
  |false=>refine dY ?_;have:=q ag1 (Xg.trans (e.trans e6));rw[Hg (x:=(ms[i]).1) (ai'.mpr ⟨_,hmem,rfl⟩) hst]at this;exact this
  |true=>
   refine cN ?_;have hfl:(ms[i]).1.1=flag W:=qT hkW (x:=((ms[i]).1.1,(ms[i]).1.2)) hst;have pk6:=aY.mono pk e6;rw[hfl]at pk6;refine⟨_,rfl,_,rfl,f,_,rfl,.inr ⟨flag W,kvs,(ms[i]).1.2,(ms[i]).2,e6 _ _ hf',rfl,pk6,(by rw[aje];lia),rfl⟩,_,_,_,_,rfl,(e.trans e6).put hf,aA,ajt abX (by lia),fun k=>?_,fun z hz=>?_⟩
   .rw[VV,kp.keys,etk,ai1,ai5];constructor
    .rintro(rfl|z)
     .exact .inr (by rw[←hfl])
     .exact .inl z
    .rintro(z|z)
     .exact .inr z
     .exact .inl (by rw[←z])
   .rw[etk,ai1,ai5]at hz;rcases hz with hz|rfl
    .exact kp.all z hz
    .exact hst
 .rintro σ agU ⟨v6,agC,agR,kvs,rfl,e,hf',hlk,kp⟩;rw[akt]at kp;have hWx:=hW.mono e;obtain⟨dx',ol,tl,hx,ho,ht⟩:=id hWx;refine az _ rfl (acs x dx' _ rfl hx (oO _ _ _ (by decide+kernel) (by decide+kernel) (by decide+kernel) (by decide+kernel) (by decide+kernel) (by decide+kernel)) (bU x W rfl hWx (fun ah' ag1 e6 pkb=>⟨_,rfl,f,_,rfl,.inr ⟨flag W,kvs,cj W,ah',.inl (e6 _ _ hf'),rfl,pkb,rfl⟩,_,rfl,?_⟩)));rw[IV];by_cases hb:cj W∈kvs.map (·.1);rotate_left
  .rw[aiO hb];refine dY ?_;have:=q ag1 (Xg.trans (e.trans e6));rw[V0 kp hb]at this;exact this
  rw[aiQ hb];refine cN ⟨_,rfl,f,flag W,kvs,rfl,e6 _ _ hf',fun o=>?_⟩;have ahP:H f=none:=by
   cases z:H f with
   |none=>rfl
   |some u=>rw[Xg _ _ z]at hf;cases hf
  have sm:aC H (upd ag1 f (.uq o (.dT (flag W) kvs))):=(Xg.trans (e.trans e6)).put ahP;have hWf:WalkAt A.Walk (upd ag1 f (.uq o (.dT (flag W) kvs))) x W:=by
   have hW6:=hWx.mono e6;obtain⟨dy,oy,ty,h1,h2,h3⟩:=hW6;have nf:∀b u,ag1 b=some u->(∀B k,u≠.dT B k)->b≠f:=fun b u z z2 y=>by rw[y,e6 _ _ hf']at z;exact z2 _ _ (ajn z).symm
   exact wJ dy oy ty (by rw[aO (nf _ _ h1 fun _ _ z=>by cases z)];exact h1) (by rw[aO (nf _ _ h2 fun _ _ z=>by cases z)];exact h2) (by rw[aO (nf _ _ h3 fun _ _ z=>by cases z)];exact h3)
  refine fP kvs.length (fun i σ H'=>∃v6 agC agR,σ=[some v,some (.str kd),some (.int bd),some (.ref l),some (.ref x),some (.ref f),v6,agC,agR]∧aC (upd ag1 f (.uq o (.dT (flag W) kvs))) H'∧∀k'∈(kvs.take i).map (·.1),∀y∈aW W k',y.2∈kvs.map (·.1)) ⟨_,_,_,rfl,aC.refl _,fun k' hk'=>ai8 hk' aiX⟩ ?_ ?_ ?_ ?_
  .rintro i σ H' hi ⟨v6,agC,agR,rfl,e7,hc⟩;exact⟨hi,e7 _ _ aA⟩
  .rintro σ H' ⟨v6,agC,agR,rfl,e7,hc⟩;exact⟨aiN _,e7 _ _ aA⟩
  .rintro i y σ ahC ahe hi ⟨v6,agC,agR,rfl,e7,hc⟩ ⟨qk,ky,xv,rfl,rfl,hkv,pk⟩;have hky:ky∈kvs.map (·.1):=ai'.mpr ⟨_,ajo hkv,rfl⟩;obtain⟨mx,hmx,emx⟩:=ai'.mp ((kp.keys ky).mp hky);have af4:=kp.all _ ((kp.keys ky).mp hky);have kok:=Hf ahf af4 (aY.okM pk) (by have:=h20 mx hmx;rw[emx]at this;exact this);have hW7:=hWf.mono e7;obtain⟨dy,oy,ty,hx7,_,_⟩:=id hW7;refine az _ rfl (acs x dy _ rfl hx7 (oO _ _ _ (by decide+kernel) (by decide+kernel) (by decide+kernel) (by decide+kernel) (by decide+kernel) (by decide+kernel)) (az _ rfl (yL x qk W ky _ rfl hW7 ahf pk kok (fun sl xs aim hsl e9 acx st=>⟨sl,rfl,⟨xs,bk.of acx⟩,?_⟩))));have xl:=al8 st;refine fP xs.length (fun j σ H'=>∃agC agR,σ=[some v,some (.str kd),some (.int bd),some (.ref l),some (.ref x),some (.ref f),some (.ref qk),agC,agR]∧aC aim H'∧∀y∈(aW W ky).take j,y.2∈kvs.map (·.1)) ⟨_,_,rfl,aC.refl _,fun y hy=>ai8 hy aiX⟩ ?_ ?_ ?_ ?_
   .rintro j σ H' hj ⟨agC,agR,rfl,ej,hc2⟩;exact mC xs (xs[j]) (bk.of (ej _ _ acx)) (aiG hj)
   .rintro σ H' ⟨agC,agR,rfl,ej,hc2⟩;exact⟨xs,bk.of (ej _ _ acx),aiN _⟩
   .rintro j y σ ag0 agZ hj ⟨agC,agR,rfl,ej,hc2⟩ ⟨rfl,hy⟩;have hy2:=hy xs (bk.of (ej _ _ acx));have hjn:j<(aW W ky).length:=by lia
    obtain⟨⟨p,k'⟩,hp⟩:∃z,(aW W ky)[j]?=some z:=⟨_,aiG hjn⟩;obtain⟨yv,hyv,t,q2,rfl,ht2,pk2⟩:=pX (st.mono fun b ys z=>ej _ _ z) hp;rw[hy2]at hyv;cases hyv;refine iV t _ rfl (cD.of ht2) rfl (mC _ _ rfl (bU _ _ rfl rfl ?_));refine az _ rfl (az _ rfl (bU f _ rfl (.inr ⟨flag W,kvs,k',q2,.inr ⟨o,ej _ _ (e9 _ _ (e7 _ _ aA))⟩,rfl,pk2,rfl⟩) (az _ rfl ?_)));rw[IV];by_cases hb2:k'∈kvs.map (·.1)
    .rw[aiQ hb2];refine cN ⟨_,_,rfl,ej,fun y hy=>?_⟩;rw[akv,hp,ai1]at hy;rcases hy with hy|hy
     .exact hc2 y hy
     .rw[ai5.mp hy];exact hb2
    .rw[aiO hb2];refine dY ?_;have:=q _ (sm.trans (e7.trans (e9.trans ej)));rw[V1 kp hky (ajo hp) hb2]at this;exact this
   .rintro σ H' ⟨agC,agR,rfl,ej,hc2⟩;refine wJ _ _ _ rfl (e7.trans (e9.trans ej)) (fun k2 hk2=>?_);rw[akv,hkv,ajf,ai1]at hk2;rcases hk2 with hk2|hk2
    .exact hc k2 hk2
    .rw[show k2=ky from ai5.mp hk2];intro y hy;exact hc2 y (by rw[ajY (by lia)];exact hy)
  .rintro σ H' ⟨v6,agC,agR,rfl,e7,hc⟩;rw[akt]at hc;have:=q _ (sm.trans e7);rw[ZQ kp hkW hb hc]at this;exact this
theorem NK:aU ["_law_script","_law_k"] ["_law_script","_law_k"] (aB uV):=⟨rfl,rfl,rfl,by decide+kernel,rfl,by decide+kernel,by decide+kernel⟩
theorem NP (T:Txt K mg A D){k:Nat}:aP P w K mg base (cI P w) (k+1) A.jy D.jy ["_law_script","_law_k"] (Yu K):=by
 refine T.nT.pH NK (fun vs H Q E h=>?_) (fun cdv A' outer s H vs Q E hr h=>?_)
 .obtain⟨_,_,_,rfl,_⟩:=h;rfl
 obtain⟨a,ns,i,rfl,hS,q⟩:=h;refine⟨_,(ao (bF (Ba (pv 0) (fun _=>rfl)) (aq (aF (bA dX (pv 0) (aG fu (pv 1) (aK di rfl T.rH alu (aa (pv 0) aj))) (fun _ _=>rfl)))) aM) (aq (aF ak))),?_⟩;dsimp only[ou,eU];refine⟨_,rfl,_,.inl ⟨_,hS,rfl⟩,?_⟩;cases ns with
 |nil=>exact cN q
 |cons x r=>refine dY ?_;exact⟨_,rfl,_,rfl,_,rfl,_,_,rfl,.inl hS,_,_,rfl,rfl,(by rw[aiJ,ajl];lia),_,_,_,_,rfl,rfl,hS,abh (ant x r) i,q⟩
theorem vp:aU ["_law_script","_law_k","_law_number"] ["_law_script","_law_k"] (aB xU):=⟨rfl,rfl,rfl,by decide+kernel,rfl,by decide+kernel,by decide+kernel⟩
theorem R1 (T:Txt K mg A D){k:Nat}(rA:aP P w K mg base (cI P w) k A.jy D.jy ["_law_script","_law_k"] (Yu K)):aP P w K mg base (cI P w) (k+1) A.jz D.jz ["_law_script","_law_k"] (Yv K):=by
 refine T.fD.pH vp (fun vs H Q E h=>?_) (fun cdv A' outer s H vs Q E hr h=>?_)
 .obtain⟨_,_,_,rfl,_⟩:=h;rfl
 obtain⟨a,ns,i,rfl,hS,q⟩:=h;refine⟨_,(ao (aR (i:=2) vp.nd rfl (ajp rfl) (aG fu (aG eQ (aD rA hr rfl T.Qz T.nT.kp T.QB .nil aL (aa (pv 0) (aa (pv 1) aj))) (aG Ar ak (aG eQ (pv 1) ak))) ak)) (ao (aR (i:=2) vp.nd rfl (ajp rfl) (aG fu (aG Ar (pv 2) ak) ak)) (aq (aF (aG fu (aG eQ (aG Ar (aG jk (pv 2) ak) ak) (pv 2)) ak))))),?_⟩;refine⟨_,rfl,_,rfl,a,ns,i,rfl,hS,_,rfl,_,_,rfl,rfl,_,_,rfl,rfl,.inl ⟨by decide,by decide⟩,_,_,rfl,rfl,_,_,rfl,rfl,(by show(0:Int)<4294967291;decide),?_⟩;refine⟨_,rfl,_,_,rfl,rfl,.inr ⟨by decide,by decide⟩,_,_,rfl,rfl,(by show(0:Int)<4294967279;decide),?_⟩;exact⟨_,rfl,_,_,rfl,rfl,⟨by decide,by decide⟩,_,_,rfl,rfl,.inr ⟨by decide,by decide⟩,_,rfl,_,_,rfl,rfl,_,_,rfl,rfl,(by show(0:Int)<4294967231;decide),q⟩
theorem iW:aU ["_law_script","_law_k","_law_places","_law_many","_law_dense","_law_ties","_law_one","_law_other","_law_number"] ["_law_script","_law_k","_law_places"] (aB xV):=⟨rfl,rfl,rfl,by decide+kernel,rfl,by decide+kernel,by decide+kernel⟩
theorem R2 (T:Txt K mg A D){k:Nat}(dD:aP P w K mg base (cI P w) k A.jz D.jz ["_law_script","_law_k"] (Yv K)):aP P w K mg base (cI P w) (k+1) A.mQ D.mQ ["_law_script","_law_k","_law_places"] (Yy K):=by
 refine T.qe.pH iW (fun vs H Q E h=>?_) (fun cdv A' outer s H vs Q E hr h=>?_)
 .obtain⟨_,_,_,_,rfl,_⟩:=h;rfl
 obtain⟨a,ns,k0,m,rfl,hS,hm0,hm8,q⟩:=h;refine⟨_,(ao (aR (i:=3) iW.nd rfl (ajp rfl) (aG fu (aD dD hr rfl T.kI T.fD.kp T.kJ .nil aL (aa (pv 0) (aa (pv 1) aj))) (aG eQ (pv 2) ak))) (ao (aR (i:=4) iW.nd rfl (ajp rfl) (aG eQ ak (aG fu (aD dD hr rfl T.kI T.fD.kp T.kJ .nil aL (aa (pv 0) (aa (aG eQ (pv 1) ak) aj))) ak))) (ao (aR (i:=5) iW.nd rfl (ajp rfl) (bQ aj)) (ao (fO aX rfl (fj rfl T.gh (aa (pv 3) aj)) (aH (i:=6) iW.nd rfl (ajp rfl)) (aq (fO aX rfl (Uz rfl T.gh (aa (aG eQ (pv 6) ak) (aa (pv 3) aj))) (aH (i:=7) iW.nd rfl (ajp rfl)) (ao (aR (i:=8) iW.nd rfl (ajp rfl) (aD dD hr rfl T.kI T.fD.kp T.kJ .nil aL (aa (pv 0) (aa (aG eQ (aG eQ (aG eQ (pv 1) ak) (aG Ar ak (pv 6))) (pv 7)) aj)))) (aq (bF (aJ Av (aG fu (aG jk (pv 8) ak) ak) (pv 4) (aQ _)) (aq (jj (rO ajU ali alO mZ (pv 5) (aa (bL (aa (pv 6) (aa (pv 7) (aa (bA dX (bQ (aa ak (aa ak (aa ak (aa ak (aa ak (aa ak aj))))))) (aG fu (aG jk (pv 8) ak) ak) (fun _ _=>rfl)) aj)))) aj)))) aM)))))) (aq (aF (bL (aa (pv 3) (aa (pv 5) aj))))))))),?_⟩;dsimp only[ou,eU];refine az _ rfl (az _ rfl (wJ a ns k0 rfl hS (az _ rfl (bU _ _ rfl rfl (iV _ _ rfl rfl (by show 0<m+1;lia) ?_)))));have hn0:0<=uH ns k0 %(m+1):=akZ _ (by lia);have hn1:uH ns k0 %(m+1)<m+1:=akW _ (by lia);dsimp only;generalize uH ns k0 %(m+1)=n at hn0 hn1 ⊢;refine az _ rfl (az _ rfl (bU _ _ rfl rfl (wJ a ns _ rfl hS (iV _ _ rfl rfl (by show(0:Int)<4;decide) (iV _ _ rfl rfl (ajW _) (fun t ht=>?_))))));dsimp only;generalize 1+uH ns (k0+1) %4=de;have e0:aC H (upd H t (.lst [])):=bH ht;refine az _ rfl (aaC _ rfl (by lia) (by lia) ?_);refine fP n.toNat (fun i σ H'=>∃v6 agC agR ts xs,σ=[some (.ref a),some (.int k0),some (.int m),some (.int n),some (.int de),some (.ref t),v6,agC,agR]∧aC H H'∧H' t=some (.lst xs)∧bC (mask t H') (ts.map Eo) xs∧TW n (i:Int) 0 ts∧ts.length<=8*i) ⟨none,none,none,[],[],rfl,e0,aA,.nil,.nil,ajW _⟩ (fun i σ H' hi _=>hi) (fun σ H' _=>aiN _) ?_ ?_
 .rintro i x σ H2 ahq hi ⟨v6,agC,agR,ts0,xs0,rfl,e2,hx0,dl0,tw0,hl0⟩ ⟨rfl,rfl⟩;have ei:(0:Int)+(i:Nat)=i:=by lia
  rw[ei];refine az _ rfl (bU _ _ rfl rfl (az _ rfl (bU _ _ rfl ⟨by lia,by lia,by lia,by lia⟩ ?_)));refine fP (n-((i:Int)+1)).toNat (fun j σ H'=>∃agC agR ts xs,σ=[some (.ref a),some (.int k0),some (.int m),some (.int n),some (.int de),some (.ref t),some (.int i),agC,agR]∧aC H H'∧H' t=some (.lst xs)∧bC (mask t H') (ts.map Eo) xs∧TW n (i:Int) ((i:Int)+1+j) ts∧ts.length<=8*i+j) ⟨agC,agR,ts0,xs0,rfl,e2,hx0,dl0,tw0.later (by lia),by lia⟩ (fun j σ H' hj _=>hj) (fun σ H' _=>aiN _) ?_ ?_
  .rintro j x σ aiv agU hj ⟨agC,agR,ts,xs,rfl,e4,hx,dl,tw,hl⟩ ⟨rfl,rfl⟩;have hS4:=e4.seq hS;refine az _ rfl (az _ rfl (bU _ _ rfl rfl (az _ rfl (iV _ _ rfl rfl (.inl ⟨by decide,by decide⟩) (bU _ _ rfl rfl (az _ rfl (bU _ _ rfl rfl (wJ a ns _ rfl hS4 ?_))))))));have hx0:=Kr ns (k0+2+8*(i:Int)+((i:Int)+1+(j:Nat)));dsimp only;generalize uH ns (k0+2+8*(i:Int)+((i:Int)+1+(j:Nat)))=agM at hx0 ⊢;refine az _ rfl (iV _ _ rfl rfl ⟨by decide,by decide⟩ (iV _ _ rfl rfl (by show(0:Int)<4;decide) (az _ rfl (bU _ _ rfl rfl (az _ rfl (aba (fun c=>?_) (fun c=>?_)))))))
   .obtain⟨wt,hw,hw1,hw2⟩:=Pj (i:=agM/64 %6) (akZ _ (by decide)) (akW _ (by decide));refine c7 _ rfl (.inl ⟨rfl,_,bk.of hx⟩) (az _ rfl (c7 _ rfl (by show 6<=aiV;decide) (fun p hp=>?_)));refine az _ rfl (iV _ _ rfl rfl ⟨by decide,by decide⟩ (iV _ _ rfl rfl (by show(0:Int)<6;decide) (vh _ _ _ _ rfl rfl (bk.of aA) hw (by show 3<=aiV;decide) (fun r hr2=>?_))));have s1:=bH (o:=.lst [V.int 1,V.int 1,V.int 2,V.int 3,V.int 7,V.int 100]) hp;have s2:=bH (o:=.tup [V.int i,V.int ((i:Int)+1+(j:Nat)),V.int wt]) hr2;have s3:=s1.trans s2;have hlx:xs.length=ts.length:=by rw[←dl.length,aiJ]
    have hrt:r≠t:=Yl hr2 (s1 _ _ hx);have ht4:H t=none:=ht;refine acu _ _ _ rfl rfl (s3 _ _ hx) (by rw[hlx,aje];lia) (vh _ _ (ts++[[(i:Int),(i:Int)+1+(j:Nat),wt]]) _ rfl ((e4.trans s3).put ht) aA ?_ ?_ ?_)
    .rw[Bq,ajf];refine(dl.mono (tD s3)).append (.cons (Dat.Ke (ns:=[(i:Int),(i:Int)+1+(j:Nat),wt]) ?_) .nil);rw[mO hrt];exact aA
    .have:=tw.add (w:=wt) (by lia) (by lia) (by lia) hw1 hw2;have e:(i:Int)+1+((j+1:Nat):Int)=(i:Int)+1+(j:Nat)+1:=by lia
     rw[e];exact this
    .rw[aiZ];show ts.length+1<=_;lia
   .exact vh _ _ ts xs rfl e4 hx dl (tw.later (by lia)) (by lia)
  .rintro σ aiv ⟨agC,agR,ts,xs,rfl,e4,hx,dl,tw,hl⟩;exact yL _ _ _ ts xs rfl e4 hx dl (tw.later (by lia)) (by lia)
 .rintro σ H' ⟨v6,agC,agR,ts,xs,rfl,e2,hx,dl,tw,hl⟩;refine az _ rfl (c7 _ rfl (by show 2<=aiV;decide) (fun p hp=>?_));have s1:=bH (o:=.tup [V.int n,V.ref t]) hp;have hw:bN n ts=true:=by unfold bN;rw[tw.ok,aiQ hn0,aiQ (show n<=8 by lia)];rfl
  refine q _ _ n ts (e2.trans s1) (Ph aA (s1 _ _ hx) (dl.mono (jc.trans s1))) hw (Yx hw (by lia)) (by lia) (by lia)
theorem DX:aU ["_law_web_here","_law_order"] ["_law_web_here","_law_order"] (aB pq):=⟨rfl,rfl,rfl,by decide+kernel,rfl,by decide+kernel,by decide+kernel⟩
theorem lA:akD (["_law_order","_law_one","_law_other","_law_weight"]:List Str):=by decide+kernel
theorem DY (T:Txt K mg A D){k:Nat}:aP P w K mg base (cI P w) (k+1) A.d8 D.d8 ["_law_web_here","_law_order"] Tg:=by
 refine T.ir.pH DX (fun vs H Q E h=>?_) (fun cdv A' outer s H vs Q E hr h=>?_)
 .obtain⟨_,_,_,_,_,rfl,_⟩:=h;rfl
 obtain⟨v,l,n,ts,os,rfl,dv,hl0,hw,hin,ho,q⟩:=h;obtain⟨hol,hok,hon⟩:=dZ ho;obtain⟨hn0,hn8,htt⟩:=gq hw;obtain⟨a,tl,xs,rfl,ha,hl,dl⟩:=jr dv;have hlen:xs.length=ts.length:=by rw[←dl.length,aiJ]
 refine⟨_,(aq (aF (nA rfl (lM (N:=["_law_order","_law_one","_law_other","_law_weight"]) (js:=[some 1,none,none,none]) rfl rfl (by decide+kernel) (by decide+kernel) rfl (aiE.mpr ⟨rfl,fun _ h=>nomatch h⟩) (aiE.mpr ⟨(fun h=>nomatch h),(aiE.mpr ⟨(fun h=>nomatch h),(aiE.mpr ⟨(fun h=>nomatch h),(aiE.mpr ⟨(fun h=>nomatch h),(aiE.mpr ⟨(fun h=>nomatch h),(aiE.mpr ⟨(fun _=>rfl),fun _ h=>nomatch h⟩)⟩)⟩)⟩)⟩)⟩) (aiE.mpr ⟨(fun j h=>(by cases h;exact⟨rfl,rfl,rfl⟩)),(aiE.mpr ⟨(fun j h=>nomatch h),(aiE.mpr ⟨(fun j h=>nomatch h),(aiE.mpr ⟨(fun j h=>nomatch h),fun _ h=>nomatch h⟩)⟩)⟩)⟩) rfl) (cT (bA bG (pv 0) ak (fun _ _=>rfl))) (fun _ _ _ _=>(zZ (K:=K) (n:=3) rfl rfl (bw (aH (i:=1) lA rfl (ajp rfl) (hf:=akk rfl)) (bw (aH (i:=2) lA rfl (ajp rfl) (hf:=akk rfl)) (bw (aH (i:=3) lA rfl (ajp rfl) (hf:=akk rfl)) iB))) rfl rfl)) (fun _ _ _ _=>iD) (fun _ _ _ _=>(aK Xu rfl T.aah adu (aa (aG gZ (Ym (K:=K) rfl ajU alk alU (Gx (K:=K) rfl) (pv 0) (aa (pv 1) aj) rfl rfl rfl rfl rfl) (Ym (K:=K) rfl ajU alk alU (Gx (K:=K) rfl) (pv 0) (aa (pv 2) aj) rfl rfl rfl rfl rfl)) aj)))))),?_⟩;dsimp only[ou,eU];refine⟨_,rfl,_,_,_,_,rfl,rfl,cD.of ha,rfl,tl,rfl,⟨xs,bk.of hl⟩,?_⟩;refine rF (fun σ=>∃x y z,σ=[some (.ref l),x,y,z]) ts.length (fun i=>.int (uG os (ts.getD i []))) ⟨none,none,none,rfl⟩ ?_ ?_ ?_ ?_ ?_
 .intro i ahq hi e3;have hx:i<xs.length:=by lia
  exact⟨xs,xs[i],bk.of (e3 _ _ hl),aiG hx⟩
 .intro ahq e3;exact⟨xs,bk.of (e3 _ _ hl),by lia⟩
 .have:=hin.len;rw[aje];lia
 .rintro agA i x lK ahq aiv N hi e3 hD ⟨x1,y1,z1,rfl⟩ ⟨rfl,hx⟩ fin;obtain⟨t,nZ⟩:∃t,ts[i]?=some t:=⟨ts[i],aiG hi⟩;obtain⟨ta,hxa,Nz⟩:=uE (dl.mono e3) nZ;have hx2:=hx xs (bk.of (e3 _ _ hl));rw[hxa]at hx2;cases hx2;have htd:ts.getD i []=t:=by rw[ajb,nZ];rfl
  obtain⟨pa,pb,pc,rfl,h1,h2,h3,h4,h5,h6⟩:=htt t (ajo nZ);have ma:=gb ho h3 (by lia);have mb:=gb ho h1 h2;have hl3:=e3 _ _ hl0;refine⟨ta,_,rfl,cD.of Nz,rfl,_,_,rfl,_,_,rfl,_,_,rfl,rfl,?_⟩;refine⟨_,rfl,.inl ⟨rfl,_,bk.of hl3⟩,_,rfl,_,_,_,_,rfl,rfl,bk.of hl3,pR os,rfl,vM ma,_,rfl,.inl ⟨rfl,_,bk.of hl3⟩,_,rfl,_,_,_,_,rfl,rfl,bk.of hl3,pR os,rfl,vM mb,_,_,rfl,rfl,_,rfl,?_⟩;refine fin _ _ _ ⟨_,_,_,rfl⟩ (aC.refl _) ?_;rw[htd];exact .int
 .intro agA ys ahq hD e3 hy dy;have z:(aiY ts.length).map (fun i=>amU (uG os (ts.getD i [])))=(lens os ts).map .int:=by rw[lD (fun t=>amU (uG os t)) [] ts];unfold lens;rw[ajG];rfl
  rw[z]at dy;rw[dy.ints_of]at hy;exact q agA ahq hD e3 hy
theorem eN:aU ["_law_web_here","_law_order","_law_found","_law_gap","_law_over","_law_one","_law_other","_law_weight","_law_spots"] ["_law_web_here","_law_order"] (aB uW):=⟨rfl,rfl,rfl,by decide+kernel,rfl,by decide+kernel,by decide+kernel⟩
theorem NQ (T:Txt K mg A D){k:Nat}:aP P w K mg base (cI P w) (k+1) A.jA D.jA ["_law_web_here","_law_order"] Th:=by
 refine T.nU.pH eN (fun vs H Q E h=>?_) (fun cdv A' outer s H vs Q E hr h=>?_)
 .obtain⟨_,_,_,_,_,rfl,_⟩:=h;rfl
 obtain⟨v,l,n,ts,os,rfl,dv,hl0,hw,hin,ho,q⟩:=h;obtain⟨hol,hok,hon⟩:=dZ ho;obtain⟨hn0,hn8,htt⟩:=gq hw;obtain⟨a,tl,xs,rfl,ha,hl,dl⟩:=jr dv;have hlen:xs.length=ts.length:=by rw[←dl.length,aiJ]
 refine⟨_,(ao (aR (i:=2) eN.nd rfl (ajp rfl) (bQ aj)) (ao (fO aX rfl (fj rfl T.gh (aa (aG gZ (aK di rfl T.rH alu (aa (pv 1) aj)) ak) aj)) (aH (i:=3) eN.nd rfl (ajp rfl)) (ao (aR (i:=4) eN.nd rfl (ajp rfl) ak) (ao (fO aX rfl (cT (bA bG (pv 0) ak (fun _ _=>rfl))) (qx rfl (bw (aH (i:=5) eN.nd rfl (ajp rfl)) (bw (aH (i:=6) eN.nd rfl (ajp rfl)) (bw (aH (i:=7) eN.nd rfl (ajp rfl)) iB)))) (ao (aR (i:=8) eN.nd rfl (ajp rfl) (aK Kc rfl T.sY xx (aa (bQ (aa (rO ajU alk alU vK (pv 1) (aa (pv 5) aj)) (aa (rO ajU alk alU vK (pv 1) (aa (pv 6) aj)) aj))) aj))) (aq (aR (i:=4) eN.nd rfl (ajp rfl) (aG eQ (pv 4) (aG Ar (pv 7) (tC UJ rfl T.Mt Pb (aa (Ax Aw Av (bA dX (pv 8) ak (fun _ _=>rfl)) (pv 3) (bA dX (pv 8) ak (fun _ _=>rfl))) aj)))))))) (aq (jj (rO ajU ali alO mZ (pv 2) (aa (pv 4) aj))))))) (aq (aF (pv 2))))),?_⟩;dsimp only[ou,eU];refine⟨ajW _,fun f hf=>?_⟩;have e0:aC H (upd H f (.lst [])):=bH hf;refine az _ rfl (bU _ _ rfl (.inl (bk.of (e0 _ _ hl0))) (bU _ _ rfl rfl (aaC _ rfl (by rw[aiJ,hol];lia) (by rw[aiJ,hol];lia) ?_)));have hj:((os.map V.int).length:Int)-1=n-1:=by rw[aiJ,hol]
 rw[hj];refine fP (n-1).toNat (fun i σ H'=>∃v3 v4 agT v6 agC agR,σ=[some (.ref a),some (.ref l),some (.ref f),v3,v4,agT,v6,agC,agR]∧aC H H'∧H' f=some (.lst (((aiY i).map (j4 os ts)).map .int))) ⟨none,none,none,none,none,none,rfl,e0,aA⟩ (fun i σ H' hi _=>hi) (fun σ H' _=>aiN _) ?_ ?_
 .rintro i x σ H2 ahq hi ⟨v3,v4,agT,v6,agC,agR,rfl,e2,hg⟩ ⟨rfl,rfl⟩;have ei:(0:Int)+(i:Nat)=i:=by lia
  rw[ei];refine az _ rfl (mj _ _ _ _ rfl rfl (cD.of (e2 _ _ ha)) rfl (c7 tl rfl ⟨xs,bk.of (e2 _ _ hl)⟩ ?_));refine fP ts.length (fun j σ H'=>∃agT v6 agC agR,σ=[some (.ref a),some (.ref l),some (.ref f),some (.int i),some (.int (j4 os (ts.take j) i)),agT,v6,agC,agR]∧aC H H'∧H' f=some (.lst (((aiY i).map (j4 os ts)).map .int))) ⟨agT,v6,agC,agR,rfl,e2,hg⟩ ?_ ?_ ?_ ?_
  .rintro j σ H' hj ⟨agT,v6,agC,agR,rfl,e,hg'⟩;have hx:j<xs.length:=by lia
   exact mC xs (xs[j]) (bk.of (e _ _ hl)) (aiG hx)
  .rintro σ H' ⟨agT,v6,agC,agR,rfl,e,hg'⟩;exact⟨xs,bk.of (e _ _ hl),by lia⟩
  .rintro j x σ aiv agU hj ⟨agT,v6,agC,agR,rfl,e,hg'⟩ ⟨rfl,hx⟩;obtain⟨t,nZ⟩:∃t,ts[j]?=some t:=⟨ts[j],aiG hj⟩;obtain⟨ta,hxa,Nz⟩:=uE (dl.mono e) nZ;have hx2:=hx xs (bk.of (e _ _ hl));rw[hxa]at hx2;cases hx2;have htk:ts.take (j+1)=ts.take j++[t]:=by rw[akv,nZ];rfl
   obtain⟨pa,pb,pc,rfl,h1,h2,h3,h4,h5,h6⟩:=htt t (ajo nZ);have ma:=gb ho h3 (by lia);have mb:=gb ho h1 h2;have hl4:=e _ _ hl0;refine iV ta _ rfl (cD.of Nz) rfl (mC _ _ rfl (mC _ _ rfl (bU _ _ rfl rfl ?_)));refine c7 _ rfl (.inl ⟨rfl,_,bk.of hl4⟩) (az _ rfl (aaD _ _ _ _ rfl rfl (bk.of hl4) (pR os) rfl (vM ma) (c7 _ rfl (.inl ⟨rfl,_,bk.of hl4⟩) (az _ rfl ⟨_,_,_,_,rfl,rfl,(bk.of hl4),(pR os),rfl,(vM mb),(by show 2<=aiV;decide),(fun p hp=>?_)⟩))));refine iV p [((idx os pa:Nat):Int),((idx os pb:Nat):Int)] rfl (bk.of aA) (by show 2<64;decide) (fun sl ms hsl hp2 hs=>?_);have hms:=abi hp2 hs;subst hms;have s1:=bH (o:=.lst [V.int ((idx os pa:Nat):Int),V.int ((idx os pb:Nat):Int)]) hp;have s2:=bH (o:=.lst ([((min (idx os pa) (idx os pb):Nat):Int),((max (idx os pa) (idx os pb):Nat):Int)].map V.int)) hsl;have e5:=(e.trans s1).trans s2;have hg5:=s2 _ _ (s1 _ _ hg');have af5:(min (idx os pa) (idx os pb)<=i∧i<max (idx os pa) (idx os pb))->j4 os (ts.take (j+1)) i=j4 os (ts.take j) i+pc*1:=fun c=>by rw[htk,Bw,Int.mul_one];congr 1;exact aiP c
   have key0:¬(min (idx os pa) (idx os pb)<=i∧i<max (idx os pa) (idx os pb))->j4 os (ts.take (j+1)) i=j4 os (ts.take j) i+pc*0:=fun c=>by rw[htk,Bw,Int.mul_zero];congr 1;exact aiL c
   refine az _ rfl (az _ rfl (az _ rfl (mj _ _ _ _ rfl rfl (bk.of aA) rfl (az _ rfl (bU _ _ rfl rfl (az _ rfl (aba (fun c=>?_) (fun c=>?_))))))))
   .have c1:((min (idx os pa) (idx os pb):Nat):Int)<=i:=ai9 c;refine az _ rfl (mj _ _ _ _ rfl rfl (bk.of aA) rfl (bU _ _ rfl rfl (.inr ⟨_,rfl,_,_,rfl,rfl,.inl ⟨by lia,by lia⟩,_,_,rfl,rfl,?_⟩)));refine⟨(some (.int pa)),(some (.int pb)),(some (.int pc)),(some (.ref sl)),?_,e5,hg5⟩;dsimp only;by_cases c2:i<max (idx os pa) (idx os pb)
    .have c3:decide ((i:Int)<((max (idx os pa) (idx os pb):Nat):Int))=true:=aiQ (by lia);rw[c3,af5 ⟨by lia,c2⟩];rfl
    .have c3:decide ((i:Int)<((max (idx os pa) (idx os pb):Nat):Int))=false:=aiO (by lia);rw[c3,key0 (fun z=>c2 z.2)];rfl
   .have c1:¬((min (idx os pa) (idx os pb):Nat):Int)<=i:=of_decide_eq_false (akG.mpr c);refine .inr ⟨_,rfl,_,_,rfl,rfl,.inl ⟨by lia,by lia⟩,_,_,rfl,rfl,?_⟩;refine⟨(some (.int pa)),(some (.int pb)),(some (.int pc)),(some (.ref sl)),?_,e5,hg5⟩;dsimp only;rw[key0 (fun z=>c1 (by have:=z.1;lia))];rfl
  .rintro σ aiv ⟨agT,v6,agC,agR,rfl,e,hg'⟩;rw[akt];have hfl:(((aiY i).map (j4 os ts)).map V.int).length<aiV:=by rw[aiJ,aiJ,ajZ,aje];lia
   refine c7 _ rfl (.inl ⟨rfl,_,bk.of hg'⟩) (az _ rfl (acu _ _ _ rfl rfl hg' hfl ⟨_,_,_,_,_,_,rfl,(e.put hf),?_⟩));rw[aA,akQ,ajf,ajf];rfl
 .rintro σ H' ⟨v3,v4,agT,v6,agC,agR,rfl,e,hg⟩;exact⟨_,rfl,q f H' hf e hg⟩
theorem rI:aU ["_law_web_here","_law_kind","_law_order","_law_gaps_here"] ["_law_web_here","_law_kind","_law_order"] (aB nQ):=⟨rfl,rfl,rfl,by decide+kernel,rfl,by decide+kernel,by decide+kernel⟩
theorem zP (T:Txt K mg A D){k:Nat}(lG:aP P w K mg base (cI P w) k A.d8 D.d8 ["_law_web_here","_law_order"] Tg)(rB:aP P w K mg base (cI P w) k A.jA D.jA ["_law_web_here","_law_order"] Th):aP P w K mg base (cI P w) (k+1) A.dq D.dq ["_law_web_here","_law_kind","_law_order"] Ti:=by
 refine T.gC.pH rI (fun vs H Q E h=>?_) (fun cdv A' outer s H vs Q E hr h=>?_)
 .obtain⟨_,_,_,_,_,_,rfl,_⟩:=h;rfl
 obtain⟨v,kd,l,n,ts,os,rfl,dv,hl,hw,win,acy,ho,q1,q2,q3⟩:=h;obtain⟨hn0,hn8,_⟩:=gq hw;have htk:∀t∈ts,cJ n t=true:=by unfold bN at hw;rw[aiR]at hw;exact iI hw.2
 refine⟨_,(ao (bF (aJ dW (pv 1) b7 (aQ _)) (aq (aF (aK (Gv rfl) rfl T.Dm Br (aa (aG pg (bQ (aa ak aj)) (aD lG hr rfl T.Ex T.ir.kp T.Ey .nil aL (aa (pv 0) (aa (pv 2) aj)))) aj)))) aM) (ao (aR (i:=3) rI.nd rfl (ajp rfl) (aD rB hr rfl T.QC T.nU.kp T.QD .nil aL (aa (pv 0) (aa (pv 2) aj)))) (aq (aF (dU (aJ dW (pv 1) b7 (aQ _)) (aK (Gv rfl) rfl T.Dm Br (aa (aG pg (bQ (aa ak aj)) (pv 3)) aj)) (aK (Bm rfl) rfl T.Mu Pg (aa (pv 3) aj))))))),?_⟩;dsimp only[ou,eU];refine⟨_,rfl,rfl,_,rfl,ite_str (fun c=>?_) fun c1=>?_⟩
 .refine⟨(by show 1<=aiV;decide),fun p1 hp1=>?_⟩;obtain⟨s1,n1⟩:=au (o:=.lst [V.int 0]) hp1;refine⟨_,rfl,_,rfl,v,l,n,ts,os,rfl,dv.mono s1,s1 _ _ hl,hw,win,ho,fun p2 H2 hp2 e2 h2=>?_⟩;have hfl:((lens os ts).map V.int).length<=64:=by rw[aiJ,Yq];exact acy
  refine⟨_,_,_,_,rfl,rfl,e2 _ _ n1,h2,(by rw[aje];show 1+_<=_;omega),fun p3 hp3=>?_⟩;obtain⟨s3,n3⟩:=au (o:=.lst ([V.int 0]++(lens os ts).map V.int)) hp3;refine⟨p3,[0]++lens os ts,rfl,bk.of (n3.trans (by rw[ajf];rfl)),(by simp),fun M hM=>?_⟩;rw[Bv Kl hM];exact q1 c _ ((s1.trans e2).trans s3)
 .refine⟨_,rfl,_,rfl,v,l,n,ts,os,rfl,dv,hl,hw,win,ho,fun p2 H2 hp2 e2 h2=>?_⟩;have hgl:((nD (n-1).toNat os ts).map V.int).length<=64:=by unfold nD;rw[aiJ,aiJ,ajZ];omega
  refine⟨_,rfl,rfl,_,rfl,ite_str (fun c=>?_) fun c2=>?_⟩
  .refine⟨(by show 1<=aiV;decide),fun p1 hp1=>?_⟩;obtain⟨s1,n1⟩:=au (o:=.lst [V.int 0]) hp1;refine⟨_,rfl,_,_,_,_,rfl,rfl,n1,s1 _ _ h2,(by rw[aje];show 1+_<=_;omega),fun p3 hp3=>?_⟩;obtain⟨s3,n3⟩:=au (o:=.lst ([V.int 0]++(nD (n-1).toNat os ts).map V.int)) hp3;refine⟨p3,[0]++nD (n-1).toNat os ts,rfl,bk.of (n3.trans (by rw[ajf];rfl)),(by simp),fun M hM=>?_⟩;rw[Bv (Km htk) hM];exact q2 c _ ((e2.trans s1).trans s3)
  .refine⟨_,rfl,p2,_,rfl,bk.of h2,?_⟩;rw[Bu ho htk];exact q3 c1 c2 _ e2
theorem aaL (n:Nat)(o:List Int):(((aiY n).filter fun i:Nat=>!decide ((i:Int)∈o)).map fun i:Nat=>Ep (o++[(i:Int)]))=(oH n o).map Ep:=by unfold oH upto;rw[aoT,ajG,ajG];rfl
theorem iY:aU ["_law_many","_law_found","_law_k","_law_longer","_law_order"] ["_law_many"] (aB xW):=⟨rfl,rfl,rfl,by decide+kernel,rfl,by decide+kernel,by decide+kernel⟩
theorem JB:akD (["_law_order","_law_place"]:List Str):=by decide+kernel
theorem R3 (T:Txt K mg A D){k:Nat}:aP P w K mg base (cI P w) (k+1) A.mR D.mR ["_law_many"] YG:=by
 refine T.qg.pH iY (fun vs H Q E h=>?_) (fun cdv A' outer s H vs Q E hr h=>?_)
 .obtain⟨_,rfl,_⟩:=h;rfl
 obtain⟨n,rfl,hn,q⟩:=h;refine⟨_,(ao (aR (i:=1) iY.nd rfl (ajp rfl) (bQ (aa (bQ aj) aj))) (ao (fO aX rfl (fj rfl T.gh (aa (pv 0) aj)) (aH (i:=2) iY.nd rfl (ajp rfl)) (ao (aR (i:=3) iY.nd rfl (ajp rfl) (bQ aj)) (ao (fO aX rfl (cT (pv 1)) (aH (i:=4) iY.nd rfl (akk rfl)) (aq (aR (i:=3) iY.nd rfl (ajp rfl) (aG pg (pv 3) (nA rfl (lM (N:=["_law_order","_law_place"]) (js:=[some 4,none]) rfl rfl (by decide+kernel) (by decide+kernel) rfl (aiE.mpr ⟨rfl,fun _ h=>nomatch h⟩) (aiE.mpr ⟨(fun h=>nomatch h),(aiE.mpr ⟨(fun h=>nomatch h),(aiE.mpr ⟨(fun _=>rfl),fun _ h=>nomatch h⟩)⟩)⟩) (aiE.mpr ⟨(fun j h=>(by cases h;exact⟨rfl,rfl,rfl⟩)),(aiE.mpr ⟨(fun j h=>nomatch h),fun _ h=>nomatch h⟩)⟩) rfl) (fj rfl T.gh (aa (pv 0) aj)) (fun _ _ _ _=>(aH (i:=1) JB rfl (ajp rfl) (hf:=akk rfl))) (fun _ _ _ _=>(qG (aJ (uv (K:=K) rfl) (pv 1) (pv 0) (by with_unfolding_all rfl)))) (fun _ _ _ _=>(aG pg (pv 0) (bQ (aa (pv 1) aj))))))))) (aq (aR (i:=1) iY.nd rfl (ajp rfl) (pv 3)))))) (aq (aF (pv 1))))),?_⟩;dsimp only[ou,eU];refine⟨(by show 0<=aiV;decide),fun p0 hp0=>⟨(by show 1<=aiV;decide),fun p1 hp1=>?_⟩⟩;obtain⟨s0,n0⟩:=au (o:=.lst []) hp0;obtain⟨s1,n1⟩:=au (o:=.lst [V.ref p0]) hp1;refine⟨_,rfl,(n:Int),rfl,by lia,by lia,?_⟩;rw[ai4];refine fP n (fun i σ H'=>∃fv v2 v3 v4,σ=[some (.int (n:Int)),some fv,v2,v3,v4]∧aC H H'∧Dat H' (.list ((cP n i).map Ep)) fv) ⟨_,none,none,none,rfl,s0.trans s1,.list n1 (.cons (.list (s1 _ _ n0) .nil) .nil)⟩ (fun i σ H' hi _=>hi) (fun σ H' _=>aiN _) ?_ ?_
 .rintro i x σ aiv agU hi ⟨fv,v2,v3,v4,rfl,e4,df⟩ ⟨rfl,rfl⟩;obtain⟨fl,xs,rfl,hf,dx⟩:=df.eY;have hal:=H7 hn i;have h5:5^i<=3125:=show 5^i<=5^5 from aj5 (by decide) (by lia)
  have hxl:xs.length=(cP n i).length:=by rw[←dx.length,aiJ]
  refine⟨(by show 0<=aiV;decide),fun q1 hq1=>?_⟩;obtain⟨sq,aia⟩:=au (o:=.lst []) hq1;refine⟨_,rfl,fl,rfl,⟨_,bk.of (sq _ _ hf)⟩,?_⟩;refine fP xs.length (fun j σ H'=>∃lv v4,σ=[some (.int (n:Int)),some (.ref fl),some (.int (0+(i:Nat))),some lv,v4]∧aC agU H'∧Dat H' (.list ((((cP n i).take j).flatMap (oH n)).map Ep)) lv) ⟨_,_,rfl,sq,.list aia .nil⟩ ?_ ?_ ?_ ?_
  .rintro j σ H' hj ⟨lv,v4',rfl,e,_⟩;exact⟨xs,xs[j],bk.of (e _ _ hf),aiG hj⟩
  .rintro σ H' ⟨lv,v4',rfl,e,_⟩;exact⟨xs,bk.of (e _ _ hf),aiN _⟩
  .rintro j x σ ag1 ahC hj ⟨lv,v4',rfl,e6,dlv⟩ ⟨rfl,hx⟩;have hx2:=hx xs (bk.of (e6 _ _ hf));have hja:j<(cP n i).length:=by lia
   obtain⟨o,ho⟩:∃o,(cP n i)[j]?=some o:=⟨_,aiG hja⟩;obtain⟨y,hy,dy⟩:=(dx.mono e6).get (d:=Ep o) (by rw[ai6,ho];rfl);rw[hx2]at hy;cases hy;obtain⟨ol,rfl,hol⟩:=YH dy;obtain⟨ll,ys,rfl,hll,dys⟩:=dlv.eY;have agr:o.length=i:=(tK.mp (ajo ho)).1;refine⟨_,rfl,_,rfl,(n:Int),rfl,by lia,by lia,?_⟩;rw[ai4];refine uI (fun σ=>∃x,σ=[some (.ref ol),x]) n (fun i=>!decide ((i:Int)∈o)) (fun i=>Ep (o++[(i:Int)])) ⟨none,rfl⟩ (fun i ahq hi e3=>hi) (fun ahq e3=>aiN _) (by rw[aje];lia) ?_ ?_
   .rintro agA m x lK ahe aim Y Z hm e8 ⟨ysD,hD⟩ ⟨x1,rfl⟩ ⟨rfl,rfl⟩ yes no;have em:(0:Int)+(m:Nat)=((m:Nat):Int):=by lia
    rw[em];have ho8:=e8 _ _ hol;refine⟨_,rfl,_,rfl,ol,_,rfl,.inl (bk.of ho8),rfl,pR o,_,rfl,?_⟩;have hb:(if true=true then !inV (.int (m:Int)) (o.map V.int)else inV (.int (m:Int)) (o.map V.int))=!decide ((m:Int)∈o):=by rw[aiP rfl,Aa]
    refine Ky hb (fun c=>?_) (fun c=>?_)
    .refine⟨_,rfl,_,rfl,(by show 1<=aiV;decide),fun r1 hr1=>?_⟩;obtain⟨t1,m1⟩:=au (o:=.lst [V.int (m:Int)]) hr1;refine⟨_,_,_,_,rfl,rfl,t1 _ _ ho8,m1,(by rw[aje,aiJ];show _+1<=_;lia),fun r2 hr2=>?_⟩;obtain⟨t2,m2⟩:=au (o:=.lst (o.map V.int++[V.int (m:Int)])) hr2;refine yes _ _ _ c ⟨_,rfl⟩ (t1.trans t2) (Dat.ints ?_);rw[mO (Yl hr2 (t1 _ _ hD)),m2,ajf];rfl
    .exact no _ _ c ⟨_,rfl⟩ (aC.refl _)
   .intro agA zs ahe hD e8 hzs dzs;rw[aaL]at dzs;have l1:=dys.length;have l2:=dzs.length;rw[aiJ]at l1 l2;have l3:=BJ hn ((cP n i).take j);have l4:=Tu (n:=n) o;rw[ajC]at l3;refine⟨_,_,_,_,rfl,rfl,e8 _ _ hll,hzs,(by rw[aje];lia),fun r hr=>?_⟩;obtain⟨t1,m1⟩:=au (o:=.lst (ys++zs)) hr;refine⟨_,_,rfl,e6.trans (e8.trans t1),.list m1 ?_⟩;rw[akv,ho];show bC _ ((List.flatMap (oH n) ((cP n i).take j++[o])).map Ep) _;rw[aoY,ajf];refine(dys.mono (e8.trans t1)).append ?_;rw[ajH,ap8,alb];exact dzs.mono (jc.trans t1)
  .rintro σ ag1 ⟨lv,v4',rfl,e6,dlv⟩;rw[hxl,akt]at dlv;exact⟨_,rfl,_,_,_,_,rfl,e4.trans e6,dlv⟩
 .rintro σ H' ⟨fv,v2,v3,v4,rfl,e,df⟩;exact⟨_,rfl,q fv H' e df⟩
theorem n7:aU ["_law_kept","_law_kinds"] ["_law_kept"] (aB pA):=⟨rfl,rfl,rfl,by decide+kernel,rfl,by decide+kernel,by decide+kernel⟩
theorem Ea (T:Txt K mg A D){k:Nat}:aP P w K mg base (cI P w) (k+1) A.d9 D.d9 ["_law_kept"] (acK A.er):=by
 refine T.iu.pH n7 (fun vs H Q E h=>?_) (fun cdv A' outer s H vs Q E hr h=>?_)
 .obtain⟨_,rfl,_⟩:=h;rfl
 obtain⟨x,rfl,h⟩:=h;refine⟨_,(ao (bF (wY (Xj (pv 0))) (aq (aF b7)) aM) (ao (aR (i:=1) n7.nd rfl (ajp rfl) (bQ (aa (aK gJ rfl T.bf bj (aa (pv 0) (aa (ji (v:=.ref A.cF) rfl T.yf rfl) aj))) (aa (aK gJ rfl T.bf bj (aa (pv 0) (aa (ji (v:=.ref A.cg) rfl T.QL rfl) aj))) (aa (aK gJ rfl T.bf bj (aa (pv 0) (aa (ji (v:=.ref A.cU) rfl T.Wd rfl) aj))) aj))))) (ao (aR (i:=1) n7.nd rfl (ajp rfl) (aG pg (pv 1) (bQ (aa (aK gJ rfl T.bf bj (aa (pv 0) (aa (ji (v:=.ref A.cV) rfl T.Wg rfl) aj))) (aa (aK gJ rfl T.bf bj (aa (pv 0) (aa (ji (v:=.ref A.dj) rfl T.ql rfl) aj))) aj))))) (ao (bF (PW.pt (yR (aJ vA (rO ajU ap4 PySem.F.type_list_count Yi (pv 1) (aa gY aj)) ak (aQ _)) (uz (f9 (fc (aK gJ rfl T.bf bj (aa (pv 0) (aa (iz (v:=.ty "ValueError") rfl T.ru En rfl) aj)))))))) (aq (aF b7)) aM) (aq (aF (bA dX (bQ (aa b7 (aa b7 (aa b7 (aa b7 (aa b7 aj)))))) (rO ajU alk alU vK (pv 1) (aa gY aj)) (fun _ _=>rfl)))))))),?_⟩;dsimp only[ou,eU];rcases h with⟨rfl,q⟩|⟨a,C,y,rfl,ha,hw,q⟩
 .exact az _ rfl (az _ rfl (oG rfl q))
 refine az _ rfl (az _ rfl (pU (fun z=>nomatch z) ?_));obtain⟨_,_,L,hV⟩:=Hn T hw;obtain⟨agS,ahG,bS,agw,aiC,j,h1,h2,h3,h4,h5,h6,h7,h8⟩:∃(agS ahG bS agw aiC:Bool) (j:Nat),aiI K (.ref C) (.ref A.cF)=some agS∧aiI K (.ref C) (.ref A.cg)=some ahG∧aiI K (.ref C) (.ref A.cU)=some bS∧aiI K (.ref C) (.ref A.cV)=some agw∧aiI K (.ref C) (.ref A.dj)=some aiC∧
  V.int (([V.bl agS,V.bl ahG,V.bl bS,V.bl agw,V.bl aiC].countP fun z=>xg z (.bl true):Nat):Int)=V.int 1∧[V.bl agS,V.bl ahG,V.bl bS,V.bl agw,V.bl aiC].findIdx? (fun z=>xg z (.bl true))=some j∧Ek [V.str "kind",V.str "order",V.str "spot",V.str "text",V.str "web"] (j:Int)=some (.str y):=by
  rcases hw with⟨rfl,rfl⟩|⟨rfl,rfl⟩|⟨rfl,rfl⟩|⟨rfl,rfl⟩|⟨rfl,rfl⟩
  .exact aaE true false false false false 0 T.jN T.iT T.jM T.jO T.lq rfl rfl rfl
  .exact aaE false true false false false 1 T.iM T.ig T.iK T.iQ T.jH rfl rfl rfl
  .exact aaE false false true false false 2 T.jK T.iR T.jJ T.jL T.lg rfl rfl rfl
  .exact aaE false false false true false 3 T.jQ T.iU T.jP T.jR T.lr rfl rfl rfl
  .exact aaE false false false false true 4 T.kY T.jG T.kW T.kZ T.mz rfl rfl rfl
 refine az _ rfl (yL _ _ _ _ _ rfl rfl ha L h1 (az _ rfl (yL _ _ _ _ _ rfl rfl ha L h2 (az _ rfl ⟨_,_,_,_,_,rfl,rfl,ha,L,h3,(by show 3<=aiV;decide),(fun p hp=>?_)⟩))));have s1:=bH (o:=.lst [V.bl agS,V.bl ahG,V.bl bS]) hp;refine az _ rfl (az _ rfl (yL _ _ _ _ _ rfl rfl (s1 _ _ ha) L h4 (az _ rfl ⟨_,_,_,_,_,rfl,rfl,(s1 _ _ ha),L,h5,(by show 2<=aiV;decide),(fun p2 hp2=>?_)⟩)));have s2:=bH (o:=.lst [V.bl agw,V.bl aiC]) hp2;refine vh _ _ _ _ rfl rfl (s2 _ _ aA) aA (by show 5<=aiV;decide) (fun p3 hp3=>?_);have s3:=bH (o:=.lst ([V.bl agS,V.bl ahG,V.bl bS]++[V.bl agw,V.bl aiC])) hp3;have ha3:=s3 _ _ (s2 _ _ (s1 _ _ ha));refine c7 _ rfl (.inl ⟨rfl,_,bk.of aA⟩) ⟨_,_,_,rfl,rfl,(bk.of aA),rfl,rfl,rfl,az _ rfl (aeM h6 ?_)⟩;refine az _ rfl (yL _ _ _ _ _ rfl rfl ha3 L hV (az _ rfl (cN ?_)));refine⟨(by show 5<=aiV;decide),fun p4 hp4=>?_⟩;have s4:=bH (o:=.lst [V.str "kind",V.str "order",V.str "spot",V.str "text",V.str "web"]) hp4;exact c7 _ rfl (.inl ⟨rfl,_,bk.of (s4 _ _ aA)⟩) (aaD _ _ _ _ rfl rfl (bk.of (s4 _ _ aA)) rfl rfl h7 (mj _ _ _ _ rfl rfl (bk.of aA) h8 (q _ (((s1.trans s2).trans s3).trans s4))))
theorem R4:aU ["_law_many"] ["_law_many"] (aB xX):=⟨rfl,rfl,rfl,by decide+kernel,rfl,by decide+kernel,by decide+kernel⟩
theorem R5 (T:Txt K mg A D){k:Nat}:aP P w K mg base (cI P w) (k+1) A.du D.du ["_law_many"] BK:=by
 refine T.cX.pH R4 (fun vs H Q E h=>?_) (fun cdv A' outer s H vs Q E hr h=>?_)
 .obtain⟨_,rfl,_⟩:=h;rfl
 obtain⟨n,rfl,hn,q⟩:=h;refine⟨_,(aq (aF (bA dX (bQ (aa ak (aa ak (aa ak (aa ak (aa ak (aa ak aj))))))) (pv 0) (fun _ _=>rfl)))),?_⟩;dsimp only[ou,eU];refine⟨(by show 6<=aiV;decide),fun p hp=>?_⟩;obtain⟨s1,n1⟩:=au (o:=.lst [V.int 1,V.int 2,V.int 4,V.int 8,V.int 16,V.int 32]) hp;exact⟨_,rfl,p,_,_,_,rfl,rfl,bk.of n1,adx hn,q _ s1⟩
theorem R6:aU ["_law_web_here","_law_some"] ["_law_web_here","_law_some"] (aB xY):=⟨rfl,rfl,rfl,by decide+kernel,rfl,by decide+kernel,by decide+kernel⟩
theorem rC:akD (["_law_some","_law_one","_law_other","_law_weight"]:List Str):=by decide+kernel
theorem R7 (T:Txt K mg A D){k:Nat}(bc:aP P w K mg base (cI P w) k A.du D.du ["_law_many"] BK):aP P w K mg base (cI P w) (k+1) A.mU D.mU ["_law_web_here","_law_some"] YD:=by
 refine T.qi.pH R6 (fun vs H Q E h=>?_) (fun cdv A' outer s H vs Q E hr h=>?_)
 .obtain⟨_,_,_,_,rfl,_⟩:=h;rfl
 obtain⟨v,n,ts,S,rfl,dv,hw,hin,hn,q⟩:=h;obtain⟨hn0,hn8,htt⟩:=gq hw;obtain⟨a,tl,xs,rfl,ha,hl,dl⟩:=jr dv;have hlen:xs.length=ts.length:=by rw[←dl.length,aiJ]
 have hts:=hin.len;refine⟨_,(aq (aF (aK (Bm rfl) rfl T.Mu Pg (aa (nA rfl (lM (N:=["_law_some","_law_one","_law_other","_law_weight"]) (js:=[some 1,none,none,none]) rfl rfl (by decide+kernel) (by decide+kernel) rfl (aiE.mpr ⟨rfl,fun _ h=>nomatch h⟩) (aiE.mpr ⟨(fun h=>nomatch h),(aiE.mpr ⟨(fun h=>nomatch h),(aiE.mpr ⟨(fun h=>nomatch h),(aiE.mpr ⟨(fun h=>nomatch h),(aiE.mpr ⟨(fun h=>nomatch h),(aiE.mpr ⟨(fun _=>rfl),fun _ h=>nomatch h⟩)⟩)⟩)⟩)⟩)⟩) (aiE.mpr ⟨(fun j h=>(by cases h;exact⟨rfl,rfl,rfl⟩)),(aiE.mpr ⟨(fun j h=>nomatch h),(aiE.mpr ⟨(fun j h=>nomatch h),(aiE.mpr ⟨(fun j h=>nomatch h),fun _ h=>nomatch h⟩)⟩)⟩)⟩) rfl) (cT (bA bG (pv 0) ak (fun _ _=>rfl))) (fun _ _ _ _=>(zZ (K:=K) (n:=3) rfl rfl (bw (aH (i:=1) rC rfl (ajp rfl) (hf:=akk rfl)) (bw (aH (i:=2) rC rfl (ajp rfl) (hf:=akk rfl)) (bw (aH (i:=3) rC rfl (ajp rfl) (hf:=akk rfl)) iB))) rfl rfl)) (fun _ _ _ _=>(qG (aJ vA (aG fu (aG jk (pv 0) (aD bc hr rfl T.fY T.cX.kp T.fZ .nil aL (aa (pv 1) aj))) ak) (aG fu (aG jk (pv 0) (aD bc hr rfl T.fY T.cX.kp T.fZ .nil aL (aa (pv 2) aj))) ak) (aQ _)))) (fun _ _ _ _=>(pv 3))) aj)))),?_⟩;dsimp only[ou,eU];refine⟨_,rfl,_,_,_,_,rfl,rfl,cD.of ha,rfl,tl,rfl,⟨xs,bk.of hl⟩,?_⟩;refine uI (fun σ=>∃x y z,σ=[some (.int S),x,y,z]) ts.length (fun i=>Eh S (ts.getD i [])) (fun i=>.int (w3 (ts.getD i []))) ⟨none,none,none,rfl⟩ ?_ ?_ (by rw[aje];lia) ?_ ?_
 .intro i aiv Vt e4;have hx:i<xs.length:=by lia
  exact⟨xs,xs[i],bk.of (e4 _ _ hl),aiG hx⟩
 .intro aiv e4;exact⟨xs,bk.of (e4 _ _ hl),by lia⟩
 .rintro agA i x lK aiv agU Y Z Vt e4 hD ⟨x1,y1,z1,rfl⟩ ⟨rfl,hx⟩ yes no;obtain⟨t,nZ⟩:∃t,ts[i]?=some t:=⟨ts[i],aiG Vt⟩;obtain⟨ta,hxa,Nz⟩:=uE (dl.mono e4) nZ;have hx2:=hx xs (bk.of (e4 _ _ hl));rw[hxa]at hx2;cases hx2;have htd:ts.getD i []=t:=by rw[ajb,nZ];rfl
  obtain⟨pa,pb,pc,rfl,h1,h2,h3,h4,h5,h6⟩:=htt t (ajo nZ);obtain⟨pa,rfl⟩:∃m:Nat,pa=m:=⟨pa.toNat,by lia⟩;obtain⟨pb,rfl⟩:∃m:Nat,pb=m:=⟨pb.toNat,by lia⟩;have p32:∀m:Nat,m<=5->(0:Int)<((2^m:Nat):Int)∧((2^m:Nat):Int)<1073741824:=fun m hm=>by
   have z1:=two_pos m;have z2:2^m<=2^5:=aj5 (by decide) hm;constructor
   .exact auT.mpr z1
   .exact apr (aqt.mpr z2) (by decide)
  refine⟨ta,_,rfl,cD.of Nz,rfl,_,_,rfl,_,_,rfl,_,_,rfl,rfl,?_⟩;refine⟨_,rfl,_,rfl,pa,rfl,by lia,fun ag1 e6=>⟨_,_,rfl,rfl,p32 pa (by lia),_,_,rfl,rfl,(by show(0:Int)<2;decide),_,rfl,_,rfl,pb,rfl,by lia,fun ahC e7=>⟨_,_,rfl,rfl,p32 pb (by lia),_,_,rfl,rfl,(by show(0:Int)<2;decide),rfl,_,rfl,?_⟩⟩⟩;have e57:=e6.trans e7;have hb:(!decide (V.int ((S:Int)/((2^pa:Nat):Int) %2)=V.int ((S:Int)/((2^pb:Nat):Int) %2)))=Eh S (ts.getD i []):=by rw[tL,tL,YF,htd];rfl
  refine Ky hb (fun c=>?_) (fun c=>?_)
  .refine⟨_,rfl,yes _ _ _ c ⟨_,_,_,rfl⟩ e57 ?_⟩;rw[htd];exact .int
  .exact no _ _ c ⟨_,_,_,rfl⟩ e57
 .intro agA ys aiv hD e4 hy dy;have z:(((aiY ts.length).filter fun i=>Eh S (ts.getD i [])).map fun i=>amU (w3 (ts.getD i [])))=(((aiY ts.length).filter fun i=>Eh S (ts.getD i [])).map fun i=>w3 (ts.getD i [])).map .int:=by rw[ajG];rfl
  rw[z]at dy;rw[dy.ints_of]at hy;refine⟨agA,_,rfl,bk.of hy,?_⟩;rw[Tr];exact q aiv e4
theorem NT:aU ["_law_web_here","_law_place"] ["_law_web_here","_law_place"] (aB uX):=⟨rfl,rfl,rfl,by decide+kernel,rfl,by decide+kernel,by decide+kernel⟩
theorem pF:akD (["_law_place","_law_one","_law_other","_law_weight"]:List Str):=by decide+kernel
theorem NZ (T:Txt K mg A D){k:Nat}:aP P w K mg base (cI P w) (k+1) A.jB D.jB ["_law_web_here","_law_place"] ZX:=by
 refine T.kO.pH NT (fun vs H Q E h=>?_) (fun cdv A' outer s H vs Q E hr h=>?_)
 .obtain⟨_,_,_,_,rfl,_⟩:=h;rfl
 obtain⟨v,n,ts,p,rfl,dv,hw,hin,q⟩:=h;obtain⟨hn0,hn8,htt⟩:=gq hw;obtain⟨a,tl,xs,rfl,ha,hl,dl⟩:=jr dv;have hlen:xs.length=ts.length:=by rw[←dl.length,aiJ]
 have hts:=hin.len;refine⟨_,(aq (aF (nA rfl (lM (N:=["_law_place","_law_one","_law_other","_law_weight"]) (js:=[some 1,none,none,none]) rfl rfl (by decide+kernel) (by decide+kernel) rfl (aiE.mpr ⟨rfl,fun _ h=>nomatch h⟩) (aiE.mpr ⟨(fun h=>nomatch h),(aiE.mpr ⟨(fun h=>nomatch h),(aiE.mpr ⟨(fun h=>nomatch h),(aiE.mpr ⟨(fun h=>nomatch h),(aiE.mpr ⟨(fun _=>rfl),fun _ h=>nomatch h⟩)⟩)⟩)⟩)⟩) (aiE.mpr ⟨(fun j h=>(by cases h;exact⟨rfl,rfl,rfl⟩)),(aiE.mpr ⟨(fun j h=>nomatch h),(aiE.mpr ⟨(fun j h=>nomatch h),(aiE.mpr ⟨(fun j h=>nomatch h),fun _ h=>nomatch h⟩)⟩)⟩)⟩) rfl) (cT (bA bG (pv 0) ak (fun _ _=>rfl))) (fun _ _ _ _=>(zZ (K:=K) (n:=3) rfl rfl (bw (aH (i:=1) pF rfl (ajp rfl) (hf:=akk rfl)) (bw (aH (i:=2) pF rfl (ajp rfl) (hf:=akk rfl)) (bw (aH (i:=3) pF rfl (ajp rfl) (hf:=akk rfl)) iB))) rfl rfl)) (fun _ _ _ _=>(qG (aJ (Pq (K:=K) rfl) (pv 0) (bL (aa (pv 1) (aa (pv 2) aj))) (by with_unfolding_all rfl)))) (fun _ _ _ _=>(aG gZ (aG eQ (pv 1) (pv 2)) (pv 0)))))),?_⟩;dsimp only[ou,eU];refine⟨_,rfl,_,_,_,_,rfl,rfl,cD.of ha,rfl,tl,rfl,⟨xs,bk.of hl⟩,?_⟩;refine uI (fun σ=>∃x y z,σ=[some (.int p),x,y,z]) ts.length (fun i=>isAt p (ts.getD i [])) (fun i=>.int (oth p (ts.getD i []))) ⟨none,none,none,rfl⟩ ?_ ?_ (by rw[aje];lia) ?_ ?_
 .intro i aiv Vt e4;have hx:i<xs.length:=by lia
  exact⟨xs,xs[i],bk.of (e4 _ _ hl),aiG hx⟩
 .intro aiv e4;exact⟨xs,bk.of (e4 _ _ hl),by lia⟩
 .rintro agA i x lK aiv agU Y Z Vt e4 hD ⟨x1,y1,z1,rfl⟩ ⟨rfl,hx⟩ yes no;obtain⟨t,nZ⟩:∃t,ts[i]?=some t:=⟨ts[i],aiG Vt⟩;obtain⟨ta,hxa,Nz⟩:=uE (dl.mono e4) nZ;have hx2:=hx xs (bk.of (e4 _ _ hl));rw[hxa]at hx2;cases hx2;have htd:ts.getD i []=t:=by rw[ajb,nZ];rfl
  obtain⟨pa,pb,pc,rfl,h1,h2,h3,h4,h5,h6⟩:=htt t (ajo nZ);refine⟨ta,_,rfl,cD.of Nz,rfl,_,_,rfl,_,_,rfl,_,_,rfl,rfl,?_⟩;refine⟨_,rfl,_,rfl,_,rfl,(by show 2<=aiV;decide),fun r hr'=>?_⟩;obtain⟨s1,n1⟩:=au (o:=.tup [V.int pa,V.int pb]) hr';refine⟨r,_,rfl,.inr (cD.of n1),rfl,rfl,_,rfl,?_⟩;have hb:(if false=true then !inV (.int (p:Int)) ([pa,pb].map V.int)else inV (.int (p:Int)) ([pa,pb].map V.int))=isAt p (ts.getD i []):=by rw[aiL aiW,Aa,htd];show decide ((p:Int)∈[pa,pb])=(decide (pa=(p:Int))||decide (pb=(p:Int)));rw[ajD,aoU,decide_eq_true_eq,decide_eq_true_eq,decide_eq_true_eq,ai3,ai5];exact⟨fun z=>z.elim (fun y=>.inl y.symm) fun y=>.inr y.symm,fun z=>z.elim (fun y=>.inl y.symm) fun y=>.inr y.symm⟩
  refine Ky hb (fun c=>?_) (fun c=>?_)
  .refine⟨_,rfl,_,rfl,_,_,rfl,rfl,_,rfl,_,_,rfl,rfl,yes _ _ _ c ⟨_,_,_,rfl⟩ s1 ?_⟩;rw[htd];exact .int
  .exact no _ _ c ⟨_,_,_,rfl⟩ s1
 .intro agA ys aiv hD e4 hy dy;have z:(((aiY ts.length).filter fun i=>isAt p (ts.getD i [])).map fun i=>amU (oth p (ts.getD i [])))=(cQ ts p).map .int:=by rw[PQ ts [] (isAt p) fun t=>amU (oth p t)];unfold cQ;rw[ajG];rfl
  rw[z]at dy;rw[dy.ints_of]at hy;exact q agA aiv e4 hy
theorem jf:aU ["_law_web_here","_law_kind","_law_bound","_law_here","_law_place","_law_some","_law_more_here","_law_later","_law_whole","_law_last"] ["_law_web_here","_law_kind","_law_bound","_law_here","_law_place"] (aB uY):=⟨rfl,rfl,rfl,by decide+kernel,rfl,by decide+kernel,by decide+kernel⟩
theorem Gb:akD (["_law_more_here","_law_some","_law_one"]:List Str):=by decide+kernel
theorem Gd:akD (["_law_later","_law_one"]:List Str):=by decide+kernel
theorem N5 (T:Txt K mg A D){k:Nat}(bc:aP P w K mg base (cI P w) k A.du D.du ["_law_many"] BK)(tZ:aP P w K mg base (cI P w) k A.mU D.mU ["_law_web_here","_law_some"] YD)(n8:aP P w K mg base (cI P w) k A.jB D.jB ["_law_web_here","_law_place"] ZX):aP P w K mg base (cI P w) (k+1) A.jC D.jC ["_law_web_here","_law_kind","_law_bound","_law_here","_law_place"] Ul:=by
 refine T.nW.pH jf (fun vs H Q E h=>?_) (fun cdv A' outer s H vs Q E hr h=>?_)
 .obtain⟨_,_,_,_,_,_,rfl,_⟩:=h;rfl
 obtain⟨v,W,qa,ky,d,p,rfl,wa,pk,ok,hp,hb,qn,qs⟩:=h;have ahf:=wa.ahf;have hn:=ahf.n5;have ht:=rU ahf.JG;obtain⟨a,tl,xs,rfl,ha,hlt,dl⟩:=jr wa.dat;obtain⟨mv,hq,Jz⟩:=aY.val pk;obtain⟨S,eS⟩:∃S:Nat,ky.1=S:=⟨ky.1.toNat,by have:=ok.s0;lia⟩;have eS':ky.1.toNat=S:=by lia
 have hSn:S<2^W.n:=by rw[←eS'];exact ok.lt
 have hS:=rP hn hSn;rw[eS']at hb;have hstep:stepK W ky p=(jh W S ky.2 p).map fun m=>(((S+2^p:Nat):Int),m):=by unfold stepK;rw[eS',aiL (by rw[hb];exact aiW)]
 rw[hstep]at qn qs;have key:∀{H':ag4} {m:List Int} {mv':V} {q':aiM},MV (flag W) H' m mv'->H' q'=some (.tup [.int ((S+2^p:Nat):Int),mv'])->aY (flag W) H' (((S+2^p:Nat):Int),m) q':=fun h1 h2=>h1.key h2;refine⟨_,(ao (Oh (pv 3) (qx rfl (bw (aH (i:=5) jf.nd rfl (akk rfl)) (bw (aH (i:=6) jf.nd rfl (akk rfl)) iB)))) (ao (aR (i:=7) jf.nd rfl (akk rfl) (aG eQ (pv 5) (aD bc hr rfl T.fY T.cX.kp T.fZ .nil aL (aa (pv 4) aj)))) (ao (bF (aJ vA (pv 1) b7 (aQ _)) (ao (aR (i:=8) jf.nd rfl (ajp rfl) (aG eQ (aD tZ hr rfl T.V9 T.qi.kp T.Wa .nil aL (aa (pv 0) (aa (pv 7) aj))) (dU (aJ dW (pv 1) b7 (aQ _)) (pv 6) ak))) (aq (aF (dU (aJ Sy (pv 8) (pv 2) (aQ _)) o8 (bL (aa (pv 7) (aa (dU (aJ dW (pv 1) b7 (aQ _)) (pv 8) (bL aj)) aj))))))) aM) (ao (bF (aJ acA (pv 2) (aG gZ (bA bG (pv 0) ak (fun _ _=>rfl)) ak) (aQ _)) (aq (aF (bL (aa (pv 7) (aa (bL aj) aj))))) aM) (ao (bF (fc (aK (Hc rfl) rfl T.Ur ZR (aa (nA rfl (lM (N:=["_law_more_here","_law_some","_law_one"]) (js:=[some 6,some 5,none]) rfl rfl (by decide+kernel) (by decide+kernel) rfl (aiE.mpr ⟨rfl,(aiE.mpr ⟨rfl,fun _ h=>nomatch h⟩)⟩) (aiE.mpr ⟨(fun h=>nomatch h),(aiE.mpr ⟨(fun h=>nomatch h),(aiE.mpr ⟨(fun h=>nomatch h),(aiE.mpr ⟨(fun _=>rfl),(aiE.mpr ⟨(fun _=>rfl),fun _ h=>nomatch h⟩)⟩)⟩)⟩)⟩) (aiE.mpr ⟨(fun j h=>(by cases h;exact⟨rfl,rfl,rfl⟩)),(aiE.mpr ⟨(fun j h=>(by cases h;exact⟨rfl,rfl,rfl⟩)),(aiE.mpr ⟨(fun j h=>nomatch h),fun _ h=>nomatch h⟩)⟩)⟩) rfl) (cT (aD n8 hr rfl T.Dh T.kO.kp T.Di .nil aL (aa (pv 0) (aa (pv 4) aj)))) (fun _ _ _ _=>(aH (i:=2) Gb rfl (ajp rfl) (hf:=akk rfl))) (fun _ _ _ _=>iD) (fun _ _ _ _=>(wZ (mL dW (aG fu (aG jk (pv 1) (aD bc hr rfl T.fY T.cX.kp T.fZ .nil aL (aa (pv 2) aj))) ak) ak (aQ _)) (uA (mL (uv (K:=K) rfl) (pv 2) (pv 0) (by with_unfolding_all rfl)))))) aj))) (aq (aF o8)) aM) (ao (aR (i:=9) jf.nd rfl (ajp rfl) (aG BP (pv 6) (bL (aa (pv 4) aj)))) (ao (bF (aJ Aw (aK di rfl T.rH alu (aa (pv 9) aj)) (pv 2) (aQ _)) (aq (aF (bL (aa (pv 7) (aa (pv 9) aj))))) aM) (ao (bF (fc (aK (Hc rfl) rfl T.Ur ZR (aa (nA rfl (lM (N:=["_law_later","_law_one"]) (js:=[some 7,none]) rfl rfl (by decide+kernel) (by decide+kernel) rfl (aiE.mpr ⟨rfl,fun _ h=>nomatch h⟩) (aiE.mpr ⟨(fun h=>nomatch h),(aiE.mpr ⟨(fun h=>nomatch h),(aiE.mpr ⟨(fun h=>nomatch h),(aiE.mpr ⟨(fun _=>rfl),fun _ h=>nomatch h⟩)⟩)⟩)⟩) (aiE.mpr ⟨(fun j h=>(by cases h;exact⟨rfl,rfl,rfl⟩)),(aiE.mpr ⟨(fun j h=>nomatch h),fun _ h=>nomatch h⟩)⟩) rfl) (cT (aD n8 hr rfl T.Dh T.kO.kp T.Di .nil aL (aa (pv 0) (aa (bA bG (pv 9) ak (fun _ _=>rfl)) aj)))) (fun _ _ _ _=>(aH (i:=1) Gd rfl (ajp rfl) (hf:=akk rfl))) (fun _ _ _ _=>iD) (fun _ _ _ _=>(mL dW (aG fu (aG jk (pv 0) (aD bc hr rfl T.fY T.cX.kp T.fZ .nil aL (aa (pv 1) aj))) ak) ak (aQ _)))) aj))) (aq (aF o8)) aM) (aq (aF (bL (aa (pv 7) (aa (lL Hv (pv 9) (oE ak) oA) aj))))))))))))),?_⟩;dsimp only[ou,eU];refine az _ rfl (iV qa _ rfl (cD.of hq) rfl (mC _ _ rfl (bU _ _ rfl rfl ?_)));refine az _ rfl (az _ rfl (c7 p rfl (by lia) (fun H1 e1=>⟨_,_,rfl,rfl,?_⟩)));have el:ky.1+((2^p:Nat):Int)=((S+2^p:Nat):Int):=by rw[eS];lia
 dsimp only;rw[el];unfold jh at qn qs;refine c7 _ rfl rfl (az _ rfl ?_);have ha1:=e1 _ _ ha;refine acP (fun c1'=>?_) fun c1'=>?_
 .have c1:¬W.kd="longest":=fun z=>c1' (congrArg V.str z);rw[aiL c1]at qn;refine az _ rfl (az _ rfl (vh (.ref a) W.n W.ts (S+2^p) rfl (wa.dat.mono e1) ahf.JG wa.win hn (fun H2 e2=>⟨_,rfl,rfl,_,rfl,ite_str (fun c2=>?_) fun c2=>?_⟩)))
  .rw[uK c2]at Jz;obtain⟨m0,em,rfl⟩:∃z:Int,ky.2=[z]∧mv=.int z:=Jz;rw[em]at qn qs;rw[aiP c2]at qn;refine az _ rfl (bU _ _ rfl rfl ?_);refine az _ rfl (az _ rfl (bU _ _ rfl rfl (az _ rfl (nH (fun c3=>?_) fun c3=>?_))))
   .refine qn ?_ H2 (e1.trans e2);rw[aiL (show¬dB W.ts (S+2^p)+[m0].headD 0<=W.bd from by show¬dB W.ts (S+2^p)+m0<=W.bd;lia)];rfl
   .refine az _ rfl (c7 _ rfl rfl (az _ rfl (oG (congrArg V.str c2) ⟨_,rfl,(by show 2<=aiV;decide),fun t ht'=>?_⟩)));obtain⟨s1,n1⟩:=au (o:=.tup [V.int ((S+2^p:Nat):Int),V.int (dB W.ts (S+2^p)+m0)]) ht';refine qs (((S+2^p:Nat):Int),[dB W.ts (S+2^p)+m0]) ?_ t _ (e1.trans (e2.trans s1)) (key ?_ n1)
    .rw[aiL c1,aiP c2,aiP (show dB W.ts (S+2^p)+[m0].headD 0<=W.bd from by show dB W.ts (S+2^p)+m0<=W.bd;lia)];rfl
    .rw[uK c2];exact⟨_,rfl,rfl⟩
  .rw[aiL c2]at qn;refine bU _ _ rfl rfl ?_;refine az _ rfl (az _ rfl (bU _ _ rfl rfl (az _ rfl (nH (fun c3=>?_) fun c3=>?_))))
   .refine qn ?_ H2 (e1.trans e2);rw[aiL (by lia)];rfl
   .refine az _ rfl (c7 _ rfl rfl (az _ rfl (pU (fun z=>c2 (V.str.inj z)) ⟨(by show 0<=aiV;decide),fun r hr'=>⟨(by show 2<=aiV;decide),fun t ht'=>?_⟩⟩)));obtain⟨s0,n0⟩:=au (o:=.tup []) hr';obtain⟨s1,n1⟩:=au (o:=.tup [V.int ((S+2^p:Nat):Int),V.ref r]) ht';refine qs (((S+2^p:Nat):Int),[]) ?_ t _ (e1.trans (e2.trans (s0.trans s1))) (key ?_ n1)
    .rw[aiL c1,aiL c2,aiP (by lia)];rfl
    .rw[xK c2];exact⟨r,rfl,s1 _ _ n0⟩
 have c1:W.kd="longest":=V.str.inj c1';rw[aiP c1]at qn;have Qn:¬W.kd="total":=by rw[c1];decide
 rw[xK Qn]at Jz qs key;obtain⟨c,rfl,hc⟩:∃c,mv=.ref c∧H c=some (.tup (ky.2.map V.int)):=Jz;obtain⟨o1,o2⟩:=ok.oth Qn;have aiu:∀p∈ky.2,0<=p∧p<5:=fun y hy=>by have:=o1 y hy;lia
 have qs:=fun(m:List Int) (z:pZ W S ky.2 p=some m)=>qs (((S+2^p:Nat):Int),m) (by rw[aiP c1,z];rfl);unfold pZ at qn qs;refine az _ rfl (az _ rfl (mj _ _ _ _ rfl rfl (cD.of ha1) rfl (bU _ _ rfl rfl (bU _ _ rfl rfl (az _ rfl (nH (fun c2=>?_) fun c2=>?_))))))
 .refine c7 _ rfl (by show 0<=aiV;decide) (fun r hr'=>⟨(by show 2<=aiV;decide),fun t ht'=>?_⟩);obtain⟨s0,n0⟩:=au (o:=.tup []) hr';obtain⟨s1,n1⟩:=au (o:=.tup [V.int ((S+2^p:Nat):Int),V.ref r]) ht';exact qs [] (aiP c2) t _ (e1.trans (s0.trans s1)) (key ⟨r,rfl,s1 _ _ n0⟩ n1)
 have c2:¬(W.n:Int)-1<=W.bd:=c2;rw[aiL c2]at qn;have hc1:=e1 _ _ hc;refine az _ rfl (az _ rfl (mj (.ref a) W.n W.ts p rfl (wa.dat.mono e1) ahf.JG wa.win (fun nl H2 e2 hnl=>⟨nl,rfl,⟨_,bk.of hnl⟩,?_⟩)));have nlen:=LR W.ts p;have ags:=wa.win.len;have hc2:=e2 _ _ hc1;refine rF (fun σ=>∃x2,σ=[some (.ref c),some (.int ky.1),x2]) (cQ W.ts p).length (fun i=>.bool (bit S ((cQ W.ts p).getD i 0).toNat&&!decide (((((cQ W.ts p).getD i 0).toNat:Nat):Int)∈ky.2))) ⟨none,rfl⟩ ?_ ?_ (by rw[aje];lia) ?_ ?_
 .intro i ahq hi e3;exact mC _ _ (bk.of (e3 _ _ hnl)) (int_at _ hi)
 .intro ahq e3;exact⟨_,bk.of (e3 _ _ hnl),by rw[aiJ];exact aiN _⟩
 .rintro agA i y lK ahq aiv agN hi e3 hD' ⟨x1,rfl⟩ ⟨rfl,hy⟩ fin;have hy2:=hy _ (bk.of (e3 _ _ hnl));rw[int_at _ hi]at hy2;cases hy2;have hgi:=Uk ht (Mf hi);obtain⟨g,eg⟩:∃g:Nat,(cQ W.ts p).getD i 0=g:=⟨((cQ W.ts p).getD i 0).toNat,by lia⟩;rw[eg,ai4]at fin;rw[eg];refine az _ rfl (az _ rfl (c7 g rfl (by lia) (fun ag1 e6=>⟨_,_,rfl,rfl,p32 g (by lia),_,_,rfl,rfl,(by show(0:Int)<2;decide),rfl,_,rfl,?_⟩)));have hbv:decide (V.int (ky.1/((2^g:Nat):Int) %2)=V.int 1)=bit S g:=by rw[eS,tL,Tv]
  rw[hbv];cases hbg:bit S g with
  |false=>refine cN (fin _ _ _ ⟨_,rfl⟩ e6 ?_);rw[hbg];exact .bool
  |true=>refine dY ⟨_,rfl,_,rfl,c,_,rfl,.inr (cD.of (e6 _ _ (e3 _ _ hc2))),rfl,(by simp[mG]),?_⟩;refine fin _ _ _ ⟨_,rfl⟩ e6 ?_;show Dat _ _ (.bl (!inV (.int (g:Int)) (ky.2.map V.int)));rw[Aa,hbg];exact .bool
 intro D1 ys1 ahq hD1 e3 hy1 R0;have ez:(aiY (cQ W.ts p).length).map (fun i=>ano (bit S ((cQ W.ts p).getD i 0).toNat&&!decide (((((cQ W.ts p).getD i 0).toNat:Nat):Int)∈ky.2)))=((aiY (cQ W.ts p).length).map fun i=>(bit S ((cQ W.ts p).getD i 0).toNat&&!decide (((((cQ W.ts p).getD i 0).toNat:Nat):Int)∈ky.2))).map .bool:=by rw[ajG];rfl
 rw[ez]at R0;rw[qU R0]at hy1;refine bU D1 _ rfl (bk.of hy1) (az _ rfl ?_);rw[CN,Ui (cQ W.ts p) fun x=>bit S x.toNat&&!decide (((x.toNat:Nat):Int)∈ky.2),Qu ahf hp hS aiu];have e13:=e1.trans (e2.trans e3);cases hcl:clash (nb W.ts p) (less S (pY ky.2))with
 |true=>refine dY (qn ?_ ahq e13);rw[aiP hcl];rfl
 |false=>
 have c3:¬clash (nb W.ts p) (less S (pY ky.2))=true:=by rw[hcl];exact aiW
 rw[aiL c3]at qn;refine cN ?_;refine az _ rfl (c7 _ rfl (by show 1<=aiV;decide) (fun u hu=>?_));obtain⟨s2,n2⟩:=au (o:=.tup [V.int (p:Int)]) hu;refine Ih (cD.of (s2 _ _ (e3 _ _ hc2))) n2 (ant _ _) (by rw[aiJ,aje];show _+1<=_;lia) fun la aiv e4' hla=>?_;have e4:=e13.trans (s2.trans e4');have hla:aiv la=some (.tup ((ky.2++[(p:Int)]).map V.int)):=by rw[hla,ajf];rfl
 have hlen:(((ky.2++[(p:Int)]).map V.int).length:Int)=((ky.2.length+1:Nat):Int):=by rw[aiJ,aiZ];rfl
 refine az _ rfl (bU la _ rfl (.inr (cD.of hla)) (az _ rfl (bU _ _ rfl rfl (az _ rfl (nH (fun c4=>?_) fun c4=>?_)))))
 .rw[hlen]at c4;refine az _ rfl (c7 _ rfl (by show 2<=aiV;decide) (fun t ht'=>?_));obtain⟨s1,n1⟩:=au (o:=.tup [V.int ((S+2^p:Nat):Int),V.ref la]) ht';exact qs _ (by rw[aiL c2,aiL c3,aiP c4]) t _ (e4.trans s1) (key ⟨la,rfl,s1 _ _ hla⟩ n1)
 rw[hlen]at c4;rw[aiL c4]at qn;obtain⟨h0,hh0,hhn⟩:∃h0:Nat,(ky.2++[(p:Int)]).headD 0=h0∧h0<W.n:=by
  have hm:(ky.2++[(p:Int)]).headD 0∈ky.2++[(p:Int)]:=by
   cases ky.2 with
   |nil=>exact .head _
   |cons y r=>exact .head _
  have:0<=(ky.2++[(p:Int)]).headD 0∧(ky.2++[(p:Int)]).headD 0<(W.n:Int):=by
   rcases ai1.mp hm with z|z
   .exact o1 _ z
   .rw[ai5.mp z];lia
  exact⟨((ky.2++[(p:Int)]).headD 0).toNat,by lia,by lia⟩
 have hat:Ek ((ky.2++[(p:Int)]).map V.int) 0=some (.int (h0:Int)):=by
  rw[←hh0];cases ky.2 with
  |nil=>rfl
  |cons y r=>exact qD rfl
 rw[hh0,ai4]at qn;refine az _ rfl (az _ rfl (mj _ _ _ _ rfl rfl (cD.of hla) hat (mj (.ref a) W.n W.ts h0 rfl (wa.dat.mono e4) ahf.JG wa.win (fun nl2 agU e5 acz=>⟨nl2,rfl,⟨_,bk.of acz⟩,?_⟩))));have agg:=LR W.ts h0;refine rF (fun σ=>∃x2,σ=[some (.int ((S+2^p:Nat):Int)),x2]) (cQ W.ts h0).length (fun i=>.bool (!bit (S+2^p) ((cQ W.ts h0).getD i 0).toNat)) ⟨none,rfl⟩ ?_ ?_ (by rw[aje];lia) ?_ ?_
 .intro i ag1 hi e6;exact mC _ _ (bk.of (e6 _ _ acz)) (int_at _ hi)
 .intro ag1 e6;exact⟨_,bk.of (e6 _ _ acz),by rw[aiJ];exact aiN _⟩
 .rintro agA i y lK ag1 ahC agN hi e6 hD' ⟨x1,rfl⟩ ⟨rfl,hy⟩ fin;have hy2:=hy _ (bk.of (e6 _ _ acz));rw[int_at _ hi]at hy2;cases hy2;have hgi:=Uk ht (Mf hi);obtain⟨g,eg⟩:∃g:Nat,(cQ W.ts h0).getD i 0=g:=⟨((cQ W.ts h0).getD i 0).toNat,by lia⟩;rw[eg,ai4]at fin;rw[eg];refine az _ rfl (az _ rfl (c7 g rfl (by lia) (fun ahe e8=>⟨_,_,rfl,rfl,p32 g (by lia),_,_,rfl,rfl,(by show(0:Int)<2;decide),rfl,fin _ _ _ ⟨_,rfl⟩ e8 ?_⟩)));show Dat _ _ (.bl (decide (V.int (((S+2^p:Nat):Int)/((2^g:Nat):Int) %2)=V.int 0)));rw[tL,Ma];exact .bool
 intro D2 ys2 ag1 hD2 e6 hy2 dy2;have ez2:(aiY (cQ W.ts h0).length).map (fun i=>ano (!bit (S+2^p) ((cQ W.ts h0).getD i 0).toNat))=((aiY (cQ W.ts h0).length).map fun i=>!bit (S+2^p) ((cQ W.ts h0).getD i 0).toNat).map .bool:=by rw[ajG];rfl
 rw[ez2]at dy2;rw[qU dy2]at hy2;refine bU D2 _ rfl (bk.of hy2) (az _ rfl ?_);rw[CN,Ui (cQ W.ts h0) fun x=>!bit (S+2^p) x.toNat,LQ ahf hhn];have e46:=e4.trans (e5.trans e6);cases hcn:iJ (nb W.ts h0) (S+2^p)with
 |true=>refine dY (qn ?_ ag1 e46);rw[aiP hcn];rfl
 |false=>
 have c5:¬iJ (nb W.ts h0) (S+2^p)=true:=by rw[hcn];exact aiW
 have af6:=e6 _ _ (e5 _ _ hla);refine cN ⟨_,rfl,_,rfl,_,rfl,la,_,rfl,cD.of af6,fun z=>?_,fun r hr'=>⟨(by show 2<=aiV;decide),fun t ht'=>?_⟩⟩
 .have z1:HT.jn ((ky.2++[(p:Int)]).map V.int).length 0 (some ((1:Nat):Int))=0:=z.1;rw[HT.zX,aiJ,aiZ]at z1;simp at z1
 .obtain⟨s5,n5⟩:=au (o:=.tup (jZ ((ky.2++[(p:Int)]).map V.int) (some 1) none)) hr';obtain⟨agD,ait⟩:=au (o:=.tup [V.int ((S+2^p:Nat):Int),V.ref r]) ht';refine qs ((ky.2++[(p:Int)]).tail) (by rw[aiL c2,aiL c3,aiL c4,hh0,ai4,aiL c5]) t _ (e46.trans (s5.trans agD)) (key ⟨r,rfl,?_⟩ ait);rw[agD _ _ n5,show(some (1:Int))=some ((1:Nat):Int)from rfl,lO,←aoC,auI]
theorem pG:aU ["_law_web_here","_law_kind","_law_bound","_law_here","_law_free","_law_found"] ["_law_web_here","_law_kind","_law_bound","_law_here"] (aB qY):=⟨rfl,rfl,rfl,by decide+kernel,rfl,by decide+kernel,by decide+kernel⟩
theorem zQ:akD (["_law_here","_law_place"]:List Str):=by decide+kernel
theorem zR:akD (["_law_bound","_law_here","_law_kind","_law_web_here","_law_place"]:List Str):=by decide+kernel
theorem zT:akD (["_law_one"]:List Str):=by decide+kernel
theorem Ge (T:Txt K mg A D){k:Nat}(bc:aP P w K mg base (cI P w) k A.du D.du ["_law_many"] BK)(rD:aP P w K mg base (cI P w) k A.jC D.jC ["_law_web_here","_law_kind","_law_bound","_law_here","_law_place"] Ul):aP P w K mg base (cI P w) (k+1) A.dI D.dI ["_law_web_here","_law_kind","_law_bound","_law_here"] Qv:=by
 refine T.gR.pH pG (fun vs H Q E h=>?_) (fun cdv A' outer s H vs Q E hr h=>?_)
 .obtain⟨_,_,_,_,_,rfl,_⟩:=h;rfl
 obtain⟨v,W,qa,ky,d,rfl,wa,pk,ok,qq⟩:=h;have ahf:=wa.ahf;have hn:=ahf.n5;obtain⟨a,tl,xs,rfl,ha,hlt,dl⟩:=jr wa.dat;obtain⟨mv,hq,Jz⟩:=aY.val pk;obtain⟨S,eS⟩:∃S:Nat,ky.1=S:=⟨ky.1.toNat,by have:=ok.s0;lia⟩;have eS':ky.1.toNat=S:=by lia
 refine⟨_,(ao (vI rfl (lM (N:=["_law_here","_law_place"]) (js:=[some 3,none]) rfl rfl (by decide+kernel) (by decide+kernel) rfl (aiE.mpr ⟨rfl,fun _ h=>nomatch h⟩) (aiE.mpr ⟨(fun h=>nomatch h),(aiE.mpr ⟨(fun h=>nomatch h),(aiE.mpr ⟨(fun h=>nomatch h),(aiE.mpr ⟨(fun _=>rfl),fun _ h=>nomatch h⟩)⟩)⟩)⟩) (aiE.mpr ⟨(fun j h=>(by cases h;exact⟨rfl,rfl,rfl⟩)),(aiE.mpr ⟨(fun j h=>nomatch h),fun _ h=>nomatch h⟩)⟩) rfl) (fj rfl T.gh (aa (bA bG (pv 0) ak (fun _ _=>rfl)) aj)) pG.nd (k:=4) rfl rfl (fun _ _ _ _=>(aH (i:=1) zQ rfl (ajp rfl) (hf:=akk rfl))) (fun _ _ _ _=>(qG (aJ dW (aG fu (aG jk (bA (Tf (K:=K) rfl) (pv 0) ak (fun _ _=>rfl)) (aD bc hr rfl T.fY T.cX.kp T.fZ .nil aL (aa (pv 1) aj))) ak) ak (aQ _)))) (fun _ _ _ _=>(pv 1)) (by rfl)) (ao (vI rfl (lM (N:=["_law_bound","_law_here","_law_kind","_law_web_here","_law_place"]) (js:=[some 2,some 3,some 1,some 0,none]) rfl rfl (by decide+kernel) (by decide+kernel) rfl (aiE.mpr ⟨rfl,(aiE.mpr ⟨rfl,(aiE.mpr ⟨rfl,(aiE.mpr ⟨rfl,fun _ h=>nomatch h⟩)⟩)⟩)⟩) (aiE.mpr ⟨(fun h=>nomatch h),(aiE.mpr ⟨(fun h=>nomatch h),(aiE.mpr ⟨(fun h=>nomatch h),(aiE.mpr ⟨(fun _=>rfl),(aiE.mpr ⟨(fun _=>rfl),(aiE.mpr ⟨(fun _=>rfl),(aiE.mpr ⟨(fun _=>rfl),fun _ h=>nomatch h⟩)⟩)⟩)⟩)⟩)⟩)⟩) (aiE.mpr ⟨(fun j h=>(by cases h;exact⟨rfl,rfl,rfl⟩)),(aiE.mpr ⟨(fun j h=>(by cases h;exact⟨rfl,rfl,rfl⟩)),(aiE.mpr ⟨(fun j h=>(by cases h;exact⟨rfl,rfl,rfl⟩)),(aiE.mpr ⟨(fun j h=>(by cases h;exact⟨rfl,rfl,rfl⟩)),(aiE.mpr ⟨(fun j h=>nomatch h),fun _ h=>nomatch h⟩)⟩)⟩)⟩)⟩) rfl) (cT (pv 4)) pG.nd (k:=5) rfl rfl (fun _ _ _ _=>(aH (i:=4) zR rfl (ajp rfl) (hf:=akk rfl))) (fun _ _ _ _=>iD) (fun _ _ _ _=>(aD rD hr rfl T.QF T.nW.kp T.QG .nil aL (aa (pv 3) (aa (pv 2) (aa (pv 0) (aa (pv 1) (aa (pv 4) aj))))))) (by rfl)) (aq (aF (nA rfl (HX (N:=["_law_one"]) (js:=[none]) rfl rfl (by decide+kernel) (by decide+kernel) (by decide+kernel) rfl (by decide) rfl) (cT (pv 5)) (fun _ _ _ _=>(aH (i:=0) zT rfl (ajp rfl) (hf:=akk rfl))) (fun _ _ _ _=>(qG (wY (Sg (pv 0))))) (fun _ _ _ _=>(pv 0))))))),?_⟩;dsimp only[ou,eU];refine⟨_,rfl,_,_,_,_,rfl,rfl,cD.of ha,rfl,(W.n:Int),rfl,by lia,by lia,?_⟩;rw[ai4];refine uI (fun σ=>∃x,σ=[some (.ref qa),x]) W.n (fun p=>!bit S p) (fun p=>.int (p:Int)) ⟨none,rfl⟩ (fun i ahq hi e3=>hi) (fun ahq e3=>aiN _) (by rw[aje];lia) ?_ ?_
 .rintro agA m x lK ahe aim Y Z hm e8 ⟨ysD,hD⟩ ⟨x1,rfl⟩ ⟨rfl,rfl⟩ yes no;have em:(0:Int)+(m:Nat)=((m:Nat):Int):=by lia
  rw[em];refine⟨_,rfl,_,_,_,_,rfl,rfl,cD.of (e8 _ _ hq),rfl,_,rfl,m,rfl,by lia,fun H2 e2=>⟨_,_,rfl,rfl,p32 m (by lia),_,_,rfl,rfl,(by show(0:Int)<2;decide),rfl,_,rfl,?_⟩⟩;have hb:decide (V.int (ky.1/((2^m:Nat):Int) %2)=V.int 0)=!bit S m:=by rw[eS,tL,Ma]
  refine Ky hb (fun c=>?_) (fun c=>?_)
  .exact⟨_,rfl,yes _ _ _ c ⟨_,rfl⟩ e2 .int⟩
  .exact no _ _ c ⟨_,rfl⟩ e2
 intro l1 ys1 H1 hl1 e1 hy1 R0;have fe:(aiY W.n).filter (fun p=>!bit S p)=(aiY W.n).filter (fun p=>!bit ky.1.toNat p):=by rw[eS']
 generalize hfr:(aiY W.n).filter (fun p=>!bit S p)=fr at R0 fe;have frl:fr.length<=5:=by rw[←hfr];exact ajt (alA _ _) (by rw[ajZ];exact hn)
 have frm:∀p∈fr,p<W.n∧bit ky.1.toNat p=false:=fun p hp=>by rw[fe]at hp;obtain⟨z1,z2⟩:=aks.mp hp;exact⟨ajs.mp z1,by simpa using z2⟩
 have ei:fr.map (fun p:Nat=>amU (p:Int))=(fr.map fun p:Nat=>(p:Int)).map .int:=by rw[ajG];rfl
 rw[ei]at R0;rw[R0.ints_of]at hy1;have gat:∀i,i<fr.length->((fr.map fun p:Nat=>(p:Int)).map V.int)[i]?=some (.int ((fr.getD i 0:Nat):Int)):=fun i hi=>by rw[ajG,ai6,ajb,aiG hi];rfl
 have gin:∀i,i<fr.length->fr.getD i 0∈fr:=fun i hi=>by rw[ajb,aiG hi];exact ajT hi
 refine⟨_,rfl,l1,rfl,⟨_,bk.of hy1⟩,?_⟩;refine rF (fun σ=>∃x,σ=[some (.int W.bd),some (.ref qa),some (.str W.kd),some (.ref a),x]) fr.length (fun i=>Z2 (flag W) (stepK W ky (fr.getD i 0))) ⟨none,rfl⟩ ?_ ?_ (by rw[aje];lia) ?_ ?_
 .intro i ahq hi e3;exact⟨_,_,bk.of (e3 _ _ hy1),gat i hi⟩
 .intro ahq e3;exact⟨_,bk.of (e3 _ _ hy1),by rw[aiJ,aiJ];exact aiN _⟩
 .rintro agA i y lK ahq aiv agN hi e3 ⟨ysD,hD⟩ ⟨x1,rfl⟩ ⟨rfl,hy⟩ fin;have hy2:=hy _ (bk.of (e3 _ _ hy1));rw[gat i hi]at hy2;cases hy2;obtain⟨f1,f2⟩:=frm _ (gin i hi);have e03:=e1.trans e3;refine⟨_,rfl,_,rfl,_,rfl,_,rfl,_,rfl,.ref a,W,qa,ky,d,_,rfl,wa.mono e03,aY.mono pk e03,ok,f1,f2,fun en ag1 e6=>?_,fun k' ek q' ag1 e6 pk'=>?_⟩
  .refine fin _ _ _ ⟨_,rfl⟩ e6 ?_;rw[en];exact .none
  .refine fin _ _ _ ⟨_,rfl⟩ e6 ?_;rw[ek];exact aY.dat (aY.mask pk' (e6 _ _ hD))
 intro l2 ys2 H2 hl2 e2 hy2 dy2;have y2l:ys2.length=fr.length:=by rw[←dy2.length,aiJ,ajZ]
 refine⟨_,rfl,l2,rfl,⟨_,bk.of hy2⟩,?_⟩;refine uI (fun σ=>∃x,σ=[x]) fr.length (fun i=>(stepK W ky (fr.getD i 0)).isSome) (fun i=>Z2 (flag W) (stepK W ky (fr.getD i 0))) ⟨none,rfl⟩ ?_ ?_ (by rw[aje];lia) ?_ ?_
 .intro i ahq hi e3;exact⟨_,ys2[i]'(by lia),bk.of (e3 _ _ hy2),aiG (by lia)⟩
 .intro ahq e3;exact⟨_,bk.of (e3 _ _ hy2),by lia⟩
 .rintro agA i y lK ahq aiv Y Z hi e3 ⟨ysD,hD⟩ ⟨x1,rfl⟩ ⟨rfl,hy⟩ yes no;have hyi:=hy _ (bk.of (e3 _ _ hy2));obtain⟨y',hy',dy'⟩:=dy2.get (i:=i) (d:=Z2 (flag W) (stepK W ky (fr.getD i 0))) (by rw[ai6,al1 hi];rfl);rw[hyi]at hy';cases hy';refine⟨_,rfl,_,rfl,?_⟩;cases es:stepK W ky (fr.getD i 0)with
  |none=>rw[es]at dy';rw[dy'.none_of];refine cN (no _ _ (by rw[es];rfl) ⟨_,rfl⟩ (aC.refl _))
  |some k'=>
   rw[es]at dy';have okm:Ly (flag W,k'):=fun e=>by obtain⟨_,_,ok'⟩:=ok.step hn (frm _ (gin i hi)).1 es;exact ok'.tot (ai9 e)
   obtain⟨q',rfl,pk'⟩:=Uo dy' okm;have pk3:aY (flag W) aiv k' q':=aY.mono (aY.mono pk' jc) e3;refine dY ⟨_,rfl,yes _ _ _ (by rw[es];rfl) ⟨_,rfl⟩ (aC.refl _) ?_⟩;rw[es];exact aY.dat (aY.mask pk3 hD)
 intro l3 ys3 ahq hl3 e3 hy3 dy3;rw[Mg fr 0 (fun p=>(stepK W ky p).isSome) fun p=>Z2 (flag W) (stepK W ky p),CP,fe,Qw]at dy3;obtain⟨zs,rfl,p1,p2⟩:=I2 dy3 fun k' hk'=>by obtain⟨x,hx,rfl⟩:=ai'.mp hk';exact CQ hn ok hx
 have e03:=e1.trans (e2.trans e3);exact qq l3 zs ahq (by
  cases hh:H l3 with
  |none=>rfl
  |some o=>rw[(e1.trans e2) _ _ hh]at hl3;cases hl3) e03 hy3 (p1.mono jc) p2
theorem jX:aU ["_law_web_here","_law_kind","_law_bound","_law_found","_law_at"] ["_law_web_here","_law_kind","_law_bound"] (aB sO):=⟨rfl,rfl,rfl,by decide+kernel,rfl,by decide+kernel,by decide+kernel⟩
theorem Eb:akD (["_law_found","_law_one"]:List Str):=by decide+kernel
theorem JC (T:Txt K mg A D){k:Nat}(eO:aP P w K mg base (cI P w) k A.dI D.dI ["_law_web_here","_law_kind","_law_bound","_law_here"] Qv):aP P w K mg base (cI P w) (k+1) A.gP D.gP ["_law_web_here","_law_kind","_law_bound"] ZZ:=by
 refine T.lW.pH jX (fun vs H Q E h=>?_) (fun cdv A' outer s H vs Q E hr h=>?_)
 .obtain⟨_,_,rfl,_⟩:=h;rfl
 obtain⟨v,W,rfl,wa,re,qq⟩:=h;have ahf:=wa.ahf;have hn:=ahf.n5;have hfew:=few ahf re;refine⟨_,(ao (aR (i:=3) jX.nd rfl (akk rfl) (bQ (aa (bL (aa ak (aa (dU (aJ dW (pv 1) b7 (aQ _)) ak (bL aj)) aj))) aj))) (ao (aR (i:=4) jX.nd rfl (ajp rfl) ak) (ao (Xk aX (aJ Av (pv 4) (aK di rfl T.rH alu (aa (pv 3) aj)) (aQ _)) (ao (aR (i:=3) jX.nd rfl (akk rfl) (aG pg (pv 3) (nA rfl (lM (N:=["_law_found","_law_one"]) (js:=[some 3,none]) rfl rfl (by decide+kernel) (by decide+kernel) rfl (aiE.mpr ⟨rfl,fun _ h=>nomatch h⟩) (aiE.mpr ⟨(fun h=>nomatch h),(aiE.mpr ⟨(fun h=>nomatch h),(aiE.mpr ⟨(fun _=>rfl),fun _ h=>nomatch h⟩)⟩)⟩) (aiE.mpr ⟨(fun j h=>(by cases h;exact⟨rfl,rfl,rfl⟩)),(aiE.mpr ⟨(fun j h=>nomatch h),fun _ h=>nomatch h⟩)⟩) rfl) (cT (aD eO hr rfl T.wg T.gR.kp T.wi .nil aL (aa (pv 0) (aa (pv 1) (aa (pv 2) (aa (bA dX (pv 3) (pv 4) (fun _ _=>rfl)) aj)))))) (fun _ _ _ _=>(aH (i:=1) Eb rfl (ajp rfl) (hf:=akk rfl))) (fun _ _ _ _=>(qG (aJ (Qm (K:=K) rfl hr.units) (pv 1) (pv 0) (by with_unfolding_all rfl)))) (fun _ _ _ _=>(pv 1))))) (aq (aR (i:=4) jX.nd rfl (ajp rfl) (aG eQ (pv 4) ak))))) (aq (aF (aK (Qj rfl (yX hr)) rfl T.sY xx (aa (tC (VJ rfl (afY hr)) rfl T.aaj ad3 (aa (pv 3) aj)) aj))))))),?_⟩;refine c7 _ rfl rfl (az _ rfl (CT fun mv H1 e1 hm=>?_));refine⟨(by show 2<=aiV;decide),fun q0 hq0=>?_⟩;obtain⟨s2,n2⟩:=au (o:=.tup [V.int 0,mv]) hq0;have pk0:aY (flag W) (upd H1 q0 (.tup [V.int 0,mv])) (cj W) q0:=Uq (hm.mono s2) n2;refine⟨(by show 1<=aiV;decide),fun fl hfl=>?_⟩;obtain⟨s3,n3⟩:=au (o:=.lst [V.ref q0]) hfl;refine⟨fun m σ H'=>∃(fl:aiM) (ys:Iv) (at':Nat),σ=[some v,some (.str W.kd),some (.int W.bd),some (.ref fl),some (.int (at':Int))]∧aC H H'∧H' fl=some (.lst (refs ys))∧nO (flag W) H' ys∧(ys.map (·.1)).Nodup∧(∀k∈ys.map (·.1),Reach W k)∧cj W∈ys.map (·.1)∧(∀i k,i<at'->(ys.map (·.1))[i]?=some k->∀x∈aW W k,x.2∈ys.map (·.1))∧at'<=ys.length∧m=128-at',⟨_,fl,[(cj W,q0)],0,rfl,e1.trans (s2.trans s3),n3,fun x hx=>?_,List.pairwise_singleton _ _,fun k hk=>?_,.head _,fun i k hi=>ai8 hi (alw _),ajW _,rfl⟩,?_⟩
 .rw[ai5.mp hx];exact aY.mono pk0 s3
 .rw[show k=cj W from ai5.mp hk];exact .beg
 rintro m σ H2 ⟨fl,ys,a',rfl,e2,hf,pl,nd,rch,hbg,cls,hle,rfl⟩;have hlen:=sub_len hn nd rch;rw[aiJ]at hlen;refine az _ rfl (az _ rfl (bU fl _ rfl (.inl (bk.of hf)) (bU _ _ rfl rfl (az _ rfl (nH (fun c=>?_) fun c=>?_)))))
 .have c:(a':Int)<((refs ys).length:Nat):=c;have hlt:a'<ys.length:=by rw[refs,aiJ]at c;lia
  obtain⟨x,hx⟩:∃x,ys[a']?=some x:=⟨_,aiG hlt⟩;have hxm:=ajo hx;have hxk:x.1∈ys.map (·.1):=ai'.mpr ⟨x,hxm,rfl⟩;obtain⟨d,ok⟩:=xR hn (rch _ hxk);refine⟨fun σ H'=>∃(fl:aiM) (ys:Iv),σ=[some v,some (.str W.kd),some (.int W.bd),some (.ref fl),some (.int ((a'+1:Nat):Int))]∧aC H H'∧H' fl=some (.lst (refs ys))∧nO (flag W) H' ys∧(ys.map (·.1)).Nodup∧(∀k∈ys.map (·.1),Reach W k)∧cj W∈ys.map (·.1)∧(∀i k,i<a'+1->(ys.map (·.1))[i]?=some k->∀x∈aW W k,x.2∈ys.map (·.1))∧a'+1<=ys.length,?_,?_⟩
  .rintro σ' H' ⟨fl',ys',rfl,g1,g2,g3,g4,g5,g6,g7,ahu⟩;exact az (128-(a'+1)) (by lia) ⟨fl',ys',(a'+1),rfl,g1,g2,g3,g4,g5,g6,g7,ahu,rfl⟩
  refine az _ rfl (az _ rfl (az _ rfl (az _ rfl (az _ rfl (az _ rfl (mj _ _ _ _ rfl rfl (bk.of hf) (qD (by rw[ai6,hx];rfl)) (W8 v W x.2 x.1 d rfl (wa.mono e2) (pl x hxm) ok (fun bl zs ahq hbl e3 hb pz kz=>⟨bl,rfl,⟨_,bk.of hb⟩,?_⟩))))))));have zl:zs.length=(aW W x.1).length:=by rw[←aiJ (f:=(·.1)),kz,aiJ]
  have nl:=uO hn x.1;have lf:=Up W.n x.1.1.toNat;have okz:∀y∈zs.map (·.1),Ly (flag W,y):=fun y hy=>by rw[kz]at hy;obtain⟨u,hu,rfl⟩:=ai'.mp hy;exact CQ hn ok hu
  have oky:∀y∈ys.map (·.1),Ly (flag W,y):=fun y hy=>V2 hn (rch y hy);refine uI (fun σ=>∃z,σ=[some (.ref fl),z]) zs.length (fun i=>!decide ((zs.map (·.1)).getD i (0,[])∈ys.map (·.1))) (fun i=>m8 (flag W,(zs.map (·.1)).getD i (0,[]))) ⟨none,rfl⟩ ?_ ?_ (by rw[aje];lia) ?_ ?_
  .intro i aiv hi e4;exact mC _ (V.ref (zs[i]'hi).2) (bk.of (e4 _ _ hb)) (by rw[ai6,aiG hi];rfl)
  .intro aiv e4;exact⟨_,bk.of (e4 _ _ hb),by rw[aiJ];exact aiN _⟩
  .rintro agA i y lK aiv agU Y Z hi e4 ⟨ysD,hD⟩ ⟨x1,rfl⟩ ⟨rfl,hy⟩ yes no;have hy2:=hy _ (bk.of (e4 _ _ hb));rw[ai6,aiG hi]at hy2;cases hy2;have hzm:zs[i]∈zs:=ajT hi;have hgd:(zs.map (·.1)).getD i (0,[])=zs[i].1:=by rw[ajb,ai6,aiG hi];rfl
   have pk4:=aY.mono (pz _ hzm) e4;have e34:=e3.trans e4;refine az _ rfl (az _ rfl (aaD (m8 (flag W,zs[i].1)) fl _ _ ((aY.dat pk4).rep) rfl (bk.of (e34 _ _ hf)) ((nO.dat (pl.mono e34)).rep) ((xT _).1) (fun d hd=>?_) (az _ rfl ?_)))
   .obtain⟨u,_,rfl⟩:=ai'.mp hd;exact xT _
   .have hb:(if true=true then !(((ys.map (·.1)).map fun k=>m8 (flag W,k)).any fun d=>akn d (m8 (flag W,zs[i].1)))else(((ys.map (·.1)).map fun k=>m8 (flag W,k)).any fun d=>akn d (m8 (flag W,zs[i].1))))=!decide ((zs.map (·.1)).getD i (0,[])∈ys.map (·.1)):=by rw[aiP rfl,ae7 oky (okz _ (ai'.mpr ⟨_,hzm,rfl⟩)),hgd]
    refine Ky hb (fun c=>?_) (fun c=>?_)
    .refine⟨_,rfl,yes _ _ _ c ⟨_,rfl⟩ (aC.refl _) ?_⟩;rw[hgd];exact aY.dat (aY.mask pk4 hD)
    .exact no _ _ c ⟨_,rfl⟩ (aC.refl _)
  intro l3 us aiv hl3 e4 hu agF;rw[show zs.length=(zs.map (·.1)).length from(aiJ _).symm,Mg (zs.map (·.1)) (0,[]) (fun k=>!decide (k∈ys.map (·.1))) fun k=>m8 (flag W,k)]at agF;obtain⟨ws,rfl,pw,kw⟩:=I2 agF fun k hk=>okz k (aks.mp hk).1;have pw:=pw.mono jc;have e24:=e3.trans e4;have wl:ws.length<=zs.length:=by rw[←aiJ (f:=(·.1)) (as:=ws),kw];exact ajt (alA _ _) (by rw[aiJ];exact aiN _)
  refine vh fl l3 _ _ rfl rfl (e24 _ _ hf) hu (by simp only[refs,aiJ];rw[aje];lia) (fun nl' hnl=>?_);obtain⟨s5,n5⟩:=au (o:=.lst (refs ys++refs ws)) hnl;refine az _ rfl (bU _ _ rfl rfl ⟨nl',(ys++ws),rfl,(e2.trans (e24.trans s5)),(by rw[n5];simp[refs]),(fun y hy=>?_),?_,(fun y hy=>?_),?_,(fun i y hi hy u hu'=>?_),?_⟩)
  .rcases ai1.mp hy with hy|hy
   .exact aY.mono (pl y hy) (e24.trans s5)
   .exact aY.mono (pw y hy) s5
  .rw[ajf,kw,aoc];refine⟨nd,au3 _ (by rw[kz];exact Mh W x.1),fun a ha b hb e=>?_⟩;subst e;have:=(aks.mp hb).2;simp[ha]at this
  .rw[ajf,kw]at hy;rcases ai1.mp hy with hy|hy
   .exact rch y hy
   .have:=(aks.mp hy).1;rw[kz]at this;obtain⟨u,hu',rfl⟩:=ai'.mp this;exact .step (rch _ hxk) hu'
  .rw[ajf];exact ai1.mpr (.inl hbg)
  .rw[ajf,kw];have hi2:i<(ys.map (·.1)).length:=by rw[aiJ];lia
   rw[ajf,ak2 hi2]at hy;by_cases c2:i<a'
   .exact ai1.mpr (.inl (cls i y c2 hy u hu'))
   .have ei:i=a':=by lia
    rw[ei,ai6,hx]at hy;cases hy;by_cases c3:u.2∈ys.map (·.1)
    .exact ai1.mpr (.inl c3)
    .refine ai1.mpr (.inr (aks.mpr ⟨?_,?_⟩))
     .rw[kz];exact ai'.mpr ⟨u,hu',rfl⟩
     .rw[aiO c3];rfl
  .rw[aiZ];lia
 have c:¬(a':Int)<((refs ys).length:Nat):=c;have hall:a'=ys.length:=by rw[refs,aiJ]at c;lia
 have hp:=Lz hn nd hbg rch fun k hk u hu=>by obtain⟨i,hi,e⟩:=amB hk;rw[aiJ]at hi;exact cls i k (by lia) (by rw[←e];exact aiG _) u hu
 refine az _ rfl ⟨fl,(flag W),ys,rfl,(bk.of hf),pl,(by lia),nd,(fun sa o hsa sf=>?_)⟩;obtain⟨s5,n5⟩:=au (o:=.ext fun h=>h.get? sa=some o) hsa;refine vh sa o (flag W) ys rfl n5 sf (pl.mono s5) (by lia) (fun l zs hl hperm aaJ=>?_);obtain⟨aht,ahX⟩:=au (o:=.lst (refs zs)) hl;refine qq l _ (e2.trans (s5.trans aht)) ⟨zs,ahX,fun x hx=>aY.mono (pl x (hperm.mem_iff.mp hx)) (s5.trans aht),aaJ,(hperm.map _).trans hp⟩
theorem oh:aU ["_law_web_here","_law_kind","_law_here","_law_some","_law_more_here"] ["_law_web_here","_law_kind","_law_here"] (aB pB):=⟨rfl,rfl,rfl,by decide+kernel,rfl,by decide+kernel,by decide+kernel⟩
theorem yN:akD (["_law_web_here","_law_one"]:List Str):=by decide+kernel
theorem yO:akD (["_law_some","_law_one"]:List Str):=by decide+kernel
theorem Ec (T:Txt K mg A D){k:Nat}(bc:aP P w K mg base (cI P w) k A.du D.du ["_law_many"] BK):aP P w K mg base (cI P w) (k+1) A.eE D.eE ["_law_web_here","_law_kind","_law_here"] acQ:=by
 refine T.iw.pH oh (fun vs H Q E h=>?_) (fun cdv A' outer s H vs Q E hr h=>?_)
 .obtain⟨_,_,_,_,_,rfl,_⟩:=h;rfl
 obtain⟨v,W,qa,B,ky,rfl,wa,pk,hl,q⟩:=h;have ahf:=wa.ahf;have hn:=ahf.n5;obtain⟨a,tl,xs,rfl,ha,hlt,dl⟩:=jr wa.dat;obtain⟨mv,hq,Jz⟩:=aY.val pk;have hcase:((B=true∧∃z,ky.2=[z]∧mv=.int z)∨(B=false∧∃c,mv=.ref c∧H c=some (.tup (ky.2.map .int)))):=by
  cases B with
  |true=>obtain⟨z,h1,h2⟩:∃z:Int,ky.2=[z]∧mv=.int z:=Jz;exact .inl ⟨rfl,z,h1,h2⟩
  |false=>obtain⟨c,h1,hc⟩:∃c,mv=.ref c∧H c=some (.tup (ky.2.map .int)):=Jz;exact .inr ⟨rfl,c,h1,hc⟩
 unfold uQ zy at q;refine⟨_,(ao (Oh (pv 2) (qx rfl (bw (aH (i:=3) oh.nd rfl (akk rfl)) (bw (aH (i:=4) oh.nd rfl (ajp rfl)) iB)))) (ao (bF (f9 (Xq Aw Av ak (pv 3) (aD bc hr rfl T.fY T.cX.kp T.fZ .nil aL (aa (bA bG (pv 0) ak (fun _ _=>rfl)) aj)))) (aq (aF gY)) aM) (ao (bF (aJ dW (pv 1) b7 (aQ _)) (ao (bF (PW.pt (yR (f9 (fc (aK cO rfl T.bf bj (aa (pv 4) (aa (iz (v:=.ty "tuple") rfl T.oY pO rfl) aj))))) (uz (f9 (fc (aK (tE rfl) rfl T.Hj H5 (aa (nA rfl (lM (N:=["_law_web_here","_law_one"]) (js:=[some 0,none]) rfl rfl (by decide+kernel) (by decide+kernel) rfl (aiE.mpr ⟨rfl,fun _ h=>nomatch h⟩) (aiE.mpr ⟨(fun h=>nomatch h),(aiE.mpr ⟨(fun h=>nomatch h),(aiE.mpr ⟨(fun _=>rfl),fun _ h=>nomatch h⟩)⟩)⟩) (aiE.mpr ⟨(fun j h=>(by cases h;exact⟨rfl,rfl,rfl⟩)),(aiE.mpr ⟨(fun j h=>nomatch h),fun _ h=>nomatch h⟩)⟩) rfl) (Ht (pv 4)) (fun _ _ _ _=>(aH (i:=1) yN rfl (ajp rfl) (hf:=akk rfl))) (fun _ _ _ _=>iD) (fun _ _ _ _=>(Ax Aw Av ak (pv 1) (bA (Tf (K:=K) rfl) (pv 0) ak (fun _ _=>rfl))))) aj))))))) (aq (aF gY)) aM) (aq (aF (aK (tE rfl) rfl T.Hj H5 (aa (nA rfl (lM (N:=["_law_some","_law_one"]) (js:=[some 3,none]) rfl rfl (by decide+kernel) (by decide+kernel) rfl (aiE.mpr ⟨rfl,fun _ h=>nomatch h⟩) (aiE.mpr ⟨(fun h=>nomatch h),(aiE.mpr ⟨(fun h=>nomatch h),(aiE.mpr ⟨(fun h=>nomatch h),(aiE.mpr ⟨(fun _=>rfl),fun _ h=>nomatch h⟩)⟩)⟩)⟩) (aiE.mpr ⟨(fun j h=>(by cases h;exact⟨rfl,rfl,rfl⟩)),(aiE.mpr ⟨(fun j h=>nomatch h),fun _ h=>nomatch h⟩)⟩) rfl) (Ht (pv 4)) (fun _ _ _ _=>(aH (i:=1) yO rfl (ajp rfl) (hf:=akk rfl))) (fun _ _ _ _=>iD) (fun _ _ _ _=>(mL dW (aG fu (aG jk (pv 0) (aD bc hr rfl T.fY T.cX.kp T.fZ .nil aL (aa (pv 1) aj))) ak) ak (aQ _)))) aj))))) aM) (aq (aF (dU (aJ dW (pv 1) b7 (aQ _)) (mL (HR hr.units) (pv 4) (bL aj) (aQ _)) (aK cO rfl T.bf bj (aa (pv 4) (aa (iz (v:=.ty "int") rfl T.Mt Pb rfl) aj))))))))),?_⟩;dsimp only[ou,eU];refine az _ rfl (iV qa _ rfl (cD.of hq) rfl (mC _ _ rfl (bU _ _ rfl rfl ?_)));refine⟨_,rfl,_,_,rfl,rfl,_,rfl,?_⟩;by_cases b1:0<=ky.1;rotate_left
 .rw[aiO b1];refine cN ⟨_,rfl,dY ?_⟩;have:=q H (aC.refl _);rw[aiO b1]at this;exact this
 rw[aiQ b1];refine dY ⟨_,rfl,_,_,_,_,rfl,rfl,cD.of ha,rfl,W.n,rfl,hn,fun H1 e1=>⟨_,_,rfl,rfl,_,rfl,?_⟩⟩;by_cases b2:ky.1<((2^W.n:Nat):Int);rotate_left
 .rw[aiO b2];refine dY ?_;have:=q H1 e1;rw[aiQ b1,aiO b2]at this;exact this
 rw[aiQ b2];refine cN ?_;rw[aiQ b1,aiQ b2]at q;simp only[akH]at q;have ha1:=e1 _ _ ha;obtain⟨S,eS⟩:∃S:Nat,ky.1=S:=⟨ky.1.toNat,by lia⟩;have eS':ky.1.toNat=S:=by lia
 refine⟨_,rfl,rfl,_,rfl,ite_str (fun c1=>?_) fun c1=>?_⟩
 .have nt:¬W.kd="total":=by rw[c1];decide
  have nm:¬W.kd="most":=by rw[c1];decide
  rw[aiL nt,aiL nm]at q;rcases hcase with⟨rfl,z,hz,rfl⟩|⟨rfl,c,rfl,hc⟩
  .refine⟨_,rfl,_,_,_,_,_,rfl,rfl,.int z,T.lZ,_,rfl,?_⟩;exact dY (dY (q H1 e1))
  have hc1:=e1 _ _ hc;refine⟨_,rfl,_,_,_,_,_,rfl,rfl,.tup hc1,T.dz,_,rfl,?_⟩;refine cN ⟨_,rfl,c,rfl,⟨_,cD.of hc1⟩,?_⟩;refine rF (fun σ=>∃x2,σ=[some (.ref a),x2]) ky.2.length (fun i=>.bool (decide (0<=ky.2.getD i 0)&&decide (ky.2.getD i 0<=(W.n:Int)-1))) ⟨none,rfl⟩ ?_ ?_ (by rw[aje];lia) ?_ ?_
  .intro i ahq hi e3;exact⟨_,_,cD.of (e3 _ _ hc1),int_at ky.2 hi⟩
  .intro ahq e3;exact⟨_,cD.of (e3 _ _ hc1),by rw[aiJ];exact aiN _⟩
  .rintro agA i y lK ahq aiv agN hi e3 hD' ⟨x1,rfl⟩ ⟨rfl,hy⟩ fin;have hy2:=hy _ (cD.of (e3 _ _ hc1));rw[int_at ky.2 hi]at hy2;cases hy2;refine⟨_,rfl,_,_,rfl,rfl,_,rfl,?_⟩;by_cases d1:0<=ky.2.getD i 0
   .rw[aiQ d1];refine dY ⟨_,rfl,_,_,_,_,rfl,rfl,cD.of (e3 _ _ ha1),rfl,_,_,rfl,rfl,fin _ _ _ ⟨_,rfl⟩ (aC.refl _) ?_⟩;have:decide (ky.2.getD i 0<(W.n:Int))=(decide (0<=ky.2.getD i 0)&&decide (ky.2.getD i 0<=(W.n:Int)-1)):=by rw[aiQ d1,akH,ajD,decide_eq_true_eq,decide_eq_true_eq];lia
    show Dat _ _ (.bl (decide (ky.2.getD i 0<(W.n:Int))));rw[this];exact .bool
   .rw[aiO d1];refine cN (fin _ _ _ ⟨_,rfl⟩ (aC.refl _) ?_);rw[aiO d1];exact .bool
  .intro D1 ys1 ahq hD1 e3 hy1 R0;have ez:(aiY ky.2.length).map (fun i=>ano (decide (0<=ky.2.getD i 0)&&decide (ky.2.getD i 0<=(W.n:Int)-1)))=((aiY ky.2.length).map fun i=>(decide (0<=ky.2.getD i 0)&&decide (ky.2.getD i 0<=(W.n:Int)-1))).map .bool:=by rw[ajG];rfl
   rw[ez]at R0;rw[qU R0]at hy1;refine⟨D1,_,rfl,bk.of hy1,_,rfl,?_⟩;rw[uP,IK ky.2 fun p=>decide (0<=p)&&decide (p<=(W.n:Int)-1)];cases hall:ky.2.all fun p=>decide (0<=p)&&decide (p<=(W.n:Int)-1)with
   |false=>
    refine dY ?_;have:=q ahq (e1.trans e3);have ef:(ky.2.all fun p=>decide (0<=p)&&decide (p<=(W.n:Int)-1)&&bit ky.1.toNat p.toNat)=false:=by
     cases z:(ky.2.all fun p=>decide (0<=p)&&decide (p<=(W.n:Int)-1)&&bit ky.1.toNat p.toNat)with
     |false=>rfl
     |true=>rw[ajB]at z;have:(ky.2.all fun p=>decide (0<=p)&&decide (p<=(W.n:Int)-1))=true:=ajB.mpr fun p hp=>(aiR _ _▸z p hp).1;rw[this]at hall;cases hall
    rw[ef]at this;exact this
   |true=>
    refine cN ?_;rw[ajB]at hall;have hin:∀p∈ky.2,0<=p∧p<(W.n:Int):=fun p hp=>by have:=hall p hp;rw[aiR]at this;have z1:=ai9 this.1;have z2:=ai9 this.2;lia
    have hc3:=e3 _ _ hc1;refine⟨_,rfl,c,rfl,⟨_,cD.of hc3⟩,?_⟩;refine rF (fun σ=>∃x2,σ=[some (.int ky.1),x2]) ky.2.length (fun i=>.bool (bit S (ky.2.getD i 0).toNat)) ⟨none,rfl⟩ ?_ ?_ (by rw[aje];lia) ?_ ?_
    .intro i aiv hi e4;exact⟨_,_,cD.of (e4 _ _ hc3),int_at ky.2 hi⟩
    .intro aiv e4;exact⟨_,cD.of (e4 _ _ hc3),by rw[aiJ];exact aiN _⟩
    .rintro agA i y lK aiv agU agN hi e4 hD' ⟨x1,rfl⟩ ⟨rfl,hy⟩ fin;have hy2:=hy _ (cD.of (e4 _ _ hc3));rw[int_at ky.2 hi]at hy2;cases hy2;have hg:ky.2.getD i 0∈ky.2:=by rw[ajb,aiG hi];exact ajT hi
     have hgi:=hin _ hg;obtain⟨g,eg⟩:∃g:Nat,ky.2.getD i 0=g:=⟨(ky.2.getD i 0).toNat,by lia⟩;rw[eg,ai4]at fin;rw[eg];refine⟨_,rfl,_,rfl,g,rfl,by lia,fun ag1 e6=>⟨_,_,rfl,rfl,p32 g (by lia),_,_,rfl,rfl,(by show(0:Int)<2;decide),rfl,fin _ _ _ ⟨_,rfl⟩ e6 ?_⟩⟩;show Dat _ _ (.bl (decide (V.int (ky.1/((2^g:Nat):Int) %2)=V.int 1)));rw[eS,tL,Tv];exact .bool
    .intro D2 ys2 aiv hD2 e4 hy2 dy2;have ez:(aiY ky.2.length).map (fun i=>ano (bit S (ky.2.getD i 0).toNat))=((aiY ky.2.length).map fun i=>bit S (ky.2.getD i 0).toNat).map .bool:=by rw[ajG];rfl
     rw[ez]at dy2;rw[qU dy2]at hy2;refine⟨D2,_,rfl,bk.of hy2,?_⟩;rw[uP,IK ky.2 fun p=>bit S p.toNat];have:=q aiv (e1.trans (e3.trans e4));have ef:(ky.2.all fun p=>decide (0<=p)&&decide (p<=(W.n:Int)-1)&&bit ky.1.toNat p.toNat)=ky.2.all fun p=>bit S p.toNat:=by
      rw[ajD,ajB,ajB];constructor
      .intro z p hp;have:=z p hp;rw[aiR,eS']at this;exact this.2
      .intro z p hp;rw[hall p hp,eS',z p hp];rfl
     rw[ef]at this;exact this
 .refine⟨_,rfl,rfl,_,rfl,ite_str (fun c2=>?_) fun c2=>?_⟩
  .have nt:¬W.kd="total":=by rw[c2];decide
   rw[aiL nt,aiP c2]at q;refine⟨_,rfl,(by show 0<=aiV;decide),fun t ht=>?_⟩;obtain⟨s1,n1⟩:=au (o:=.tup []) ht;have e2:=e1.trans s1;rcases hcase with⟨rfl,z,hz,rfl⟩|⟨rfl,c,rfl,hc⟩
   .exact⟨.int z,.tuple [],Dat.int.rep,(Dat.tuple n1 .nil).rep,rfl,rfl,ajt (aou _ _) (by decide),q _ e2⟩
   .refine⟨.tuple (ky.2.map .int),.tuple [],(Dat.Ke (e2 _ _ hc)).rep,(Dat.tuple n1 .nil).rep,lay_ints _,rfl,ajt (aou _ _) (by decide),?_⟩;have e3:akn (.tuple (ky.2.map .int)) (.tuple [])=(!false&&decide (ky.2=[])):=by show aoA (ky.2.map .int) ([].map .int)=_;rw[By];rfl
    show Q (.bl (akn _ _)) _;rw[e3];exact q _ e2
  .have ct:W.kd="total":=by
    rcases ahf.kd with z|z|z
    .exact ai8 z c1
    .exact ai8 z c2
    .exact z
   rw[aiP ct]at q;rcases hcase with⟨rfl,z,hz,rfl⟩|⟨rfl,c,rfl,hc⟩
   .exact⟨_,rfl,_,_,_,_,_,rfl,rfl,.int z,T.tX,q H1 e1⟩
   .exact⟨_,rfl,_,_,_,_,_,rfl,rfl,.tup (e1 _ _ hc),T.oZ,q H1 e1⟩
theorem Ed:aU ["_law_web_here","_law_kind","_law_bound","_law_some","_law_here"] ["_law_web_here","_law_kind","_law_bound","_law_some"] (aB xZ):=⟨rfl,rfl,rfl,by decide+kernel,rfl,by decide+kernel,by decide+kernel⟩
theorem JD:akD (["_law_some","_law_one"]:List Str):=by decide+kernel
theorem R8 (T:Txt K mg A D){k:Nat}(bc:aP P w K mg base (cI P w) k A.du D.du ["_law_many"] BK)(lH:aP P w K mg base (cI P w) k A.eE D.eE ["_law_web_here","_law_kind","_law_here"] acQ)(eO:aP P w K mg base (cI P w) k A.dI D.dI ["_law_web_here","_law_kind","_law_bound","_law_here"] Qv):aP P w K mg base (cI P w) (k+1) A.mV D.mV ["_law_web_here","_law_kind","_law_bound","_law_some"] Um:=by
 refine T.qj.pH Ed (fun vs H Q E h=>?_) (fun cdv A' outer s H vs Q E hr h=>?_)
 .obtain⟨_,_,_,_,_,rfl,_⟩:=h;rfl
 obtain⟨v,W,bd,l,ms,rfl,hbd,hwa,hl,hms,hlen,h20,hb0,q⟩:=h;refine⟨_,(ao (bF (aJ dW (pv 2) ak (aQ _)) (aq (aF gY)) aM) (ao (bF (aJ (Hb hr.units) (bL (aa ak (aa (dU (aJ dW (pv 1) b7 (aQ _)) ak (bL aj)) aj))) (pv 3) (by with_unfolding_all rfl)) (aq (aF gY)) aM) (ao (fO aX rfl (cT (pv 3)) (aH (i:=4) Ed.nd rfl (ajp rfl)) (ao (bF (PW.pt (yR (f9 (fc (aD lH hr rfl T.Fb T.iw.kp T.Fd .nil aL (aa (pv 0) (aa (pv 1) (aa (pv 4) aj)))))) (uz (aJ dW (bA bG (pv 4) ak (fun _ _=>rfl)) (aG gZ (aD bc hr rfl T.fY T.cX.kp T.fZ .nil aL (aa (bA bG (pv 0) ak (fun _ _=>rfl)) aj)) ak) (aQ _))))) (aq (aF gY)) aM) (aq (bF (f9 (fc (aK (tE rfl) rfl T.Hj H5 (aa (nA rfl (lM (N:=["_law_some","_law_one"]) (js:=[some 3,none]) rfl rfl (by decide+kernel) (by decide+kernel) rfl (aiE.mpr ⟨rfl,fun _ h=>nomatch h⟩) (aiE.mpr ⟨(fun h=>nomatch h),(aiE.mpr ⟨(fun h=>nomatch h),(aiE.mpr ⟨(fun _=>rfl),fun _ h=>nomatch h⟩)⟩)⟩) (aiE.mpr ⟨(fun j h=>(by cases h;exact⟨rfl,rfl,rfl⟩)),(aiE.mpr ⟨(fun j h=>nomatch h),fun _ h=>nomatch h⟩)⟩) rfl) (cT (aD eO hr rfl T.wg T.gR.kp T.wi .nil aL (aa (pv 0) (aa (pv 1) (aa (aG gZ (pv 2) ak) (aa (pv 4) aj)))))) (fun _ _ _ _=>(aH (i:=1) JD rfl (ajp rfl) (hf:=akk rfl))) (fun _ _ _ _=>iD) (fun _ _ _ _=>(mL (abT (K:=K) rfl hr.units) (pv 1) (pv 0) (by with_unfolding_all rfl)))) aj)))) (aq (aF gY)) aM)))) (aq (aF gY))))),?_⟩;dsimp only[ou,eU];refine c7 _ rfl rfl (az _ rfl ?_);by_cases c0:bd=0
 .refine oG (congrArg V.int c0) ?_;have:=q H (aC.refl _);rw[aiQ c0]at this;exact this
 refine pU (fun z=>c0 (V.int.inj z)) ?_;rw[aiO c0]at q;simp only[alo]at q;have wa:=hwa (by lia);have ahf:=wa.ahf;have hn:=ahf.n5;have okm:∀x∈ms.map (·.1),Ly x:=fun x hx=>by obtain⟨y,hy,rfl⟩:=ai'.mp hx;exact aY.okM (hms y hy)
 have em:(ms.map fun x=>m8 x.1)=(ms.map (·.1)).map m8:=by rw[ajG];rfl
 have lay:∀d∈(ms.map (·.1)).map m8,d.canLay0=true∧d.depth<=60:=fun d hd=>by obtain⟨u,_,rfl⟩:=ai'.mp hd;exact xT _
 obtain⟨a,tl,xs,rfl,ha,hlt,dl⟩:=jr wa.dat;refine c7 _ rfl rfl (az _ rfl (CT fun mv H1 e1 hm=>?_));refine⟨(by show 2<=aiV;decide),fun q0 hq0=>?_⟩;obtain⟨s2,n2⟩:=au (o:=.tup [V.int 0,mv]) hq0;have pk0:aY (flag W) (upd H1 q0 (.tup [V.int 0,mv])) (cj W) q0:=Uq (hm.mono s2) n2;have e2:=e1.trans s2;have dms:=(hms.mono e2).dat;rw[em]at dms;refine az _ rfl (aaD (m8 (flag W,cj W)) l _ _ ((aY.dat pk0).rep) rfl (bk.of (e2 _ _ hl)) dms.rep ((xT _).1) lay (az _ rfl ?_));rw[Qo okm (aY.okM pk0)];refine acP (fun c1=>?_) fun c1=>?_
 .have:=q _ e2;rw[Z4 c1]at this;exact this
 refine az _ rfl (c7 l rfl ⟨_,bk.of (e2 _ _ hl)⟩ ?_);have DW:(cu ms).length=ms.length:=aiJ _;refine fP ms.length (fun i σ H'=>∃v4,σ=[some (.ref a),some (.str W.kd),some (.int bd),some (.ref l),v4]∧aC H H'∧∀x∈(ms.take i).map (·.1),stand W x=true∧((aW W x.2).all fun y=>decide ((flag W,y.2)∈ms.map (·.1)))=true) ⟨none,rfl,e2,fun x hx=>ai8 hx aiX⟩ ?_ ?_ ?_ ?_
 .rintro i σ H' hi ⟨v4,rfl,e,hc⟩;exact mC _ (V.ref (ms[i]).2) (bk.of (e _ _ hl)) (by unfold cu;rw[ai6,aiG hi];rfl)
 .rintro σ H' ⟨v4,rfl,e,hc⟩;exact⟨_,bk.of (e _ _ hl),by rw[DW];exact aiN _⟩
 .rintro i y σ aiv agU hi ⟨v4,rfl,e,hc⟩ ⟨rfl,hy⟩;have hy2:=hy _ (bk.of (e _ _ hl));unfold cu at hy2;rw[ai6,aiG hi]at hy2;cases hy2;have hmem:ms[i]∈ms:=ajT hi;have hmk:(ms[i]).1∈ms.map (·.1):=ai'.mpr ⟨_,hmem,rfl⟩;have pk:aY (ms[i]).1.1 agU (ms[i]).1.2 (ms[i]).2:=aY.mono (hms _ hmem) e;have etk:(ms.take (i+1)).map (·.1)=(ms.take i).map (·.1)++[(ms[i]).1]:=by rw[akv,aiG hi,ajf];rfl
  have no:stand W (ms[i]).1=false->∀H',aC H H'->Q (.bl false) H':=fun h H' e'=>by have:=q H' e';rw[Hg hmk h]at this;exact this
  refine az _ rfl (az _ rfl (az _ rfl (W8 (.ref a) W ((ms[i]).2) ((ms[i]).1.1) ((ms[i]).1.2) rfl (wa.mono e) pk (h20 _ hmem) (fun ag1 e6=>⟨_,rfl,?_⟩))));have hst:=Z0 W (ms[i]).1;cases hp:uQ W ((ms[i]).1.1,(ms[i]).1.2)with
  |false=>have hp':uQ W (ms[i]).1=false:=hp;rw[hp']at hst;refine dY (dY (no hst _ (e.trans e6)))
  |true=>
  have hp':uQ W (ms[i]).1=true:=hp;rw[hp',akH]at hst;obtain⟨mv',hq',agt⟩:=aY.val (aY.mono pk e6);have ha6:=e6 _ _ (e _ _ ha);refine cN ⟨_,rfl,_,_,_,_,rfl,rfl,cD.of hq',rfl,_,rfl,_,_,_,_,rfl,rfl,cD.of ha6,rfl,W.n,rfl,hn,fun ahC e7=>⟨_,_,rfl,rfl,rfl,_,rfl,nH (fun c2=>?_) fun c2=>?_⟩⟩
  .rw[aiQ (V.int.inj c2)]at hst;exact no hst _ (e.trans (e6.trans e7))
  rw[aiO fun z=>c2 (congrArg V.int z)]at hst;have hst:stand W (ms[i]).1=true:=hst;have hfl:(ms[i]).1.1=flag W:=qT ahf.kd hst;have kok:=Hf ahf hst (okm _ hmk) (h20 _ hmem);have e57:=e6.trans e7;have pk7:=aY.mono pk e57;rw[hfl]at pk7;refine az _ rfl (az _ rfl (az _ rfl (bU _ _ rfl rfl (az _ rfl (W8 (.ref a) W ((ms[i]).2) ((ms[i]).1.2) _ (by rw[hbd];rfl) (wa.mono (e.trans e57)) pk7 kok (fun bl zs ahe hbl e8 hb pz kz=>⟨bl,rfl,⟨_,bk.of hb⟩,?_⟩))))));have zl:zs.length=(aW W (ms[i]).1.2).length:=by rw[←aiJ (f:=(·.1)),kz,aiJ]
  have nl:=uO hn (ms[i]).1.2;have lf:=Up W.n (ms[i]).1.2.1.toNat;have okz:∀y∈zs.map (·.1),Ly (flag W,y):=fun y hy=>by rw[kz]at hy;obtain⟨u,hu,rfl⟩:=ai'.mp hy;exact CQ hn kok hu
  have e08:=e.trans (e57.trans e8);refine rF (fun σ=>∃z,σ=[some (.ref l),z]) zs.length (fun i=>.bool (decide ((flag W,(zs.map (·.1)).getD i (0,[]))∈ms.map (·.1)))) ⟨none,rfl⟩ ?_ ?_ (by rw[aje];lia) ?_ ?_
  .intro i aim hi e9;exact mC _ (V.ref (zs[i]'hi).2) (bk.of (e9 _ _ hb)) (by rw[ai6,aiG hi];rfl)
  .intro aim e9;exact⟨_,bk.of (e9 _ _ hb),by rw[aiJ];exact aiN _⟩
  .rintro agA j y lK aim ag0 agN hj e9 ⟨ysD,hD⟩ ⟨x1,rfl⟩ ⟨rfl,hy⟩ fin;have hy2:=hy _ (bk.of (e9 _ _ hb));rw[ai6,aiG hj]at hy2;cases hy2;have hzm:zs[j]∈zs:=ajT hj;have hgd:(zs.map (·.1)).getD j (0,[])=zs[j].1:=by rw[ajb,ai6,aiG hj];rfl
   have pk9:=aY.mono (pz _ hzm) e9;have dms:=(hms.mono (e08.trans e9)).dat;rw[em]at dms;refine az _ rfl (az _ rfl (aaD (m8 (flag W,zs[j].1)) l _ _ ((aY.dat pk9).rep) rfl (bk.of (e9 _ _ (e08 _ _ hl))) dms.rep ((xT _).1) lay (fin _ _ _ ⟨_,rfl⟩ (aC.refl _) ?_)));rw[hgd];show Dat _ _ (.bl (((ms.map (·.1)).map m8).any fun d=>akn d (m8 (flag W,zs[j].1))));rw[Qo okm (okz _ (ai'.mpr ⟨_,hzm,rfl⟩))];exact .bool
  intro l3 us aim hl3 e9 hu agF;rw[show zs.length=(zs.map (·.1)).length from(aiJ _).symm,Z3 (zs.map (·.1)) (0,[]) fun k=>ano (decide ((flag W,k)∈ms.map (·.1))),kz,ajG]at agF;have ez:(aW W (ms[i]).1.2).map ((fun k=>ano (decide ((flag W,k)∈ms.map (·.1))))∘fun x=>x.2)=((aW W (ms[i]).1.2).map fun x=>decide ((flag W,x.2)∈ms.map (·.1))).map .bool:=by rw[ajG];rfl
  rw[ez]at agF;rw[qU agF]at hu;refine bU l3 _ rfl (bk.of hu) (az _ rfl ?_);have ea:((aW W (ms[i]).1.2).map fun x=>decide ((flag W,x.2)∈ms.map (·.1))).all id=(aW W (ms[i]).1.2).all fun x=>decide ((flag W,x.2)∈ms.map (·.1)):=by rw[asB];rfl
  rw[ea];have e09:=e08.trans e9;cases hal:(aW W (ms[i]).1.2).all fun x=>decide ((flag W,x.2)∈ms.map (·.1))with
  |false=>refine dY ?_;have:=q _ e09;rw[Z5 hmk hal]at this;exact this
  |true=>
   refine cN ⟨_,rfl,e09,fun x hx=>?_⟩;rw[etk,ai1,ai5]at hx;rcases hx with hx|rfl
   .exact hc x hx
   .exact⟨hst,hal⟩
 .rintro σ H' ⟨v4,rfl,e,hc⟩;rw[akt]at hc;have:=q _ e;rw[Z6 (fun x hx=>(hc x hx).1) c1 fun x hx=>(hc x hx).2]at this;exact this
theorem mq:aU ["_law_some","_law_number","_law_whole","_law_at","_law_way","_law_head","_law_more_here"] ["_law_some","_law_number","_law_whole"] (aB uZ):=⟨rfl,rfl,rfl,by decide+kernel,rfl,by decide+kernel,by decide+kernel⟩
theorem N6 (T:Txt K mg A D){k:Nat}:aP P w K mg base (cI P w) (k+1) A.jD D.jD ["_law_some","_law_number","_law_whole"] Un:=by
 refine T.nY.pH mq (fun vs H Q E h=>?_) (fun cdv A' outer s H vs Q E hr h=>?_)
 .obtain⟨_,_,_,_,_,_,rfl,_⟩:=h;rfl
 obtain⟨l,ah5,ms,nm,ah6,kw,rfl,hl,hms,hlen,h5,pkw,hw5,hn0,q⟩:=h;have DW:(cu ms).length=ms.length:=aiJ _;refine⟨_,(ao (aR (i:=3) mq.nd rfl (ajp rfl) (aG fu (aG jk (pv 1) ak) (aK (w5 rfl) rfl T.Dm Br (aa ak (aa (aK di rfl T.rH alu (aa (pv 0) aj)) aj))))) (ao (aR (i:=4) mq.nd rfl (ajp rfl) (aG fu (pv 1) ak)) (ao (bF (aJ dW (pv 4) ak (aQ _)) (aq (aF (aG pg (lL zY (pv 0) oA (oE (pv 3))) (lL zY (pv 0) (oE (aG eQ (pv 3) ak)) oA)))) aM) (ao (bF (aJ dW (pv 4) ak (aQ _)) (aq (aF (Z1 (pv 0) (aG fu (aG jk (pv 1) ak) ak) (fun _ _=>rfl) (bL (aa ak (aa (bL aj) aj))) (fun _=>rfl) (bL (aa ak (aa ak aj))) (fun _=>rfl) (bL (aa ak (aa (bL aj) aj))) (fun _=>rfl) (bL (aa (rM qz ak) (aa ak aj))) (fun _=>rfl) (bL (aa ak (aa (bL (aa ak aj)) aj))) (fun _=>rfl) (pv 2) (fun _=>rfl)))) aM) (ao (bF (PW.pt (Og (aJ dW (pv 4) ak (aQ _)) (Hs (Ba (pv 0) (fun _=>rfl))))) (ao (Oh (bA dX (pv 0) (pv 3) (fun _ _=>rfl)) (qx rfl (bw (aH (i:=5) mq.nd rfl (ajp rfl)) (bw (aH (i:=6) mq.nd rfl (ajp rfl)) iB)))) (aq (aF (aG pg (aG pg (lL zY (pv 0) oA (oE (pv 3))) (bQ (aa (bL (aa (pv 5) (aa (dU (fc (aK cO rfl T.bf bj (aa (pv 6) (aa (iz (v:=.ty "tuple") rfl T.oY pO rfl) aj)))) (aG BP (pv 6) (pv 6)) (aG eQ (pv 6) ak)) aj))) aj))) (lL zY (pv 0) (oE (aG eQ (pv 3) ak)) oA))))) aM) (aq (aF (dU (aJ dW (pv 4) ak (aQ _)) (adt (pv 0) (rM qz ak)) (pv 0))))))))),?_⟩;dsimp only[ou,eU];refine az _ rfl (iV _ _ rfl rfl (by show(0:Int)<8∧(8:Int)<1073741824;decide) (az _ rfl (bU l _ rfl (.inl (bk.of hl)) (mC _ _ rfl (bU _ _ rfl rfl ?_)))));dsimp only;rw[DW];obtain⟨M,hM,hM1,hM2⟩:∃M:Int,(if((ms.length:Nat):Int)>1 then((ms.length:Nat):Int)else 1)=M∧1<=M∧(ms≠[]->M=ms.length):=by
  refine c7 _ rfl ?_ (fun hne=>?_)
  .split<;>omega
  .have:0<ms.length:=amA.mpr hne;split<;>omega
 rw[hM];obtain⟨a',ha',hal⟩:∃a':Nat,nm/8 %M=a'∧(a':Int)<M:=by have z1:=akZ (nm/8) (show M≠0 by omega);have z2:=akW (nm/8) (show(0:Int)<M by omega);exact⟨(nm/8 %M).toNat,by omega,by omega⟩
 refine⟨(by show 0<M;omega),?_⟩;rw[ha'];refine az _ rfl (iV _ _ rfl rfl (by show(0:Int)<6;decide) ?_);generalize nm %6=way;have ea:(a':Int)+1=((a'+1:Nat):Int):=by omega
 refine c7 _ rfl rfl (az _ rfl (nH (fun c=>?_) fun c=>?_))
 ·
  refine az _ rfl (az _ rfl (az _ rfl (bU l _ rfl (bk.of hl) (fun r1 hr1=>?_))));obtain⟨s1,n1⟩:=au (o:=.lst (jZ (cu ms) none (some (a':Int)))) hr1;refine az _ rfl (az _ rfl (bU _ _ rfl rfl (az _ rfl (bU l _ rfl (bk.of (s1 _ _ hl)) (fun r2 hr2=>?_)))));obtain⟨s2,n2⟩:=au (o:=.lst (jZ (cu ms) (some ((a':Int)+1)) none)) hr2;rw[ea]at n2;refine vh r1 r2 _ _ rfl rfl (s2 _ _ n1) n2 (by rw[lN,lO,ajC,akB,DW,aje];omega) (fun r3 hr3=>?_);obtain⟨s3,n3⟩:=au (o:=.lst (jZ (cu ms) none (some (a':Int))++jZ (cu ms) (some ((a'+1:Nat):Int)) none)) hr3;have e3:=s1.trans (s2.trans s3);refine q r3 (ms.take a'++ms.drop (a'+1)) _ e3 (by rw[n3,lN,lO];unfold cu;rw[ajf,arF,aoC]) (fun y hy=>?_) (by rw[aiZ,ajC,akB];omega) fun y hy=>?_
  .rcases ai1.mp hy with hy|hy
   .exact aY.mono (hms y (aj1 hy)) e3
   .exact aY.mono (hms y (akj hy)) e3
  .rcases ai1.mp hy with hy|hy
   .exact ajt (h5 y (aj1 hy)) (by decide)
   .exact ajt (h5 y (akj hy)) (by decide)
 refine c7 _ rfl rfl (az _ rfl (nH (fun c1=>?_) fun c1=>?_))
 ·
  refine c7 _ rfl (by show 0<=aiV;decide) (fun a1 ha1=>⟨(by show 2<=aiV;decide),fun b1 hb1=>⟨(by show 2<=aiV;decide),fun b2 hb2=>⟨(by show 0<=aiV;decide),fun a3 ha3=>⟨(by show 2<=aiV;decide),fun b3 hb3=>?_⟩⟩⟩⟩);refine c7 _ rfl (by show 2<=aiV;decide) (fun b4 hb4=>⟨(by show 1<=aiV;decide),fun a5 ha5=>⟨(by show 2<=aiV;decide),fun b5 hb5=>⟨_,rfl,(by show 6<=aiV;decide),fun L hL=>?_⟩⟩⟩);obtain⟨s1,n1⟩:=au (o:=.tup []) ha1;obtain⟨s2,n2⟩:=au (o:=.tup [V.int 1,V.ref a1]) hb1;obtain⟨s3,n3⟩:=au (o:=.tup [V.int 1,V.int 0]) hb2;obtain⟨s4,n4⟩:=au (o:=.tup []) ha3;obtain⟨s5,n5⟩:=au (o:=.tup [V.int 64,V.ref a3]) hb3;obtain⟨aht,ahX⟩:=au (o:=.tup [V.int (-1),V.int 0]) hb4;obtain⟨agD,ait⟩:=au (o:=.tup [V.int 0]) ha5;obtain⟨ahS,ahN⟩:=au (o:=.tup [V.int 0,V.ref a5]) hb5;obtain⟨s9,n9⟩:=au (o:=.lst [V.ref b1,V.ref b2,V.ref b3,V.ref b4,V.ref b5,V.ref ah5]) hL;have aik:=s9;have ahk:=ahS.trans aik;have agx:=agD.trans ahk;have z5:=aht.trans agx;have z4:=s5.trans z5;have z3:=s4.trans z4;have z2:=s3.trans z3;have z1:=s2.trans z2;have z0:=s1.trans z1;obtain⟨pv,hpv,x,agv,rfl,hx,hxl⟩:=ae8 (i:=nm/64 %6) (p1:=.ref b1) (p2:=.ref b2) (p3:=.ref b3) (p4:=.ref b4) (p5:=.ref b5) (aic:=.ref ah5) (Z:=fun v=>∃(x:ahx) (agv:aiM),v=.ref agv∧aY x.1 _ x.2 agv∧x.2.2.length<=5) (akZ _ (by decide)) (akW _ (by decide)) ⟨(false,1,[]),b1,rfl,⟨a1,z2 _ _ n2,z1 _ _ n1⟩,by decide⟩ ⟨(true,1,[0]),b2,rfl,⟨0,rfl,z3 _ _ n3⟩,by decide⟩ ⟨(false,64,[]),b3,rfl,⟨a3,z5 _ _ n5,z4 _ _ n4⟩,by decide⟩ ⟨(true,-1,[0]),b4,rfl,⟨0,rfl,agx _ _ ahX⟩,by decide⟩ ⟨(false,0,[0]),b5,rfl,⟨a5,aik _ _ ahN,ahk _ _ ait⟩,by decide⟩ ⟨(ah6,kw),ah5,rfl,aY.mono pkw z0,hw5⟩;refine az _ rfl (iV _ _ rfl rfl (by show(0:Int)<64∧(64:Int)<1073741824;decide) (iV _ _ rfl rfl (by show(0:Int)<6;decide) (vh L _ _ _ rfl rfl (bk.of n9) hpv (by show 1<=aiV;decide) (fun L1 hL1=>?_))));obtain⟨t1,m1⟩:=au (o:=.lst [V.ref agv]) hL1;refine vh l L1 _ _ rfl rfl ((z0.trans t1) _ _ hl) m1 (by rw[DW,aje];show _+1<=_;omega) (fun r hr'=>?_);obtain⟨t2,m2⟩:=au (o:=.lst (cu ms++[V.ref agv])) hr';have e3:=z0.trans (t1.trans t2);refine q r (ms++[(x,agv)]) _ e3 (by rw[m2];unfold cu;rw[ajf];rfl) (fun y hy=>?_) (by rw[aiZ];show _+1<=_;omega) fun y hy=>?_
  .rcases ai1.mp hy with hy|hy
   .exact aY.mono (hms y hy) e3
   .rw[ai5.mp hy];exact aY.mono hx (t1.trans t2)
  .rcases ai1.mp hy with hy|hy
   .exact ajt (h5 y hy) (by decide)
   .rw[ai5.mp hy];exact ajt hxl (by decide)
 refine c7 _ rfl rfl (az _ rfl (abj (i:=0) (p:=l) (xs:=cu ms) rfl (bk.of hl) (fun c2 hne=>?_) fun c2=>?_))
 ·
  have hne:ms≠[]:=fun z=>hne (by rw[z];rfl);have hlt:a'<ms.length:=by have:=hM2 hne;omega
  obtain⟨x,hx⟩:∃x,ms[a']?=some x:=⟨_,aiG hlt⟩;have hxm:=ajo hx;have pkx:=hms x hxm;obtain⟨mv,hq,Jz⟩:=aY.val pkx;refine az _ rfl (az _ rfl (mj l _ _ _ rfl rfl (bk.of hl) (qD (by unfold cu;rw[ai6,hx];rfl)) (iV x.2 _ rfl (cD.of hq) rfl (mC _ _ rfl (bU _ _ rfl rfl ?_)))));refine az _ rfl (az _ rfl (az _ rfl (bU l _ rfl (bk.of hl) (fun r1 hr1=>?_))));obtain⟨s1,n1⟩:=au (o:=.lst (jZ (cu ms) none (some (a':Int)))) hr1;have hxl:=h5 x hxm;have hcase:((x.1.1=true∧∃z,x.1.2.2=[z]∧mv=.int z)∨(x.1.1=false∧∃c,mv=.ref c∧H c=some (.tup (x.1.2.2.map .int)))):=by
   cases hB:x.1.1 with
   |true=>rw[hB]at Jz;obtain⟨z,h1,h2⟩:∃z:Int,x.1.2.2=[z]∧mv=.int z:=Jz;exact .inl ⟨rfl,z,h1,h2⟩
   |false=>rw[hB]at Jz;obtain⟨c,h1,hc⟩:∃c,mv=.ref c∧H c=some (.tup (x.1.2.2.map .int)):=Jz;exact .inr ⟨rfl,c,h1,hc⟩
  rcases hcase with⟨hB,z,hz,rfl⟩|⟨hB,c,rfl,hc⟩
  .refine az _ rfl (az _ rfl (W8 _ _ _ _ _ rfl rfl (.int z) T.lZ (az _ rfl (cN ⟨_,rfl,_,_,rfl,rfl,(by show 2<=aiV;decide),fun t ht=>?_⟩))));have mvc:MV x.1.1 (upd H r1 (.lst (jZ (cu ms) none (some (a':Int))))) [z+1] (.int (z+1)):=by rw[hB];exact⟨_,rfl,rfl⟩
   obtain⟨s3,n3⟩:=au (o:=.tup [V.int x.1.2.1,V.int (z+1)]) ht;refine⟨(by show 1<=aiV;decide),fun L1 hL1=>?_⟩;obtain⟨s4,n4⟩:=au (o:=.lst [V.ref t]) hL1;have e4:=(s1.trans (aC.refl _)).trans (s3.trans s4);refine vh r1 L1 _ _ rfl rfl (by rw[((aC.refl _).trans (s3.trans s4)) _ _ n1]) n4 (by rw[lN,ajC,DW,aje];show _+1<=_;omega) (fun r3 hr3=>?_);obtain⟨s5,n5⟩:=au (o:=.lst (jZ (cu ms) none (some (a':Int))++[V.ref t])) hr3;have e5:=e4.trans s5;refine az _ rfl (az _ rfl (bU _ _ rfl rfl (az _ rfl (bU l _ rfl (bk.of (e5 _ _ hl)) (fun r2 hr2=>?_)))));obtain⟨aht,ahX⟩:=au (o:=.lst (jZ (cu ms) (some ((a':Int)+1)) none)) hr2;rw[ea]at ahX;have e6:=e5.trans aht;refine vh r3 r2 _ _ rfl rfl (aht _ _ n5) ahX (by rw[lN,lO,aiZ,ajC,akB,DW,aje];show _+1+_<=_;omega) (fun r4 hr4=>?_);obtain⟨agD,ait⟩:=au (o:=.lst (jZ (cu ms) none (some (a':Int))++[V.ref t]++jZ (cu ms) (some ((a'+1:Nat):Int)) none)) hr4;have e7:=e6.trans agD;have pkt:aY x.1.1 _ (x.1.2.1,[z+1]) t:=MV.key (mvc.mono (s3.trans (s4.trans (s5.trans (aht.trans agD))))) ((s4.trans (s5.trans (aht.trans agD))) _ _ n3);refine q r4 (ms.take a'++[((x.1.1,x.1.2.1,[z+1]),t)]++ms.drop (a'+1)) _ e7 (by rw[ait,lN,lO];unfold cu;rw[ajf,ajf,arF,aoC];rfl) (fun y hy=>?_) (by rw[aiZ,aiZ,ajC,akB];show _+1+_<=_;omega) fun y hy=>?_
   .rcases ai1.mp hy with hy|hy
    .rcases ai1.mp hy with hy|hy
     .exact aY.mono (hms y (aj1 hy)) e7
     .rw[ai5.mp hy];exact pkt
    .exact aY.mono (hms y (akj hy)) e7
   .rcases ai1.mp hy with hy|hy
    .rcases ai1.mp hy with hy|hy
     .exact ajt (h5 y (aj1 hy)) (by decide)
     .rw[ai5.mp hy];exact(by decide:1<=20)
    .exact ajt (h5 y (akj hy)) (by decide)
  .have hc1:=s1 _ _ hc;refine az _ rfl (az _ rfl (W8 _ _ _ _ _ rfl rfl (.tup hc1) T.dz (az _ rfl (dY ⟨_,rfl,_,rfl,?_⟩))));refine ad4 hc1 (by rw[aiJ,aje];omega) fun d ahw ed hd=>⟨(by show 2<=aiV;decide),fun t ht=>?_⟩;have mvc:MV x.1.1 ahw (x.1.2.2++x.1.2.2) (.ref d):=by rw[hB];exact⟨d,rfl,by rw[hd,ajf]⟩
   obtain⟨s3,n3⟩:=au (o:=.tup [V.int x.1.2.1,V.ref d]) ht;refine⟨(by show 1<=aiV;decide),fun L1 hL1=>?_⟩;obtain⟨s4,n4⟩:=au (o:=.lst [V.ref t]) hL1;have e4:=(s1.trans ed).trans (s3.trans s4);refine vh r1 L1 _ _ rfl rfl (by rw[(ed.trans (s3.trans s4)) _ _ n1]) n4 (by rw[lN,ajC,DW,aje];show _+1<=_;omega) (fun r3 hr3=>?_);obtain⟨s5,n5⟩:=au (o:=.lst (jZ (cu ms) none (some (a':Int))++[V.ref t])) hr3;have e5:=e4.trans s5;refine az _ rfl (az _ rfl (bU _ _ rfl rfl (az _ rfl (bU l _ rfl (bk.of (e5 _ _ hl)) (fun r2 hr2=>?_)))));obtain⟨aht,ahX⟩:=au (o:=.lst (jZ (cu ms) (some ((a':Int)+1)) none)) hr2;rw[ea]at ahX;have e6:=e5.trans aht;refine vh r3 r2 _ _ rfl rfl (aht _ _ n5) ahX (by rw[lN,lO,aiZ,ajC,akB,DW,aje];show _+1+_<=_;omega) (fun r4 hr4=>?_);obtain⟨agD,ait⟩:=au (o:=.lst (jZ (cu ms) none (some (a':Int))++[V.ref t]++jZ (cu ms) (some ((a'+1:Nat):Int)) none)) hr4;have e7:=e6.trans agD;have pkt:aY x.1.1 _ (x.1.2.1,(x.1.2.2++x.1.2.2)) t:=MV.key (mvc.mono (s3.trans (s4.trans (s5.trans (aht.trans agD))))) ((s4.trans (s5.trans (aht.trans agD))) _ _ n3);refine q r4 (ms.take a'++[((x.1.1,x.1.2.1,(x.1.2.2++x.1.2.2)),t)]++ms.drop (a'+1)) _ e7 (by rw[ait,lN,lO];unfold cu;rw[ajf,ajf,arF,aoC];rfl) (fun y hy=>?_) (by rw[aiZ,aiZ,ajC,akB];show _+1+_<=_;omega) fun y hy=>?_
   .rcases ai1.mp hy with hy|hy
    .rcases ai1.mp hy with hy|hy
     .exact aY.mono (hms y (aj1 hy)) e7
     .rw[ai5.mp hy];exact pkt
    .exact aY.mono (hms y (akj hy)) e7
   .rcases ai1.mp hy with hy|hy
    .rcases ai1.mp hy with hy|hy
     .exact ajt (h5 y (aj1 hy)) (by decide)
     .rw[ai5.mp hy];exact(by show(x.1.2.2++x.1.2.2).length<=20;rw[aiZ];omega)
    .exact ajt (h5 y (akj hy)) (by decide)
 refine c7 _ rfl rfl (az _ rfl (nH (fun c3=>?_) fun c3=>?_))
 .refine az _ rfl (c7 _ rfl rfl (bU l _ rfl (bk.of hl) (fun r hr'=>?_)));obtain⟨s1,n1⟩:=au (o:=.lst (cu ms).reverse) hr';exact q r ms.reverse _ s1 (by rw[n1];unfold cu;rw[List.map_reverse]) (fun y hy=>aY.mono (hms y (alI.mp hy)) s1) (by rw[aro];omega) fun y hy=>ajt (h5 y (alI.mp hy)) (by decide)
 .exact⟨_,rfl,q l ms H (aC.refl _) hl hms (by omega) fun y hy=>ajt (h5 y hy) (by decide)⟩
theorem jg:aU ["_law_way","_law_web_here","_law_kind","_law_bound","_law_some","_law_kept","_law_found","e"] ["_law_way","_law_web_here","_law_kind","_law_bound","_law_some"] (aB u0):=⟨rfl,rfl,rfl,by decide+kernel,rfl,by decide+kernel,by decide+kernel⟩
theorem N7 (T:Txt K mg A D){k:Nat}(Aj:aP P w K mg base (cI P w) k A.vZ D.vZ ["web","kind","bound"] (Uj A.er))(Ak:aP P w K mg base (cI P w) k A.shows D.shows ["web","kind","bound","some"] (LC A.er))(lJ:aP P w K mg base (cI P w) k A.d9 D.d9 ["_law_kept"] (acK A.er)):aP P w K mg base (cI P w) (k+1) A.jE D.jE ["_law_way","_law_web_here","_law_kind","_law_bound","_law_some"] (Mi A.er):=by
 refine T.gD.pH jg (fun vs H Q E h=>?_) (fun cdv A' outer s H vs Q E hr h=>?_)
 .obtain⟨_,_,_,_,_,_,_,_,rfl,_⟩:=h;rfl
 obtain⟨way,v,n,ts,kd,bd,l,ms,rfl,dv,win,n5,k1,k2,hl,hms,hlen,h20,ah5,qk,qq⟩:=h;have ask:Ask A.er H v n ts kd bd (Told A.er H Q):=⟨dv,win,n5,k1,k2,fun h H' e=>⟨"web",_,e,rfl,.JG,fun H'' e'=>ah5 h H'' (e.trans e')⟩,fun h z H' e=>⟨"kind",_,e,rfl,.kind,fun H'' e'=>qk h z H'' (e.trans e')⟩⟩;refine⟨_,(ao (aR (i:=5) jg.nd rfl (ajp rfl) o8) (ao (aR (i:=6) jg.nd rfl (ajp rfl) o8) (ao (adl O7 rfl rfl T.QK T.u5 rfl jg.nd (i:=7) rfl rfl (fun xe pn E aha=>(aq (aR (i:=6) jg.nd rfl (ajp rfl) (dU (aJ dW (pv 0) ak (aQ _)) (aD Aj hr rfl T.ab0 T.v8.kp T.ab1 .nil aha (aa (pv 1) (aa (pv 2) (aa (pv 3) aj)))) (aD Ak hr rfl T.ab2 T.v9.kp T.ab3 .nil aha (aa (pv 1) (aa (pv 2) (aa (pv 3) (aa (pv 4) aj))))))))) (fun v=>(aq (aR (i:=5) jg.nd rfl (ajp rfl) (pv 7))))) (aq (aF (dU (wY (Xj (pv 5))) (pv 6) (aD lJ hr rfl T.Ez T.iu.kp T.EY .nil aL (aa (pv 5) aj)))))))),?_⟩;dsimp only[ou,eU];refine⟨Told A.er H Q,?_,?_⟩
 .refine⟨_,rfl,rfl,_,rfl,?_⟩;by_cases c0:way=0
  .refine oG (congrArg V.int c0) ⟨_,rfl,_,rfl,_,rfl,v,n,ts,kd,bd,rfl,ask,fun hw hk h0 h1=>?_⟩;obtain⟨q1,q2,q3⟩:=(qq hw hk h0 h1).1 c0;exact⟨fun z l H1 e1 hl=>⟨_,rfl,_,rfl,oG rfl ⟨_,rfl,q1 z l H1 e1 hl⟩⟩,fun z z2 H1 e1=>⟨_,rfl,_,rfl,oG rfl ⟨_,rfl,q2 z z2 H1 e1⟩⟩,fun z z2 l H1 e1 hl=>⟨_,rfl,_,rfl,oG rfl ⟨_,rfl,q3 z z2 l H1 e1 hl⟩⟩⟩
  refine pU (fun z=>c0 (V.int.inj z)) ⟨_,rfl,_,rfl,_,rfl,_,rfl,v,n,ts,kd,bd,l,ms,rfl,ask,hl,hms,hlen,h20,fun hw hk h0 h1 H1 e1=>?_⟩;exact⟨_,rfl,_,rfl,oG rfl ⟨_,rfl,(qq hw hk h0 h1).2 c0 H1 e1⟩⟩
 .rintro C m H1 ⟨y,C',e1,hC,hw,q⟩;cases hC;obtain⟨f1,f2,_,_⟩:=Hn T hw;refine⟨⟨_,_,f1⟩,f2,fun a H2 e2 ha=>?_⟩;exact⟨_,rfl,_,rfl,_,rfl,pU (fun z=>nomatch z) ⟨_,rfl,_,rfl,.inr ⟨a,C,y,rfl,ha,hw,fun H' e'=>q H' (e2.trans e')⟩⟩⟩
def N8 (K:aiU):Sp:=fun vs H Q _=>∃(a:aiM) (ns:List Int),vs=[.ref a]∧bk K H a (ns.map .int)∧ns.length<=63∧∀H',Q (.bl true) H'
theorem afe {p1 p2 p3:V}{i:Int}{Z:V->Prop}(h0:0<=i)(h7:i<3)(z1:Z p1)(z2:Z p2)(z3:Z p3):∃v,Ek [p1,p2,p3] i=some v∧Z v:=by
 have:i=0∨i=1∨i=2:=by lia
 rcases this with rfl|rfl|rfl
 .exact⟨p1,rfl,z1⟩
 .exact⟨p2,rfl,z2⟩
 .exact⟨p3,rfl,z3⟩
theorem afg {p1 p2 p3 p4:V}{i:Int}{Z:V->Prop}(h0:0<=i)(h7:i<4)(z1:Z p1)(z2:Z p2)(z3:Z p3)(z4:Z p4):∃v,Ek [p1,p2,p3,p4] i=some v∧Z v:=by
 have:i=0∨i=1∨i=2∨i=3:=by lia
 rcases this with rfl|rfl|rfl|rfl
 .exact⟨p1,rfl,z1⟩
 .exact⟨p2,rfl,z2⟩
 .exact⟨p3,rfl,z3⟩
 .exact⟨p4,rfl,z4⟩
theorem af7:bN 9 []=false:=by decide
theorem yP:an' (.list [.str "kind",.str "kind"])=true:=by decide+kernel
theorem Ef:("gaps":Str).length<=1000∧∀c∈("gaps":Str).cps.toList,c<16^8:=⟨by decide+kernel,by decide+kernel⟩
theorem Eg:an' (.list [.str "web",.str "web"])=true:=by decide+kernel
theorem afh {p1 p2 p3 p4 p5:V}{i:Int}{Z:V->Prop}(h0:0<=i)(h7:i<5)(z1:Z p1)(z2:Z p2)(z3:Z p3)(z4:Z p4)(z5:Z p5):∃v,Ek [p1,p2,p3,p4,p5] i=some v∧Z v:=by
 have:i=0∨i=1∨i=2∨i=3∨i=4:=by lia
 rcases this with rfl|rfl|rfl|rfl|rfl
 .exact⟨p1,rfl,z1⟩
 .exact⟨p2,rfl,z2⟩
 .exact⟨p3,rfl,z3⟩
 .exact⟨p4,rfl,z4⟩
 .exact⟨p5,rfl,z5⟩
theorem mD:aU ["_law_script","_law_web_here","_law_kind","_law_fewest","_law_bound","_law_found","_law_due_here","_law_whole","_law_some"] ["_law_script"] (aB Z7):=⟨rfl,rfl,rfl,by decide+kernel,rfl,by decide+kernel,by decide+kernel⟩
theorem aaM:akD (["_law_kind","_law_web_here","_law_order"]:List Str):=by decide+kernel
theorem aaN:akD (["_law_kind","_law_web_here","_law_way"]:List Str):=by decide+kernel
theorem aaO:akD (["_law_way"]:List Str):=by decide+kernel
theorem aeg (T:Txt K mg A D){k:Nat}(dD:aP P w K mg base (cI P w) k A.jz D.jz ["_law_script","_law_k"] (Yv K))(t6:aP P w K mg base (cI P w) k A.mQ D.mQ ["_law_script","_law_k","_law_places"] (Yy K))(jY:aP P w K mg base (cI P w) k A.dq D.dq ["_law_web_here","_law_kind","_law_order"] Ti)(t7:aP P w K mg base (cI P w) k A.mR D.mR ["_law_many"] YG)(bc:aP P w K mg base (cI P w) k A.du D.du ["_law_many"] BK)(o7:aP P w K mg base (cI P w) k A.gP D.gP ["_law_web_here","_law_kind","_law_bound"] ZZ)(t8:aP P w K mg base (cI P w) k A.mV D.mV ["_law_web_here","_law_kind","_law_bound","_law_some"] Um)(rE:aP P w K mg base (cI P w) k A.jD D.jD ["_law_some","_law_number","_law_whole"] Un)(iZ:aP P w K mg base (cI P w) k A.jE D.jE ["_law_way","_law_web_here","_law_kind","_law_bound","_law_some"] (Mi A.er)):aP P w K mg base (cI P w) (k+1) A.law D.law ["_law_script"] (N8 K):=by
 refine T.Ms.pH mD (fun vs H Q E h=>?_) (fun cdv A' outer s H vs Q E hr h=>?_)
 .obtain⟨_,_,rfl,_⟩:=h;rfl
 obtain⟨a,ns,rfl,hS,h63,q⟩:=h;refine ad5 (fun σ H'=>∃wa N ts kd M B fv dv,σ=[some (.ref a),some (.ref wa),some (.str kd),some (.int M),some (.int B),some fv,some dv,none,none]∧aC H H'∧LS H' wa N ts kd M∧0<=B∧B<=100001∧(fv=.non∨∃l ms,fv=.ref l∧H' l=some (.lst (cu ms))∧sE H' ms∧ms.length<=200∧∀x∈ms,x.1.2.2.length<=5)) ?post fun aii hR aiw=>?_;case post=>
  refine ad6 (fun σ H'=>∃wa N ts kd M B agT v6 agC l ms,σ=[some (.ref a),some (.ref wa),some (.str kd),some (.int M),some (.int B),agT,v6,agC,some (.ref l)]∧aC H H'∧LS H' wa N ts kd M∧0<=B∧B<=100001∧H' l=some (.lst (cu ms))∧sE H' ms∧ms.length<=300∧∀x∈ms,x.1.2.2.length<=20) ?post2 fun aii hR aiw=>⟨_,(ao (aR (i:=7) mD.nd rfl (ajp rfl) (bL (aa (aG gZ (aD bc hr rfl T.fY T.cX.kp T.fZ .nil aL (aa (bA bG (pv 1) ak (fun _ _=>rfl)) aj)) ak) (aa (dU (aJ dW (pv 2) b7 (aQ _)) ak (bL aj)) aj)))) (ao (aR (i:=8) mD.nd rfl (ajp rfl) (aD rE hr rfl T.QH T.nY.kp T.QJ .nil aL (aa (adw (pv 5) (uA (bQ aj))) (aa (aD dD hr rfl T.kI T.fD.kp T.kJ .nil aL (aa (pv 0) (aa ak aj))) (aa (pv 7) aj))))) hR)),?_⟩;case post2=>
   refine ad7 (fun σ H'=>∃wa N ts kd M v3 v4 agT v6 agC agR,σ=[some (.ref a),some (.ref wa),some (.str kd),v3,v4,agT,v6,agC,agR]∧LS H' wa N ts kd M) ?afi fun aii hR aiw=>⟨_,(ao (aR (i:=4) mD.nd rfl (ajp rfl) (aK (w5 rfl) rfl T.Dm Br (aa ak (aa (aG eQ (pv 4) (bA dX (bQ (aa ak (aa ak (aa ak (aa ak (aa (rM qz ak) aj)))))) (aG fu (aD dD hr rfl T.kI T.fD.kp T.kJ .nil aL (aa (pv 0) (aa ak aj))) ak) (fun _ _=>rfl))) aj)))) (ao (aR (i:=5) mD.nd rfl (ajp rfl) (aD iZ hr rfl T.q9 T.gD.kp T.rm .nil aL (aa ak (aa (pv 1) (aa (pv 2) (aa (pv 4) (aa (tC Hy rfl T.Dl HW (aa (pv 8) aj)) aj))))))) (ao (bF (PW.pt (yR (f9 (fc (aK cO rfl T.bf bj (aa (pv 5) (aa (iz (v:=.ty "bool") rfl T.I9 Te rfl) aj))))) (yR (aJ (Pa hr.units) (pv 5) (aD t8 hr rfl T.Wb T.qj.kp T.Wc .nil aL (aa (pv 1) (aa (pv 2) (aa (pv 4) (aa (pv 8) aj))))) (aQ _)) (uz (PW.pt (Og (Ba (pv 5) (fun _=>rfl)) (Hs (aJ Av (pv 3) (pv 4) (aQ _))))))))) (aq (aF gY)) aM) hR))),?_⟩;case afi=>
    refine⟨_,(ao (bF (aJ (Pa hr.units) (nA rfl (lM (N:=["_law_kind","_law_web_here","_law_way"]) (js:=[some 2,some 1,none]) rfl rfl (by decide+kernel) (by decide+kernel) rfl (aiE.mpr ⟨rfl,(aiE.mpr ⟨rfl,fun _ h=>nomatch h⟩)⟩) (aiE.mpr ⟨(fun h=>nomatch h),(aiE.mpr ⟨(fun h=>nomatch h),(aiE.mpr ⟨(fun h=>nomatch h),(aiE.mpr ⟨(fun _=>rfl),(aiE.mpr ⟨(fun _=>rfl),fun _ h=>nomatch h⟩)⟩)⟩)⟩)⟩) (aiE.mpr ⟨(fun j h=>(by cases h;exact⟨rfl,rfl,rfl⟩)),(aiE.mpr ⟨(fun j h=>(by cases h;exact⟨rfl,rfl,rfl⟩)),(aiE.mpr ⟨(fun j h=>nomatch h),fun _ h=>nomatch h⟩)⟩)⟩) rfl) (fj rfl T.gh (aa ak aj)) (fun _ _ _ _=>(aH (i:=2) aaN rfl (ajp rfl) (hf:=akk rfl))) (fun _ _ _ _=>iD) (fun _ _ _ _=>(aD iZ hr rfl T.q9 T.gD.kp T.rm .nil aL (aa (pv 2) (aa (pv 1) (aa (pv 0) (aa (rM qz ak) (aa (bQ aj) aj)))))))) (aG XK (bQ (aa b7 aj)) ak) (aQ _)) (aq (aF gY)) aM) (aq (aF (mL (HR hr.units) (nA rfl (HX (N:=["_law_way"]) (js:=[none]) rfl rfl (by decide+kernel) (by decide+kernel) (by decide+kernel) rfl (by decide) rfl) (fj rfl T.gh (aa ak aj)) (fun _ _ _ _=>(aH (i:=0) aaO rfl (ajp rfl) (hf:=akk rfl))) (fun _ _ _ _=>iD) (fun _ _ _ _=>(aD iZ hr rfl T.q9 T.gD.kp T.rm .nil aL (aa (pv 0) (aa (bL (aa ak (aa (bQ aj) aj))) (aa b7 (aa ak (aa (bQ aj) aj)))))))) (aG XK (bQ (aa b7 aj)) ak) (aQ _))))),?_⟩;dsimp only[ou,eU];rintro σ H1 ⟨wa,N,ts,kd,M,v3,v4,agT,v6,agC,agR,rfl,ls⟩;obtain⟨kd1,kd2⟩:=uL ls.kk;have hn5:(N:Int)<=5:=by have:=ls.n5;lia
    have nw:∀{Z:Prop},bN (N:Int) ts=false->Z:=fun z=>by rw[ls.JG]at z;cases z
    refine aaC 2 rfl (by decide) (by decide) ?_;refine rF (fun σ=>∃x,σ=[some (.str kd),some (.ref wa),x]) 2 (fun _=>.str "kind") ⟨none,rfl⟩ (fun i ahq hi e3=>hi) (fun ahq e3=>aiN _) (by decide) ?_ ?_
    .rintro agA j x lK H3' H4' agN hj e3' hD ⟨x1,rfl⟩ ⟨rfl,rfl⟩ fin;refine az _ rfl (az _ rfl (az _ rfl (c7 _ rfl (by show 0<=aiV;decide) (fun ev hev=>?_))));obtain⟨s5,n5⟩:=au (o:=.lst []) hev;exact Us _ (.ref wa) N ts kd (-1) ev [] rfl (ls.dat.mono (e3'.trans s5)) ls.win (fun _=>hn5) kd1 kd2 n5 (fun x hx=>ai8 hx aiX) (by decide) (fun x hx=>ai8 hx aiX) nw (fun _ _ H' e'=>fin _ _ _ ⟨_,rfl⟩ (s5.trans e') .str) (fun _ _ h0=>ai8 h0 (by decide))
    intro D5 ys5 H25 hD5 e25 af8 dy5;refine⟨(by show 1<=aiV;decide),fun w1 hw1=>⟨_,_,_,rfl,rfl,aA,by decide,by decide,(by show 1*2<=aiV;decide),fun w2 hw2=>?_⟩⟩;have x1:=bH (o:=.lst [V.str "kind"]) hw1;have x2:=bH (o:=.lst (akc (2:Int).toNat [V.str "kind"]).flatten) hw2;refine FQ (.list [.str "kind",.str "kind"]) (.list [.str "kind",.str "kind"]) ((Dat.list (x2 _ _ (x1 _ _ af8)) (dy5.mono (jc.trans (x1.trans x2)))).rep) ((Dat.list aA (.cons .str (.cons .str .nil))).rep) yP yP (by decide+kernel) (az _ rfl (lQ yP ?_));have af9:j0 9 []:=⟨by unfold small;decide,by decide,fun t h=>ai8 h aiX⟩;have nb9:∀{Z:Prop},bN 9 []=true->Z:=fun z=>by rw[af7]at z;cases z
    refine aaC 2 rfl (by decide) (by decide) ?_;refine rF (fun σ=>∃x,σ=[x]) 2 (fun _=>.str "web") ⟨none,rfl⟩ (fun i ahq hi e3=>hi) (fun ahq e3=>aiN _) (by decide) ?_ ?_
    .rintro agA j x lK H3' H4' agN hj e3' hD ⟨x1,rfl⟩ ⟨rfl,rfl⟩ fin;refine c7 _ rfl (by show 0<=aiV;decide) (fun r1 hr1=>⟨(by show 2<=aiV;decide),fun r2 hr2=>⟨(by show 0<=aiV;decide),fun ev hev=>?_⟩⟩);obtain⟨t1,m1⟩:=au (o:=.lst []) hr1;obtain⟨t2,m2⟩:=au (o:=.tup [V.int 9,V.ref r1]) hr2;obtain⟨s5,n5⟩:=au (o:=.lst []) hev;exact Us _ (.ref r2) 9 [] ("gaps") 1 ev [] rfl ((Ph m2 (t2 _ _ m1) .nil).mono s5) af9 nb9 Ef.1 Ef.2 n5 (fun x hx=>ai8 hx aiX) (by decide) (fun x hx=>ai8 hx aiX) (fun _ H' e'=>fin _ _ _ ⟨_,rfl⟩ ((t1.trans t2).trans (s5.trans e')) .str) nb9 nb9
    .intro D6 ys6 H26 hD6 e26 hy6 dy6;refine⟨(by show 1<=aiV;decide),fun w3 hw3=>⟨_,_,_,rfl,rfl,aA,by decide,by decide,(by show 1*2<=aiV;decide),fun w4 hw4=>?_⟩⟩;have x3:=bH (o:=.lst [V.str "web"]) hw3;have x4:=bH (o:=.lst (akc (2:Int).toNat [V.str "web"]).flatten) hw4;refine FQ (.list [.str "web",.str "web"]) (.list [.str "web",.str "web"]) ((Dat.list (x4 _ _ (x3 _ _ hy6)) (dy6.mono (jc.trans (x3.trans x4)))).rep) ((Dat.list aA (.cons .str (.cons .str .nil))).rep) Eg Eg (by decide+kernel) ?_;rw[H3 Eg];exact q _
   rintro σ H1 ⟨wa,N,ts,kd,M,B,agT,v6,agC,l,ms,rfl,e1,ls,hB0,hB1,hl,hms,hlen,h20⟩;obtain⟨kd1,kd2⟩:=uL ls.kk;have hn5:(N:Int)<=5:=by have:=ls.n5;lia
   have nw:∀{Z:Prop},bN (N:Int) ts=false->Z:=fun z=>by rw[ls.JG]at z;cases z
   refine az _ rfl (c7 _ rfl (by show 5<=aiV;decide) (fun q2 hq2=>?_));obtain⟨s4,n4⟩:=au (o:=.lst [V.int 0,V.int 0,V.int 0,V.int 1,V.int (-1)]) hq2;obtain⟨dv,hdv,dd,rfl,hdd⟩:=afh (i:=uH ns 93 %5) (p1:=.int 0) (p2:=.int 0) (p3:=.int 0) (p4:=.int 1) (p5:=.int (-1)) (Z:=fun v=>∃d,v=.int d∧d<=1) (akZ _ (by decide)) (akW _ (by decide)) ⟨_,rfl,by decide⟩ ⟨_,rfl,by decide⟩ ⟨_,rfl,by decide⟩ ⟨_,rfl,by decide⟩ ⟨_,rfl,by decide⟩;refine az _ rfl (wJ a ns 93 rfl ((e1.trans s4).seq hS) (iV _ _ rfl rfl (by show(0:Int)<5;decide) (mj q2 _ _ _ rfl rfl (bk.of n4) hdv (bU _ _ rfl rfl (mC _ _ rfl ?_)))));dsimp only;have hC0:0<=(if B+dd>0 then B+dd else 0):=by split<;>lia
   have hC1:(if B+dd>0 then B+dd else 0)<=100002:=by split<;>lia
   generalize(if B+dd>0 then B+dd else 0)=C at hC0 hC1 ⊢;clear n4;generalize upd H1 q2 (HO.lst [V.int 0,V.int 0,V.int 0,V.int 1,V.int (-1)])=aiv at s4 ⊢;have ls4:=ls.mono s4;have hl4:=s4 _ _ hl;refine az _ rfl (az _ rfl (az _ rfl (az _ rfl (bU l _ rfl (.inl (bk.of hl4)) (fun cl hcl=>?_)))));obtain⟨s5,n5⟩:=au (o:=.lst (cu ms)) hcl;have ls5:=ls4.mono s5;refine Us 1 (.ref wa) N ts kd C cl ms rfl ls5.dat ls.win (fun _=>hn5) kd1 kd2 n5 (hms.mono (s4.trans s5)) hlen h20 nw (fun _ z=>ai8 ⟨ls.kk,hC0,by lia⟩ z) (fun _ _ _ _=>⟨fun z=>ai8 z (by decide),fun _ ag1 e6=>?_⟩);rw[ai4];have ls6:=ls5.mono e6;have e16:=s4.trans (s5.trans e6);generalize hb:(decide (C=0)||fX ⟨N,ts,kd,C-1⟩ (ms.map (·.1)))=b;have snd:b=true->¬M<C:=fun z y=>by have m0:=ls.m0;rw[←hb,aiO (show¬C=0 by lia),alo]at z;have ahA:=ls6.ad8 (b:=C-1) (by lia);have:=Qq ahA.ahf z;rw[xM ahA.ahf]at this;exact ls.good.mp this (by show M<=C-1;lia)
   refine az _ rfl (W8 _ _ _ _ _ rfl rfl (.bl b) T.sZ (az _ rfl (cN ?_)));refine az _ rfl (az _ rfl (az _ rfl (az _ rfl (az _ rfl ⟨(.ref wa),⟨N,ts,kd,C-1⟩,C,l,ms,rfl,rfl,(fun h=>ls6.ad8 (by lia)),((s5.trans e6) _ _ hl4),(hms.mono e16),hlen,h20,hC0,(fun ahe e8=>?_)⟩))));rw[hb];refine FQ (.bool b) (.bool b) Dat.bool.rep Dat.bool.rep rfl rfl (by show min 0 0<=60;decide) (az _ rfl (lQ rfl ?_));refine az _ rfl (az b rfl ?_);cases hbb:b with
   |false=>exact cN (cN (aiw _ _ ⟨wa,N,ts,kd,M,_,_,_,_,_,_,rfl,ls6.mono e8⟩))
   |true=>exact dY ⟨_,rfl,_,rfl,_,_,rfl,rfl,_,rfl,pU (snd hbb) (aiw _ _ ⟨wa,N,ts,kd,M,_,_,_,_,_,_,rfl,ls6.mono e8⟩)⟩
  rintro σ H1 ⟨wa,N,ts,kd,M,B,fv,dv,rfl,e1,ls,hB0,hB1,hfv⟩;obtain⟨wa',tl,xs,ew,hwa,htl,dl⟩:=jr ls.dat;cases ew;refine az _ rfl (mj _ _ _ _ rfl rfl (cD.of hwa) rfl (c7 N rfl ls.n5 (fun H2 e2=>⟨_,_,rfl,rfl,_,rfl,rfl,_,rfl,CT (W:=⟨N,ts,kd,0⟩) fun mv ahq e3 hm=>⟨(by show 2<=aiV;decide),fun ah5 hqw=>?_⟩⟩)));obtain⟨s4,n4⟩:=au (o:=.tup [V.int (((2^N:Nat):Int)-1),mv]) hqw;have pkw:aY (flag ⟨N,ts,kd,0⟩) (upd ahq ah5 (.tup [V.int (((2^N:Nat):Int)-1),mv])) (((2^N:Nat):Int)-1,(cj ⟨N,ts,kd,0⟩).2) ah5:=MV.key (hm.mono s4) n4;have bl5:((cj ⟨N,ts,kd,0⟩).2).length<=5:=by
   unfold cj;split
   .decide
   .decide
  have e4:=e2.trans (e3.trans s4);rcases hfv with rfl|⟨l,ms,rfl,hl,hms,hlen,h5⟩
  .refine az _ rfl (az false rfl (cN ⟨(by show 0<=aiV;decide),fun el hel=>?_⟩));obtain⟨s5,n5⟩:=au (o:=.lst []) hel;exact az _ rfl (wJ a ns 92 rfl ((e1.trans (e4.trans s5)).seq hS) (az _ rfl ⟨el,ah5,[],(uH ns 92),(flag ⟨N,ts,kd,0⟩),(((2^N:Nat):Int)-1,(cj ⟨N,ts,kd,0⟩).2),rfl,n5,(fun x hx=>ai8 hx aiX),(by decide),(fun x hx=>ai8 hx aiX),(aY.mono pkw s5),bl5,(uR _ _),(fun l' yU ahC e7 hl' aaP hlen' aaQ=>aiw _ _ ⟨wa,N,ts,kd,M,B,_,_,_,l',yU,rfl,e1.trans ((e4.trans s5).trans e7),ls.mono ((e4.trans s5).trans e7),hB0,hB1,hl',aaP,hlen',aaQ⟩)⟩))
  refine az _ rfl (az _ (.inl ⟨_,bk.of (e4 _ _ hl),rfl⟩) ?_);cases ms with
  |nil=>refine cN ⟨(by show 0<=aiV;decide),fun el hel=>?_⟩;obtain⟨s5,n5⟩:=au (o:=.lst []) hel;exact az _ rfl (wJ a ns 92 rfl ((e1.trans (e4.trans s5)).seq hS) (az _ rfl ⟨el,ah5,[],(uH ns 92),(flag ⟨N,ts,kd,0⟩),(((2^N:Nat):Int)-1,(cj ⟨N,ts,kd,0⟩).2),rfl,n5,(fun x hx=>ai8 hx aiX),(by decide),(fun x hx=>ai8 hx aiX),(aY.mono pkw s5),bl5,(uR _ _),(fun l' yU ahC e7 hl' aaP hlen' aaQ=>aiw _ _ ⟨wa,N,ts,kd,M,B,_,_,_,l',yU,rfl,e1.trans ((e4.trans s5).trans e7),ls.mono ((e4.trans s5).trans e7),hB0,hB1,hl',aaP,hlen',aaQ⟩)⟩))
  |cons m ms=>refine dY ?_;exact az _ rfl (wJ a ns 92 rfl ((e1.trans (e4)).seq hS) (az _ rfl ⟨l,ah5,(m::ms),(uH ns 92),(flag ⟨N,ts,kd,0⟩),(((2^N:Nat):Int)-1,(cj ⟨N,ts,kd,0⟩).2),rfl,(e4 _ _ hl),(hms.mono e4),hlen,h5,pkw,bl5,(uR _ _),(fun l' yU ahC e7 hl' aaP hlen' aaQ=>aiw _ _ ⟨wa,N,ts,kd,M,B,_,_,_,l',yU,rfl,e1.trans ((e4).trans e7),ls.mono ((e4).trans e7),hB0,hB1,hl',aaP,hlen',aaQ⟩)⟩))
 refine⟨_,(ao (aR (i:=1) mD.nd rfl (akk rfl) (aD t6 hr rfl T.V5 T.qe.kp T.V6 .nil aL (aa (pv 0) (aa ak (aa ak aj))))) (ao (aR (i:=2) mD.nd rfl (akk rfl) (bA dX (bQ (aa b7 (aa b7 (aa b7 aj)))) (aG fu (aD dD hr rfl T.kI T.fD.kp T.kJ .nil aL (aa (pv 0) (aa ak aj))) ak) (fun _ _=>rfl))) (ao (aR (i:=3) mD.nd rfl (ajp rfl) (aK (Vi rfl) rfl T.aai adv (aa (nA rfl (lM (N:=["_law_kind","_law_web_here","_law_order"]) (js:=[some 2,some 1,none]) rfl rfl (by decide+kernel) (by decide+kernel) rfl (aiE.mpr ⟨rfl,(aiE.mpr ⟨rfl,fun _ h=>nomatch h⟩)⟩) (aiE.mpr ⟨(fun h=>nomatch h),(aiE.mpr ⟨(fun h=>nomatch h),(aiE.mpr ⟨(fun h=>nomatch h),(aiE.mpr ⟨(fun _=>rfl),(aiE.mpr ⟨(fun _=>rfl),fun _ h=>nomatch h⟩)⟩)⟩)⟩)⟩) (aiE.mpr ⟨(fun j h=>(by cases h;exact⟨rfl,rfl,rfl⟩)),(aiE.mpr ⟨(fun j h=>(by cases h;exact⟨rfl,rfl,rfl⟩)),(aiE.mpr ⟨(fun j h=>nomatch h),fun _ h=>nomatch h⟩)⟩)⟩) rfl) (cT (aD t7 hr rfl T.V7 T.qg.kp T.V8 .nil aL (aa (bA bG (pv 1) ak (fun _ _=>rfl)) aj))) (fun _ _ _ _=>(aH (i:=2) aaM rfl (ajp rfl) (hf:=akk rfl))) (fun _ _ _ _=>iD) (fun _ _ _ _=>(aD jY hr rfl T.Df T.gC.kp T.Dg .nil aL (aa (pv 1) (aa (pv 0) (aa (pv 2) aj)))))) aj))) (ao (aR (i:=4) mD.nd rfl (ajp rfl) (aK (w5 rfl) rfl T.Dm Br (aa ak (aa (aG eQ (pv 3) (bA dX (bQ (aa ak (aa ak (aa ak (aa (rM qz ak) aj))))) (aG fu (aD dD hr rfl T.kI T.fD.kp T.kJ .nil aL (aa (pv 0) (aa ak aj))) ak) (fun _ _=>rfl))) aj)))) (ao (aR (i:=5) mD.nd rfl (ajp rfl) (aD iZ hr rfl T.q9 T.gD.kp T.rm .nil aL (aa ak (aa (pv 1) (aa (pv 2) (aa (pv 4) (aa (bQ aj) aj))))))) (ao (aR (i:=6) mD.nd rfl (ajp rfl) (dU (aJ Av (pv 3) (pv 4) (aQ _)) o8 (bQ aj))) (ao (bF (PW.pt (Og (aJ (HR hr.units) (pv 6) (bQ aj) (aQ _)) (Hs (aJ Sy (pv 4) ak (aQ _))))) (aq (aR (i:=6) mD.nd rfl (ajp rfl) (aD o7 hr rfl T.Mq T.lW.kp T.Mr .nil aL (aa (pv 1) (aa (pv 2) (aa (aG gZ (pv 4) ak) aj)))))) aM) (ao (bF (aJ (Pa hr.units) (pv 5) (pv 6) (aQ _)) (aq (aF gY)) aM) hR)))))))),?_⟩;dsimp only[ou,eU];refine az _ rfl (mj a ns 0 5 rfl hS (by decide) (by decide) (fun wv H1 n ts e1 agO hw win hn5 acy=>?_));obtain⟨wa,tl,xs,rfl,hwa,htl,dl⟩:=jr agO;obtain⟨hn0,_,htt⟩:=gq hw;obtain⟨N,rfl⟩:∃N:Nat,n=N:=⟨n.toNat,by lia⟩;have hN5:N<=5:=by lia
 have htk:=rU hw;refine⟨(by show 3<=aiV;decide),fun q1 hq1=>?_⟩;obtain⟨s1,n1⟩:=au (o:=.lst [V.str "longest",V.str "most",V.str "total"]) hq1;obtain⟨kv,hkv,kd,rfl,hk⟩:=afe (i:=uH ns 90 %3) (p1:=.str "longest") (p2:=.str "most") (p3:=.str "total") (Z:=fun v=>∃kd,v=.str kd∧dN kd) (akZ _ (by decide)) (akW _ (by decide)) ⟨_,rfl,.inl rfl⟩ ⟨_,rfl,.inr (.inl rfl)⟩ ⟨_,rfl,.inr (.inr rfl)⟩;obtain⟨kd1,kd2⟩:=uL hk;refine az _ rfl (wJ a ns 90 rfl ((e1.trans s1).seq hS) (iV _ _ rfl rfl (by show(0:Int)<3;decide) (mj q1 _ _ _ rfl rfl (bk.of n1) hkv ?_)));refine az _ rfl (mj _ _ _ _ rfl rfl (cD.of (s1 _ _ hwa)) rfl (c7 N rfl hN5 (fun av H2 e2 dav=>?_)));obtain⟨al,axs,rfl,hal,dax⟩:=dav.eY;have af':axs.length=(cP N N).length:=by rw[←dax.length,aiJ]
 have hall:=H7 hN5 N;have h5:5^N<=3125:=show 5^N<=5^5 from aj5 (by decide) hN5
 have Xg:=s1.trans e2;refine c7 al rfl ⟨_,bk.of hal⟩ ?_;refine rF (fun σ=>∃x,σ=[some (.str kd),some (.ref wa),x]) axs.length (fun i=>.int (ju kd N ((cP N N).getD i []) ts)) ⟨none,rfl⟩ ?_ ?_ (by rw[aje];lia) ?_ ?_
 .intro i ahq hi e3;exact mC axs (axs[i]) (bk.of (e3 _ _ hal)) (aiG hi)
 .intro ahq e3;exact⟨axs,bk.of (e3 _ _ hal),aiN _⟩
 .rintro agA i x lK ahq aiv agN hi e3 hD ⟨x1,rfl⟩ ⟨rfl,hx⟩ fin;have hx2:=hx _ (bk.of (e3 _ _ hal));obtain⟨o,ho⟩:∃o,(cP N N)[i]?=some o:=⟨_,aiG (by lia)⟩;obtain⟨y,hy,dy⟩:=(dax.mono e3).get (d:=Ep o) (by rw[ai6,ho];rfl);rw[hx2]at hy;cases hy;obtain⟨ol,rfl,hol⟩:=YH dy;have hgd:(cP N N).getD i []=o:=by rw[ajb,ho];rfl
  refine az _ rfl (az _ rfl (az _ rfl ⟨(.ref wa),kd,ol,N,ts,o,rfl,(agO.mono (Xg.trans e3)),hol,hw,win,acy,((jd o).mp (ajo ho)),(fun z H' e=>fin _ _ _ ⟨_,rfl⟩ e ?_),(fun z H' e=>fin _ _ _ ⟨_,rfl⟩ e ?_),(fun z1 z2 H' e=>fin _ _ _ ⟨_,rfl⟩ e ?_)⟩))
  .rw[hgd];unfold ju;rw[aiP z];exact .int
  .rw[hgd];unfold ju;rw[aiL (by rw[z];decide),aiP z];exact .int
  .rw[hgd];unfold ju;rw[aiL z1,aiL z2];exact .int
 intro D1 ys1 ahq hD1 e3 hy1 R0;have z1:(aiY axs.length).map (fun i=>amU (ju kd N ((cP N N).getD i []) ts))=((cP N N).map fun os=>ju kd N os ts).map .int:=by rw[af',lD (fun os=>amU (ju kd N os ts)) [] (cP N N),ajG];rfl
 rw[z1]at R0;rw[R0.ints_of]at hy1;obtain⟨aga,afj⟩:∃os,dG N os=true:=let⟨os,h,_⟩:=Px hN5 htk;⟨os,h⟩
 have agb:cP N N≠[]:=fun z=>by have:=(jd aga).mpr afj;rw[z]at this;cases this
 have hl0:0<(cP N N).length:=amA.mpr agb;have e13:=Xg.trans e3;have eH3:=e1.trans e13;generalize hms:(cP N N).map (fun os=>ju kd N os ts)=ms at hy1;have hml:ms.length=(cP N N).length:=by rw[←hms,aiJ]
 have agc:∀m∈ms,m<=100000:=fun m hm=>by rw[←hms]at hm;obtain⟨os,h1,rfl⟩:=ai'.mp hm;exact abr hN5 ((jd os).mp h1) htk acy
 have agd:ms≠[]:=fun z=>by rw[z]at hml;simp at hml;lia
 refine iV D1 ms rfl (bk.of hy1) agd (fun M hM=>?_);have htb:=rU hw;have ls:LS ahq wa N ts kd M:=by
  refine⟨agO.mono e13,hw,win,hN5,hk,fun os ho=>hM.2 _ (by rw[←hms];exact ai'.mpr ⟨os,(jd os).mpr ho,rfl⟩),?_,?_,agc M hM.1⟩
  .have h:=hM.1;rw[←hms]at h;obtain⟨os,h1,h2⟩:=ai'.mp h;exact⟨os,(jd os).mp h1,h2⟩
  .have h:=hM.1;rw[←hms]at h;obtain⟨os,h1,rfl⟩:=ai'.mp h;exact K3 hN5 ((jd os).mp h1) htb
 refine az _ rfl (c7 _ rfl (by show 4<=aiV;decide) (fun q2 hq2=>?_));obtain⟨s4,n4⟩:=au (o:=.lst [V.int 0,V.int 0,V.int 1,V.int (-1)]) hq2;obtain⟨dv,hdv,dd,rfl,hdd⟩:=afg (i:=uH ns 91 %4) (p1:=.int 0) (p2:=.int 0) (p3:=.int 1) (p4:=.int (-1)) (Z:=fun v=>∃d,v=.int d∧d<=1) (akZ _ (by decide)) (akW _ (by decide)) ⟨_,rfl,by decide⟩ ⟨_,rfl,by decide⟩ ⟨_,rfl,by decide⟩ ⟨_,rfl,by decide⟩;refine az _ rfl (wJ a ns 91 rfl ((eH3.trans s4).seq hS) (iV _ _ rfl rfl (by show(0:Int)<4;decide) (mj q2 _ _ _ rfl rfl (bk.of n4) hdv (bU _ _ rfl rfl (mC _ _ rfl ?_)))));dsimp only;have hB0:0<=(if M+dd>0 then M+dd else 0):=by split<;>lia
 have hB1:(if M+dd>0 then M+dd else 0)<=100001:=by have:=ls.m1;split<;>lia
 generalize(if M+dd>0 then M+dd else 0)=B at hB0 hB1 ⊢;clear n4;generalize upd ahq q2 (HO.lst [V.int 0,V.int 0,V.int 1,V.int (-1)])=aiv at s4 ⊢;have eH4:=eH3.trans s4;have ls4:=ls.mono s4;have nw:∀{Z:Prop},bN (N:Int) ts=false->Z:=fun z=>by rw[hw]at z;cases z
 refine az _ rfl (az _ rfl (c7 _ rfl (by show 0<=aiV;decide) (fun ev hev=>?_)));obtain⟨s5,n5⟩:=au (o:=.lst []) hev;refine Us 0 (.ref wa) N ts kd B ev [] rfl (ls4.dat.mono s5) win (fun _=>hn5) kd1 kd2 n5 (fun x hx=>ai8 hx aiX) (by decide) (fun x hx=>ai8 hx aiX) nw (fun _ z=>ai8 ⟨hk,hB0,by lia⟩ z) (fun _ _ _ _=>⟨fun _=>?_,fun z=>ai8 rfl z⟩);rw[ai4];have m0:=ls.m0;refine⟨fun hB l ag1 e6 hl=>?_,fun hB hg ag1 e6=>?_,fun hB hg l ag1 e6 pap=>?_⟩
 .refine az _ rfl (az _ rfl (bU _ _ rfl rfl (az _ rfl (pU (by lia) ⟨(by show 0<=aiV;decide),fun dl hdl=>?_⟩))));obtain⟨agD,ait⟩:=au (o:=.lst []) hdl;refine c7 _ rfl (by show 0<=aiV;decide) (fun el hel=>?_);obtain⟨ahS,ahN⟩:=au (o:=.lst []) hel;refine FQ (.list []) (.list []) ((Dat.list (ahS _ _ ait) .nil).rep) ((Dat.list ahN .nil).rep) rfl rfl (by decide) (az _ rfl ?_);rw[H3 rfl];refine dY ⟨_,rfl,_,_,rfl,rfl,_,rfl,pU (by lia) ?_⟩;refine az _ rfl (az _ rfl (FQ (.list []) (.list []) ((Dat.list (ahS _ _ (agD _ _ hl)) .nil).rep) ((Dat.list (ahS _ _ ait) .nil).rep) rfl rfl (by decide) (az _ rfl (lQ rfl ?_))));have e8:=e6.trans (agD.trans ahS);exact aiw _ _ ⟨wa,N,ts,kd,M,B,_,_,rfl,eH4.trans (s5.trans e8),ls4.mono (s5.trans e8),hB0,hB1,.inr ⟨l,[],rfl,ahS _ _ (agD _ _ hl),fun x hx=>ai8 hx aiX,by decide,fun x hx=>ai8 hx aiX⟩⟩
 .have hlt:M<B:=by
   by_cases c:M<=B-1
   .lia
   .exact ai8 (ls.good.mpr c) hg
  refine az _ rfl (az _ rfl (bU _ _ rfl rfl (az _ rfl (oG hlt ?_))));refine c7 _ rfl (by show 0<=aiV;decide) (fun el hel=>?_);obtain⟨ahS,ahN⟩:=au (o:=.lst []) hel;refine FQ .none (.list []) Dat.none.rep ((Dat.list ahN .nil).rep) rfl rfl (by decide) (az _ rfl ?_);refine cN (cN ?_);refine az _ rfl (az _ rfl (FQ .none .none Dat.none.rep Dat.none.rep rfl rfl (by show min 0 0<=60;decide) (az _ rfl (lQ rfl ?_))));have e8:=e6.trans ahS;exact aiw _ _ ⟨wa,N,ts,kd,M,B,_,_,rfl,eH4.trans (s5.trans e8),ls4.mono (s5.trans e8),hB0,hB1,.inl rfl⟩
 .have hge:¬M<=B-1:=ls.good.mp hg;refine az _ rfl (az _ rfl (bU _ _ rfl rfl (az _ rfl (pU (by lia) ⟨(by show 0<=aiV;decide),fun dl hdl=>?_⟩))));obtain⟨agD,ait⟩:=au (o:=.lst []) hdl;refine c7 _ rfl (by show 0<=aiV;decide) (fun el hel=>?_);obtain⟨ahS,ahN⟩:=au (o:=.lst []) hel;refine FQ (.list []) (.list []) ((Dat.list (ahS _ _ ait) .nil).rep) ((Dat.list ahN .nil).rep) rfl rfl (by decide) (az _ rfl ?_);rw[H3 rfl];refine dY ⟨_,rfl,_,_,rfl,rfl,_,rfl,oG (show(0:Int)<B from hB) ?_⟩;have e8:=s5.trans (e6.trans (agD.trans ahS));have ahA:=(ls4.mono e8).ad8 (b:=B-1) (by lia);have re:rows ⟨N,ts,kd,B-1⟩ (cj ⟨N,ts,kd,B-1⟩) N=[]:=(xM ahA.ahf).trans hg;refine az _ rfl (az _ rfl (az _ rfl (bU _ _ rfl rfl (iV (.ref wa) ⟨N,ts,kd,B-1⟩ rfl ahA re (fun l2 aim e9 age=>?_)))));have afk:=pap.mono (agD.trans (ahS.trans e9));obtain⟨d,d1,d2,d3,d4⟩:=abZ afk age;obtain⟨yU,m1,m2,m3,m4⟩:=ad' ahA.ahf re afk;refine az _ rfl (az _ rfl (FQ d d d1.rep d2.rep d3 d3 (by lia) (az _ rfl (lQ d3 ?_))));exact aiw _ _ ⟨wa,N,ts,kd,M,B,_,_,rfl,eH4.trans (e8.trans e9),ls4.mono (e8.trans e9),hB0,hB1,.inr ⟨l,yU,rfl,m1,m2,m3,m4⟩⟩
theorem aeh (T:Txt K mg A D):aP P w K mg base (cI P w) 9 A.law D.law ["_law_script"] (N8 K):=by have gG:=aaF (P:=P) (w:=w) (base:=base) (k:=0) T;have aZ:=W9 (P:=P) (w:=w) (base:=base) (k:=1) T (gG:=gG.mono (by decide));have wK:=aec (P:=P) (w:=w) (base:=base) (k:=2) T (aZ:=aZ.mono (by decide));have o4:=acv (P:=P) (w:=w) (base:=base) (k:=3) T (wK:=wK.mono (by decide));have rz:=aee (P:=P) (w:=w) (base:=base) (k:=4) T (aZ:=aZ.mono (by decide)) (o4:=o4.mono (by decide));have o5:=acw (P:=P) (w:=w) (base:=base) (k:=0) T;have fL:=Jw (P:=P) (w:=w) (base:=base) (k:=0) T;have gU:=aaH (P:=P) (w:=w) (base:=base) (k:=0) T;have wQ:=Xb (P:=P) (w:=w) (base:=base) (k:=0) T;have lE:=DR (P:=P) (w:=w) (base:=base) (k:=1) T (fL:=fL.mono (by decide)) (gU:=gU.mono (by decide));have mY:=FT (P:=P) (w:=w) (base:=base) (k:=0) T;have fM:=Jy (P:=P) (w:=w) (base:=base) (k:=2) T (fL:=fL.mono (by decide)) (lE:=lE.mono (by decide)) (mY:=mY.mono (by decide));have cA:=wN (P:=P) (w:=w) (base:=base) (k:=0) T;have gV:=wO (P:=P) (w:=w) (base:=base) (k:=1) T (wQ:=wQ.mono (by decide));have eZ:=s8 (P:=P) (w:=w) (base:=base) (k:=2) T (gV:=gV.mono (by decide));have eG:=FW (P:=P) (w:=w) (base:=base) (k:=3) T (gU:=gU.mono (by decide)) (eZ:=eZ.mono (by decide));have eH:=Ga (P:=P) (w:=w) (base:=base) (k:=5) T (rz:=rz.mono (by decide)) (o5:=o5.mono (by decide)) (aZ:=aZ.mono (by decide));have jW:=zO (P:=P) (w:=w) (base:=base) (k:=4) T (eG:=eG.mono (by decide));have wW:=Xc (P:=P) (w:=w) (base:=base) (k:=5) T (cA:=cA.mono (by decide)) (jW:=jW.mono (by decide));have gj:=vo (P:=P) (w:=w) (base:=base) (k:=2) T (gG:=gG.mono (by decide)) (aZ:=aZ.mono (by decide)) (gU:=gU.mono (by decide));have gW:=wU (P:=P) (w:=w) (base:=base) (k:=3) T (aZ:=aZ.mono (by decide)) (gj:=gj.mono (by decide));have Aj:=aaI (P:=P) (w:=w) (base:=base) (k:=5) T (eH:=eH.mono (by decide)) (wW:=wW.mono (by decide)) (fM:=fM.mono (by decide));have Ak:=aaK (P:=P) (w:=w) (base:=base) (k:=5) T (eH:=eH.mono (by decide)) (fM:=fM.mono (by decide)) (gW:=gW.mono (by decide)) (cA:=cA.mono (by decide)) (eG:=eG.mono (by decide));have rA:=NP (P:=P) (w:=w) (base:=base) (k:=0) T;have dD:=R1 (P:=P) (w:=w) (base:=base) (k:=1) T (rA:=rA.mono (by decide));have t6:=R2 (P:=P) (w:=w) (base:=base) (k:=2) T (dD:=dD.mono (by decide));have lG:=DY (P:=P) (w:=w) (base:=base) (k:=0) T;have rB:=NQ (P:=P) (w:=w) (base:=base) (k:=0) T;have jY:=zP (P:=P) (w:=w) (base:=base) (k:=1) T (lG:=lG.mono (by decide)) (rB:=rB.mono (by decide));have t7:=R3 (P:=P) (w:=w) (base:=base) (k:=0) T;have lJ:=Ea (P:=P) (w:=w) (base:=base) (k:=0) T;have bc:=R5 (P:=P) (w:=w) (base:=base) (k:=0) T;have tZ:=R7 (P:=P) (w:=w) (base:=base) (k:=1) T (bc:=bc.mono (by decide));have n8:=NZ (P:=P) (w:=w) (base:=base) (k:=0) T;have rD:=N5 (P:=P) (w:=w) (base:=base) (k:=2) T (bc:=bc.mono (by decide)) (tZ:=tZ.mono (by decide)) (n8:=n8.mono (by decide));have eO:=Ge (P:=P) (w:=w) (base:=base) (k:=3) T (bc:=bc.mono (by decide)) (rD:=rD.mono (by decide));have o7:=JC (P:=P) (w:=w) (base:=base) (k:=4) T (eO:=eO.mono (by decide));have lH:=Ec (P:=P) (w:=w) (base:=base) (k:=1) T (bc:=bc.mono (by decide));have t8:=R8 (P:=P) (w:=w) (base:=base) (k:=4) T (bc:=bc.mono (by decide)) (lH:=lH.mono (by decide)) (eO:=eO.mono (by decide));have rE:=N6 (P:=P) (w:=w) (base:=base) (k:=0) T;have iZ:=N7 (P:=P) (w:=w) (base:=base) (k:=7) T (Aj:=Aj.mono (by decide)) (Ak:=Ak.mono (by decide)) (lJ:=lJ.mono (by decide));have afl:=aeg (P:=P) (w:=w) (base:=base) (k:=8) T (dD:=dD.mono (by decide)) (t6:=t6.mono (by decide)) (jY:=jY.mono (by decide)) (t7:=t7.mono (by decide)) (bc:=bc.mono (by decide)) (o7:=o7.mono (by decide)) (t8:=t8.mono (by decide)) (rE:=rE.mono (by decide)) (iZ:=iZ.mono (by decide));exact afl
theorem walk {l:aoF}{q:ajr}{loose:List Str}{XP:(Str->Option aiH)->aj4->Prop}{YP:ajI->aj4->Prop}{d:DefRec}{K:arR->aiU}(hn:l.most=some 63)(hdf:d.params.defaults=[])(hY:∀(w:ajI) (h:aj4),YP w h->(K w.params).In h)(F:∀(w:ajI) (mg:Str->Option aiH) (fa:aiM) (h:aj4),(K w.params).In h->h.Ns ajz mg->mg d.name=some (.ref fa)->∃fd:ajA,(∀(s:aiK) (u:aiH),ard s fd ⟨[u],[]⟩ [("_law_script",u)])∧∀base:aj4,(K w.params).In base->base.Ns ajz mg->aP l.prog w (K w.params) mg base (cI l.prog w) 9 fa fd ["_law_script"] (N8 (K w.params))):aqU q loose XP YP l.row.toRowW d [] (fun f vs=>arS f vs):=L2.aa' (n:=63) (k:=9) (x:="_law_script") (aio:=fun w=>cI l.prog w) (sp:=fun w=>N8 (K w.params)) hn (by decide) hdf ⟨rfl,by decide,by decide,rfl⟩ hY F (fun _ _ a ns hl _ hS=>⟨a,ns,rfl,hS,hl,fun _=>rfl⟩) fun _ _ _ _ _ ⟨_,_,_,_,_,_,_,_,_,_,_,z⟩=>z
theorem given {l:aoF}{w:ajI}{K:aiU}{mg:Str->Option aiH}{fa:aiM}(hfa:mg "law"=some (.ref fa))(h:∃A D,Txt K mg A D):∃fd:ajA,(∀(s:aiK) (u:aiH),ard s fd ⟨[u],[]⟩ [("_law_script",u)])∧∀base:aj4,K.In base->base.Ns ajz mg->aP l.prog w K mg base (cI l.prog w) 9 fa fd ["_law_script"] (N8 K):=by obtain⟨A,D,T⟩:=h;have e:=hfa.symm.trans T.ae9;cases e;exact⟨D.law,T.aea,fun base _ _=>aeh T⟩
def without (ns:List Nat)(k:Nat):List akM->List akM
 |[]=>[]
 |s::r=>if ns.contains k then without ns (k+1) r else s::without ns (k+1) r
def view:ajr:={ajL with main:={ajL.main with body:=without [0,7,13,23,31] 0 ajL.main.body}}
theorem head {r:PySem.W.OpenRow}{q:ajr}{loose:List Str}{d:DefRec}{kwd:List (Str×akb)}{N:Nat}(H:PySem.W.Hook)(hl:PySem.W.LeftO r.prog q loose (fun s=>PySem.W.xlAt q [] s&&PySem.W.recOk r.toRowW.records s) H.obs H.val N)(hd:PySem.W.defOf q r.name=some (d,kwd))(ht:r.prog.theDef r.name=some (d.params,d.body,d.scope))(hk:PySem.W.kwWritten? d.params.kwonlyargs d.params.kw_defaults=some kwd)(hr:(!r.writes||List.isEmpty r.records)=true)(hs:r.wellSaid=true)(hg:(PySem.W.chainsOk q&&PySem.W.opensWell r.prog&&(PySem.W.frees r.toRowW&&r.within.isEmpty))=true)(hb:r.prog.bare)(hw:r.promised)(hc:aqU q loose (PySem.W.XL q []) H.says r.toRowW d kwd fun f vs=>arS f vs):r.Holds:=PySem.W.holds_open hl H.of H.keeps (fun s e=>PySem.W.xl_of s (aq7.mp e).1) PySem.W.XL.keeps hd ht hk (fun s e=>PySem.W.recFacts_of (aq7.mp e).2) hr hs hg hb hw hc
end My
def PySem.W.Fast.tw17322398632156619370:ajr:=ajL
theorem PySem.W.Fast.te17322398632156619370:ajL=PySem.W.Fast.tw17322398632156619370:=rfl
open PySem PySem.W PyProof.Rows
local macro_rules
  | `(tactic| o_head $H) => `(tactic| (refine My.head (q := My.view) (loose := []) (N := 5740) $H ?hl rfl rfl rfl rfl (by assumption) (by decide +kernel) ⟨rfl, rfl, rfl, rfl, rfl, by decide +kernel⟩ ?hw ?hc
                                       (case hl => exact My.left_of (by kernel_rfl) (by rfl) (fun s => by kernel_rfl) fun w os => by rw [PySem.W.Fast.te15663120176360888729]; kernel_rfl)))
set_option maxRecDepth 100000 in
set_option maxHeartbeats 0 in
theorem PySem.Challenge.cw_rowlay_k31_whole_bounds_shown_holds : PySem.Challenge.rw_rowlay_k31_whole_bounds_shown.Holds := by
  w_on; o_law; k_head; (case hw => w_witness2)
  k_fill
  refine My.walk (l := PySem.Challenge.rw_rowlay_k31_whole_bounds_shown) rfl rfl (fun w h Y => PySem.W.kIn_of Y) ?F
  case F =>
    intro w mg fa h KX G hmg
    refine My.given hmg ?_
    apply My.txt_mk KX G
    iterate 35 (apply My.fx_mk <;> k_is)
    iterate 75 k_is
    iterate 7 (apply My.mx_mk <;> k_is)
    iterate 6 k_exc
    iterate 55 kit_is
