import PyProof.Rows.All
import Wide.All
import OpenK.AllK
import Wide.FinOn
import PyProof.EqAt
import PyProof.EqKinds
import PyProof.TupleCall
import KE.BitLaws
import PyProof.ListRange
import KE.KSortTupG
import Open.SpecLaws
import KE.OsHead
import KE.OsGo
import KE.KDictList
import PySem.Challenge.RW_bloodlines_s01_answers
set_option Elab.async false
set_option linter.all false
set_option maxRecDepth 100000
set_option maxHeartbeats 2000000
set_option compiler.extract_closed false
structure PySem.W.Fast:Prop where(tw17693159818261506890 tw4295339505767611695 tw3734776575272091234 tw6662036170414570491 tw2947791622113782650 tw11375504451860235950 tw6703755312622524082 tw14986510331676840205 tw1467899897487144616 tw11151636969639738854 tw11782037754758208556 tw6093547557372427570 tw4404751911597663032 tw12072959747845898034 tw16936282921840395657 tw4831523425614043930 tw11318587712708011019 tw9767392024618453405 tw6110917550095035680 tw16391629467025745155 tw16340393242216040294 tw1219951687751642288 tw17736219001666739800 tw8524280795888610792 tw7356594458506449774 tw14118563864383595105 tw7152803260876717332 tw13196756690089930050 tw2598128318184309377 tw6575666922908152208 tw9929966767537437838 tw4517146373319746338 tw14367501278648214247 tw8552736266436490569 tw12653362160201717612 tw6623382966337855198 tw9292945411740465790 tw6145182521345688353 tw8219574067242664672 tw10510636265054976485 tw553111318203464522 tw17814158149657070405 tw7583475946121457896 tw696030674530268374 tw2180701549703372832 tw1188411100880056968 tw11669478536104356909 tw17044858449786345594 tw3401254456946970712 tw5617601861608182765 tw4611089892799001042 tw895772472535107820 tw13599364541248458159 tw3439764267772762840 tw12118499833020791742 tw9527359084883611347 tw937456304869951240 tw17882436366032380582 tw14607329881158209146 tw3219169418136673605 tw17970843097604009392 tw5569456005870464469 tw13755971850687214260 tw10747735803208639976 tw5587579776038479958 tw12138407647429448040 tw3325019922390192276 tw17653091317314296226 tw7777909884719720406 tw10643934648812462612 tw8971484602751920245 tw10505939561284566535 tw2463291428142182823 tw17735667789304334434 tw5320214604106702696 tw11001361623112582778 tw7130829173560529554 tw22244153304845649 tw632270732285528688 tw5300006235169669124 tw180477275573055983 tw9019963143498738989 tw14854969781443292315 tw7456419011818157976 tw12507353383126581061 tw8309806450318168656 tw15756078536850429798 tw2003623237581585362 tw14117850924778713252 tw943059793515250196 tw7127850932633088529 tw17412411685299154659 tw3084019378999300827 tw2167739116341992570 tw934648457027339293 tw11131898344054597914 tw2189645433972071554 tw17727730421639528763 tw8867242825825109186 tw11265434352526143488 tw2992104859854471954 tw9834818115863023624 tw14350286292704085208 tw14147642388712329309 tw9848851285417233889 tw6423007984567319623 tw1466460788846894375 tw16088039493371411498 tw1734814826757663239 tw5607940782937897410 tw15026770533304220488 tw9103484406357012933 tw3945136454825051839 tw14876374079919522365 tw6779995467497077770 tw7264221026237266782 tw5694480201493528323 tw11899826546234959160 tw9512756125544279643 tw17714911526958098259 tw16224459171001978672 tw4800369009370826425 tw10782521117508897551 tw1716397811108388594 tw8724916201404586154 tw15858352813906099686 tw2071833090555113292 tw11439589323575315181 tw5665449379872840648 tw17143765735686324231 tw7046991474806151771 tw12870876796051215513 tw17708660368009497348 tw2520566142542945136 tw16377600182339394139 tw5081539142624481654 tw13274970598930614513 tw9367156819849094483 tw5701187478231289852 tw1487316720762715820 tw5995720386665192397 tw3728923535078299038 tw3995135518850336259 tw7532618927500603079 tw13675662861610766434 tw7495760160458668627 tw4833607187860218282 tw14312357809654581488 tw15823091009026669841 tw17164646900540760172 tw17319301618125610413 tw12151194076843888222 tw10966808744978556307 tw8370106948010056671 tw9437773230442420105 tw11163059875564533693 tw8884274794129978935 tw16589212266142603298 tw12094562628026977755 tw3344256578736481741 tw9344302973348891133 tw16156024485055761413 tw13726680205700408462 tw8951324742892978331 tw16757359441354881386 tw13341499335600776138 tw12384412155476228090 tw3558478018923460285 tw17828678958431832961 tw13478138343711788092 tw10231987688094533780 tw9438995812159666672 tw12902783686490630832 tw3381219956136427014 tw7271356703253050188 tw6426122229814241532 tw13787694283977020538 tw11265516384895892504 tw13845633815521719678 tw13945452942997038354 tw1118497583334935388 tw1715966685003717437 tw7269551876940977802 tw6033901810669340125 tw15615690064026737930 tw8858842084588124448 tw1178993331144404870 tw10062813013922377865 tw14054143555634995903 tw6804880991446788360 tw2591210190319800578 tw1202556942340853826 tw13558632403042864970 tw6242733516249585241 tw10878972193019678028 tw4298261966155178635 tw17201744041152266004 tw4970723644184927963 tw2284693744617686573 tw12975043303490544666 tw9519646289095214058 tw15575677222755933804 tw3600876649140096856 tw13098412813364505543 tw10227200946900442605 tw7178830101348570921 tw9251123311591042990 tw5313055606399947236 tw14510009732410317907 tw4841178624248082468 tw2563685285472557029 tw14738476333359051023 tw16886638628556503242 tw16650225050448600879 tw1136143021523599195 tw13925755388835908771 tw18439763119939699905 tw5543999101505179108 tw13161037868199649016 tw2339134455013139909 tw13328763598108667136 tw12172594362455980089 tw15288273977812949317 tw13791347988122242709 tw18205875865864900859 tw10074226738830062162 tw7254527263518760446 tw16999171662042789327 tw7034040882834809080 tw3571610166600957732 tw4194227829354942226 tw16780704621867078188 tw9327764934990891355 tw16197585664208049777 tw17602108384558233706 tw9995172469795206228 tw7077673126872048816 tw9976043451560686167 tw1842851175363192195 tw5722684587885380160 tw1965319712211031819 tw5510807955430249574 tw1212916174604038023 tw4215401668273428953 tw7416327059361896965 tw11592359219899262333 tw12761200147753562823 tw16669065764896661860 tw8013223591371303860 tw12314576516379435300 tw5162410918986784051 tw2037046661582186265 tw1098902308153944927 tw6237518105624883674 tw379010805591301125 tw7023543738765467033 tw7426147248865429446 tw7851681209084828401 tw1139540186152895168 tw7077614159727114980 tw2947415785061725210 tw18186280348297750489 tw14029532643883634479 tw11139822886202656949 tw8608505901215157014 tw3038945774268675879 tw346752522391721850 tw2384183657501874086 tw11490739696705970212 tw6422534539820784019 tw5899732786740333723 tw13531192965890457319 tw7197687379716120408 tw6183440807634297987 tw9154966910539818677 tw952667921556664105 tw2983263670892711895 tw8574017837137291295 tw10999585668973696857 tw5237052170126785118 tw2006642375108132618 tw10730203757722587027 tw15748683934147347619 tw6663778267982617988 tw10651215074493582389 tw11078867373431250592 tw96711385093956460 tw9437143388972317611 tw5025355744951350953 tw18053818437547405470 tw3131658415573099147 tw848469796983940070 tw11432464770242835987 tw6356569032756639494 tw8989538165537339716 tw8902248320718494838 tw6305791206937681266 tw10515315024677640255 tw11068178986764287258 tw8453075733841569395 tw9378647294768545410 tw17722884274144787316 tw10998026297927617351 tw3585533952475920797 tw15389029413537069866 tw6361989783278146933 tw7255496669543755542 tw7048981691442062735 tw16139104807885283308 tw11929817768568609873 tw6230894909742933420 tw4439150219177575705 tw11433096823008959421 tw14407322399147166500 tw8699289558662333143 tw18215914688605368543 tw1477889913793706514 tw325397734397016410 tw15377534382260643519 tw3999027440872193868 tw6478928663948929453 tw17034664078432398527 tw8941889239888608245 tw6490563952697073385 tw1099061501013585445 tw14396174872021287212 tw16976712315342671472 tw7881089998333736112 tw16606006449725302125 tw4264699352716333276 tw405159984344976438 tw5287226280226429979 tw4720291238873400339 tw2350485572446161186 tw7028080769586115544 tw15504642948716480681 tw2925594927227910944 tw2253624003206760970 tw14471365001471096321 tw17549705253588612193 tw4936799557257206642 tw10200865688252058159 tw8510774914738897729 tw6786196685172289764 tw16435447687053769956 tw6176938017373520044 tw1832027864606791382 tw11626909191915308895 tw9480892367731558134 tw9050773663890595841 tw10182967087164619912 tw16628537770519824780 tw8364848588299617368 tw15330441174245406249 tw13629892472508998068 tw15859477978243548106 tw14892198182749932382 tw10402135912397366824 tw7480370161140958473 tw547787561900638543 tw17865660171623593700 tw1163088783468303976 tw7846791214371498239 tw4902098409295759061 tw15626780657730356667 tw10581528236624604183 tw2908516450900542103 tw6900334737263382352 tw6771874085227779958 tw16464688603441636589 tw14973725872692321197 tw14627851281614859643 tw14155177913844634423 tw1408071691232921012 tw13518754097941816050 tw12127797377053828475 tw11894604010018343480 tw10159525549744502532 tw15431477597424505038 tw13873763808081588798 tw13015432618174245486 tw12671383941434138603 tw11824795128691557524 tw11770851176731622166 tw794969423597805816 tw3757418769398242693 tw18265100122708709247 tw8926188703930035671 tw16251298914272527810 tw8149151294469946061 tw551085794270934548 tw4715390816841481672 tw3601115889877895556 tw15267717545439101765 tw15250247553969395054 tw6370415711316962743 tw5610826299836306460 tw537054957084086705 tw16974761031465627792 tw18362623784451992106:True)
section
open PySem PySem.W PyProof.Rows
local macro_rules
|`(tactic|refine $f:ident $a*)=>do
 let n:=f.getId.eraseMacroScopes
 unless n==``holds_os||n==``holds_osN do Lean.Macro.throwUnsupported
 let h:=Lean.mkIdent `h
 `(tactic|(revert $h:ident;intro $h:ident;refine ($f $a*)))
set_option maxHeartbeats 0 in
noncomputable def Hx:(G:Prop)×'(G∧True→PySem.Challenge.rw_bloodlines_s01_answers.Holds):=⟨_,fun h=>by w_on;k_headS;(case hw=>exact ⟨[.list [.int 2]],by decide +kernel,by decide +kernel⟩);k_fillS;exact h.1⟩
end
noncomputable section
set_option linter.all false
def di:=@if_neg
def dq:=@if_pos
def fj:=@decide_eq_false
def gR:=@congrArg
def hJ:=@if_false
def iH:=@decide_eq_decide
def jv:=@if_true
def jL:=@decide_eq_true_eq
def lX:=@of_decide_eq_true
def mz:=@beq_eq_false_iff_ne
def mI:=@decide_eq_true
def qo:=@decide_false
def rH:=@decide_true
def vo:=@bne_self_eq_false
def AO:=@or_false
def M8:=@eq_iff_iff
def QZ:=@decide_eq_false_iff_not
open PySem renaming wpAny_bind->c9,wpAny_pure->de,starEach->dj,Shared->dJ,sizeLine_eq->dO,wpAny->dR,model->dZ,Value->eA,Addr->eB,sizeLine->eQ,mainGlobals->eU,mem_of_lookup->fS,eval->fX,Program->fY,wpAny_newObj_type->gq,behindInMarks->gv,Str->gw,backTo->gy,compareOp->gH,attributeBase->hZ,compEnvC->ig,sysModules->ir,World->iu,wpAny_holding->iF,wpAny_call_entry->iG,wpAny_mono->iK,foldedSetIterable->iO,bootBuiltins->iP,wpAny_setField_rec->iX,Heap->iZ,cellsFrom->i5,Around->i6,wpAny_truthy_bool->jb,cLine->jc,wpAny_callSpecial?_slot->jq,swapsWith->jr,Expr->jG,wpAny_seqItems->jK,wpAny_field->jQ,wpAny_Call_Name_kw->kg,plainId_quiet->ly,assignEach->lK,wpAny_dictEntries->lW,argBest->lY,wpAny_typeNameOfWhole_keyiter->mO,pyNext->mX,wpAny_updateSeq->m9,wpAny_passesOwn->nc,wpAny_dictEpoch->ng,binaryOp->nZ,FuncData->n0,wpAny_isInstance->oq,codeAny->ou,Value->oA,wpAny_typeNameOf_keyiter->oZ,Stmt->o4,valueAt->o8,Keyword->pk,IsPair->pR,wpAny_letGo->pW,keywordEach->pX,DictEntry->pY,holding->qm,wpAny_notOrdered_dict->qK,wpAny_typeNameOfWhole_itemiter->qZ,wpAny_typeNameOfWhole_valiter->rC,wpAny_of_eq->rD,sliceBounds->rE,pushCells->tK,wpAny_tryCatch->ux,wpAny_setField->uz,wpAny_pyIter_tuple->uA,setField->uB,intItems->uC,Addr->vf,wpAny_pyIter_slot->vk,wpAny_pyIter_list->vm,wpAny_Call_method->vn,Scope->vq,wpAny_attempt->wu,rawInt->wx,backToKw->xb,Obj->xG,wpAny_pyNext_list_item->yl,wpAny_isOneOf_itemiter->ym,pyIter->yn,getItem->yo,assign->yr,Paired->yu,wpAny_specialOf->yC,wpAny_ite_split->yD,wpAny_execs_nil->yE,pushCells_keeps->yF,codeAny_builtin->yG,wpAny_isOneOf_valiter->zG,wpAny_fieldsOf->AN,isSubtype_stop->AQ,NameKind->AS,IsZip->AV,seqItems?->Bw,Fin->B9,wpAny_standAt->Cw,typeLookup->EJ,wpAny_typeOf->Fv,codeAny_mono->Fw,call_meetsIn->Fy,noFill_tuple_add->Iu,PassesOwn->IA,IsPart->IC,subscripted->IM,richCompare->IP,Str->IV,size_of_entries->La,letOwnedTupleGo->Lb,Within->Lc,wpAny_letOwnedTupleGo_items->Li,setItem->Lj,notedBy->Lk,Env->Ls,wpAny_newTuple->M7,atKey->M9,evalArgs_none->Ou,seq_tuple_add->QG,nums_intItems->QH,wpAny_pyNext_tuple_item->QU,updateSeq->QV,lastMarks->QX,eqIsQuiet->QY,wpAny_pyNext_tuple_end->UO,wpAny_pyNext_range_end->UP,wpAny_pyIter_rangeiter->UQ,seqIndex_neg->US,revObj->UT,newExc->UU,concat_meets->UV,callerA->UW,BindsTo->U7,wpAny_pyNext_list_end->Vb,wpAny_isTrue_Compare1->Vc,wpAny_isOneOf_keyiter->Vd,builtinLookup_eq_fast->Ve,wpAny_updateSeq_pair->Xn,wpAny_pyIter_keyiter->Xo,wpAny_loadName_local->Xp,seqIndex_of->Xr,raiseNew->Xs,numAt_eq->Xu,intItems_at->Xv,bindL->Xx,bindC->Xy,bindArgs->Xz,getD_mem->XA,Operator->XC,IsRangeIter->XH,wpAny_loadName_cell->Yx,pairTrees_cons_walk->Yy,wpAny_rule->aaW,wpAny_pyIter_range->aaX,wpAny_Name->aaY,pyHash->aa1,pairTrees_nil_walk->aa2,getattributeRaised->aa6,builtinsNs->aa7,wpAny_pyIter_enum->abt,wpAny_assign_Name->abu,standAt->abw,spliced->abx,slot_list_getitem->aby,release->abz,hashInt->abA,field->abB,Model->abH,CmpOp->abL,wpAny_pyIter_zip->adA,wpAny_pyHash_int->adB,wpAny_getItem_of->adC,wpAny_execs_cons->adD,wpAny_eqBool_int->adE,wpAny_Dict_empty->adF,storeName->adG,typeLookup_type->aej,wpAny_Compare1->agb,stored->agc,preSum->age,numAt->agg,newFunctionEnv->agh,method_meetsIn->agi,merged->agj,firstArgMember->agl,entry_at->agm,compPost->agn,callType_codes->ago,ZipApart->agp,Walks->agq,wpAny_onRaise->agQ,swapsWithSole->agR,swappedStores->agT,intBits_le_64->agV,comprehension->agW,call_list_seq->agX,operate->ahp,newList->ahr,getAttr->ahs,ItemsOf->ahy,wpAny_alloc->ahC,interactive->ahF
open PySem.Heap renaming get?_push_of_some->dc,get?_push_size->dw,lt_size->dD,size_push->fR,SameBut->ic,get?_update_other->iU,get?_update_self->i8,ExtBut->OB
open List renaming getElem?_eq_getElem->df,mem_map->dk,map_map->dm,map_cons->dt,length_map->dA,length_cons->dB,getD_eq_getElem?_getD->dG,getElem?_eq_some_iff->dH,getElem?_map->dX,range->eE,nodup_iff_pairwise_ne->eI,size_toArray->eJ,mem_cons->eM,mem_range->eO,mem_cons_of_mem->eP,mem_of_getElem?->eS,foldl_cons->eT,mem_filter->eX,eq_nil_of_length_eq_zero->eY,mem_cons_self->fk,getElem?_set_ne->fF,nodup_cons->fH,replicate->fP,pairwise_map->fQ,getElem?_append_left->fU,drop_eq_getElem_cons->fV,mem_append->gp,nodup_append->gE,sum_cons->gL,filter_cons->gQ,getElem?_set_self->gU,find?_cons->gW,nodup_range->gZ,mem_flatMap->g9,all_eq_true->hC,mem_singleton->ia,length_append->ib,length_nil->ip,length_filter_le->iB,getElem?_append_right->iQ,any_cons->iS,pairwise_lt_range->iT,mem_append_right->i7,nil_append->jd,getElem?_replicate->jk,map_nil->jw,filterMap_cons->jy,map_append->jF,zipIdx_cons->jT,append_nil->km,length_pos_iff->kD,length_flatMap->kE,perm_ext_iff_of_nodup->lh,pairwise_flatMap->lu,getElem?_eq_none->lx,flatMap_cons->lL,takeWhile_cons->lZ,getElem?_range->l6,not_mem_nil->l9,length->ni,drop_drop->nj,range'_succ->nE,length_drop->nF,getElem_mem->nG,ext_getElem->nH,map_congr_left->nS,getD_cons_zero->nT,getD_cons_succ->nU,all_cons->om,forIn_cons->oy,find?_eq_none->oB,mem_singleton_self->oU,getElem?_cons_zero->oV,take_succ_eq_append_getElem->pd,take_of_length_le->ph,length_range->pj,countP_cons->qc,range_eq_range'->qw,dropLast_concat_getLast->qL,zip_cons_cons->si,mem_of_find?_eq_some->sL,getElem?_eq_none_iff->sM,foldl_append->tJ,map_drop->tP,length_take->uY,getElem?_cons_succ->uZ,cons_append->u4,any_eq_true->u5,drop_eq_nil_of_le->vt,foldr_cons->wB,range'->xH,map->xI,contains_eq_mem->xJ,mem_map_of_mem->yH,map_take->zK,pairwise_cons->zO,mem_filterMap->zP,findIdx?_eq_some_iff_getElem->AU,ext_getElem?->BA,any_map->BB,map_flatMap->CA,lookup_cons->CB,subset_def->ES,of_mem_zip->ET,length_set->EU,find?_some->EV,idxOf_lt_length_of_mem->FC,foldl_nil->G3,pairwise_iff_getElem->IB,set_eq_of_length_le->IY,sum_replicate_nat->Ln,range_succ_eq_map->Lo,map_set->Lp,all_map->Lq,eq_replicate_iff->Nc,mem_append_left->Ow,map_id->Ox,lookup->Oy,getElem?_of_mem->Oz,sum_append_nat->QO,reverse_append->QP,zip_nil_right->Q4,getElem_range->Q5,findIdx?_cons->Q6,reverse_cons->U0,idxOf_append->U1,filter_congr->U2,getElem_map->Vj,getElem_inj->Vk,drop_length->Vl,idxOf_cons->XE,filter_nil->XF,count_cons->XG,take_succ->YB,append->adT
open PySem.W renaming Frag->dh,nsIn->fm,keepIn->iL,mg_of->iM,findIn->jU,fnOf->kr,instObj->lA,emptyDict->lE,codeIn->oS,hasDictIn->sg,plainGet->tH,callWith_K->yt,plainOver->zI,takerIn->B6,makesIn->B7,length_le_weightAllW->B8,lookIn->EK,cellsFrom_some->Iy,kcp_self->QK,handedIn->QL,isFn->XB
open Blood renaming Family->du,Place->dQ,Pair->fc,Family->fu,start->fE,step->fG,children->fW,children->gd,person->gf,founders->gm,keptPairs->gC,asksFor->gJ,Bytes->gT,familyOf->ik,allPairs->il,says->iA,nameByte->iD,pairNums->i9,tells->jj,State->jD,agreeing->kq,states->kG,Bytes->kH,placeOk->kI,kin->kS,Seen->lN,familyOf->mH,allPairs->mJ,choice->mY,kindRows->nh,asksFor->o9,pairOf->pQ,Call->qa,weightOf->ql,lowestAll->qF,stepPairs->rf,linesFault->rg,inbred->rl,parentFault->rF,drops->rG,agreesTo->rJ,weightOf->rM,agreeing->rN,parentsOf->tL,linesFrom->tM,badParent->tN,nameIn->wy,tie->xK,blankIn->yq,nothing->yJ,chance->AW,parentsIn->Bx,lowestAll->By,loopFault->Bz,can->Cd,Ans->Ce,there->CD,weight->EI,firstNot->FJ,TEXT->FK,Line->FM,rows->Ir,lineIn->Iv,Drop->IG,endIn->IQ,worlds->Lf,paths->Nf,rowNumber->QW,LETTERS->U3,readFamily->U6,sexIn->Xq,numberOf->Xt,firstNot->Xw,nameByte->XO,founders->XQ,linesOf->YJ,readFamily->aa0,pairIn->aa3,loopedFrom->aa4,looped->aa5,PEOPLE->abc,letter->abe,stepsUp->abv,power->abM,House->abN,personOf->agf,kindBy->agk,oneGene->ahq
open Nat renaming le_refl->dI,le_trans->eC,ne_of_lt->eG,lt_of_lt_of_le->fC,lt_succ_of_lt->gn,ne_of_gt->jx,lt_irrefl->jY,mul_le_mul->kh,zero_le->kW,mul_add->mB,pow_succ->nN,add_mul->oX,lt_succ_self->qr,mul_assoc->qv,zero_add->rL,le_of_succ_le->tO,le_mul_of_pos_right->vg,le_of_lt->wz,le_of_eq->wA,pow_le_pow_right->yw,mul_le_mul_right->yx,mul_comm->Ca,lt_trans->Cb,one_pos->EO,mul_pos->ER,gcd->G0,pow_mul->QM,le_succ->QN,mul_le_mul_left->Q3,pos_of_ne_zero->UX,lt_of_le_of_lt->UY,mul_left_comm->Vi,not_lt_zero->YA,add_comm->adS,pow_pos->aeC,pow_add->aeD,one_mul->aeE,log2_lt->aeF,mod_lt->agr
open BloodNeutral renaming step->dN,whole32->fq,long->jP,sizeOf->jW,weight->pS,weights->tS,asked1->FI,start->G5,play->II,nat->Ja,callOf->aeM,asked->aeN
open Classical renaming byContradiction->dP,propDecidable->sI
open Bool renaming false_ne_true->dY,false_eq_true->eW,and_eq_true->fZ,noConfusion->hE,eq_iff_iff->je,not_eq_true->CC,and_eq_false_iff->Nd,and_eq_true_iff->OD,or_eq_true->XN,false_and->YH,and_false->YI
open PySem.Value renaming ref->eD,type->jO,none->mw,bool->ox,int->xD,isInt->Cy,str->IR,isStrOf->Yz,float->abD,bytes->abE
open False renaming elim->eZ
open PyFlat renaming played->fi,calls->jR,told->jV,call->wX,row->abF
open Option.some renaming inj->ft,injEq->xc
open Array renaming length_toList->fB,getElem?_eq_none->o6,getElem?_toList->pZ,getElem?_eq_some_iff->FN,getElem_toList->Ng,forIn_toList->QS,toList->abf
open PyWqazao renaming shape->gh,answers->zM,whole->Cz,answers_asked->GS,calls->Q0
open Ne renaming symm->gk
open PyProof.Rows renaming callWith_type1->gP,slot_tuple_getitem->oh,IsTup->vv,callWith_builtin1->xE,envOfC->yp,IntsAre->yy,AllBare->FO,lexLt->GY,Constant_none->QR,subscriptTail_builtinR->UR,seqObj->aaZ,boot_range->aa8,Subscript_->aa9,lt_int->aeB,slicePart_none->agd,Call_->agt,subscriptTail->agU,floordiv_int->aht
open PySem.Builtin.Dict_items renaming ownsTuple->iR,addrOf->mm,pairFromOwner->tR,newIterator->u7,dictOf->xg,ownedTupleIsFree->Vr,ownedTupleFields->Vs
open PySem.F renaming slot_dict_keyiterator_next->ji,slot_dict_get->kU,plainAttrs_list->lU,plain_min_loop->mx,entry_dict_get->oT,slot_tuple_getattribute->o5,slot_dict_valueiterator_next->qE,slot_dict_itemiterator_next->rh,args_tuple_add_2->sH,entry_tuple_add->tI,slot_tuple_add->uD,slot_dict_getitem->EN,type_list_extend->Fz,slot_list_extend->FB,entry_min_loop->FE,args_dict_keyiterator_next_1->FF,slot_list_index->GT,slot_list_count->GU,plainAttrs_dict->GV,args_dict_get_3->GW,args_dict_get_2->GX,entry_dict_keyiterator_next->G4,slot_dict_keyiterator_iter->IF,type_dict_get->IW,slot_tuple_iterator_next->Ld,slot_dict_values_iter->OC,slot_dict_items_iter->QQ,args_list_extend_2->U4,plain_extend_loop->Vn,entry_list_extend->Vo,slot_list_extend->XJ,slot_dict_values->XM,slot_dict_items->YD,plain_list_iadd->YE,plainAttrs_dict->YF,slot_dict_iter->abd,slot_zip_next->abJ
open UInt8 renaming ofNat->jC,le_iff_toNat_le->k9,toNat_inj->Vf
open Sum renaming inl->jN,inr->Na
open PySem.Paired renaming length->jS,snoc->abb
open Function renaming comp_def->jZ
open PySem.Builtin.List renaming listLengthHint->kb,listTooLong->mZ,listSameRef->BC,listExtendWith->aeH
open PySem.Builtin.SmallTypes renaming nextOf->ki,ownedTupleIsFree->Vp,ownedTupleHandOut->Vq
open List.Pairwise renaming imp_of_mem->kY,map->adU,filter->adV
open PySem.Calls renaming spliced_cons->kZ,spliced_nil->mQ,callWith_builtin->vi,evalArgs_plain->xf,Name_function_global->FG
open Or renaming inl->lB,inr->mn
open PySem.Builtin.Range renaming rangeSize->lF,rangeFitsLong->yI,small->EW
open PySem.Obj renaming mapSeq->lV,data_mapFields->AR,isFreed_of_fields->Ov,cls_mapFields->Vh,mapFields->abG
open PySem.Builtin.Slice renaming slicePlaces->mN,sliceAdjust->zQ,slicePartIndex->adZ,sliceApplied->ad0
open PySem.Heap.SameBut renaming update->mP
open ForInStep renaming yield->nI,done->ahz
open Option renaming isSome_some->oj,map_some->qu,map_eq_none_iff->uX,isSome_map->zN,isSome_iff_exists->GZ,map_eq_some_iff->IX,none->Ll,getD_none->Q1
open True renaming intro->oz
open Int renaming toNat->oY,toNat_natCast->tQ,fdiv_eq_ediv_of_nonneg->ID,add_left_comm->Vm,natCast_emod->XI,add_comm->adW
open Prod renaming mk->qp,ext->xF
open PySem.Str renaming ofString->rK,empty->agY
open PySem.Builtin.Dict renaming showsAll->sN,updateFrom->Cc,noArgs->FH,selfAndRest->aeI,pairItems->aeJ,dictSlotNone->aeK,addKeywords->aeL
open PySem.W.Codec renaming encAll->vh,denoteAll->EL,app->aeG
open PySem.W.WData renaming weightAll->vp,int->adI,int->aek
open Blood.Place renaming kinds->xh,total->Jb
open PySem.SeqAt renaming EqAt->zH,notIn_listAt->QI,in_listAt->Vg
open PUnit renaming unit->zJ
open PySem.Builtin.Tuple renaming tupleItemsOf->zL,tupleHashOf->adX,tupleCompareSizes->adY
open PySem.AutoSeq1 renaming wpAny_loadPart'->EX,sub_tuple_tuple->EY,sub_tuple_list->ahL,sub_list_tuple->ahM,sub_list_list->ahN,list_extend_list_list_0->ahO,idx_int->ahP
open PyProof renaming noPylong_small->Iz
open PySem.SeqAt.EqAt renaming str_int->IS,int_str->IT,int_int->IU,same->Nb,tuple_int->ag0,str_str->ag1,str_none->ag2,str_bool->ag3,of_refs->ag4,none_str->ag5,none_int->ag6,none_bool->ag7,int_tuple->ag8,int_none->ag9,int_bool->aha,bool_str->ahb,bool_none->ahc,bool_int->ahd,bool_bool->ahe
open List.Perm renaming length_eq->IZ,eq_of_pairwise->ahx
open NLines renaming flat->Lm,pieces->XD
open PySem.Heap.DictOf renaming new->Lr
open PySem.Around renaming under_plainId->Lu
open List.cons renaming injEq->OA
open PySem.Sem renaming attempt->QJ
open PySem.NameKind renaming free->UZ,cell->ahJ
open BloodNeutral.weight renaming ofPlace->U5
open PySem.IsRange renaming new->YC
open PySem.Builtin.Builtins renaming bindParams->YG
open PySem.Shared renaming heap->aba
open PySem.Walks renaming range->abC,list->adH
open PySem.Heap.IsSliceOf renaming new->abI
open PySem.CmpOp renaming NotIn->abK,In->ags
open PySem.W.Looks renaming here->adJ
open PySem.EqMixed renaming ne_str_int->adK,ne_str_bool->adL,ne_int_str->adM,ne_bool_str->adN,eq_str_int->adO,eq_str_bool->adP,eq_int_str->adQ,eq_bool_str->adR
open PySem.Within renaming cons->aem
open PySem.EqNone renaming ne_str_none->aen,ne_none_str->aeo,ne_none_none->aep,ne_none_int->aeq,ne_none_bool->aer,ne_int_none->aes,ne_bool_none->aet,eq_str_none->aeu,eq_none_str->aev,eq_none_none->aew,eq_none_int->aex,eq_none_bool->aey,eq_int_none->aez,eq_bool_none->aeA
open Blood.House renaming mk->agu
open PySem.SeqAt.RcAt renaming tuples->agZ
open PySem.W.ReadsAllW renaming nil->ahu,cons->ahv
open PySem.IsL renaming update->ahw
open PySem.DictEntry renaming refKey->ahA
open PySem.W.OpenSpec renaming post_iff->ahI
open PySem.Heap.Ns1 renaming of_empty->ahK
abbrev gY:=oA->PySem.Shared->Prop
abbrev dE:=List Nat
abbrev i4:=List (vf×PySem.Obj)
abbrev fM:=List oA
abbrev kQ:=IV->Option oA
abbrev j9:=List (IV×vf)
abbrev nL:=Nat->vf
abbrev iY:=List vf
abbrev mV:=List (Nat×Nat)
abbrev jn:=List Int
abbrev iW:=List IV
abbrev mW:=List PySem.Expr
abbrev AJ:=Nat->Option vf
abbrev mj:=Array oA
abbrev uu:=List (IV×PySem.NameKind)
abbrev wk:=Array (Option oA)
abbrev EB:=oA->oA->PySem.Sem oA
abbrev ur:=Array PySem.DictEntry
abbrev pN:=Option Int
abbrev pM:=Option vf
def exs1{A0:Sort _}{p:A0->Prop}{C:Prop}(h:∃a,p a)(i:∀a,p a->C):C:=h.elim i
def exs2{A0 A1:Sort _}{p:A0->A1->Prop}{C:Prop}(h:∃a b,p a b)(i:∀a b,p a b->C):C:=h.elim λa h=>exs1 h (i a)
def exs3{A0 A1 A2:Sort _}{p:A0->A1->A2->Prop}{C:Prop}(h:∃a b c,p a b c)(i:∀a b c,p a b c->C):C:=h.elim λa h=>exs2 h (i a)
def exs4{A0 A1 A2 A3:Sort _}{p:A0->A1->A2->A3->Prop}{C:Prop}(h:∃a b c d,p a b c d)(i:∀a b c d,p a b c d->C):C:=h.elim λa h=>exs3 h (i a)
def exs5{A0 A1 A2 A3 A4:Sort _}{p:A0->A1->A2->A3->A4->Prop}{C:Prop}(h:∃a b c d e,p a b c d e)(i:∀a b c d e,p a b c d e->C):C:=h.elim λa h=>exs4 h (i a)
def exs6{A0 A1 A2 A3 A4 A5:Sort _}{p:A0->A1->A2->A3->A4->A5->Prop}{C:Prop}(h:∃a b c d e f,p a b c d e f)(i:∀a b c d e f,p a b c d e f->C):C:=h.elim λa h=>exs5 h (i a)
def exs7{A0 A1 A2 A3 A4 A5 A6:Sort _}{p:A0->A1->A2->A3->A4->A5->A6->Prop}{C:Prop}(h:∃a b c d e f g,p a b c d e f g)(i:∀a b c d e f g,p a b c d e f g->C):C:=h.elim λa h=>exs6 h (i a)
def ans1{a b C:Prop}(h:a/\b)(i:a->b->C):C:=i h.1 h.2
def ans2{a b c C:Prop}(h:a/\b/\c)(i:a->b->c->C):C:=ans1 h.2 (i h.1)
def ans3{a b c d C:Prop}(h:a/\b/\c/\d)(i:a->b->c->d->C):C:=ans2 h.2 (i h.1)
def ans4{a b c d e C:Prop}(h:a/\b/\c/\d/\e)(i:a->b->c->d->e->C):C:=ans3 h.2 (i h.1)
def ans5{a b c d e f C:Prop}(h:a/\b/\c/\d/\e/\f)(i:a->b->c->d->e->f->C):C:=ans4 h.2 (i h.1)
def ans6{a b c d e f g C:Prop}(h:a/\b/\c/\d/\e/\f/\g)(i:a->b->c->d->e->f->g->C):C:=ans5 h.2 (i h.1)
def ans7{a b c d e f g m C:Prop}(h:a/\b/\c/\d/\e/\f/\g/\m)(i:a->b->c->d->e->f->g->m->C):C:=ans6 h.2 (i h.1)
def ifp{c A B:Prop}[Decidable c](h:c)(a:A):ite c A B:=(if_pos h).mpr a
def ifn{c A B:Prop}[Decidable c](h:¬c)(a:B):ite c A B:=(if_neg h).mpr a
open Lean in
abbrev Tac:=MacroM (TSyntax `tactic)
open Lean in
abbrev RP:=TSyntax ``Parser.Tactic.rcasesPatLo
open Lean in
def obI(p:RP):Tac:=match p with
|`(Parser.Tactic.rcasesPatLo|$x:ident)=>if x.getId==`rfl then `(tactic|(intro z;obtain $x:ident:=z)) else `(tactic|intro $x:ident)
|`(Parser.Tactic.rcasesPatLo|$m:rcasesPatMed)=> `(tactic|(intro z;obtain $m:rcasesPatMed:=z))
|_=>Macro.throwUnsupported
open Lean in
def obT(t s:TSyntax `tactic):Tac:= `(tactic|($t:tactic<;>$s))
open Lean in
def obF(t s:TSyntax `tactic):Tac:= `(tactic|first|$t:tactic|$s:tactic)
open Lean in
def obR(q:Array RP):Tac:=if q.size==1 then obI q[0]! else `(tactic|(intro z;obtain ⟨$q,*⟩:=z))
open Lean in
def tR(p:Term):MacroM RP:=match p with|`($x:ident)=> `(Parser.Tactic.rcasesPatLo|$x:ident)|_=> `(Parser.Tactic.rcasesPatLo|_)
open Lean in
def obX(c:String)(x:Array RP)(e:Term)(r:Tac):Tac:=do
 let f:=mkIdent (.mkSimple s!"{c}{x.size}")
 let mut t←if e.raw.isIdent then `(tactic|(refine $f $e ?_;try clear $(⟨e⟩))) else `(tactic|refine $f $e ?_)
 for p in x do t←obT t (←obI p)
 obT t (←r)
open Lean in
def liA(s:String)(n:Nat)(a:TSyntax `tactic):Tac:=do
 let f:=mkIdent s.toName
 obF (←match n with|0=> `(tactic|exact $f ..)|1=> `(tactic|exact $f ‹_›)|_=> `(tactic|exact $f ‹_› ‹_›)) a
open Lean in
local macro_rules
|`(tactic|let ⟨$q,*⟩:=$e)=>do
 let q:=q.getElems
 let n:=q.size-1
 let r:=q.extract 1 q.size
 let L(x:Array Term):Tac:=do obX "exs" (←x.mapM tR) e (if n==1 then do obI (←tR r[0]!) else `(tactic|(intro z;let ⟨$r,*⟩:=z)))
 match q[0]! with
 |`($f $x*)=>L (#[f]++x)
 |`(($f))=>L #[f]
 |_=>
  let q←q.mapM tR
  obF (←obX "ans" (q.extract 0 n) e (obI q[n]!)) (← `(tactic|obtain ⟨$q,*⟩:=$e))
|`(tactic|obtain ⟨$q,*⟩:=$e)=>do
 let q:=q.getElems
 if q.size<2 then Macro.throwUnsupported
 let mut a← `(tactic|rcases $e:term with ⟨$q,*⟩)
 for c in ["ans","exs"] do for k in [1:min q.size 8] do a←obF (←obX c (q.extract 0 k) e (obR (q.extract k q.size))) a
 return a
|`(tactic|cases $h:ident)=> `(tactic|first|(guard_hyp $h : _=_;subst $h)|(injection $h with $h z y;cases $h:ident;cases z;cases y)|(injection $h with $h z;cases $h:ident;cases z)|(injection $h with $h;cases $h:ident)|(injection $h;done)|cases ($h))
|`(tactic|rintro $p $q $r*)=> `(tactic|rintro $p:rintroPat<;>rintro $q $r*)
|`(tactic|rintro ⟨$q,*⟩)=> `(tactic|(intro z;obtain ⟨$q,*⟩:=z))
|`(tactic|subst_eqs)=> `(tactic|first|exact Or.inl rfl|exact Or.inr rfl|assumption|exact Or.inr (Or.inl rfl)|exact Or.inr (Or.inr rfl))
|`(tactic|ac_rfl)=>do
 let a← `(tactic|first|refine ifp (by first|assumption|trivial) ?_|refine ifn (by first|assumption|trivial) ?_)
 `(tactic|($a:tactic;repeat $a:tactic))
|`(tactic|lia)=>do
 let mut a← `(tactic|first|exact absurd ‹_› (Nat.not_lt_zero _)|exact absurd ‹_› (by decide)|lia (splits:=9)|omega)
 for (n,s) in [(0,"Nat.succ_pos Nat.zero_le Nat.le_add_right Nat.le_add_left Nat.lt_succ_self"),(2,"Nat.le_trans Nat.lt_of_le_of_lt Nat.lt_of_lt_of_le"),(1,"Nat.le_of_not_lt Nat.lt_of_not_le Nat.lt_succ_of_le Nat.le_of_lt_succ Nat.le_of_lt")] do for x in s.splitOn " " do a←liA x n a
 `(tactic|first|assumption|with_reducible rfl|decide|$a:tactic)
|`(~~~$s)=> `(($s).length)
namespace L2
open PySem PySem.Spec PyProof.Rows
abbrev Key:=Sum Int gw
def uM:Key->eA->Bool
 | .inl k,v=>Cy k v
 | .inr x,v=>Yz x v
def afh(w:iu):Key->Int
 | .inl k=>abA k
 | .inr x=>hashStr w x
theorem kC: ∀{k:Key} {v:eA},uM k v=true->(∃i t,k=jN i/\v=xD i t)\/(∃x t,k=Na x/\v=IR x t)
 | .inl i,v,h=>by let⟨(t),e⟩:=Value.isInt_shape h;exact .inl ⟨i,t,rfl,e⟩
 | .inr x,v,h=>by let⟨(t),e⟩:=Value.isStrOf_shape h;exact .inr ⟨x,t,rfl,e⟩
def PZ(i:Int)(t:Tok):uM (.inl i) (.int i t)=true:=by simp[uM,Cy]
def PY(x:gw)(t:Tok):uM (.inr x) (.str x t)=true:=by simp[uM,Yz]
def ZZ(a b:Int):decide ((jN a:Key)=jN b)=(a==b):=by
 grind
def ZW(a b:gw):decide ((Na a:Key)=Na b)=decide (a=b):=by simp
def ZY(a:Int)(b:gw):decide ((jN a:Key)=Na b)=false:=fj (λq=>nomatch q)
def ZX(a:gw)(b:Int):decide ((Na a:Key)=jN b)=false:=fj (λq=>nomatch q)
def jB(prog:fY)(w:iu):PySem.KeyKind prog w Key where
 is:=uM
 hash:=afh w
 inj:=λv a b g d=>by
  rcases kC g with⟨i,t,rfl,rfl⟩|⟨x,t,rfl,rfl⟩
  .rcases kC d with⟨j,u,rfl,e⟩|⟨y,u,rfl,e⟩
   .injection e with e1 _;rw[e1]
   .exact nomatch e
  .rcases kC d with⟨j,u,rfl,e⟩|⟨y,u,rfl,e⟩
   .exact nomatch e
   .injection e with e1 _;rw[e1]
 byValue:=λk v h=>by rcases kC h with⟨i,t,rfl,rfl⟩|⟨x,t,rfl,rfl⟩<;>rfl
 pyHash:=λc h=>by
  rcases kC c with⟨i,t,rfl,rfl⟩|⟨x,t,rfl,rfl⟩
  .exact adB h
  .exact wpAny_pyHash_str h
 eqBool:=λf c h=>by
  rcases kC f with⟨i,t,rfl,rfl⟩|⟨x,t,rfl,rfl⟩
  .rcases kC c with⟨j,u,rfl,rfl⟩|⟨y,u,rfl,rfl⟩
   .rw[ZZ]at h;exact adE h
   .rw[ZY]at h;exact IT i t y u _ _ _ _ h
  .rcases kC c with⟨j,u,rfl,rfl⟩|⟨y,u,rfl,rfl⟩
   .rw[ZX]at h;exact IS x t j u _ _ _ _ h
   .rw[ZW]at h;exact wpAny_eqBool_str h
 «strs»:=λk x t v h=>by
  rcases kC h with⟨i,u,rfl,e⟩|⟨y,u,rfl,e⟩
  .exact nomatch e
  .injection e with e1 _;subst e1;cases v<;>rfl
def Ka(prog:fY)(w:iu)(i:Int)(t:Tok):(jB prog w).is (.inl i) (.int i t)=true:=PZ i t
def J9(prog:fY)(w:iu)(x:gw)(t:Tok):(jB prog w).is (.inr x) (.str x t)=true:=PY x t
inductive NK where
 |int (i:Int)
 |tup (l:List NK)
mutual
def NK.dec:(a b:NK)->Decidable (a=b)
 | .int i,.int j=>if h:i=j then .isTrue (by rw[h])else .isFalse (by intro e;cases e;exact h rfl)
 | .int _,.tup _=> .isFalse (by intro e;cases e)
 | .tup _,.int _=> .isFalse (by intro e;cases e)
 | .tup l,.tup m=>match NK.cw l m with
  | .isTrue h=> .isTrue (by rw[h])
  | .isFalse h=> .isFalse (by intro e;cases e;exact h rfl)
def NK.cw:(a b:List NK)->Decidable (a=b)
 | [],[]=> .isTrue rfl
 | [],_::_=> .isFalse (by intro e;cases e)
 |_::_,[]=> .isFalse (by intro e;cases e)
 |x::xs,y::ys=>match NK.dec x y,NK.cw xs ys with
  | .isTrue h,.isTrue g=> .isTrue (by rw[h,g])
  | .isFalse h,_=> .isFalse (by intro e;cases e;exact h rfl)
  |_,.isFalse g=> .isFalse (by intro e;cases e;exact g rfl)
end
instance:DecidableEq NK:=NK.dec
mutual
def NK.hash:NK->Int
 | .int i=>abA i
 | .tup l=>reduceHash (adX (NK.bw l))
def NK.bw:List NK->List Int
 | []=> []
 |k::ks=>NK.hash k::NK.bw ks
end
mutual
def NK.draws:NK->Nat
 | .int _=>1
 | .tup l=>NK.aE l+1
def NK.aE:List NK->Nat
 | []=>0
 |k::ks=>NK.draws k+NK.aE ks
end
mutual
def NK.depth:NK->Nat
 | .int _=>0
 | .tup l=>NK.ae l+1
def NK.ae:List NK->Nat
 | []=>0
 |k::ks=>max (NK.depth k) (NK.ae ks)
end
mutual
def yk(h:iZ):NK->eA->Prop
 | .int i,v=> ∃t,v= .int i t
 | .tup l,v=> ∃a o items n,v= .ref a/\h.get? a=some o/\o.cls= .type "tuple" /\o.data= .seq items n/\qD h l items.toList
def qD(h:iZ):List NK->List eA->Prop
 | [],vs=>vs=[]
 |k::ks,vs=> ∃v r,vs=v::r/\yk h k v/\qD h ks r
end
mutual
theorem yk.inj{h:iZ}: ∀{x y:NK} {v:eA},yk h x v->yk h y v->x=y
 | .int i,.int j,v,a,b=>by let⟨(t),rfl⟩:=a;let⟨(t'),e⟩:=b;cases e;rfl
 | .int i,.tup l,v,a,b=>by let⟨(t),rfl⟩:=a;let⟨_ _ _ _,e,_⟩:=b;cases e
 | .tup l,.int i,v,a,b=>by let⟨(t),rfl⟩:=b;let⟨_ _ _ _,e,_⟩:=a;cases e
 | .tup l,.tup m,v,a,b=>by let⟨a1 o items n,rfl,h1,_,h2,h3⟩:=a;let⟨a2 o' items' n',e,g1,_,g2,g3⟩:=b;cases e;rw[h1]at g1;cases g1;rw[h2]at g2;cases g2;rw[qD.inj h3 g3]
theorem qD.inj{h:iZ}: ∀{x y:List NK} {v:fM},qD h x v->qD h y v->x=y
 | [],[],v,a,b=>rfl
 | [],_::_,v,a,b=>by have a':v=[]:=a;let⟨_ _,e,_⟩:=b;rw[a']at e;cases e
 |_::_,[],v,a,b=>by have b':v=[]:=b;let⟨_ _,e,_⟩:=a;rw[b']at e;cases e
 |x::xs,y::ys,v,a,b=>by let⟨u r,rfl,h1,h2⟩:=a;let⟨u' r',e,g1,g2⟩:=b;cases e;rw[yk.inj h1 g1,qD.inj h2 g2]
end
mutual
theorem yk.keeps{h h':iZ}(k: ∀b o items n,h.get? b=some o->o.cls= .type "tuple" ->o.data= .seq items n->h'.get? b=some o): ∀{x:NK} {v:eA},yk h x v->yk h' x v
 | .int i,v,a=>a
 | .tup l,v,a=>by let⟨a1 o items n,rfl,h1,h2,h3,h4⟩:=a;exact⟨a1,o,items,n,rfl,k _ _ _ _ h1 h2 h3,h2,h3,qD.keeps k h4⟩
theorem qD.keeps{h h':iZ}(k: ∀b o items n,h.get? b=some o->o.cls= .type "tuple" ->o.data= .seq items n->h'.get? b=some o): ∀{x:List NK} {v:fM},qD h x v->qD h' x v
 | [],v,a=>a
 |x::xs,v,a=>by let⟨u r,rfl,h1,h2⟩:=a;exact⟨u,r,rfl,yk.keeps k h1,qD.keeps k h2⟩
end
theorem qD.length{h:iZ}: ∀{x:List NK} {v:fM},qD h x v-> ~~~x= ~~~v
 | [],v,a=>by have b:=a;rw[b];rfl
 |x::d,v,a=>by let⟨u r,rfl,e,c⟩:=a;rw[dB,dB,qD.length c]
section
variable {s:dJ}
def Ms: ∀(b:List NK) (c:fM) (a:Array Int) (t:Nat) (R:Array Int->dJ->Prop),qD s.heap b c->
  (∀(d:gY) (k:NK) (v:eA) (t:Nat) (Q:Int->dJ->Prop),k∈b->yk s.heap k v->Q k.hash {s with toks:=t+k.draws}->dR (dZ prog w) A1 (aa1 v) Q d {s with toks:=t})->
  (∀r:Array Int,r.toList=a.toList++NK.bw b->R r {s with toks:=t+NK.aE b})->
  dR (dZ prog w) A1 (forIn c a λx r=>do let h<-aa1 x;pure zJ;pure (nI (r.push h))) R E {s with toks:=t}:=by
 intro b;induction b with
 |nil=>intro c a t R f _ h;have e:=f;subst e;exact de (h a (km _).symm)
 |cons k b ih=>intro c a t R f step h;let⟨v r,rfl,l,n⟩:=f;rw[oy];refine c9 (c9 (step _ k v t _ (fk ..) l (c9 (de (de ?_)))));refine ih r (a.push k.hash) (t+k.draws) R n (λd i j t' q o=>step d i j t' q (eP _ o)) λg m=> ?_;have p:t+k.draws+NK.aE b=t+NK.aE (k::b):=Nat.add_assoc ..;rw[p];exact h g (by rw[m,Array.toList_push,List.append_assoc];rfl)
def Mr(d:A.units<jc)(c:s.heap.get? a=some o)(g:o.cls= .type "tuple")(hd:o.data= .seq items n)
  (e:qD s.heap ks items.toList)
  (step: ∀(E:gY) (k:NK) (v:eA) (t:Nat) (Q:Int->dJ->Prop),k∈ks->yk s.heap k v->Q k.hash {s with toks:=t+k.draws}->dR (dZ prog w) A.in1 (aa1 v) Q E {s with toks:=t})
  (h:Q (NK.tup ks).hash {s with toks:=s.toks+(NK.tup ks).draws}):dR (dZ prog w) A (aa1 (.ref a)) Q E s:=by
 refine PySem.W.pyHash_slot ⟨o,c,g⟩ F.slot_tuple_hash F.entry_tuple_hash (F.args_tuple_hash_1 _) (beq_builtin_none _) (.inr d) ?_;refine c9 (m:=zL (.ref a)) (wpAny_tupleItemsOf c hd (c9 ?_));rw[<-QS];refine Ms ks items.toList #[] s.toks _ e step λr f=> ?_;have b:=f;refine c9 (wpAny_mkInt (de ⟨_,_,rfl,?_⟩));rw[b];exact h
end
theorem tz: ∀{a:List NK} {k:NK},k∈a->k.depth<=NK.ae a
 | [],k,h=>by simp at h
 |x::b,k,h=>by
  rcases eM.mp h with rfl|h
  .exact Nat.le_max_left _ _
  .exact eC (tz h) (Nat.le_max_right _ _)
section
theorem pE(A:i6):A.in1.units=A.units+1:=rfl
theorem Gz: ∀(n:Nat) (A:i6) (E:gY) (s:dJ) (k:NK) (v:eA) (Q:Int->dJ->Prop),k.depth<=n->A.units+n<jc->yk s.heap k v->Q k.hash {s with toks:=s.toks+k.draws}->
  dR (dZ prog w) A (aa1 v) Q E s
 |n,A,E,s,.int i,v,Q,_,_,hk,h=>by let⟨(t),rfl⟩:=hk;exact adB h
 |0,A,E,s,.tup l,v,Q,hd,_,hk,h=>by lia
 |n+1,A,E,s,.tup l,v,Q,hd,r,hk,h=>by let⟨a o items m,rfl,b,d,g,j⟩:=hk;have p:NK.ae l+1<=n+1:=hd;refine Mr (by lia) b d g j (λe k v t q f hk c=> ?_) h;exact Gz n A.in1 e {s with toks:=t} k v q (by have:=tz f;lia) (by rw[pE];lia) hk c
theorem zb: ∀{a:List NK} {b:fM} {j:Nat} (c:j< ~~~b) (hk:j< ~~~a),qD h a b->yk h a[j] b[j]
 | [],_,j,_,hk,_=>absurd hk (YA j)
 |k::a,_,0,_,_,r=>by let⟨_ _,rfl,d,_⟩:=r;exact d
 |k::a,_,j+1,c,hk,r=>by let⟨v b,rfl,_,e⟩:=r;exact zb (j:=j) (by simpa using c) (by simpa using hk) e
def Ez(x y:List NK):((eE (min (~~~x) (~~~y))).all (λj=>decide (x[j]?=y[j]?))&& ~~~x== ~~~y)=decide (x=y):=by
 by_cases e:x=y
 .simp_all
 .rw[fj e];by_cases hl: ~~~x= ~~~y
  .refine Nd.mpr (.inl ?_);by_cases z:(eE (min (~~~x) (~~~y))).all (λj=>decide (x[j]?=y[j]?))=true
   .refine absurd (BA λj=> ?_) e;by_cases hj:j< ~~~x
    .simp_all
    .simp_all
   .grind
  .simp_all
theorem AF: ∀(n:Nat) (A:i6) (s:dJ) (x y:NK) (u v:eA),x.depth<=n->A.units+n<jc->yk s.heap x u->yk s.heap y v->zH A s u v (decide (x=y))
 |n,A,s,.int i,.int j,u,v,_,_,⟨t,g⟩,⟨t',B⟩=>by
  subst g B;have e:decide (NK.int i=NK.int j)=(i==j):=by
   by_cases z:i=j
   .subst z;simp
   .simp_all
  rw[e];exact λprog w E Q h=>adE h
 |n,A,s,.int i,.tup l,u,v,_,H,⟨t,g⟩,⟨a,o,items,m,B,f,k,p,r⟩=>by subst g B;rw[fj (by intro e;cases e)];exact ag8 i t ⟨o,f,k,m,p⟩ (by lia)
 |n,A,s,.tup l,.int i,u,v,_,H,⟨a,o,items,m,g,f,k,p,r⟩,⟨t,B⟩=>by subst g B;rw[fj (by intro e;cases e)];exact ag0 i t ⟨o,f,k,m,p⟩ (by lia)
 |0,A,s,.tup l,.tup m,u,v,hd,_,_,_=>absurd hd (Nat.not_succ_le_zero _)
 |n+1,A,s,.tup l,.tup m,u,v,hd,H,G,I=>by
  have P:NK.ae l+1<=n+1:=hd;have same:u=v->l=m:=λz=>by subst z;have q:=yk.inj G I;injection q
  let⟨a o items M,rfl,f,k,p,r⟩:=G;let⟨b R c T,rfl,g1,g2,g3,F⟩:=I;have S:decide (NK.tup l=NK.tup m)=decide (l=m):=by
   simp_all
  rw[S];by_cases hab:a=b
  .subst hab;rw[mI (same rfl)];exact Nb _
  .refine ag4 hab ?_;have z:=agZ (A:=A) (e:=λj=>decide (l[j]?=m[j]?)) ⟨o,f,k,M,p⟩ ⟨R,g1,g2,T,g3⟩ (by lia) λj d C=> ?_
   .have O:items.size= ~~~l:=by rw[~~~r,fB]
    have N:c.size= ~~~m:=by rw[~~~F,fB]
    rw[O,N,Ez]at z;exact z
   .have J:j< ~~~l:=by rw[~~~r,fB];exact d
    have U:j< ~~~m:=by rw[~~~F,fB];exact C
    have e:decide (l[j]?=m[j]?)=decide (l[j]=m[j]):=by
     simp_all
    rw[e];refine AF n A.in1 s l[j] m[j] items[j] c[j] (by have:=tz (nG J);lia) (by rw[pE];lia) ?_ ?_
    .have q:=zb (by rw[fB];exact d) J r;rwa [Ng]at q
    .have q:=zb (by rw[fB];exact C) U F;rwa [Ng]at q
def JA: ∀(a:List NK) (b:fM) (R:Option Bool×PUnit->dJ->Prop),qD s.heap a b->
  (∀(d:gY) (k:NK) (v:eA) (Q:Bool->dJ->Prop),k∈a->yk s.heap k v->Q true s->dR (dZ prog w) A (QY n v) Q d s)->R (none,⟨⟩) s->
  dR (dZ prog w) A (forIn b (none,zJ) λy (r:Option Bool×PUnit)=>do let c<-QY n y;if(!c)=true then pure (ahz (some false,zJ))else do pure zJ;pure (nI (none,zJ))) R E s:=by
 intro a;induction a with
 |nil=>intro b R f _ h;have e:=f;subst e;exact de h
 |cons k a ih=>intro b R f step h;let⟨v r,rfl,j,l⟩:=f;rw[oy];refine c9 (c9 (step _ k v _ (fk ..) j ?_));exact de (ih r R l (λd g i o m=>step d g i o (eP _ m)) h)
theorem Dg: ∀(n:Nat) (A:i6) (E:gY) (s:dJ) (k:NK) (v:eA) (Q:Bool->dJ->Prop),k.depth<n->yk s.heap k v->Q true s->dR (dZ prog w) A (QY n v) Q E s
 |n,A,E,s,.int i,v,Q,_,⟨t,b⟩,h=>by subst b;exact rD (eqIsQuiet_byValue n rfl) h
 |0,A,E,s,.tup l,v,Q,hd,_,_=>absurd hd (YA _)
 |n+1,A,E,s,.tup l,v,Q,hd,⟨a,o,items,m,b,c,q,e,p⟩,h=>by subst b;have j:NK.ae l+1<n+1:=hd;have ty:s.TypeIs (.ref a) "tuple" :=⟨o,c,q⟩;unfold QY;refine c9 (yC ty F.slot_tuple_eq.lookup (c9 (oq ty isSubtype_tuple_tuple ?_)));refine c9 (jK c e (c9 ?_));rw[<-QS];refine JA l items.toList _ p (λf k u r g hk d=>Dg n A f s k u r (by have:=tz g;lia) hk d) (de h)
end
def oM(prog:fY)(w:iu):HeapKind prog w (List NK) where
 is:=λh l a=>NK.ae l<=6/\yk h (.tup l) (.ref a)
 hash:=λl=>(NK.tup l).hash
 draws:=λl=>(NK.tup l).draws
 room:=λA=>A.units+8<jc
 inj:=λc g=>by have:=yk.inj c.2 g.2;injection this
 keeps:=λ{h h' k a d o u t} x j hd p=>⟨x.1,yk.keeps (λb z items n e v i=>by
  have f:b≠d:=by rintro rfl;rw[e]at j;cases j;rw[hd]at i;cases i
  exact(p.2 b f).trans e) x.2⟩
 pyHash:=λ{A E s k a Q} m hk h=>Gz 7 A E s (.tup k) (.ref a) Q (by have:=hk.1;show NK.ae k+1<=7;lia) (by lia) hk.2 h
 eqBool:=λ{A E s x y a b Q} m c g h=>AF 7 A s (.tup x) (.tup y) (.ref a) (.ref b) (by have:=c.1;show NK.ae x+1<=7;lia) (by lia) c.2 g.2 _ _ E Q (by
  have r:decide (NK.tup x=NK.tup y)=decide (x=y):=by
   by_cases e:x=y
   .subst e;simp
   .rw[fj e,fj (λq=>e (by injection q))]
  rw[r];exact h)
 quiet:=λ{A E s k a Q} hk h=>Dg 8 A E s (.tup k) (.ref a) Q (by have:=hk.1;show NK.ae k+1<8;lia) hk.2 h
inductive V where
 |non|bl (b:Bool)|int (i:Int)|str (x:gw)|byt (b:Array UInt8)|flt (b:UInt64)|ref (a:eB)|ty (n:String)
 deriving DecidableEq
def RelV:V->eA->Prop
 | .non,u=>u=mw
 | .bl b,u=>u=ox b
 | .int i,u=> ∃t,u=xD i t
 | .str x,u=> ∃t,u=IR x t
 | .byt b,u=> ∃t,u=abE b t
 | .flt b,u=> ∃t,u=abD b t
 | .ref a,u=>u=eD a
 | .ty n,u=>u=jO n
abbrev gF:List V->List eA->Prop:=yu RelV
def gF.length{a:List V}{us:fM}(r:gF a us): ~~~a= ~~~us:=jS r
theorem gF.get: ∀{a:List V} {us:fM} {i:Nat} {x:V},gF a us->a[i]?=some x-> ∃u,us[i]?=some u/\RelV x u
 |_,_,_,_,.nil,e=>by simp at e
 |_,_,0,_,.cons r _,e=>by simp at e;subst e;exact⟨_,rfl,r⟩
 |_,_,i+1,x,.cons _ t,e=>by
  let⟨(u),b,c⟩:=gF.get t (by simpa using e)
  simp_all
theorem gF.set(r:RelV x u): ∀{a:List V} {us:fM} (i:Nat),gF a us->gF (a.set i x) (us.set i u)
 |_,_,_,.nil=> .nil
 |_,_,0,.cons _ t=> .cons r t
 |_,_,i+1,.cons q t=> .cons q (gF.set r i t)
theorem gF.append: ∀{a c:List V} {us b:fM},gF a us->gF c b->gF (a++c) (us++b)
 |_,_,_,_,.nil,s=>s
 |_,_,_,_,.cons r t,s=> .cons r (gF.append t s)
theorem gF.take: ∀{a:List V} {us:fM} (n:Nat),gF a us->gF (a.take n) (us.take n)
 |_,_,0,_=> .nil
 |_,_,_+1,.nil=> .nil
 |_,_,n+1,.cons r t=> .cons r (gF.take n t)
theorem gF.drop: ∀{a:List V} {us:fM} (n:Nat),gF a us->gF (a.drop n) (us.drop n)
 |_,_,0,r=>r
 |_,_,_+1,.nil=> .nil
 |_,_,n+1,.cons _ t=>gF.drop n t
def yj:Option V->Option eA->Prop
 |some v,some u=>RelV v u
 |none,none=>True
 |_,_=>False
def KV{a:Type}:List (a×V)->List (a×eA)->Prop:=yu λ(p:a×V) (q:a×eA)=>p.1=q.1/\RelV p.2 q.2
def kV:Key->V
 | .inl i=> .int i
 | .inr x=> .str x
inductive HO where
 |lst (xs:List V)
 |tup (xs:List V)
 |dK (kvs:List (Key×V))|dT (kvs:List (List NK×V))
 |set (S:Int->Bool) (n:Nat)
 |ins (C dx:eB) (fs:List (gw×V))
 |own (x:eB)
 |xd (fs:List (gw×V))
 |met (f x:eB)
 |rng (lo hi:Int)
 |frz (o:xG) (u:HO)
 |tbl (ps:mj)
 |ext (φ:iZ->Prop)
abbrev Hp:=eB->Option HO
def upd(H:Hp)(a:eB)(o:HO):Hp:=λb=>if b=a then some o else H b
def eR:upd H a o a=some o:=by unfold upd;rw[dq rfl]
def d9{H:Hp}{a b:eB}{o:HO}(h:b≠a):upd H a o b=H b:=by unfold upd;rw[di h]
def X7{H:Hp}{a b:eB}{o u:HO}(h:H a=some o)(h':H b=some u)(d:o≠u):a≠b:=by lia
def fz{H:Hp}{a b:eB}{o:HO}(h:H a=some o)(h':H b=none):a≠b:=by lia
mutual
def M4(H:Hp):NK->V->Prop
 | .int i,v=>v= .int i
 | .tup l,v=> ∃a us,v= .ref a/\H a=some (.tup us)/\EG H l us
def EG(H:Hp):List NK->List V->Prop
 | [],us=>us=[]
 |k::ks,us=> ∃u r,us=u::r/\M4 H k u/\EG H ks r
end
def TupAt(H:Hp)(a:eB)(l:List NK):Prop:=NK.ae l<=6/\M4 H (.tup l) (.ref a)
mutual
theorem M4.keeps{H H':Hp}(ht: ∀b xs,H b=some (.tup xs)->H' b=some (.tup xs)): ∀{k:NK} {v:V},M4 H k v->M4 H' k v
 | .int i,v,h=>h
 | .tup l,v,h=>by let⟨a us,rfl,h1,h2⟩:=h;exact⟨a,us,rfl,ht _ _ h1,EG.keeps ht h2⟩
theorem EG.keeps{H H':Hp}(ht: ∀b xs,H b=some (.tup xs)->H' b=some (.tup xs)): ∀{k:List NK} {v:List V},EG H k v->EG H' k v
 | [],v,h=>h
 |k::ks,v,h=>by let⟨u r,rfl,h1,h2⟩:=h;exact⟨u,r,rfl,M4.keeps ht h1,EG.keeps ht h2⟩
end
def TupAt.keeps(c: ∀b xs,H b=some (.tup xs)->H' b=some (.tup xs))(h:TupAt H a l):TupAt H' a l:=⟨h.1,M4.keeps c h.2⟩
def sG(h:iZ)(a:eB)(items:mj):Prop:= ∃o,h.get? a=some o/\o.cls= .type "tuple" /\ ∃n,o.data= .seq items n/\o.dict=none
def sG.tup{h:iZ}{a:eB}{items:mj}(x:sG h a items):vv h a items:=let⟨o,b,c,n,d,_⟩:=x;⟨o,b,c,n,d⟩
def sG.lt(x:sG h a items):a<h.objs.size:=x.tup.lt
def sG.laid(h:iZ)(items:mj):sG (h.push {cls:= .type "tuple",data:= .seq items}) h.objs.size items:=⟨_,dw _ rfl,rfl,_,rfl,rfl⟩
section
variable (P:fY) (w:iu)
def jM(H:Hp)(h:iZ)(a:eB):HO->Prop
 | .lst d=> ~~~d<=eQ/\ ∃(c:fM) (n:Nat),gF d c/\h.get? a=some {cls:= .type "list",data:= .seq c.toArray n}
 | .tup d=> ~~~d<=eQ/\ ∃c:List eA,gF d c/\sG h a c.toArray
 | .dK b=> ~~~b<=eQ/\(a==ir)=false/\ ∃m,KV b m/\h.DictOf (jB P w) a m
 | .dT b=> ~~~b<=eQ/\(a==ir)=false/\ ∃d:List (List NK×eB×eA),
   yu (λ(p:List NK×V) (q:List NK×eB×eA)=>p.1=q.1/\TupAt H q.2.1 p.1/\RelV p.2 q.2.2) b d/\
   ∃o r s,h.get? a=some o/\o.ExactDict/\o.data= .dict r s/\r.toList=d.map (entryOfKey (oM P w))/\(d.map (·.1)).Nodup
 | .set S n=>h.SetOf (intKind P w) a S n
 | .ins C i g=>H i=some (.own a)/\ ~~~g<=1000/\i≠a/\h.get? a=some (lA C i)/\
   ∃e,h.Ns1 i e/\(∀f,yj (g.lookup f) (e f))/\Lc e (g.map (·.1))
 | .own _=> ∃o,h.get? a=some o
 | .xd g=> ∃e,h.Ns1 a e/\ ∀f,yj (g.lookup f) (e f)
 | .rng lo y=> ∃t u v,h.get? a=some {cls:= .type "range",data:= .fields #[.int lo t,.int y u,.int 1 v]}
 | .frz o u=>h.get? a=some o/\jM H h a u
 | .tbl ps=>h.get? a=some {cls:= .none,data:= .fields ps}
 | .met f x=>h.get? a=some (PySem.W.methodObj (.ref f) (.ref x))
 | .ext j=>j h/\(∃o,h.get? a=some o)/\ ∀k l:iZ,j k->(∀o,k.get? a=some o->l.get? a=some o)->j l
def ve(H:Hp)(h:iZ):Prop:= ∀a o,H a=some o->jM P w H h a o
end
section
def jM.lt(x:jM P w H h a o):a<h.objs.size:=by
 cases o with
 |lst d=>obtain⟨_,_,_,_,e⟩:=x;exact dD e
 |tup d=>obtain⟨_,_,_,p⟩:=x;exact p.lt
 |dK b=>obtain⟨_,_,_,_,o,_,_,e,_⟩:=x;exact dD e
 |dT b=>obtain⟨_,_,_,_,o,_,_,e,_⟩:=x;exact dD e
 |set S n=>let⟨o _ _ _,e,_⟩:=x;exact dD e
 |ins C i c=>let⟨_,_,_,e,_⟩:=x;exact dD e
 |own y=>let⟨(_),e⟩:=x;exact dD e
 |xd c=>obtain⟨_,⟨_,_,_,e,_⟩,_⟩:=x;exact dD e
 |rng lo j=>let⟨_ _ _,e⟩:=x;exact dD e
 |frz k u=>let⟨e,_⟩:=x;exact dD e
 |tbl ps=>exact dD (show h.get? a=some _ from x)
 |met f y=>exact dD (show h.get? a=some _ from x)
 |ext g=>obtain⟨_,⟨_,e⟩,_⟩:=x;exact dD e
theorem Paired.bU{α e:Type}{F G:α->e->Prop}: ∀{d:List α} {c:List e},yu F d c->(∀a b,F a b->G a b)->yu G d c
 |_,_,.nil,_=> .nil
 |_,_,.cons r t,f=> .cons (f _ _ r) (Paired.bU t f)
def jM.aI(x:jM P w H h a o)(k: ∀b u,(b=a\/H b=some (.own a))->h.get? b=some u->h'.get? b=some u)
  (I: ∀b,H b=some (.own a)->H' b=some (.own a))(B: ∀b m,H b=some (.tup m)->H' b=some (.tup m)):jM P w H' h' a o:=by
 induction o with
 |lst m=>obtain⟨z,l,n,r,e⟩:=x;exact⟨z,l,n,r,k _ _ (.inl rfl) e⟩
 |tup m=>obtain⟨z,l,r,g,e,c⟩:=x;exact⟨z,l,r,g,k _ _ (.inl rfl) e,c⟩
 |dK s=>obtain⟨z,y,E,r,g,j,i,e,c⟩:=x;exact⟨z,y,E,r,g,j,i,k _ _ (.inl rfl) e,c⟩
 |dT s=>obtain⟨z,y,m,r,g,j,i,e,c⟩:=x;exact⟨z,y,m,Paired.bU r λp q z=>⟨z.1,z.2.1.keeps B,z.2.2⟩,g,j,i,k _ _ (.inl rfl) e,c⟩
 |set S n=>let⟨g j i t,e,c⟩:=x;exact⟨g,j,i,t,k _ _ (.inl rfl) e,c⟩
 |ins C M F=>obtain⟨d,z,ne,e,A,⟨od,j,i,G,c⟩,r⟩:=x;exact⟨I _ d,z,ne,k _ _ (.inl rfl) e,A,⟨od,j,i,k _ _ (.inr d) G,c⟩,r⟩
 |own y=>let⟨(g),e⟩:=x;exact⟨g,k _ _ (.inl rfl) e⟩
 |xd F=>obtain⟨A,⟨od,j,i,e,c⟩,r⟩:=x;exact⟨A,⟨od,j,i,k _ _ (.inl rfl) e,c⟩,r⟩
 |rng lo N=>let⟨t u v,e⟩:=x;exact⟨t,u,v,k _ _ (.inl rfl) e⟩
 |frz g u ih=>let⟨e,q⟩:=x;exact⟨k _ _ (.inl rfl) e,ih q⟩
 |tbl ps=>have e:=x;exact k a _ (.inl rfl) e
 |met f y=>have e:=x;exact k a _ (.inl rfl) e
 |ext J=>obtain⟨p,⟨o,e⟩,st⟩:=x;exact⟨st _ _ p λo q=>k _ _ (.inl rfl) q,⟨o,k _ _ (.inl rfl) e⟩,st⟩
def ve.lt(x:ve P w H h)(e:H a=some o):a<h.objs.size:=(x a o e).lt
def ve.fresh(x:ve P w H h)(e:h.objs.size<=a):H a=none:=by
 cases q:H a with
 |none=>rfl
 |some u=>exact absurd (fC (x.lt q) e) (jY _)
def ve.kept(x:ve P w H h)(k: ∀b u,h.get? b=some u->h'.get? b=some u):ve P w H h':=λa o e=>
 (x a o e).aI (λb u _ q=>k b u q) (λ_ q=>q) λ_ _ q=>q
def ve.laid(x:ve P w H h)(k: ∀b u,h.get? b=some u->h'.get? b=some u)(f:h.objs.size<=a)(new:jM P w (upd H a o) h' a o):ve P w (upd H a o) h':=λb u e=>by
 have d:=x.fresh f;by_cases hb:b=a
 .subst hb;rw[eR]at e;cases e;exact new
 .rw[d9 hb]at e;exact(x b u e).aI (λc v _ q=>k c v q) (λc q=>by rw[d9 (fz q d)];exact q) λc g q=>by rw[d9 (fz q d)];exact q
end
def Rd(H:Hp)(a:eB)(u:HO):Prop:=H a=some u\/ ∃o,H a=some (.frz o u)
def Rd.ok{P:fY}{w:iu}{H:Hp}{h:iZ}{a:eB}{u:HO}(r:Rd H a u)(x:ve P w H h):jM P w H h a u:=by
 rcases r with r|⟨o,r⟩
 .exact x a u r
 .obtain⟨_,q⟩:=x a _ r;exact q
def UH:Option HO->Prop
 |some (.lst _)=>True
 |some (.dK _)=>True
 |some (.dT _)=>True
 |some (.set _ _)=>True
 |some (.ins _ _ _)=>True
 |some (.ext _)=>True
 |_=>False
section
def ve.write(ok:ve P w H h)(f:UH (H x))(he:e=x\/H e=some (.own x))(k: ∀b u,b≠e->h.get? b=some u->h'.get? b=some u)(i: ∃u,h'.get? e=some u)
  (new:jM P w (upd H x o') h' x o'):ve P w (upd H x o') h':=λb u q=>by
 have d: ∀c y,H c=some (.own y)->c≠x:=λc y r z=>by subst z;rw[r]at f;exact f
 have a: ∀c g,H c=some (.tup g)->c≠x:=λc g r z=>by subst z;rw[r]at f;exact f
 by_cases hb:b=x
 .subst hb;rw[eR]at q;cases q;exact new
 .rw[d9 hb]at q;by_cases hbe:b=e
  .have j:H b=some (.own x):=by
    simp_all
   rw[q]at j;cases j;let⟨(v),l⟩:=i;exact⟨v,by rw[hbe];exact l⟩
  .refine(ok b u q).aI (λc v m r=>k c v ?_ r) (λc r=>by rw[d9 (d c b r)];exact r) λc g r=>by rw[d9 (a c g r)];exact r
   grind
end
structure Un(fs ex:iY)(H H':Hp)(h h':iZ):Prop where
 keep: ∀b o,h.get? b=some o->H b=none->b∉fs->b∉ex->h'.get? b=some o
 slot: ∀b o,h.get? b=some o->H b=none->b∈fs->b∉ex-> ∃sl,h'.get? b=some {o with slots:=sl}
 free: ∀b o,h.get? b=some o->H b=none->b∉ex->H' b=none
 there: ∀b o,h.get? b=some o->b∉ex-> ∃o',h'.get? b=some o'
 bo: ∀b xs,H b=some (.tup xs)->H' b=some (.tup xs)
 aU: ∀b o u,H b=some (.frz o u)->H' b=some (.frz o u)
 bq: ∀b ps,H b=some (.tbl ps)-> ∃more,H' b=some (.tbl (ps++more))
section
def Un.any(u:Un fs ex H H1 h h1){b:eB}{a:xG}(q:h.get? b=some a)(n:H b=none)(c:b∉ex): ∃d,h1.get? b=some {a with slots:=d}:=by
 by_cases hb:b∈fs
 .exact u.slot b a q n hb c
 .exact⟨a.slots,u.keep b a q n hb c⟩
def Un.kept(k: ∀b u,h.get? b=some u->h'.get? b=some u):Un fs ex H H h h':=
 ⟨λb a q _ _ _=>k b a q,λb a q _ _ _=>⟨a.slots,k b a q⟩,λ_ _ _ n _=>n,λb a q _=>⟨a,k b a q⟩,λ_ _ q=>q,λ_ _ _ q=>q,λ_ ps q=>⟨#[],by rw[q];simp⟩⟩
def Un.refl:Un fs ex H H h h:=Un.kept λ_ _ q=>q
def Un.laid(k: ∀b u,h.get? b=some u->h'.get? b=some u)(e:h.objs.size<=a)(c:H a=none):Un fs ex H (upd H a o) h h' where
 keep:=λb u q _ _ _=>k b u q
 slot:=λb u q _ _ _=>⟨u.slots,k b u q⟩
 free:=λb u q n _=>by rw[d9 (eG (fC (dD q) e))];exact n
 there:=λb u q _=>⟨u,k b u q⟩
 bo:=λb d q=>by rw[d9 (fz q c)];exact q
 aU:=λb u d q=>by rw[d9 (fz q c)];exact q
 bq:=λb ps q=>⟨#[],by rw[d9 (fz q c),q];simp⟩
def Un.write(a:UH (H x))(he:e=x\/H e=some (.own x))(k: ∀b u,b≠e->h.get? b=some u->h'.get? b=some u)(f: ∃u,h'.get? e=some u):Un fs ex H (upd H x o) h h':=by
 have i: ∀b,H b=none->b≠x:=λb n z=>by subst z;rw[n]at a;exact a
 have d: ∀b,H b=none->b≠e:=λb n z=>by
  simp_all
 have c: ∀b u,H b=some u-> ¬UH (some u)->b≠x:=λb u q j z=>by subst z;rw[q]at a;exact j a
 refine⟨λb u q n _ _=>k b u (d b n) q,λb u q n _ _=>⟨u.slots,k b u (d b n) q⟩,λb u q n _=>by rw[d9 (i b n)];exact n,λb u q _=> ?_,
  λb g q=>by rw[d9 (c b _ q λz=>z)];exact q,λb u g q=>by rw[d9 (c b _ q λz=>z)];exact q,λb ps q=>⟨#[],by rw[d9 (c b _ q λz=>z),q];simp⟩⟩
 grind
end
noncomputable def trk(h:iZ)(H:Hp):List Addr:=(eE h.objs.size).filter λa=>(H a).isSome
def Ko(h:iZ)(H:Hp):Heap:=PySem.W.hideAll h (trk h H)
def P8(h:iZ)(H:Hp):(Ko h H).objs.size=h.objs.size:=PySem.W.hideAll_size _ _
def Tc(e:h.get? b=some o)(n:H b=none):(Ko h H).get? b=some o:=
 PySem.W.hideAll_get _ e λa=>by
  have q:=(eX.mp a).2
  grind
def Wp(e:(Ko h H).get? b=some o):h.get? b=some o/\H b=none:=by
 have a:=PySem.W.of_hideAll (trk h H) e;refine⟨a,?_⟩;cases q:H b with
 |none=>rfl
 |some x=>
  have c:b∈trk h H:=eX.mpr ⟨eO.mpr (dD a),by simp[q]⟩;have z:(Ko h H).get? b=none:=PySem.W.hideAll_none (trk h H) c
  grind
structure Mod(K:dh)(mg:kQ)(base:iZ):Prop where
 kin:K.In base
 glob:base.Ns eU mg
 blt: ∃mb,base.Ns aa7 mb/\ ∀x:gw,x≠ "__name__" ->mb x=iP x
 nolimit:base.NoLimit
structure Cx where
 prog:fY
 w:iu
 K:dh
 mg:gw->Option eA
 base:iZ
 A:i6
 N:List gw
 aS:dJ
 bE:Hp
 env:Ls
 outer:List Ls
 stack:List Ls
 ex:List eB
 fn:gw->Bool
 calm:Bool
 pn:List (eB×xG)
 xe:eA->dJ->Prop
noncomputable def Tz(l:List Ls):List Addr:=l.filterMap (·.frame)
abbrev Cx.fs(X:Cx):List Addr:=Tz X.outer
def Ys(a:vq)(x:gw):Prop:=a.names.lookup x=some .local\/a.names.lookup x=some .cell\/a.names.lookup x=some .free
def Loc(a:vq)(x:gw):Prop:=a.names.lookup x=some .local\/a.names.lookup x=some .cell
def Look(env:Ls)(h:iZ)(m:kQ)(x:gw)(u:eA):Prop:=
 (env.kindOf x=some .local/\m x=some u)\/((env.kindOf x=some .cell\/env.kindOf x=some .free)/\ ∃c,env.cells.lookup x=some c/\h.IsCell c (some u))
structure Cx.Ok(X:Cx):Prop where
 mod:Mod X.K X.mg X.base
 kind:X.env.scope.kind= .function
 glob:X.env.globals=eU
 blt:X.env.builtins=aa7
 above:X.aS.heap.objs.size<=X.env.locals
 inj: ∀x y c,X.env.cells.lookup x=some c->X.env.cells.lookup y=some c->x=y
 has: ∀x,(X.env.kindOf x=some .cell\/X.env.kindOf x=some .free)-> ∃c,X.env.cells.lookup x=some c
 cD: ∀x c,X.fn x=true->X.env.cells.lookup x=some c->X.aS.heap.objs.size<=c
 hd:X.calm=true->X.A.handled=none
 frames:X.A.frames=some X.stack
 cF:X.stack=X.outer\/(X.stack=X.env::X.outer/\X.env.frame=some X.env.locals)
 cN: ∀b∈X.ex,b≠X.env.locals/\ ∀x c,X.env.cells.lookup x=some c->c≠b
 bs: ∀b o,X.base.get? b=some o->X.aS.heap.get? b=some o/\X.bE b=none
 bZ:X.base.objs.size<=X.aS.heap.objs.size
 bJ: ∀b o,X.base.get? b=some o->b∉X.ex
 bO: ∀b∈X.ex,b∉X.fs
 aJ:X.aS.heap.FunFrames X.base X.outer
 cv: ∀b∈X.fs,X.bE b=none
structure Inv(X:Cx)(pz:i4)(σ:List (Option V))(H:Hp)(s:dJ):Prop where
 ok:X.Ok
 os:s.os=X.aS.os
 bare:FO s.gens
 base:Un X.fs X.ex X.bE H X.aS.heap s.heap
 loc: ∃m,s.heap.Ns X.env.locals m/\ ∀(i:Nat) (x:gw) (v:V),X.N[i]?=some x->σ[i]?=some (some v)->Ys X.env.scope x-> ∃u,RelV v u/\Look X.env s.heap m x u
 cell: ∀x c,X.env.cells.lookup x=some c-> ∃v,s.heap.IsCell c v
 free:H X.env.locals=none
 ao: ∀x c,X.env.cells.lookup x=some c->H c=none
 pin: ∀p∈X.pn++pz,s.heap.get? p.1=some p.2/\H p.1=none/\p.1≠X.env.locals/\p.1∉X.fs/\ ∀v,p.2.data≠ .cell v
 ab:ve X.prog X.w H s.heap
 len:σ.length= ~~~X.N
section
variable {X:Cx}
def Cx.Ok.cS(ok:X.Ok)(e:X.base.get? b=some o):b∉X.fs:=λa=>by
 have:=(ok.aJ.mem a).1
 grind
def Inv.bs(I:Inv X pz σ H s): ∀b o,X.base.get? b=some o->s.heap.get? b=some o/\H b=none:=λb o e=>
 ⟨I.base.keep b o (I.ok.bs b o e).1 (I.ok.bs b o e).2 (I.ok.cS e) (I.ok.bJ b o e),I.base.free b o (I.ok.bs b o e).1 (I.ok.bs b o e).2 (I.ok.bJ b o e)⟩
def Inv.bk(I:Inv X pz σ H s): ∀b o,X.base.get? b=some o->s.heap.get? b=some o:=λb o e=>(I.bs b o e).1
def Inv.mod(I:Inv X pz σ H s):Mod X.K X.mg X.base:=I.ok.mod
def Inv.bb(I:Inv X pz σ H s):X.K.In s.heap:=I.ok.mod.kin.keeps I.bk
def Inv.lt(I:Inv X pz σ H s):X.env.locals<s.heap.objs.size:=let⟨_,a,_⟩:=I.loc;a.lt
def Inv.sz(I:Inv X pz σ H s):X.aS.heap.objs.size<=s.heap.objs.size:=eC I.ok.above (wz I.lt)
def Inv.cJ(I:Inv X pz σ H s)(h:s.heap.objs.size<=a):a∉X.fs:=λb=>by obtain⟨_,o,c,_⟩:=I.ok.aJ.mem b;exact absurd (fC (dD c) (eC I.sz h)) (jY _)
def Inv.cQ(I:Inv X pz σ H s): ∀x c,X.env.cells.lookup x=some c->c≠X.env.locals:=λx c e z=>by
 let⟨v o,f,hd⟩:=I.cell x c e;obtain⟨m,⟨h,d,g,a,b,_⟩,_⟩:=I.loc
 simp_all
def Inv.aJ(I:Inv X pz σ H s):s.heap.FunFrames X.base X.outer:=by
 have all: ∀(l:List Ls),(∀b∈Tz l,b∈X.fs)->X.aS.heap.FunFrames X.base l->s.heap.FunFrames X.base l:=by
  intro l;induction l with
  |nil=>intro _ _;trivial
  |cons env r ih=>intro f h;obtain⟨hk,⟨L,o,d,g,j,hd⟩,i⟩:=h;have c:=f L (by unfold Tz;rw[jy,d];exact fk);let⟨(k),e⟩:=I.base.slot L o j (I.ok.cv L c) c λz=>I.ok.bO L z c;exact⟨hk,⟨L,_,d,g,e,hd⟩,ih (λb a=>f b (by unfold Tz;rw[jy,d];exact eP _ a)) i⟩
 exact all X.outer (λ_ a=>a) I.ok.aJ
def Inv.stack(I:Inv X pz σ H s):s.heap.FunFrames X.base X.stack:=by
 rcases I.ok.cF with e|⟨e,b⟩
 .rw[e];exact I.aJ
 .rw[e];let⟨(m),a,_⟩:=I.loc;refine .cons (by rw[I.ok.kind];decide) b a ?_ I.aJ;exact Heap.get?_none_of_le (eC I.ok.bZ I.ok.above)
def Inv.aT(I:Inv X pz σ H s): ∀b∈Tz X.stack,b∈X.env.locals::X.fs:=λb a=>by
 rcases I.ok.cF with e|⟨e,c⟩
 .simp_all
 .rw[e]at a;unfold Tz at a;rw[jy,c]at a;exact a
def Inv.aZ(I:Inv X pz σ H s): ∀b∈Tz X.stack,H b=none:=λb a=>by
 rcases eM.mp (I.aT b a)with e|a
 .rw[e];exact I.free
 .obtain⟨_,o,c,_⟩:=I.ok.aJ.mem a;exact I.base.free b o c (I.ok.cv b a) λz=>I.ok.bO b z a
def Inv.step{g':Array GenState}{t':Nat}{d':Drawn}{ch:iY}(I:Inv X pz σ H s)
  (f: ∀b∈ch,(b∈X.ex\/X.aS.heap.objs.size<=b)/\b≠X.env.locals/\(∀x c,X.env.cells.lookup x=some c->c≠b)/\ ∀p∈X.pn++pz,p.1≠b)
  (keep: ∀b o,b≠X.env.locals->b∉X.fs->b∉ch->s.heap.get? b=some o->H b=none->h'.get? b=some o)
  (slot: ∀b o,b≠X.env.locals->b∈X.fs->b∉ch->s.heap.get? b=some o->H b=none-> ∃N,h'.get? b=some {o with slots:=N})(free: ∀b o,b∉ch->s.heap.get? b=some o->H b=none->H' b=none)
  (there: ∀b o,b∉ch->s.heap.get? b=some o-> ∃J,h'.get? b=some J)
  (F: ∀b t,H b=some (.tup t)->H' b=some (.tup t))(M: ∀b o u,H b=some (.frz o u)->H' b=some (.frz o u))(E: ∀b ps,H b=some (.tbl ps)-> ∃more,H' b=some (.tbl (ps++more)))
  (ns: ∀m,s.heap.Ns X.env.locals m->h'.Ns X.env.locals m)(P:ve X.prog X.w H' h')(Y:FO g'):
  Inv X pz σ H' {s with heap:=h',gens:=g',drawn:=d',toks:=t'}:=by
 have C: ∀b o,X.aS.heap.get? b=some o->b≠X.env.locals:=λb o e=>eG (fC (dD e) I.ok.above);have j: ∀b o,X.aS.heap.get? b=some o->b∉X.ex->b∉ch:=λb o e a A=>by
  rcases(f b A).1 with z|z
  .exact a z
  .exact absurd (fC (dD e) z) (jY _)
 have g: ∀x c,X.env.cells.lookup x=some c-> ∀v,s.heap.IsCell c v->h'.IsCell c v:=λx c e v a=>by
  let⟨(o),B,hd⟩:=a;have y:=λz=>(f c z).2.2.1 x c e rfl;by_cases hc:c∈X.fs
  .obtain⟨N,q⟩:=slot c o (I.cQ x c e) hc y B (I.ao x c e);exact⟨_,q,hd⟩
  .exact⟨o,keep c o (I.cQ x c e) hc y B (I.ao x c e),hd⟩
 refine⟨I.ok,I.os,Y,⟨λb o e n A a=> ?_,λb o e n A a=> ?_,λb o e n a=> ?_,λb o e a=> ?_,λb t e=>F b t (I.base.bo b t e),λb o t e=>M b o t (I.base.aU b o t e),λb ps e=> ?_⟩,?_,λx c e=> ?_,?_,λx c e=> ?_,λp Q=> ?_,P,I.len⟩
 .exact keep b o (C b o e) A (j b o e a) (I.base.keep b o e n A a) (I.base.free b o e n a)
 .obtain⟨N,h⟩:=I.base.slot b o e n A a;let⟨(O),G⟩:=slot b _ (C b o e) A (j b o e a) h (I.base.free b o e n a);exact⟨O,G⟩
 .obtain⟨J,h⟩:=I.base.there b o e a;exact free b J (j b o e a) h (I.base.free b o e n a)
 .obtain⟨J,h⟩:=I.base.there b o e a;exact there b J (j b o e a) h
 .obtain⟨R,h⟩:=I.base.bq b ps e;let⟨(T),G⟩:=E b _ h;exact⟨R++T,by rw[G,Array.append_assoc]⟩
 .obtain⟨m,S,U⟩:=I.loc;refine⟨m,ns m S,λi x v h G Z=> ?_⟩;let⟨(u),r,l⟩:=U i x v h G Z;refine⟨u,r,?_⟩;rcases l with l|⟨k,c,e,z⟩
  .exact .inl l
  .exact .inr ⟨k,c,e,g x c e _ z⟩
 .obtain⟨v,z⟩:=I.cell x c e;exact⟨v,g x c e v z⟩
 .obtain⟨m,⟨o,_,_,B,_⟩,_⟩:=I.loc;exact free _ o (λz=>(f _ z).2.1 rfl) B I.free
 .obtain⟨v,o,B,hd⟩:=I.cell x c e;exact free c o (λz=>(f c z).2.2.1 x c e rfl) B (I.ao x c e)
 .obtain⟨e,n,ne,nf,d⟩:=I.pin p Q;have y:=λz=>(f p.1 z).2.2.2 p Q rfl
  simp_all
def Inv.un{t':Nat}(I:Inv X pz σ H s)(u:Un X.fs [] H H' s.heap h')(f:ve X.prog X.w H' h'):Inv X pz σ H' {s with heap:=h',toks:=t'}:=by obtain⟨m,⟨o,t,p,h,r⟩,_⟩:=id I.loc;let⟨(l),k⟩:=u.any h I.free (by simp);exact I.step (ch:=[]) (λ_ z=>nomatch z) (λb o _ g _ e n=>u.keep b o e n g (by simp)) (λb o _ g _ e n=>u.slot b o e n g (by simp)) (λb o _ e n=>u.free b o e n (by simp)) (λb o _ e=>u.there b o e (by simp)) u.bo u.aU u.bq (λm' j=>by let⟨q c d,a,i⟩:=j;rw[h]at a;cases a;exact⟨_,c,d,k,i⟩) f I.bare
def Inv.call{g':Array GenState}{t':Nat}{d':Drawn}{ch:iY}(I:Inv X pz σ H s)(u:Un (Tz X.stack) ch H H' s.heap h')(i:ve X.prog X.w H' h')(v:FO g')
  (f: ∀b∈ch,(b∈X.ex\/X.aS.heap.objs.size<=b)/\b≠X.env.locals/\(∀x c,X.env.cells.lookup x=some c->c≠b)/\ ∀p∈X.pn++pz,p.1≠b):
  Inv X pz σ H' {s with heap:=h',gens:=g',drawn:=d',toks:=t'}:=by
 obtain⟨m,⟨o,C,A,k,r⟩,_⟩:=id I.loc;let⟨(y),j⟩:=u.any k I.free λz=>(f _ z).2.1 rfl;exact I.step f (λb o j q a e n=>u.keep b o e n (λz=>(eM.mp (I.aT b z)).elim j q) a) (λb o _ _ a e n=>u.any e n a) (λb o a e n=>u.free b o e n a) (λb o a e=>u.there b o e a) u.bo u.aU u.bq (λm' t=>by let⟨B g h,d,l⟩:=t;rw[k]at d;cases d;exact⟨_,g,h,j,l⟩) i v
def Inv.turned{t':Nat}{a:eB}(I:Inv X pz σ H s)(k: ∀b o,b≠a->s.heap.get? b=some o->h'.get? b=some o)(A:H a=none)(f:a≠X.env.locals)
  (g:a∈X.ex\/X.aS.heap.objs.size<=a)(i: ∀x c,X.env.cells.lookup x=some c->c≠a)(t: ∀p∈X.pn++pz,p.1≠a):Inv X pz σ H {s with heap:=h',toks:=t'}:=by
 refine I.step (ch:=[a]) (λb j=> ?_) (λb o _ _ d e _=>k b o (λz=>d (by simp[z])) e) (λb o _ _ d e _=>⟨o.slots,k b o (λz=>d (by simp[z])) e⟩) (λ_ _ _ _ n=>n)
  (λb o d e=>⟨o,k b o (λz=>d (by simp[z])) e⟩) (λ_ _ e=>e) (λ_ _ _ e=>e) (λb ps e=>⟨#[],by rw[e];simp⟩) (λm l=> ?_) (λb u e=> ?_) I.bare
 .have e:b=a:=by simpa using j
  subst e;exact⟨g,f,i,t⟩
 .obtain⟨o,w,h,y,r⟩:=l;exact⟨o,w,h,k _ o (gk f) y,r⟩
 .refine(I.ab b u e).aI (λc v d q=>k c v ?_ q) (λ_ q=>q) λ_ _ q=>q
  grind
def Inv.tok(I:Inv X pz σ H s)(t:Nat):Inv X pz σ H {s with toks:=t}:=I.un Un.refl I.ab
def Inv.kept{t':Nat}(I:Inv X pz σ H s)(k: ∀b u,s.heap.get? b=some u->h'.get? b=some u):Inv X pz σ H {s with heap:=h',toks:=t'}:=I.un (Un.kept k) (I.ab.kept k)
def Inv.laid{a:eB}{o:HO}{t':Nat}(I:Inv X pz σ H s)(k: ∀b u,s.heap.get? b=some u->h'.get? b=some u)(c:s.heap.objs.size<=a)(new:jM X.prog X.w (upd H a o) h' a o):
  Inv X pz σ (upd H a o) {s with heap:=h',toks:=t'}:=I.un (Un.laid k c (I.ab.fresh c)) (I.ab.laid k c new)
def Inv.write(I:Inv X pz σ H s)(c:UH (H x))(he:e=x\/H e=some (.own x))(k: ∀b u,b≠e->s.heap.get? b=some u->h'.get? b=some u)(a: ∃u,h'.get? e=some u)
  (new:jM X.prog X.w (upd H x o) h' x o):Inv X pz σ (upd H x o) {s with heap:=h',toks:=t'}:=I.un (Un.write c he k a) (I.ab.write c he k a new)
def Inv.weak{a:List (Option V)}(I:Inv X pz σ H s)(e: ~~~a=σ.length)(w: ∀(i:Nat) v,a[i]?=some (some v)->σ[i]?=some (some v)):Inv X pz a H s:=
 ⟨I.ok,I.os,I.bare,I.base,let⟨m,d,b⟩:=I.loc;⟨m,d,λi x v c f g=>b i x v c (w i v f) g⟩,I.cell,I.free,I.ao,I.pin,I.ab,e.trans I.len⟩
def Inv.aX(I:Inv X pz σ H s)(h: ∀p∈pz',s.heap.get? p.1=some p.2/\H p.1=none/\p.1≠X.env.locals/\p.1∉X.fs/\ ∀v,p.2.data≠ .cell v):Inv X pz' σ H s:=
 ⟨I.ok,I.os,I.bare,I.base,I.loc,I.cell,I.free,I.ao,λp a=>(gp.mp a).elim (λz=>I.pin p (Ow _ z)) (h p),I.ab,I.len⟩
def DO{N:iW}(e:N.Nodup){i j:Nat}{x:gw}(a:N[i]?=some x)(b:N[j]?=some x):i=j:=by let⟨(f),c⟩:=dH.mp a;let⟨(g),d⟩:=dH.mp b;exact(Vk e).mp (c.trans d.symm)
def FU{M:abH}{A:i6}{E:gY}{i:Nat}{x:gw}{v:V}{u:eA}{Q:Unit->dJ->Prop}(I:Inv X pz σ H s)(hN:X.N.Nodup)(T:X.N[i]?=some x)(t:Loc X.env.scope x)(r:RelV v u)
  (h: ∀s',Inv X pz (σ.set i (some v)) H s'->(∃a,ic a s.heap s'.heap/\(a=X.env.locals\/X.env.cells.lookup x=some a))->Q () s')(hf:X.fn x=true\/X.env.scope.names.lookup x=some .local:=by subst_eqs):dR M A (adG X.env x u) Q E s:=by
 let⟨(m),hn,hl⟩:=id I.loc;have R:(X.env.scope.kind== .class||(X.env.scope.kind== .module&&X.env.locals !=X.env.globals))=false:=by rw[I.ok.kind];rfl
 have F:i<σ.length:=by rw[I.len];exact(dH.mp T).1
 have O:=I.cQ;have l: ∀{a:eB} {h':iZ},(∃o,s.heap.get? a=some o/\H a=none)->ic a s.heap h'->ve X.prog X.w H h':=λ{a h'} ha f b ob e=>by
  let⟨(_),_,x2⟩:=ha;refine(I.ab b ob e).aI (λc Y B q=>(f.2 c ?_).trans q) (λ_ q=>q) λ_ _ q=>q;rintro rfl
  simp_all
 rcases t with hk|hk
 .refine wpAny_storeName_local hk hn (λh' x1 f=> ?_) R;let⟨oL _ _,x0,_⟩:=id hn;refine h _ ⟨I.ok,I.os,I.bare,⟨λb o e n J t=> ?_,λb o e n J t=> ?_,I.base.free,λb o e t=> ?_,I.base.bo,I.base.aU,I.base.bq⟩,⟨_,x1,λj y v' g C e3=> ?_⟩,λy c e=> ?_,I.free,I.ao,λp hp=> ?_,l ⟨oL,x0,I.free⟩ f,by simpa using I.len⟩ ⟨_,f,.inl rfl⟩
  .exact(f.2 b (eG (fC (dD e) I.ok.above))).trans (I.base.keep b o e n J t)
  .obtain⟨sl,g⟩:=I.base.slot b o e n J t;exact⟨sl,(f.2 b (eG (fC (dD e) I.ok.above))).trans g⟩
  .obtain⟨o',g⟩:=I.base.there b o e t;exact⟨o',(f.2 b (eG (fC (dD e) I.ok.above))).trans g⟩
  .by_cases hj:j=i
   .subst hj;rw[T]at g;cases g;rw[gU F]at C;cases C;exact⟨u,r,.inl ⟨hk,by simp⟩⟩
   .rw[fF (gk hj)]at C;let⟨(u'),r',q⟩:=hl j y v' g C e3;refine⟨u',r',?_⟩;rcases q with⟨k,e⟩|⟨k,c,e,z⟩
    .refine .inl ⟨k,?_⟩;have:y≠x:=λe=>hj (DO hN g (e▸T));simp[this,e]
    .exact .inr ⟨k,c,e,z.sameBut f (O y c e)⟩
  .obtain⟨Y,z⟩:=I.cell y c e;exact⟨Y,z.sameBut f (O y c e)⟩
  .obtain⟨e,n,ne,nf,d⟩:=I.pin p hp;exact⟨(f.2 p.1 ne).trans e,n,ne,nf,d⟩
 .have G:X.fn x=true:=by
   simp_all
  let⟨(c),B⟩:=I.ok.has x (.inl hk);let⟨(Y),z⟩:=I.cell x c B;refine wpAny_storeName_cell I.ok.kind hk B z (λh' S f=> ?_);let⟨(oc),U,P⟩:=id z;refine h {s with heap:=h'} ⟨I.ok,I.os,I.bare,⟨λb o e n J t=> ?_,λb o e n J t=> ?_,I.base.free,λb o e t=> ?_,I.base.bo,I.base.aU,I.base.bq⟩,⟨m,hn.sameBut f (gk (O x c B)),λj y v' g C e3=> ?_⟩,λy Z e=> ?_,I.free,I.ao,λp hp=> ?_,l ⟨oc,U,I.ao x c B⟩ f,by simpa using I.len⟩ ⟨c,f,.inr B⟩
  .exact(f.2 b (eG (fC (dD e) (I.ok.cD x c G B)))).trans (I.base.keep b o e n J t)
  .obtain⟨sl,g⟩:=I.base.slot b o e n J t;exact⟨sl,(f.2 b (eG (fC (dD e) (I.ok.cD x c G B)))).trans g⟩
  .obtain⟨o',g⟩:=I.base.there b o e t;exact⟨o',(f.2 b (eG (fC (dD e) (I.ok.cD x c G B)))).trans g⟩
  .by_cases hj:j=i
   .subst hj;rw[T]at g;cases g;rw[gU F]at C;cases C;exact⟨u,r,.inr ⟨.inl hk,c,B,S⟩⟩
   .rw[fF (gk hj)]at C;let⟨(u'),r',q⟩:=hl j y v' g C e3;refine⟨u',r',?_⟩;rcases q with q|⟨k,Z,e,z'⟩
    .exact .inl q
    .refine .inr ⟨k,Z,e,z'.sameBut f ?_⟩;rintro rfl;exact hj (DO hN g (I.ok.inj _ _ _ e B▸T))
  .by_cases hcc:Z=c
   .subst hcc;exact⟨_,S⟩
   .obtain⟨w2,z2⟩:=I.cell y Z e;exact⟨w2,z2.sameBut f hcc⟩
  .obtain⟨e,n,ne,nf,d⟩:=I.pin p hp;refine⟨(f.2 p.1 ?_).trans e,n,ne,nf,d⟩;intro q;rw[q,U]at e;have q':=ft e;exact d Y (by rw[<-q'];exact P)
def CS{M:abH}{A:i6}{E:gY}{i:Nat}{x:gw}{v:V}{u:eA}{Q:Unit->dJ->Prop}(I:Inv X pz σ H s)(d:X.N.Nodup)(b:X.N[i]?=some x)(e:Loc X.env.scope x)(r:RelV v u)
  (h: ∀a,Inv X pz (σ.set i (some v)) H a->Q () a)(f:X.fn x=true\/X.env.scope.names.lookup x=some .local:=by subst_eqs):dR M A (adG X.env x u) Q E s:=
 FU I d b e r (λa c _=>h a c) f
def Inv.call'{a:dJ}{ch:iY}(I:Inv X pz σ H s)(g:a.os=s.os)(u:Un (Tz X.stack) ch H H' s.heap a.heap)(f:ve X.prog X.w H' a.heap)(h:FO a.gens)
  (d: ∀b∈ch,(b∈X.ex\/X.aS.heap.objs.size<=b)/\b≠X.env.locals/\(∀x c,X.env.cells.lookup x=some c->c≠b)/\ ∀p∈X.pn++pz,p.1≠b):Inv X pz σ H' a:=by
 obtain⟨h',g',d',t',i⟩:=a;have e:=g;subst e;exact I.call u f h d
end
abbrev XK:=eA->Option eB->Hp->Prop
abbrev St:=List (Option V)
abbrev VK:=V->Hp->Prop
abbrev TE:=St->Hp->VK->Prop
abbrev TT:=St->Hp->(Bool->Hp->Prop)->Prop
abbrev TA:=St->Hp->(List V->Hp->Prop)->Prop
structure EH where
 nx:St->Hp->Prop
 rt:VK
 bk:St->Hp->Prop:=λ_ _=>False
 ct:St->Hp->Prop:=λ_ _=>False
abbrev TS:=EH->St->Hp->Prop
def EP(X:Cx)(pz:i4)(c:St)(Q:VK)(u:eA)(b:dJ):Prop:= ∃v a,Inv X pz c a b/\RelV v u/\Q v a
def TP(X:Cx)(pz:i4)(d:St)(Q:Bool->Hp->Prop)(b:Bool)(c:dJ):Prop:= ∃a,Inv X pz d a c/\Q b a
def AP(X:Cx)(pz:i4)(c:St)(Q:List V->Hp->Prop)(us:fM)(d:dJ):Prop:= ∃a b,Inv X pz c b d/\gF a us/\Q a b
def SP(X:Cx)(pz:i4)(D:EH)(f:Flow)(c:dJ):Prop:=
 match f with
 | .next=> ∃a b,Inv X pz a b c/\D.nx a b
 | .brk=> ∃a b,Inv X pz a b c/\D.bk a b
 | .cont=> ∃a b,Inv X pz a b c/\D.ct a b
 | .ret u=> ∃v a b,Inv X pz a b c/\RelV v u/\D.rt v b
def PE(X:Cx)(e:jG)(t:TE):Prop:=
 ∀(pz:i4) (s:dJ) (a:St) (H:Hp) (Q:VK),Inv X pz a H s->t a H Q->dR (dZ X.prog X.w) X.A (fX e X.env) (EP X pz a Q) X.xe s
def PT(X:Cx)(e:jG)(t:TT):Prop:=
 ∀(pz:i4) (s:dJ) (a:St) (H:Hp) (Q:Bool->Hp->Prop),Inv X pz a H s->t a H Q->dR (dZ X.prog X.w) X.A (isTrue e X.env (fX e X.env)) (TP X pz a Q) X.xe s
def PW(X:Cx)(e:jG)(t:TT):Prop:=
 ∀(whole:Sem eA) (pz:i4) (s:dJ) (a:St) (H:Hp) (Q:Bool->Hp->Prop),Inv X pz a H s->t a H Q->dR (dZ X.prog X.w) X.A (isTrue e X.env whole) (TP X pz a Q) X.xe s
def PW.pt(h:PW X e t):PT X e t:=h _
def PA(X:Cx)(b:mW)(t:TA):Prop:=
 ∀(pos:Pos) (pz:i4) (s:dJ) (a:St) (H:Hp) (Q:List V->Hp->Prop),Inv X pz a H s->t a H Q->dR (dZ X.prog X.w) X.A (abx (gy pos (dj b X.env))) (AP X pz a Q) X.xe s
def PS(X:Cx)(st:o4)(t:TS):Prop:=
 ∀(pz:i4) (s:dJ) (a:St) (H:Hp) (D:EH),Inv X pz a H s->t D a H->dR (dZ X.prog X.w) X.A (exec st X.env) (SP X pz D) X.xe s
def GO(X:Cx)(st:List o4)(t:TS):Prop:=
 ∀(pz:i4) (s:dJ) (a:St) (H:Hp) (D:EH),Inv X pz a H s->t D a H->dR (dZ X.prog X.w) X.A (execs st X.env) (SP X pz D) X.xe s
def jo{α:Type}{t:Sem α}{Q b:α->dJ->Prop}{M:abH}{A:i6}{E:gY}{s:dJ}(h:dR M A t Q E s)(c: ∀a s,Q a s->b a s):dR M A t b E s:=iK h c λ_ _ x=>x
section
def E3(i:Nat):TE:=λa H Q=> ∃v,a[i]?=some (some v)/\Q v H
def tC(v:V):TE:=λ_ H Q=>Q v H
def Ht(j:X.N[i]?=some x)(o:Ys X.env.scope x)(hd:(x==("__debug__" :gw))=false:=by decide)(b:(x==("__classdict__" :gw))=false:=by decide):PE X (.Name x pos) (E3 i):=by
 intro pz s f H Q I h;let⟨(v),e,h⟩:=h;let⟨(m),g,k⟩:=I.loc;let⟨(u),r,l⟩:=k i x v j e o;have fin:EP X pz f Q u s:=⟨v,H,I,r,h⟩;rcases l with⟨hk,n⟩|⟨hk,c,d,a⟩
 .exact aaY (Xp I.ok.kind hk g n fin) hd
 .rcases hk with hk|hk
  .exact aaY (Yx I.ok.kind hk d a fin) hd
  .exact aaY (wpAny_loadName_free I.ok.kind hk d a fin b) hd
def L0{i j pos}:PE X (.Constant (.int i) j pos) (tC (.int i)):=λ_ _ _ H _ I h=>wpAny_Constant_int ⟨.int i,H,I.tok _,⟨_,rfl⟩,h⟩
def acq{b j pos}:PE X (.Constant (.bool b) j pos) (tC (.bl b)):=λ_ _ _ H _ I h=>Constant_bool ⟨.bl b,H,I,rfl,h⟩
def Zt{j pos}:PE X (.Constant .none j pos) (tC .non):=λ_ _ _ H _ I h=>QR ⟨.non,H,I,rfl,h⟩
def Gl(X:Cx)(x:gw):Prop:=X.env.kindOf x=some .globalImplicit
def Cp(I:Inv X pz σ H s)(b:Gl X x)(a:X.mg x=some u)(h:Q u s)
  (hd:(x==("__debug__" :gw))=false:=by decide):dR (dZ X.prog X.w) X.A (fX (.Name x pos) X.env) Q E s:=
 FG I.ok.kind b (Calls.loadGlobal_global (by rw[I.ok.glob];exact I.mod.glob.keeps I.bk) a h) hd
def sA{E:gY}{pz:i4}{s:dJ}{b:St}{H:Hp}{x:gw}{u:eA}{pos:Pos}{Q:gY}(I:Inv X pz b H s)(f:Gl X x)(e:X.mg x=none)(g:iP x=some u)(h:Q u s)
  (c:x≠ "__name__" :=by decide)(hd:(x==("__debug__" :gw))=false:=by decide):dR (dZ X.prog X.w) X.A (fX (.Name x pos) X.env) Q E s:=by
 let⟨(i),a,d⟩:=I.mod.blt;exact FG I.ok.kind f (Calls.loadGlobal_builtin (by rw[I.ok.glob];exact I.mod.glob.keeps I.bk) e (by rw[I.ok.blt];exact a.keeps I.bk) ((d x c).trans g) h) hd
def Hu(b:Gl X x)(a:X.mg x=some u)(r:RelV v u)(hd:(x==("__debug__" :gw))=false:=by decide):PE X (.Name x pos) (tC v):=
 λ_ _ _ H _ I h=>Cp I b a ⟨v,H,I,r,h⟩ hd
def PC(X:Cx)(op:abL)(a b:jG)(t:TE):Prop:=
 ∀(pz:i4) (s:dJ) (e:St) (H:Hp) (Q:VK),Inv X pz e H s->t e H Q->
  dR (dZ X.prog X.w) X.A (fX a X.env) (λv d=>dR (dZ X.prog X.w) X.A (fX b X.env) (λu c=>dR (dZ X.prog X.w) X.A (gH op v u) (EP X pz e Q) X.xe c) X.xe d) X.xe s
def J5(b:jG){op:abL}(h:op≠ .In)(c:op≠ .NotIn):gv op b=false:=by
 have a:(op==ags)=false:=by cases op<;>first|rfl|exact absurd rfl h
 have d:(op==abK)=false:=by cases op<;>first|rfl|exact absurd rfl c
 cases b<;>simp[gv,a,d]
def aeY(b:TE):TE:=λc H Q=>b c H λx a=>Q (.bl (decide (x= .non))) a
def abS(b:TE):TE:=λc H Q=>b c H λx a=>Q (.bl (!decide (x= .non))) a
def RelV.aR{x:V}{v:eA}(r:RelV x v):(v==mw)=decide (x= .non):=by
 cases x with
 |non=>cases r;rfl
 |bl _=>cases r;rfl
 |int _=>let⟨(t),rfl⟩:=r;rfl
 |str _=>let⟨(t),rfl⟩:=r;rfl
 |byt _=>let⟨(t),rfl⟩:=r;rfl
 |flt _=>let⟨(t),rfl⟩:=r;rfl
 |ref _=>cases r;rfl
 |ty _=>cases r;rfl
def ZC{j b}(i:PE X a ta):PC X .Is a (.Constant .none j b) (aeY ta):=by intro pz s k H Q I h;refine jo (i pz s k H _ I h) λv l g=> ?_;let⟨x d,e,f,c⟩:=g;exact QR (is_none_gen ⟨.bl _,d,e,by rw[f.aR];rfl,c⟩)
def Wc{j b}(i:PE X a ta):PC X .IsNot a (.Constant .none j b) (abS ta):=by intro pz s k H Q I h;refine jo (i pz s k H _ I h) λv l g=> ?_;let⟨x d,e,f,c⟩:=g;exact QR (isnot_none_gen ⟨.bl _,d,e,by rw[f.aR];rfl,c⟩)
def tB(t:TE):TT:=λb H Q=>t b H λx a=> ∃c,x= .bl c/\Q c a
def Sg(h:PC X op a b t)(c:gv op b=false:=by first|exact J5 _ (by decide) (by decide)|rfl):PE X (.Compare a [op] [b] pos) t:=λpz s e H Q I d=>agb (h pz s e H Q I d) c
def Ho{op:abL}{t:TE}(h:PC X op a b t)(e:gv op b=false:=by first|exact J5 _ (by decide) (by decide)|rfl):PT X (.Compare a [op] [b] pos) (tB t):=by intro pz s g H Q I n;refine Vc (jo (h pz s g H _ I n) λv p e=>jo e λu r k=>jo k λc o m=> ?_) e;let⟨x f,i,j,l⟩:=m;let⟨(d),rfl,q⟩:=l;cases j;exact jb ⟨f,i,q⟩
def Zi{e:jG}{t:TE}(h:PE X e t)(he: ∀whole,isTrue e X.env whole=(do let v<-whole;abw e.pos;qm [v] (truthy v)):=by intro _;rfl):PT X e (tB t):=by intro pz s b H Q I j;refine isTrue_plain (jo (h pz s b H _ I j) λv k i=> ?_) (he _);let⟨x a,c,f,g⟩:=i;let⟨(d),rfl,q⟩:=g;cases f;exact jb ⟨a,c,q⟩
def ab5(t u:TT):TT:=λb H Q=>t b H λc a=>if c=true then u b a Q else Q false a
def tOr(t u:TT):TT:=λb H Q=>t b H λc a=>if c=true then Q true a else u b a Q
def aeV(t:TT):TT:=λb H Q=>t b H λc a=>Q (!c) a
def VP(b:PT X a tA):PW X (.BoolOp .And [a] pos) tA:=by
 intro g pz s d H Q I h;refine isTrue_and (jo (b pz s d H Q I h) λc f e=> ?_);cases c with
 |true=>exact isTrue_and_nil e
 |false=>exact e
def Zg(b:PT X a tA):PW X (.BoolOp .Or [a] pos) tA:=by
 intro g pz s d H Q I h;refine isTrue_or (jo (b pz s d H Q I h) λc f e=> ?_);cases c with
 |false=>exact isTrue_or_nil e
 |true=>exact e
def Zh(m:PT X a tA)(k:PW X (.BoolOp .And (b::rest) pos) tB'):PW X (.BoolOp .And (a::b::rest) pos) (ab5 tA tB'):=by
 intro j pz s g H Q I h;refine isTrue_and (jo (m pz s g H _ I h) λc i l=> ?_);let⟨(e),f,d⟩:=l;cases c with
 |true=>exact k j pz i g e Q f d
 |false=>exact⟨e,f,d⟩
def ach(m:PT X a tA)(k:PW X (.BoolOp .Or (b::rest) pos) tB'):PW X (.BoolOp .Or (a::b::rest) pos) (tOr tA tB'):=by
 intro j pz s g H Q I h;refine isTrue_or (jo (m pz s g H _ I h) λc i l=> ?_);let⟨(e),f,d⟩:=l;cases c with
 |true=>exact⟨e,f,d⟩
 |false=>exact k j pz i g e Q f d
def Zj(d:PT X a tA):PT X (.UnaryOp .Not a pos) (aeV tA):=by intro pz s e H Q I h;exact isTrue_not (d pz s e H (λc b=>Q (!c) b) I h)
def ab4(d e:TE):TE:=λb H Q=>d b H λx a=> ∃c,x= .bl c/\if c=true then e b a Q else Q (.bl false) a
def aeU(d e:TE):TE:=λb H Q=>d b H λx a=> ∃c,x= .bl c/\if c=true then Q (.bl true) a else e b a Q
def Zs{op}(h:PE X a t):PE X (.BoolOp op [a] pos) t:=λpz s c H Q I b=>BoolOp_one (h pz s c H Q I b)
def Zv(m:PE X a ta)(k:PE X (.BoolOp .And (b::rest) pos) tb):PE X (.BoolOp .And (a::b::rest) pos) (ab4 ta tb):=by
 intro pz s f H Q I h;refine BoolOp_and (jo (m pz s f H _ I h) λv j l=> ?_);let⟨x e,g,i,d⟩:=l;let⟨(c),rfl,d⟩:=d;cases i;refine jb ?_;cases c with
 |true=>exact k pz j f e Q g d
 |false=>exact⟨.bl false,e,g,rfl,d⟩
def acn(m:PE X a ta)(k:PE X (.BoolOp .Or (b::rest) pos) tb):PE X (.BoolOp .Or (a::b::rest) pos) (aeU ta tb):=by
 intro pz s f H Q I h;refine BoolOp_or (jo (m pz s f H _ I h) λv j l=> ?_);let⟨x e,g,i,d⟩:=l;let⟨(c),rfl,d⟩:=d;cases i;refine jb ?_;cases c with
 |false=>exact k pz j f e Q g d
 |true=>exact⟨.bl true,e,g,rfl,d⟩
def tIf(t:TT)(d e:TE):TE:=λa H Q=>t a H λc b=>if c=true then d a b Q else e a b Q
def Sb{c:jG}(m:PT X c tA)(n:PE X a ta)(k:PE X b tb):PE X (.IfExp c a b pos) (tIf tA ta tb):=by
 intro pz s e H Q I h;refine wpAny_IfExp (jo (m pz s e H _ I h) λd i l=> ?_);let⟨(f),g,j⟩:=l;cases d with
 |true=>exact n pz i e f Q g j
 |false=>exact k pz i e f Q g j
end
def rB(K:dh)(H:Hp)(a:eB)(c:List V):Prop:=
 Rd H a (.lst c)\/
  ∃(o:xG) (b:mj) (n:Nat),K.lookup a=some o/\o.cls= .type "list" /\o.dict=none/\o.data= .seq b n/\b.size<=eQ/\gF c b.toList
def qJ(K:dh)(H:Hp)(a:eB)(c:List V):Prop:=
 Rd H a (.tup c)\/
  ∃(o:xG) (b:mj) (n:Nat),K.lookup a=some o/\o.cls= .type "tuple" /\o.data= .seq b n/\b.size<=eQ/\gF c b.toList
noncomputable def af1:eA->Option V
 | .none=>some .non
 | .bool b=>some (.bl b)
 | .int i _=>some (.int i)
 | .str x _=>some (.str x)
 | .bytes b _=>some (.byt b)
 | .float b _=>some (.flt b)
 | .ref a=>some (.ref a)
 | .type n=>some (.ty n)
 |_=>none
def RelV.abs(r:RelV x u):af1 u=some x:=by
 cases x with
 |non=>cases r;rfl
 |bl _=>cases r;rfl
 |int _=>let⟨(t),rfl⟩:=r;rfl
 |str _=>let⟨(t),rfl⟩:=r;rfl
 |byt _=>let⟨(t),rfl⟩:=r;rfl
 |flt _=>let⟨(t),rfl⟩:=r;rfl
 |ref _=>cases r;rfl
 |ty _=>cases r;rfl
def RelV.inj{x y:V}{u:eA}(r:RelV x u)(q:RelV y u):x=y:=ft (r.abs.symm.trans q.abs)
theorem gF.inj: ∀{a b:List V} {us:fM},gF a us->gF b us->a=b
 |_,_,_,.nil,.nil=>rfl
 |_,_,_,.cons r t,.cons c t'=>by rw[r.inj c,gF.inj t t']
section
def rB.of{K:dh}(h:H a=some (.lst xs)):rB K H a xs:= .inl (.inl h)
def qJ.of{K:dh}(h:H a=some (.tup xs)):qJ K H a xs:= .inl (.inl h)
def Inv.list(I:Inv X pz σ H s)(h:rB X.K H a xs): ∃b:List eA,gF xs b/\PlainL s.heap a b.toArray/\ ~~~xs<=sizeLine:=by
 rcases h with h|⟨o,b,n,hk,c,hd,d,hz,r⟩
 .obtain⟨z,b,n,r,e⟩:=h.ok I.ab;exact⟨b,r,⟨_,n,e,rfl,rfl,rfl⟩,z⟩
 .refine⟨b.toList,r,⟨o,n,I.bb a o hk,c,hd,by simpa using d⟩,?_⟩;have e:= ~~~r
  simp_all
def Inv.tuple(I:Inv X pz σ H s)(h:qJ X.K H a xs): ∃b:List eA,gF xs b/\vv s.heap a b.toArray/\ ~~~xs<=sizeLine:=by
 rcases h with h|⟨o,b,n,hk,c,d,hz,r⟩
 .obtain⟨z,b,r,p⟩:=h.ok I.ab;exact⟨b,r,p.tup,z⟩
 .refine⟨b.toList,r,⟨o,I.bb a o hk,c,n,by simpa using d⟩,?_⟩;have e:= ~~~r
  simp_all
def Inv.aH(I:Inv X pz σ H s)(h:rB X.K H a xs)(h':rB X.K H a ys):xs=ys:=by
 obtain⟨c,r,⟨o,n,e,_,_,d⟩,_⟩:=I.list h;obtain⟨b,g,⟨j,i,f,_,_,d'⟩,_⟩:=I.list h';rw[e]at f;cases f;rw[d]at d';injection d' with d1 _;have:c=b:=by simpa using gR abf d1
 subst this;exact r.inj g
def Inv.aM(I:Inv X pz σ H s)(h:qJ X.K H a xs)(h':qJ X.K H a ys):xs=ys:=by
 obtain⟨c,r,⟨o,e,_,n,d⟩,_⟩:=I.tuple h;obtain⟨b,g,⟨j,f,_,i,d'⟩,_⟩:=I.tuple h';rw[e]at f;cases f;rw[d]at d';injection d' with d1 _;have:c=b:=by simpa using gR abf d1
 subst this;exact r.inj g
end
abbrev Cx.aK(X:Cx)(E:gY):Cx:={X with xe:=E}
abbrev Cx.b9(X:Cx):Cx:=X.aK λ_ _=>False
def Cx.Ok.aK{X:Cx}(ok:X.Ok)(E:gY):(X.aK E).Ok:=
 ⟨ok.mod,ok.kind,ok.glob,ok.blt,ok.above,ok.inj,ok.has,ok.cD,ok.hd,ok.frames,ok.cF,ok.cN,ok.bs,ok.bZ,ok.bJ,ok.bO,ok.aJ,ok.cv⟩
def Cx.Ok.aq{X:Cx}{E:gY}(ok:(X.aK E).Ok):X.Ok:=
 ⟨ok.mod,ok.kind,ok.glob,ok.blt,ok.above,ok.inj,ok.has,ok.cD,ok.hd,ok.frames,ok.cF,ok.cN,ok.bs,ok.bZ,ok.bJ,ok.bO,ok.aJ,ok.cv⟩
section
def Inv.aK(I:Inv X pz σ H s)(E:gY):Inv (X.aK E) pz σ H s:=⟨I.ok.aK E,I.os,I.bare,I.base,I.loc,I.cell,I.free,I.ao,I.pin,I.ab,I.len⟩
def Inv.aq(I:Inv (X.aK E) pz σ H s):Inv X pz σ H s:=⟨I.ok.aq,I.os,I.bare,I.base,I.loc,I.cell,I.free,I.ao,I.pin,I.ab,I.len⟩
def SP.aq(h:SP (X.aK E) pz D f s'):SP X pz D f s':=by
 cases f with
 |next=>let⟨a b,I,q⟩:=h;exact⟨a,b,I.aq,q⟩
 |brk=>let⟨a b,I,q⟩:=h;exact⟨a,b,I.aq,q⟩
 |cont=>let⟨a b,I,q⟩:=h;exact⟨a,b,I.aq,q⟩
 |ret u=>let⟨v a b,I,r,q⟩:=h;exact⟨v,a,b,I.aq,r,q⟩
def GO.b9{st:List o4}{t:TS}(h:GO X.b9 st t):GO X st t:=λpz s b H D I a=>
 iK (h pz s b H D (I.aK _) a) (λ_ _ q=>q.aq) λ_ _ z=>eZ z
end
section
variable {st:o4}
def abU:TS:=λD a H=>D.nx a H
def aeS(t u:TS):TS:=λD a H=>t {D with nx:=u D} a H
def yY:GO X [] abU:=λ_ _ a H _ I h=>yE ⟨a,H,I,h⟩
def kK(b:PS X st t)(g:GO X rest u):GO X (st::rest) (aeS t u):=by
 intro pz s e H D I h;refine adD (jo (b pz s e H {D with nx:=u D} I h) λf i q=> ?_);cases f with
 |next=>let⟨a d,c,q⟩:=q;exact g pz i a d D c q
 |ret v=>exact q
 |brk=>exact q
 |cont=>exact q
def oG(a:PS X st t):GO X [st] t:=by
 intro pz s b H D I h;refine adD (jo (a pz s b H D I h) λf c q=> ?_);cases f with
 |next=>exact yE q
 |ret v=>exact q
 |brk=>exact q
 |cont=>exact q
def Inv.quiet{pz:i4}{a:St}{H:Hp}{s:dJ}(I:Inv X pz a H s):ahF X.env=false:=by simp[ahF,I.ok.kind]
def abX(te:TE):TS:=λD a H=>te a H λ_ b=>D.nx a b
def Hr(he:PE X e te)(f:jr e none pos.line X.env=pure false:=by rfl):PS X (.Expr e pos) (abX te):=by intro pz s a H D I h;exact wpAny_Expr_any (jo (he pz s a H _ I h) λv i g=>by let⟨x b,c,j,d⟩:=g;exact⟨a,b,c,d⟩) I.quiet f
def aeT(te:TE):TS:=λD a H=>te a H D.rt
def sm(he:PE X e te):PS X (.Return (some e) pos) (aeT te):=by intro pz s a H D I h;exact wpAny_Return_some (jo (he pz s a H _ I h) λv i g=>by let⟨x b,c,f,d⟩:=g;exact⟨x,a,b,c,f,d⟩)
def aeZ(c:TT)(t u:TS):TS:=λD a H=>c a H λb d=>if b=true then t D a d else u D a d
def JF{c:jG}{a b:List o4}{i:TT}(n:PT X c i)(o:GO X a t)(l:GO X b u):PS X (.If c a b pos) (aeZ i t u):=by
 intro pz s e H D I h;refine wpAny_If (jo (n pz s e H _ I h) λd j m=> ?_);let⟨(f),g,k⟩:=m;cases d with
 |true=>exact o pz j e f D g k
 |false=>exact l pz j e f D g k
end
abbrev TG:=V->St->Hp->(St->Hp->Prop)->Prop
abbrev TGs:=List V->St->Hp->(St->Hp->Prop)->Prop
def PG(X:Cx)(target:jG)(t:TG):Prop:=
 ∀(pz:i4) (s:dJ) (c:St) (H:Hp) (v:V) (u:eA) (Q:St->Hp->Prop),Inv X pz c H s->RelV v u->t v c H Q->
  dR (dZ X.prog X.w) X.A (yr target X.env u) (λ_ d=> ∃a b,Inv X pz a b d/\Q a b) X.xe s
def PGs(X:Cx)(f:mW)(t:TGs):Prop:=
 ∀(pz:i4) (s:dJ) (d:St) (H:Hp) (b:List V) (us:fM) (Q:St->Hp->Prop),Inv X pz d H s->gF b us->t b d H Q->
  dR (dZ X.prog X.w) X.A (assignInOrder ((lK f X.env).map (·.2)) us) (λ_ e=> ∃a c,Inv X pz a c e/\Q a c) X.xe s
abbrev UC:=V->V->V->Hp->(Hp->Prop)->Prop
def aaP(X:Cx)(t:UC):Prop:=
 ∀(pz:i4) (s:dJ) (d:St) (H:Hp) (o i v:V) (b a u:eA) (Q:Hp->Prop),Inv X pz d H s->RelV o b->RelV i a->RelV v u->t o i v H Q->
  dR (dZ X.prog X.w) X.A (Lj b a u) (λ_ e=> ∃c,Inv X pz d c e/\Q c) X.xe s
abbrev TIp:=V->V->Hp->VK->Prop
def PIp(X:Cx)(op:XC)(t:TIp):Prop:=
 ∀(pz:i4) (s:dJ) (a:St) (H:Hp) (x y:V) (v u:eA) (Q:VK),Inv X pz a H s->RelV x v->RelV y u->t x y H Q->
  dR (dZ X.prog X.w) X.A (inplaceOp op v u) (EP X pz a Q) X.xe s
section
def Kz(i:Nat):TG:=λv a H Q=>Q (a.set i (some v)) H
def Ck(c:X.N.Nodup)(a:X.N[i]?=some x)(d:Loc X.env.scope x)(e:X.fn x=true\/X.env.scope.names.lookup x=some .local:=by subst_eqs):PG X (.Name x pos) (Kz i):=by intro pz s g H v u Q I r h;exact abu (CS I c a d r (λf b=>⟨_,H,b,h⟩) e)
def afq:TGs:=λa b H Q=>a=[]/\Q b H
def acL(t:TG)(u:TGs):TGs:=λb d H Q=> ∃v r,b=v::r/\t v d H λa c=>u r a c Q
def V1:PGs X [] afq:=by intro pz s a H b us Q I r h;let⟨e,h⟩:=h;exact assignInOrder_nil ⟨a,H,I,h⟩
def JM{e:jG}{a:mW}{t:TG}{u:TGs}(d:PG X e t)(j:PGs X a u)
  (k:(lK (e::a) X.env).map (·.2)=yr e X.env::(lK a X.env).map (·.2):=by rfl):PGs X (e::a) (acL t u):=by
 intro pz s f H p us Q I r h;let⟨v q,i,h⟩:=h;subst i;cases r with
 |cons r o=>rw[k];refine assignInOrder_cons (jo (d pz s f H _ _ _ I r h) λ_ l n=> ?_);let⟨b c,g,m⟩:=n;exact j pz l b c _ _ Q g o m
def afo(K:dh)(n:Nat)(t:TGs):TG:=λv c H Q=> ∃a b,v= .ref a/\qJ K H a b/\ ~~~b=n/\t b c H Q
def Zo(z:X.calm=true)(h:PGs X es t)
  (m:(lK es X.env).length=n:=by rfl)(c:(lK es X.env).findIdx? (·.1)=none:=by rfl):PG X (.Tuple es k pos) (afo X.K n t):=by
 intro pz s i H v u Q I r d;let⟨a y,l,g,w,d⟩:=d;subst l;cases r;let⟨(q),f,p,hz⟩:=I.tuple g;refine assign_Tuple_tuple (I.ok.hd z) p (by simp[m,<-w,~~~f]) c λh' x=> ?_;have j:=I.kept (t':=s.toks) λb o e=>x b o (eG (dD e)) e;exact h pz _ i H y _ Q j (by simpa using f) d
def afp(c f:TE)(t:UC):TG:=λv a H Q=>c a H λo b=>f a b λi d=>t o i v d λe=>Q a e
def Zp{o i:jG}{e f:TE}{t:UC}(J:PE X o e)(A:PE X i f)(p:aaP X t)
  (G: ∀v,yr (.Subscript o i pos) X.env v=(do
   let a<-qm [v] (fX o X.env)
   let c<-qm [v,a] (fX i X.env)
   abw pos
   qm [v,a,c] (Lj a c v)
   abz [v,a,c] []):=by intro _;rfl):PG X (.Subscript o i pos) (afp e f t):=by
 intro pz s d H v u Q I r h;rw[G];refine c9 (iF (jo (J pz s d H _ I h) λa q b=> ?_));let⟨x g,m,n,w⟩:=b;refine c9 (iF (jo (A pz q d g _ m w) λc C b=> ?_));let⟨y j,E,l,z⟩:=b;refine c9 (Cw (c9 (iF (jo (p pz C d j x y v a c u _ E n l r z) λ_ M b=> ?_))));let⟨(F),B,k⟩:=b;exact wpAny_release ⟨d,F,B,k⟩
def Y4(te:TE)(g:TG):TS:=λD a H=>te a H λx b=>g x a b D.nx
def Zk{a e:jG}{te:TE}{g:TG}(he:PE X e te)(m:PG X a g)(j:agR [a] e pos.line X.env=pure false:=by rfl)(o:agT [a] e X.env=pure none:=by rfl)
  (d:(lK [a] X.env).map (·.2)=[yr a X.env]:=by rfl):PS X (.Assign [a] e pos) (Y4 te g):=by
 intro pz s b H D I h;refine wpAny_Assign_stores (jo (he pz s b H _ I h) λv k n=> ?_) j o;let⟨x c,f,i,l⟩:=n;rw[d];exact jo (m pz k b c x v _ f i l) λ_ p q=>q
def sk{i:Nat}{x:gw}{e:jG}{te:TE}{a:Pos}(j:X.N.Nodup)(m:X.N[i]?=some x)(b:Loc X.env.scope x)(he:PE X e te)(k:jr e (some (.Name x a)) pos.line X.env=pure false:=by rfl)(o:X.fn x=true\/X.env.scope.names.lookup x=some .local:=by subst_eqs):
  PS X (.Assign [.Name x a] e pos) (Y4 te (Kz i)):=by
 intro pz s d H D I h;refine wpAny_Assign_Name (jo (he pz s d H _ I h) λv p b=> ?_) k;let⟨y c,f,g,l⟩:=b;exact CS f j m b g (λq n=>⟨_,c,n,l⟩) o
def ab3(i:Nat)(te:TE)(d:TIp):TS:=λD a H=> ∃x,a[i]?=some (some x)/\te a H λy b=>d x y b λz c=>D.nx (a.set i (some z)) c
def R4{i:Nat}{x:gw}{e:jG}{te:TE}{op:XC}{o:TIp}{d:Pos}(J:X.N.Nodup)(p:X.N[i]?=some x)(b:Loc X.env.scope x)(he:PE X e te)(Y:PIp X op o)(Z:X.fn x=true\/X.env.scope.names.lookup x=some .local:=by subst_eqs):
  PS X (.AugAssign (.Name x d) op e pos) (ab3 i te o):=by
 intro pz s n H D I h;let⟨(v),E,h⟩:=h;let⟨(m),G,Q⟩:=I.loc;have j:Ys X.env.scope x:=by rcases b with k|k;exact .inl k;exact .inr (.inl k)
 let⟨(u),r,l⟩:=Q i x v p E j;refine wpAny_AugAssign_Name ?_;have go:dR (dZ X.prog X.w) X.A (fX e X.env) (λw g=>dR (dZ X.prog X.w) X.A (inplaceOp op u w) (λr f=>dR (dZ X.prog X.w) X.A (adG X.env x r) (λ_=>SP X pz D .next) X.xe f) X.xe g) X.xe s:=by refine jo (he pz s n H _ I h) λw M b=> ?_;let⟨y q,C,F,O⟩:=b;refine jo (Y pz M n q v y u w _ C r F O) λz s2 b=> ?_;let⟨zv t,T,B,P⟩:=b;exact CS T J p b B (λs3 S=>⟨_,t,S,P⟩) Z
 rcases l with⟨hk,R⟩|⟨hk,c,U,a⟩
 .exact Xp I.ok.kind hk G R go
 .rcases hk with hk|hk
  .exact Yx I.ok.kind hk U a go
  .rcases b with k|k
   .have:X.env.scope.names.lookup x=some .free:=hk
    grind
   .have:X.env.scope.names.lookup x=some .free:=hk;rw[k]at this;cases this
def ab2(f j te:TE)(b:V->V->Hp->VK->Prop)(d:TIp)(a:UC):TS:=λD c H=>f c H λo e=>j c e λi g=>b o i g λx m=>te c m λy l=>d x y l λz k=>a o i z k λh=>D.nx c h
def adt(X:Cx)(t:V->V->Hp->VK->Prop):Prop:=
 ∀(pz:i4) (s:dJ) (c:St) (H:Hp) (o i:V) (b a:eA) (Q:VK),Inv X pz c H s->RelV o b->RelV i a->t o i H Q->
  dR (dZ X.prog X.w) X.A (yo b a) (EP X pz c Q) X.xe s
def VU{o i e:jG}{k p te:TE}{c:V->V->Hp->VK->Prop}{j:TIp}{b:UC}{op:XC}{tpos:Pos}(ho:PE X o k)(Z:PE X i p)(T:adt X c)(he:PE X e te)(y:PIp X op j)(B:aaP X b)
  (ha: ∀f g new,augStore i f g new=(do qm [new,f,g] (Lj f g new);abz [new,f,g] [];pure .next):=by intros;rfl):PS X (.AugAssign (.Subscript o i tpos) op e pos) (ab2 k p te c j b):=by
 intro pz s d H D I h;refine wpAny_AugAssign_SubscriptAny (jo (ho pz s d H _ I h) λf M a=> ?_) ha;let⟨l r,z,n,N⟩:=a;refine jo (Z pz M d r _ z N) λg s2 a=> ?_;let⟨q t,I2,m,R⟩:=a;refine jo (T pz s2 d t l q f g _ I2 n m R) λold E a=> ?_;let⟨A H3,I3,Q,u⟩:=a;refine jo (he pz E d H3 _ I3 u) λv J a=> ?_;let⟨w U,O,Y,q4⟩:=a;refine jo (y pz J d U A w old v _ O Q Y q4) λnew S a=> ?_;let⟨x5 F,P,G,q5⟩:=a;exact jo (B pz S d F l q x5 f g new _ P n m G q5) λ_ s6 a=>by let⟨(x),C,q6⟩:=a;exact⟨d,x,C,q6⟩
def ipI(f:Int->Int->Int):TIp:=λx y H Q=> ∃i j,x= .int i/\y= .int j/\Q (.int (f i j)) H
def S6:PIp X .Add (ipI λi j=>i+j):=by intro pz s e H x y v u Q I c a h;let⟨i j,b,d,q⟩:=h;subst b;subst d;let⟨(t),rfl⟩:=c;let⟨(t'),rfl⟩:=a;exact iadd_int ⟨.int _,H,I.tok _,⟨_,rfl⟩,q⟩
def Z4:PIp X .Sub (ipI λi j=>i-j):=by intro pz s e H x y v u Q I c a h;let⟨i j,b,d,q⟩:=h;subst b;subst d;let⟨(t),rfl⟩:=c;let⟨(t'),rfl⟩:=a;exact isub_int ⟨.int _,H,I.tok _,⟨_,rfl⟩,q⟩
end
section
def YX(c:TT)(g:TS):TS:=λD a H=> ∃W:Nat->St->Hp->Prop,(∃m,W m a H)/\ ∀m a H,W m a H->
 c a H λb e=>if b=true then∃N:St->Hp->Prop,(∀d f,N d f-> ∃m',m'<m/\W m' d f)/\g {D with nx:=N,ct:=N,bk:=D.nx} a e else D.nx a e
def R3{c:jG}{body:List o4}{x:TT}{z:TS}(t:IA (dZ X.prog X.w) X.A X.env X.xe)(S:PT X c x)(M:GO X body z):PS X (.While c body [] pos) (YX x z):=by
 intro pz s E H D I h;obtain⟨W,⟨C,Q⟩,e⟩:=h;refine wpAny_While (codeAny_whileLoop (λn G=> ∃g u,Inv X pz g u G/\W n g u) ?_ C ⟨E,H,I,Q⟩);rintro n J ⟨d,q,F,P⟩;refine nc t (jo (S pz J d q _ F (e n d q P)) λb R O=> ?_);let⟨(r),B,k⟩:=O;cases b with
 |true=>
  let⟨(N),y,k⟩:=k;refine nc t (jo (M pz R d r _ B k) λf T j=> ?_);cases f with
  |next=>let⟨a i,p,l⟩:=j;let⟨(m'),o,m⟩:=y a i l;exact⟨m',o,a,i,p,m⟩
  |cont=>let⟨a i,p,l⟩:=j;let⟨(m'),o,m⟩:=y a i l;exact⟨m',o,a,i,p,m⟩
  |brk=>exact j
  |ret v=>exact j
 |false=>exact yE ⟨d,r,B,k⟩
end
structure It where
 go:Nat->Hp->Prop
 bY:Nat->Hp->V->Hp->Prop
 stop:Nat->Hp->Prop
def B4(X:Cx)(pz:i4)(H:Hp)(b:eB):Prop:=
 H b=none/\b≠X.env.locals/\b∉X.fs/\(b∈X.ex\/X.aS.heap.objs.size<=b)/\(∀x c,X.env.cells.lookup x=some c->c≠b)/\ ∀p∈X.pn++pz,p.1≠b
def Inv.aV{X:Cx}{pz:i4}{h:St}{H d:Hp}{s:dJ}{b:eB}(I:Inv X pz h H s)(a:s.heap.objs.size<=b)(f:d b=none):B4 X pz d b:=by
 refine⟨f,jx (fC I.lt a),I.cJ a,.inr (eC I.sz a),λx c e z=> ?_,λp g z=> ?_⟩
 .obtain⟨v,q⟩:=I.cell x c e;exact absurd (fC q.lt (by rw[z];exact a)) (jY _)
 .exact absurd (fC (dD (I.pin p g).1) (by rw[z];exact a)) (jY _)
structure yi(P:fY)(w:iu)(K:dh)(tg:jG)(J:It)(fp:iY)(it:eB)(tn:Nat->iZ->Prop):Prop where
 mem:it∈fp
 obj: ∀i h,tn i h-> ∀b∈fp,∃o,h.get? b=some o/\ ∀v,o.data≠ .cell v
 keep: ∀i h h',tn i h->(∀b∈fp,∀o,h.get? b=some o->h'.get? b=some o)->tn i h'
 item: ∀(X:Cx),X.prog=P->X.w=w->X.K=K->X.calm=true-> ∀(i:Nat) (pz:i4) (s:dJ) (σ:St) (H:Hp) (E:gY),Inv X pz σ H s->(∀b∈fp,B4 X pz H b)->tn i s.heap->J.go i H->
  dR (dZ P w) X.A (mX (.ref it)) (λr s1=> ∃u,r=some u/\
   dR (dZ P w) X.A (Lb tg (.ref it) u) (λ_ s2=> ∃x H',Inv X pz σ H' s2/\RelV x u/\J.bY i H x H'/\tn (i+1) s2.heap/\ ∀b∈fp,H' b=none) E s1) E s
 done: ∀(X:Cx),X.prog=P->X.w=w->X.K=K->X.calm=true-> ∀(i:Nat) (pz:i4) (s:dJ) (σ:St) (H:Hp) (E:gY),Inv X pz σ H s->(∀b∈fp,B4 X pz H b)->tn i s.heap->J.stop i H->
  dR (dZ P w) X.A (mX (.ref it)) (λr s1=>r=none/\Inv X pz σ H s1) E s
 self: ∀(A:i6) (i:Nat) (s:dJ) (Q:gY) (E:gY),tn i s.heap->Q (.ref it) s->dR (dZ P w) A (yn (.ref it)) Q E s
abbrev TI:=St->Hp->(It->Hp->Prop)->Prop
def PIE(X:Cx)(pz:i4)(i:St)(h:jG)(R:It->Hp->Prop)(a:eA)(d:dJ):Prop:=
 ∃(f:eB) (g:iY) (e:Nat->iZ->Prop) (J:It) (c:Hp),a= .ref f/\Inv X pz i c d/\yi X.prog X.w X.K h J g f e/\e 0 d.heap/\(∀b∈g,B4 X pz c b)/\R J c
def PI(X:Cx)(c iter:jG)(d:TI):Prop:=
 ∀(pz:i4) (s:dJ) (a:St) (H:Hp) (R:It->Hp->Prop),Inv X pz a H s->d a H R->
  dR (dZ X.prog X.w) X.A (fX iter X.env) (λv b=>dR (dZ X.prog X.w) X.A (yn v) (PIE X pz a c R) X.xe b) X.xe s
def GC{M:abH}{A:i6}{E:gY}{s:dJ}{d:jG}{c:eB}{u:eA}{o:xG}{n:String}{b:mj}{Q:Unit->dJ->Prop}(g:s.heap.get? c=some o)(f:o.cls= .type n)(hd:o.data= .fields b)
  (e: ["enumerate","zip","dict_itemiterator","dict_reverseitemiterator","odict_iterator","itertools.zip_longest","itertools.pairwise"].contains n=false)(a:Q () s):dR M A (Lb d (.ref c) u) Q E s:=by
 cases d<;>first
  |exact de a
  |(cases u<;>first
    |exact de a
    |(refine c9 (wpAny_load g ?_)
      rw[f,hd];show dR M A (if(["enumerate","zip","dict_itemiterator","dict_reverseitemiterator","odict_iterator","itertools.zip_longest","itertools.pairwise"].contains n&&b[0]?==some (wx _))=true then _ else _) Q E s;rw[di (by intro h;rw[e,YH]at h;cases h)];exact de a))
def Itl(K:dh)(a:eB):It:=
 ⟨λi H=> ∃b x,rB K H a b/\b[i]?=some x,λi H x c=>c=H/\ ∀b,rB K H a b->b[i]?=some x,λi H=> ∃b,rB K H a b/\ ~~~b<=i⟩
def Itt(K:dh)(a:eB):It:=
 ⟨λi H=> ∃b x,qJ K H a b/\b[i]?=some x,λi H x c=>c=H/\ ∀b,qJ K H a b->b[i]?=some x,λi H=> ∃b,qJ K H a b/\ ~~~b<=i⟩
def Itr(lo:Int)(n:Nat):It:=⟨λi _=>i<n,λi H x a=>a=H/\x= .int (lo+i),λi _=>n<=i⟩
def ON{P:fY}{w:iu}{K:dh}{Q:jG}(a g:eB):yi P w K Q (Itl K a) [g] g (λi h=>h.IsListIter g a i) where
 mem:=by simp
 obj:=λi h st b f=>by
  let⟨(o),e,c,d⟩:=st
  simp_all
 keep:=λi h h' st k=>st.at λo e=>k g (by simp) o e
 item:=by intro X t F n G i pz s M H E I m st A;subst t F n;let⟨S x,l,B⟩:=A;let⟨(y),r,p,hz⟩:=I.list l;let⟨(u),N,T⟩:=r.get B;let⟨v,f1,f2,C,z,q⟩:=m g (by simp);refine yl st p.isList (by simpa using N) λh' j J=> ?_;have O:=I.turned (t':=s.toks) (λb o f e=>(J.2 b f).trans e) v f1 C z q;let⟨(o),e,c,d⟩:=id j;exact⟨u,rfl,GC e c d (by decide) ⟨x,H,O,T,⟨rfl,λY U=>by rw[I.aH U l];exact B⟩,j,λb f=>(m b f).1⟩⟩
 done:=by intro X t F n G i pz s M H E I m st A;subst t F n;let⟨(S),l,B⟩:=A;let⟨(y),r,p,hz⟩:=I.list l;let⟨v,f1,f2,C,z,q⟩:=m g (by simp);have Z:= ~~~r;exact Vb (I.ok.hd G) st p.isList (by simp;lia) λh' R=>⟨rfl,I.turned (λb o f e=>R b o f e) v f1 C z q⟩
 self:=λ_ _ _ _ _ st h=>wpAny_pyIter_listiter st h
def LB{P:fY}{w:iu}{K:dh}{Q:jG}(a j:eB):yi P w K Q (Itt K a) [j] j (λi h=>h.IsTupleIter j a i) where
 mem:=by simp
 obj:=λi h st b g=>by
  let⟨(o),e,c,d⟩:=st
  simp_all
 keep:=λi h h' st k=>st.at λo e=>k j (by simp) o e
 item:=by intro X v F q G i pz s M H E I n st A;subst v F q;let⟨S x,m,B⟩:=A;let⟨(f),t,p,hz⟩:=I.tuple m;let⟨(u),N,T⟩:=t.get B;let⟨y,f1,f2,C,z,r⟩:=n j (by simp);refine QU st (show s.heap.IsTuple a f.toArray from p) (by simpa using N) λh' l J=> ?_;have O:=I.turned (t':=s.toks) (λb o g e=>(J.2 b g).trans e) y f1 C z r;let⟨(o),e,c,d⟩:=id l;exact⟨u,rfl,GC e c d (by decide) ⟨x,H,O,T,⟨rfl,λY U=>by rw[I.aM U m];exact B⟩,l,λb g=>(n b g).1⟩⟩
 done:=by intro X v F q G i pz s M H E I n st A;subst v F q;let⟨(S),m,B⟩:=A;let⟨(f),t,p,hz⟩:=I.tuple m;let⟨y,f1,f2,C,z,r⟩:=n j (by simp);have Z:= ~~~t;exact UO (I.ok.hd G) st (show s.heap.IsTuple a f.toArray from p) (by simp;lia) λh' R=>⟨rfl,I.turned (λb o g e=>R b o g e) y f1 C z r⟩
 self:=λ_ _ _ _ _ st h=>wpAny_pyIter_tupleiter st h
def LC{P:fY}{w:iu}{K:dh}{A:jG}(a:eB)(lo:Int)(n:Nat):yi P w K A (Itr lo n) [a] a (λi h=>XH h a (lo+(i:Nat)*1) ((n:Int)-(i:Nat)) 1) where
 mem:=by simp
 obj:=λi h st b c=>by
  simp_all
 keep:=λi h h' st k=>k a (by simp) _ st
 item:=by intro X x y r q i pz s u H E I f st m;subst x y r;let⟨j,f1,f2,p,l,g⟩:=f a (by simp);have W:=abC (prog:=X.prog) (w:=X.w) (I.ok.hd q) a lo 1 n;refine W.item i s _ _ m st λv h' tk C d kk=> ?_;let⟨(t),rfl⟩:=C;have z:Inv X pz u H {s with heap:=h',toks:=tk}:=I.turned (λb o c e=>kk b o (by simpa using c) e) j f1 p l g;refine⟨_,rfl,GC d rfl rfl (by decide) ⟨.int (lo+i),H,z,⟨t,?_⟩,⟨rfl,rfl⟩,d,λb c=>(f b c).1⟩⟩;rw[Int.mul_one]
 done:=by intro X x y r q i pz s u H E I f st m;let⟨j,f1,f2,p,l,g⟩:=f a (by simp);exact UP (I.ok.hd q) st (by have:n<=i:=m;lia) λh' B=>⟨rfl,I.turned (λb o c e=>B b o c e) j f1 p l g⟩
 self:=λ_ _ _ _ _ st h=>UQ st h
section
def acG(K:dh)(tl:TE):TI:=λd H R=>tl d H λx b=> ∃a,x= .ref a/\(∃c,rB K b a c)/\R (Itl K a) b
def afn(K:dh)(tl:TE):TI:=λd H R=>tl d H λx b=> ∃a,x= .ref a/\(∃c,qJ K b a c)/\R (Itt K a) b
def NB{l:jG}{tl:TE}(r:PE X l tl):PI X tg l (acG X.K tl):=by
 intro pz s i H R I h;refine jo (r pz s i H _ I h) λv d t=> ?_;let⟨x f,c,j,k⟩:=t;obtain⟨a,e,⟨w,g⟩,q⟩:=k;subst e;cases j;let⟨(m),u,p,hz⟩:=c.list g;refine vm p.isList ?_;refine⟨d.heap.objs.size,[d.heap.objs.size],_,_,f,rfl,c.kept λb o e=>dc _ e,ON a _,⟨_,dw _ rfl,rfl,rfl⟩,λb n=> ?_,q⟩;have e:b=d.heap.objs.size:=by simpa using n
 subst e;exact c.aV (dI _) (c.ab.fresh (dI _))
def Zn{l:jG}{tl:TE}(r:PE X l tl):PI X tg l (afn X.K tl):=by
 intro pz s j H R I h;refine jo (r pz s j H _ I h) λv d t=> ?_;let⟨x g,c,k,m⟩:=t;obtain⟨a,e,⟨w,i⟩,q⟩:=m;subst e;cases k;let⟨(f),u,p,hz⟩:=c.tuple i;refine uA (show d.heap.IsTuple a f.toArray from p) ?_;refine⟨d.heap.objs.size,[d.heap.objs.size],_,_,g,rfl,c.kept λb o e=>dc _ e,LB a _,⟨_,dw _ rfl,rfl,rfl⟩,λb n=> ?_,q⟩;have e:b=d.heap.objs.size:=by simpa using n
 subst e;exact c.aV (dI _) (c.ab.fresh (dI _))
def Jz{pz:i4}{c:St}{H:Hp}{s:dJ}{R:It->Hp->Prop}{E:gY}{lo a:Int}{t u v:Tok}{tk:Nat}(I:Inv X pz c H s)(f: -(2^62)<=lo)(h:lo<2^62)(j: -(2^62)<=a)(k:a<2^62)
  (q:R (Itr lo (a-lo).toNat) H):dR (dZ X.prog X.w) X.A (yn (.ref s.heap.objs.size)) (PIE X pz c tg R) E {s with heap:=s.heap.push {cls:= .type "range",data:= .fields #[.int lo t,.int a u,.int 1 v]},toks:=tk}:=by
 refine aaX (YC ..) (small_one f h j k) ?_;have d:Inv X pz c H {s with heap:=s.heap.push {cls:= .type "range",data:= .fields #[.int lo t,.int a u,.int 1 v]},toks:=tk}:=I.kept λb o e=>dc _ e;refine⟨(s.heap.push {cls:= .type "range",data:= .fields #[.int lo t,.int a u,.int 1 v]}).objs.size,[(s.heap.push {cls:= .type "range",data:= .fields #[.int lo t,.int a u,.int 1 v]}).objs.size],_,_,H,rfl,
  d.kept λb o e=>dc _ e,LC _ lo (a-lo).toNat,?_,λb i=> ?_,q⟩
 .have g:lo+((0:Nat):Int)*1=lo:=by simp
  have l:(((a-lo).toNat:Nat):Int)-((0:Nat):Int)=lF lo a 1:=by rw[rangeSize_one];split<;>lia
  rw[g,l];exact dw _ rfl
 .have e:b=(s.heap.push {cls:= .type "range",data:= .fields #[.int lo t,.int a u,.int 1 v]}).objs.size:=by simpa using i
  subst e;exact d.aV (dI _) (d.ab.fresh (dI _))
def acF(c:TA):TI:=λd H R=>c d H λb a=> ∃j:Int,b=[.int j]/\ -(2^62)<=j/\j<2^62/\R (Itr 0 j.toNat) a
def acE(c:TA):TI:=λd H R=>c d H λb a=> ∃i j:Int,b=[.int i,.int j]/\(-(2^62)<=i/\i<2^62/\ -(2^62)<=j/\j<2^62)/\R (Itr i (j-i).toNat) a
def Ph{a:jG}{c:TA}{p pos:Pos}(m:Gl X "range")(l:X.mg "range" =none)(u:PA X [a] c)(i:dj [a] X.env=[(false,fX a X.env)]:=by rfl):PI X tg (.Call (.Name "range" p) [a] [] pos) (acF c):=by
 intro pz s d H R I h;refine agt (sA I m l aa8 (gP (jo (u pos pz s d H _ I h) λus w n=> ?_) i rfl));let⟨x v,f,g,b⟩:=n;let⟨(j),e,b,k,q⟩:=b;subst e;cases g with
 |cons r o=>
  cases o
  let⟨(t),rfl⟩:=r;exact call_range_1 (Jz f (by lia) (by lia) b k (by simpa using q))
def Pg{a b:jG}{g:TA}{p pos:Pos}(x:Gl X "range")(w:X.mg "range" =none)(z:PA X [a,b] g)(u:dj [a,b] X.env=[(false,fX a X.env),(false,fX b X.env)]:=by rfl)(c:dj [b] X.env=[(false,fX b X.env)]:=by rfl):
  PI X tg (.Call (.Name "range" p) [a,b] [] pos) (acE g):=by
 intro pz s m H R I h;refine agt (sA I x w aa8 (gP (jo (z pos pz s m H _ I h) λus C y=> ?_) (by rw[u,c]) (by rw[c];rfl)));let⟨E B,n,o,d⟩:=y;obtain⟨i,j,e,⟨d,v,l,A⟩,q⟩:=d;subst e;cases o with
 |cons r f=>
  cases f with
  |cons k f=>
   cases f
   let⟨(t),rfl⟩:=r;let⟨(t'),rfl⟩:=k;exact call_range_2 (Jz n d v l A q)
def ae0(j:TI)(g:TG)(h:TS):TS:=λD a H=>j a H λJ e=> ∃W:Nat->Nat->St->Hp->Prop,(∃m,W 0 m a e)/\ ∀i m a H,W i m a H->
 (J.stop i H/\D.nx a H)\/(J.go i H/\ ∃N:St->Hp->Prop,(∀b c,N b c-> ∃m',m'<m/\W (i+1) m' b c)/\ ∀x c,J.bY i H x c->g x a c λd f=>h {D with nx:=N,ct:=N,bk:=D.nx} d f)
def Dm(a:iY)(h:iZ):List (eB×xG):=a.filterMap λb=>(h.get? b).map λo=>(b,o)
def xX{a:iY}{h:iZ}{b:eB}{o:xG}(c:b∈a)(e:h.get? b=some o):(b,o)∈Dm a h:=zP.mpr ⟨b,c,by rw[e];rfl⟩
def Pw(a:p∈Dm fp h):p.1∈fp/\h.get? p.1=some p.2:=by
 let⟨(b),c,e⟩:=zP.mp a;cases q:h.get? b with
 |none=>rw[q]at e;cases e
 |some o=>grind
def Inv.pinned{pz:i4}{f:St}{H:Hp}{s:dJ}{a:iY}(I:Inv X pz f H s)(k: ∀b∈a,B4 X pz H b)(j: ∀b∈a,∃o,s.heap.get? b=some o/\ ∀v,o.data≠ .cell v):Inv X (pz++Dm a s.heap) f H s:=
 I.aX λp h=>(gp.mp h).elim (λz=>I.pin p (i7 _ z)) λz=>by let⟨g,e⟩:=Pw z;let⟨i,f1,f2,_⟩:=k p.1 g;let⟨(o),c,d⟩:=j p.1 g;rw[e]at c;cases c;exact⟨e,i,f1,f2,d⟩
def Inv.az{pz pl:i4}{a:St}{H:Hp}{s:dJ}(I:Inv X (pz++pl) a H s):Inv X pz a H s:=I.aX λp b=>I.pin p (i7 _ (Ow _ b))
def LV{iter:jG}{body:List o4}{wi:TI}{g:TG}{tb:TS}{pos:Pos}(C:IA (dZ X.prog X.w) X.A X.env X.xe)(hc:X.calm=true)(hi:PI X tg iter wi)(hg:PG X tg g)(l:GO X body tb)
  (hs: ∀x,iO iter X.env x=pure x:=by intro _;rfl):PS X (.For tg iter body [] pos) (ae0 wi g tb):=by
 intro pz s σ H D I h;refine wpAny_For (jo (hi pz s σ H _ I h) λv s1 h1=>jo h1 λx0 s2 h2=> ?_) hs;obtain⟨it,O,tn,J,H2,e,I2,T,Y,f2,W,⟨m0,w0⟩,E⟩:=h2;subst e;have c: ∀{t:Hp},(∀b∈O,t b=none)-> ∀b∈O,B4 X pz t b:=λhn b l=>⟨hn b l,(f2 b l).2⟩;refine codeAny_forLoop_any (λn s'=> ∃i k t,Inv X pz k t s'/\tn i s'.heap/\(∀b∈O,t b=none)/\W i n k t) ?_ m0 ⟨0,σ,H2,I2,Y,λb l=>(f2 b l).1,w0⟩;rintro n s3 ⟨i,j,P,I3,F,M,w3⟩;rcases E i n j P w3 with⟨stop,qn⟩|⟨go,N,hN,step⟩
 .refine nc C (jo (T.done X rfl rfl rfl hc i pz s3 j P X.xe I3 (c M) F stop) λr s4 z=> ?_);let⟨Z,I4⟩:=z;subst Z;exact yE ⟨j,P,I4,qn⟩
 .refine nc C (jo (T.item X rfl rfl rfl hc i pz s3 j P X.xe I3 (c M) F go) λr s4 z=> ?_);let⟨(u),Z,h4⟩:=z;subst Z;refine nc C (jo h4 λ_ s5 z=> ?_);let⟨x H5,I5,r5,y5,B,Q⟩:=z;have R:=I5.pinned (c Q) (T.obj _ _ B);refine nc C (jo (hg _ s5 j H5 x u _ R r5 (step x H5 y5)) λ_ s6 z=> ?_);let⟨U H6,I6,q6⟩:=z;refine nc C (jo (l _ s6 U H6 _ I6 q6) λf S y=> ?_);have again: ∀{a:St} {q:Hp},Inv X (pz++Dm O s5.heap) a q S->N a q-> ∃m,m<n/\ ∃i k t,Inv X pz k t S/\tn i S.heap/\(∀b∈O,t b=none)/\W i m k t:=λ{a q} p G=>by let⟨(m'),hm,w7⟩:=hN a q G;refine⟨m',hm,i+1,a,q,p.az,T.keep _ _ _ B λb l o e=>(p.pin (b,o) (i7 _ (i7 _ (xX l e)))).1,λb l=> ?_,w7⟩;let⟨(o),e,d⟩:=T.obj _ _ B b l;exact(p.pin (b,o) (i7 _ (i7 _ (xX l e)))).2.1
  cases f with
  |next=>let⟨a q,p,G⟩:=y;exact again p G
  |cont=>let⟨a q,p,G⟩:=y;exact again p G
  |brk=>let⟨a q,p,y⟩:=y;exact⟨a,q,p.az,y⟩
  |ret v=>let⟨x7 a q,p,r7,y⟩:=y;exact⟨x7,a,q,p.az,r7,y⟩
end
def TF{K:dh}{a:eB}{c:List V}{g:TG}{l:TS}{D:EH}{b:St}{H:Hp}(d:Nat->St->Hp->Prop)(t:d 0 b H)(o: ∀i b H,i<= ~~~c->d i b H->rB K H a c)
  (n: ∀i x b H,c[i]?=some x->d i b H->g x b H λf k=>l {D with nx:=d (i+1),ct:=d (i+1),bk:=D.nx} f k)(hd: ∀b H,d (~~~c) b H->D.nx b H):
  ∃W:Nat->Nat->St->Hp->Prop,(∃m,W 0 m b H)/\ ∀i m b H,W i m b H->
   ((Itl K a).stop i H/\D.nx b H)\/((Itl K a).go i H/\ ∃N:St->Hp->Prop,(∀j h,N j h-> ∃m',m'<m/\W (i+1) m' j h)/\ ∀x h,(Itl K a).bY i H x h->g x b h λf k=>l {D with nx:=N,ct:=N,bk:=D.nx} f k):=by
 refine⟨λi m b H=>m= ~~~c-i/\i<= ~~~c/\d i b H,⟨~~~c,by simp,kW _,t⟩,?_⟩;rintro i m b H ⟨rfl,s,p⟩;have q:=o i b H s p;by_cases hlt:i< ~~~c
 .refine .inr ⟨⟨c,c[i],q,by simp[hlt]⟩,d (i+1),λj h r=>⟨~~~c-(i+1),by lia,rfl,hlt,r⟩,λx h y=> ?_⟩;let⟨e,y⟩:=y;subst e;exact n i x b _ (y c q) p
 .have e:i= ~~~c:=by lia
  subst e;exact .inl ⟨⟨c,q,dI _⟩,hd b H p⟩
abbrev R2:=V->V->Hp->VK->Prop
def tG(X:Cx)(f:EB)(r:R2):Prop:=
 ∀(pz:i4) (s:dJ) (a:St) (H:Hp) (x y:V) (v u:eA) (Q:VK),Inv X pz a H s->RelV x v->RelV y u->r x y H Q->
  dR (dZ X.prog X.w) X.A (f v u) (EP X pz a Q) X.xe s
def UnR(X:Cx)(f:eA->Sem eA)(r:V->Hp->VK->Prop):Prop:=
 ∀(pz:i4) (s:dJ) (a:St) (H:Hp) (x:V) (v:eA) (Q:VK),Inv X pz a H s->RelV x v->r x H Q->
  dR (dZ X.prog X.w) X.A (f v) (EP X pz a Q) X.xe s
def nM(X:Cx)(f:eA)(r:List V->Hp->VK->Prop):Prop:=
 ∀(pz:i4) (s:dJ) (b:St) (H:Hp) (a:List V) (us:fM) (Q:VK),Inv X pz b H s->gF a us->r a H Q->
  dR (dZ X.prog X.w) X.A (call f us) (EP X pz b Q) X.xe s
def XW(r:R2)(d e:TE):TE:=λa H Q=>d a H λx b=>e a b λy c=>r x y c Q
def tUn(r:V->Hp->VK->Prop)(b:TE):TE:=λc H Q=>b c H λx a=>r x a Q
def rI(C:Int->Int->Prop)(g:Int->Int->V):R2:=λx y H Q=> ∃i j,x= .int i/\y= .int j/\C i j/\Q (g i j) H
def U8(g:Int->Int->V):R2:=λx y H Q=> ∃i j,x= .int i/\y= .int j/\Q (g i j) H
def rU(g:Int->V):V->Hp->VK->Prop:=λx H Q=> ∃i,x= .int i/\Q (g i) H
section
def aaG(z:PE X a ta)(q:PE X b tb){pz:i4}{s:dJ}{d:St}{H:Hp}{R:V->V->Hp->Prop}(I:Inv X pz d H s)
  (h:ta d H λx j=>tb d j λy c=>R x y c){Q:gY}{f:EB}
  (B: ∀v u i x y c,Inv X pz d c i->RelV x v->RelV y u->R x y c->dR (dZ X.prog X.w) X.A (f v u) Q X.xe i):
  dR (dZ X.prog X.w) X.A (fX a X.env) (λv g=>dR (dZ X.prog X.w) X.A (fX b X.env) (λu e=>dR (dZ X.prog X.w) X.A (f v u) Q X.xe e) X.xe g) X.xe s:=by
 refine jo (z pz s d H _ I h) λv o k=> ?_;let⟨x j,m,n,p⟩:=k;refine jo (q pz o d j _ m p) λu i k=> ?_;let⟨y c,t,l,r⟩:=k;exact B v u i x y c t n l r
def aco{op:XC}{r:R2}(l:tG X (nZ op) r)(k:PE X a ta)(f:PE X b tb):PE X (.BinOp a op b pos) (XW r ta tb):=by intro pz s d H Q I h;exact wpAny_BinOp (aaG k f I h λv u i x y c j e g q=>l pz i d c x y v u Q j e g q)
def acm{op:UnaryOp}{r:V->Hp->VK->Prop}(k:UnR X (unaryOp op) r)(j:PE X a ta):PE X (.UnaryOp op a pos) (tUn r ta):=by intro pz s b H Q I h;exact UnaryOp_ (jo (j pz s b H _ I h) λv f i=>by let⟨x c,d,e,g⟩:=i;exact k pz f b c x v Q d e g)
def opI{f:EB}{C:Int->Int->Prop}{g:Int->Int->Int}
  (rule: ∀(i j:Int) (t u:Tok) (s:dJ) (Q:gY) (E:gY),C i j->Q (.int (g i j) s.toks) {s with toks:=s.toks+1}->dR (dZ X.prog X.w) X.A (f (.int i t) (.int j u)) Q E s):
  tG X f (rI C λi j=> .int (g i j)):=by
 intro pz s d H x y v u Q I a b h;let⟨i j,rfl,rfl,c,q⟩:=h;let⟨(t),rfl⟩:=a;let⟨(t'),rfl⟩:=b;exact rule i j t t' s _ _ c ⟨.int (g i j),H,I.tok _,⟨_,rfl⟩,q⟩
def acv{f:EB}{g:Int->Int->Int}
  (rule: ∀(i j:Int) (t u:Tok) (s:dJ) (Q:gY) (E:gY),Q (.int (g i j) s.toks) {s with toks:=s.toks+1}->dR (dZ X.prog X.w) X.A (f (.int i t) (.int j u)) Q E s):
  tG X f (U8 λi j=> .int (g i j)):=by
 intro pz s c H x y v u Q I a b h;let⟨i j,rfl,rfl,q⟩:=h;let⟨(t),rfl⟩:=a;let⟨(t'),rfl⟩:=b;exact rule i j t t' s _ _ ⟨.int (g i j),H,I.tok _,⟨_,rfl⟩,q⟩
def Wk{f:EB}{g:Int->Int->Bool}
  (rule: ∀(i j:Int) (t u:Tok) (s:dJ) (Q:gY) (E:gY),Q (.bool (g i j)) s->dR (dZ X.prog X.w) X.A (f (.int i t) (.int j u)) Q E s):
  tG X f (U8 λi j=> .bl (g i j)):=by
 intro pz s c H x y v u Q I a b h;let⟨i j,rfl,rfl,q⟩:=h;let⟨(t),rfl⟩:=a;let⟨(t'),rfl⟩:=b;exact rule i j t t' s _ _ ⟨.bl (g i j),H,I,rfl,q⟩
def ady(i j:Int):Prop:=0<j/\j<1073741824
def Xm(i j:Int):Prop:=(-(2^64)<i/\i<2^64)\/(-(2^64)<j/\j<2^64)
def Xm.ok{i j:Int}(h:Xm i j):IntMulOk i j:=by
 rcases h with⟨a,b⟩|⟨a,b⟩
 .exact .of_left (agV a b)
 .exact .of_right (agV a b)
def ZN:tG X (nZ .Add) (U8 λi j=> .int (i+j)):=acv λ_ _ _ _ _ _ _ q=>add_int q
def ZI:tG X (nZ .Sub) (U8 λi j=> .int (i-j)):=acv λ_ _ _ _ _ _ _ q=>sub_int q
def ZJ:tG X (nZ .Mult) (rI Xm λi j=> .int (i*j)):=opI λ_ _ _ _ _ _ _ a q=>mul_int q a.ok
def Wg:tG X (nZ .FloorDiv) (rI ady λi j=> .int (i/j)):=opI λi j _ _ _ _ _ a q=>by have b:(0:Int)<j:=a.1;have c:j<1073741824:=a.2;exact aht (by lia) (by rw[ID i (by lia)];exact q) (.inl (Iz (by lia)))
def ZK:tG X (nZ .Mod) (rI (λ_ j=>0<j) λi j=> .int (i%j)):=opI λi j _ _ _ _ _ a q=>by have b:=a;exact mod_int' (by lia) (by rw[Int.fmod_eq_emod_of_nonneg i (by lia)];exact q)
def unI{f:eA->Sem eA}{g:Int->Int}
  (rule: ∀(i:Int) (t:Tok) (s:dJ) (Q:gY) (E:gY),Q (.int (g i) s.toks) {s with toks:=s.toks+1}->dR (dZ X.prog X.w) X.A (f (.int i t)) Q E s):
  UnR X f (rU λi=> .int (g i)):=by
 intro pz s b H x v Q I a h;let⟨(i),rfl,q⟩:=h;let⟨(t),rfl⟩:=a;exact rule i t s _ _ ⟨.int (g i),H,I.tok _,⟨_,rfl⟩,q⟩
def YR:UnR X (unaryOp .USub) (rU λi=> .int (-i)):=unI λ_ _ _ _ _ q=>neg_int q
end
noncomputable def ab6:V->V->Bool
 | .non,.non=>true| .non,.int _=>true| .int _,.non=>true| .non,.bl _=>true| .bl _,.non=>true| .non,.str _=>true| .str _,.non=>true
 | .int _,.int _=>true| .bl _,.bl _=>true| .str _,.str _=>true| .byt _,.byt _=>true
 | .int _,.str _=>true| .str _,.int _=>true| .bl _,.str _=>true| .str _,.bl _=>true
 |_,_=>false
def rEq:R2:=λx y H Q=>ab6 x y=true/\Q (.bl (decide (x=y))) H
def rNe:R2:=λx y H Q=>ab6 x y=true/\Q (.bl (!decide (x=y))) H
def N6:decide (V.int i=V.int j)=(i==j):=by rw[je];simp
def TY:decide (V.bl i=V.bl j)=(i==j):=by rw[je];simp
def N5:decide (V.str i=V.str j)=(i==j):=by rw[je];simp
def N7:decide (V.byt i=V.byt j)=(i.toList==j.toList):=by
 rw[je]
 simp_all
section
def jh(I:Inv X pz σ H s)(q:Q (.bl k) H)(e:k=k'):EP X pz σ Q (.bool k') s:=by subst e;exact⟨.bl k,H,I,rfl,q⟩
def k5:tG X (gH .Eq) rEq:=by
 intro pz s d H x y v u Q I c a h;let⟨b,q⟩:=h;cases x with
 |non=>
  cases c
  cases y with
  |non=>cases a;exact aew (jh I q (by simp))
  |bl j=>cases a;exact aey (jh I q (by simp))
  |int j=>let⟨(t'),rfl⟩:=a;exact aex (jh I q (by simp))
  |str j=>let⟨(t'),rfl⟩:=a;exact aev (jh I q (by simp))
  |_=>exact absurd (show false=true from b) dY
 |bl i=>
  cases c
  cases y with
  |non=>cases a;exact aeA (jh I q (by simp))
  |bl j=>cases a;exact eq_bool (jh I q TY)
  |str j=>let⟨(t'),rfl⟩:=a;exact adR (jh I q (by simp))
  |_=>exact absurd (show false=true from b) dY
 |int i=>
  let⟨(t),rfl⟩:=c;cases y with
  |non=>cases a;exact aez (jh I q (by simp))
  |int j=>let⟨(t'),rfl⟩:=a;exact eq_int (jh I q N6)
  |str j=>let⟨(t'),rfl⟩:=a;exact adQ (jh I q (by simp))
  |_=>exact absurd (show false=true from b) dY
 |str i=>
  let⟨(t),rfl⟩:=c;cases y with
  |non=>cases a;exact aeu (jh I q (by simp))
  |bl j=>cases a;exact adP (jh I q (by simp))
  |int j=>let⟨(t'),rfl⟩:=a;exact adO (jh I q (by simp))
  |str j=>let⟨(t'),rfl⟩:=a;exact eq_str (jh I q N5)
  |_=>exact absurd (show false=true from b) dY
 |byt i=>
  let⟨(t),rfl⟩:=c;cases y with
  |byt j=>let⟨(t'),rfl⟩:=a;exact PySem.W.eq_bytes (jh I q N7)
  |_=>exact absurd (show false=true from b) dY
 |_=>cases y<;>exact absurd (show false=true from b) dY
def SD:tG X (gH .NotEq) rNe:=by
 intro pz s d H x y v u Q I c a h;let⟨b,q⟩:=h;cases x with
 |non=>
  cases c
  cases y with
  |non=>cases a;exact aep (jh I q (by simp))
  |bl j=>cases a;exact aer (jh I q (by simp))
  |int j=>let⟨(t'),rfl⟩:=a;exact aeq (jh I q (by simp))
  |str j=>let⟨(t'),rfl⟩:=a;exact aeo (jh I q (by simp))
  |_=>exact absurd (show false=true from b) dY
 |bl i=>
  cases c
  cases y with
  |non=>cases a;exact aet (jh I q (by simp))
  |bl j=>cases a;exact ne_bool (jh I q (gR not TY))
  |str j=>let⟨(t'),rfl⟩:=a;exact adN (jh I q (by simp))
  |_=>exact absurd (show false=true from b) dY
 |int i=>
  let⟨(t),rfl⟩:=c;cases y with
  |non=>cases a;exact aes (jh I q (by simp))
  |int j=>let⟨(t'),rfl⟩:=a;exact ne_int (jh I q (gR not N6))
  |str j=>let⟨(t'),rfl⟩:=a;exact adM (jh I q (by simp))
  |_=>exact absurd (show false=true from b) dY
 |str i=>
  let⟨(t),rfl⟩:=c;cases y with
  |non=>cases a;exact aen (jh I q (by simp))
  |bl j=>cases a;exact adL (jh I q (by simp))
  |int j=>let⟨(t'),rfl⟩:=a;exact adK (jh I q (by simp))
  |str j=>let⟨(t'),rfl⟩:=a;exact ne_str (jh I q (gR not N5))
  |_=>exact absurd (show false=true from b) dY
 |byt i=>
  let⟨(t),rfl⟩:=c;cases y with
  |byt j=>let⟨(t'),rfl⟩:=a;exact PySem.W.ne_bytes (jh I q (gR not N7))
  |_=>exact absurd (show false=true from b) dY
 |_=>cases y<;>exact absurd (show false=true from b) dY
def A9:tG X (gH .Lt) (U8 λi j=> .bl (decide (i<j))):=Wk λ_ _ _ _ _ _ _ q=>lt_int q
def xl:tG X (gH .LtE) (U8 λi j=> .bl (decide (i<=j))):=Wk λ_ _ _ _ _ _ _ q=>le_int q
def uG:tG X (gH .Gt) (U8 λi j=> .bl (decide (j<i))):=Wk λ_ _ _ _ _ _ _ q=>gt_int q
def SE:tG X (gH .GtE) (U8 λi j=> .bl (decide (j<=i))):=Wk λ_ _ _ _ _ _ _ q=>ge_int q
def tG.or(h:tG X f r)(h':tG X f r'):tG X f (λx y H Q=>r x y H Q\/r' x y H Q):=by
 intro pz s c H x y v u Q I a b q;rcases q with q|q
 .exact h pz s c H x y v u Q I a b q
 .exact h' pz s c H x y v u Q I a b q
def fO(b:jG)(h:op≠ .In:=by decide)(c:op≠ .NotIn:=by decide):gv op b=false:=by
 have a:(op==ags)=false:=by cases op<;>first|rfl|exact absurd rfl h
 have d:(op==abK)=false:=by cases op<;>first|rfl|exact absurd rfl c
 cases b<;>simp[gv,a,d]
def Hw(m:tG X (gH op) r)(l:PE X a ta)(f:PE X b tb)(g:gv op b=false):PE X (.Compare a [op] [b] pos) (XW r ta tb):=by intro pz s d H Q I h;exact agb (aaG l f I h λv u j x y c k e i q=>m pz j d c x y v u Q k e i q) g
def XU(t:TE):TT:=λb H Q=>t b H λx a=> ∃k,x= .bl k/\Q k a
def yX{op:abL}{r:R2}(J:tG X (gH op) r)(G:PE X a ta)(q:PE X b tb)(A:gv op b=false):PT X (.Compare a [op] [b] pos) (XU (XW r ta tb)):=by intro pz s f H Q I h;refine Vc (jo (G pz s f H _ I h) λv o d=> ?_) A;let⟨x g,m,n,p⟩:=d;refine jo (q pz o f g _ m p) λu C d=> ?_;let⟨y i,E,l,w⟩:=d;refine jo (J pz C f i x y v u _ E n l w) λc M d=> ?_;obtain⟨z,F,B,t,k,e,j⟩:=d;subst e;cases t;exact jb ⟨F,B,j⟩
def LJ(r c:R2)(h i g:TE):TE:=λa H Q=>h a H λx d=>i a d λy e=>r x y e λz b=> ∃k,z= .bl k/\
 (if k=true then g a b λf j=>c y f j Q else Q (.bl false) b)
def Sh{op g:abL}{r l:R2}(ho:tG X (gH op) r)(j:tG X (gH g) l)(ha:PE X a ta)(N:PE X b tb)(Z:PE X c tc)
  (R:QX [op,g] [b,c]=false:=by with_unfolding_all rfl):PE X (.Compare a [op,g] [b,c] pos) (LJ r l ta tb tc):=by
 intro pz s i H Q I h;refine Compare_chain (jo (ha pz s i H _ I h) λv G f=> ?_) R;let⟨x q,A,B,J⟩:=f;refine chain_link (jo (N pz G i q _ A J) λu U f=> ?_);let⟨y t,Y,n,P⟩:=f;refine jo (ho pz U i t x y v u _ Y B n P) λd E f=> ?_;obtain⟨z,p,o,O,k,e,m⟩:=f;subst e;cases O;refine jb ?_;cases k with
 |false=>exact ite_ff ⟨.bl false,p,o,rfl,m⟩
 |true=>exact ite_tt (chain_last (jo (Z pz E i p _ o m) λC F f=>by let⟨w S,M,T,q4⟩:=f;exact j pz F i S y w u C Q M n T q4))
def R1{op g:abL}{r l:R2}(ho:tG X (gH op) r)(j:tG X (gH g) l)(ha:PE X a ta)(T:PE X b tb)(hc:PE X c tc)
  (Z:QX [op,g] [b,c]=false:=by with_unfolding_all rfl):PT X (.Compare a [op,g] [b,c] pos) (XU (LJ r l ta tb tc)):=by
 intro pz s i H Q I h;refine isTrue_chain (jo (ha pz s i H _ I h) λv O f=> ?_) Z;let⟨x q,C,E,P⟩:=f;refine test_link (jo (T pz O i q _ C P) λu s2 f=> ?_);let⟨y t,I2,n,Y⟩:=f;refine jo (ho pz s2 i t x y v u _ I2 E n Y) λd G f=> ?_;obtain⟨z,p,o,U,k,e,m⟩:=f;subst e;cases U;refine jb ?_;cases k with
 |false=>let⟨(k'),A,B⟩:=m;cases A;exact ite_ff ⟨p,o,B⟩
 |true=>refine ite_tt (test_last (jo (hc pz G i p _ o m) λF N f=> ?_));let⟨w H4,R,r4,q4⟩:=f;refine jo (j pz N i H4 y w u F _ R n r4 q4) λd' s5 f=> ?_;obtain⟨z2,J,S,M,k2,e2,q5⟩:=f;subst e2;cases M;exact jb ⟨J,S,q5⟩
def Au:(eQ:Nat)<2^63:=by rw[dO];decide
def vals1(r:gF [x] us): ∃u,us=[u]/\RelV x u:=by
 cases r with
 |cons a b=>cases b;exact⟨_,rfl,a⟩
def vals2(r:gF [x,y] us): ∃u a,us=[u,a]/\RelV x u/\RelV y a:=by
 cases r with
 |cons c d=>
  cases d with
  |cons b e=>cases e;exact⟨_,_,rfl,c,b⟩
end
structure QB(h:iZ)(x dx C:eB)(mA:kQ):Prop where
 obj:h.get? x=some (lA C dx)
 ns:h.Ns1 dx mA
 ne:dx≠x
def PQ{h:iZ}{d:eB}{c:kQ}(n:h.Ns1 d c): ∃od,h.get? d=some od/\ ∀name,EK name od=some (c name):=by
 let⟨o g k,j,hd,hk,_,f⟩:=n;refine⟨o,j,λname=> ?_⟩;have e:=f name;unfold nsFind findBy at e;rw[<-Array.find?_toList]at e;unfold EK;rw[hd];dsimp only;split
 .simp_all
 .rename_i q;have a:g.toList.any (·.refKey)=false:=by rw[List.any_eq_false];intro y i;let⟨z t,b⟩:=hk y (Array.mem_toList_iff.mp i);simp[ahA,b]
  grind
def QB.look(I:QB h x dx C mA): ∃od,PySem.W.InstAt h x (lA C dx) C (some od)/\ ∀name,EK name od=some (mA name):=
 let⟨od,b,a⟩:=PQ I.ns
 ⟨od,⟨I.obj,rfl,rfl,b⟩,a⟩
section
variable {K:dh}
def WL(X:K.In s.heap)(I:QB s.heap x dx C mA)(e:tH K C name=true)(f:sg K C=true)
  (d:jU K (.ref C) name=some none)(b:mA name=some v)(a:QL v=true)(h:Q v {s with toks:=s.toks+1}):
  dR (dZ prog w) A (ahs (.ref x) name expr) Q E s:=by
 let⟨(od),J,c⟩:=I.look;exact PySem.W.get_value X J (PySem.W.plainGet_of e).1 (PySem.W.findObj_own f d rfl (by rw[c,b])) a h
def VF(X:K.In s.heap)(I:QB s.heap x dx C mA)
  (j:jU K (.ref C) "__setattr__" =some (some (.builtin "object.__setattr__")))(i:zI K C=true)(k:B6 K C name=some none)(m:sg K C=true)
  (q:Lc mA ns)(hsz: ~~~ns<=eQ)
  (h: ∀h',QB h' x dx C (λy=>if y=name then some v else mA y)->ic dx s.heap h'->Q () {s with heap:=h',toks:=s.toks+2}):
  dR (dZ prog w) A (setAttr (.ref x) name v) Q E s:=by
 let⟨(od),J,u⟩:=I.look;refine PySem.W.set_plain X J j (PySem.W.osa_open X J i k λb=> ?_);let⟨(t),p,f⟩:=PySem.W.any_some m;have n:=I.obj;refine c9 (de (c9 (c9 (wpAny_loadPart n (c9 (adJ (PySem.W.looks_clsIn X p) ?_))))));rw[f];refine de (c9 (de (c9 ?_)));refine wpAny_nsSet1 I.ns λh' c a=> ?_;let⟨r l o,d,e,g⟩:=c.count (aem name v q);refine c9 (wpAny_lookBehind d (by rw[e];exact pastItsLine_dict (eC g (by rw[dB];lia))) ?_);exact de (h _ ⟨(a.2 _ (gk I.ne)).trans I.obj,c,I.ne⟩ a)
def SR(X:K.In s.heap)(b:B7 K C=true)
  (a:jU K (.ref C) "__init__" =some (some (.ref f)))(c:PySem.W.typeIn K (.ref f)=some (.type "function"))
  (h:ou (dZ prog w) (A.under (.builtin "type.__call__" ⟨.ref C::vs,kw⟩)) (.call (.ref f) ⟨.ref (s.heap.objs.size+1)::vs,kw⟩) (PySem.W.InitBack (s.heap.objs.size+1) R)
   {s with heap:=(s.heap.push lE).push (lA C s.heap.objs.size)}):
  ou (dZ prog w) A (.call (.ref C) ⟨vs,kw⟩) R s:=by
 exact PySem.W.make_core (PySem.W.makes_of X b) (PySem.W.looks_findIn X a) (λself=>PySem.W.bind_fn X self c) (.inl rfl) h
end
noncomputable def qP(f:gw)(v:V):List (gw×V)->List (gw×V)
 | []=> [(f,v)]
 |(g,x)::r=>if g=f then(g,v)::r else(g,x)::qP f v r
theorem Bh(f g:gw)(v:V): ∀b:List (gw×V),(qP f v b).lookup g=if g=f then some v else b.lookup g
 | []=>by
  show Oy g [(f,v)]=_;by_cases h:g=f
  .simp_all
  .simp_all
 |(k,x)::r=>by
  have ih:=Bh f g v r;rw[show qP f v ((k,x)::r)=(if k=f then(k,v)::r else(k,x)::qP f v r)from rfl];by_cases hk:k=f
  .rw[dq hk];by_cases h:g=k
   .simp_all
   .have a:=mz.mpr h;simp only[Oy,a,di (λe:g=f=>h (e.trans hk.symm))]
  .rw[di hk];by_cases h:g=k
   .simp_all
   .have a:=mz.mpr h;simp only[Oy,a];exact ih
theorem Av(f:gw)(v:V): ∀a:List (gw×V),f∈(qP f v a).map (·.1)/\ ∀g,g∈a.map (·.1)->g∈(qP f v a).map (·.1)
 | []=>⟨by simp[qP],λg h=>by simp at h⟩
 |(k,x)::r=>by
  let⟨b,c⟩:=Av f v r;rw[show qP f v ((k,x)::r)=(if k=f then(k,v)::r else(k,x)::qP f v r)from rfl]
  grind
theorem Bk(f:gw)(v:V): ∀a:List (gw×V),(qP f v a).length<= ~~~a+1
 | []=>by simp[qP]
 |(k,x)::r=>by
  have ih:=Bk f v r;rw[show qP f v ((k,x)::r)=(if k=f then(k,v)::r else(k,x)::qP f v r)from rfl];by_cases hk:k=f
  .simp_all
  .simp_all
def yj.some_of(r:yj (some v) o): ∃u,o=some u/\RelV v u:=by
 cases o with
 |none=>exact(show False from r).elim
 |some u=>exact⟨u,rfl,r⟩
def P9(r:RelV v u):QL u=true:=by
 cases v with
 |non=>cases (show u=mw from r);rfl
 |bl b=>cases (show u=ox b from r);rfl
 |int i=>let⟨(t),e⟩:=(show∃t,u=xD i t from r);cases e;rfl
 |str x=>let⟨(t),e⟩:=(show∃t,u=IR x t from r);cases e;rfl
 |byt b=>let⟨(t),e⟩:=(show∃t,u=abE b t from r);cases e;rfl
 |flt b=>let⟨(t),e⟩:=(show∃t,u=abD b t from r);cases e;rfl
 |ref a=>cases (show u=eD a from r);rfl
 |ty n=>cases (show u=jO n from r);rfl
section
def NR(c:ve P w H h)(e:H a=some (.ins C dx fs)): ∃b,QB h a dx C b/\(∀f,yj (fs.lookup f) (b f))/\Lc b (fs.map (·.1))/\ ~~~fs<=1000/\H dx=some (.own a):=by obtain⟨d,z,ne,g,b,n,r,q⟩:=(show jM P w H h a (.ins C dx fs)from c a _ e);exact⟨b,⟨g,n,ne⟩,r,q,z,d⟩
end
structure Yw(K:dh)(C:eB):Prop where
 pg:tH K C agY=true
 hd:sg K C=true
 po:zI K C=true
 sa:jU K (.ref C) "__setattr__" =some (some (.builtin "object.__setattr__"))
def Yw.get{K:dh}{C:eB}(c:Yw K C)(f:gw):tH K C f=true:=c.pg
def sF(K:dh)(C:eB)(f:gw):Prop:=jU K (.ref C) f=some none
def sF.cq{K:dh}{C:eB}{f:gw}(n:sF K C f):B6 K C f=some none:=by unfold B6;rw[show jU K (.ref C) f=some none from n];rfl
section
def Mt{b:Bool}{Q:gY}(I:Inv X pz σ H s)(e:H a=some (.ins C dx fs))(c:Yw X.K C)(n:sF X.K C f)(l:fs.lookup f=some v)
  (h: ∀u s',Inv X pz σ H s'->RelV v u->Q u s'):dR (dZ X.prog X.w) A (ahs (.ref a) f b) Q E s:=by
 let⟨(i),O,r,_,_,_⟩:=NR I.ab e;let⟨(u),g,d⟩:=yj.some_of (by rw[<-l];exact r f);exact WL I.bb O (c.get f) c.hd n g (P9 d) (h u _ (I.tok _) d)
def LQ{y:V}{u:eA}{Q:Unit->dJ->Prop}(I:Inv X pz σ H s)(e:H a=some (.ins C dx fs))(c:Yw X.K C)(n:sF X.K C f)(x: ~~~fs<1000)(t:RelV y u)
  (h: ∀s',Inv X pz σ (upd H a (.ins C dx (qP f y fs))) s'->Q () s'):dR (dZ X.prog X.w) A (setAttr (.ref a) f u) Q E s:=by
 let⟨(m),O,r,j,_,i⟩:=NR I.ab e;have hz:(fs.map (·.1)).length<=sizeLine:=by rw[dA,dO];lia
 refine VF I.bb O c.sa c.po n.cq c.hd j hz λh' d l=>h _ ?_;have hd: ∃o,h'.get? dx=some o:=let⟨o,_,_,k,_⟩:=d.ns;⟨o,k⟩;refine I.write (by rw[e];exact oz) (.inr i) (λb q p z=>(l.2 b p).trans z) hd ?_;refine⟨by rw[d9 O.ne];exact i,?_,O.ne,d.obj,_,d.ns,λg=> ?_,λg v=> ?_⟩
 .have:=Bk f y fs;lia
 .show yj ((qP f y fs).lookup g) (if g=f then some u else m g);rw[Bh];by_cases q:g=f
  .rw[dq q,dq q];exact t
  .rw[di q,di q];exact r g
 .by_cases q:g=f
  .rw[q];exact(Av f y fs).1
  .refine(Av f y fs).2 g (j g λz=>v ?_)
   simp_all
def Inv.made(I:Inv X pz σ H s):Inv X pz σ (upd (upd H s.heap.objs.size (.own (s.heap.objs.size+1))) (s.heap.objs.size+1) (.ins C s.heap.objs.size []))
  {s with heap:=(s.heap.push lE).push (lA C s.heap.objs.size)}:=by
 have a:(s.heap.push lE).get? s.heap.objs.size=some PySem.W.emptyDict:=dw s.heap rfl;have f:((s.heap.push lE).push (lA C s.heap.objs.size)).get? (s.heap.objs.size+1)=some (lA C s.heap.objs.size):=by
  have:=dw (s.heap.push lE) (o:=lA C s.heap.objs.size) rfl
  simp_all
 have g:(s.heap.push lE).Ns s.heap.objs.size (λ_=>none):=⟨lE,#[],_,a,rfl,(λe he=>absurd he (by simp)),λ_=>rfl⟩;have c:=I.laid (o:= .own (s.heap.objs.size+1)) (t':=s.toks) (λb u q=>dc _ q) (dI _) ⟨_,a⟩;refine c.laid (λb u q=>dc _ q) (wA (fR _ _)) ?_;have ne:s.heap.objs.size≠s.heap.objs.size+1:=eG (qr _);refine⟨by rw[d9 ne,eR],kW _,ne,f,λ_=>none,(ahK g).at λo q=>dc _ q,λ_=>oz,λy d=>absurd rfl d⟩
def Xe{prog:fY}{w:iu}{env:Ls}{e:jG}{f:gw}{pos:Pos}{s:dJ}{Q:gY}(a:hZ e f env (fX e env)=fX e env)
  (h:dR (dZ prog w) A (fX e env) (λo s₁=>dR (dZ prog w) A (ahs o f true) Q E s₁) E s):dR (dZ prog w) A (fX (.Attribute e f pos) env) Q E s:=
 Attribute_any_ h (by rw[arm_eval_Attribute,a])
end
def ae1(K:dh)(d:TE)(f:gw):TE:=λg H Q=>d g H λx b=> ∃a C e c v,x= .ref a/\b a=some (.ins C e c)/\Yw K C/\sF K C f/\c.lookup f=some v/\Q v b
def ae5(K:dh)(i h:TE)(f:gw):TS:=λD c H=>h c H λy g=>i c g λx d=> ∃a C e b,x= .ref a/\d a=some (.ins C e b)/\Yw K C/\sF K C f/\ ~~~b<1000/\
 D.nx c (upd d a (.ins C e (qP f y b)))
section
def Hv(he:PE X e ta)(k:hZ e f X.env (fX e X.env)=fX e X.env):PE X (.Attribute e f pos) (ae1 X.K ta f):=by intro pz s d H Q I h;refine Xe k (jo (he pz s d H _ I h) λu r m=> ?_);obtain⟨x,b,i,j,a,C,w,y,v,ex,g,c,n,l,q⟩:=m;subst ex;obtain rfl:u=eD a:=j;exact Mt i g c n l λt z o p=>⟨v,b,o,p,q⟩
def Hq(A:PE X o ta)(z:PE X value tv)(k:jr value (some (.Attribute o f pos')) pos.line X.env=pure false):PS X (.Assign [.Attribute o f pos'] value pos) (ae5 X.K ta tv f):=by intro pz s b H D I h;refine plainObj_wpAny_Assign_Attribute (jo (z pz s b H _ I h) λu m d=> ?_) k;let⟨y e,i,t,q⟩:=d;refine jo (A pz m b e _ i q) λp J d=> ?_;obtain⟨x,B,w,j,a,C,F,G,ex,g,c,n,l,r⟩:=d;subst ex;obtain rfl:p=eD a:=j;exact LQ w g c n l t λE v=>⟨b,_,v,r⟩
end
structure oo(k:Nat)(A:i6):Prop where
 hd:A.handled=none
 dp:A.depth+3*k+5<recursionLimit
 un:A.units+16*k+200<jc
def oo.mono(r:oo k A)(h:j<=k):oo j A:=⟨r.hd,by have:=r.dp;lia,by have:=r.un;lia⟩
def oo.deeper(r:oo (k+1) A)(env:Ls):oo k (A.deeper env):=
 ⟨r.hd,by have:=r.dp;show A.depth+1+3*k+5<_;lia,by have:=r.un;show A.units+3+16*k+200<_;lia⟩
theorem Mf{A:i6}{C:eB}{us:fM}{a:List (gw×eA)}:(A.under (.builtin "type.__call__" ⟨.ref C::us,a⟩)).depth=A.depth+1:=by rfl
theorem Me{A:i6}{C:eB}{us:fM}{a:List (gw×eA)}:(A.under (.builtin "type.__call__" ⟨.ref C::us,a⟩)).units=A.units+1:=by rfl
def oo.make(r:oo (k+1) A)(C:eB)(us:fM)(a:List (gw×eA)):oo k (A.under (.builtin "type.__call__" ⟨.ref C::us,a⟩)):=
 ⟨r.hd,by have:=r.dp;rw[Mf];lia,by have:=r.un;rw[Me];lia⟩
def oo.depth(r:oo k A):A.depth<recursionLimit:=by have:=r.dp;lia
def oo.units(r:oo k A):A.units+64<cLine:=by have:=r.un;lia
def abT:TA:=λ_ H Q=>Q [] H
def ab0(e:TE)(f:TA):TA:=λa H Q=>e a H λx b=>f a b λd c=>Q (x::d) c
section
def mF:PA X [] abT:=λ_ _ _ _ H Q I h=>mQ ⟨[],H,I,.nil,h⟩
def jl(q:PE X e te)(n:PA X es t)(j:dj (e::es) X.env=(false,fX e X.env)::dj es X.env:=by rfl):PA X (e::es) (ab0 te t):=by intro pos pz s b H Q I h;rw[j];refine kZ (jo (q pz s b H _ I h) λu k a=> ?_);let⟨x c,g,i,l⟩:=a;exact jo (n pos pz k b c _ g l) λus r a=>by let⟨o d,p,f,m⟩:=a;exact⟨x::o,d,p,.cons i f,m⟩
def aeR(t:TA):TE:=λc H Q=>t c H λb a=> ~~~b<=eQ/\ ∀p,a p=none->Q (.ref p) (upd a p (.tup b))
def aeW(t:TA):TE:=λc H Q=>t c H λb a=> ~~~b<=eQ/\ ∀p,a p=none->Q (.ref p) (upd a p (.lst b))
def Zr{g}(h:PA X es t):PE X (.Tuple es g pos) (aeR t):=by intro pz s i H Q I f;refine wpAny_Tuple_spliced (jo (h pos pz s i H _ I f) λus c j=> ?_);let⟨k d,a,r,z,q⟩:=j;refine⟨by rw[<- ~~~r];exact z,?_⟩;have l:=a.ab.fresh (dI _);refine⟨.ref c.heap.objs.size,upd d c.heap.objs.size (.tup k),a.laid (λb u e=>dc _ e) (dI _) ?_,rfl,q _ l⟩;exact⟨z,us,r,⟨_,dw _ rfl,rfl,_,rfl,rfl⟩⟩
def LY(h:PA X es t):PE X (.List es pos) (aeW t):=by intro pz s g H Q I f;refine wpAny_List_spliced (jo (h pos pz s g H _ I f) λus c i=> ?_);let⟨j d,a,r,z,q⟩:=i;refine⟨by rw[<- ~~~r];exact z,?_⟩;have k:=a.ab.fresh (dI _);refine⟨.ref c.heap.objs.size,upd d c.heap.objs.size (.lst j),a.laid (λb u e=>dc _ e) (dI _) ?_,rfl,q _ k⟩;exact⟨z,us,0,r,dw _ rfl⟩
end
abbrev Sp:=List V->Hp->VK->XK->Prop
abbrev UM:=List Ls->Hp->dJ->XK->eA->dJ->Prop
structure M6(P:fY)(w:iu)(K:dh)(mg:kQ)(base:iZ)(A:i6)(outer:List Ls)(s:dJ)(H:Hp):Prop where
 frames:A.frames=some outer
 mod:Mod K mg base
 bs: ∀b o,base.get? b=some o->s.heap.get? b=some o/\H b=none
 bZ:base.objs.size<=s.heap.objs.size
 aJ:s.heap.FunFrames base outer
 cv: ∀b∈Tz outer,H b=none
 ab:ve P w H s.heap
 bare:FO s.gens
def CE(outer:List Ls)(P:fY)(w:iu)(H:Hp)(s:dJ)(Q:VK)(u:eA)(a:dJ):Prop:=
 ∃v b,a.os=s.os/\FO a.gens/\Un (Tz outer) [] H b s.heap a.heap/\ve P w b a.heap/\RelV v u/\Q v b
def CR(b:UM)(outer:List Ls)(P:fY)(w:iu)(H:Hp)(s:dJ)(Q:VK)(E:XK)(r:Result)(a:dJ):Prop:=
 match r with
 | .ok (.ret u)=>CE outer P w H s Q u a
 | .ok _=>False
 | .error e=>b outer H s E e a
structure qY(P:fY)(w:iu)(K:dh)(mg:kQ)(base:iZ)(CX:UM)(k:Nat)(f:eB)(fd:n0)(ps:iW)(sp:Sp):Prop where
 len: ∀vs H Q E,sp vs H Q E-> ~~~vs= ~~~ps
 run: ∀(A:i6) (outer:List Ls) (s:dJ) (H:Hp) (args:Args) (us:fM) (vs:List V) (Q:VK) (E:XK),oo k A->M6 P w K mg base A outer s H->U7 s fd args (ps.zip us)->gF vs us->sp vs H Q E->
  ou (dZ P w) A (.call (.ref f) args) (CR CX outer P w H s Q E) s
def qY.mono{P:fY}{w:iu}{K:dh}{mg:kQ}{base:iZ}{c:UM}{j k:Nat}{f:eB}{b:n0}{ps:iW}{a:Sp}(F:qY P w K mg base c j f b ps a)(h:j<=k):
  qY P w K mg base c k f b ps a:=⟨F.len,λA outer s H args us d Q E e=>F.run A outer s H args us d Q E (e.mono h)⟩
def qY.imp{P:fY}{w:iu}{K:dh}{mg:kQ}{base:iZ}{e:UM}{k:Nat}{f:eB}{d:n0}{ps:iW}{c b:Sp}(F:qY P w K mg base e k f d ps c)
  (h: ∀a H Q E,b a H Q E->c a H Q E):qY P w K mg base e k f d ps b:=
 ⟨λa H Q E q=>F.len a H Q E (h _ _ _ _ q),λA outer s H args us a Q E j he i l g=>F.run A outer s H args us a Q E j he i l (h _ _ _ _ g)⟩
def M6.make{P:fY}{w:iu}{K:dh}{mg:kQ}{base:iZ}{A:i6}{outer:List Ls}{s:dJ}{H:Hp}(e:M6 P w K mg base A outer s H)(C:eB)(us:fM)(a:List (gw×eA)):
  M6 P w K mg base (A.under (.builtin "type.__call__" ⟨.ref C::us,a⟩)) outer s H:=⟨by first|exact e.frames|(simpa [pushEnvs]using e.frames),e.mod,e.bs,e.bZ,e.aJ,e.cv,e.ab,e.bare⟩
section
def Inv.cg(I:Inv X pz σ H s):M6 X.prog X.w X.K X.mg X.base X.A X.stack s H:=
 ⟨I.ok.frames,I.ok.mod,I.bs,eC I.ok.bZ I.sz,I.stack,I.aZ,I.ab,I.bare⟩
def Inv.after(I:Inv X pz σ H s)(h:CE X.stack X.prog X.w H s Q u s'):EP X pz σ Q u s':=by let⟨v f,os,a,un,e,r,q⟩:=h;obtain⟨i,g,d,t,c⟩:=s';obtain rfl:c=s.os:=os;exact⟨v,f,I.call un e a (λb z=>absurd z (by simp)),r,q⟩
end
def ab1(d:Sp)(a:List V)(E:XK)(t:TA):TE:=λe H Q=>t e H λc b=>d (c++a) b Q E
def RF(C:eB)(f:Sp)(c:List V)(E:XK)(t:TA):TE:=λg H Q=>t g H λe b=> ∀x a,b x=none->b a=none->a≠x->
 f (.ref x::(e++c)) (upd (upd b a (.own x)) x (.ins C a [])) (λv d=>v= .non/\Q (.ref x) d) E
def Binds(K:dh)(a:n0)(ps:iW)(ds:fM):Prop:=
 ∀(s:dJ) (us:fM),K.In s.heap->(us++ds).length= ~~~ps->U7 s a ⟨us,[]⟩ (ps.zip (us++ds))
def Binds.all{K:dh}{b:n0}{ps:iW}(h: ∀us:List eA,~~~us= ~~~ps->Xz b ⟨us,[]⟩=pure (ps.zip us)):Binds K b ps []:=λs us _ a=>by rw[km]at a⊢;exact .of_eq (h us a)
def AK(b:UM)(X:Cx)(E:XK):Prop:= ∀(pz:i4) (c:St) (H:Hp) (s:dJ) (e:eA) (a:dJ),Inv X pz c H s->b X.stack H s E e a->X.xe e a
section
def RR(F:qY X.prog X.w X.K X.mg X.base CX k f fd ps sp)(j:oo k X.A)(d:Binds X.K fd ps ds)(hd:gF dvs ds)(i:AK CX X E)
  (I:Inv X pz σ H s)(r:gF vs us)(h:sp (vs++dvs) H Q E):dR (dZ X.prog X.w) X.A (call (.ref f) us) (EP X pz σ Q) X.xe s:=by
 have b:=r.append hd;have g:(us++ds).length= ~~~ps:=by rw[<- ~~~b];exact F.len _ _ _ _ h
 refine wpAny_call (Fw (F.run X.A X.stack s H ⟨us,[]⟩ (us++ds) (vs++dvs) Q E j I.cg (d s us I.bb g) b h) λr c a=> ?_);cases r with
 |error e=>exact i pz σ H s e c I a
 |ok fl=>
  cases fl with
  |ret u=>exact I.after a
  |next=>exact eZ a
  |brk=>exact eZ a
  |cont=>exact eZ a
def Cm(F:qY X.prog X.w X.K X.mg X.base CX k f fd ps sp)(l:oo k X.A)(j:Gl X x)(i:X.mg x=some (.ref f))(hk:iL X.K (.ref f)=true)(g:Binds X.K fd ps ds)(hd:gF dvs ds)(b:AK CX X E)
  (m:PA X (e::es) t)(a:(x==("__debug__" :gw))=false:=by decide)(he:dj (e::es) X.env=(false,fX e X.env)::dj es X.env:=by rfl)(hpl:(gy pos (dj es X.env)).any (·.1)=false:=by rfl):
  PE X (.Call (.Name x p) (e::es) [] pos) (ab1 sp dvs E t):=by
 intro pz s d H Q I h;refine kg (Cp I j i ?_ a);refine yt I.ok.mod.kin hk (jo (m pos pz s d H _ I h) λus o b=> ?_) he hpl;let⟨u n,c,r,q⟩:=b;refine⟨c.bb,?_⟩;exact RR F l g hd b c r q
structure Mk(K:dh)(C f:eB):Prop where
 makes:B7 K C=true
 init:jU K (.ref C) "__init__" =some (some (.ref f))
 fn:XB K (.ref f)=true
 kp:iL K (.ref C)=true
def Jx(M:Mk X.K C f)(F:qY X.prog X.w X.K X.mg X.base CX k f fd ps sp)(t:oo (k+1) X.A)(n:Binds X.K fd ps ds)(hd:gF dvs ds)
  (p:AK CX X E)(I:Inv X pz σ H s)(r:gF vs us)
  (h: ∀x dx,H x=none->H dx=none->dx≠x->sp (.ref x::(vs++dvs)) (upd (upd H dx (.own x)) x (.ins C dx [])) (λv H2=>v= .non/\Q (.ref x) H2) E):
  dR (dZ X.prog X.w) X.A (call (.ref C) us) (EP X pz σ Q) X.xe s:=by
 have c:=h (s.heap.objs.size+1) s.heap.objs.size (I.ab.fresh (QN _)) (I.ab.fresh (dI _)) (eG (qr _));have b:=Inv.made (C:=C) I;have d:gF (V.ref (s.heap.objs.size+1)::(vs++dvs)) (eD (s.heap.objs.size+1)::(us++ds)):= .cons rfl (r.append hd);have o:(eD (s.heap.objs.size+1)::us++ds).length= ~~~ps:=by have e:= ~~~d;rw[F.len _ _ _ _ c]at e;exact e.symm
 refine wpAny_call (SR I.bb M.makes M.init (beq_iff_eq.mp M.fn) (Fw (F.run _ X.stack _ _ ⟨eD (s.heap.objs.size+1)::us,[]⟩ (eD (s.heap.objs.size+1)::(us++ds)) _ _ E (t.make C us [])
  (b.cg.make C us []) (n _ (eD (s.heap.objs.size+1)::us) b.bb o) d c) λr m a=> ?_))
 cases r with
 |error e=>exact p pz σ _ _ e m b a
 |ok fl=>
  cases fl with
  |ret u=>let⟨v i,q,l,j,g⟩:=b.after a;subst j;exact⟨l,⟨V.ref (s.heap.objs.size+1),i,q,rfl,g⟩⟩
  |next=>exact eZ a
  |brk=>exact eZ a
  |cont=>exact eZ a
def V3(M:Mk X.K C f)(F:qY X.prog X.w X.K X.mg X.base CX k f fd ps sp)(l:oo (k+1) X.A)(j:Gl X x)(i:X.mg x=some (.ref C))(g:Binds X.K fd ps ds)(hd:gF dvs ds)(b:AK CX X E)
  (m:PA X (e::es) t)(a:(x==("__debug__" :gw))=false:=by decide)(he:dj (e::es) X.env=(false,fX e X.env)::dj es X.env:=by rfl)(hpl:(gy pos (dj es X.env)).any (·.1)=false:=by rfl):
  PE X (.Call (.Name x p) (e::es) [] pos) (RF C sp dvs E t):=by
 intro pz s d H Q I h;refine kg (Cp I j i ?_ a);refine yt I.ok.mod.kin M.kp (jo (m pos pz s d H _ I h) λus o b=> ?_) he hpl;let⟨u n,c,r,q⟩:=b;refine⟨c.bb,?_⟩;exact Jx M F l g hd b c r q
def Sa(M:Mk X.K C f)(F:qY X.prog X.w X.K X.mg X.base CX k f fd ps sp)(b:oo (k+1) X.A)(e:Gl X x)(d:X.mg x=some (.ref C))(c:Binds X.K fd ps ds)(hd:gF dvs ds)(g:AK CX X E)
  (a:(x==("__debug__" :gw))=false:=by decide):PE X (.Call (.Name x p) [] [] pos) (RF C sp dvs E abT):=by
 intro pz s i H Q I h;refine kg (Cp I e d ?_ a);exact PySem.W.callWith_K0 I.bb M.kp (Jx M F b c hd g I .nil h)
end
structure FnScope(N P:iW)(sc:vq):Prop where
 kind:sc.kind= .function
 co:sc.isCoroutine=false
 gen:sc.isGenerator=false
 nd:N.Nodup
 pre:N.take (~~~P)=P
 par: ∀x∈P,sc.names.lookup x=some .local\/sc.names.lookup x=some .cell
 cM: ∀y∈sc.names,y.2≠ .free
theorem GG{kindOf:gw->Option AS}{x:gw}: ∀{a:List (gw×eA)} {m:kQ},(∀v,(x,v)∉a)->Xx kindOf a m x=m x
 | [],_,_=>rfl
 |(n,v)::r,m,h=>by
  unfold Xx;rw[GG λw b=>h w (eP _ b)];split
  .grind
  .rfl
theorem GI{kindOf:gw->Option AS}{x:gw}: ∀{a:List (gw×eA)} {m:kQ},(∀v,(x,v)∉a)->Xy kindOf a m x=m x
 | [],_,_=>rfl
 |(n,v)::r,m,h=>by
  unfold Xy;rw[GI λw b=>h w (eP _ b)];split
  .rfl
  .grind
theorem GH{kindOf:gw->Option AS}{x:gw}{v:eA}: ∀{P:iW} {a:fM} {i:Nat} {m:kQ},P.Nodup->P[i]?=some x->a[i]?=some v->kindOf x=some .local->
  Xx kindOf (P.zip a) m x=some v
 | [],_,_,_,_,h,_,_=>by simp at h
 |_::_,[],_,_,_,_,h,_=>by simp at h
 |p::P,w::a,0,m,d,b,c,hk=>by simp at b c;subst b;subst c;show Xx kindOf ((p,w)::P.zip a) m p=_;unfold Xx;rw[GG λv e=>(fH.mp d).1 (ET e).1,dq hk];simp
 |p::P,w::a,i+1,m,d,b,c,hk=>by unfold Xx;exact GH (fH.mp d).2 (by simpa using b) (by simpa using c) hk
theorem GJ{kindOf:gw->Option AS}{x:gw}{v:eA}: ∀{P:iW} {a:fM} {i:Nat} {m:kQ},P.Nodup->P[i]?=some x->a[i]?=some v->kindOf x≠some .local->
  Xy kindOf (P.zip a) m x=some v
 | [],_,_,_,_,h,_,_=>by simp at h
 |_::_,[],_,_,_,_,h,_=>by simp at h
 |p::P,w::a,0,m,d,b,c,hk=>by simp at b c;subst b;subst c;show Xy kindOf ((p,w)::P.zip a) m p=_;unfold Xy;rw[GI λv e=>(fH.mp d).1 (ET e).1,di hk];simp
 |p::P,w::a,i+1,m,d,b,c,hk=>by unfold Xy;exact GJ (fH.mp d).2 (by simpa using b) (by simpa using c) hk
def start(N:iW)(a:List V):St:=a.map some++fP (~~~N- ~~~a) none
noncomputable def KO(g:UM)(P:fY)(w:iu)(K:dh)(mg:kQ)(base:iZ)(N:iW)(b:gw)(a:vq)(f:eB)(d:eA)(A:i6)(outer:List Ls)(s:dJ)(H:Hp)(E:XK):Cx where
 prog:=P
 w:=w
 K:=K
 mg:=mg
 base:=base
 A:=A.deeper (yp b a s.heap.objs.size f d)
 N:=N
 aS:=s
 bE:=H
 env:=yp b a s.heap.objs.size f d
 outer:=outer
 stack:=yp b a s.heap.objs.size f d::outer
 ex:=[]
 calm:=true
 fn:=λ_=>true
 pn:=[]
 xe:=λe i=>dR (dZ P w) (A.deeper (yp b a s.heap.objs.size f d)) (leaving (yp b a s.heap.objs.size f d) e) (λ_ c=>g outer H s E e c) (λh c=>g outer H s E h c) i
def KR{a:vq}{n:Nat}{x:gw}(h:a.names.lookup x=some .cell): ∃c,(i5 n a.names []).lookup x=some c:=by have q:=Iy a.names n [] (.inl h);exact GZ.mp q
def P4{J:UM}{P:fY}{w:iu}{K:dh}{mg:kQ}{base:iZ}{N ps:iW}{d:gw}{a:vq}{f:eB}{C:eA}{A:i6}{outer:List Ls}{s I:dJ}{H:Hp}{E:XK}{us:fM}{n:List V}
  (S:FnScope N ps a)(hd:A.handled=none)(g:M6 P w K mg base A outer s H)(Q: ~~~n= ~~~ps)(r:gF n us)
  (x:InCallC s s.heap.objs.size (Xx (yp d a s.heap.objs.size f C).kindOf (ps.zip us) λ_=>none) (i5 (s.heap.objs.size+1) a.names []) (Xy (yp d a s.heap.objs.size f C).kindOf (ps.zip us) λ_=>none) I):
  Inv (KO J P w K mg base N d a f C A outer s H E) [] (start N n) H I:=by
 have hpl: ~~~ps<= ~~~N:=by have:=gR ni S.pre;rw[uY]at this;lia
 let⟨B tk,rfl,hk⟩:=x.done;have l: ∀b:eB,b∉(KO J P w K mg base N d a f C A outer s H E).ex:=λb z=>absurd (show b∈([]:List eB)from z) (by simp);refine⟨⟨g.mod,S.kind,rfl,rfl,dI _,λy z c B j=> ?_,λy m=> ?_,λy c _ h=> ?_,λ_=>hd,Around.frames_deeper g.frames,.inr ⟨rfl,rfl⟩,λb z=>absurd z (l b),g.bs,g.bZ,λb _ _=>l b,λb z=>absurd z (l b),g.aJ,g.cv⟩,
  rfl,g.bare,Un.kept hk,⟨_,x.toInCall.ns,λi y v B j R=> ?_⟩,λy c h=>⟨_,x.cell y c h⟩,g.ab.fresh (dI _),λy c h=> ?_,λp o=>absurd (show p∈([]:List (eB×xG))from o) (by simp),g.ab.kept hk,?_⟩
 .exact name_of_addr x.apart (fS B) (fS j)
 .have m:=m;rcases m with m|m
  .exact KR m
  .exact absurd rfl (S.cM _ (fS m))
 .exact wz (x.above y c (fS h))
 .have F:i< ~~~n:=by
   unfold start at j;by_cases F:i< ~~~n
   .exact F
   .rw[iQ (by simpa using F)]at j;rw[jk]at j
    simp_all
  have O:n[i]?=some v:=by
   unfold start at j;rw[fU (by simpa using F),dX]at j
   simp_all
  let⟨(u),G,M⟩:=r.get O;have o:ps[i]?=some y:=by rw[<-S.pre,List.getElem?_take_of_lt (by lia)];exact B
  have t:ps.Nodup:=by rw[<-S.pre];exact S.nd.sublist (List.take_sublist _ _)
  refine⟨u,M,?_⟩;rcases S.par y (eS o)with k|k
  .exact .inl ⟨k,GH t o G k⟩
  .obtain⟨c,e⟩:=KR k;refine .inr ⟨.inl k,c,e,?_⟩;have q:=x.cell y c e;rw[GJ t o G (by show a.names.lookup y≠_;rw[k];decide)]at q;exact q
 .exact g.ab.fresh (wz (x.above y c (fS h)))
 .unfold start;show _= ~~~N
  simp_all
def acN{F:UM}{P:fY}{w:iu}{K:dh}{mg:kQ}{base:iZ}{k:Nat}{f:eB}{name c:gw}{g:Arguments}{body:List o4}{a:vq}{dV kV B pm d ct oc:eA}{Z od:pM}
  {O:wk}{N ps:iW}{T:Sp}(lk:K.lookup f=some ⟨oc,od,.func (kr name c g body a dV kV B pm Z d ct),O⟩)(M:oS K d c=true)(S:FnScope N ps a)
  (len: ∀i H Q E,T i H Q E-> ~~~i= ~~~ps)
  (m: ∀(A:i6) (outer:List Ls) (s:dJ) (H:Hp) (i:List V) (Q:VK) (E:XK),oo k (A.deeper (yp c a s.heap.objs.size f d))->T i H Q E->
   ∃t,GO (KO F P w K mg base N c a f d A outer s H E) body t/\t {nx:=λ_ j=>Q .non j,rt:=Q} (start N i) H):
  qY P w K mg base F (k+1) f (kr name c g body a dV kV B pm Z d ct) ps T:=by
 refine⟨len,λA outer s H args us i Q E U C hb r z=> ?_⟩;have hl:=len _ _ _ _ z;have KX:=C.mod.kin.keeps λb o e=>(C.bs b o e).1;have X:=C.mod.nolimit.keeps λb o e=>(C.bs b o e).1;have l: ∀y∈ps.zip us,a.names.lookup y.1=some .local\/(a.names.lookup y.1=some .cell/\((i5 (s.heap.objs.size+1) a.names []).lookup y.1).isSome=true):=λhx hy=>by
  obtain⟨n,v⟩:=hx;rcases S.par n (ET hy).1 with q|q
  .exact .inl q
  .exact .inr ⟨q,Iy _ _ _ (.inl q)⟩
 refine codeAny_call_function U.depth (KX _ _ lk) rfl S.co S.gen rfl (PySem.W.codeRec_of KX M) (hb _ _ _ _ ?_);refine wpAny_newFunctionEnv_cells S.kind l λenv he Y x=> ?_;subst he;refine⟨X.keeps x.toInCall.keep,codeAny_func ?_⟩;let⟨(t),ht,hq⟩:=m A outer s H i Q E (U.deeper _) z;have I:Inv (KO F P w K mg base N c a f d A outer s H E) [] (start N i) H Y:=P4 S U.hd C hl r x;refine iK (ht [] Y (start N i) H _ I hq) (λfl G p=> ?_) λe G p=>p;have fin: ∀{h:St} {j:Hp} {v:V} {u:eA},Inv (KO F P w K mg base N c a f d A outer s H E) [] h j G->RelV v u->Q v j->CE outer P w H s Q u G:=
  λ{h j v u} J R q=>⟨v,j,J.os,J.bare,J.base,J.ab,R,q⟩
 cases fl with
 |ret u=>let⟨v h j,J,R,q⟩:=p;exact fin J R q
 |next=>let⟨h j,J,q⟩:=p;exact fin (v:=V.non) J rfl q
 |brk=>let⟨_ _,_,q⟩:=p;exact eZ q
 |cont=>let⟨_ _,_,q⟩:=p;exact eZ q
section
variable {id T:String}
def tCB(r:List V->Hp->VK->Prop)(t:TA):TE:=λc H Q=>t c H λb a=>r b a Q
def Sj(q:nM X (.builtin id) r)(m:Gl X x)(l:X.mg x=none)(o:iP x=some (.builtin id))(u:PA X (e::es) t)(g:x≠ "__name__" :=by decide)(a:(x==("__debug__" :gw))=false:=by decide)
  (he:dj (e::es) X.env=(false,fX e X.env)::dj es X.env:=by rfl)(hpl:(gy pos (dj es X.env)).any (·.1)=false:=by rfl):PE X (.Call (.Name x p) (e::es) [] pos) (tCB r t):=by
 intro pz s b H Q I h;refine kg (sA I m l o ?_ g a);exact xE (jo (u pos pz s b H _ I h) λus i n=>by let⟨k c,d,f,j⟩:=n;exact q pz i b c k us Q d f j) he hpl
def Pj(q:nM X (.type T) r)(m:Gl X x)(l:X.mg x=none)(o:iP x=some (.type T))(u:PA X (e::es) t)(g:x≠ "__name__" :=by decide)(a:(x==("__debug__" :gw))=false:=by decide)
  (he:dj (e::es) X.env=(false,fX e X.env)::dj es X.env:=by rfl)(hpl:(gy pos (dj es X.env)).any (·.1)=false:=by rfl):PE X (.Call (.Name x p) (e::es) [] pos) (tCB r t):=by
 intro pz s b H Q I h;refine kg (sA I m l o ?_ g a);exact gP (jo (u pos pz s b H _ I h) λus i n=>by let⟨k c,d,f,j⟩:=n;exact q pz i b c k us Q d f j) he hpl
end
end L2
namespace HT
open PySem PyProof.Rows
def lexLt:List Int->List Int->Bool
 | [],[]=>false
 | [],_::_=>true
 |_::_,[]=>false
 |x::a,y::b=>if x=y then lexLt a b else decide (x<y)
theorem xZ(x y:Int)(b a:jn):lexLt (x::b) (y::a)=if x=y then lexLt b a else decide (x<y):=rfl
theorem xo:lexLt [] []=false:=rfl
theorem D1(y:Int)(a:jn):lexLt [] (y::a)=true:=rfl
theorem D2(x:Int)(a:jn):lexLt (x::a) []=false:=rfl
def TN(A:i6)(s:dJ)(a:Int)(t:Tok)(c:Int)(u:Tok): ∃e,zH A s (.int a t) (.int c u) e/\(e=true↔a=c):=
 ⟨(a==c),IU a t c u,by simp⟩
def R0(A:i6)(s:dJ)(a:Int)(t:Tok)(c:Int)(u:Tok)(prog:fY)(w:iu)(E:gY)(Q:gY)(h:Q (.bool (decide (a<c))) s):
  dR (dZ prog w) A (IP .Lt (.int a t) (.int c u)) Q E s:=
 (aeB h:dR (dZ prog w) A (gH .Lt (.int a t) (.int c u)) Q E s)
section
open PySem.SeqAt
open PySem.AutoSeq1 (wpAny_loadPart')
open PySem.MeetsSeq PySem.MeetsSeq2 PySem.MeetsSeq3
def EZ(l b:eB)(items f:mj)(n U:Nat)(X H:pM)(Q M:wk)(ns G:jn)(O:yy items.toList ns)(N:yy f.toList G):
  Meets (Builtin.«tuple.__lt__» ⟨[.ref l,.ref b],[]⟩)
   (λ_ R s=>s.heap.get? l=some {cls:= .type "tuple",dict:=X,data:= .seq items n,slots:=Q}/\s.heap.get? b=some {cls:= .type "tuple",dict:=H,data:= .seq f U,slots:=M}/\
    R (.ok (.ret (.bool (lexLt ns G)))) s):=
 .of_wp λprog w A R s h=>by
  obtain⟨C,g,d,tk,os⟩:=s;let⟨T,S,h⟩:=h;have f2:=EY;have z1:items.size= ~~~ns:=by rw[<- ~~~O];simp
  have Z:f.size= ~~~G:=by rw[<- ~~~N];simp
  wp_walk using wpAny_loadPart' T,wpAny_loadPart' S,wpAny_forIn_list _ (λrest b I=>b.1=none/\I=⟨C,g,d,tk,os⟩/\ ∃(F E:fM) (j k:jn),rest=F.zip E/\
   yy F j/\yy E k/\ ~~~j+f.size= ~~~k+items.size/\R (.ok (.ret (.bool (lexLt j k)))) ⟨C,g,d,tk,os⟩) _
  case turn=>
   rintro⟨y,x⟩ rest b I ⟨v,rfl,F,E,j,k,hz,r,m,i,o⟩;cases r with
   |nil=>rw[List.zip_nil_left]at hz;cases hz
   |cons a t B=>
    cases m with
    |nil=>rw[Q4]at hz;cases hz
    |cons c u z=>
     rw[si]at hz;injection hz with hyx hrest;injection hyx with hy hx;subst hy hx;rw[xZ]at o;simp only[dB]at i;let⟨(e),he,p⟩:=TN A.in1 ⟨C,g,d,tk,os⟩ a t c u;refine c9 (he prog w _ _ ?_);cases e with
     |true=>
      rw[dq (p.mp rfl)]at o
      wp_walk
      exact⟨rfl,rfl,_,_,_,_,hrest,B,z,by lia,o⟩
     |false=>
      rw[di (λq=>absurd (p.mpr q) dY)]at o;have J:=R0 A.in1 ⟨C,g,d,tk,os⟩ a t c u prog w
      wp_walk using J
      exact⟨_,rfl,by simpa using o⟩
  case fin=>
   rintro⟨b1,b2⟩ I ⟨v,rfl,F,E,j,k,hz,r,m,i,o⟩;simp only at v;subst v;have P:lexLt j k=decide (items.size<f.size):=by
    cases r with
    |nil=>
     cases m with
     |nil=>simp only[ip]at i;rw[xo];exact(fj (by lia)).symm
     |cons c u Y=>simp only[ip,dB]at i;rw[D1];exact(mI (by lia)).symm
    |cons a t P=>
     cases m with
     |nil=>simp only[ip,dB]at i;rw[D2];exact(fj (by lia)).symm
     |cons c u Y=>rw[si]at hz;cases hz
   rw[P]at o
   wp_walk
   exact⟨_,rfl,by simpa [adY]using o⟩
  case h=>
   exact⟨rfl,rfl,items.toList,f.toList,ns,G,rfl,O,N,by lia,h⟩
end
section
def Mh(p:vv s.heap l items)(o:vv s.heap b items2)(q:yy items.toList ns)(m:yy items2.toList ms)
  (k:A.units<jc)(h:Q (.bool (lexLt ns ms)) s):dR (dZ prog w) A (gH .Lt (.ref l) (.ref b)) Q E s:=by
 obtain⟨⟨cls,u,data,j⟩,i,t,n,hd⟩:=id p;obtain⟨⟨g,d,data2,f⟩,a,c,r,e⟩:=id o;subst t hd c e;exact richCompare_meets_room (op:= .Lt) ⟨_,i,rfl⟩ ⟨_,a,rfl⟩ PySem.F.slot_tuple_lt PySem.F.entry_tuple_lt (PySem.F.args_tuple_lt_2 _ _) (EZ l b items items2 n r u d j f ns ms q m)
  ⟨i,a,show ox (lexLt ns ms)≠Value.notImplemented/\Q (.bool (lexLt ns ms)) s from⟨(λx=>nomatch x),h⟩⟩ k
def W7(q:vv s.heap t vs.toArray)(r:vv s.heap b ws.toArray)(k:vs≠ [])
  (o:ws=[]->Q (.ref t) s)(p:ws≠ []->Q (.ref s.heap.objs.size) {s with heap:=s.heap.push {cls:= .type "tuple",data:= .seq (vs++ws).toArray}})
  (hsz: ~~~vs+ ~~~ws<=eQ):dR (dZ prog w) A (nZ .Add (.ref t) (.ref b)) Q E s:=by
 obtain⟨⟨cls,m,data,i⟩,f,u,n,hd⟩:=id q;obtain⟨⟨l,c,data2,d⟩,a,g,j,h⟩:=id r;subst u hd g h;have e:vs.toArray++ws.toArray=(vs++ws).toArray:=by simp
 by_cases hw:ws=[]
 .exact UV ⟨_,f,rfl⟩ ⟨_,a,rfl⟩ Iu QG uD tI (sH _ _)
   (tuple_addW1 t b vs.toArray ws.toArray n j m c i d (by simpa using k) (by simp[hw])) ⟨f,a,o hw⟩
 .refine UV ⟨_,f,rfl⟩ ⟨_,a,rfl⟩ Iu QG uD tI (sH _ _)
   (tuple_addW2 t b vs.toArray ws.toArray n j m c i d (by simpa using k) (by simpa using hw) (by rw[eJ,eJ];exact hsz)) ⟨f,a,?_⟩
  rw[e];exact p hw
def o7(n d:Nat):Option Int->Nat
 |none=>d
 |some v=>if v<0 then(v+(n:Int)).toNat else min v.toNat n
theorem Hj(n d k:Nat):o7 n d (some (k:Int))=min k n:=by rfl
def ae4(n d:Nat)(hd:d<=n)(o:pN):o7 n d o<=n:=by
 cases o with
 |none=>exact hd
 |some v=>
  show(if v<0 then(v+(n:Int)).toNat else min v.toNat n)<=n;by_cases hv:v<0
  .rw[dq hv];lia
  .rw[di hv];exact Nat.min_le_right _ _
def Of(v:Int)(n d:Nat):(if v<0 then max (v+(n:Int)) 0 else min v (n:Int))=((o7 n d (some v):Nat):Int):=by
 show(if v<0 then max (v+(n:Int)) 0 else min v (n:Int))=(((if v<0 then(v+(n:Int)).toNat else min v.toNat n):Nat):Int)
 grind
def MZ(lo a:pN)(n:Nat):zQ lo a 1 (n:Int)=(((o7 n 0 lo:Nat):Int),((o7 n n a:Nat):Int)):=by
 refine xF ?_ ?_
 .cases lo with
  |none=>rfl
  |some v=>exact Of v n 0
 .cases a with
  |none=>rfl
  |some v=>exact Of v n n
def LX(i j:Nat):mN (i:Int) (j:Int) 1=j-i:=by
 unfold mN;have a:(1:Int)>0:=by lia
 simp only[a,jv,Int.ediv_one];split<;>lia
def CV(p:IC v o)(h:Q o s):dR (dZ prog w) A (adZ v) Q E s:=by
 cases p with
 |none=>exact agd h
 |int i t=>exact slicePart_int h
def zX{e:eB}{f d:eA}{lo a:pN}{n:Nat}{Q:Int×Int×Nat->dJ->Prop}(j:s.heap.IsSliceOf e f d .none)(pl:IC f lo)(g:IC d a)
  (h:Q (((o7 n 0 lo:Nat):Int),1,o7 n n a-o7 n 0 lo) s):dR (dZ prog w) A (ad0 (.ref e) (pure (n:Int))) Q E s:=by
 let⟨(os),b,i,c⟩:=id j;refine c9 (c9 (jQ b c rfl (c9 (jQ b c rfl (c9 (jQ b c rfl (de ?_)))))));refine c9 (agd ?_);refine c9 (CV pl (c9 (CV g (c9 (de ?_)))));show dR _ _ (match zQ lo a 1 (n:Int)with|(lo,a)=>pure (lo,(1:Int),mN lo a 1)) _ _ s
 rw[MZ lo a n];show dR _ _ (pure (((o7 n 0 lo:Nat):Int),(1:Int),mN ((o7 n 0 lo:Nat):Int) ((o7 n n a:Nat):Int) 1)) _ _ s;rw[LX];exact de h
def R8(a:mj)(i k:Nat):((eE k).filterMap λ(m:Nat)=>a[((i:Int)+(m:Int)*1).toNat]?).toArray=((a.toList.drop i).take k).toArray:=by
 have e:(λ(m:Nat)=>a[((i:Int)+(m:Int)*1).toNat]?)=λm=>a[i+m]?:=by
  funext m;have:((i:Int)+(m:Int)*1).toNat=i+m:=by lia
  rw[this]
 rw[e];have:=pick_run a i k;rw[List.filterMap_map]at this;have b:((λx=>a[x]?)∘λx=>i+x)=λm=>a[i+m]?:=rfl;rw[b]at this;rw[this]
def zh{t d:eB}{items:mj}{j l:eA}{lo b:pN}{Q:gY}(c:vv s.heap t items)(k:s.heap.IsSliceOf d j l .none)(pl:IC j lo)(m:IC l b)
  (o: ¬(o7 items.size 0 lo=0/\o7 items.size items.size b=items.size))
  (h:Q (.ref s.heap.objs.size) {s with heap:=s.heap.push {cls:= .type "tuple",data:= .seq ((items.toList.drop (o7 items.size 0 lo)).take (o7 items.size items.size b-o7 items.size 0 lo)).toArray}})
  (hsz:items.size<=eQ):dR (dZ prog w) A (yo (.ref t) (.ref d)) Q E s:=by
 have a:sizeOk (.seq ((items.toList.drop (o7 items.size 0 lo)).take (o7 items.size items.size b-o7 items.size 0 lo)).toArray):=by show((items.toList.drop (o7 items.size 0 lo)).take (o7 items.size items.size b-o7 items.size 0 lo)).toArray.size<=eQ;rw[eJ,uY,nF,fB];lia
 let⟨(os),g,f,n⟩:=id k;have e:s.TypeIs (.ref d) "slice" :=⟨os,g,f⟩;unfold yo
 try with_reducible refine iF ?_
 refine c9 (wpAny_sequenceKey c.typeIs (by decide) ?_);refine c9 (jq c.typeIs oh
  (iG oh c.typeIs entry_tuple_getitem ?_ (args_tuple_getitem _ _)))
 show dR _ _ (zL (.ref t)>>=_) _ _ s;refine c9 (tupleItemsOf_ c ?_);refine c9 (Fv e ?_);rw[dq (by decide)];refine c9 (zX k pl m ?_);have i: ¬((((o7 items.size 0 lo:Nat):Int)==0&&(1:Int)==1&&(o7 items.size items.size b-o7 items.size 0 lo)==items.size)=true):=by
  simp_all
 show dR _ _ (if(((o7 items.size 0 lo:Nat):Int)==0&&(1:Int)==1&&(o7 items.size items.size b-o7 items.size 0 lo)==items.size)=true then _ else _) _ _ s;rw[di i,R8]
 first
  |exact c9 (gq (de ⟨_,rfl,de h⟩) a)
  |exact c9 (gq (c9 (de (de ⟨_,rfl,de h⟩))) a)
  |exact c9 (c9 (gq (de (de ⟨_,rfl,de h⟩)) a))
  |exact c9 (c9 (gq (de ⟨_,rfl,de h⟩) a))
end
end HT
namespace L2
open PySem PySem.Spec PyProof.Rows
abbrev TO:=St->Hp->(Option Int->Hp->Prop)->Prop
def PO(X:Cx)(e:Option jG)(t:TO):Prop:=
 ∀(pz:i4) (s:dJ) (a:St) (H:Hp) (Q:Option Int->Hp->Prop),Inv X pz a H s->t a H Q->
  dR (dZ X.prog X.w) X.A (evalPart e X.env) (λu c=> ∃o b,Inv X pz a b c/\IC u o/\Q o b) X.xe s
def VB:TO:=λ_ H Q=>Q none H
def abR(t:TE):TO:=λb H Q=>t b H λx a=> ∃i,x= .int i/\Q (some i) a
section
variable {lo hi:Option jG}
def VY:PO X none VB:=by intro pz s a H Q I h;exact de ⟨none,H,I,.none,h⟩
def VX(h:PE X e te):PO X (some e) (abR te):=by intro pz s b H Q I j;refine jo (h pz s b H _ I j) λu k g=> ?_;let⟨x a,c,d,f⟩:=g;let⟨(i),rfl,q⟩:=f;let⟨(t),rfl⟩:=d;exact⟨some i,a,c,.int i t,q⟩
def SlR(X:Cx)(r:V->Option Int->Option Int->Hp->VK->Prop):Prop:=
 ∀(pz:i4) (s:dJ) (e:St) (H:Hp) (x:V) (v c b:eA) (lo a:pN) (d:eB) (Q:VK),Inv X pz e H s->RelV x v->s.heap.IsSliceOf d c b .none->IC c lo->IC b a->r x lo a H Q->
  ∃T id,EJ (.type T) "__getitem__" =pure (some (.builtin id))/\s.TypeIs v T/\dR (dZ X.prog X.w) X.A (yo v (.ref d)) (EP X pz e Q) X.xe s
def SlR.or(h:SlR X r)(h':SlR X r'):SlR X (λx lo a H Q=>r x lo a H Q\/r' x lo a H Q):=by
 intro pz s d H x v c i lo a b Q I e f pl g q;rcases q with q|q
 .exact h pz s d H x v c i lo a b Q I e f pl g q
 .exact h' pz s d H x v c i lo a b Q I e f pl g q
def tSl(r:V->Option Int->Option Int->Hp->VK->Prop)(te:TE)(tl d:TO):TE:=λa H Q=>te a H λx b=>tl a b λl c=>d a c λu e=>r x l u e Q
def R9(G:SlR X r)(he:PE X e te)(C:PO X lo tl)(n:PO X hi th):PE X (.Subscript e (.Slice lo hi none p2) pos) (tSl r te tl th):=by intro pz s a H Q I h;refine aa9 (jo (he pz s a H _ I h) λv y d=> ?_);let⟨x j,o,p,z⟩:=d;refine wpAny_Slice (jo (C pz y a j _ o z) λf M d=> ?_);let⟨l k,N,pl,B⟩:=d;refine jo (n pz M a k _ N B) λg c d=> ?_;let⟨u i,F,J,m⟩:=d;refine de ?_;have A:Inv X pz a i {c with heap:=c.heap.push {cls:= .type "slice",data:= .fields #[f,g,.none]}}:=F.kept λb O q=>dc _ q;let⟨T id,w,t,E⟩:=G pz {c with heap:=c.heap.push {cls:= .type "slice",data:= .fields #[f,g,.none]}} a i x v f g l u c.heap.objs.size Q A p (abI ..) pl J m;exact tail_any t w E (by with_unfolding_all rfl)
def Qp(a:List V)(lo b:pN):List V:=(a.drop (HT.o7 (~~~a) 0 lo)).take (HT.o7 (~~~a) (~~~a) b-HT.o7 (~~~a) 0 lo)
def Bt(a:List V)(lo b:pN):(Qp a lo b).length<= ~~~a:=by unfold Qp;rw[uY,nF];lia
def ae9(K:dh):V->Option Int->Option Int->Hp->VK->Prop:=λx lo c H Q=> ∃a b,x= .ref a/\qJ K H a b/\
 ¬(HT.o7 (~~~b) 0 lo=0/\HT.o7 (~~~b) (~~~b) c= ~~~b)/\ ∀p,H p=none->Q (.ref p) (upd H p (.tup (Qp b lo c)))
theorem Y7:SlR X (ae9 X.K):=by
 intro pz s p H x v o t lo g n Q I i j pl l h;let⟨a d,rfl,k,m,q⟩:=h;cases i;let⟨(e),r,f,hz⟩:=I.tuple k;have c:e.toArray.size= ~~~d:=by rw[eJ];exact r.length.symm
 refine⟨"tuple",_,oh.lookup,f.typeIs,?_⟩;refine HT.zh f j pl l (by rw[c];exact m) ?_ (by rw[c];exact hz);rw[c];refine⟨.ref s.heap.objs.size,_,I.laid (λb u q=>dc _ q) (dI _) ?_,rfl,q _ (I.ab.fresh (dI _))⟩;exact⟨eC (Bt d lo g) hz,_,(r.drop (HT.o7 (~~~d) 0 lo)).take (HT.o7 (~~~d) (~~~d) g-HT.o7 (~~~d) 0 lo),sG.laid _ _⟩
def X0(K:dh):R2:=λx y H Q=> ∃a b d c,x= .ref a/\y= .ref b/\qJ K H a d/\qJ K H b c/\d≠ []/\ ~~~d+ ~~~c<=eQ/\
 (c=[]->Q (.ref a) H)/\(c≠ []-> ∀p,H p=none->Q (.ref p) (upd H p (.tup (d++c))))
def gF.aP(r:gF xs us):us=[]↔xs=[]:=by
 cases r with
 |nil=>simp
 |cons _ _=>simp
def Wh:tG X (nZ .Add) (X0 X.K):=by intro pz s t H x y v u Q I g m h;let⟨a b A r,rfl,rfl,o,k,n,hz,i,l⟩:=h;cases g;cases m;let⟨(j),d,p,_⟩:=I.tuple o;let⟨(e),c,f,_⟩:=I.tuple k;refine HT.W7 p f (λz=>n (d.aP.mp z)) (λz=>⟨.ref a,H,I,rfl,i (c.aP.mp z)⟩) (λz=> ?_) (by rw[<- ~~~d,<- ~~~c];exact hz);refine⟨.ref s.heap.objs.size,_,I.laid (λb B q=>dc _ q) (dI _) ?_,rfl,l (λw=>z (c.aP.mpr w)) _ (I.ab.fresh (dI _))⟩;exact⟨by rw[ib];exact hz,_,d.append c,sG.laid _ _⟩
end
noncomputable def P1(n:Nat)(i:Int):Option Nat:=if 0<=i then(if i<n then some i.toNat else none)else if-(n:Int)<=i then some (i+n).toNat else none
def nB{α:Type}(a:List α)(i:Int):Option α:=(P1 (~~~a) i).bind λj=>a[j]?
def NQ(h:P1 n i=some j):seqIndex? i n=some j/\j<n/\ -(n:Int)<=i/\i<n:=by
 unfold P1 at h;by_cases h0:0<=i
 .rw[dq h0]at h;by_cases h1:i<n
  .rw[dq h1]at h;have e:=ft h;exact⟨by rw[Xr h0 h1,e],by lia,by lia,h1⟩
  .rw[di h1]at h;cases h
 .rw[di h0]at h;by_cases h1: -(n:Int)<=i
  .rw[dq h1]at h;have e:=ft h;exact⟨by rw[US (by lia) h1,e],by lia,h1,by lia⟩
  .rw[di h1]at h;cases h
def Ik{α:Type}{a:List α}{i:Int}{v:α}(h:nB a i=some v): ∃j,seqIndex? i (~~~a)=some j/\a[j]?=some v/\j< ~~~a/\ -(~~~a:Int)<=i/\i< ~~~a:=by
 unfold nB at h;cases e:P1 (~~~a) i with
 |none=>rw[e]at h;cases h
 |some j=>rw[e]at h;let⟨b,c,d,f⟩:=NQ e;exact⟨j,b,h,c,d,f⟩
def jf{α:Type}{a:List α}{j:Nat}{v:α}(h:a[j]?=some v):nB a (j:Int)=some v:=by
 have b:=(dH.mp h).1;have e:P1 (~~~a) (j:Int)=some j:=by
  unfold P1
  simp_all
 unfold nB;rw[e];exact h
def Oo(b:jG):Prop:= ∀o i,IM b false o i=ahp [o,i] (yo o i)
def Xl(X:Cx)(r:R2):Prop:=
 ∀(value slice:jG) (pz:i4) (s:dJ) (a:St) (H:Hp) (x y:V) (v u:eA) (Q:VK),Inv X pz a H s->RelV x v->RelV y u->r x y H Q->
  IM slice false v u=ahp [v,u] (yo v u)->dR (dZ X.prog X.w) X.A (agU value slice v u) (EP X pz a Q) X.xe s
def MtR(X:Cx)(id:String)(r:V->List V->Hp->VK->Prop):Prop:=
 ∀(pz:i4) (s:dJ) (b:St) (H:Hp) (x:V) (a:List V) (v:eA) (us:fM) (Q:VK),Inv X pz b H s->RelV x v->gF a us->r x a H Q->
  dR (dZ X.prog X.w) X.A (call (.builtin id) (v::us)) (EP X pz b Q) X.xe s
section
def Xl.or(h:Xl X r)(h':Xl X r'):Xl X (λx y H Q=>r x y H Q\/r' x y H Q):=by
 intro value slice pz s d H x y v u Q I a b q c;rcases q with q|q
 .exact h value slice pz s d H x y v u Q I a b q c
 .exact h' value slice pz s d H x y v u Q I a b q c
def acp(j:Xl X r)(m:PE X a ta)(g:PE X b tb)(f:Oo b):PE X (.Subscript a b pos) (XW r ta tb):=by intro pz s d H Q I h;exact aa9 (aaG m g I h λv u k x y c l e i q=>j a b pz k d c x y v u Q l e i q (f _ _))
def ace(K:dh):R2:=λx y H Q=> ∃p a i v,x= .ref p/\y= .int i/\rB K H p a/\nB a i=some v/\Q v H
def acb(K:dh):R2:=λx y H Q=> ∃p a i v,x= .ref p/\y= .int i/\qJ K H p a/\nB a i=some v/\Q v H
def acd:R2:=λx y H Q=> ∃z i c,x= .str z/\y= .int i/\ ~~~z<=eQ/\nB z.cps.toList i=some c/\Q (.str ⟨#[c]⟩) H
def WC:Xl X (ace X.K):=by
 intro value slice pz s k H x y v u Q I l o h f;let⟨p F i z,rfl,rfl,g,he,q⟩:=h;cases l;let⟨(t),rfl⟩:=o;let⟨(d),r,pl,hz⟩:=I.list g;let⟨(j),a,m,E,A,n⟩:=Ik he;let⟨(w),e,c⟩:=r.get m;have C:= ~~~r;have B:=Au;have fin:EP X pz k Q w s:=⟨z,H,I,c,q⟩;by_cases h0:0<=i
 .have b:i.toNat=j:=by
   rw[Xr h0 n]at a;exact ft a
  exact item_listR pl.isList h0 (by lia) (by rw[b];simpa using e) fin f
 .have b:(i+(d.toArray.size:Int)).toNat=j:=by
   rw[US (by lia) A]at a
   simp_all
  exact UR pl.isList.typeIs aby.lookup
   (wpAny_getItem_list_neg pl.isList (by lia) (by rw[eJ]<;>lia) (by lia) (by rw[b];simpa using e) ⟨rfl,fin⟩) f
def Z0:Xl X (acb X.K):=by
 intro value slice pz s d H x y v u Q I f m h g;let⟨p E i z,rfl,rfl,c,he,q⟩:=h;cases f;let⟨(t),rfl⟩:=m;let⟨(l),r,pl,hz⟩:=I.tuple c;let⟨(j),b,k,B,C,A⟩:=Ik he;let⟨(w),e,a⟩:=r.get k;have n:= ~~~r;have o:=Au;have fin:EP X pz d Q w s:=⟨z,H,I,a,q⟩;exact UR pl.typeIs slot_tuple_getitem.lookup
  (getItem_tuple pl (by lia) (by lia) (by rw[eJ,<-n];exact b) (by simpa using e) ⟨rfl,fin⟩) g
def Z1:Xl X acd:=by
 intro value slice pz s o H x y v u Q I d k h e;let⟨z i c,rfl,rfl,hz,he,q⟩:=h;let⟨(t),rfl⟩:=d;let⟨(t'),rfl⟩:=k;let⟨(j),a,f,r,m,g⟩:=Ik he;have l: ~~~z.cps.toList= ~~~z:=by simp[Str.length]
 rw[l]at a m g;have p:=Au;exact tail_any (typeIs_str s z t) slot_str_getitem.lookup (getItem_str (by have b:decide (i< -(2^63:Int))=false:=fj (by lia);have n:decide (i ≥ 2^63)=false:=fj (by lia);rw[b,n,Bool.or_false]) (by rw[a];simpa using f) ⟨.str ⟨#[c]⟩,H,I.tok _,⟨_,rfl⟩,q⟩) e
def rIx(K:dh):R2:=λx y H Q=>ace K x y H Q\/acb K x y H Q\/acd x y H Q
def Z2:Xl X (rIx X.K):=WC.or (Z0.or Z1)
def Md(a:fM)(n j:Nat)(u:eA):lV (·.setIfInBounds j u) {cls:= .type "list",data:= .seq a.toArray n}={cls:= .type "list",data:= .seq (a.set j u).toArray n}:=by simp[lV]
def Inv.lst{pz:i4}{c:St}{H:Hp}{s:dJ}{p:eB}{b:List V}(I:Inv X pz c H s)(h:H p=some (.lst b)):
  ∃(a:fM) (n:Nat),gF b a/\s.heap.get? p=some {cls:= .type "list",data:= .seq a.toArray n}/\ ~~~b<=sizeLine:=by
 obtain⟨z,a,n,r,e⟩:=I.ab p _ h;exact⟨a,n,r,e,z⟩
def Inv.b7{pz:i4}{i:St}{H:Hp}{s:dJ}{p:eB}{l d:List V}{c a:fM}{n g:Nat}{f:xG->xG}(I:Inv X pz i H s)(h:H p=some (.lst l))
  (m:s.heap.get? p=some {cls:= .type "list",data:= .seq c.toArray n})(j:f {cls:= .type "list",data:= .seq c.toArray n}={cls:= .type "list",data:= .seq a.toArray g})(r:gF d a)(hz: ~~~d<=eQ)(t:Nat):
  Inv X pz i (upd H p (.lst d)) {s with heap:=s.heap.update p f,toks:=t}:=by
 have e:(s.heap.update p f).get? p=some {cls:= .type "list",data:= .seq a.toArray g}:=by rw[i8 f m (by rw[j]<;>rfl),j]
 refine I.write (by rw[h];trivial) (.inl rfl) (λb u k q=>(iU _ _ (gk k)).trans q) ⟨_,e⟩ ?_;exact⟨hz,a,g,r,e⟩
def ab8:V->V->V->Hp->(Hp->Prop)->Prop:=λo i v H Q=> ∃p a k j,o= .ref p/\i= .int k/\H p=some (.lst a)/\P1 (~~~a) k=some j/\Q (upd H p (.lst (a.set j v)))
def Jv:aaP X ab8:=by
 intro pz s m H o i v E F u Q I z y w h;let⟨p A k j,rfl,rfl,e,x,q⟩:=h;cases z;let⟨(t),rfl⟩:=y;let⟨a n,r,c,hz⟩:=I.lst e;let⟨b,C,g,l⟩:=NQ x;have f:= ~~~r;have B:=Au;have d:Inv X pz m (upd H p (.lst (A.set j v))) {s with heap:=s.heap.update p (lV (·.setIfInBounds j u))}:=
  I.b7 e c (Md a n j u) (r.set w j) (by rw[EU];exact hz) s.toks
 by_cases h0:0<=k
 .have hk:k.toNat=j:=by
   rw[Xr h0 l]at b;exact ft b
  exact PySem.W.ki_setAt c h0 (by lia) (by rw[eJ,<-f];exact l) (by rw[hk];exact⟨_,d,q⟩)
 .have hk:(k+(a.toArray.size:Int)).toNat=j:=by
   rw[US (by lia) g]at b
   simp_all
  exact PySem.W.ki_setBack c (by lia) (by rw[eJ,<-f];exact g) (by lia) (by rw[hk];exact⟨_,d,q⟩)
def Hd(lo a:pN)(n:Nat):(rE lo a none n).1=((HT.o7 n 0 lo:Nat):Int)/\(rE lo a none n).2.1=((HT.o7 n n a:Nat):Int)/\(rE lo a none n).2.2=1:=by
 refine⟨?_,?_,rfl⟩
 .cases lo with
  |none=>simp[rE,HT.o7]
  |some i=>
   simp only[rE,HT.o7,Q1];by_cases h:i<0
   .simp only[h,jv]<;>lia
   .simp only[h,hJ]<;>lia
 .cases a with
  |none=>simp[rE,HT.o7]
  |some i=>
   simp only[rE,HT.o7,Q1];by_cases h:i<0
   .simp only[h,jv]<;>lia
   .simp only[h,hJ]<;>lia
def E7(a:fM)(lo b:pN):slicePick a.toArray lo b none=((a.drop (HT.o7 (~~~a) 0 lo)).take (HT.o7 (~~~a) (~~~a) b-HT.o7 (~~~a) 0 lo)).toArray:=by let⟨c,d,e⟩:=Hd lo b a.toArray.size;unfold slicePick;rw[c,d,e];rw[sliceRange_one,pick_run]<;>rfl
def afa(K:dh):V->Option Int->Option Int->Hp->VK->Prop:=λx lo c H Q=> ∃a b,x= .ref a/\rB K H a b/\ ∀p,H p=none->Q (.ref p) (upd H p (.lst (Qp b lo c)))
def VE:SlR X (afa X.K):=by intro pz s o H x v n p lo f m Q I g i pl l h;let⟨a d,rfl,k,q⟩:=h;cases g;let⟨(j),r,e,hz⟩:=I.list k;have c:= ~~~r;refine⟨"list",_,aby.lookup,e.isList.typeIs,?_⟩;refine wpAny_getItem_list_slice e.isList i pl l .none (by simp) ?_ (by rw[eJ]<;>lia);rw[E7,<-c];refine⟨.ref s.heap.objs.size,_,I.laid (λb t q=>dc _ q) (dI _) ?_,rfl,q _ (I.ab.fresh (dI _))⟩;exact⟨eC (Bt d lo f) hz,_,0,(r.drop (HT.o7 (~~~d) 0 lo)).take (HT.o7 (~~~d) (~~~d) f-HT.o7 (~~~d) 0 lo),dw _ rfl⟩
def zw:V->Bool
 | .non=>true
 | .bl _=>true
 | .int _=>true
 | .str _=>true
 |_=>false
noncomputable def Yc:V->V->Bool
 | .non,.non=>true
 | .bl a,.bl b=>a==b
 | .bl a,.int b=>(if a then 1 else 0)==b
 | .int a,.bl b=>a==(if b then 1 else 0)
 | .int a,.int b=>a==b
 | .str a,.str b=>a==b
 |_,_=>false
def aaj(e:RelV y u)(c:RelV x v)(f:zw y=true)(d:zw x=true):zH A s u v (Yc y x):=by
 cases y with
 |non=>
  cases e
  cases x with
  |non=>cases c;exact Nb _
  |bl b=>cases c;exact ag7 b
  |int b=>let⟨(t),rfl⟩:=c;exact ag6 b t
  |str b=>let⟨(t),rfl⟩:=c;exact ag5 b t
  |_=>exact absurd (show false=true from d) dY
 |bl a=>
  cases e
  cases x with
  |non=>cases c;exact ahc a
  |bl b=>cases c;exact ahe a b
  |int b=>let⟨(t),rfl⟩:=c;exact ahd a b t
  |str b=>let⟨(t),rfl⟩:=c;exact ahb a b t
  |_=>exact absurd (show false=true from d) dY
 |int a=>
  let⟨(t'),rfl⟩:=e;cases x with
  |non=>cases c;exact ag9 a t'
  |bl b=>cases c;exact aha a t' b
  |int b=>let⟨(t),rfl⟩:=c;exact IU a t' b t
  |str b=>let⟨(t),rfl⟩:=c;exact IT a t' b t
  |_=>exact absurd (show false=true from d) dY
 |str a=>
  let⟨(t'),rfl⟩:=e;cases x with
  |non=>cases c;exact ag2 a t'
  |bl b=>cases c;exact ag3 a t' b
  |int b=>let⟨(t),rfl⟩:=c;exact IS a t' b t
  |str b=>let⟨(t),rfl⟩:=c;exact ag1 a t' b t
  |_=>exact absurd (show false=true from d) dY
 |_=>exact absurd (show false=true from f) dY
def MK(x:V)(u:eA):Bool:=match u with
 | .none=>Yc .non x
 | .bool b=>Yc (.bl b) x
 | .int i _=>Yc (.int i) x
 | .str z _=>Yc (.str z) x
 |_=>false
def TM(r:RelV y u)(f:zw y=true):MK x u=Yc y x:=by
 cases y with
 |non=>cases r;rfl
 |bl b=>cases r;rfl
 |int i=>let⟨(t),rfl⟩:=r;rfl
 |str z=>let⟨(t),rfl⟩:=r;rfl
 |_=>exact absurd (show false=true from f) dY
theorem zF: ∀{a:List V} {us:fM},gF a us->a.all zw=true->us.any (MK x)=a.any λy=>Yc y x
 |_,_,.nil,_=>rfl
 |y::a,u::us,.cons r t,f=>by rw[om,fZ]at f;rw[iS,iS,TM r f.1,zF t f.2]
theorem vP(d:RelV x v)(c:zw x=true): ∀{b:List V} {us:fM},gF b us->b.all zw=true-> ∀u∈us,zH A s u v (MK x u)
 |_,_,.nil,_=>λu a=>by cases a
 |y::b,u::us,.cons r t,f=>λe a=>by
  rw[om,fZ]at f;rcases eM.mp a with rfl|a
  .rw[TM r f.1];exact aaj r d f.1 c
  .exact vP d c t f.2 e a
def inV(x:V)(a:List V):Bool:=a.any λy=>Yc y x
def rIn(K:dh)(neg:Bool):R2:=λx y H Q=> ∃p a,y= .ref p/\(rB K H p a\/qJ K H p a)/\zw x=true/\a.all zw=true/\Q (.bl (if neg then !inV x a else inV x a)) H
def Ac:tG X (gH .In) (rIn X.K false):=by
 intro pz s i H x y v u Q I e g h;let⟨p j,rfl,b,f,c,q⟩:=h;cases g;rcases b with b|b
 .obtain⟨a,r,pl,hz⟩:=I.list b;refine Vg (MK x) pl.isList (λw d=>vP e f r c w (by simpa using d)) ⟨.bl _,H,I,rfl,?_⟩;rw[show a.toArray.any (MK x)=a.any (MK x)by simp,zF r c];exact q
 .obtain⟨a,r,pl,hz⟩:=I.tuple b;refine SeqAt.in_tupleAt (MK x) pl (λw d=>vP e f r c w (by simpa using d)) ⟨.bl _,H,I,rfl,?_⟩;rw[show a.toArray.any (MK x)=a.any (MK x)by simp,zF r c];exact q
def HA:tG X (gH .NotIn) (rIn X.K true):=by
 intro pz s i H x y v u Q I e g h;let⟨p j,rfl,b,f,c,q⟩:=h;cases g;rcases b with b|b
 .obtain⟨a,r,pl,hz⟩:=I.list b;refine QI (MK x) pl.isList (λw d=>vP e f r c w (by simpa using d)) ⟨.bl _,H,I,rfl,?_⟩;rw[show a.toArray.any (MK x)=a.any (MK x)by simp,zF r c];exact q
 .obtain⟨a,r,pl,hz⟩:=I.tuple b;refine SeqAt.notIn_tupleAt (MK x) pl (λw d=>vP e f r c w (by simpa using d)) ⟨.bl _,H,I,rfl,?_⟩;rw[show a.toArray.any (MK x)=a.any (MK x)by simp,zF r c];exact q
def Ii:nM X (.builtin "len") (λf H Q=> ∃p b,f=[.ref p]/\(rB X.K H p b\/qJ X.K H p b)/\Q (.int (~~~b)) H):=by
 intro pz s i H f us Q I r h;let⟨p b,rfl,c,q⟩:=h;let⟨(u),rfl,g⟩:=vals1 r;cases g;have j:=Au;rcases c with c|c
 .obtain⟨e,d,pl,hz⟩:=I.list c;have a:= ~~~d;exact Calls.call_len_list pl.isList (by rw[eJ]<;>lia) ⟨.int (~~~b),H,I.tok _,⟨s.toks+1,by rw[eJ,a]⟩,q⟩
 .obtain⟨e,d,pl,hz⟩:=I.tuple c;have a:= ~~~d;exact len_tuple pl (by rw[eJ]<;>lia) ⟨.int (~~~b),H,I.tok _,⟨s.toks+1,by rw[eJ,a]⟩,q⟩
def nM.or(h:nM X f r)(h':nM X f r'):nM X f (λa H Q=>r a H Q\/r' a H Q):=by
 intro pz s c H a us Q I b q;rcases q with q|q
 .exact h pz s c H a us Q I b q
 .exact h' pz s c H a us Q I b q
def Ih:nM X (.type "list") (λv H Q=> ∃p d,v=[.ref p]/\(rB X.K H p d\/qJ X.K H p d)/\ ∀l,H l=none->Q (.ref l) (upd H l (.lst d))):=by
 intro pz s x H v us Q I r h;let⟨p d,rfl,i,q⟩:=h;let⟨(u),rfl,y⟩:=vals1 r;cases y;have fin: ∀(a:fM),gF d a-> ~~~d<=eQ-> ∀(h':iZ) (f:Nat),(∀b t,s.heap.get? b=some t->h'.get? b=some t)->
   h'.get? s.heap.objs.size=some {cls:= .type "list",dict:=none,data:= .seq a.toArray f,slots:= #[]}->EP X pz x Q (.ref s.heap.objs.size) {s with heap:=h'}:=λa c hz h' f j e=>
  ⟨.ref s.heap.objs.size,_,I.laid j (dI _) (show jM X.prog X.w _ h' _ (.lst d)from⟨hz,a,f,c,e⟩),rfl,q _ (I.ab.fresh (dI _))⟩
 rcases i with i|i
 .obtain⟨a,c,pl,hz⟩:=I.list i;have g:= ~~~c;obtain⟨o,m,k,n,hd⟩:=pl.isList;exact agX p (.inl rfl) m k hd (λh' f j e=>fin a c hz h' f j e) (by rw[eJ]<;>lia)
 .obtain⟨a,c,pl,hz⟩:=I.tuple i;have g:= ~~~c;obtain⟨o,m,k,n,hd⟩:=pl;exact agX p (.inr rfl) m k hd (λh' f j e=>fin a c hz h' f j e) (by rw[eJ]<;>lia)
def Fs:nM X (.type "tuple") (λj H Q=> ∃p c,j=[.ref p]/\((rB X.K H p c/\ ∀l,H l=none->Q (.ref l) (upd H l (.tup c)))\/(qJ X.K H p c/\Q (.ref p) H))):=by
 intro pz s k H j us Q I r h;let⟨p c,rfl,h⟩:=h;let⟨(u),rfl,m⟩:=vals1 r;cases m;rcases h with⟨f,q⟩|⟨f,q⟩
 .obtain⟨a,d,pl,hz⟩:=I.list f;have g:= ~~~d;refine call_tuple_list pl.isList (λh' t=> ?_) (by rw[eJ]<;>lia);have i:=I.kept (t':=s.toks) t;have n:Inv X pz k (upd H h'.objs.size (.tup c)) {s with heap:=h'.push {cls:= .type "tuple",data:= .seq a.toArray}}:=
   i.laid (λb o e=>dc _ e) (dI _) (show jM X.prog X.w _ _ _ (.tup c)from⟨hz,a,d,sG.laid _ _⟩)
  exact⟨.ref h'.objs.size,_,n,rfl,q _ (i.ab.fresh (dI _))⟩
 .obtain⟨a,d,pl,hz⟩:=I.tuple f;exact call_tuple_same pl ⟨.ref p,H,I,rfl,q⟩
def tyV(K:dh)(T:String)(x:V)(H:Hp):Prop:=match x with
 | .str _=>T= "str"
 | .int _=>T= "int"
 | .ref p=>(T= "list" /\ ∃b,rB K H p b)\/(T= "tuple" /\ ∃o,K.lookup p=some o/\o.cls= .type "tuple" /\o.dict=none)\/
   (T= "dict" /\((∃a,H p=some (.dK a))\/ ∃a,H p=some (.dT a)))\/(T= "set" /\ ∃S n,H p=some (.set S n))
 |_=>False
def YS(I:Inv X pz σ H s)(r:RelV x v)(ty:tyV X.K T x H):
  s.TypeIs v T/\ ∀a,v= .ref a-> ∃f,s.heap.get? a=some f/\f.dict=none:=by
 cases x with
 |str z=>let⟨(t),rfl⟩:=r;cases (show T= "str" from ty);exact⟨typeIs_str s z t,λ_ e=>nomatch e⟩
 |int i=>let⟨(t),rfl⟩:=r;cases (show T= "int" from ty);exact⟨typeIs_int s i t,λ_ e=>nomatch e⟩
 |ref p=>
  cases r
  rcases ty with⟨rfl,k,g⟩|⟨rfl,o,hk,j,hd⟩|⟨rfl,hk⟩|⟨rfl,S,n,hk⟩
  .obtain⟨h,_,pl,_⟩:=I.list g;refine⟨pl.isList.typeIs,λa e=> ?_⟩;cases e;let⟨o n,e,c,hd,_⟩:=pl;exact⟨o,e,hd⟩
  .refine⟨⟨o,I.bb p o hk,j⟩,λa e=> ?_⟩;cases e
   exact⟨o,I.bb _ o hk,hd⟩
  .have z: ∃o,s.heap.get? p=some o/\o.ExactDict:=by
    rcases hk with⟨b,hk⟩|⟨b,hk⟩
    .obtain⟨_,_,_,_,o,_,_,e,ex,_⟩:=I.ab p _ hk;exact⟨o,e,ex⟩
    .obtain⟨_,_,_,_,o,_,_,e,ex,_⟩:=I.ab p _ hk;exact⟨o,e,ex⟩
   let⟨(o),e,ex⟩:=z;refine⟨⟨o,e,ex.1⟩,λa d=> ?_⟩;cases d;exact⟨o,e,ex.2.1⟩
  .obtain⟨o,_,_,_,e,ex,_⟩:=I.ab p _ hk;refine⟨⟨o,e,ex.1⟩,λa d=> ?_⟩;cases d;exact⟨o,e,ex.2.1⟩
 |_=>exact eZ ty
def tBM(K:dh)(T:String)(r:V->List V->Hp->VK->Prop)(c:TE)(t:TA):TE:=λb H Q=>c b H λx a=>tyV K T x a/\t b a λd e=>r x d e Q
variable {T id:String}
def JP(n:PlainAttrs T)(slot:Slot T name id)(i:typeOf (.builtin id)=pure (.type "method_descriptor"))(E:MtR X id r)(M:PE X o to)(J:PA X (e::es) t)
  (b:hZ o name X.env (fX o X.env)=fX o X.env:=by rfl)
  (d:((gy cpos (dj (e::es) X.env)).all (λx=> !x.1)&&(xb cpos (pX [] X.env)).all (λx=>x.1.isSome)
   &&decide ((e::es).length+([]:List pk).length+(if([]:List pk).isEmpty then 0 else 1)<30))=true:=by rfl)
  (c:(apos.endLine==cpos.line)=true:=by rfl)(y:dj (e::es) X.env=(false,fX e X.env)::dj es X.env:=by rfl)(a:(gy cpos (dj es X.env)).any (·.1)=false:=by rfl):
  PE X (.Call (.Attribute o name apos) (e::es) [] cpos) (tBM X.K T r to t):=by
 intro pz s f H Q I h;refine wpAny_Call_method_late b d c rfl (jo (M pz s f H _ I h) λv z g=> ?_);let⟨x m,j,k,ty,A⟩:=g;let⟨q,w⟩:=YS j k ty;refine⟨T,id,n,slot,i,q,w,?_⟩;have l:=J cpos pz z f m _ j A;rw[y]at l⊢;refine vi (by show(false||(gy cpos (dj es X.env)).any (·.1))=false;rw[a]<;>rfl) (xf ?_);exact jo l λus F g=>by let⟨B p,G,u,C⟩:=g;exact E pz F f p x B v us Q G k u C
end
def MtM(X:Cx)(id:String)(r:V->List V->Hp->VK->Prop):Prop:=
 ∀(pz:i4) (s:dJ) (b:St) (H:Hp) (x:V) (a:List V) (v:eA) (us:fM) (Q:VK),Inv X pz b H s->RelV x v->gF a us->r x a H Q->
  dR (dZ X.prog X.w) X.A (call (.builtin id) (v::us)) (EP X pz b Q) X.xe s
theorem gF.one: ∀{x:V} {us:fM},gF [x] us-> ∃u,us=[u]/\RelV x u
 |_,_,.cons r .nil=>⟨_,rfl,r⟩
section
def Inv.b5{b a:fM}{n:Nat}{f:Array eA->Array eA}{t':Nat}(I:Inv X pz σ H s)(h:H l=some (.lst xs))
  (e:s.heap.get? l=some {cls:= .type "list",data:= .seq b.toArray n})(i:f b.toArray=a.toArray)(d:gF ys a)(hz: ~~~ys<=eQ):
  Inv X pz σ (upd H l (.lst ys)) {s with heap:=s.heap.update l (lV f),toks:=t'}:=by
 have q:=ahw e f;rw[i]at q;refine I.write (by rw[h];exact trivial) (.inl rfl) (λj u g c=>(iU s.heap (lV f) (gk g)).trans c) ⟨_,q⟩ ?_;exact⟨hz,a,_,d,q⟩
def Inv.cK(I:Inv X pz σ H s)(a:gF ys its)(hz: ~~~ys<=eQ):
  Inv X pz σ (upd H s.heap.objs.size (.lst ys)) {s with heap:=s.heap.push {cls:= .type "list",data:= .seq its.toArray},toks:=t'}:=
 I.laid (λ_ _ q=>dc _ q) (dI _) ⟨hz,its,0,a,dw _ rfl⟩
def Inv.fresh(I:Inv X pz σ H s):H s.heap.objs.size=none:=I.ab.fresh (dI _)
def Inv.cA(I:Inv X pz σ H s)(b:H l=some (.lst xs)): ~~~xs<=eQ/\ ∃(a:fM) (n:Nat),gF xs a/\ ~~~xs= ~~~a/\s.heap.get? l=some {cls:= .type "list",data:= .seq a.toArray n}:=by obtain⟨z,a,n,r,e⟩:=I.ab l _ b;exact⟨z,a,n,r,~~~r,e⟩
def J4{n:Nat}(h:n<=eQ):mZ n=false:=by exact fj (by lia)
end
section
def VO:V->List V->Hp->VK->Prop:=λx b H Q=> ∃l a y,x= .ref l/\b=[y]/\H l=some (.lst a)/\ ~~~a<eQ/\Q .non (upd H l (.lst (a++ [y])))
def PH:MtM X "list.append" VO:=by intro pz s g H x i v us Q I d c h;let⟨l k y,rfl,rfl,b,hz,q⟩:=h;cases d;let⟨(u),rfl,f⟩:=c.one;obtain⟨z,a,n,r,j,e⟩:=I.cA b;refine call_meets F.slot_list_append ⟨_,e,rfl⟩ F.entry_list_append (F.args_list_append_2 _ _) (PySem.list_append l a.toArray n u (by rw[eJ];lia)) ⟨e,?_⟩;refine⟨.non,_,I.b5 b e (by simp) (r.append (.cons f .nil)) ?_,rfl,q⟩;rw[ib,List.length_singleton];lia
end
section
variable {prog:fY} {w:iu} {A:i6} {E:gY} {s:dJ}
set_option maxRecDepth 100000 in
end
theorem gF.ints: ∀{ns:jn} {us:fM},gF (ns.map V.int) us->yy us ns
 | [],us,h=>by
  cases h
  exact IntsAre.nil
 |n::ns,us,h=>by
  cases h with
  |cons r t=>let⟨(k),rfl⟩:=r;exact IntsAre.cons n k (gF.ints t)
theorem gF.cP: ∀{a:List Bool} {us:fM},gF (a.map V.bl) us->us=a.map ox
 | [],us,h=>by
  cases h
  rfl
 |b::a,us,h=>by
  cases h with
  |cons r t=>
   cases r
   rw[gF.cP t,dt]
def gF.aQ{a:eB}{us:fM}(r:gF [V.ref a] us):us=[eD a]:=by
 cases r with
 |cons r t=>
  cases t
  cases r
  rfl
def gF.cj(r:gF [V.int i,V.int j] us): ∃t u,us=[xD i t,xD j u]:=by
 cases r with
 |cons r t=>
  cases t with
  |cons b a=>
   cases a
   let⟨(t),rfl⟩:=r;let⟨(u),rfl⟩:=b;exact⟨t,u,rfl⟩
section
def VD(g:A.handled=none)(d:s.heap.IsList l its.toArray)(a:yy its ns)
  (h: ∀h' tk t',(∀b o,s.heap.get? b=some o->h'.get? b=some o)->Q (.int ns.sum t') {s with heap:=h',toks:=tk}):dR (dZ prog w) A (call (.builtin "sum") [.ref l]) Q E s:=by
 let⟨(f),e⟩:=a.allInts.items;have c:numsOf (uC f).toList=ns:=by rw[<-e];exact a.numsOf
 rw[QH]at c;rw[e]at d;refine PySem.sum_intListG g d λh' tk t' hk=> ?_;have:=h h' tk t' hk;rw[preSum_eq,ph (by simp),c];exact this
def Wx(n:A.handled=none)(g:s.heap.IsList l its.toArray)(i:yy its ns)(d:0< ~~~ns)
  (h: ∀h' tk M t',(∀b o,s.heap.get? b=some o->h'.get? b=some o)->M∈ns->(∀a,a∈ns->M<=a)->Q (.int M t') {s with heap:=h',toks:=tk}):dR (dZ prog w) A (call (.builtin "min") [.ref l]) Q E s:=by
 let⟨(c),e⟩:=i.allInts.items;have f:numsOf (uC c).toList=ns:=by rw[<-e];exact i.numsOf
 rw[QH]at f;subst f;rw[e]at g;have hsz:0<c.size:=by simpa using d
 refine PySem.min_intList n g hsz λv h' tk p hk=> ?_;let⟨(t),rfl⟩:=Xv p;let⟨r,m⟩:=argBest_lt (agg c) (c.size-1);refine h h' tk _ t hk ?_ λa q=> ?_
 .rw[Xu];exact XA (by rw[dA,fB];lia)
 .obtain⟨j,k,rfl⟩:=mem_getD q;rw[dA,fB]at k;rw[<-Xu];exact m j (by lia)
end
section
def ae8(K:dh):List V->Hp->VK->Prop:=λb H Q=> ∃(a:eB) (ns:jn),b=[V.ref a]/\rB K H a (ns.map V.int)/\Q (.int ns.sum) H
def afb(K:dh):List V->Hp->VK->Prop:=λb H Q=> ∃(a:eB) (ns:jn),b=[V.ref a]/\rB K H a (ns.map V.int)/\0< ~~~ns/\ ∀m,m∈ns->(∀y,y∈ns->m<=y)->Q (.int m) H
def aax(f:X.calm=true):nM X (.builtin "sum") (ae8 X.K):=by intro pz s g H i us Q I r h;let⟨a ns,rfl,c,q⟩:=h;let⟨(d),b,e,_⟩:=I.list c;rw[gF.aQ r];exact VD (I.ok.hd f) e.isList b.ints λh' tk t' hk=>⟨.int _,H,I.kept hk,⟨_,rfl⟩,q⟩
def aay(j:X.calm=true):nM X (.builtin "min") (afb X.K):=by intro pz s k H l us Q I r h;let⟨a ns,rfl,f,b,q⟩:=h;let⟨(g),d,i,_⟩:=I.list f;rw[gF.aQ r];exact Wx (I.ok.hd j) i.isList d.ints b λh' tk m t' hk c e=>⟨.int _,H,I.kept hk,⟨_,rfl⟩,q m c e⟩
end
def Kg{prog:fY}{w:iu}{A:i6}{E:gY}{s:dJ}{l:eB}{items:mj}{Q:gY}(a:s.heap.IsList l items)
  (h: ∀s₂:dJ,s₂={s with heap:=s.heap.push {cls:= .type "list_iterator",data:= .fields #[.ref l,.int 0 0]}}->
   (s₂.heap.IsListIter s.heap.objs.size l 0/\s₂.heap.IsList l items)->l≠s.heap.objs.size->Q (.ref s.heap.objs.size) s₂):dR (dZ prog w) A (yn (.ref l)) Q E s:=by
 have b:l<s.heap.objs.size:=by let⟨(_),e,_⟩:=a;exact dD e
 exact vm a (h _ rfl ⟨⟨_,dw _ rfl,rfl,rfl⟩,a.push _⟩ (eG b))
def A0{prog:fY}{w:iu}{A:i6}{f:List Bool}{a:fM}(e:a=f.map ox):
  TruthOf prog w A (λi v=>a.toArray[i]?=some v) (λi=>f.getD i false):=λi v s Q E k g=>by
 have d:a[i]?=some v:=by simpa using k
 rw[e,dX]at d;let⟨(b),h,rfl⟩:=IX.mp d;have j:f.getD i false=b:=by rw[dG,h]<;>rfl
 have c:Q (f.getD i false) s:=g;rw[j]at c;exact jb c
def any_range: ∀a:List Bool,(eE (~~~a)).any (λi=>a.getD i false)=a.any id:=by
 intro a;induction a with
 |nil=>rfl
 |cons b a ih=>rw[dB,Lo,iS,BB,iS,<-ih];rfl
def all_range: ∀a:List Bool,(eE (~~~a)).all (λi=>a.getD i false)=a.all id:=by
 intro a;induction a with
 |nil=>rfl
 |cons b a ih=>rw[dB,Lo,om,Lq,om,<-ih];rfl
section
def afc(K:dh):List V->Hp->VK->Prop:=λc H Q=> ∃(a:eB) (b:List Bool),c=[V.ref a]/\rB K H a (b.map V.bl)/\Q (.bl (b.any id)) H
def afd(K:dh):List V->Hp->VK->Prop:=λc H Q=> ∃(a:eB) (b:List Bool),c=[V.ref a]/\rB K H a (b.map V.bl)/\Q (.bl (b.all id)) H
def aaz(p:X.calm=true):nM X (.builtin "any") (afc X.K):=by
 intro pz s t H u us Q I r h;let⟨a v,rfl,l,q⟩:=h;let⟨(e),j,m,_⟩:=I.list l;rw[gF.aQ r];have g:=j.cP;refine call_any_walk (Kg m.isList λi n st d=> ?_);subst n;refine⟨_,_,_,_,_,_,_,rfl,adH (A:=X.A.in1) (I.ok.hd p) _ a d e.toArray,st,A0 g,λh' tk hk=> ?_⟩;refine⟨.bl _,H,I.kept λb o f=>hk b o (λc=> ?_) (dc _ f),?_,q⟩
 .rcases eM.mp c with k|c
  .exact absurd (k▸dD f) (jY _)
  .cases c
 .show ox _=ox _;rw[<-any_range,g,eJ,dA]
def aaA(p:X.calm=true):nM X (.builtin "all") (afd X.K):=by
 intro pz s t H u us Q I r h;let⟨a v,rfl,l,q⟩:=h;let⟨(e),j,m,_⟩:=I.list l;rw[gF.aQ r];have g:=j.cP;refine call_all_walk (Kg m.isList λi n st d=> ?_);subst n;refine⟨_,_,_,_,_,_,_,rfl,adH (A:=X.A.in1) (I.ok.hd p) _ a d e.toArray,st,A0 g,λh' tk hk=> ?_⟩;refine⟨.bl _,H,I.kept λb o f=>hk b o (λc=> ?_) (dc _ f),?_,q⟩
 .rcases eM.mp c with k|c
  .exact absurd (k▸dD f) (jY _)
  .cases c
 .show ox _=ox _;rw[<-all_range,g,eJ,dA]
end
abbrev UL(h:iZ)(c:eB)(v:Option eA):Prop:=h.IsCell c v
noncomputable def ae7(a b:vq):Scope:=
 {a with names:=a.names.map λ(n,k)=>if(k== .free&&b.kind== .function&&b.names.lookup n==some .cell)then(n,.cell)else(n,k)}
noncomputable def j8(a:j9):List (gw×AS)->List (gw×eB)->List (gw×eB)
 | [],b=>b
 |(n,k)::r,b=>if k== .free then j8 a r ((n,(a.lookup n).getD 0)::b)else j8 a r b
theorem zD(env:Ls)(f:gw×AS->List (gw×eB)->Sem (ForInStep (List (gw×eB))))
  (g: ∀n k c,f (n,k) c=if k== .free then(do let a<-cellOf env n;pure (.yield ((n,a)::c)))else pure (.yield c)):
  ∀(names:uu) (b:j9),(∀y∈names,y.2= .free-> ∃c,env.cells.lookup y.1=some c)->forIn names b f=pure (j8 env.cells names b)
 | [],b,_=>by rw[List.forIn_nil];rfl
 |(n,k)::r,b,h=>by
  rw[oy,g];have ih:=λb=>zD env f g r b λy j=>h y (eP _ j);unfold j8;by_cases hk:(k==UZ)=true
  .rw[dq hk,dq hk];let⟨(c),d⟩:=h (n,k) fk (by simpa using hk);have e:cellOf env n=pure c:=by unfold cellOf;rw[d]
   rw[e];have i:(env.cells.lookup n).getD 0=c:=by rw[d];rfl
   rw[i];exact ih _
  .rw[di hk,di hk];exact ih _
def MR{a:vq}{env:Ls}(h: ∀y∈a.names,y.2= .free-> ∃c,env.cells.lookup y.1=some c):closureFor a env=pure (j8 env.cells a.names []):=by dsimp only[closureFor];rw[zD env _ (λn k c=>rfl) a.names [] h];rfl
theorem mem_lookup{α:Type}: ∀{l:List (gw×α)} {n:gw} {c:α},(n,c)∈l-> ∃a,l.lookup n=some a
 |(k,v)::r,n,c,h=>by
  rw[CB];cases hb:n==k with
  |true=>exact⟨_,rfl⟩
  |false=>
   rcases eM.mp h with e|h
   .grind
   .exact mem_lookup h
theorem rZ: ∀{names:uu} {a:j9} {n:gw} {c:eB},(n,c)∈j8 cells names a->(n,c)∈a\/((n,.free)∈names/\c=(cells.lookup n).getD 0)
 | [],_,_,_,h=> .inl h
 |(m,k)::r,a,n,c,h=>by
  unfold j8 at h;split at h
  .rename_i hk;rcases rZ h with h|⟨b,d⟩
   .grind
   .simp_all
  .rcases rZ h with h|⟨b,d⟩
   .exact .inl h
   .simp_all
theorem we: ∀{names:uu} {a:j9} {p:gw×eB},p∈a->p∈j8 cells names a
 | [],_,_,h=>h
 |(m,k)::r,a,p,h=>by
  unfold j8;split
  .exact we (eP _ h)
  .exact we h
theorem wc: ∀{names:uu} {a:j9} {n:gw},(n,.free)∈names->(n,(cells.lookup n).getD 0)∈j8 cells names a
 |(m,k)::r,a,n,h=>by
  unfold j8;rcases eM.mp h with e|h
  .cases e;exact we fk
  .split
   .exact wc h
   .exact wc h
theorem tE: ∀{names:uu} {h:iZ} {b:j9} {x:gw} {c:eB},(x,c)∈i5 h.objs.size names b->
  (x,c)∈b\/((x,.cell)∈names/\h.objs.size<=c/\UL (tK h names) c none)
 | [],_,_,_,_,h=> .inl h
 |(n,k)::r,h,b,x,c,a=>by
  unfold i5 at a;unfold tK;split at a
  .rename_i hk;rw[dq hk];have hk:k= .cell:=by simpa using hk
   rw[<-fR h {cls:= .type "cell",data:= .cell none}]at a;rcases tE a with a|⟨f,d,g⟩
   .rcases eM.mp a with e|a
    .cases e;exact .inr ⟨hk▸fk,dI _,_,yF r _ _ _ (dw _ rfl),rfl⟩
    .exact .inl a
   .rw[fR]at d;exact .inr ⟨eP _ f,tO d,g⟩
  .rename_i hk;rw[di hk];rcases tE a with a|⟨f,d,g⟩
   .exact .inl a
   .exact .inr ⟨eP _ f,d,g⟩
theorem wR: ∀{names:uu} {n:Nat} {a:j9} {p:gw×eB},p∈a->p∈i5 n names a
 | [],_,_,_,h=>h
 |(m,k)::r,n,a,p,h=>by
  unfold i5;split
  .exact wR (eP _ h)
  .exact wR h
theorem AI: ∀{names:uu} {n:Nat} {a:j9} {x:gw},(x,.cell)∈names-> ∃c,(x,c)∈i5 n names a
 |(m,k)::r,n,a,x,h=>by
  unfold i5;rcases eM.mp h with e|h
  .cases e;exact⟨n,wR fk⟩
  .split
   .exact AI h
   .exact AI h
theorem AH: ∀{names:uu} {h:iZ} {d:j9} {x y:gw} {c:eB},(∀p∈d,p.2<h.objs.size)->(∀x y c,(x,c)∈d->(y,c)∈d->x=y)->
  (x,c)∈i5 h.objs.size names d->(y,c)∈i5 h.objs.size names d->x=y
 | [],_,_,_,_,_,_,j,g,f=>j _ _ _ g f
 |(n,k)::r,h,d,x,y,c,i,j,g,f=>by
  unfold i5 at g f;split at g
  .rename_i hk;rw[dq hk]at f;rw[<-fR h {cls:= .type "cell",data:= .cell none}]at g f;refine AH (λp l=> ?_) (λx y c a b=> ?_) g f
   .rw[fR];rcases eM.mp l with rfl|l
    .exact qr _
    .exact gn (i p l)
   .rcases eM.mp a with e|a<;>rcases eM.mp b with m|b
    .cases e;cases m;rfl
    .cases (e);exact absurd (i _ b) (jY _)
    .cases (m);exact absurd (i _ a) (jY _)
    .exact j _ _ _ a b
  .rename_i hk;rw[di hk]at f;exact AH i j g f
def J8{M:abH}{A:i6}{E:gY}{s:dJ}{b:vq}{e:eB}{a:j9}{g:gw}{func:pM}{code:eA}{f:Ls}{d:eB}{Q:Ls->dJ->Prop}
  (h:Q (newEnv b s.heap.objs.size e (i5 (s.heap.objs.size+1) b.names a) g func code (some f) d)
   {s with heap:=tK (s.heap.push {cls:= .type "dict",data:= .dict #[]}) b.names}):
  dR M A (agh b e a [] g func code (some f) d) Q E s:=by
 simp only[agh,oj,jv];refine c9 (ahC ?_);refine c9 (wpAny_layCells _ (λn k c=>rfl) b.names a _ _ ?_);rw[show({s with heap:=s.heap.push {cls:= .type "dict",data:= .dict #[]}}:dJ).heap.objs.size=s.heap.objs.size+1 from fR ..];exact c9 (de (de h))
theorem vR{b:vq}: ∀{names:uu} {x:gw} {k:AS},
  (names.map λ(n,k)=>if(k==UZ&&b.kind== .function&&b.names.lookup n==some .cell)then(n,ahJ)else(n,k)).lookup x=some k->
  ∃a,names.lookup x=some a/\(k=a\/(a= .free/\k= .cell))
 | [],_,_,h=>by simp at h
 |(n,c)::r,x,k,h=>by
  have ih:= @vR b r x k
  grind
structure wq(N:iW)(sc scope:vq)(own:List (gw×Nat)):Prop where
 kind:scope.kind= .function
 uniq: ∀y∈scope.names,scope.names.lookup y.1=some y.2
 ix: ∀p∈own,N[p.2]?=some p.1
 free: ∀y∈scope.names,y.2= .free->sc.names.lookup y.1=some .cell\/sc.names.lookup y.1=some .free
 own: ∀y∈scope.names,y.2= .local\/y.2= .cell->y.1∈own.map (·.1)\/y.1∉N
def wipe(a:St):List Nat->St
 | []=>a
 |v::b=>(wipe a b).set v none
def n6(b:St): ∀a:List Nat,(wipe b a).length= ~~~b:=by
 intro a;induction a with
 |nil=>rfl
 |cons v a ih=>unfold wipe;rw[EU,ih]
theorem zS{b:St}{i:Nat}{x:V}: ∀{a:dE},(wipe b a)[i]?=some (some x)->b[i]?=some (some x)/\i∉a
 | [],h=>⟨h,by simp⟩
 |v::a,h=>by
  unfold wipe at h;by_cases hi:v=i
  .subst hi;by_cases hv:v<(wipe b a).length
   .simp_all
   .simp_all
  .rw[fF hi]at h;let⟨c,d⟩:=zS h;exact⟨c,by rw[eM,not_or];exact⟨λe=>hi e.symm,d⟩⟩
abbrev Cx.aw(X:Cx)(s:dJ)(H:Hp)(a:vq)(b:Ls)(c:iY):Cx:={X with aS:=s,bE:=H,env:=b,outer:=X.stack,ex:=c,fn:=λx=>a.names.lookup x==some .cell,pn:=[],xe:=λ_ _=>False}
section
def KZ{scope:vq}{own:List (gw×Nat)}{U:iY}(I:Inv X pz σ H s)(ok:wq X.N X.env.scope scope own)(hN:X.N.Nodup)(h: ∀b∈U,B4 X pz H b/\b<s.heap.objs.size):
  Inv (X.aw s H scope (ig scope (i5 (s.heap.objs.size+1) scope.names (j8 X.env.cells scope.names [])) s.heap.objs.size X.env) U) [] (wipe σ (own.map (·.2))) H {s with heap:=tK (s.heap.push {cls:= .type "dict",data:= .dict #[]}) scope.names}:=by
 have F: ∀y∈scope.names,y.2= .free-> ∃c,X.env.cells.lookup y.1=some c:=λy t e=>by
  rcases ok.free y t e with k|k
  .exact I.ok.has _ (.inl k)
  .exact I.ok.has _ (.inr k)
 generalize hcenv:ig scope (i5 (s.heap.objs.size+1) scope.names (j8 X.env.cells scope.names [])) s.heap.objs.size X.env=cenv;have S: ∀b o,s.heap.get? b=some o->(tK (s.heap.push {cls:= .type "dict",data:= .dict #[]}) scope.names).get? b=some o:=λb o e=>yF _ _ _ _ (dc _ e);have R:cenv.locals=s.heap.objs.size:=by rw[<-hcenv];rfl
 have f:cenv.cells=i5 (s.heap.objs.size+1) scope.names (j8 X.env.cells scope.names []):=by rw[<-hcenv];rfl
 have C:cenv.scope=ae7 scope X.env.scope:=by rw[<-hcenv];rfl
 rw[<-fR s.heap {cls:= .type "dict",data:= .dict #[]}]at f;have O: ∀{y c},(y,c)∈j8 X.env.cells scope.names []->X.env.cells.lookup y=some c/\c<s.heap.objs.size:=λ{y c} j=>by
  rcases rZ j with j|⟨d,rfl⟩
  .cases j
  .obtain⟨c,hc⟩:=F _ d rfl;rw[hc];let⟨(w),z⟩:=I.cell _ _ hc;exact⟨rfl,z.lt⟩
 have mem: ∀{y c},cenv.cells.lookup y=some c->(X.env.cells.lookup y=some c/\c<s.heap.objs.size)\/(s.heap.objs.size+1<=c/\UL (tK (s.heap.push {cls:= .type "dict",data:= .dict #[]}) scope.names) c none):=λ{y c} e=>by
  rw[f]at e;rcases tE (fS e)with j|⟨_,B,h3⟩
  .exact .inl (O j)
  .simp_all
 have look: ∀{y},scope.names.lookup y=some .free-> ∃c,cenv.cells.lookup y=some c/\X.env.cells.lookup y=some c:=λ{y} Q=>by
  have t:=fS Q;obtain⟨P,g⟩:=mem_lookup (wR (wc t));rw[<-f]at g;refine⟨P,g,?_⟩;rw[f]at g;rcases tE (fS g)with j|⟨d,_,_⟩
  .exact(O j).1
  .have:=ok.uniq _ d;rw[Q]at this;cases this
 have Y:(X.aw s H scope cenv U).Ok:=by
  refine⟨I.ok.mod,by show cenv.scope.kind=_;rw[C];exact ok.kind,by show cenv.globals=_;rw[<-hcenv];exact I.ok.glob,by show cenv.builtins=_;rw[<-hcenv];exact I.ok.blt,by show s.heap.objs.size<=cenv.locals;rw[R];exact dI _,
   λy z c v A=> ?_,λy t=> ?_,λy c z e=> ?_,I.ok.hd,I.ok.frames,.inl rfl,λb x=>⟨?_,λy c e z=> ?_⟩,I.bs,eC I.ok.bZ I.sz,λb o e x=> ?_,λb x z=> ?_,I.stack,I.aZ⟩
  .have v:=v;have A:=A;rw[f]at v A;refine AH (λp G=> ?_) (λy z c a b=>I.ok.inj y z c (O a).1 (O b).1) (fS v) (fS A);rw[fR];exact gn (O G).2
  .show∃c,cenv.cells.lookup y=some c;have key: ∀k,cenv.kindOf y=some k->(k= .cell\/k= .free)-> ∃c,cenv.cells.lookup y=some c:=λk hk E=>by
    unfold Env.kindOf at hk;rw[C]at hk;let⟨(u),e,r⟩:=vR hk;have:u= .cell\/u= .free:=by
     rcases r with rfl|⟨rfl,_⟩
     .exact E
     .exact .inr rfl
    rcases this with rfl|rfl
    .obtain⟨c,j⟩:=AI (fS e);let⟨(P),g⟩:=mem_lookup j;exact⟨P,by rw[f];exact g⟩
    .obtain⟨c,d,_⟩:=look e;exact⟨c,d⟩
   rcases t with t|t
   .exact key _ t (.inl rfl)
   .exact key _ t (.inr rfl)
  .have z:=z;have z:scope.names.lookup y=some .cell:=by simpa using z
   have e:=e;rw[f]at e;rcases tE (fS e)with j|⟨_,B,_⟩
   .rcases rZ j with j|⟨d,_⟩
    .cases j
    .have q:=ok.uniq _ d;rw[z]at q;cases q
   .rw[fR]at B;exact tO B
  .show b≠cenv.locals;rw[R];exact eG (h b x).2
  .have e:=e;rcases mem e with⟨d,_⟩|⟨d,_⟩
   .exact(h b x).1.2.2.2.2.1 y c d z
   .have B:s.heap.objs.size+1<=b:=by rw[<-z];exact d
    exact absurd (fC (h b x).2 (tO B)) (jY _)
  .rcases(h b x).1.2.2.2.1 with z|z
   .exact I.ok.bJ b o e z
   .exact absurd (fC (dD e) (eC I.ok.bZ z)) (jY _)
  .rcases eM.mp (I.aT b z)with z|z
   .exact(h b x).1.2.1 z
   .exact(h b x).1.2.2.1 z
 refine⟨Y,rfl,I.bare,Un.kept S,⟨λ_=>none,?_,λi y av v A l=> ?_⟩,λy c e=> ?_,?_,λy c e=> ?_,λp G=> ?_,I.ab.kept S,by rw[n6];exact I.len⟩
 .show Heap.Ns _ cenv.locals _;rw[R];exact Heap.Ns.keeps (Heap.Ns.new ..) λb o e=>yF _ _ _ _ e
 .obtain⟨A,T⟩:=zS A;have n:scope.names.lookup y=some .free/\(cenv.kindOf y=some .cell\/cenv.kindOf y=some .free):=by
   have key: ∀k,cenv.scope.names.lookup y=some k->k= .local\/k= .cell\/k= .free->scope.names.lookup y=some .free/\(cenv.kindOf y=some .cell\/cenv.kindOf y=some .free):=λk hk E=>by
    have J:=hk;rw[C]at hk;let⟨(u),e,r⟩:=vR hk;have no: ¬(u= .local\/u= .cell):=λhh=>by
     rcases ok.own _ (fS e) hh with g|g
     .obtain⟨p,G,Z⟩:=dk.mp g;have l:=ok.ix p G;have:p.1=y:=Z;rw[this]at l;exact T (dk.mpr ⟨p,G,DO hN l v⟩)
     .exact g (eS v)
    rcases r with rfl|⟨rfl,rfl⟩
    .rcases E with rfl|rfl|rfl
     .exact absurd (.inl rfl) no
     .exact absurd (.inr rfl) no
     .exact⟨e,.inr J⟩
    .exact⟨e,.inl J⟩
   have l:=l;rcases l with l|l|l
   .exact key _ l (.inl rfl)
   .exact key _ l (.inr (.inl rfl))
   .exact key _ l (.inr (.inr rfl))
  let⟨(m),hn,Q⟩:=I.loc;have M:Ys X.env.scope y:=(ok.free _ (fS n.1) rfl).elim (λk=> .inr (.inl k)) (λk=> .inr (.inr k));let⟨(w),r,q⟩:=Q i y av v A M;refine⟨w,r,.inr ⟨n.2,?_⟩⟩;let⟨(c),d,B⟩:=look n.1;rcases q with⟨k,_⟩|⟨_,P,g,z⟩
  .have k:X.env.scope.names.lookup y=some .local:=k;rcases ok.free _ (fS n.1) rfl with u|u<;>rw[show X.env.scope.names.lookup y=_ from u]at k<;>cases k
  .rw[B]at g;cases g;exact⟨c,d,z.keeps S⟩
 .have e:=e;rcases mem e with⟨d,_⟩|⟨_,z⟩
  .obtain⟨w,z⟩:=I.cell y c d;exact⟨w,z.keeps S⟩
  .exact⟨_,z⟩
 .show H cenv.locals=none;rw[R];exact I.ab.fresh (dI _)
 .have e:=e;rcases mem e with⟨d,_⟩|⟨d,_⟩
  .exact I.ao y c d
  .exact I.ab.fresh (tO d)
 .exact absurd (show p∈([]:List (eB×xG))++ []from G) (by simp)
def aaK{E:gY}{D:eB}{d:List V}{y:V}{v:eA}{Q:gY}(I:Inv X pz σ H s)(g:H D=some (.lst d))(hz: ~~~d<eQ)(r:RelV y v)
  (h: ∀s',Inv X pz σ (upd H D (.lst (d++ [y]))) s'->Q .none s'):dR (dZ X.prog X.w) X.A (call (.builtin "list.append") [.ref D,v]) Q E s:=by
 obtain⟨k,c,n,f,e⟩:=I.ab D _ g;have l:= ~~~f;refine append_at (hsz:=by rw[eJ];lia) e λh' i a=> ?_;refine h {s with heap:=h'} (I.write (t':=s.toks) (by rw[g];trivial) (.inl rfl) (λb u j q=>(i.2 b j).trans q) ⟨_,a⟩ ⟨by rw[ib];exact hz,c++ [v],n+1,f.append (.cons r .nil),?_⟩)
 simp_all
def PTs(X:Cx)(a:mW)(t:TT):Prop:=
 ∀(pz:i4) (s:dJ) (b:St) (H:Hp) (Q:Bool->Hp->Prop),Inv X pz b H s->t b H Q->
  dR (dZ X.prog X.w) X.A (forIn a true λc r=>if r=true then do let ok<-isTrue c X.env (fX c X.env);pure (nI ok)else pure (nI r)) (TP X pz b Q) X.xe s
def aeP:TT:=λ_ H Q=>Q true H
def VT:PTs X [] aeP:=λ_ _ _ H _ I h=>wpAny_tests_nil ⟨H,I,h⟩
def VS(h:PT X c t):PTs X [c] t:=λpz s b H Q I a=>wpAny_tests_one (h pz s b H Q I a)
end
def OY{α:Type}{t:Sem α}{Q b:α->dJ->Prop}{M:abH}{A:i6}{E:gY}{s:dJ}(h:dR M A t Q (λ_ _=>False) s)(c: ∀a s,Q a s->b a s):dR M A t b E s:=iK h c λ_ _ z=>eZ z
def Ig(I:Nat->dJ->Prop)
  (p: ∀n s,I n s->dR (dZ prog w) A (mX it) (λr d=>match r with
   |none=>R (.ok .next) d
   |some v=>dR (dZ prog w) A (Lb target it v) (λ_ a=>dR (dZ prog w) A (yr target env v) (λ_ k=>
     dR (dZ prog w) A (forIn ifs true λc r=>if r=true then do let ok<-isTrue c env (fX c env);pure (nI ok)else pure (nI r)) (λok b=>
      if ok=true then dR (dZ prog w) A (fX elt env) (λx j=>
       dR (dZ prog w) A (call (.builtin "list.append") [acc,x]) (λ_ i=> ∃m,m<n/\I m i) (Lk (dZ prog w) A env λe s'=>R (.error e) s') j) (Lk (dZ prog w) A env λe s'=>R (.error e) s') b
      else∃m,m<n/\I m b) (Lk (dZ prog w) A env λe s'=>R (.error e) s') k) (Lk (dZ prog w) A env λe s'=>R (.error e) s') a) (Lk (dZ prog w) A env λe s'=>R (.error e) s') d) (Lk (dZ prog w) A env λe s'=>R (.error e) s') s)
  (n:Nat)(h:I n s):
  ou (dZ prog w) A (.compLoop (.ListComp elt [⟨target,iter,ifs,0⟩] scope pos) 0 it acc env) R s:=by
 refine codeAny_loop rfl I (λn s u=> ?_) n h;show dR _ A ((compTurn (.ListComp elt [⟨target,iter,ifs,0⟩] scope pos) 0 it acc env).onRaise (λx=>do noteFrame x env;theTreesLotGoes x)) _ _ s;refine wpAny_noted ?_;rw[compTurn_list];refine c9 (Cw (c9 (iK (p n s u) (λr d f=> ?_) λ_ _ h'=>h')));cases r with
 |none=>exact de f
 |some v=>
  refine c9 (iK f (λ_ a l=> ?_) λ_ _ h'=>h');refine c9 (iK l (λ_ k t=>c9 (iK t (λok b g=> ?_) λ_ _ h'=>h')) λ_ _ h'=>h');cases ok with
  |false=>exact de ⟨rfl,g⟩
  |true=>exact c9 (c9 (iK g (λx j q=>c9 (iK q (λ_ i o=>de (de ⟨rfl,o⟩)) λ_ _ h'=>h')) λ_ _ h'=>h'))
section
def tLc(o:TI)(g:TG)(tt:TT)(te:TE)(h:dE):TE:=λe H Q=>o e H λJ j=> ∀D,j D=none-> ∃W:Nat->Nat->Hp->Prop,(∃m,W 0 m (upd j D (.lst [])))/\ ∀i m H,W i m H->
 (J.stop i H/\Q (.ref D) H)\/(J.go i H/\ ∃f:Hp->Prop,(∀d,f d-> ∃m',m'<m/\W (i+1) m' d)/\ ∀x d,J.bY i H x d->g x (wipe e h) d λc n=>wipe c h=wipe e h/\tt c n λb l=>
  if b=true then te c l λy k=> ∃a,k D=some (.lst a)/\ ~~~a<eQ/\f (upd k D (.lst (a++ [y])))else f l)
def NN{pz:i4}{s:dJ}{E:St}{H:Hp}{Q:VK}{M tg iter:jG}{G:mW}{scope:vq}{own:List (gw×Nat)}{pos x0:Pos}{wi:TI}{g:TG}{tt:TT}{te:TE}{use:Option (eA->Sem Unit)}{Qf:gY}
  (hc:X.calm=true)(hN:X.N.Nodup)(I:Inv X pz E H s)(hi:PI X tg iter wi)(ok:wq X.N X.env.scope scope own)
  (hg: ∀(s:dJ) (H:Hp) (C:eB) (cl:j9) (a:iY),PG (X.aw s H scope (ig scope cl C X.env) a) tg g)(ht: ∀(s:dJ) (H:Hp) (C:eB) (cl:j9) (a:iY),PTs (X.aw s H scope (ig scope cl C X.env) a) G tt)
  (he: ∀(s:dJ) (H:Hp) (C:eB) (cl:j9) (a:iY),PE (X.aw s H scope (ig scope cl C X.env) a) M te)(hs: ∀x,iO iter X.env x=pure x)
  (h:tLc wi g tt te (own.map (·.2)) E H Q)
  (z2: ∀D C l m f,Inv X pz E f l->Q (.ref D) f->l.heap.Ns C m->B4 X pz f C->agn (dZ X.prog X.w) X.A X.xe use Qf (.ref D) C (.ok .next) l):
  dR (dZ X.prog X.w) X.A (agW (.ListComp M [⟨tg,iter,G,0⟩] scope pos) scope X.env x0 (ahr []) false (fX iter X.env) use) Qf X.xe s:=by
 have Y: ∀y∈scope.names,y.2= .free-> ∃c,X.env.cells.lookup y.1=some c:=λy hy e=>by
  rcases ok.free y hy e with k|k
  .exact I.ok.has _ (.inl k)
  .exact I.ok.has _ (.inr k)
 refine wpAny_comprehension_free (use:=use) rfl hs (MR Y) ok.kind (λy hy e=>by rw[ok.uniq y hy,e])
  (jo (hi pz s E H _ I h) λxv s1 t=>jo t λu1 Z h2=> ?_)
 let⟨it a tn J P,e,I2,T,y2,f2,q⟩:=h2;subst e;refine gq (J8 ?_) (by show 0<=eQ;decide);generalize hD:Z.heap.objs.size=D;have z6:P D=none:=I2.ab.fresh (wA hD);obtain⟨W,⟨m0,w0⟩,x3⟩:=q D z6;generalize hs3:({Z with heap:=Z.heap.push {cls:= .type "list",data:= .seq ([]:List eA).toArray}}:dJ)=s3;have I3:Inv X pz E (upd P D (.lst [])) s3:=by rw[<-hs3];refine I2.laid (t':=Z.toks) (λb o e=>dc _ e) (wA hD) ⟨kW _,[],0,.nil,?_⟩;rw[<-hD];exact dw _ rfl
 have h3:s3.heap=Z.heap.push {cls:= .type "list",data:= .seq ([]:List eA).toArray}:=by rw[<-hs3]
 have sz: ∀b∈a,b<Z.heap.objs.size:=λb d=>by let⟨(o),e,_⟩:=T.obj _ _ y2 b d;exact dD e
 have U: ∀b∈a,B4 X pz (upd P D (.lst [])) b/\b<s3.heap.objs.size:=λb d=>by have x4:=sz b d;refine⟨⟨?_,(f2 b d).2⟩,by rw[h3,fR];exact gn x4⟩;rw[d9 (by rw[<-hD];exact eG x4)];exact(f2 b d).1
 have z5:tn 0 s3.heap:=T.keep _ _ _ y2 λb _ o e=>by rw[h3];exact dc _ e
 have I4:=KZ I3 ok hN U;have pg:=hg s3 (upd P D (.lst [])) s3.heap.objs.size (i5 (s3.heap.objs.size+1) scope.names (j8 X.env.cells scope.names [])) a;have pt:=ht s3 (upd P D (.lst [])) s3.heap.objs.size (i5 (s3.heap.objs.size+1) scope.names (j8 X.env.cells scope.names [])) a;have pe:=he s3 (upd P D (.lst [])) s3.heap.objs.size (i5 (s3.heap.objs.size+1) scope.names (j8 X.env.cells scope.names [])) a;show ou _ _ (.compStart (.ListComp M [⟨tg,iter,G,0⟩] scope pos) 0 (.ref it) (.ref D) (ig scope (i5 (s3.heap.objs.size+1) scope.names (j8 X.env.cells scope.names [])) s3.heap.objs.size X.env)) (agn (dZ X.prog X.w) X.A X.xe use Qf (.ref D) s3.heap.objs.size) {s3 with heap:=tK (s3.heap.push {cls:= .type "dict",data:= .dict #[]}) scope.names};have y0: ∀b∈a,(upd P D (.lst [])) b=none:=λb d=>(U b d).1.1;generalize hce:ig scope (i5 (s3.heap.objs.size+1) scope.names (j8 X.env.cells scope.names [])) s3.heap.objs.size X.env=ce at I4 pg pt pe⊢;have cL:ce.locals=s3.heap.objs.size:=by subst hce;rfl
 generalize hH3:upd P D (.lst [])=H3 at I3 I4 pg pt pe w0 y0 U;generalize hs4:({s3 with heap:=tK (s3.heap.push {cls:= .type "dict",data:= .dict #[]}) scope.names}:dJ)=s4 at I4⊢;have x7:tn 0 s4.heap:=T.keep _ _ _ z5 λb _ o e=>by rw[<-hs4];exact yF _ _ _ _ (dc _ e)
 have B: ∀{x6:St} {f:Hp} {l:dJ},Inv (X.aw s3 H3 scope ce a) [] x6 f l->(∀b∈a,f b=none)-> ∀b∈a,B4 (X.aw s3 H3 scope ce a) [] f b:=λ{x6 f l} I' hn b d=>
  ⟨hn b d,(I'.ok.cN b d).1,I'.ok.bO b d,.inl d,λx c e=>(I'.ok.cN b d).2 x c e,λp hp=>absurd (show p∈([]:List (eB×xG))++ []from hp) (by simp)⟩
 have loop:ou (dZ X.prog X.w) X.A (.compLoop (.ListComp M [⟨tg,iter,G,0⟩] scope pos) 0 (.ref it) (.ref D) ce) (agn (dZ X.prog X.w) X.A X.xe use Qf (.ref D) s3.heap.objs.size) s4:=by
  refine Ig (λn l=> ∃i f,Inv (X.aw s3 H3 scope ce a) [] (wipe E (own.map (·.2))) f l/\tn i l.heap/\(∀b∈a,f b=none)/\W i n f) ?_ m0 ⟨0,H3,I4,x7,y0,w0⟩;rintro n s5 ⟨i,S,I5,y1,n5,w5⟩;rcases x3 i n S w5 with⟨stop,qq⟩|⟨go,Nx,z3,step⟩
  .have td:=T.done (X.aw s3 H3 scope ce a) rfl rfl rfl hc i [] s5 _ S (λ_ _=>False) I5 (B I5 n5) y1 stop;refine OY td λr s6 t=> ?_;let⟨hr,I6⟩:=t;subst hr;have I7:Inv X pz E S s6:=I3.call' (ch:=a) I6.os I6.base I6.ab I6.bare λb d=>⟨(U b d).1.2.2.2.1,(U b d).1.2.1,(U b d).1.2.2.2.2.1,(U b d).1.2.2.2.2.2⟩;have nC:S s3.heap.objs.size=none:=by have z:S ce.locals=none:=I6.free;rw[cL]at z;exact z
   let⟨(m),hn,_⟩:=I6.loc;have hn:s6.heap.Ns ce.locals m:=hn;rw[cL]at hn;exact z2 D s3.heap.objs.size s6 m S I7 qq hn (I3.aV (dI _) nC)
  .have ti:=T.item (X.aw s3 H3 scope ce a) rfl rfl rfl hc i [] s5 _ S (λ_ _=>False) I5 (B I5 n5) y1 go;refine OY ti λr s6 t=> ?_;let⟨(u),hr,h6⟩:=t;subst hr;refine OY h6 λ_ s7 t=> ?_;let⟨x H7,I7,r7,y7,R,n7⟩:=t;have z0:=I7.pinned (B I7 n7) (T.obj _ _ R);refine OY (pg _ s7 _ H7 x u _ z0 r7 (step x H7 y7)) λ_ s8 t=> ?_;let⟨F H8,I8,x5,q8⟩:=t;refine OY (pt _ s8 F H8 _ I8 q8) λb s9 t=> ?_;let⟨(H9),I9,q9⟩:=t;have fin: ∀{l:dJ} {f:Hp},Inv (X.aw s3 H3 scope ce a) ([]++Dm a s7.heap) F f l->Nx f-> ∃m,m<n/\ ∃i f,Inv (X.aw s3 H3 scope ce a) [] (wipe E (own.map (·.2))) f l/\tn i l.heap/\(∀b∈a,f b=none)/\W i m f:=λ{l f} I' nx=>by
    let⟨(m'),hm,w'⟩:=z3 f nx;have O: ∀b∈a,∀o,s7.heap.get? b=some o->l.heap.get? b=some o/\f b=none:=λb d o e=>
     let z:=I'.pin (b,o) (i7 _ (i7 _ (xX d e)))
     ⟨z.1,z.2.1⟩
    have hl:(wipe E (own.map (·.2))).length= ~~~F:=by rw[<-x5,n6]
    refine⟨m',hm,i+1,f,(I'.az (pz:=[])).weak hl (λj v e=> ?_),T.keep _ _ _ R λb d o e=>(O b d o e).1,λb d=> ?_,w'⟩
    .rw[<-x5]at e;exact(zS e).1
    .obtain⟨o,e,_⟩:=T.obj _ _ R b d;exact(O b d o e).2
   cases b with
   |false=>ac_rfl;exact fin I9 q9
   |true=>ac_rfl;refine OY (pe _ s9 F H9 _ I9 q9) λz u0 t=> ?_;obtain⟨yv,u6,y5,z7,u2,x2,x1,nx⟩:=t;exact aaK (X:=X.aw s3 H3 scope ce a) y5 x2 x1 z7 λu3 z1=>fin z1 nx
 exact codeAny_compStart_list loop (T.self X.A 0 _ _ _ x7 loop)
def X3(A:X.calm=true)(l:X.N.Nodup)(y:PI X tg iter wi)(ok:wq X.N X.env.scope scope own)
  (w: ∀(s:dJ) (H:Hp) (C:eB) (cl:j9) (fp:iY),PG (X.aw s H scope (ig scope cl C X.env) fp) tg g)(r: ∀(s:dJ) (H:Hp) (C:eB) (cl:j9) (fp:iY),PTs (X.aw s H scope (ig scope cl C X.env) fp) ifs tt)
  (he: ∀(s:dJ) (H:Hp) (C:eB) (cl:j9) (fp:iY),PE (X.aw s H scope (ig scope cl C X.env) fp) elt te)(n: ∀x,iO iter X.env x=pure x:=by intro _;rfl):
  PE X (.ListComp elt [⟨tg,iter,ifs,0⟩] scope pos) (tLc wi g tt te (own.map (·.2))):=by
 intro pz s B H Q I h;rw[eval_ListComp];refine NN A l I y ok w r he n h λD C p m d c q k f=>⟨m,k,λa i=> ?_⟩;let⟨t,f1,f2,z,u,j⟩:=f;exact⟨.ref D,d,c.turned (t':=p.toks) (λb o v e=>(i.2 b v).trans e) t f1 z u j,rfl,q⟩
def Di(Z:X.calm=true)(p:X.N.Nodup)(hy:X.N[i]?=some y)(c:X.env.scope.names.lookup y=some .local)
  (d:jr (.ListComp elt [⟨tg,iter,ifs,0⟩] scope pos) (some (.Name y py)) spos.line X.env=pure true)(S:PI X tg iter wi)(ok:wq X.N X.env.scope scope own)
  (Q: ∀(s:dJ) (H:Hp) (C:eB) (cl:j9) (fp:iY),PG (X.aw s H scope (ig scope cl C X.env) fp) tg g)(M: ∀(s:dJ) (H:Hp) (C:eB) (cl:j9) (fp:iY),PTs (X.aw s H scope (ig scope cl C X.env) fp) ifs tt)
  (he: ∀(s:dJ) (H:Hp) (C:eB) (cl:j9) (fp:iY),PE (X.aw s H scope (ig scope cl C X.env) fp) elt te)(J: ∀x,iO iter X.env x=pure x:=by intro _;rfl):
  PS X (.Assign [.Name y py] (.ListComp elt [⟨tg,iter,ifs,0⟩] scope pos) spos) (Y4 (tLc wi g tt te (own.map (·.2))) (Kz i)):=by
 intro pz s n H D I h;rw[exec_Assign_Name_used _ _ _ _ d];refine c9 (Cw (c9 ?_));show dR _ X.A (do let _<-agW (.ListComp elt [⟨tg,iter,ifs,0⟩] scope pos) scope X.env (firstIterPos [⟨tg,iter,ifs,0⟩] pos) (ahr []) false (fX iter X.env) (some (yr (.Name y py) X.env))) _ _ s;have h:tLc wi g tt te (own.map (·.2)) n H (λx t=>Kz i x n t D.nx):=h;refine c9 (jo (NN (Qf:=λ_ k=>SP X pz D .next k) Z p I S ok Q M he J h λL C k m B u q G f=> ?_) λ_ k w=>de (de w));show dR _ _ (yr (.Name y py) X.env (.ref L)) _ _ _;refine abu (FU (v:=V.ref L) u p hy (.inl c) rfl (λT U R=> ?_) (.inr c));let⟨(a),E,ha⟩:=R;let⟨O,f1,f2,Y,r,F⟩:=f;have l:C≠a:=by
  rcases ha with z|z
  .rw[z];exact f1
  .exact λe=>r y a z e.symm
 refine⟨m,G.sameBut E l,λh3 j=> ?_⟩;exact⟨_,B,U.turned (t':=T.toks) (λb o P e=>(j.2 b P).trans e) O f1 Y r F,q⟩
def wF(hk:env.scope.kind= .function)(c:env.scope.names.lookup y=some .local)(d:(py.line==pos.line)=true)
  (e:(scope.names.any λ(n,k)=>n==y&&(k== .local||k== .cell))=false):jr (.ListComp elt gs scope pos) (some (.Name y py)) l env=pure true:=by
 have b:env.kindOf y=some .local:=c;have a:env.blockKind= .function:=by unfold Env.blockKind;rw[hk];rfl
 unfold jr;simp only[a,b,e,Expr.pos,d];rfl
end
noncomputable def aaF(N:iW)(b a:vq)(own:List (gw×Nat)):Bool:=
 (match a.kind with| .function=>true|_=>false)&&(a.names.all λy=>decide (a.names.lookup y.1=some y.2))&&(own.all λp=>decide (N[p.2]?=some p.1))&&
  (a.names.all λy=>match y.2 with
   | .free=>(match b.names.lookup y.1 with|some .cell=>true|some .free=>true|_=>false)
   | .local=>decide (y.1∈own.map (·.1))||decide (y.1∉N)
   | .cell=>decide (y.1∈own.map (·.1))||decide (y.1∉N)
   |_=>true)
def Us(h:aaF N sc scope own=true):wq N sc scope own:=by
 unfold aaF at h;simp only[fZ,hC,jL]at h;obtain⟨⟨⟨b,d⟩,f⟩,c⟩:=h;refine⟨?_,d,f,λy a e=> ?_,λy a e=> ?_⟩
 .split at b
  .assumption
  .cases b
 .have q:=c y a;simp only[e]at q;split at q<;>first|exact .inl (by assumption)|exact .inr (by assumption)|cases q
 .have q:=c y a;rcases e with e|e<;>(simp only[e,XN,jL]at q;exact q)
theorem yM{b:St}{i:Nat}: ∀{a:dE},i∉a->(wipe b a)[i]?=b[i]?
 | [],_=>rfl
 |v::a,h=>by have c:v≠i:=λe=>h (by rw[e];exact fk);have d:i∉a:=λm=>h (eP _ m);unfold wipe;rw[fF c];exact yM d
section
variable {κ:Type} [DecidableEq κ]
def BD(a:List (κ×V))(k:κ):Option V:=(a.find? λb=>decide (b.1=k)).map (·.2)
noncomputable def rp(a:List (κ×V))(k:κ)(v:V):List (κ×V):=
 if(a.any λb=>decide (b.1=k))=true then a.map (λb=>if b.1=k then(b.1,v)else b)else a++ [(k,v)]
theorem vx{p:κ×V}{r:List (κ×V)}{k:κ}(e:p.1=k):BD (p::r) k=some p.2:=by simp[BD,gW,e]
theorem vy{p:κ×V}{r:List (κ×V)}{k:κ}(e: ¬p.1=k):BD (p::r) k=BD r k:=by simp[BD,gW,e]
theorem Rf(k:κ): ∀a:List (κ×V),(a.any λb=>decide (b.1=k))=(BD a k).isSome:=by
 intro r;induction r with
 |nil=>rfl
 |cons p r ih=>
  rw[iS];by_cases e:p.1=k
  .rw[vx e,mI e,Bool.true_or,oj]
  .rw[vy e,fj e,Bool.false_or];exact ih
theorem vT(a:List (κ×V))(k:κ)(v:V):(rp a k v).length<= ~~~a+1:=by
 unfold rp;split
 .rw[dA];lia
 .rw[ib,dB,ip];lia
theorem yj.ak(r:yj o u):o.isSome=u.isSome:=by
 cases o with
 |none=>cases u with
  |none=>rfl
  |some _=>exact(show False from r).elim
 |some _=>cases u with
  |none=>exact(show False from r).elim
  |some _=>rfl
theorem yj.getD(r:yj o u)(a:RelV d d'):RelV (o.getD d) (u.getD d'):=by
 cases o with
 |none=>cases u with
  |none=>exact a
  |some _=>exact(show False from r).elim
 |some _=>cases u with
  |none=>exact(show False from r).elim
  |some _=>exact r
theorem KV.val(r:KV kvs vs)(k:κ):yj (BD kvs k) (o8 vs k):=by
 unfold KV at r;induction r with
 |nil=>exact oz
 | @cons p q ps a h t ih=>
  let⟨d,f⟩:=h;by_cases e:p.1=k
  .have c:q.1=k:=d.symm.trans e;have b:o8 (q::a) k=some q.2:=by simp[o8,gW,c]
   rw[vx e,b];exact f
  .have c: ¬q.1=k:=λz=>e (d.trans z);have b:o8 (q::a) k=o8 a k:=by simp[o8,gW,c]
   rw[vy e,b];exact ih
theorem KV.any{a:List (κ×V)}{c:List (κ×eA)}(r:KV a c)(k:κ):(a.any λb=>decide (b.1=k))=c.any λb=>decide (b.1=k):=by
 induction r with
 |nil=>rfl
 |cons h t ih=>rw[iS,iS,ih,h.1]
theorem KV.bX(r:KV kvs vs)(k:κ)(c:RelV y u):
  KV (kvs.map λa=>if a.1=k then(a.1,y)else a) (vs.map λa=>if a.1=k then(a.1,u)else a):=by
 unfold KV at r⊢;induction r with
 |nil=>exact .nil
 | @cons p q ps b h t ih=>
  rw[dt,dt];refine .cons ?_ ih
  grind
theorem KV.put(r:KV kvs vs)(k:κ)(a:RelV y u):KV (rp kvs k y) (agc vs k u):=by
 unfold rp agc;rw[r.any k];by_cases e:(vs.any λb=>decide (b.1=k))=true
 .rw[dq e,dq e];exact r.bX k a
 .rw[di e,di e];exact abb r ⟨rfl,a⟩
theorem KV.length{a:List (κ×V)}{b:List (κ×eA)}(r:KV a b): ~~~a= ~~~b:=jS r
end
def zg(r:RelV (kV k) u):(jB P w).is k u=true:=by
 cases k with
 |inl i=>let⟨(t),e⟩:=(show∃t,u=xD i t from r);subst e;exact Ka P w i t
 |inr x=>let⟨(t),e⟩:=(show∃t,u=IR x t from r);subst e;exact J9 P w x t
abbrev KT(H:Hp):List (List NK×V)->List (List NK×eB×eA)->Prop:=yu λp q=>p.1=q.1/\TupAt H q.2.1 p.1/\RelV p.2 q.2.2
def KT.val(r:KT H kvs xs)(k:List NK):yj (BD kvs k) ((M9 xs k).map (·.2)):=by
 induction r with
 |nil=>exact oz
 | @cons p q ps a h t ih=>
  let⟨d,_,f⟩:=h;by_cases e:p.1=k
  .have c:q.1=k:=d.symm.trans e;have b:M9 (q::a) k=some q.2:=by simp[M9,gW,c]
   rw[vx e,b];exact f
  .have c: ¬q.1=k:=λz=>e (d.trans z);have b:M9 (q::a) k=M9 a k:=by simp[M9,gW,c]
   rw[vy e,b];exact ih
def KT.bX(r:KT H kvs xs)(k:List NK)(d:RelV y u):
  KT H (kvs.map λb=>if b.1=k then(b.1,y)else b) (xs.map (putAt k u)):=by
 induction r with
 |nil=>exact .nil
 | @cons p q ps g h t ih=>
  rw[dt,dt];refine .cons ?_ ih;let⟨a,c,f⟩:=h;unfold putAt;by_cases e:p.1=k
  .rw[dq e,dq (a.symm.trans e)];exact⟨a,c,d⟩
  .rw[di e,di (λz=>e (a.trans z))];exact⟨a,c,f⟩
def KT.put(r:KT H kvs xs)(k:List NK)(c:TupAt H b k)(a:RelV y u):
  KT H (rp kvs k y) (storedH xs k b u):=by
 have e:(kvs.any λd=>decide (d.1=k))=(M9 xs k).isSome:=by rw[Rf,(r.val k).ak,zN]
 unfold rp storedH;rw[e];by_cases q:(M9 xs k).isSome=true
 .rw[dq q,dq q];exact r.bX k a
 .rw[di q,di q];exact abb r ⟨rfl,c,a⟩
def KT.keeps(r:KT H kvs xs)(a: ∀b ys,H b=some (.tup ys)->H' b=some (.tup ys)):KT H' kvs xs:=
 Paired.bU r λ_ _ z=>⟨z.1,z.2.1.keeps a,z.2.2⟩
section
def XZ(ok:ve P w H h)(e:Rd H a u):jM P w H h a u:=e.ok ok
def xx(ok:ve P w H h)(e:Rd H a (.dK kvs)): ~~~kvs<=eQ/\(a==ir)=false/\ ∃b,KV kvs b/\h.DictOf (jB P w) a b:=
 show jM P w H h a (.dK kvs)from XZ ok e
def Ye(ok:ve P w H h)(e:H a=some (.dK kvs)): ~~~kvs<=eQ/\(a==ir)=false/\ ∃b,KV kvs b/\h.DictOf (jB P w) a b:=xx ok (.inl e)
def my{P:fY}{w:iu}{A:i6}(a:A.units+16<jc):(oM P w).room A.in1:=by
 show A.in1.units+8<jc
 grind
mutual
theorem vM(ok:ve P w H h): ∀{k:NK} {v:V} {u:eA},M4 H k v->RelV v u->yk h k u
 | .int i,v,u,a,r=>by have a':v= .int i:=a;subst a';exact r
 | .tup l,v,u,a,r=>by let⟨b us,rfl,h1,h2⟩:=a;cases r;obtain⟨_,its,r2,o,g1,g2,n,g3,_⟩:=(show jM P w H h b (.tup us)from ok b _ h1);exact⟨b,o,its.toArray,n,rfl,g1,g2,g3,by simpa using wJ ok h2 r2⟩
theorem wJ(ok:ve P w H h): ∀{k:List NK} {v:List V} {u:fM},EG H k v->gF v u->qD h k u
 | [],v,u,a,r=>by have a':v=[]:=a;subst a';cases r;rfl
 |k::ks,v,u,a,r=>by
  let⟨x xs,rfl,h1,h2⟩:=a;cases r with
  |cons r1 r2=>exact⟨_,_,rfl,vM ok h1 r1,wJ ok h2 r2⟩
end
def vU(ok:ve P w H h)(e:TupAt H a ks):(oM P w).is h ks a:=⟨e.1,vM ok e.2 rfl⟩
def xw(ok:ve P w H h)(e:Rd H a (.dT kvs)): ~~~kvs<=eQ/\(a==ir)=false/\
  ∃c,KT H kvs c/\h.DictOfH (oM P w) a c:=by
 obtain⟨z,y,c,r,o,s,g,f,i,k,n,j⟩:=(show jM P w H h a (.dT kvs)from XZ ok e);refine⟨z,y,c,r,o,s,g,f,i,k,n,λx b=> ?_,j⟩;have all: ∀{l:List (List NK×V)} {m:List (List NK×eB×eA)},KT H l m-> ∀x∈m,(oM P w).is h x.1 x.2.1:=by
  intro l m q;induction q with
  |nil=>intro x b;exact nomatch b
  | @cons p q ps u d t ih=>
   intro x b;rcases eM.mp b with e|b
   .subst e;exact vU ok (by rw[<-d.1];exact d.2.1)
   .exact ih x b
 exact all r x b
def Yd(ok:ve P w H h)(e:H a=some (.dT kvs)): ~~~kvs<=eQ/\(a==ir)=false/\
  ∃b,KT H kvs b/\h.DictOfH (oM P w) a b:=xw ok (.inl e)
end
def B5(H:Hp)(a:eB)(y:V)(r:Option V):Prop:=
 (∃c k,Rd H a (.dK c)/\y=kV k/\r=BD c k)\/ ∃c k b,Rd H a (.dT c)/\y= .ref b/\TupAt H b k/\r=BD c k
def Fu(H:Hp)(a:eB)(y v:V)(d:Hp):Prop:=
 (∃c k,H a=some (.dK c)/\y=kV k/\ ~~~c<eQ/\d=upd H a (.dK (rp c k v)))\/
 ∃c k b,H a=some (.dT c)/\y= .ref b/\TupAt H b k/\ ~~~c<eQ/\d=upd H a (.dT (rp c k v))
def Fu.k{H:Hp}{a:eB}{b:List (Key×V)}{k:Key}{v:V}(e:H a=some (.dK b))(c: ~~~b<eQ):Fu H a (kV k) v (upd H a (.dK (rp b k v))):= .inl ⟨b,k,e,rfl,c,rfl⟩
def Fu.t{H:Hp}{a b:eB}{c:List (List NK×V)}{k:List NK}{v:V}(e:H a=some (.dT c))(d:TupAt H b k)(f: ~~~c<eQ):
  Fu H a (.ref b) v (upd H a (.dT (rp c k v))):= .inr ⟨c,k,b,e,rfl,d,f,rfl⟩
section
def Inv.cz(I:Inv X pz σ H s):ir<s.heap.objs.size:=by have h:eU<s.heap.objs.size:=(I.mod.glob.keeps I.bk).lt;exact Cb (by decide) h
def Qo(t:A.units+16<jc)(I:Inv X pz σ H s)(g:B5 H a y (some v))(q:RelV y u)(h: ∀d s',Inv X pz σ H s'->RelV v d->Q d s'):
  dR (dZ X.prog X.w) A (yo (.ref a) u) Q E s:=by
 rcases g with⟨i,k,e,j,l⟩|⟨i,k,b,e,j,B,l⟩
 .subst j;obtain⟨z,hd,x,rel,m⟩:=xx I.ab e;let⟨(d),n,c⟩:=yj.some_of (v:=v) (o:=o8 x k) (by rw[l];exact rel.val k);exact adC (zg q) m.mapOf n (h d _ (I.tok _) c)
 .subst j;cases (show u=eD b from q)
  obtain⟨z,hd,C,rel,m⟩:=xw I.ab e;let⟨(d),n,c⟩:=yj.some_of (v:=v) (o:=(M9 C k).map (·.2)) (by rw[l];exact rel.val k);let⟨(p),r,f⟩:=IX.mp n;refine wpAny_getItem_heap (my t) (vU I.ab B) m r ?_;rw[f];exact h d _ (I.tok _) c
def afz(j:A.units+16<jc)(I:Inv X pz σ H s)(g:B5 H a y o)(i:RelV y u)(h: ∀s',Inv X pz σ H s'->Q (.bool o.isSome) s'):
  dR (dZ X.prog X.w) A (gH .In u (.ref a)) Q E s:=by
 rcases g with⟨c,k,e,d,l⟩|⟨c,k,b,e,d,m,l⟩
 .subst d;obtain⟨z,hd,n,rel,f⟩:=xx I.ab e;refine wpAny_in_of (zg i) hd f.mapOf ?_;rw[<-(rel.val k).ak,<-l];exact h _ (I.tok _)
 .subst d;cases (show u=eD b from i)
  obtain⟨z,hd,p,rel,f⟩:=xw I.ab e;refine wpAny_in_heap (my j) (vU I.ab m) hd f ?_;have q:=(rel.val k).ak;rw[zN]at q;rw[<-q,<-l];exact h _ (I.tok _)
def WZ(j:A.units+16<jc)(I:Inv X pz σ H s)(g:B5 H a y o)(i:RelV y u)(h: ∀s',Inv X pz σ H s'->Q (.bool (!o.isSome)) s'):
  dR (dZ X.prog X.w) A (gH .NotIn u (.ref a)) Q E s:=by
 rcases g with⟨c,k,e,d,l⟩|⟨c,k,b,e,d,m,l⟩
 .subst d;obtain⟨z,hd,n,rel,f⟩:=xx I.ab e;refine wpAny_notIn_of (zg i) hd f.mapOf ?_;rw[<-(rel.val k).ak,<-l];exact h _ (I.tok _)
 .subst d;cases (show u=eD b from i)
  obtain⟨z,hd,p,rel,f⟩:=xw I.ab e;refine wpAny_notIn_heap (my j) (vU I.ab m) hd f ?_;have q:=(rel.val k).ak;rw[zN]at q;rw[<-q,<-l];exact h _ (I.tok _)
def Cr(I:Inv X pz σ H s)(f:UH (H a))(d:ic a s.heap h')(he: ∃q,h'.get? a=some q)(new:jM X.prog X.w (upd H a ob) h' a ob):
  Inv X pz σ (upd H a ob) {s with heap:=h',toks:=t'}:=
 I.write (x:=a) (e:=a) f (.inl rfl) (λb q c z=>(d.2 b c).trans z) he new
def TX(z: ~~~kvs<=eQ)(hd:(a==ir)=false)(rel:KV kvs vs)(b:h'.DictOf (jB P w) a vs):
  jM P w H' h' a (.dK kvs):=⟨z,hd,vs,rel,b⟩
def Qn(G:A.units+16<jc)(I:Inv X pz σ H s)(g:Fu H a y v H')(C:RelV y u)(t:RelV v r)(h: ∀s',Inv X pz σ H' s'->Q () s'):
  dR (dZ X.prog X.w) A (Lj (.ref a) u r) Q E s:=by
 rcases g with⟨d,k,e,n,l,m⟩|⟨d,k,b,e,n,B,l,m⟩
 .subst n m;obtain⟨z,hd,M,rel,p⟩:=Ye I.ab e;have hz: ~~~M<=sizeLine:=by rw[<- ~~~rel];exact z
  have o:(rp d k v).length<=sizeLine:=by have:=vT d k v;lia
  refine wpAny_setItem_pairs (hsz:=hz) (zg C) p λh' f j=>h _ ?_;have he: ∃q,h'.get? a=some q:=let⟨q,_,_,i,_⟩:=f;⟨q,i⟩;exact Cr I (by rw[e];exact oz) j he (TX o hd (rel.put k t) f)
 .subst n m;cases (show u=eD b from C)
  obtain⟨z,hd,R,rel,p⟩:=Yd I.ab e;have hz: ~~~R<=sizeLine:=by rw[<-jS rel];exact z
  have o:(rp d k v).length<=sizeLine:=by have:=vT d k v;lia
  refine wpAny_setItem_heap (hsz:=hz) (my G) (vU I.ab B) p λh' f j=>h _ ?_;let⟨q S F,i,J,O,P,_,N⟩:=f;refine Cr I (by rw[e];exact oz) j ⟨q,i⟩ ⟨o,hd,_,(rel.put k B t).keeps λc T x=> ?_,q,S,F,i,J,O,P,N⟩;rw[d9 (X7 x e (λz=>nomatch z))]
  exact x
end
section
def ade(I:Inv X pz σ H s)(e:Rd H a (.dK kvs))(h: ∀t s',Inv X pz σ H s'->Q (.int (~~~kvs) t) s'):dR (dZ X.prog X.w) A (call (.builtin "len") [.ref a]) Q E s:=by obtain⟨z,hd,c,rel,b⟩:=xx I.ab e;refine call_len_dict hd b (by rw[<- ~~~rel];rw[dO]at z;lia) ?_;rw[<- ~~~rel];exact h _ _ (I.tok _)
end
def UF(i:jG):Prop:= ∀b a,IM i false b a=ahp [b,a] (yo b a)
def Nl{prog:fY}{w:iu}{A:i6}{E:gY}{s:dJ}{env:Ls}{value slice:jG}{pos:Pos}{T id:String}{Q:gY}
  (k:EJ (.type T) "__getitem__" =pure (some (.builtin id)))(j:UF slice)
  (h:dR (dZ prog w) A (fX value env) (λo d=>dR (dZ prog w) A (fX slice env) (λi a=>a.TypeIs o T/\dR (dZ prog w) A (yo o i) Q E a) E d) E s):
  dR (dZ prog w) A (fX (.Subscript value slice pos) env) Q E s:=by
 refine aa9 (iK h (λo d e=>iK e (λi a b=> ?_) λ_ _ x=>x) λ_ _ x=>x);let⟨g,b⟩:=b;unfold agU;refine c9 ?_;rw[getitemInPython_of_ne g.not_modules];refine c9 (yC g k ?_);have fin:dR (dZ prog w) A (IM slice false o i) (λr c=>dR (dZ prog w) A (letTemporaryGo value o r>>=λ_=>pure r) Q E c) E a:=by rw[j o i];exact wpAny_operating (iK b (λr c f=>c9 (wpAny_letTemporaryGo (de f))) λ_ _ x=>x)
 first
  |exact de (c9 fin)
  |exact c9 (de (c9 fin))
  |exact c9 fin
def KL(I:Inv X pz σ H s)(g:B5 H a y o):s.TypeIs (.ref a) "dict" :=by
 rcases g with⟨d,k,e,_,_⟩|⟨d,k,b,e,_,_,_⟩
 .obtain⟨_,_,h,_,c⟩:=xx I.ab e;exact c.typeIs
 .obtain⟨_,_,f,_,c⟩:=xw I.ab e;exact c.typeIs
def XX(d ty:TE):TE:=λc H Q=>d c H λx e=>ty c e λy b=> ∃a v,x= .ref a/\B5 b a y (some v)/\Q v b
def abZ(ty d:TE):TE:=λc H Q=>ty c H λy e=>d c e λx b=> ∃a o,x= .ref a/\B5 b a y o/\Q (.bl o.isSome) b
def Nj(ty d:TE):TE:=λc H Q=>ty c H λy e=>d c e λx b=> ∃a o,x= .ref a/\B5 b a y o/\Q (.bl (!o.isSome)) b
def ab7(d ty h:TE):TS:=λD b H=>h b H λv e=>d b e λx f=>ty b f λy g=> ∃a c,x= .ref a/\Fu g a y v c/\D.nx b c
section
def V4(k:X.A.units+16<jc)(B:PE X o td)(w:PE X i ty)(n:UF i):PE X (.Subscript o i pos) (XX td ty):=by intro pz s d H Q I h;refine Nl EN.lookup n (jo (B pz s d H _ I h) λu p c=> ?_);let⟨x f,l,m,q⟩:=c;refine jo (w pz p d f _ l q) λG F c=> ?_;obtain⟨y,j,e,t,a,v,ex,g,r⟩:=c;subst ex;obtain rfl:u=eD a:=m;exact⟨KL e g,Qo k e g t λC E z b=>⟨v,j,z,b,r⟩⟩
def Sz(f:X.A.units+16<jc)(r:PE X i ty)(w:PE X o td):PC X .In i o (abZ ty td):=by intro pz s c H Q I h;refine jo (r pz s c H _ I h) λC l b=> ?_;let⟨y d,j,q,m⟩:=b;refine jo (w pz l c d _ j m) λu B b=> ?_;obtain⟨x,e,v,k,a,n,ex,g,p⟩:=b;subst ex;obtain rfl:u=eD a:=k;exact afz f v g q λz t=>⟨.bl n.isSome,e,t,rfl,p⟩
def Gg(f:X.A.units+16<jc)(r:PE X i ty)(w:PE X o td):PC X .NotIn i o (Nj ty td):=by intro pz s c H Q I h;refine jo (r pz s c H _ I h) λC l b=> ?_;let⟨y d,j,q,m⟩:=b;refine jo (w pz l c d _ j m) λu B b=> ?_;obtain⟨x,e,v,k,a,n,ex,g,p⟩:=b;subst ex;obtain rfl:u=eD a:=k;exact WZ f v g q λz t=>⟨.bl (!n.isSome),e,t,rfl,p⟩
def Nu(j:X.A.units+16<jc)(M:PE X o td)(C:PE X i ty)(J:PE X value tv)(n:jr value (some (.Subscript o i pos')) pos.line X.env=pure false):
  PS X (.Assign [.Subscript o i pos'] value pos) (ab7 td ty tv):=by
 intro pz s c H D I h;refine wpAny_Assign_Subscript (jo (J pz s c H _ I h) λr p b=> ?_) n;let⟨v d,k,l,q⟩:=b;refine jo (M pz p c d _ k q) λu F b=> ?_;let⟨x e,G,m,w⟩:=b;refine jo (C pz F c e _ G w) λP N b=> ?_;obtain⟨y,Q,E,z,a,B,ex,g,f⟩:=b;subst ex;obtain rfl:u=eD a:=m;exact Qn j E g z l λO t=>⟨c,B,t,f⟩
end
def KJ(h:iZ)(a:ir<h.objs.size):jM P w H (h.push {cls:= .type "dict",data:= .dict #[]}) h.objs.size (.dK []):=
 ⟨kW _,mz.mpr (gk (eG a)),[],.nil,Lr h⟩
def KH(h:iZ)(a:ir<h.objs.size):jM P w H (h.push {cls:= .type "dict",data:= .dict #[]}) h.objs.size (.dT []):=
 ⟨kW _,mz.mpr (gk (eG a)),[],.nil,_,#[],0,dw _ rfl,⟨rfl,rfl,rfl⟩,rfl,rfl,List.nodup_nil⟩
def Y0:TE:=λ_ H Q=> ∀p,H p=none->Q (.ref p) (upd H p (.dK []))
def YZ:TE:=λ_ H Q=> ∀p,H p=none->Q (.ref p) (upd H p (.dT []))
section
def JO:PE X (.Dict [] [] pos) Y0:=λpz s b H Q I h=>
 adF ⟨.ref s.heap.objs.size,_,I.laid (a:=s.heap.objs.size) (o:= .dK []) (t':=s.toks) (λ_ _ q=>dc _ q) (dI _) (KJ s.heap I.cz),rfl,h _ (I.ab.fresh (dI _))⟩
def Sd:PE X (.Dict [] [] pos) YZ:=λpz s b H Q I h=>
 adF ⟨.ref s.heap.objs.size,_,I.laid (a:=s.heap.objs.size) (o:= .dT []) (t':=s.toks) (λ_ _ q=>dc _ q) (dI _) (KH s.heap I.cz),rfl,h _ (I.ab.fresh (dI _))⟩
end
def LI:List (TE×TE)->St->Hp->(List (V×V)->Hp->Prop)->Prop
 | [],_,H,Q=>Q [] H
 |(tk,e)::r,a,H,Q=>tk a H λx b=>e a b λy c=>LI r a c λps d=>Q ((x,y)::ps) d
abbrev VV:List (V×V)->List (eA×eA)->Prop:=yu λp q=>RelV p.1 q.1/\RelV p.2 q.2
def PPs(X:Cx)(pos:Pos)(keys:List (Option jG))(values:mW)(a:List (TE×TE)):Prop:=
 ∀(pz:i4) (s:dJ) (b:St) (H:Hp) (Q:List (V×V)->Hp->Prop),Inv X pz b H s->LI a b H Q->
  dR (dZ X.prog X.w) X.A (evalPairs (pairTrees keys values X.env pos)) (λd e=> ∃ps c,Inv X pz b c e/\VV ps d/\Q ps c) X.xe s
def Nw:PPs X pos [] [] []:=λpz s a H Q I h=>aa2 ⟨[],H,I,.nil,h⟩
def Dj(hk:PE X k tk)(r:PE X v tv)(o:PPs X pos ks vs trs):
  PPs X pos (some k::ks) (v::vs) ((tk,tv)::trs):=λpz s a H Q I h=>
 Yy (jo (hk pz s a H _ I h) λu i ⟨x,c,f,g,j⟩=>jo (r pz i a c _ f j) λw p b=>by let⟨y d,q,m,l⟩:=b;exact jo (o pz p a d _ q l) λz A b=>by let⟨ps t,n,rel,e⟩:=b;exact⟨(x,y)::ps,t,n,.cons ⟨g,m⟩ rel,e⟩)
def qU(b more:List (Key×V)):List (Key×V):=more.foldl (λa c=>rp a c.1 c.2) b
def KV.merge: ∀{more:List (Key×V)} {c:List (Key×eA)} {a:List (Key×V)} {b:List (Key×eA)},KV more c->KV a b->KV (qU a more) (agj b c):=by
 intro more c a b r;unfold KV at r;induction r generalizing a b with
 |nil=>intro q;exact q
 | @cons p q ps f h t ih=>
  intro d;have e:KV (rp a p.1 p.2) (agc b q.1 q.2):=by have:=d.put p.1 h.2;rw[<-h.1];exact this
  exact ih e
def xp: ∀(more a:List (Key×V)),(qU a more).length<= ~~~a+ ~~~more:=by
 intro r;induction r with
 |nil=>intro a;show ~~~a<= ~~~a+0;lia
 |cons p r ih=>intro a;have b:=ih (rp a p.1 p.2);have c:=vT a p.1 p.2;show(qU (rp a p.1 p.2) r).length<=_;rw[dB];lia
theorem Eu: ∀{d:List (Key×V)} {f:List (eA×eA)},VV (d.map λg=>(kV g.1,g.2)) f-> ∃e,Carries (jB P w) f e/\KV d e
 | [],_,r=>by rw[jw]at r;cases r;exact⟨[],oz,.nil⟩
 |p::d,_,r=>by
  rw[dt]at r;cases r with
  | @cons a b as k h t=>let⟨(e),c,q⟩:=Eu (P:=P) (w:=w) t;obtain⟨j,i⟩:=b;exact⟨(p.1,i)::e,⟨zg h.1,rfl,c⟩,.cons ⟨rfl,h.2⟩ q⟩
def abY(b:List (TE×TE)):TE:=λe H Q=> ∀p,H p=none->LI b e (upd H p (.dK [])) λps c=>c p=some (.dK [])/\ ∃a:List (Key×V),ps=a.map (λd=>(kV d.1,d.2))/\ ~~~a<=15/\Q (.ref p) (upd c p (.dK (qU [] a)))
def NC(h:PPs X pos keys values trs)(f:keys.all (·.isSome)=true)(v: ~~~keys= ~~~values)(B:keys≠ [])
  (g: ~~~keys<=15):PE X (.Dict keys values pos) (abY trs):=by
 intro pz s n H Q I q;have r:=I.ab.fresh (dI s.heap.objs.size);have p:=I.laid (a:=s.heap.objs.size) (o:= .dK []) (h':=s.heap.push {cls:= .type "dict",data:= .dict #[]}) (t':=s.toks) (λ_ _ q=>dc _ q) (dI _) (KJ s.heap I.cz);refine wpAny_Dict_walk (knd:=jB X.prog X.w) f v B g (jo (h pz _ n _ _ p (q _ r)) λF G y=> ?_);obtain⟨ps,E,i,rel,e,d,m,lk,u⟩:=y;subst m;let⟨(x),c,rk⟩:=Eu (P:=X.prog) (w:=X.w) rel;obtain⟨z,hd,j,A,C⟩:=Ye i.ab e;cases A;refine⟨x,c,C,λh' b t=>⟨.ref s.heap.objs.size,_,?_,rfl,u⟩⟩;have hz:(qU [] d).length<=sizeLine:=by have k:=xp d [];rw[ip]at k;rw[dO];lia
 have he: ∃q,h'.get? s.heap.objs.size=some q:=let⟨q,_,_,l,_⟩:=b;⟨q,l⟩;exact Cr i (by rw[e];exact oz) t he (TX hz hd (rk.merge .nil) b)
structure M1(X:Cx)(o:jG)(m:gw)(apos:Pos)(e:jG)(cpos:Pos):Prop where
 base:hZ o m X.env (fX o X.env)=fX o X.env
 cO:((gy cpos (dj [e] X.env)).all (λx=> !x.1)&&(xb cpos (pX [] X.env)).all (λx=>x.1.isSome)
  &&decide (([e]:List jG).length+([]:List pk).length+(if([]:List pk).isEmpty then 0 else 1)<30))=true
 line:(apos.endLine==cpos.line)=true
 trees:gy cpos (dj [e] X.env)=[(false,fX e X.env)]
structure M2(X:Cx)(o:jG)(m:gw)(apos:Pos)(e f:jG)(cpos:Pos):Prop where
 base:hZ o m X.env (fX o X.env)=fX o X.env
 cO:((gy cpos (dj [e,f] X.env)).all (λx=> !x.1)&&(xb cpos (pX [] X.env)).all (λx=>x.1.isSome)
  &&decide (([e,f]:List jG).length+([]:List pk).length+(if([]:List pk).isEmpty then 0 else 1)<30))=true
 line:(apos.endLine==cpos.line)=true
 trees:gy cpos (dj [e,f] X.env)=[(false,fX e X.env),(false,fX f X.env)]
def IsD(H:Hp)(a:eB):Prop:=(∃b,Rd H a (.dK b))\/ ∃b,Rd H a (.dT b)
def S5(I:Inv X pz σ H s)(d:IsD H a):
  s.TypeIs (.ref a) "dict" /\(∀b,eD a= .ref b-> ∃c,s.heap.get? b=some c/\c.dict=none)/\(a==ir)=false:=by
 rcases d with⟨i,e⟩|⟨i,e⟩
 .obtain⟨_,hd,k,_,f⟩:=xx I.ab e;refine⟨f.typeIs,λb q=> ?_,hd⟩;cases q;let⟨c _ _,g,h,_⟩:=f;exact⟨c,g,h.2.1⟩
 .obtain⟨_,hd,j,_,f⟩:=xw I.ab e;refine⟨f.typeIs,λb q=> ?_,hd⟩;cases q;let⟨c _ _,g,h,_⟩:=f;exact⟨c,g,h.2.1⟩
section
def aao(j:A.units+16<jc)(I:Inv X pz σ H s)(g:B5 H a y o)(i:RelV y u)(h: ∀w' s',Inv X pz σ H s'->RelV (o.getD .non) w'->Q w' s'):
  dR (dZ X.prog X.w) A (call (.builtin "dict.get") [.ref a,u]) Q E s:=by
 rcases g with⟨f,k,e,d,l⟩|⟨f,k,b,e,d,n,l⟩
 .subst d;obtain⟨z,hd,p,rel,c⟩:=xx I.ab e;refine Fy kU c.typeIs oT (GX _ _) (meets_dict_get (jB X.prog X.w) a (zg i) hd) ⟨_,c.mapOf,h _ _ (I.tok _) ?_⟩;rw[l];exact(rel.val k).getD rfl
 .subst d;cases (show u=eD b from i)
  obtain⟨z,hd,m,rel,c⟩:=xw I.ab e;refine Fy kU c.typeIs oT (GX _ _) (meetsH_dict_get (oM X.prog X.w) a b hd) ⟨my j,k,m,vU I.ab n,c,h _ _ (I.tok _) ?_⟩;rw[l];exact(rel.val k).getD rfl
def aan(n:A.units+16<jc)(I:Inv X pz σ H s)(g:B5 H a y o)(j:RelV y u)(m:RelV d r)(h: ∀w' s',Inv X pz σ H s'->RelV (o.getD d) w'->Q w' s'):
  dR (dZ X.prog X.w) A (call (.builtin "dict.get") [.ref a,u,r]) Q E s:=by
 rcases g with⟨f,k,e,i,l⟩|⟨f,k,b,e,i,p,l⟩
 .subst i;obtain⟨z,hd,t,rel,c⟩:=xx I.ab e;refine Fy kU c.typeIs oT (GW _ _ _) (meets_dict_get_default (jB X.prog X.w) a (zg j) hd r) ⟨_,c.mapOf,h _ _ (I.tok _) ?_⟩;rw[l];exact(rel.val k).getD m
 .subst i;cases (show u=eD b from j)
  obtain⟨z,hd,q,rel,c⟩:=xw I.ab e;refine Fy kU c.typeIs oT (GW _ _ _) (meetsH_dict_get_default (oM X.prog X.w) a b hd r) ⟨my n,k,q,vU I.ab p,c,h _ _ (I.tok _) ?_⟩;rw[l];exact(rel.val k).getD m
end
def Y2(e ty:TE):TE:=λd H Q=>e d H λx b=> ∃a,x= .ref a/\IsD b a/\ty d b λy c=> ∃o,B5 c a y o/\Q (o.getD .non) c
def Y1(e ty g:TE):TE:=λb H Q=>e b H λx c=> ∃a,x= .ref a/\IsD c a/\ty b c λy f=>g b f λz d=> ∃o,B5 d a y o/\Q (o.getD z) d
section
def Sf(l:X.A.units+16<jc)(B:PE X o td)(he:PE X e ty)(m:M1 X o "get" apos e cpos):PE X (.Call (.Attribute o "get" apos) [e] [] cpos) (Y2 td ty):=by intro pz s f H Q I h;refine vn m.base m.cO m.line GV kU IW (jo (B pz s f H _ I h) λu q c=> ?_);obtain⟨x,j,i,n,a,ex,d,r⟩:=c;subst ex;obtain rfl:u=eD a:=n;let⟨p,C,_⟩:=S5 i d;refine⟨p,C,?_⟩;rw[m.trees];refine vi rfl (xf (kZ (jo (he pz q f j _ i r) λM J c=> ?_)));obtain⟨y,k,z,v,G,g,t⟩:=c;refine mQ ?_;exact aao l z g v λE F w b=>⟨_,k,w,b,t⟩
def Se(p:X.A.units+16<jc)(N:PE X o td)(he:PE X e ty)(O:PE X f tx)(m:M2 X o "get" apos e f cpos):PE X (.Call (.Attribute o "get" apos) [e,f] [] cpos) (Y1 td ty tx):=by intro pz s c H Q I h;refine vn m.base m.cO m.line GV kU IW (jo (N pz s c H _ I h) λu t b=> ?_);obtain⟨x,k,j,q,a,ex,d,v⟩:=b;subst ex;obtain rfl:u=eD a:=q;let⟨r,P,_⟩:=S5 j d;refine⟨r,P,?_⟩;rw[m.trees];refine vi rfl (xf (kZ (jo (he pz t c k _ j v) λZ G b=> ?_)));let⟨y l,J,C,B⟩:=b;refine kZ (jo (O pz G c l _ J B) λY S b=> ?_);obtain⟨z,M,F,E,U,g,n⟩:=b;refine mQ ?_;exact aan p F g C E λR T w i=>⟨_,M,w,i,n⟩
end
def Jl:entryFor table "dict.update.loop" =some Builtin.«dict.update.loop»:=entryFor_of_tree (by kernel_rfl)
theorem yR:plainId "dict.update.loop" =true:=by decide+kernel
section
theorem vH(I:Inv X pz σ H s): ∀{ps:iY} {d:List (Key×V)},yu (λp c=>qJ X.K H p [kV c.1,c.2]) ps d->
  ∃prs:List (Key×eA),KV d prs/\ ~~~prs= ~~~ps/\ ∀(j:Nat) (q:Key×eA),prs[j]?=some q-> ∃(b:eB) (u:eA),ps[j]?=some b/\vv s.heap b #[u,q.2]/\uM q.1 u=true
 |_,_,.nil=>⟨[],.nil,rfl,λj q e=>by simp at e⟩
 |_,_,.cons (a:=p) (b:=c) h t=>by
  let⟨(prs),r,v,g⟩:=vH I t;let⟨(o),k,m,_⟩:=I.tuple h;let⟨u y,i,A,x⟩:=vals2 k;subst i;refine⟨(c.1,y)::prs,.cons ⟨rfl,x⟩ r,by rw[dB,dB,v],λj q e=> ?_⟩;cases j with
  |zero=>have f:(c.1,y)=q:=ft e;subst f;exact⟨p,u,rfl,m,zg (P:=X.prog) (w:=X.w) A⟩
  |succ j=>let⟨b n,l,z,B⟩:=g j q (by simpa using e);exact⟨b,n,by simpa using l,z,B⟩
theorem Nt: ∀{ps:iY} {us:fM},gF (ps.map V.ref) us->us=ps.map eD
 | [],us,r=>by rw[jw]at r;cases r;rfl
 |p::ps,us,r=>by
  rw[dt]at r;cases r with
  |cons h t=>
   cases h
   rw[dt,<-Nt t]
end
theorem Ex:iP "reversed" =some (.type "reversed"):=by decide+kernel
section
def Inv.bP{t':Nat}{ch:iY}(I:Inv X pz σ H s)(k: ∀b o,b∉ch->s.heap.get? b=some o->h'.get? b=some o)(d: ∀b∈ch,B4 X pz H b):Inv X pz σ H {s with heap:=h',toks:=t'}:=by
 have f: ∀b u,H b=some u->b∉ch:=λb u e z=>by
  have q:=(d b z).1
  grind
 refine I.step (g':=s.gens) (d':=s.drawn) (ch:=ch) (λb g=>⟨(d b g).2.2.2.1,(d b g).2.1,(d b g).2.2.2.2.1,(d b g).2.2.2.2.2⟩) (λb o _ _ a e _=>k b o a e) (λb o _ _ a e _=>⟨o.slots,k b o a e⟩)
  (λ_ _ _ _ n=>n) (λb o a e=>⟨o,k b o a e⟩) (λ_ _ e=>e) (λ_ _ _ e=>e) (λb ps e=>⟨#[],by rw[e];simp⟩) (λm i=> ?_) (λb u e=> ?_) I.bare
 .obtain⟨o,j,h,l,r⟩:=i;exact⟨o,j,h,k _ o (λz=>(d _ z).2.1 rfl) l,r⟩
 .refine(I.ab b u e).aI (λc v a q=>k c v ?_ q) (λ_ q=>q) λ_ _ q=>q;rcases a with z|z
  .rw[z];exact f b u e
  .exact f c _ z
def Inv.au{t':Nat}{ch:iY}{T:eB}{i:HO}(I:Inv X pz σ H s)(k: ∀b o,b∉ch->s.heap.get? b=some o->h'.get? b=some o)(f: ∀b∈ch,B4 X pz H b)(j:s.heap.objs.size<=T)
  (new:jM X.prog X.w (upd H T i) h' T i):Inv X pz σ (upd H T i) {s with heap:=h',toks:=t'}:=by
 have h:H T=none:=I.ab.fresh j;have g: ∀b u,H b=some u->b∉ch:=λb u e z=>by have q:=(f b z).1;rw[q]at e;cases e
 refine I.step (g':=s.gens) (d':=s.drawn) (ch:=ch) (λb a=>⟨(f b a).2.2.2.1,(f b a).2.1,(f b a).2.2.2.2.1,(f b a).2.2.2.2.2⟩) (λb o _ _ d e _=>k b o d e) (λb o _ _ d e _=>⟨o.slots,k b o d e⟩)
  (λb o _ e n=> ?_) (λb o d e=>⟨o,k b o d e⟩) (λb t e=> ?_) (λb o u e=> ?_) (λb ps e=>⟨#[],?_⟩) (λm p=> ?_) (λb u e=> ?_) I.bare
 .rw[d9 (eG (fC (dD e) j))];exact n
 .rw[d9 (fz e h)];exact e
 .rw[d9 (fz e h)];exact e
 .rw[d9 (fz e h),e];simp
 .obtain⟨o,x,l,y,r⟩:=p;exact⟨o,x,l,k _ o (λz=>(f _ z).2.1 rfl) y,r⟩
 .by_cases a:b=T
  .subst a;rw[eR]at e;cases e;exact new
  .rw[d9 a]at e;refine(I.ab b u e).aI (λc v d q=>k c v ?_ q) (λc q=>by rw[d9 (fz q h)];exact q) λc t q=>by rw[d9 (fz q h)];exact q
   rcases d with z|z
   .rw[z];exact g b u e
   .exact g c _ z
def Inv.lock(I:Inv X pz σ H s)(h:H d=some u)(a:UH (some u)): ∃od,Inv X pz σ (upd H d (.frz od u)) s:=by
 have x:=I.ab d u h;have ex: ∃od,s.heap.get? d=some od:=by
  cases u with
  |lst f=>obtain⟨_,_,_,_,e⟩:=x;exact⟨_,e⟩
  |dK c=>obtain⟨_,_,_,_,o,_,_,e,_⟩:=x;exact⟨o,e⟩
  |dT c=>obtain⟨_,_,_,_,o,_,_,e,_⟩:=x;exact⟨o,e⟩
  |set S n=>let⟨o _ _ _,e,_⟩:=x;exact⟨o,e⟩
  |ins C i j=>let⟨_,_,_,e,_⟩:=x;exact⟨_,e⟩
  |ext g=>obtain⟨_,⟨_,e⟩,_⟩:=x;exact⟨_,e⟩
  |_=>exact eZ a
 let⟨(od),e⟩:=ex;have new:jM X.prog X.w (upd H d (.frz od u)) s.heap d (.frz od u):=by
  refine⟨e,x.aI (λb v _ q=>q) (λb q=> ?_) λb f q=> ?_⟩
  .rw[d9 (λz=>by rw[z,h]at q;cases q;exact a)];exact q
  .rw[d9 (λz=>by rw[z,h]at q;cases q;exact a)];exact q
 exact⟨od,I.write (x:=d) (e:=d) (t':=s.toks) (h':=s.heap) (by rw[h];exact a) (.inl rfl) (λb v _ q=>q) ⟨od,e⟩ new⟩
def Inv.bz(I:Inv X pz σ H s)(h:H d=some u)(c:UH (some u)): ∀b a,X.bE d≠some (.frz b a):=λb a e=>by have q:=I.base.aU d b a e;rw[h]at q;cases q;exact c
def Inv.unlock(I:Inv X pz σ H s)(h:H d=some (.frz od u))(t: ∀g f,X.bE d≠some (.frz g f)):Inv X pz σ (upd H d u) s:=by
 have a: ∀b o,H b=some o->(∀g f,o≠ .frz g f)->b≠d:=λb o e k z=>by
  grind
 have neN: ∀b,H b=none->b≠d:=λb e z=>by rw[z,h]at e;cases e
 refine⟨I.ok,I.os,I.bare,⟨I.base.keep,I.base.slot,λb o e n j=> ?_,I.base.there,λb i e=> ?_,λb o x e=> ?_,λb ps e=> ?_⟩,I.loc,I.cell,?_,λx c e=> ?_,λp l=> ?_,λb o e=> ?_,I.len⟩
 .rw[d9 (neN b (I.base.free b o e n j))];exact I.base.free b o e n j
 .have q:=I.base.bo b i e;rw[d9 (a b _ q (λ_ _ z=>nomatch z))];exact q
 .have q:=I.base.aU b o x e;rw[d9 (λz=>by rw[z]at e;exact t _ _ e)];exact q
 .obtain⟨m,q⟩:=I.base.bq b ps e;exact⟨m,by rw[d9 (a b _ q (λ_ _ z=>nomatch z))];exact q⟩
 .rw[d9 (neN _ I.free)];exact I.free
 .rw[d9 (neN c (I.ao x c e))];exact I.ao x c e
 .obtain⟨e,n,r⟩:=I.pin p l;exact⟨e,by rw[d9 (neN _ n)];exact n,r⟩
 .by_cases hb:b=d
  .rw[hb,eR]at e;cases e
   rw[hb];let⟨_,x⟩:=I.ab d _ h;exact x.aI (λc v _ q=>q) (λc q=>by rw[d9 (a c _ q (λ_ _ z=>nomatch z))];exact q) λc i q=>by rw[d9 (a c _ q (λ_ _ z=>nomatch z))];exact q
  .rw[d9 hb]at e;exact(I.ab b o e).aI (λc v _ q=>q) (λc q=>by rw[d9 (a c _ q (λ_ _ z=>nomatch z))];exact q) λc i q=>by rw[d9 (a c _ q (λ_ _ z=>nomatch z))];exact q
end
section
def Dn(I:Inv X pz σ H s)(o:xG)
  (T:yi X.prog X.w X.K tg J [s.heap.objs.size] s.heap.objs.size tn)(st:tn 0 (s.heap.push o))(q:R J H):PIE X pz σ tg R (.ref s.heap.objs.size) {s with heap:=s.heap.push o,toks:=tk}:=by
 refine⟨s.heap.objs.size,[s.heap.objs.size],tn,J,H,rfl,I.kept λb c e=>dc _ e,T,st,λb a=> ?_,q⟩;have e:b=s.heap.objs.size:=by simpa using a
 subst e;exact I.aV (dI _) (I.ab.fresh (dI _))
end
def Itc(lo c:Int)(n:Nat):It:=⟨λi _=>i<n,λi H x a=>a=H/\x= .int (lo+(i:Nat)*c),λi _=>n<=i⟩
def Jm{P:fY}{w:iu}{K:dh}{F:jG}(a:eB)(lo c:Int)(n:Nat):yi P w K F (Itc lo c n) [a] a (λi h=>XH h a (lo+(i:Nat)*c) ((n:Int)-(i:Nat)) c) where
 mem:=by simp
 obj:=λi h st b d=>by
  have e:b=a:=by simpa using d
  subst e;exact⟨_,st,λv z=>nomatch z⟩
 keep:=λi h h' st k=>k a (by simp) _ st
 item:=by intro X m y j x i pz s B H E I g st r;subst m y j;let⟨p,f1,f2,u,q,l⟩:=g a (by simp);have W:=abC (prog:=X.prog) (w:=X.w) (I.ok.hd x) a lo c n;refine W.item i s _ _ r st λv h' tk J f kk=> ?_;let⟨(t),rfl⟩:=J;have C:Inv X pz B H {s with heap:=h',toks:=tk}:=I.turned (λb o d e=>kk b o (by simpa using d) e) p f1 u q l;exact⟨_,rfl,GC (s:={s with heap:=h',toks:=tk}) (n:= "range_iterator") f rfl rfl (by decide) ⟨.int (lo+(i:Nat)*c),H,C,⟨t,rfl⟩,⟨rfl,rfl⟩,f,λb d=>(g b d).1⟩⟩
 done:=by intro X m y j x i pz s B H E I g st r;subst m y j;let⟨p,f1,f2,u,q,l⟩:=g a (by simp);exact UP (I.ok.hd x) st (by have:n<=i:=r;lia) λh' G=>⟨rfl,I.turned (t':=s.toks) (λb o d e=>G b o d e) p f1 u q l⟩
 self:=λA i s Q E st h=>UQ st h
def RgC(i j c:Int)(n:Nat):Prop:=c≠0/\c.natAbs<1073741824/\EW i j c=true/\lF i j c=n
def acD(d:TA):TI:=λe H R=>d e H λb a=> ∃(i j c:Int) (n:Nat),b=[.int i,.int j,.int c]/\RgC i j c n/\R (Itc i c n) a
section
def Pf(E:Gl X "range")(C:X.mg "range" =none)(M:PA X [a,b,c] ta)
  (z:dj [a,b,c] X.env=(false,fX a X.env)::dj [b,c] X.env:=by rfl)(hpl:(gy pos (dj [b,c] X.env)).any (·.1)=false:=by rfl):
  PI X tg (.Call (.Name "range" p) [a,b,c] [] pos) (acD ta):=by
 intro pz s m H R I h;refine agt (sA I E C aa8 (gP (jo (M pos pz s m H _ I h) λus f F=> ?_) z hpl));let⟨N v,w,y,A⟩:=F;obtain⟨i,j,k,n,e,⟨c0,c1,c2,B⟩,q⟩:=A;subst e;cases y with
 |cons r d=>
  cases d with
  |cons u d=>
   cases d with
   |cons l d=>
    cases d
    let⟨(t),rfl⟩:=r;let⟨(t'),rfl⟩:=u;let⟨(g),rfl⟩:=l;refine call_range_3 c0 ?_ (.inl (Iz c1));refine aaX (YC ..) c2 ?_;have J:Inv X pz m v {f with heap:=f.heap.push {cls:= .type "range",data:= .fields #[.int i t,.int j t',.int k g]}}:=w.kept (t':=f.toks) λb o e=>dc _ e;refine Dn (tk:=f.toks) J _ (Jm _ i k n) ?_ q;have x:i+((0:Nat):Int)*k=i:=by simp
    have G:(n:Int)-((0:Nat):Int)=lF i j k:=by rw[B];simp
    show XH _ _ (i+((0:Nat):Int)*k) ((n:Int)-((0:Nat):Int)) k;rw[x,G];exact dw _ rfl
end
section
def Ax(hd:(d==ir)=false)(b:s.heap.get? d=some o)(e:o.ExactDict)(a:o.data= .dict es ep)
  (f:Q (.ref s.heap.objs.size) {s with heap:=s.heap.push {cls:= .type "dict_keyiterator",data:= .fields #[.ref d,.int 0 0,.int es.size 0,.int ep 0]}}):
  dR (dZ prog w) A (yn (.ref d)) Q E s:=by
 have c:s.TypeIs (.ref d) "dict" :=⟨o,b,e.1⟩;refine vk c abd (iG abd c F.entry_dict_iter ?_ (F.args_dict_iter_1 _));unfold Builtin.«dict.__iter__»;refine c9 ?_;unfold aeK;refine c9 (qK c ?_);show dR _ _ (pure (eD d)) _ _ s;refine de ?_;show dR _ _ (sN d>>=_) _ _ s;unfold sN;rw[di (by rw[hd];exact dY)];refine c9 (de ?_);refine c9 (lW b a ?_);refine c9 (ng b a ?_);refine c9 (gq (de ⟨_,rfl,"dict_keyiterator",_,⟨_,dw _ rfl,rfl⟩,ji.lookup,?_⟩));simpa [wx]using f
def xm(hit:s.heap.IsKeyIter it d i n ep)(b:s.heap.get? d=some od)(f:od.data= .dict es ep)
  (hsz:es.size=n)(k:es[i]?=some en)(l: ∀h',h'.IsKeyIter it d (i+1) n ep->ic it s.heap h'->Q (some en.key) {s with heap:=h'}):dR (dZ prog w) A (mX (.ref it)) Q E s:=by
 let⟨(o),g,j,hd⟩:=id hit;unfold mX;refine c9 (wu (jq (name:=rK "__next__") hit.typeIs ji
  (iG ji hit.typeIs G4 ?_ (FF _))))
 refine c9 (de ?_);refine c9 ?_;refine c9 ?_
 first|refine c9 (mO hit.typeIs (de ?_))|refine c9 (oZ hit.typeIs (de ?_))
 refine c9 (AN g hd ?_);have c:iR "dict_keyiterator" =false:=by decide
 dsimp only[c,eW,hJ];show dR _ _ (if(eD d==mw)=true then _ else _) _ _ s;rw[di (show¬((eD d==mw)=true)from dY)];refine c9 (de ?_);refine c9 (lW b f ?_);rw[di (by rw[hsz];simp)];refine c9 (de ?_);refine c9 (ng b f ?_);rw[di (by simp)];refine de ?_;let⟨(e),h⟩:=FN.mp k;simp only[show¬((i:Int)<0)from by lia,hJ,tQ,Array.getElem?_eq_getElem e];refine c9 ?_
 first|refine c9 (mO hit.typeIs (de ?_))|refine c9 (oZ hit.typeIs (de ?_))
 refine c9 (Vd hit.typeIs ?_);show dR _ _ (uB (.ref it) 1 (wx ((i:Int)+1))>>=_) _ _ s;refine c9 (uz g hd (by simp) ?_);have a:(s.heap.update it (abG (·.setIfInBounds 1 (wx ((i:Int)+1))))).IsKeyIter it d (i+1) n ep:=
  ⟨_,i8 _ g (Ov (AR hd _)),(Vh ..).trans j,by rw[AR hd];simp[wx]⟩
 refine c9 (iF ?_);refine c9 (Vd (s:={s with heap:=s.heap.update it (abG (·.setIfInBounds 1 (wx ((i:Int)+1))))}) a.typeIs ?_);show dR _ _ (pure es[i].key) _ _ _;rw[h];exact de (de ⟨_,rfl,de (l _ a (mP ..))⟩)
def t9(l:A.handled=none)(hit:s.heap.IsKeyIter it d i n ep)(c:s.heap.get? d=some od)(g:od.data= .dict es ep)
  (hsz:es.size=n)(h:n<=i)(k: ∀h',OB it s.heap h'->Q none {s with heap:=h'}):dR (dZ prog w) A (mX (.ref it)) Q E s:=by
 let⟨(o),j,p,hd⟩:=id hit;unfold mX;refine c9 (wu (jq (name:=rK "__next__") hit.typeIs ji
  (iG ji hit.typeIs G4 ?_ (FF _))))
 refine c9 (de ?_);refine c9 ?_;refine c9 ?_
 first|refine c9 (mO hit.typeIs (de ?_))|refine c9 (oZ hit.typeIs (de ?_))
 refine c9 (AN j hd ?_);have f:iR "dict_keyiterator" =false:=by decide
 dsimp only[f,eW,hJ];show dR _ _ (if(eD d==mw)=true then _ else _) _ _ s;rw[di (show¬((eD d==mw)=true)from dY)];refine c9 (de ?_);refine c9 (lW c g ?_);rw[di (by rw[hsz];simp)];refine c9 (de ?_);refine c9 (ng c g ?_);rw[di (by simp)];refine de ?_;have e:es.size<=i:=by rw[hsz];exact h
 simp only[show¬((i:Int)<0)from by lia,hJ,tQ,o6 e];refine c9 ?_
 first|refine c9 (mO hit.typeIs (de ?_))|refine c9 (oZ hit.typeIs (de ?_))
 show dR _ _ (uB (.ref it) 0 .none>>=_) _ _ s;refine c9 (uz j hd (by simp) ?_);show dR _ _ (UU (.type "StopIteration") []>>=_) _ _ _;refine c9 ?_;simp only[UU,newTuple];refine c9 (gq ?_ (by size_fits));refine c9 (m:=agl _ _) (rD (a:=mw) (by first|rfl|(ac_rfl;rfl)) ?_);refine gq ?_ (by size_fits);rw[Xs];refine c9 (wpAny_handled ?_);rw[show A.in1.handled=none from l];refine c9 (de (wpAny_throw ?_));refine c9 (oq (T:= "StopIteration") (b:=true) ⟨_,dw _ rfl,rfl⟩ AQ ?_);exact de (k _ (((mP ..).extBut.push _).push _))
end
def Mm{d:Type}{c:List (d×V)}{l:List (d×eA)}(h:KV c l): ∀{i:Nat} {k:d} {v:V},c[i]?=some (k,v)-> ∃u,l[i]?=some (k,u)/\RelV v u:=by
 unfold KV at h;induction h with
 |nil=>intro i k v e;simp at e
 | @cons a b g f r t ih=>
  intro i k v e;cases i with
  |zero=>simp only[oV,xc]at e;subst e;refine⟨b.2,?_,r.2⟩;simp only[oV];exact gR some (xF r.1.symm rfl)
  |succ j=>simp only[uZ]at e⊢;exact ih e
def xT{α f:Type}{G:α->f->Prop}{d:List α}{c:List f}(h:yu G d c): ∀{i:Nat} {a:α},d[i]?=some a-> ∃b,c[i]?=some b/\G a b:=by
 induction h with
 |nil=>intro i a e;simp at e
 | @cons a b d c r t ih=>
  intro i g e;cases i with
  |zero=>simp only[oV,xc]at e;subst e;exact⟨b,rfl,r⟩
  |succ j=>simp only[uZ]at e⊢;exact ih e
def Dc(h:uM k u=true):RelV (kV k) u:=by
 rcases kC h with⟨i,t,rfl,rfl⟩|⟨x,t,rfl,rfl⟩
 .exact⟨t,rfl⟩
 .exact⟨t,rfl⟩
section
def Inv.bc{a:List (Key×V)}(I:Inv X pz σ H s)(h:H d=some (.frz o (.dK a))):
  (d==ir)=false/\s.heap.get? d=some o/\o.ExactDict/\ ∃(b:ur) (f:Nat) (c:List (Key×eA)),o.data= .dict b f/\b.size= ~~~a/\KV a c/\s.heap.DictAt (jB X.prog X.w) d c f:=by
 obtain⟨hd,z,l,c,j,n,b,f,g,i,e,r⟩:=I.ab d _ h;rw[hd]at g;cases g;refine⟨l,hd,i,b,f,c,e,?_,j,o,b,hd,i,e,r⟩;have k:=r.2.1.length;have m: ~~~a= ~~~c:=jS j;rw[fB]at k;lia
def Inv.b6{a:List (List NK×V)}(I:Inv X pz σ H s)(h:H d=some (.frz o (.dT a))):
  (d==ir)=false/\s.heap.get? d=some o/\o.ExactDict/\ ∃(c:ur) (f:Nat),o.data= .dict c f/\c.size= ~~~a/\
   ∀(i:Nat) (k:List NK) (v:V),a[i]?=some (k,v)-> ∃(en:pY) (q:eB),c[i]?=some en/\en.key= .ref q/\TupAt H q k:=by
 obtain⟨hd,z,m,j,pr,x,c,f,l,p,g,he,_⟩:=I.ab d _ h;rw[hd]at l;cases l;refine⟨m,hd,p,c,f,g,?_,λi k v e=> ?_⟩
 .have w:c.size= ~~~j:=La he;have u: ~~~a= ~~~j:=jS pr;lia
 .obtain⟨b,n,t,r,_⟩:=xT pr e;have q:=agm he i;rw[n]at q;exact⟨_,b.2.1,q,rfl,r⟩
end
def Itk(d:eB)(o:xG)(a:List (Key×V)):It:=
 ⟨λi H=>H d=some (.frz o (.dK a))/\i< ~~~a,λi H x b=>b=H/\ ∃k v,a[i]?=some (k,v)/\x=kV k,λi H=>H d=some (.frz o (.dK a))/\ ~~~a<=i⟩
def adw(d:eB)(o:xG)(a:List (List NK×V)):It:=
 ⟨λi H=>H d=some (.frz o (.dT a))/\i< ~~~a,λi H x b=>b=H/\ ∃(k:List NK) (v:V) (q:eB),a[i]?=some (k,v)/\x= .ref q/\TupAt H q k,λi H=>H d=some (.frz o (.dT a))/\ ~~~a<=i⟩
def Iti(d:eB)(o:xG)(a:List (Key×V)):It:=
 ⟨λi H=>H d=some (.frz o (.dK a))/\i< ~~~a,λi H x b=> ∃T k v,a[i]?=some (k,v)/\x= .ref T/\H T=none/\b=upd H T (.tup [kV k,v]),λi H=>H d=some (.frz o (.dK a))/\ ~~~a<=i⟩
def rX{o:xG}{c b:ur}{d a:Nat}(h:o.data= .dict c d)(h':o.data= .dict b a):b=c/\a=d:=by rw[h]at h';cases h';exact⟨rfl,rfl⟩
section
variable {K:dh}
def OO{a:List (Key×V)}(g:eB)(r:o.data= .dict es ep):yi P w K tg (Itk d o a) [g] g (λi h=>h.IsKeyIter g d i (~~~a) ep) where
 mem:=by simp
 obj:=λi h st b j=>by
  have e:b=g:=by simpa using j
  subst e;let⟨(oi),e,c,S⟩:=st;exact⟨oi,e,λv z=>by rw[S]at z;cases z⟩
 keep:=λi h h' st k=>st.at λoi e=>k g (by simp) oi e
 item:=by intro X F T x hc i pz s U H E I t st N;subst F T x;let⟨hd,O⟩:=N;let⟨G,f1,f2,R,M,B⟩:=t g (by simp);obtain⟨hs,m,hx,y,J,Y,f,hsz,C,Z⟩:=I.bc hd;let⟨rfl,rfl⟩:=rX r f;obtain⟨⟨k,v⟩,n⟩: ∃p,a[i]?=some p:=⟨a[i],df O⟩;let⟨(u),hu,ru⟩:=Mm C n;have hl: ~~~a= ~~~Y:=jS C;rw[hl]at st;refine wpAny_pyNext_dict_item st Z hu λkey h' l q sb=> ?_;have I1:Inv X pz U H {s with heap:=h'}:=I.turned (t':=s.toks) (λb ob j e=>(sb.2 b j).trans e) G f1 R M B;let⟨(oi),e,c,S⟩:=id q;refine⟨key,rfl,GC (s:={s with heap:=h'}) e c S (by decide) ⟨kV k,H,I1,Dc (show uM k key=true from l),⟨rfl,k,v,n,rfl⟩,?_,λb j=>(t b j).1⟩⟩;show h'.IsKeyIter g d (i+1) (~~~a) _;rw[hl];exact q
 done:=by intro X F T x hc i pz s U H E I t st N;subst F T x;let⟨hd,O⟩:=N;let⟨G,f1,f2,R,M,B⟩:=t g (by simp);obtain⟨hs,m,hx,y,J,Y,f,hsz,C,Z⟩:=I.bc hd;let⟨rfl,rfl⟩:=rX r f;exact t9 (I.ok.hd hc) st m f hsz O λh' eb=>⟨rfl,I.turned (t':=s.toks) (λb ob j e=>eb b ob j e) G f1 R M B⟩
 self:=λA i s Q E st h=>Xo st h
def LD{f:List (List NK×V)}(g:eB)(u:o.data= .dict es ep):yi P w K tg (adw d o f) [g] g (λi h=>h.IsKeyIter g d i (~~~f) ep) where
 mem:=by simp
 obj:=λi h st b l=>by
  have e:b=g:=by simpa using l
  subst e;let⟨(oi),e,c,T⟩:=st;exact⟨oi,e,λv z=>by rw[T]at z;cases z⟩
 keep:=λi h h' st k=>st.at λoi e=>k g (by simp) oi e
 item:=by intro X G Y y hc i pz s Z H E I x st O;subst G Y y;let⟨hd,R⟩:=O;let⟨J,f1,f2,S,N,C⟩:=x g (by simp);obtain⟨hs,j,hx,B,M,a,hsz,m⟩:=I.b6 hd;let⟨rfl,rfl⟩:=rX u a;obtain⟨⟨k,v⟩,r⟩: ∃p,f[i]?=some p:=⟨f[i],df R⟩;let⟨en q,U,n,hq⟩:=m i k v r;refine xm st j a hsz U λh' t sb=> ?_;have I1:Inv X pz Z H {s with heap:=h'}:=I.turned (t':=s.toks) (λb ob l e=>(sb.2 b l).trans e) J f1 S N C;let⟨(oi),e,c,T⟩:=id t;exact⟨en.key,rfl,GC (s:={s with heap:=h'}) e c T (by decide) ⟨.ref q,H,I1,n,⟨rfl,k,v,q,r,rfl,hq⟩,t,λb l=>(x b l).1⟩⟩
 done:=by intro X G Y y hc i pz s Z H E I x st O;subst G Y y;let⟨hd,R⟩:=O;let⟨J,f1,f2,S,N,C⟩:=x g (by simp);obtain⟨hs,j,hx,B,M,a,hsz,m⟩:=I.b6 hd;let⟨rfl,rfl⟩:=rX u a;exact t9 (I.ok.hd hc) st j a hsz R λh' eb=>⟨rfl,I.turned (t':=s.toks) (λb ob l e=>eb b ob l e) J f1 S N C⟩
 self:=λA i s Q E st h=>by refine vk st.typeIs IF (iG IF st.typeIs F.entry_dict_keyiterator_iter ?_ (F.args_dict_keyiterator_iter_1 _));show dR _ _ (ret (.ref g)) _ _ s;exact de ⟨_,rfl,"dict_keyiterator",_,st.typeIs,ji.lookup,h⟩
def LF{a:List (Key×V)}{elts:mW}{kk:Nat}{tpos:Pos}(c:eB)(r:o.data= .dict es ep):
  yi P w K (.Tuple elts kk tpos) (Iti d o a) [c] c (λi h=> ∃ok l,IsItemIter h c d i (~~~a) ep ok l) where
 mem:=by simp
 obj:=λi h st b f=>by
  have e:b=c:=by simpa using f
  subst e;let⟨ok l,e⟩:=st;exact⟨_,e,λv z=>nomatch z⟩
 keep:=λi h h' st k=>let⟨ok,l,e⟩:=st;⟨ok,l,k c (by simp) _ e⟩
 item:=by
  intro X G U B hc i pz s Z H E I y st R;subst G U B;let⟨hd,hi⟩:=R;obtain⟨hs,M,hx,C,J,O,j,hsz,t,S⟩:=I.bc hd;let⟨rfl,rfl⟩:=rX r j;obtain⟨⟨k,v⟩,q⟩: ∃p,a[i]?=some p:=⟨a[i],df hi⟩;let⟨(u),hu,ru⟩:=Mm t q;have x: ~~~a= ~~~O:=jS t;let⟨ok l,he⟩:=st;rw[x]at he;have m:c<s.heap.objs.size:=dD he;refine wpAny_pyNext_items_item he S hu λkey h' n ho hT hz hk=> ?_;refine⟨_,rfl,Li (s:={s with heap:=h'}) ho λg N Y=> ?_⟩;have F:g.get? s.heap.objs.size=some {cls:= .type "tuple",data:= .seq #[key,u]}:=(Y.2 _ (jx m)).trans hT;have new:jM X.prog X.w (upd H s.heap.objs.size (.tup [kV k,v])) g s.heap.objs.size (.tup [kV k,v]):=
   ⟨by show 2<=eQ;decide,[key,u],.cons (Dc (show uM k key=true from n)) (.cons ru .nil),⟨_,F,rfl,_,rfl,rfl⟩⟩
  have I1:Inv X pz Z (upd H s.heap.objs.size (.tup [kV k,v])) {s with heap:=g}:=
   I.au (t':=s.toks) (ch:=[c]) (λb T f e=>(Y.2 b (by simpa using f)).trans (hk b T (by simpa using f) e)) y (dI _) new
  refine⟨.ref s.heap.objs.size,_,I1,rfl,⟨_,k,v,q,rfl,I.ab.fresh (dI _),rfl⟩,⟨key,u,?_⟩,λb f=> ?_⟩
  .rw[x];exact N
  .have e:b=c:=by simpa using f
   rw[e,d9 (eG m)];exact(y c (by simp)).1
 done:=by intro X G U B hc i pz s Z H E I y st R;subst G U B;let⟨hd,hi⟩:=R;let⟨f0,f1,f2,f3,f4,f5⟩:=y c (by simp);obtain⟨hs,M,hx,C,J,O,j,hsz,t,S⟩:=I.bc hd;let⟨rfl,rfl⟩:=rX r j;have x: ~~~a= ~~~O:=jS t;let⟨ok l,he⟩:=st;rw[x]at he;exact wpAny_pyNext_items_end (I.ok.hd hc) he S (lx (by lia)) λh' eb=>⟨rfl,I.turned (t':=s.toks) (λb T f e=>eb b T f e) f0 f1 f3 f4 f5⟩
 self:=λA i s Q E st h=>let⟨_,_,e⟩:=st;QK e h
end
def acH(c:TE):TI:=λe H R=>c e H λx b=> ∃d o,x= .ref d/\((∃a,b d=some (.frz o (.dK a))/\R (Itk d o a) b)\/ ∃a,b d=some (.frz o (.dT a))/\R (adw d o a) b)
section
def VZ(he:PE X e td):PI X tg e (acH td):=by
 intro pz s m H R I h;refine jo (he pz s m H _ I h) λu j c=> ?_;obtain⟨x,r,f,n,d,o,ex,q⟩:=c;subst ex;obtain rfl:u=eD d:=n;rcases q with⟨i,hd,q⟩|⟨i,hd,q⟩
 .obtain⟨g,b,c,p,l,v,a,hsz,t,w⟩:=f.bc hd;refine Ax g b c a (Dn (tk:=j.toks) f _ (OO _ a) ⟨_,dw _ rfl,rfl,?_⟩ q);rw[hsz]<;>rfl
 .obtain⟨g,b,c,p,l,a,hsz,k⟩:=f.b6 hd;refine Ax g b c a (Dn (tk:=j.toks) f _ (LD _ a) ⟨_,dw _ rfl,rfl,?_⟩ q);rw[hsz]<;>rfl
end
def Ite(K:dh)(a:eB):It:=
 ⟨λi H=> ∃(b:List V) (x:V),rB K H a b/\b[i]?=some x,λi H v c=> ∃T x,v= .ref T/\H T=none/\c=upd H T (.tup [.int (i:Nat),x])/\ ∀b,rB K H a b->b[i]?=some x,λi H=> ∃b:List V,rB K H a b/\ ~~~b<=i⟩
def OP{P:fY}{w:iu}{K:dh}{elts:mW}{kk:Nat}{tpos:Pos}(a e d:eB):
  yi P w K (.Tuple elts kk tpos) (Ite K a) [e,d] e (λi h=>(∃old,IsEnum h e d ((i:Nat):Int) old)/\h.IsListIter d a i/\e≠d) where
 mem:=by simp
 obj:=λi h st b f=>by
  obtain⟨⟨old,he⟩,⟨o,G,U,hd⟩,_⟩:=st;have r:b=e\/b=d:=by simpa using f
  rcases r with z|z
  .rw[z];exact⟨_,he,λv q=>nomatch q⟩
  .rw[z];exact⟨o,G,λv q=>by rw[hd]at q;cases q⟩
 keep:=λi h h' st k=>let⟨⟨old,he⟩,hi,c⟩:=st;⟨⟨old,k e (by simp) _ he⟩,hi.at λo q=>k d (by simp) o q,c⟩
 item:=by
  intro X t y J U i pz s Y H E I n st F;subst t y J;obtain⟨⟨old,he⟩,hit,c⟩:=st;let⟨xs x,m,R⟩:=F;let⟨(T),B,p,hz⟩:=I.list m;let⟨(u),Z,ru⟩:=B.get R;have j:e<s.heap.objs.size:=dD he;have S:d<s.heap.objs.size:=by let⟨(_),q,_⟩:=hit;exact dD q
  refine wpAny_pyNext_enum_item he hit p.isList (x:=u) (by simpa using Z) c λh' G l hT hsz hk=> ?_;refine⟨_,rfl,wpAny_letOwnedTupleGo_enum (s:={s with heap:=h',toks:=s.toks+1}) G λg C M=> ?_⟩;have N:g.get? s.heap.objs.size=some {cls:= .type "tuple",data:= .seq #[.int i s.toks,u]}:=(M.2 _ (jx j)).trans hT;have new:jM X.prog X.w (upd H s.heap.objs.size (.tup [.int (i:Nat),x])) g s.heap.objs.size (.tup [.int (i:Nat),x]):=
   ⟨by show 2<=eQ;decide,[.int i s.toks,u],.cons ⟨_,rfl⟩ (.cons ru .nil),⟨_,N,rfl,_,rfl,rfl⟩⟩
  have I1:Inv X pz Y (upd H s.heap.objs.size (.tup [.int (i:Nat),x])) {s with heap:=g,toks:=s.toks+1}:=
   I.au (ch:=[e,d]) (λb ob f q=>(M.2 b (λz=>f (by simp[z]))).trans (hk b ob (λz=>f (by simp[z])) (λz=>f (by simp[z])) q)) n (dI _) new
  refine⟨.ref s.heap.objs.size,_,I1,rfl,⟨_,x,rfl,I.ab.fresh (dI _),rfl,λys hy=>by rw[I.aH hy m];exact R⟩,⟨⟨u,?_⟩,l.at λo q=>(M.2 d (gk c)).trans q,c⟩,λb f=> ?_⟩
  .have e1:((i+1:Nat):Int)=(i:Int)+1:=by lia
   rw[e1];exact C
  .have O:b<s.heap.objs.size:=by
    have r:b=e\/b=d:=by simpa using f
    rcases r with z|z
    .rw[z];exact j
    .rw[z];exact S
   rw[d9 (eG O)];exact(n b f).1
 done:=by intro X t y J U i pz s Y H E I n st F;subst t y J;obtain⟨⟨old,he⟩,hit,c⟩:=st;let⟨(xs),m,R⟩:=F;let⟨(T),B,p,hz⟩:=I.list m;let⟨f0,f1,f2,f3,f4,f5⟩:=n d (by simp);have hl:= ~~~B;exact wpAny_pyNext_enum_end (I.ok.hd U) he hit p.isList (by simp;lia) λh' eb=>⟨rfl,I.turned (t':=s.toks) (λb o f q=>eb b o f q) f0 f1 f3 f4 f5⟩
 self:=λA i s Q E st h=>let⟨⟨_,he⟩,_⟩:=st;abt he h
def acI(K:dh)(e:TA):TI:=λf H R=>e f H λd b=> ∃a c,d=[.ref a]/\rB K b a c/\R (Ite K a) b
def V0{X:Cx}{e:jG}{j:TA}{p pos tpos:Pos}{elts:mW}{kk:Nat}(w:Gl X "enumerate")(v:X.mg "enumerate" =none)(C:PA X [e] j)(n:dj [e] X.env=[(false,fX e X.env)]:=by rfl):
  PI X (.Tuple elts kk tpos) (.Call (.Name "enumerate" p) [e] [] pos) (acI X.K j):=by
 intro pz s i H R I h;refine agt (sA I w v boot_enumerate (gP (jo (C pos pz s i H _ I h) λus c x=> ?_) n rfl));let⟨F g,f,m,o⟩:=x;let⟨a G,ex,l,q⟩:=o;subst ex;cases m with
 |cons r A=>
  cases A
  cases r
  let⟨(t),E,y,hz⟩:=f.list l;refine call_enumerate_list y.isList λh' he hit hsz hk=>abt he ?_;have B:Inv X pz i g {c with heap:=h'}:=f.kept (t':=c.toks) hk;refine⟨c.heap.objs.size+1,[c.heap.objs.size+1,c.heap.objs.size],_,_,g,rfl,B,OP a (c.heap.objs.size+1) c.heap.objs.size,⟨⟨.none,he⟩,hit,Nat.succ_ne_self _⟩,λb u=> ?_,q⟩;have k:b=c.heap.objs.size+1\/b=c.heap.objs.size:=by simpa using u
  have d:c.heap.objs.size<=b:=by
   rcases k with z|z
   .rw[z];exact Nat.le_add_right _ _
   .rw[z];exact dI _
  exact f.aV d (f.ab.fresh d)
theorem Qv:iP "zip" =some (.type "zip"):=by decide+kernel
end L2
section
namespace Bits
open PySem PyProof.Rows
end Bits
end
section
namespace TL
open PySem PySem.Builtin PySem.Builtin.Str PySem.StrLaws
def NU{L:dE}{a:Nat}(h:a< ~~~L): ∃c,L.drop a=c::L.drop (a+1):=⟨L[a],fV h⟩
def ac9(L:dE)(a b:Nat):(L.drop a).drop b=L.drop (a+b):=by
 first
  |rw[nj]
  |rw[nj,adS]
end TL
end
namespace L2
open PySem PySem.Spec PyProof.Rows
end L2
namespace Att
open PySem PySem.W PySem.Calls PyProof.Rows
end Att
namespace L2
open PySem PySem.Spec PyProof.Rows
def pV(s:o4):Arguments:=match s with
 | .FunctionDef _ a _ _ _ _ _ _ _ _=>a
 |_=>{posonlyargs:=[],args:=[],vararg:=none,kwonlyargs:=[],kw_defaults:=[],kwarg:=none,defaults:=[]}
def nQ(s:o4):List Stmt:=match s with
 | .FunctionDef _ _ b _ _ _ _ _ _ _=>b
 |_=> []
def jm(s:o4):Scope:=match s with
 | .FunctionDef _ _ _ _ _ _ a _ _ _=>a
 |_=>{kind:= .function,names:=[],isGenerator:=false,isCoroutine:=false}
abbrev QE:UM:=λ_ _ _ _ _ _=>False
abbrev E0:XK:=λ_ _ _=>False
def Dy:AK QE X E0:=λ_ _ _ _ _ _ _ h=>h.elim
structure UK(K:dh)(x qual:gw)(st:o4)(f:eB)(fd:n0):Prop where
 ex: ∃(oc:eA) (od:pM) (kV doc pm:eA) (an:pM) (cdv ct:eA) (osl:wk),
  fd=kr x qual (pV st) (nQ st) (jm st) .none kV doc pm an cdv ct/\K.lookup f=some ⟨oc,od,.func fd,osl⟩/\oS K cdv qual=true
 kp:iL K (.ref f)=true
section
variable {K:dh}
def UK.ok{x a:gw}{st:o4}{f:eB}{j:n0}{N ps:iW}{k:Nat}{e:Sp}(F:UK K x a st f j)(S:FnScope N ps (jm st))(len: ∀c H Q E,e c H Q E-> ~~~c= ~~~ps)
  (d: ∀(b:eA) (A:i6) (outer:List Ls) (s:dJ) (H:Hp) (c:List V) (Q:VK) (E:XK),oo k (A.deeper (yp a (jm st) s.heap.objs.size f b))->e c H Q E->
   ∃t,GO (KO QE P w K mg base N a (jm st) f b A outer s H E).b9 (nQ st) t/\t {nx:=λ_ H'=>Q .non H',rt:=Q} (start N c) H):qY P w K mg base QE (k+1) f j ps e:=by
 obtain⟨p,od,kV,l,pm,o,b,ct,n,rfl,lk,g⟩:=F.ex;refine acN lk g S len λA outer s H c Q E m i=> ?_;let⟨(t),h,q⟩:=d b A outer s H c Q E m i;exact⟨t,h.b9,q⟩
def UK.binds{x a:gw}{st:o4}{f:eB}{e:n0}{ps:iW}(F:UK K x a st f e)
  (h: ∀(kV b pm:eA) (d:pM) (c ct:eA) (us:fM),~~~us= ~~~ps->Xz (kr x a (pV st) (nQ st) (jm st) .none kV b pm d c ct) ⟨us,[]⟩=pure (ps.zip us)):Binds K e ps []:=by
 obtain⟨j,od,kV,b,pm,d,c,ct,i,rfl,lk,g⟩:=F.ex;exact .all (h kV b pm d c ct)
def Tx{x a:gw}{st:o4}{f:eB}{h:eA}{od g:pM}{e:wk}{kV d pm b ct:eA}(l:K.lookup f=some ⟨h,od,.func (kr x a (pV st) (nQ st) (jm st) .none kV d pm g b ct),e⟩)
  (c:oS K b a=true)(k:iL K (.ref f)=true):UK K x a st f (kr x a (pV st) (nQ st) (jm st) .none kV d pm g b ct):=⟨⟨h,od,kV,d,pm,g,b,ct,e,rfl,l,c⟩,k⟩
end
def gX(a:oo k A):A.units+16<cLine:=by have:=a.units;lia
section
def pv(i:Nat)(c:X.N[i]?=some x:=by rfl)(b:Ys X.env.scope x:=by subst_eqs)(hd:(x==("__debug__" :gw))=false:=by decide)
  (a:(x==("__classdict__" :gw))=false:=by decide):PE X (.Name x pos) (E3 i):=Ht c b hd a
end
def afj{A B:Prop}(h:B):if false=true then A else B:=by rw[di dY];exact h
def afi{A B:Prop}(h:A):if true=true then A else B:=by rw[dq rfl];exact h
def qk(H a:Hp):Prop:= ∀b o,H b=some o->a b=some o
def qk.refl(H:Hp):qk H H:=λ_ _ h=>h
def qk.trans{H d e:Hp}(a:qk H d)(b:qk d e):qk H e:=λc o h=>b c o (a c o h)
def qk.free{H a:Hp}(e:qk H a){l:eB}(h:a l=Ll):H l=Option.none:=by
 cases q:H l with
 |none=>rfl
 |some o=>rw[e l o q]at h;cases h
def acy{α:Type}{l:List α}(e:l.Nodup){i j:Nat}{x:α}(a:l[i]?=some x)(b:l[j]?=some x):i=j:=by let⟨(f),c⟩:=dH.mp a;let⟨(g),d⟩:=dH.mp b;exact(Vk e).mp (c.trans d.symm)
end L2
section
namespace L2
open PySem PySem.Spec PyProof.Rows
open PySem.W (WData Codec OpenSpec Well WellAll ReadsW ReadsAllW)
mutual
inductive Dw(K:dh)(H:Hp):V->WData->Prop
 |non:Dw K H .non .none
 |bl (b:Bool):Dw K H (.bl b) (.bool b)
 |int (i:Int):Dw K H (.int i) (.int i)
 |str (x:gw):Dw K H (.str x) (.str x)
 |byt (b:Array UInt8):Dw K H (.byt b) (.bytes b.toList)
 |lst {a:eB} {xs:List V} {ds:List WData}:rB K H a xs->uV K H xs ds->Dw K H (.ref a) (.list ds)
 |tup {a:eB} {xs:List V} {ds:List WData}:qJ K H a xs->uV K H xs ds->Dw K H (.ref a) (.tuple ds)
inductive uV(K:dh)(H:Hp):List V->List WData->Prop
 |nil:uV K H [] []
 |cons {v:V} {vs:List V} {d:WData} {ds:List WData}:Dw K H v d->uV K H vs ds->uV K H (v::vs) (d::ds)
end
def aeb{K:dh}{H:Hp}: ∀ns:List Int,uV K H (ns.map V.int) (ns.map aek):=by
 intro r;induction r with
 |nil=>exact .nil
 |cons n r ih=>exact .cons (.int n) ih
def WG{K:dh}{H:Hp}: ∀(ns:jn) (a:List V),uV K H a (ns.map aek)->a=ns.map V.int:=by
 intro r;induction r with
 |nil=>intro a h;cases h;rfl
 |cons n r ih=>
  intro a h;cases h with
  |cons b c=>
   cases b
   rw[ih _ c]<;>rfl
section
variable {K:dh}
def Y6(d:ve P w H h)(g:K.In h)(q:rB K H a xs): ∃(b:fM) (o:xG) (n:Nat),gF xs b/\h.get? a=some o/\o.cls= .type "list" /\o.data= .seq b.toArray n:=by
 rcases q with q|⟨o,b,n,e,f,_,hd,_,c⟩
 .obtain⟨_,b,n,c,e⟩:=(show jM P w H h a (.lst xs)from q.ok d);exact⟨b,_,n,c,e,rfl,rfl⟩
 .exact⟨b.toList,o,n,c,g _ _ e,f,by simp[hd]⟩
def Y5(f:ve P w H h)(g:K.In h)(q:qJ K H a xs): ∃(b:fM) (o:xG) (n:Nat),gF xs b/\h.get? a=some o/\o.cls= .type "tuple" /\o.data= .seq b.toArray n:=by
 rcases q with q|⟨o,b,n,e,d,hd,_,c⟩
 .obtain⟨_,b,c,o,e,d,n,hd,_⟩:=(show jM P w H h a (.tup xs)from q.ok f);exact⟨b,o,n,c,e,d,hd⟩
 .exact⟨b.toList,o,n,c,g _ _ e,d,by simp[hd]⟩
mutual
theorem Dw.reads(hok:ve P w H h)(KX:K.In h): ∀(d:WData) (v:V) (u:eA),Dw K H v d->RelV v u-> ∃as,ReadsW R cl h u d as
 | .none,_,_,x,r=>by
  cases x
  cases r
  exact⟨_,ReadsW.none⟩
 | .bool b,_,_,x,r=>by
  cases x
  cases r
  exact⟨_,ReadsW.bool b⟩
 | .int i,_,_,x,r=>by
  cases x
  let⟨(t),rfl⟩:=r;exact⟨_,ReadsW.int i t⟩
 | .str s,_,_,x,r=>by
  cases x
  let⟨(t),rfl⟩:=r;exact⟨_,ReadsW.str s t⟩
 | .bytes b,_,_,x,r=>by
  cases x
  let⟨(t),rfl⟩:=r;exact⟨_,ReadsW.bytes _ t⟩
 | .list ds,_,_,x,r=>by
  cases x with
  |lst hs ha=>
   cases r
   let⟨its o n,rv,ho,hc,hd⟩:=Y6 hok KX hs;obtain⟨as,hr⟩:=Dw.readsAll hok KX ds _ its ha rv;exact⟨_,ReadsW.list ho hc hd hr⟩
 | .tuple ds,_,_,x,r=>by
  cases x with
  |tup hs ha=>
   cases r
   let⟨its o n,rv,ho,hc,hd⟩:=Y5 hok KX hs;obtain⟨as,hr⟩:=Dw.readsAll hok KX ds _ its ha rv;exact⟨_,ReadsW.tuple ho hc hd hr⟩
 | .float _,_,_,x,_=>by cases x
 | .dict _,_,_,x,_=>by cases x
 | .bytearray _,_,_,x,_=>by cases x
 | .set _,_,_,x,_=>by cases x
 | .frozenset _,_,_,x,_=>by cases x
 | .obj _ _,_,_,x,_=>by cases x
theorem Dw.readsAll(hok:ve P w H h)(KX:K.In h): ∀(ds:List WData) (vs:List V) (us:fM),uV K H vs ds->gF vs us-> ∃as,ReadsAllW R cl h us ds as
 | [],_,_,x,r=>by
  cases x
  cases r
  exact⟨_,ahu⟩
 |d::ds,_,_,x,r=>by
  cases x with
  |cons h1 h2=>
   cases r with
   |cons r1 r2=>obtain⟨as,q1⟩:=Dw.reads hok KX d _ _ h1 r1;obtain⟨bs,q2⟩:=Dw.readsAll hok KX ds _ _ h2 r2;exact⟨_,ahv q1 q2⟩
end
end
mutual
def Nz:WData->Bool
 | .none=>true
 | .bool _=>true
 | .int _=>true
 | .str _=>true
 | .bytes _=>true
 | .list xs=>BG xs
 | .tuple xs=>BG xs
 |_=>false
def BG:List WData->Bool
 | []=>true
 |x::r=>Nz x&&BG r
end
def R7{α:Type}{f:α->WData}(h: ∀a,Nz (f a)=true): ∀l:List α,BG (l.map f)=true:=by
 intro r;induction r with
 |nil=>rfl
 |cons x r ih=>show(Nz (f x)&&BG (r.map f))=true;rw[h x,ih]<;>rfl
theorem vD: ∀(c:Codec) (a:c.denote),Nz (c.enc a)=true
 | .unit,_=>rfl
 | .bool,_=>rfl
 | .int _ _,_=>rfl
 | .nat _ _,_=>rfl
 | .u8,_=>rfl
 | .bytes _ _,_=>rfl
 | .text _ _ _ _,_=>rfl
 | .list _ _ c,a=>R7 (λx=>vD c x) a
 | .pair c d,a=>by show(Nz (c.enc a.1)&&(Nz (d.enc a.2)&&true))=true;rw[vD c a.1,vD d a.2]<;>rfl
 | .triple c d e,a=>by show(Nz (c.enc a.1)&&(Nz (d.enc a.2.1)&&(Nz (e.enc a.2.2)&&true)))=true;rw[vD c a.1,vD d a.2.1,vD e a.2.2]<;>rfl
 | .option c,none=>rfl
 | .option c,some x=>vD c x
def Pe: ∀(b:List Codec) (a:EL b),BG (vh b a)=true:=by
 intro b;induction b with
 |nil=>intro _;rfl
 |cons c b ih=>intro a;show(Nz (c.enc a.1)&&BG (vh b a.2))=true;rw[vD c a.1,ih a.2]<;>rfl
theorem xN: ∀{a:List WData} {d:WData},d∈a->d.weight<=vp a
 | [],d,h=>absurd h (by simp)
 |x::r,d,h=>by
  show d.weight<=x.weight+1+vp r;rcases eM.mp h with e|m
  .grind
  .have z:=xN m;lia
noncomputable def OX:eA->V
 | .none=> .non
 | .bool b=> .bl b
 | .int i _=> .int i
 | .str x _=> .str x
 | .bytes b _=> .byt b
 | .ref a=> .ref a
 |_=> .non
def QA(A:iY):eA->Prop
 | .none=>True
 | .bool _=>True
 | .int _ _=>True
 | .str _ _=>True
 | .bytes _ _=>True
 | .ref a=>a∈A
 |_=>False
def QA.mono(h: ∀a∈A,a∈B): ∀{u:eA},QA A u->QA B u:=λ{u} x=>by
 cases u with
 |ref a=>exact h a x
 |none=>trivial
 |bool b=>trivial
 |int i t=>trivial
 |str s t=>trivial
 |bytes b t=>trivial
 |_=>exact eZ x
def RY(x:QA A u):RelV (OX u) u:=by
 cases u with
 |ref a=>rfl
 |none=>rfl
 |bool b=>rfl
 |int i t=>exact⟨t,rfl⟩
 |str s t=>exact⟨t,rfl⟩
 |bytes b t=>exact⟨t,rfl⟩
 |_=>exact eZ x
theorem sO: ∀{a:fM},(∀u∈a,QA A u)->gF (a.map OX) a
 | [],_=> .nil
 |u::r,h=> .cons (RY (h u (fk ..))) (sO λx b=>h x (eP _ b))
def uW(h:iZ)(A:iY)(a:eB):Prop:= ∃b:List eA,~~~b<=eQ/\(∀u∈b,QA A u)/\
 (h.get? a=some {cls:= .type "list",data:= .seq b.toArray}\/h.get? a=some {cls:= .type "tuple",data:= .seq b.toArray})
def uW.mono(k: ∀a∈A,a∈B)(x:uW h A a):uW h B a:=by let⟨(c),d,e,f⟩:=x;exact⟨c,d,λu b=>(e u b).mono k,f⟩
theorem rP: ∀{a:fM} {ds:List WData},WellAll P h a ds-> ~~~a= ~~~ds
 |_,_,.nil=>rfl
 |_,_,.cons _ b=>by show _+1=_+1;rw[rP b]
def FP(x:Well P h v (.list ds)): ∃(a:eB) (c:fM),v= .ref a/\h.get? a=some {cls:= .type "list",data:= .seq c.toArray}/\WellAll P h c ds:=by
 cases x with
 |list d b=>exact⟨_,_,rfl,d,b⟩
def CI(x:Well P h v (.tuple ds)): ∃(a:eB) (c:fM),v= .ref a/\h.get? a=some {cls:= .type "tuple",data:= .seq c.toArray}/\WellAll P h c ds:=by
 cases x with
 |tuple d b=>exact⟨_,_,rfl,d,b⟩
def FQ(x:WellAll P h us (d::ds)): ∃(v:eA) (c:fM),us=v::c/\Well P h v d/\WellAll P h c ds:=by
 cases x with
 |cons a b=>exact⟨_,_,rfl,a,b⟩
def NM(h:n<=1048576):n<=sizeLine:=eC h (by decide)
section
mutual
theorem Uv: ∀(d:WData) (v:eA),Well P h v d->Nz d=true->d.weight<=1048576-> ∃A:List eB,QA A v/\ ∀a∈A,uW h A a
 | .none,_,x,_,_=>by
  cases x
  exact⟨[],trivial,λa m=>absurd m (by simp)⟩
 | .bool b,_,x,_,_=>by
  cases x
  exact⟨[],trivial,λa m=>absurd m (by simp)⟩
 | .int i,_,x,_,_=>by
  cases x
  exact⟨[],trivial,λa m=>absurd m (by simp)⟩
 | .str s,_,x,_,_=>by
  cases x
  exact⟨[],trivial,λa m=>absurd m (by simp)⟩
 | .bytes b,_,x,_,_=>by
  cases x
  exact⟨[],trivial,λa m=>absurd m (by simp)⟩
 | .list ds,_,x,p,z=>by
  let⟨a vs,rfl,ho,hall⟩:=FP x;have z2:vp ds<=1048576:=z;let⟨(A),h1,h2⟩:=zE ds _ hall p λd hd=>eC (xN hd) z2;have k: ∀b∈A,b∈a::A:=λb hb=>eP _ hb;refine⟨a::A,fk ..,λb hb=> ?_⟩;rcases eM.mp hb with e|m
  .rw[e];exact⟨vs,NM (by rw[rP hall];exact eC (B8 ds) z2),λu hu=>(h1 u hu).mono k,.inl ho⟩
  .exact(h2 b m).mono k
 | .tuple ds,_,x,p,z=>by
  let⟨a vs,rfl,ho,hall⟩:=CI x;have z2:vp ds<=1048576:=z;let⟨(A),h1,h2⟩:=zE ds _ hall p λd hd=>eC (xN hd) z2;have k: ∀b∈A,b∈a::A:=λb hb=>eP _ hb;refine⟨a::A,fk ..,λb hb=> ?_⟩;rcases eM.mp hb with e|m
  .rw[e];exact⟨vs,NM (by rw[rP hall];exact eC (B8 ds) z2),λu hu=>(h1 u hu).mono k,.inr ho⟩
  .exact(h2 b m).mono k
 | .float _,_,_,p,_=>hE (show false=true from p)
 | .dict _,_,_,p,_=>hE (show false=true from p)
 | .bytearray _,_,_,p,_=>hE (show false=true from p)
 | .set _,_,_,p,_=>hE (show false=true from p)
 | .frozenset _,_,_,p,_=>hE (show false=true from p)
 | .obj _ _,_,_,p,_=>hE (show false=true from p)
theorem zE: ∀(ds:List WData) (vs:fM),WellAll P h vs ds->BG ds=true->(∀d∈ds,d.weight<=1048576)-> ∃A:List eB,(∀u∈vs,QA A u)/\ ∀a∈A,uW h A a
 | [],_,x,_,_=>by
  cases x
  exact⟨[],λu m=>absurd m (by simp),λa m=>absurd m (by simp)⟩
 |d::ds,_,x,p,z=>by
  let⟨v vs,rfl,x1,x2⟩:=FQ x;have q:Nz d=true/\BG ds=true:=OD.mp p;let⟨(A),a1,a2⟩:=Uv d v x1 q.1 (z d (fk ..));let⟨(B),b1,b2⟩:=zE ds vs x2 q.2 λe he=>z e (eP _ he);have kA: ∀b∈A,b∈A++B:=λb hb=>gp.mpr (.inl hb);have kB: ∀b∈B,b∈A++B:=λb hb=>gp.mpr (.inr hb);refine⟨A++B,λu hu=> ?_,λb hb=> ?_⟩
  .rcases eM.mp hu with e|m
   .rw[e];exact a1.mono kA
   .exact(b1 u m).mono kB
  .rcases gp.mp hb with m|m
   .exact(a2 b m).mono kA
   .exact(b2 b m).mono kB
end
end
def WI(o:xG):Option HO:=match o.data with
 | .seq a _=>if(o.cls==jO "list")=true then some (.frz o (.lst (a.toList.map OX)))else some (.frz o (.tup (a.toList.map OX)))
 |_=>none
def uj(K:dh)(h:iZ)(A:iY):Hp:=λb=>if b∈A then(if(K.lookup b).isNone=true then(h.get? b).bind WI else none)else none
def Oq(H:Hp):Prop:= ∀b,H b=none\/ ∃o u,H b=some (.frz o u)
theorem Km(a:fM):WI {cls:= .type "list",data:= .seq a.toArray}=some (.frz {cls:= .type "list",data:= .seq a.toArray} (.lst (a.map OX))):=by rfl
theorem Kl(a:fM):WI {cls:= .type "tuple",data:= .seq a.toArray}=some (.frz {cls:= .type "tuple",data:= .seq a.toArray} (.tup (a.map OX))):=by rfl
section
variable {K:dh}
def Cv(a:b∈A)(hk:K.lookup b=none)(e:h.get? b=some o):uj K h A b=WI o:=by
 unfold uj
 grind
def Wq(q:uj K h A b=some u):b∈A/\K.lookup b=none:=by
 unfold uj at q;by_cases hb:b∈A
 .rw[dq hb]at q;cases hk:K.lookup b with
  |none=>exact⟨hb,rfl⟩
  |some o=>
   simp_all
 .rw[di hb]at q;cases q
def Cu(j: ∀a∈A,uW h A a)(q:uj K h A b=some u):K.lookup b=none/\ ∃c:List eA,~~~c<=eQ/\(∀u∈c,QA A u)/\
  ((h.get? b=some {cls:= .type "list",data:= .seq c.toArray}/\u= .frz {cls:= .type "list",data:= .seq c.toArray} (.lst (c.map OX)))\/
   (h.get? b=some {cls:= .type "tuple",data:= .seq c.toArray}/\u= .frz {cls:= .type "tuple",data:= .seq c.toArray} (.tup (c.map OX)))):=by
 let⟨d,hk⟩:=Wq q;let⟨(c),f,g,i⟩:=j b d;refine⟨hk,c,f,g,?_⟩;rcases i with e|e
 .rw[Cv d hk e,Km]at q;exact .inl ⟨e,(ft q).symm⟩
 .rw[Cv d hk e,Kl]at q;exact .inr ⟨e,(ft q).symm⟩
def Qx(c: ∀a∈A,uW h A a):Oq (uj K h A):=λb=>by
 cases q:uj K h A b with
 |none=>exact .inl rfl
 |some u=>
  obtain⟨_,d,_,_,⟨_,e⟩|⟨_,e⟩⟩:=Cu c q
  .exact .inr ⟨_,_,by rw[e]⟩
  .exact .inr ⟨_,_,by rw[e]⟩
def Xf(g: ∀a∈A,uW h A a):ve P w (uj K h A) h:=λb u q=>by
 obtain⟨_,c,d,f,⟨e,rfl⟩|⟨e,rfl⟩⟩:=Cu g q
 .exact⟨e,by rw[dA];exact d,c,_,sO f,e⟩
 .exact⟨e,by rw[dA];exact d,c,sO f,_,e,rfl,_,rfl,rfl⟩
def ad3{c a:eA}{b us:fM}(e:(some {cls:=c,data:= .seq b.toArray}:Option xG)=some {cls:=a,data:= .seq us.toArray}):c=a/\b=us:=by
 grind
def af0(j:K.In h)(k: ∀a∈A,uW h A a){a:eB}{b:fM}(d:a∈A)(e:h.get? a=some {cls:= .type "list",data:= .seq b.toArray}):(∀u∈b,QA A u)/\rB K (uj K h A) a (b.map OX):=by
 let⟨(us),i,c,l⟩:=k a d;have g:us=b:=by
  grind
 subst g;refine⟨c,?_⟩;cases hk:K.lookup a with
 |none=>exact .inl (.inr ⟨_,by rw[Cv d hk e,Km]⟩)
 |some o=>have f:=j a o hk;rw[e]at f;obtain rfl:=ft f;exact .inr ⟨_,us.toArray,_,hk,rfl,rfl,rfl,by rw[eJ];exact i,by simpa using sO c⟩
def afZ(j:K.In h)(k: ∀a∈A,uW h A a){a:eB}{b:fM}(d:a∈A)(e:h.get? a=some {cls:= .type "tuple",data:= .seq b.toArray}):(∀u∈b,QA A u)/\qJ K (uj K h A) a (b.map OX):=by
 let⟨(us),i,c,l⟩:=k a d;have g:us=b:=by
  grind
 subst g;refine⟨c,?_⟩;cases hk:K.lookup a with
 |none=>exact .inl (.inr ⟨_,by rw[Cv d hk e,Kl]⟩)
 |some o=>have f:=j a o hk;rw[e]at f;obtain rfl:=ft f;exact .inr ⟨_,us.toArray,_,hk,rfl,rfl,by rw[eJ];exact i,by simpa using sO c⟩
mutual
theorem aak{Pm:Params}(KX:K.In h)(ar: ∀a∈A,uW h A a): ∀(d:WData) (v:eA),Well Pm h v d->Nz d=true->QA A v->Dw K (uj K h A) (OX v) d
 | .none,_,x,_,_=>by
  cases x
  exact .non
 | .bool b,_,x,_,_=>by
  cases x
  exact .bl b
 | .int i,_,x,_,_=>by
  cases x
  exact .int i
 | .str s,_,x,_,_=>by
  cases x
  exact .str s
 | .bytes b,_,x,_,_=>by
  cases x
  have z:=Dw.byt (K:=K) (H:=uj K h A) b.toArray;exact z
 | .list ds,_,x,p,hu=>by let⟨a vs,rfl,ho,hall⟩:=FP x;let⟨h2,hs⟩:=af0 KX ar hu ho;exact .lst hs (HZ KX ar ds _ hall p h2)
 | .tuple ds,_,x,p,hu=>by let⟨a vs,rfl,ho,hall⟩:=CI x;let⟨h2,hs⟩:=afZ KX ar hu ho;exact .tup hs (HZ KX ar ds _ hall p h2)
 | .float _,_,_,p,_=>hE (show false=true from p)
 | .dict _,_,_,p,_=>hE (show false=true from p)
 | .bytearray _,_,_,p,_=>hE (show false=true from p)
 | .set _,_,_,p,_=>hE (show false=true from p)
 | .frozenset _,_,_,p,_=>hE (show false=true from p)
 | .obj _ _,_,_,p,_=>hE (show false=true from p)
theorem HZ{Pm:Params}(KX:K.In h)(ar: ∀a∈A,uW h A a): ∀(ds:List WData) (vs:fM),WellAll Pm h vs ds->BG ds=true->(∀u∈vs,QA A u)->uV K (uj K h A) (vs.map OX) ds
 | [],_,x,_,_=>by
  cases x
  exact .nil
 |d::ds,_,x,p,hu=>by let⟨v vs,rfl,x1,x2⟩:=FQ x;have q:Nz d=true/\BG ds=true:=OD.mp p;exact .cons (aak KX ar d v x1 q.1 (hu _ (fk ..))) (HZ KX ar ds vs x2 q.2 λu m=>hu u (eP _ m))
end
end
def O9{P:fY}{w:iu}{K:dh}{mg mb:kQ}{CX:UM}{k:Nat}{fa:eB}{fd:n0}{ps:iW}{sp:Sp}{a:dJ}{c:fM}{ds:List WData}{R:PySem.W.WRecords}{cl:gw->Option eB}{O:WData}
  (Z:K.In a.heap)(E:a.heap.Ns eU mg)(Y:a.heap.Ns aa7 mb)(N: ∀x:gw,x≠ "__name__" ->mb x=iP x)(I:a.heap.NoLimit)(hg:a.gens= #[])
  (l:WellAll w.params a.heap c ds)(hpl:BG ds=true)(x1: ∀d∈ds,d.weight<=1048576)(hr:oo k UW)
  (F: ∀base:iZ,K.In base->base.Ns eU mg->qY P w K mg base CX k fa fd ps sp)(j: ∀(s:dJ) (us:fM),~~~us= ~~~ps->U7 s fd ⟨us,[]⟩ (ps.zip us))(C: ~~~ds= ~~~ps)
  (S: ∀(H:Hp) (xs:List V),Oq H->uV K H xs ds->sp xs H (λv H'=>Dw K H' v O) λ_ _ _=>False)
  (U: ∀H e h,CX [] H a (λ_ _ _=>False) e h->False):
  ou (dZ P w) UW (.call (.ref fa) ⟨c,[]⟩) (λr h=> ∃u as,r= .ok (.ret u)/\ReadsW R cl h.heap u O as/\OldK a.heap h.heap/\h.os=a.os/\FO h.gens) a:=by
 let⟨(A),ho,t⟩:=zE ds c l hpl x1;have Q:Oq (uj K a.heap A):=Qx t;have p:ve P w (uj K a.heap A) a.heap:=Xf t;have hS:=HZ Z t ds c l hpl ho;have hV:=sO ho;have hK: ∀b u,uj K a.heap A b=some u->K.lookup b=none:=λb u q=>(Cu t q).1;have B: ∀{b:eB} {o:xG} {M:ur} {J:Nat},a.heap.get? b=some o->o.data= .dict M J->uj K a.heap A b=none:=λ{b o M J} e d=>by
  cases q:uj K a.heap A b with
  |none=>rfl
  |some u=>
   obtain⟨_,vs,_,_,⟨T,_⟩|⟨T,_⟩⟩:=Cu t q
   .grind
   .grind
 generalize uj K a.heap A=H at Q p hS hK B;have f: ∀{b:eB} {o:xG},a.heap.get? b=some o->H b=none->(Ko a.heap H).get? b=some o:=λe n=>Tc e n;have g: ∀{b:eB} {m:kQ},a.heap.Ns b m->(Ko a.heap H).Ns b m:=λ{b m} hx=>by let⟨o M J,e,d,r⟩:=hx;exact⟨o,M,J,f e (B e d),d,r⟩
 have nK: ∀b o,K.lookup b=some o->H b=none:=λb o e=>by
  cases q:H b with
  |none=>rfl
  |some u=>grind
 have y:=λb o e=>f (Z b o e) (nK b o e);have hM:Mod K mg (Ko a.heap H):=⟨y,g E,⟨mb,g Y,N⟩,let⟨mc,h1,h2⟩:=I;⟨mc,g h1,h2⟩⟩;have e0:M6 P w K mg (Ko a.heap H) UW [] a H:=⟨rfl,hM,λb o e=>Wp e,wA (P8 _ _),trivial,λb Y=>absurd (show b∈([]:List eB)from Y) (by simp),p,.of_eq hg⟩;have hl: ~~~c= ~~~ps:=by rw[rP l];exact C
 refine Fw ((F _ y (g E)).run UW [] a H ⟨c,[]⟩ c (c.map OX) _ _ hr e0 (j a c hl) hV (S H _ Q hS)) λr h x=> ?_;cases r with
 |error e=>exact(U H e h x).elim
 |ok fl=>
  cases fl with
  |next=>exact eZ x
  |brk=>exact eZ x
  |cont=>exact eZ x
  |ret u=>
   let⟨v H',os,G,un,i,r',q⟩:=x;have kept:=λb o e=>by
    cases q2:H b with
    |none=>exact un.keep b o e q2 (by intro z;exact absurd (show b∈([]:List eB)from z) (by simp)) (by simp)
    |some u2=>
     rcases Q b with z|⟨ob,u3,z⟩
     .rw[q2]at z;cases z
     .have z2:=un.aU b ob _ z;let⟨e1,_⟩:=p b _ z;let⟨T,_⟩:=i b _ z2;rw[e]at e1;cases e1;exact T
   have X:=λb o e=>kept b o (Z b o e);obtain⟨as,x0⟩:=Dw.reads i X O v u q r';exact⟨u,as,rfl,x0,OldK.of_keep kept,os,G⟩
def D3(h:WData.layableAll ds=true): ∀d∈ds,d.weight<=1048576:=λd hd=>
 (PySem.W.layableW_iff.mp (hC.mp h d hd)).2.2
def MN: ∀(b:List Codec) (a:EL b),(vh b a).length= ~~~b:=by
 intro b;induction b with
 |nil=>intro _;rfl
 |cons c b ih=>intro a;show(vh b a.2).length+1= ~~~b+1;rw[ih a.2]
def abg{r:OpenSpec}{k:Nat}{q:fY}{i:iW}{XP:(gw->Option eA)->iZ->Prop}{I:iu->iZ->Prop}{d:DefRec}{K:Params->dh}{Q:iu->UM}{ps:iW}{O:iu->Sp}
  (c:r.wellSaid=true)(x2:d.params.defaults=[])(j: ~~~r.args= ~~~ps)(hr:oo k UW)
  (hY: ∀(w:iu) (h:iZ),I w h->(K w.params).In h)
  (F: ∀(w:iu) (mg:kQ) (t:eB) (h:iZ),I w h->(K w.params).In h->h.Ns eU mg->mg d.name=some (.ref t)->
   ∃B:n0,(∀(s:dJ) (us:fM),~~~us= ~~~ps->U7 s B ⟨us,[]⟩ (ps.zip us))/\
    ∀base:iZ,(K w.params).In base->base.Ns eU mg->qY r.prog w (K w.params) mg base (Q w) k t B ps (O w))
  (M: ∀(w:iu) (H:Hp) (y:List V) (a:EL r.args),Oq H->Codec.withinAll r.args a=true->aeG r.args r.asked a=true->uV (K w.params) H y (vh r.args a)->
   O w y H (λv H'=>Dw (K w.params) H' v (r.ret.enc (aeG r.args r.f a))) λ_ _ _=>False)
  (C: ∀(w:iu) (H:Hp) (s:dJ) (e:eA) (x:dJ),Q w [] H s (λ_ _ _=>False) e x->False):
  PySem.W.WalkOS q i XP I r d [] (λf vs=>PySem.call f vs):=by
 intro w A p mg mb G Y t o pm cd U dV kV ho hd x3 hD N hg args S as n l x1 E x0;let⟨(a),e1,e2⟩:=PySem.W.os_pre_some n;let⟨e3,m⟩:=Codec.encAll_of_decAll r.args args a e1;subst e3;have P:=hY w _ Y;let⟨(B),hb,hF⟩:=F w mg t _ Y P G.T.g N;refine PySem.W.enter_call (Fw (O9 (R:=[]) (cl:=classAt A.heap) P G.T.g G.T.b G.T.builtins G.T.nolimit hg E (Pe _ _) (D3 l) hr hF hb (by rw[MN];exact j)
  (λH y hO hS=>M w H y a hO m e2 hS) λH e x=>C w H p e x) λr' x X=> ?_)
 let⟨u J,rfl,Z,h2,h3,h4⟩:=X;exact⟨.inl ⟨u,_,J,rfl,λ_=>rfl,Z,(ahI c m _ _).mpr rfl,λz=>hE (show false=true from z)⟩,h2,h3,h4⟩
end L2
end
namespace BM
open Blood
def oK: ∀(n:Nat) (l:dE),l.Nodup->(∀x∈l,x<n)-> ~~~l<=n:=by
 intro n;induction n with
 |zero=>
  intro l _ h;cases l with
  |nil=>simp
  |cons x l=>exact absurd (h x (by simp)) (by lia)
 |succ n ih=>
  intro l hd h;by_cases hn:n∈l
  .have c:=ih (l.erase n) (hd.erase n) (λx a=>by
    have b:=(hd.mem_erase_iff.mp a);have:=h x b.2;lia)
   simp_all
  .have:=ih l hd (λx a=>by
    have:=h x a;have:x≠n:=λe=>hn (e▸a);lia)
   lia
def Px{n:Nat}{l:dE}(hd:l.Nodup)(h: ∀x∈l,x<n)(c: ~~~l=n)(i:Nat)(a:i<n):i∈l:=by apply dP;intro b;have:=oK n (i::l) (fH.mpr ⟨b,hd⟩) (by simpa using⟨a,h⟩);simp at this;lia
def Zl(n:Nat)(f:Nat->Nat)(h: ∀i,i<=n->f i<n): ∃i j,i<j/\j<=n/\f i=f j:=by
 apply dP;intro k;have hd:((eE (n+1)).map f).Nodup:=by rw[eI,fQ];refine kY ?_ (iT);intro a b m g c e;exact k ⟨a,b,c,by have:=eO.mp g;lia,e⟩
 have:=oK n _ hd (by intro x l;let⟨(i),d,rfl⟩:=dk.mp l;exact h i (by have:=eO.mp d;lia));simp at this;lia
noncomputable def par(P:fu)(i:Nat):List Nat:=match(person P i).parents with
 |some x=> [x.1,x.2]
 |none=> []
def xn:y∈tL P l↔ ∃x∈l,y∈par P x:=by unfold tL;rw[List.mem_eraseDups,g9];rfl
def Do(h: ~~~P<=i):person P i=⟨[],false,none⟩:=by unfold person;rw[dG,lx h];rfl
def Wf(h: ~~~P<=i):par P i=[]:=by unfold par;rw[Do h]
def Up(P:fu):Nat->Nat->Nat->Prop
 |0,a,b=>a=b
 |k+1,a,b=> ∃c∈par P a,Up P k c b
def Vw(P:fu):Nat->List Nat->List Nat
 |0,l=>l
 |k+1,l=>Vw P k (tL P l)
theorem Cn: ∀{k:Nat} {l:dE},b∈Vw P k l↔ ∃a∈l,Up P k a b
 |0,l=>by
  show b∈l↔ ∃a∈l,a=b
  simp_all
 |k+1,l=>by
  show b∈Vw P k (tL P l)↔ ∃a∈l,∃c∈par P a,Up P k c b;rw[Cn];constructor
  .rintro⟨c,f,h⟩;let⟨(a),e,d⟩:=xn.mp f;exact⟨a,e,c,d,h⟩
  .rintro⟨a,e,c,d,h⟩;exact⟨c,xn.mpr ⟨a,e,d⟩,h⟩
theorem vQ{P:fu}{a:Nat}: ∀{n:Nat} {l:dE},aa4 P a n l=true↔ ∃k,k<n/\a∈Vw P (k+1) l
 |0,l=>by simp[aa4]
 |n+1,l=>by
  show((tL P l).contains a||aa4 P a n (tL P l))=true↔_;rw[XN,vQ];constructor
  .rintro(h|⟨k,hk,h⟩)
   .exact⟨0,by lia,by simpa [Vw]using h⟩
   .exact⟨k+1,by lia,h⟩
  .rintro⟨k,hk,h⟩;cases k with
   |zero=>left;simpa [Vw]using h
   |succ k=>right;exact⟨k,by lia,h⟩
def DV:aa5 P a=true↔ ∃k,k< ~~~P/\Up P (k+1) a a:=by
 unfold aa5;rw[vQ];constructor
 .rintro⟨k,hk,h⟩;let⟨(b),c,h⟩:=Cn.mp h;have:b=a:=by simpa using c
  subst this;exact⟨k,hk,h⟩
 .rintro⟨k,hk,h⟩;exact⟨k,hk,Cn.mpr ⟨a,by simp,h⟩⟩
theorem Up.snoc: ∀{k a b c:Nat},Up P k a b->c∈par P b->Up P (k+1) a c
 |0,a,b,c,h,e=>by have:a=b:=h;subst this;exact⟨c,e,rfl⟩
 |k+1,a,b,c,⟨d,hd,h⟩,e=>⟨d,hd,Up.snoc h e⟩
structure Good(P:fu):Prop where
 len: ~~~P<=64
 lt: ∀i q,q∈par P i->q< ~~~P
 loop: ∀i,i< ~~~P->aa5 P i=false
def next(P:fu)(done:dE):Option Nat:=(eE (~~~P)).find? λi=> !done.contains i&&(par P i).all λq=>done.contains q
def grow(P:fu):Nat->List Nat->List Nat
 |0,d=>d
 |n+1,d=>match next P d with
  |some i=>grow P n (d++ [i])
  |none=>d
def eV(P:fu):List Nat:=grow P (~~~P) []
def Ap(h:next P d=some i):i< ~~~P/\i∉d/\ ∀q∈par P i,q∈d:=by have a:=EV h;have b:=sL h;simp at a b;exact⟨b,a.1,a.2⟩
def Aq(G:Good P)(v:x< ~~~P)(g:x∉d): ∃i,next P d=some i:=by
 cases h:next P d with
 |some i=>simp_all
 |none=>
  exfalso;unfold next at h;rw[oB]at h;have h': ∀y,y< ~~~P->y∉d-> ∃q∈par P y,q∉d:=by
   simp_all
  let f:=λy=>((par P y).find? λq=> !d.contains q).getD 0
  have s: ∀y,y< ~~~P->y∉d->f y∈par P y/\f y< ~~~P/\f y∉d:=by
   intro y A l;let⟨(q),B,t⟩:=h' y A l;have: ∃r,(par P y).find? (λq=> !d.contains q)=some r:=by
    cases e:(par P y).find? (λq=> !d.contains q)with
    |some r=>simp_all
    |none=>simp_all
   let⟨(r),m⟩:=this;have c:f y=r:=by show(List.find? _ _).getD 0=r;rw[m];rfl
   rw[c];have n:=EV m;have o:=sL m;simp at n;exact⟨o,G.lt y r o,n⟩
  let a:Nat->Nat:=λk=>Nat.rec x (λ_ z=>f z) k
  have hit: ∀k,a k< ~~~P/\a k∉d:=by
   intro k;induction k with
   |zero=>exact⟨v,g⟩
   |succ k ih=>exact(s (a k) ih.1 ih.2).2
  have b: ∀j i,Up P j (a i) (a (i+j)):=by
   intro j;induction j with
   |zero=>intro i;rfl
   |succ j ih=>intro i;refine⟨a (i+1),(s (a i) (hit i).1 (hit i).2).1,?_⟩;have:=ih (i+1);rw[show i+1+j=i+(j+1)by lia]at this;exact this
  let⟨i j,w,u,e⟩:=Zl (~~~P) a λk _=>(hit k).1;have:=b (j-i) i;rw[show i+(j-i)=j by lia,<-e]at this;have p:aa5 P (a i)=true:=DV.mpr ⟨j-i-1,by lia,by rw[show j-i-1+1=j-i by lia];exact this⟩;rw[G.loop _ (hit i).1]at p;cases p
structure Ord(P:fu)(l:dE):Prop where
 nodup:l.Nodup
 lt: ∀i∈l,i< ~~~P
 before: ∀a b i,l=a++i::b-> ∀q∈par P i,q∈a
def Ord.nil:Ord P []:=⟨by simp,by simp,λa b i h=>by simp at h⟩
def Ord.snoc(o:Ord P l)(p:i< ~~~P)(n:i∉l)(m: ∀q∈par P i,q∈l):Ord P (l++ [i]) where
 nodup:=by
  rw[gE];refine⟨o.nodup,by simp,?_⟩
  grind
 lt:=by
  intro j k;simp at k;rcases k with h|h
  .exact o.lt j h
  .lia
 before:=by
  intro a b j e q f;rcases List.append_eq_append_iff.mp e with⟨c,g,d⟩|⟨c,g,d⟩
  .cases c with
   |nil=>simp_all
   |cons x c=>simp_all
  .cases c with
   |nil=>simp_all
   |cons x c=>simp at d;let⟨rfl,d⟩:=d;exact o.before a c j g q f
def Qa(G:Good P): ∀(n:Nat) (d:dE),Ord P d-> ~~~d+n= ~~~P->Ord P (grow P n d)/\(grow P n d).length= ~~~P:=by
 intro n;induction n with
 |zero=>intro d o h;exact⟨o,h⟩
 |succ n ih=>
  intro d o h;have: ∃x,x< ~~~P/\x∉d:=by
   apply dP;intro k;have b:=λx a=>dP λm=>k ⟨x,eO.mp a,m⟩;have c:=gZ (n:= ~~~P);have g:(eE (~~~P)).length<= ~~~d:=(ES.mpr (λ{x} a=>b x a)|>λl=>c.length_le_of_subset l)
   grind
  let⟨(x),a,f⟩:=this;let⟨(i),j⟩:=Aq G a f;let⟨b,c,g⟩:=Ap j;have e:grow P (n+1) d=grow P n (d++ [i]):=by
   show(match next P d with|some i=>grow P n (d++ [i])|none=>d)=_
   rw[j]
  rw[e];exact ih (d++ [i]) (o.snoc b c g) (by simp;lia)
def gD(G:Good P):Ord P (eV P)/\(eV P).length= ~~~P:=Qa G (~~~P) [] Ord.nil (by simp)
def iJ{P:fu}(G:Good P){i:Nat}:i∈eV P↔i< ~~~P:=⟨(gD G).1.lt i,λh=>Px (gD G).1.nodup (gD G).1.lt (gD G).2 i h⟩
def rk(P:fu)(i:Nat):Nat:=(eV P).idxOf i
def RV(G:Good P)(h:i< ~~~P):rk P i< ~~~P:=by have:=FC ((iJ G).mpr h);rw[(gD G).2]at this;exact this
def LR(G:Good P)(f:q∈par P i):rk P q<rk P i:=by
 have g:i< ~~~P:=by apply dP;intro h;rw[Wf (by lia)]at f;simp at f
 let⟨a b,e⟩:=List.append_of_mem ((iJ G).mpr g);have c:=(gD G).1.before a b i e q f;have hd:=(gD G).1.nodup;unfold rk;rw[e]at hd⊢;have d:i∉a:=by intro h;rw[gE]at hd;exact hd.2.2 i h i (by simp) rfl
 rw[U1,dq c,U1,di d];have:=FC c;simp;lia
theorem sQ(l:dE):sumOf l=l.sum:=rfl
def sum_map_add{α:Type}(f g:α->Nat): ∀l:List α,(l.map λx=>f x+g x).sum=(l.map f).sum+(l.map g).sum:=by
 intro l;induction l with
 |nil=>rfl
 |cons x l ih=>simp[ih];lia
def Jr{α:Type}(c:Nat)(f:α->Nat): ∀l:List α,(l.map λx=>c*f x).sum=c*(l.map f).sum:=by
 intro l;induction l with
 |nil=>simp
 |cons x l ih=>simp[ih,mB]
def tU{α:Type}: ∀(l:List α) (f:α->Nat),(∀x∈l,f x=0)->(l.map f).sum=0:=by
 intro l;induction l with
 |nil=>intro _ _;rfl
 |cons x l ih=>intro f h;simp[h x (by simp),ih f λy a=>h y (by simp[a])]
def Nk{l:dE}(hd:l.Nodup){a:Nat}(c:a∈l)(f:Nat->Nat):(l.map λx=>if x=a then f x else 0).sum=f a:=by
 induction l with
 |nil=>simp_all
 |cons x l ih=>
  rw[fH]at hd;rw[dt,gL];by_cases e:x=a
  .subst e;rw[dq rfl,tU l _ (λy b=>di (λe:y=x=>hd.1 (by rw[<-e];exact b)))];lia
  .rw[di e,ih hd.2 (by simpa [gk e]using c)];lia
def map_congr{α a:Type}{f g:α->a}{l:List α}(h: ∀x∈l,f x=g x):l.map f=l.map g:=nS h
def Lg(P:fu)(b k a:Nat):Nat:=(pathsTo P b k).getD a 0
def D9(f:Nat->Nat)(n a:Nat)(h:a<n):((eE n).map f).getD a 0=f a:=by
 simp_all
def DS(h:a< ~~~P):Lg P b (k+1) a=(if a=b then 1 else 0)+((par P a).map (Lg P b k)).sum:=by
 show((eE (~~~P)).map _).getD a 0=_;rw[D9 _ _ _ h];unfold par;cases (person P a).parents with
 |none=>rfl
 |some x=>rfl
theorem DT{P:fu}(G:Good P)(b:Nat): ∀(r k c a:Nat),a< ~~~P->rk P a<r->rk P a<k->rk P a<c->Lg P b k a=Lg P b c a
 |0,_,_,_,_,h,_,_=>by lia
 |r+1,0,_,_,_,_,h,_=>by lia
 |r+1,k+1,0,_,_,_,_,h=>by lia
 |r+1,k+1,c+1,a,e,h,f,g=>by rw[DS e,DS e];congr 2;apply map_congr;intro q d;have:=LR G d;exact DT G b r k c q (G.lt a q d) (by lia) (by lia) (by lia)
def ZT(G:Good P)(b:Nat)(h:a< ~~~P):Lg P b (~~~P) a=(if a=b then 1 else 0)+((par P a).map (Lg P b (~~~P))).sum:=by have h':=RV G h;have e:Lg P b (~~~P) a=Lg P b (~~~P+1) a:=DT G b (~~~P+1) _ _ a h (by lia) h' (by lia);rw[e,DS h]
def pL(x:Nat)(l:dE)(ps:dE):List Nat:=ps.foldl (λl q=>l.set q (l.getD q 0+l.getD x 0)) l
def Ab(P:fu)(a:Nat):List Nat:=(eV P).reverse.foldl (λl x=>pL x l (par P x)) ((fP (~~~P) 0).set a 1)
noncomputable def yP(N:Nat->Nat)(o l:dE):Nat:=(o.map λy=>l.getD y 0*N y).sum
def Fk{l:dE}{q v:Nat}(h:q< ~~~l):(l.set q v).getD q 0=v:=by
 simp_all
def og{l:dE}{q v y:Nat}(h:q≠y):(l.set q v).getD y 0=l.getD y 0:=by
 simp_all
theorem Jh(N:Nat->Nat){l:dE}{q c:Nat}(a:q< ~~~l): ∀{o:dE},o.Nodup->q∈o->yP N o (l.set q (l.getD q 0+c))=yP N o l+c*N q
 | [],_,h=>by simp at h
 |y::o,hd,h=>by
  rw[fH]at hd;unfold yP;simp only[dt,gL];by_cases e:y=q
  .subst e;rw[Fk a];have:(o.map λz=>(l.set y (l.getD y 0+c)).getD z 0*N z)=o.map λz=>l.getD z 0*N z:=map_congr λz hz=>by rw[og (λe:y=z=>hd.1 (by rw[e];exact hz))]
   rw[this,oX];lia
  .rw[og (gk e)];have:=Jh N a hd.2 (by simpa [gk e]using h) (c:=c);unfold yP at this;rw[this];lia
def M0(x:Nat): ∀(ps l:dE),(pL x l ps).length= ~~~l:=by
 intro ps;induction ps with
 |nil=>intro l;rfl
 |cons q ps ih=>intro l;show(pL x (l.set q _) ps).length=_;rw[ih];simp
def EA(x:Nat): ∀(ps l:dE) (z:Nat),z∉ps->(pL x l ps).getD z 0=l.getD z 0:=by
 intro ps;induction ps with
 |nil=>intro l z _;rfl
 |cons q ps ih=>intro l z h;show(pL x (l.set q _) ps).getD z 0=_;simp at h;rw[ih _ z h.2,og (gk h.1)]
def K6(N:Nat->Nat)(x:Nat){o:dE}(hd:o.Nodup): ∀(ps l:dE),(∀q∈ps,q∈o/\q< ~~~l)->x∉ps->yP N o (pL x l ps)=yP N o l+l.getD x 0*(ps.map N).sum:=by
 intro ps;induction ps with
 |nil=>intro l _ _;rfl
 |cons q ps ih=>intro l h a;simp at a;show yP N o (pL x (l.set q _) ps)=_;rw[ih _ (λr b=>⟨(h r (by simp[b])).1,by simpa using(h r (by simp[b])).2⟩) a.2,Jh N (h q (by simp)).2 hd (h q (by simp)).1,og (gk a.1)];simp[mB];lia
def L3(G:Good P)(b:Nat): ∀(o l:dE),Ord P o-> ~~~l= ~~~P->
  (o.reverse.foldl (λl x=>pL x l (par P x)) l).getD b 0=yP (Lg P b (~~~P)) o l+if b∈o then 0 else l.getD b 0:=by
 intro o;generalize hn: ~~~o=n;induction n generalizing o with
 |zero=>intro l _ _;have:o=[]:=eY hn;subst this;simp[yP]
 |succ n ih=>
  intro l j s;have f:o≠ []:=by intro e;simp[e]at hn
  obtain⟨d,x,rfl⟩: ∃d x,o=d++ [x]:=⟨o.dropLast,o.getLast f,(qL f).symm⟩;have hd:=j.nodup;rw[gE]at hd;have t:x∉d:=λh=>hd.2.2 x h x (by simp) rfl;have r:x< ~~~P:=j.lt x (by simp);have p:=j.before d [] x rfl;have m:Ord P d:=⟨hd.1,λi v=>j.lt i (by simp[v]),λa c i e q k=>j.before a (c++ [x]) i (by simp[e]) q k⟩;rw[QP];show(d.reverse.foldl _ (pL x l (par P x))).getD b 0=_;have g:x∉par P x:=λh=>t (p x h);rw[ih d (by simp at hn;exact hn) _ m (by rw[M0];exact s),K6 _ x hd.1 _ _ (λq k=>⟨p q k,by rw[s];exact G.lt x q k⟩) g];have w:yP (Lg P b (~~~P)) (d++ [x]) l=yP (Lg P b (~~~P)) d l+l.getD x 0*Lg P b (~~~P) x:=by unfold yP;simp
  rw[w];have u:l.getD x 0*Lg P b (~~~P) x=l.getD x 0*(if x=b then 1 else 0)+l.getD x 0*((par P x).map (Lg P b (~~~P))).sum:=by rw[ZT G b r,mB]
  rw[u];by_cases e:x=b
  .subst e;rw[di t,dq rfl,dq (by simp),EA _ _ _ _ g];lia
  .rw[di e];by_cases hbo:b∈d
   .rw[dq hbo,dq (by simp[hbo])];lia
   .rw[di hbo,di (by simp[hbo,gk e]),EA _ _ _ _ (λh=>hbo (p b h))];lia
def SA{P:fu}(G:Good P){a b:Nat}(f:a< ~~~P)(d:b< ~~~P):(Ab P a).getD b 0=Nf P a b:=by
 unfold Ab;have c:=gD G;rw[L3 G b (eV P) _ c.1 (by simp),dq ((iJ G).mpr d)];have:yP (Lg P b (~~~P)) (eV P) ((fP (~~~P) 0).set a 1)=((eV P).map λx=>if x=a then Lg P b (~~~P) x else 0).sum:=by
  unfold yP;congr 1;apply map_congr;intro x g;by_cases e:x=a
  .simp_all
  .rw[og (gk e),di e];have:(fP (~~~P) 0).getD x 0=0:=by rw[dG,jk];split<;>rfl
   simp_all
 rw[this,Nk c.1.nodup ((iJ G).mpr f)];rfl
def pF(st:mV)(q:Nat):Bool:=st.any λp=>p.1==q
def nX:pF st q=true↔ ∃e,(q,e)∈st:=by
 unfold pF
 simp_all
def BF(d:Nat)(st:mV)(q:Nat):List (Nat×Nat):=if pF st q=true then st else st++ [(q,d+1)]
def xA(P:fu)(st:mV)(x d:Nat):List (Nat×Nat):=(par P x).foldl (BF d) st
def oQ(P:fu):Nat->List (Nat×Nat)->Nat->List (Nat×Nat)
 |0,st,_=>st
 |k+1,st,i=>match st[i]? with
  |some p=>oQ P k (xA P st p.1 p.2) (i+1)
  |none=>st
def GK(P:fu)(s:Nat):List (Nat×Nat):=oQ P (~~~P+1) [(s,0)] 0
structure Bf(P:fu)(s:Nat)(st:mV)(i:Nat):Prop where
 nodup:(st.map (·.1)).Nodup
 lt: ∀p∈st,p.1< ~~~P
 here:(s,0)∈st
 up: ∀p∈st,Up P p.2 s p.1
 mono:st.Pairwise λp q=>p.2<=q.2
 ix: ∀(j:Nat) p,st[j]?=some p->p.2<=j
 top: ∀p,st[i]?=some p-> ∀q∈st,q.2<=p.2+1
 done: ∀(j:Nat) p,j<i->st[j]?=some p-> ∀q∈par P p.1,∃e,(q,e)∈st/\e<=p.2+1
def JE(d:Nat)(st:mV)(q:Nat):st<+:BF d st q:=by
 unfold BF;split
 .simp_all
 .simp_all
def vZ(d:Nat): ∀(ps:dE) (st:mV),st<+:ps.foldl (BF d) st:=by
 intro ps;induction ps with
 |nil=>intro st;exact List.prefix_refl _
 |cons q ps ih=>intro st;exact(JE d st q).trans (ih _)
def VW{st a:mV}(h:st<+:a){j:Nat}{p:Nat×Nat}(e:st[j]?=some p):a[j]?=some p:=by let⟨(t),rfl⟩:=h;have:=(dH.mp e).1;rw[fU this];exact e
def Hs(h:st<+:st')(e:p∈st):p∈st':=h.subset e
structure Bi(P:fu)(s x d i:Nat)(st:mV):Prop where
 nodup:(st.map (·.1)).Nodup
 lt: ∀p∈st,p.1< ~~~P
 up: ∀p∈st,Up P p.2 s p.1
 mono:st.Pairwise λp q=>p.2<=q.2
 ix: ∀(j:Nat) p,st[j]?=some p->p.2<=j
 bd: ∀q∈st,q.2<=d+1
 at_:st[i]?=some (x,d)
def VR(B:Bi P s x d i st)(l:q∈par P x)(r:q< ~~~P):Bi P s x d i (BF d st q)/\ ∃e,(q,e)∈BF d st q/\e<=d+1:=by
 unfold BF;split
 .rename_i h;let⟨(e),he⟩:=nX.mp h;exact⟨B,e,he,B.bd _ he⟩
 .rename_i h;have o:=λe he=>h (nX.mpr ⟨e,he⟩);have n:=eS B.at_;have f:=(dH.mp B.at_).1;refine⟨⟨?_,?_,?_,?_,?_,?_,?_⟩,d+1,by simp,dI _⟩
  .rw[jF,gE];refine⟨B.nodup,by simp,?_⟩;intro a k b g e
   simp_all
  .intro p c;rcases gp.mp c with h|h
   .exact B.lt p h
   .simp_all
  .intro p c;rcases gp.mp c with h|h
   .exact B.up p h
   .simp at h;rw[h];exact Up.snoc (B.up _ n) l
  .rw[List.pairwise_append];refine⟨B.mono,by simp,?_⟩;intro a k b g;simp at g;rw[g];exact B.bd a k
  .intro j p e;by_cases hj:j< ~~~st
   .rw[fU hj]at e;exact B.ix j p e
   .rw[iQ (by lia)]at e;have m:=B.ix i _ B.at_;have:p=(q,d+1):=by have:=eS e;simpa using this
    rw[this];show d+1<=j;have:d<=i:=m;lia
  .intro p c;rcases gp.mp c with h|h
   .exact B.bd p h
   .simp at h;rw[h];exact dI _
  .rw[fU f];exact B.at_
theorem NZ: ∀{ps:dE} {st:mV},Bi P s x d i st->(∀q∈ps,q∈par P x/\q< ~~~P)->Bi P s x d i (ps.foldl (BF d) st)/\ ∀q∈ps,∃e,(q,e)∈ps.foldl (BF d) st/\e<=d+1
 | [],st,B,_=>⟨B,by simp⟩
 |q::ps,st,B,h=>by
  obtain⟨f,e,he,c⟩:=VR B (h q (by simp)).1 (h q (by simp)).2;let⟨g,b⟩:=NZ (ps:=ps) f λr b=>h r (by simp[b]);refine⟨g,λr a=> ?_⟩;rcases eM.mp a with rfl|a
  .exact⟨e,Hs (vZ d ps _) he,c⟩
  .exact b r a
def KW{P:fu}{s:Nat}{st:mV}{i:Nat}{p:Nat×Nat}(g: ∀i q,q∈par P i->q< ~~~P)(B:Bf P s st i)(h:st[i]?=some p):Bf P s (xA P st p.1 p.2) (i+1):=by
 have v:Bi P s p.1 p.2 i st:=⟨B.nodup,B.lt,B.up,B.mono,B.ix,B.top p h,h⟩;let⟨b,z⟩:=NZ v λq c=>⟨c,g _ q c⟩;have a:=vZ p.2 (par P p.1) st;unfold xA;refine⟨b.nodup,b.lt,Hs a B.here,b.up,b.mono,b.ix,?_,?_⟩
 .intro q c r d;have x:=b.bd r d;have n:=IB.mp b.mono;let⟨(u),w⟩:=dH.mp b.at_;let⟨(t),m⟩:=dH.mp c;have:=n i (i+1) u t (by lia);rw[w,m]at this;lia
 .intro j q y c r d;by_cases e:j=i
  .subst e;rw[b.at_]at c;cases c
   simp_all
  .have l:j<i:=by lia
   have o:=(dH.mp h).1;have f:st[j]?=some st[j]:=df (by lia);have:q=st[j]:=by
    have:=VW a f
    grind
   subst this;let⟨(e),he,k⟩:=B.done j _ l f r d;exact⟨e,Hs a he,k⟩
def MT(a: ∀i q,q∈par P i->q< ~~~P): ∀(k:Nat) (st:mV) (i:Nat),Bf P s st i->i<= ~~~st-> ~~~P+1<=k+i-> ∃j,Bf P s (oQ P k st i) j/\(oQ P k st i).length<=j:=by
 intro k;induction k with
 |zero=>intro st i B e hk;have:=oK (~~~P) _ B.nodup (λx d=>by let⟨(p),b,rfl⟩:=dk.mp d;exact B.lt p b);simp at this;lia
 |succ k ih=>
  intro st i B e hk;unfold oQ;cases h:st[i]? with
  |none=>exact⟨i,B,sM.mp h⟩
  |some p=>have c:=(dH.mp h).1;have:=(vZ p.2 (par P p.1) st).length_le;exact ih _ (i+1) (KW a B h) (by unfold xA;lia) (by lia)
theorem Up.last: ∀{k a c:Nat},Up P (k+1) a c-> ∃b,Up P k a b/\c∈par P b
 |0,a,c,⟨d,hd,e⟩=>⟨a,rfl,by have:d=c:=e;rw[<-this];exact hd⟩
 |k+1,a,c,⟨d,hd,h⟩=>by let⟨(b),f,g⟩:=Up.last h;exact⟨b,⟨d,hd,f⟩,g⟩
structure af9(P:fu)(s:Nat)(st:mV):Prop where
 nodup:(st.map (·.1)).Nodup
 lt: ∀p∈st,p.1< ~~~P
 up: ∀p∈st,Up P p.2 s p.1
 short: ∀p∈st,p.2< ~~~P
 all: ∀k y,Up P k s y-> ∃e,(y,e)∈st/\e<=k
def ui(f: ∀i q,q∈par P i->q< ~~~P)(u:s< ~~~P):af9 P s (GK P s):=by
 have t:Bf P s [(s,0)] 0:=by
  refine⟨by simp,by simpa using u,by simp,by simp[Up],by simp,?_,?_,λj p r=>by lia⟩
  .intro j p e;have:=eS e
   simp_all
  .simp_all
 let⟨(j),B,r⟩:=MT f (~~~P+1) _ 0 t (by simp) (by lia);refine⟨B.nodup,B.lt,B.up,?_,?_⟩
 .intro p d;let⟨(i),c⟩:=Oz d;have l:=B.ix i p c;have n:=(dH.mp c).1;have:=oK (~~~P) _ B.nodup (λx v=>by let⟨(p),d,rfl⟩:=dk.mp v;exact B.lt p d);simp at this;have:(GK P s).length=(oQ P (~~~P+1) [(s,0)] 0).length:=rfl;lia
 .intro k;induction k with
  |zero=>intro y h;have:s=y:=h;subst this;exact⟨0,B.here,dI _⟩
  |succ k ih=>intro y h;let⟨(b),l,n⟩:=Up.last h;let⟨(e),he,o⟩:=ih b l;let⟨(i),c⟩:=Oz he;have w:=(dH.mp c).1;let⟨(m),g,a⟩:=B.done i (b,e) (by have:(GK P s).length=(oQ P (~~~P+1) [(s,0)] 0).length:=rfl;lia) c y n;exact⟨m,g,by have:m<=e+1:=a;lia⟩
def D5(P:fu)(i:Nat):Bool:=(par P i).any λq=>pF (GK P q) i
def S0(a: ∀i q,q∈par P i->q< ~~~P)(i:Nat):D5 P i=aa5 P i:=by
 rw[je,DV];unfold D5;rw[u5];constructor
 .rintro⟨q,b,h⟩;let⟨(e),he⟩:=nX.mp h;have D:=ui a (a i q b);exact⟨e,D.short _ he,q,b,D.up _ he⟩
 .rintro⟨k,hk,q,b,h⟩;have D:=ui a (a i q b);let⟨(e),he,_⟩:=D.all k i h;exact⟨q,b,nX.mpr ⟨e,he⟩⟩
theorem DP: ∀(n:Nat) (l:dE),~~~l<=n->l.eraseDups.Nodup
 |_,[],_=>by simp
 |0,x::l,h=>by simp at h
 |n+1,x::l,h=>by
  rw[List.eraseDups_cons,fH];refine⟨?_,DP n _ ?_⟩
  .simp_all
  .have:=iB (λb=> !b==x) l;simp at h;lia
def OK(P:fu): ∀(k:Nat) (l:dE),l.Nodup->(Vw P k l).Nodup:=by
 intro k;induction k with
 |zero=>intro l h;exact h
 |succ k ih=>intro l h;exact ih _ (DP _ _ (dI _))
theorem p4(P:fu): ∀(n k:Nat) (l:dE),k<=n->(abv P n l).getD k []=Vw P k l
 |0,k,l,h=>by
  have:k=0:=by lia
  subst this;rfl
 |n+1,0,l,h=>rfl
 |n+1,k+1,l,h=>by show(l::abv P n (tL P l)).getD (k+1) []=Vw P k (tL P l);rw[<-p4 P n k _ (by lia)];rfl
theorem v9{α:Type}{R:α->α->Prop}(a: ∀x y,R x y-> ¬R y x){p:α->Bool}{x:α}: ∀{l:List α},l.Pairwise R->x∈l->p x=true->(∀y∈l,p y=true->y=x\/R x y)->l.find? p=some x
 | [],_,h,_,_=>by simp at h
 |z::l,c,b,d,g=>by
  rw[zO]at c;rw[gW];split
  .grind
  .rename_i hz;rcases eM.mp b with e|b
   .simp_all
   .exact v9 a c.2 b d λy f=>g y (by simp[f])
def Rp(x y:Nat×Nat):Prop:=x.1+x.2<y.1+y.2\/(x.1+x.2=y.1+y.2/\x.1<y.1)
def zW(n:Nat):(rf n).Pairwise Rp:=by
 unfold rf;rw[lu];refine⟨?_,?_⟩
 .intro s f;rw[fQ];refine kY ?_ (iT);intro a b l g c;have:=eO.mp g;right;lia
 .refine kY ?_ (iT);intro s t f j d x h y i;let⟨(u),e,rfl⟩:=dk.mp h;let⟨(v),k,rfl⟩:=dk.mp i;have:=eO.mp e;left;lia
def sv:x∈rf n↔x.1+x.2<=2*n:=by
 unfold rf;rw[g9];constructor
 .grind
 .intro h;refine⟨x.1+x.2,eO.mpr (by lia),dk.mpr ⟨x.1,eO.mpr (by lia),?_⟩⟩
  simp_all
noncomputable def look(st:mV)(q:Nat):Option Nat:=(st.find? λp=>p.1==q).map (·.2)
def ze(hd:(st.map (·.1)).Nodup):look st q=some e↔(q,e)∈st:=by
 induction st with
 |nil=>simp[look]
 |cons p st ih=>
  rw[dt,fH]at hd;unfold look;rw[gW];split
  .grind
  .rename_i h;have:=ih hd.2;unfold look at this
   grind
def xi(a:mV)(p:Nat×Nat):Option (Nat×Nat):=(look a p.1).map λe=>(p.2+e,p.2)
def ties(P:fu)(a b:Nat):List (Nat×Nat):=(GK P a).filterMap (xi (GK P b))
section
variable (hlt: ∀i q,q∈par P i->q< ~~~P) (ha:a< ~~~P) (hb:b< ~~~P)
include hlt ha hb
theorem vO:m∈ties P a b↔ ∃c e,(c,m.2)∈GK P a/\(c,e)∈GK P b/\m.1=m.2+e:=by
 have d:=ui hlt hb;unfold ties;rw[zP];constructor
 .rintro⟨p,i,h⟩;unfold xi at h;cases e:look (GK P b) p.1 with
  |none=>simp_all
  |some g=>rw[e]at h;cases h;exact⟨p.1,g,i,(ze d.nodup).mp e,rfl⟩
 .rintro⟨c,e,f,j,k⟩;refine⟨(c,m.2),f,?_⟩;unfold xi;rw[(ze d.nodup).mpr j];show some (m.2+e,m.2)=some m;rw[<-k]
noncomputable def qi(P:fu)(a b:Nat)(x:Nat×Nat):List Nat:=((abv P (2* ~~~P) [a]).getD x.1 []).filter λc=>((abv P (2* ~~~P) [b]).getD x.2 []).contains c
omit hlt ha hb in
theorem Ry:xK P a b=((rf (~~~P)).find? λx=> !(qi P a b x).isEmpty).map λx=>(x.1,x.2,(qi P a b x).length):=rfl
omit hlt ha hb in
def zd(d:x∈rf (~~~P)):c∈qi P a b x↔Up P x.1 a c/\Up P x.2 b c:=by have h:=sv.mp d;unfold qi;rw[p4 P _ _ _ (by lia),p4 P _ _ _ (by lia),eX];simp[Cn]
omit hlt ha hb in
def MS(c:x∈rf (~~~P)):(qi P a b x).Nodup:=by have h:=sv.mp c;unfold qi;rw[p4 P _ _ _ (by lia),p4 P _ _ _ (by lia)];exact(OK P _ _ (by simp)).filter _
omit hlt ha hb in
def Ij:(!(qi P a b x).isEmpty)=true↔ ∃c,c∈qi P a b x:=by
 cases h:qi P a b x with
 |nil=>simp
 |cons y l=>simp
theorem Rx(h:ties P a b=[]):xK P a b=none:=by rw[Ry,uX,oB];intro x k d;let⟨(c),d⟩:=Ij.mp d;let⟨i,j⟩:=(zd k).mp d;let⟨(e),he,_⟩:=(ui hlt ha).all _ _ i;let⟨(g),f,_⟩:=(ui hlt hb).all _ _ j;have:(e+g,e)∈ties P a b:=(vO hlt ha hb).mpr ⟨c,g,he,f,rfl⟩;rw[h]at this;simp at this
theorem Rw{m:Nat×Nat}(h:m∈ties P a b)(E: ∀y∈ties P a b,¬(y.1<m.1\/(y.1=m.1/\y.2<m.2))):xK P a b=some (m.2,m.1-m.2,(ties P a b).count m):=by
 have k:=ui hlt ha;have j:=ui hlt hb;let⟨c e,z,B,H⟩:=(vO hlt ha hb).mp h;have o:(m.2,e)∈rf (~~~P):=sv.mpr (by
  have:=k.short _ z;have:=j.short _ B;show m.2+e<=_;have:m.2< ~~~P:=by assumption
  have:e< ~~~P:=by assumption
  lia)
 have N:(rf (~~~P)).find? (λx=> !(qi P a b x).isEmpty)=some (m.2,e):=by
  refine v9 (R:=Rp) ?_ (zW _) o (Ij.mpr ⟨c,(zd o).mpr ⟨k.up _ z,j.up _ B⟩⟩) ?_
  .intro x y h h';unfold Rp at h h';lia
  .intro y M s;let⟨(d),hd⟩:=Ij.mp s;let⟨g1,g2⟩:=(zd M).mp hd;let⟨(u),n,g⟩:=k.all _ _ g1;let⟨(v),r,i⟩:=j.all _ _ g2;have:=E _ ((vO hlt ha hb).mpr ⟨d,v,n,r,(rfl:(u+v,u).1=_)⟩);have I: ¬(u+v<m.1\/(u+v=m.1/\u<m.2)):=this;by_cases q:y=(m.2,e)
   .exact .inl q
   .right;show m.2+e<y.1+y.2\/(m.2+e=y.1+y.2/\m.2<y.1);by_cases t:y.1=m.2
    .by_cases C:y.2=e
     .exact absurd (xF t C) q
     .lia
    .lia
 rw[Ry,N];show some (m.2,e,(qi P a b (m.2,e)).length)=_;have G:m.1-m.2=e:=by lia
 rw[G];have O:(qi P a b (m.2,e)).length=(ties P a b).count m:=by
  unfold ties;rw[List.count_filterMap,List.countP_eq_length_filter];refine Eq.trans ?_ (dA (λp:Nat×Nat=>p.1));refine IZ ((lh (MS o) ?_).mpr ?_)
  .exact k.nodup.sublist (List.filter_sublist.map _)
  .intro d;rw[zd o,dk];constructor
   .rintro⟨g1,g2⟩;let⟨(u),n,g⟩:=k.all _ _ g1;let⟨(v),r,i⟩:=j.all _ _ g2;have:=E _ ((vO hlt ha hb).mpr ⟨d,v,n,r,(rfl:(u+v,u).1=_)⟩);have I: ¬(u+v<m.1\/(u+v=m.1/\u<m.2)):=this;have A:u=m.2:=by have:u<=m.2:=g;have:v<=e:=i;lia
    have J:v=e:=by have:u<=m.2:=g;have:v<=e:=i;lia
    subst J;refine⟨(d,u),eX.mpr ⟨n,?_⟩,rfl⟩;unfold xi;rw[(ze j.nodup).mpr r];have:m=(u+v,u):=xF (by rw[H,A]) A.symm;rw[this];simp
   .rintro⟨p,s,rfl⟩;let⟨w,f⟩:=eX.mp s;unfold xi at f;cases q:look (GK P b) p.1 with
    |none=>rw[q]at f;simp at f
    |some v=>
     rw[q]at f;have l:(p.2+v,p.2)=m:=by simpa using f
     have t:p.2=m.2:=by rw[<-l]
     have C:p.2+v=m.1:=by rw[<-l]
     have F:v=e:=by lia
     subst F;rw[<-t];exact⟨k.up _ w,j.up _ ((ze j.nodup).mp q)⟩
 rw[O]
end
section
variable {K V:Type} [DecidableEq K]
noncomputable def gB(l:List (K×V))(k:K):Option V:=(l.find? λq=>decide (q.1=k)).map (·.2)
noncomputable def kX(l:List (K×V))(k:K)(v:V):List (K×V):=if(l.any λq=>decide (q.1=k))=true then l.map (λq=>if q.1=k then(q.1,v)else q)else l++ [(k,v)]
theorem uk{l:List (K×V)}{k:K}:(l.any λq=>decide (q.1=k))=true↔k∈l.map (·.1):=by simp
theorem Ge(l:List (K×V))(k:K)(v:V):(kX l k v).map (·.1)=if k∈l.map (·.1)then l.map (·.1)else l.map (·.1)++ [k]:=by
 unfold kX;split
 .rename_i h;rw[dq (uk.mp h),dm];apply map_congr;intro q _;show(if q.1=k then(q.1,v)else q).1=q.1;split<;>rfl
 .rename_i h;rw[di (λc=>h (uk.mpr c))];simp
theorem xQ{l:List (K×V)}{k:K}{v:V}(h:(l.map (·.1)).Nodup):((kX l k v).map (·.1)).Nodup:=by
 rw[Ge];split
 .exact h
 .rename_i d;rw[gE];refine⟨h,by simp,?_⟩;intro a f b c e;simp at c;subst c;subst e;exact d f
theorem JD{l:List (K×V)}{k a:K}{v:V}:a∈(kX l k v).map (·.1)↔a∈l.map (·.1)\/a=k:=by
 rw[Ge];split
 .simp_all
 .simp
theorem gV(q:K×V)(l:List (K×V))(k:K):gB (q::l) k=if q.1=k then some q.2 else gB l k:=by unfold gB;by_cases h:q.1=k<;>simp[h]
theorem qI{l:List (K×V)}{k:K}:gB l k=none↔k∉l.map (·.1):=by
 induction l with
 |nil=>simp[gB]
 |cons q l ih=>
  rw[gV];by_cases h:q.1=k
  .simp[h]
  .rw[di h,ih];simp[gk h]
theorem zi{l:List (K×V)}{k:K}{v:V}(h:gB l k=some v):(k,v)∈l:=by
 induction l with
 |nil=>trivial
 |cons q l ih=>
  rw[gV]at h
  grind
theorem Bo{l:List (K×V)}(hd:(l.map (·.1)).Nodup){k:K}{v:V}(h:(k,v)∈l):gB l k=some v:=by
 induction l with
 |nil=>simp at h
 |cons q l ih=>
  rw[gV]
  grind
theorem tm(l:List (K×V))(k a:K)(v:V):gB (kX l k v) a=if k=a then some v else gB l a:=by
 unfold kX;split
 .rename_i b;have h:=uk.mp b;clear b;induction l with
  |nil=>simp at h
  |cons q l ih=>
   rw[dt,gV,gV];by_cases e:q.1=k
   .rw[dq e];subst e;by_cases e2:q.1=a
    .simp[e2]
    .simp only[e2,hJ];by_cases hk:q.1∈l.map (·.1)
     .simp_all
     .have:l.map (λp=>if p.1=q.1 then(p.1,v)else p)=l:=by
       conv=>rhs;rw[<-Ox l]
       apply map_congr
       grind
      rw[this]
   .grind
 .rename_i b;have h:=λc=>b (uk.mpr c);clear b;induction l with
  |nil=>simp[gB]
  |cons q l ih=>
   rw[u4,gV,gV];simp at h;by_cases e2:q.1=a
   .rw[dq e2,dq e2,di (λc=>h.1 (by rw[c];exact e2.symm))]
   .rw[di e2,di e2];exact ih (by simpa using h.2)
noncomputable def W(f:K->Nat)(l:List (K×Nat)):Nat:=(l.map λq=>q.2*f q.1).sum
def bump(l:List (K×Nat))(k:K)(n:Nat):List (K×Nat):=kX l k ((gB l k).getD 0+n)
theorem oR(f:K->Nat)(q:K×Nat)(l:List (K×Nat)):W f (q::l)=q.2*f q.1+W f l:=by unfold W;simp
theorem UB(f:K->Nat)(l m:List (K×Nat)):W f (l++m)=W f l+W f m:=by unfold W;simp
theorem uq(f:K->Nat){l:List (K×Nat)}(hd:(l.map (·.1)).Nodup)(k:K)(n:Nat):W f (bump l k n)=W f l+n*f k:=by
 unfold bump kX;split
 .rename_i a;have h:=uk.mp a;clear a;induction l with
  |nil=>simp at h
  |cons q l ih=>
   rw[dt,oR,oR,gV];by_cases e:q.1=k
   .subst e;rw[dq rfl,dq rfl];have:l.map (λp=>if p.1=q.1 then(p.1,(some q.2).getD 0+n)else p)=l:=by
     conv=>rhs;rw[<-Ox l]
     apply map_congr
     grind
    rw[this];show(q.2+n)*f q.1+_=_
    grind
   .rw[di e,di e]
    grind
 .rename_i h;have h:=λc=>h (uk.mpr c);rw[qI.mpr h,UB,oR];show _+((0+n)*f k+W f [])=_;simp[W]
end
abbrev Ch:=Nat->Bool->Bool
def ch0:Ch:=λ_ _=>false
noncomputable def xO(a:Ch)(c:Nat)(x y:Bool):Ch:=λi s=>if i=c then(if s=true then y else x)else a i s
def four(g:Bool->Bool->Nat):Nat:=g false false+g true false+(g false true+g true true)
def zV:List Nat->(Ch->Nat)->Nat
 | [],F=>F ch0
 |c::a,F=>zV a λb=>four λx y=>F (xO b c x y)
def qO(h: ∀χ,F χ=G χ):zV cs F=zV cs G:=by rw[funext h]
def OM(h:c≠d)(x y u v:Bool):xO (xO χ c x y) d u v=xO (xO χ d u v) c x y:=by
 funext i s;unfold xO;by_cases e:i=c
 .simp_all
 .simp[e]
def Qg(g:Bool->Bool->Bool->Bool->Nat):(four λx y=>four λu v=>g x y u v)=four λu v=>four λx y=>g x y u v:=by dsimp only[four];lia
def O4(h:l.Perm m): ∀F,zV l F=zV m F:=by
 induction h with
 |nil=>lia
 |cons x _ ih=>intro F;exact ih _
 |swap x y l=>
  intro F;by_cases e:x=y
  .simp_all
  .show zV l _=zV l _;apply qO;intro c;rw[Qg];simp only[OM e]
 |trans _ _ b a=>grind
def KQ(c:Nat)(a:dE)(x y:Bool)(r:Way):mY (c::a) (x::y::r)=xO (mY a r) c x y:=by
 funext i s;unfold mY xO;by_cases e:i=c
 .subst e;cases s<;>simp
 .rw[di e];have:(c::a).idxOf i=a.idxOf i+1:=by
   grind
  rw[this];cases s
  .rfl
  .rfl
def l7{α a:Type}(f:a->Nat)(g:α->List a): ∀l:List α,((l.flatMap g).map f).sum=(l.map λx=>((g x).map f).sum).sum:=by
 intro l;induction l with
 |nil=>rfl
 |cons x l ih=>simp[ih]
def RH: ∀(a:dE) (F:Ch->Nat),((Ir (2* ~~~a)).map λw=>F (mY a w)).sum=zV a F:=by
 intro a;induction a with
 |nil=>intro F;rfl
 |cons c a ih=>intro F;show((Ir (2* ~~~a+1+1)).map _).sum=zV a _;rw[<-ih];show(((Ir (2* ~~~a+1)).flatMap _).map _).sum=_;rw[l7];show((((Ir (2* ~~~a)).flatMap _)).map _).sum=_;rw[l7];congr 1;apply map_congr;intro r _;simp only[dt,KQ];rfl
def qR(c a mg g:Nat):Nat:=if g=2*c then a else if g=2*c+1 then mg else g
abbrev yB:=List (List Nat×Nat)
def qt(a:yB)(row:dE)(c f m n:Nat):yB:=[2*f,2*f+1].foldl (λa b=> [2*m,2*m+1].foldl (λa mg=>bump a (row.map (qR c b mg)) n) a) a
def past(a:yB)(c f m:Nat):yB:=a.foldl (λb q=>qt b q.1 c f m q.2) []
def uE(P:fu)(a:yB)(x:Nat):yB:=match(person P x).parents with
 |some p=>past a x p.1 p.2
 |none=>a
def jE(P:fu)(a:yB)(b:dE):yB:=b.foldl (uE P) a
noncomputable def bt(b:Bool):Nat:=if b=true then 1 else 0
def ja{K:Type} [DecidableEq K]{l:List (K×Nat)}(k:K)(n:Nat)(h:(l.map (·.1)).Nodup):((bump l k n).map (·.1)).Nodup:=xQ h
def Ao{l:dE}(h:l.Nodup):l.reverse.Nodup:=by rw[eI,List.pairwise_reverse];exact(eI.mp h).imp λh=>gk h
def TC(f:List Nat->Nat){d:yB}(hd:(d.map (·.1)).Nodup)(row:dE)(c a b n:Nat):
  ((qt d row c a b n).map (·.1)).Nodup/\W f (qt d row c a b n)=W f d+n*four λx y=>f (row.map (qR c (2*a+bt x) (2*b+bt y))):=by
 have e:qt d row c a b n=bump (bump (bump (bump d (row.map (qR c (2*a) (2*b))) n) (row.map (qR c (2*a) (2*b+1))) n) (row.map (qR c (2*a+1) (2*b))) n) (row.map (qR c (2*a+1) (2*b+1))) n:=rfl;rw[e];have g:=ja (row.map (qR c (2*a) (2*b))) n hd;have h:=ja (row.map (qR c (2*a) (2*b+1))) n g;have i:=ja (row.map (qR c (2*a+1) (2*b))) n h;refine⟨ja _ n i,?_⟩;rw[uq f i,uq f h,uq f g,uq f hd];simp only[four,bt,mB,jv,hJ,eW,Nat.add_zero];lia
def Wd(f:List Nat->Nat)(c d e:Nat): ∀(a b:yB),(b.map (·.1)).Nodup->
  ((a.foldl (λb q=>qt b q.1 c d e q.2) b).map (·.1)).Nodup/\W f (a.foldl (λb q=>qt b q.1 c d e q.2) b)=W f b+W (λrow=>four λx y=>f (row.map (qR c (2*d+bt x) (2*e+bt y)))) a:=by
 intro a;induction a with
 |nil=>intro b hd;exact⟨hd,by simp[W]⟩
 |cons q a ih=>intro b hd;have g:=TC f hd q.1 c d e q.2;have h:=ih _ g.1;refine⟨h.1,?_⟩;show W f (a.foldl _ (qt b q.1 c d e q.2))=_;rw[h.2,g.2,oR];lia
def ZF(f:List Nat->Nat)(a:yB)(c b d:Nat):W f (past a c b d)=W (λrow=>four λx y=>f (row.map (qR c (2*b+bt x) (2*d+bt y)))) a:=by have:=(Wd f c b d a [] (by simp)).2;unfold past;rw[this];simp[W]
noncomputable def jJ(P:fu)(x:Nat):Bool:=(person P x).parents.isSome
def sR(P:fu)(a:Ch)(x g:Nat):Nat:=match(person P x).parents with
 |some p=>qR x (2*p.1+bt (a x false)) (2*p.2+bt (a x true)) g
 |none=>g
def fin(P:fu)(a:Ch)(b:dE)(g:Nat):Nat:=b.foldl (λg x=>sR P a x g) g
theorem N0{P:fu}{b:Ch}{c:Nat}{x y:Bool}: ∀{a:dE} {g:Nat},c∉a->fin P (xO b c x y) a g=fin P b a g
 | [],g,_=>rfl
 |z::a,g,h=>by simp at h;show fin P (xO b c x y) a (sR P (xO b c x y) z g)=fin P b a (sR P b z g);rw[N0 h.2];unfold sR xO;simp[gk h.1]
def aaM(g:List Nat->Bool->Bool->Nat): ∀l:yB,W (λrow=>four (g row)) l=four λx y=>W (λrow=>g row x y) l:=by
 intro l;induction l with
 |nil=>rfl
 |cons q l ih=>rw[oR,ih];simp only[four,oR,mB];lia
def Er(f:List Nat->Nat): ∀(b:dE) (a:yB),b.Nodup->W f (jE P a b)=zV (b.filter (jJ P)) λd=>W (λrow=>f (row.map (fin P d b))) a:=by
 intro b;induction b with
 |nil=>
  intro a _;show W f a=W (λrow=>f (row.map (fin P ch0 []))) a;congr 1;funext row;congr 1
  conv=>lhs;rw[<-Ox row]
  rfl
 |cons c b ih=>
  intro a hd;rw[fH]at hd;show W f (jE P (uE P a c) b)=_;rw[ih _ hd.2];rw[gQ];unfold uE;cases e:(person P c).parents with
  |none=>
   have:jJ P c=false:=by unfold jJ;rw[e];rfl
   rw[this];apply qO;intro d;congr 1;funext row;congr 1;apply map_congr;intro g _;show _=fin P d b (sR P d c g);unfold sR;rw[e]
  |some p=>
   have:jJ P c=true:=by unfold jJ;rw[e];rfl
   rw[dq this];show zV _ _=zV _ _;apply qO;intro d;show W (λrow=>f (row.map (fin P d b))) (past a c p.1 p.2)=_;rw[ZF,aaM];congr 1;funext x y;congr 1;funext row;rw[dm];congr 1;apply map_congr;intro g _;show fin P d b (qR c (2*p.1+bt x) (2*p.2+bt y) g)=fin P (xO d c x y) b (sR P (xO d c x y) c g);rw[N0 hd.1];congr 1;unfold sR;rw[e];simp[xO]
noncomputable def zk(P:fu)(b:Ch):Nat->Nat->Bool->Gene
 |0,i,a=>(i,a)
 |n+1,i,a=>match(person P i).parents with
  |some x=>zk P b n (if a=true then x.2 else x.1) (b i a)
  |none=>(i,a)
def Tf(P:fu)(a:dE)(w:Way): ∀(n i:Nat) (s:Bool),gene P a w n i s=zk P (mY a w) n i s:=by
 intro n;induction n with
 |zero=>intro i s;rfl
 |succ n ih=>
  intro i s;show(match(person P i).parents with|some x=>gene P a w n (if s=true then x.2 else x.1) (mY a w i s)|none=>(i,s))=(match(person P i).parents with|some x=>zk P (mY a w) n (if s=true then x.2 else x.1) (mY a w i s)|none=>(i,s));cases (person P i).parents with
  |none=>rfl
  |some x=>exact ih _ _
theorem zj(G:Good P)(a:Ch): ∀(r k b i:Nat) (s:Bool),rk P i<r->rk P i<k->rk P i<b->zk P a k i s=zk P a b i s
 |0,_,_,_,_,h,_,_=>by lia
 |r+1,0,_,_,_,_,h,_=>by lia
 |r+1,k+1,0,_,_,_,_,h=>by lia
 |r+1,k+1,b+1,i,s,h,d,f=>by
  show(match(person P i).parents with|some x=>zk P a k (if s=true then x.2 else x.1) (a i s)|none=>(i,s))=(match(person P i).parents with|some x=>zk P a b (if s=true then x.2 else x.1) (a i s)|none=>(i,s));cases e:(person P i).parents with
  |none=>rfl
  |some x=>
   have c:(if s=true then x.2 else x.1)∈par P i:=by unfold par;rw[e];cases s<;>simp
   have:=LR G c;exact zj G a r k b _ _ (by lia) (by lia) (by lia)
def jt(P:fu)(a:Ch)(i:Nat)(s:Bool):Gene:=zk P a (~~~P) i s
theorem Tg(G:Good P)(a:Ch)(b:i< ~~~P)(s:Bool):jt P a i s=match(person P i).parents with
  |some x=>jt P a (if s=true then x.2 else x.1) (a i s)
  |none=>(i,s):=by
 have h:=RV G b;have e:jt P a i s=zk P a (~~~P+1) i s:=zj G a (~~~P+1) _ _ i s (by lia) h (by lia);assumption
def enc(g:Gene):Nat:=2*g.1+bt g.2
def N3:enc g=enc h↔g=h:=by
 constructor
 .intro e;unfold enc bt at e
  grind
 .grind
def ZG(h:i≠c):qR c fg mg (2*i+bt s)=2*i+bt s:=by
 unfold qR bt
 grind
def ZH:qR c fg mg (2*c+bt s)=if s=true then mg else fg:=by unfold qR bt;cases s<;>simp
def Jt(h:i≠x):sR P χ x (2*i+bt s)=2*i+bt s:=by
 unfold sR;split
 .exact ZG h
 .rfl
theorem N1: ∀{a:dE},i∉a->fin P χ a (2*i+bt s)=2*i+bt s
 | [],_=>rfl
 |z::a,h=>by simp at h;show fin P χ a (sR P χ z (2*i+bt s))=_;rw[Jt h.1,N1 h.2]
def HY(G:Good P)(b:Ch): ∀(o:dE),Ord P o-> ∀i s,i∈o->fin P b o.reverse (2*i+bt s)=enc (jt P b i s):=by
 intro o;generalize hn: ~~~o=n;induction n generalizing o with
 |zero=>simp_all
 |succ n ih=>
  intro g i s l;have f:o≠ []:=by intro e;simp[e]at hn
  obtain⟨d,x,rfl⟩: ∃d x,o=d++ [x]:=⟨o.dropLast,o.getLast f,(qL f).symm⟩;have hd:=g.nodup;rw[gE]at hd;have w:=λh=>hd.2.2 x h x (by simp) rfl;have m:=g.lt x (by simp);have r:=g.before d [] x rfl;have j:Ord P d:=⟨hd.1,λi l=>g.lt i (by simp[l]),λa c i e q u=>g.before a (c++ [x]) i (by simp[e]) q u⟩;rw[QP];show fin P b d.reverse (sR P b x (2*i+bt s))=_;have k:=ih d (by simp at hn;exact hn) j;by_cases e:i=x
  .subst e;rw[Tg G b m];unfold sR;cases e:(person P i).parents with
   |none=>rw[N1 (by simpa using w)];rfl
   |some p=>
    show fin P b d.reverse (qR i (2*p.1+bt (b i false)) (2*p.2+bt (b i true)) (2*i+bt s))=enc (jt P b (if s=true then p.2 else p.1) (b i s));rw[ZH];have t:=r p.1 (by unfold par;rw[e];simp);have v:=r p.2 (by unfold par;rw[e];simp);cases s
    .exact k p.1 (b i false) t
    .exact k p.2 (b i true) v
  .rw[Jt e];exact k i s (by simpa [e]using l)
def sD(G:Good P):(gd P).Perm ((eV P).reverse.filter (jJ P)):=by
 have a:=gD G;refine(lh ?_ ?_).mpr ?_
 .exact gZ.filter _
 .exact((Ao a.1.nodup)).filter _
 .intro x;unfold gd;rw[eX,eX,eO,List.mem_reverse,iJ G];rfl
def Jg(G:Good P)(F:Ch->Nat):sumOf ((ways P).map λw=>F (mY (gd P) w))=zV ((eV P).reverse.filter (jJ P)) F:=by rw[sQ];unfold ways;rw[RH,O4 (sD G)]
def j6(P:fu):List Nat:=(eV P).reverse
noncomputable def Fj(a b:Nat):yB:=[([2*a,2*b],1),([2*a,2*b+1],1),([2*a+1,2*b],1),([2*a+1,2*b+1],1)]
def C7(row:dE):Nat:=if row.getD 0 0=row.getD 1 0 then 1 else 0
def Z5(g h:Gene):(if enc g=enc h then 1 else 0:Nat)=if g=h then 1 else 0:=by simp[N3]
def RQ(P:fu)(a b:Nat)(c:Ch):Nat:=(if jt P c a false=jt P c b false then 1 else 0)+(if jt P c a false=jt P c b true then 1 else 0)+(if jt P c a true=jt P c b false then 1 else 0)+(if jt P c a true=jt P c b true then 1 else 0)
def WB{P:fu}(G:Good P){a b:Nat}(m:a< ~~~P)(j:b< ~~~P):W C7 (jE P (Fj a b) (j6 P))=sumOf ((ways P).map λw=>sames P (gd P) w a b):=by
 have d:=gD G;rw[Er C7 (j6 P) _ (Ao d.1.nodup)];have e: ∀w,sames P (gd P) w a b=RQ P a b (mY (gd P) w):=by
  intro w;unfold sames geneOf;simp only[Tf];show _=(if jt P (mY (gd P) w) a false=jt P (mY (gd P) w) b false then 1 else 0)+(if jt P (mY (gd P) w) a false=jt P (mY (gd P) w) b true then 1 else 0)+(if jt P (mY (gd P) w) a true=jt P (mY (gd P) w) b false then 1 else 0)+(if jt P (mY (gd P) w) a true=jt P (mY (gd P) w) b true then 1 else 0);simp only[jt,gQ,XF,beq_iff_eq]
  repeat' split
  all_goals simp_all
 rw[map_congr (λw _=>e w)];rw[Jg G (RQ P a b)];apply qO;intro c;have f:=λs=>HY G c (eV P) d.1 a s ((iJ G).mpr m);have g:=λs=>HY G c (eV P) d.1 b s ((iJ G).mpr j);have k:fin P c (j6 P) (2*a)=enc (jt P c a false):=f false;have h:fin P c (j6 P) (2*a+1)=enc (jt P c a true):=f true;have l:fin P c (j6 P) (2*b)=enc (jt P c b false):=g false;have i:fin P c (j6 P) (2*b+1)=enc (jt P c b true):=g true;unfold Fj RQ;simp only[oR,dt,jw,k,h,l,i,C7,nT,nU,Z5,aeE];simp only[W,jw,List.sum_nil];lia
def DU: ∀e,By e [0]=([0],0):=by
 intro e;induction e with
 |zero=>rfl
 |succ e ih=>unfold By;simp[ih]
def PN: ∀e x,By e [x]=([(lowest e x).1],(lowest e x).2):=by
 intro e;induction e with
 |zero=>intro x;rfl
 |succ e ih=>
  intro x;unfold By lowest;by_cases h:x=0
  .subst h;simp[DU e]
  .by_cases h2:x%2=0
   .simp[h,h2,ih]
   .simp_all
def ZV(G:Good P)(d:a< ~~~P)(c:b< ~~~P):By (2*(gd P).length+2) [W C7 (jE P (Fj a b) (j6 P))]=([(kS P a b).1],(kS P a b).2):=by rw[PN,WB G d c];rfl
noncomputable def pq(row:dE):Nat:=
 let b:=row.getD 0 0
 let d:=row.getD 1 0
 let a:=row.getD 2 0
 let c:=row.getD 3 0
 if b=d/\a=c then(if b=a/\d=c then 1 else 2)
 else if b=d then(if b=a\/b=c then 3 else 4)
 else if a=c then(if a=b\/a=d then 5 else 6)
 else 9-((if b=a\/b=c then 1 else 0)+if d=a\/d=c then 1 else 0)
def O6(g1 g2 g3 a:Gene):pq [enc g1,enc g2,enc g3,enc a]=stateOf g1 g2 g3 a:=by
 unfold pq stateOf;simp only[nT,nU,N3];by_cases h1:g1=g2
 .simp_all
 .by_cases h2:g3=a
  .simp_all
  .simp only[h2];by_cases e1:g1=g3<;>by_cases e2:g1=a<;>by_cases e3:g2=g3<;>by_cases e4:g2=a<;>simp_all
def yS(row:dE):1<=pq row/\pq row<=9:=by
 unfold pq;simp only
 repeat' split
 all_goals lia
def se(ns:dE)(q:List Nat×Nat):List Nat:=ns.set (pq q.1-1) (ns.getD (pq q.1-1) 0+q.2)
def Ux: ∀(l:yB) (ns:dE),~~~ns=9->(l.foldl se ns).length=9/\ ∀k,k<9->(l.foldl se ns).getD k 0=ns.getD k 0+W (λrow=>if pq row=k+1 then 1 else 0) l:=by
 intro l;induction l with
 |nil=>intro ns h;exact⟨h,λk hk=>by simp[W]⟩
 |cons q l ih=>
  intro ns h;have a:(se ns q).length=9:=by unfold se;simp[h]
  let⟨b,c⟩:=ih (se ns q) a;refine⟨b,λk hk=> ?_⟩;have d:=c k hk;show(l.foldl se (se ns q)).getD k 0=_;rw[d,oR];have f:=yS q.1;have:(se ns q).getD k 0=ns.getD k 0+q.2*(if pq q.1=k+1 then 1 else 0):=by
   unfold se;by_cases e:pq q.1=k+1
   .simp_all
   .rw[og (by lia),di e];lia
  lia
def rR(a b:Nat):yB:=[([2*a,2*a+1,2*b,2*b+1],1)]
def wG(P:fu)(a b:Nat):List Nat:=(jE P (rR a b) (j6 P)).foldl se (fP 9 0)
def Qq{α:Type} [DecidableEq α](x:α): ∀l:List α,l.count x=(l.map λy=>if y=x then 1 else 0).sum:=by
 intro l;induction l with
 |nil=>rfl
 |cons y l ih=>
  rw[XG,dt,gL,ih]
  grind
def LL(G:Good P)(t:a< ~~~P)(n:b< ~~~P):wG P a b=(eE 9).map λk=>((ways P).map λw=>state P (gd P) w a b).count (k+1):=by
 have h:=gD G;let⟨f,d⟩:=Ux (jE P (rR a b) (j6 P)) (fP 9 0) (by simp);apply nH
 .assumption
 .intro k l g;have hk:k<9:=by simpa using g
  have o:=d k hk;have p:(wG P a b)[k]=(wG P a b).getD k 0:=by
   simp_all
  rw[p];show(List.foldl se _ _).getD k 0=_;rw[o];have r:(fP 9 0).getD k 0=0:=by rw[dG,jk];split<;>rfl
  rw[r,rL,Er _ (j6 P) _ (Ao h.1.nodup)];rw[Vj,Q5,Qq,dm];have e: ∀w,((λy=>if y=k+1 then 1 else 0)∘λw=>state P (gd P) w a b) w=(λc=>if stateOf (jt P c a false) (jt P c a true) (jt P c b false) (jt P c b true)=k+1 then 1 else 0) (mY (gd P) w):=by intro w;show(if state P (gd P) w a b=k+1 then 1 else 0)=_;unfold state geneOf;simp only[Tf];rfl
  have:=Jg G (λc=>if stateOf (jt P c a false) (jt P c a true) (jt P c b false) (jt P c b true)=k+1 then 1 else 0);rw[map_congr (λw _=>e w)];rw[sQ]at this;rw[this];apply qO;intro c;have f:=λs=>HY G c (eV P) h.1 a s ((iJ G).mpr t);have d:=λs=>HY G c (eV P) h.1 b s ((iJ G).mpr n);have j:fin P c (j6 P) (2*a)=enc (jt P c a false):=f false;have q:fin P c (j6 P) (2*a+1)=enc (jt P c a true):=f true;have i:fin P c (j6 P) (2*b)=enc (jt P c b false):=d false;have m:fin P c (j6 P) (2*b+1)=enc (jt P c b true):=d true;unfold rR;simp only[oR,dt,jw,j,q,i,m,O6];simp[W]
def O5(G:Good P)(d:a< ~~~P)(c:b< ~~~P):By (2*(gd P).length) (wG P a b)=kG P a b:=by rw[LL G d c];rfl
abbrev Om:=Nat->Nat×Nat
abbrev As:=Nat->Pair
def om0:Om:=λ_=>(0,0)
def EM:As:=λ_=>(0,0)
noncomputable def nW(ω:Om)(i:Nat)(v:Nat×Nat):Om:=λj=>if j=i then v else ω j
def OL(h:i≠j)(u v:Nat×Nat):nW (nW ω i u) j v=nW (nW ω j v) i u:=by
 funext k;unfold nW;by_cases e:k=i
 .simp_all
 .simp[e]
noncomputable def alone(P:fu)(L:Place)(i:Nat):Bool:=L.bySex&&(person P i).man
def sJ(L:Place)(x:Nat):Nat:=L.weights.getD x 0
def SJ(P:fu)(L:Place)(i:Nat):List ((Nat×Nat)×Nat):=match(person P i).parents with
 |some _=> [((0,0),1),((1,0),1),((0,1),1),((1,1),1)]
 |none=>if alone P L i=true then(eE L.kinds).map λy=>((0,y),sJ L y)
  else(eE L.kinds).flatMap λy=>(eE L.kinds).map λx=>((x,y),sJ L y*sJ L x)
def rm(P:fu)(L:Place):List Nat->Om->(Om->Nat)->Nat
 | [],ω,F=>F ω
 |i::is,ω,F=>W (λv=>rm P L is (nW ω i v) F) (SJ P L i)
section
variable {K J:Type}
def nR{f g:K->Nat}{l:List (K×Nat)}(h: ∀q∈l,f q.1=g q.1):W f l=W g l:=by unfold W;congr 1;exact map_congr λq a=>by rw[h q a]
def Uy(l:List (K×Nat)):W (λ_=>0) l=0:=by unfold W;exact tU _ _ λ_ _=>by simp
def ads(f g:K->Nat): ∀l:List (K×Nat),W (λk=>f k+g k) l=W f l+W g l:=by
 intro l;induction l with
 |nil=>rfl
 |cons q l ih=>simp only[W,dt,gL,mB];have:=ih;simp only[W,mB]at this;lia
def adq(c:Nat)(f:K->Nat): ∀l:List (K×Nat),W (λk=>c*f k) l=c*W f l:=by
 intro l;induction l with
 |nil=>rfl
 |cons q l ih=>have:=ih;simp only[W,dt,gL,mB]at this⊢;rw[this,Vi]
def aaN(f:K->J->Nat)(m:List (J×Nat)): ∀l:List (K×Nat),W (λk=>W (λj=>f k j) m) l=W (λj=>W (λk=>f k j) l) m:=by
 intro l;induction l with
 |nil=>
  have:(λj=>W (λk=>f k j) ([]:List (K×Nat)))=λ_=>0:=by funext j;rfl
  rw[this,Uy];rfl
 |cons q l ih=>
  have h:=ih;have:(λj=>W (λk=>f k j) (q::l))=λj=>q.2*f q.1 j+W (λk=>f k j) l:=by rfl
  rw[this,ads,adq,<-h];simp[W]
def Uz{α:Type}(f:K->α->Nat)(m:List α): ∀l:List (K×Nat),W (λk=>(m.map λa=>f k a).sum) l=(m.map λa=>W (λk=>f k a) l).sum:=by
 intro l;induction l with
 |nil=>exact(tU _ _ λ_ _=>rfl).symm
 |cons q l ih=>
  have h:=ih;have e: ∀a,W (λk=>f k a) (q::l)=q.2*f q.1 a+W (λk=>f k a) l:=λa=>by simp[W]
  rw[map_congr (λa _=>e a),sum_map_add,Jr,<-h];simp[W]
def Bv{M:Type}(f:K->Nat)(g:M->K)(c:M->Nat)(l:List M):W f (l.map λx=>(g x,c x))=(l.map λx=>c x*f (g x)).sum:=by unfold W;rw[dm];rfl
def wV{M:Type}(f:K->Nat)(g:M->List (K×Nat))(l:List M):W f (l.flatMap g)=(l.map λx=>W f (g x)).sum:=by unfold W;rw[l7]
end
section
theorem vz: ∀{is:dE} {ω:Om} {F G:Om->Nat},(∀a,(∀j,j∉is->a j=ω j)->F a=G a)->rm P L is ω F=rm P L is ω G
 | [],ω,F,G,h=>h ω λ_ _=>rfl
 |i::is,ω,F,G,h=>by
  apply nR;intro q _;apply vz;intro a h';apply h;intro j b;simp at b;rw[h' j b.2];unfold nW
  simp_all
def O3{l m:dE}(h:l.Perm m): ∀ω F,rm P L l ω F=rm P L m ω F:=by
 induction h with
 |nil=>intro ω F;rfl
 |cons x _ ih=>intro ω F;show W _ _=W _ _;exact nR λq _=>ih _ _
 |swap x y l=>
  intro ω F;by_cases e:x=y
  .subst e;rfl
  .show W (λv=>W (λu=>rm P L l (nW (nW ω y v) x u) F) (SJ P L x)) (SJ P L y)=W (λu=>W (λv=>rm P L l (nW (nW ω x u) y v) F) (SJ P L y)) (SJ P L x);rw[aaN];apply nR;intro q _;apply nR;intro r _;rw[OL e]
 |trans _ _ a b=>intro ω F;rw[a,b]
def Js: ∀(l m:dE) (ω:Om) (F:Om->Nat),rm P L (l++m) ω F=rm P L l ω λa=>rm P L m a F:=by
 intro l;induction l with
 |nil=>intro m ω F;rfl
 |cons i l ih=>intro m ω F;exact nR λq _=>ih m _ F
def O2{is:dE}: ∀{ω:Om},rm P L is ω (λ_=>0)=0:=by
 induction is with
 |nil=>intro ω;rfl
 |cons i is ih=>intro ω;show W (λv=>rm P L is (nW ω i v) λ_=>0) _=0;rw[nR (g:=λ_=>0) (λq _=>ih),Uy]
def qN(α:As)(i:Nat)(p:Pair):As:=λj=>if j=i then p else α j
def pf(P:fu)(L:Place)(α:As)(i:Nat)(v:Nat×Nat):Pair:=match(person P i).parents with
 |some y=>if alone P L i=true then(if v.2=1 then(α y.2).2 else(α y.2).1,if v.2=1 then(α y.2).2 else(α y.2).1)
  else(if v.1=1 then(α y.1).2 else(α y.1).1,if v.2=1 then(α y.2).2 else(α y.2).1)
 |none=>if alone P L i=true then(v.2,v.2)else(v.1,v.2)
def JN(h: ∀q∈par P i,α q=β q):pf P L α i v=pf P L β i v:=by
 unfold pf;cases e:(person P i).parents with
 |none=>rfl
 |some y=>
  have a:=h y.1 (by unfold par;rw[e];simp);have b:=h y.2 (by unfold par;rw[e];simp)
  simp_all
def MU(P:fu)(L:Place)(is:dE)(ω:Om)(α:As):As:=is.foldl (λα i=>qN α i (pf P L α i (ω i))) α
theorem Oj: ∀{is:dE} {α:As},j∉is->MU P L is ω α j=α j
 | [],α,_=>rfl
 |i::is,α,h=>by
  simp at h;show MU P L is ω (qN α i _) j=_;rw[Oj h.2];unfold qN
  simp_all
def bh(P:fu)(L:Place)(α:As)(i:Nat):List (Pair×Nat):=match(person P i).parents with
 |some y=> [(α y.1).1,(α y.1).2].foldl (λd p=> [(α y.2).1,(α y.2).2].foldl (λd m=>bump d (if alone P L i=true then(m,m)else(p,m)) 1) d) []
 |none=>if alone P L i=true then(eE L.kinds).map λm=>((m,m),sJ L m)
  else(eE L.kinds).flatMap λm=>(eE L.kinds).map λp=>((p,m),sJ L m*sJ L p)
theorem Yr{K:Type}(f:K->Nat):W f []=0:=rfl
def afD(H:Pair->Nat)(α:As)(i:Nat):W H (bh P L α i)=W (λv=>H (pf P L α i v)) (SJ P L i):=by
 unfold bh SJ;cases e:(person P i).parents with
 |none=>
  simp only;split
  .rename_i h;rw[Bv,Bv];congr 1;apply map_congr;intro m _;unfold pf
   simp_all
  .rename_i h;rw[wV,wV];congr 1;apply map_congr;intro m _;rw[Bv,Bv];congr 1;apply map_congr;intro x _;unfold pf;rw[e];simp only;rw[di h]
 |some y=>
  simp only[eT,G3];rw[uq H (ja _ _ (ja _ _ (ja _ _ (by simp)))),uq H (ja _ _ (ja _ _ (by simp))),uq H (ja _ _ (by simp)),uq H (by simp)];simp only[oR,Yr,pf,e];split
  .simp;lia
  .simp;lia
def K1(α:As)(i:Nat):((bh P L α i).map (·.1)).Nodup:=by
 unfold bh;cases e:(person P i).parents with
 |none=>
  simp only;split
  .rw[dm,eI,fQ];refine(eI.mp gZ).imp ?_
   simp_all
  .rw[CA,eI,lu];refine⟨?_,?_⟩
   .intro m _;rw[dm,fQ];refine(eI.mp gZ).imp ?_
    simp_all
   .refine(eI.mp gZ).imp ?_
    simp_all
 |some y=>exact ja _ _ (ja _ _ (ja _ _ (ja _ _ (by simp))))
def Pos{K:Type}(l:List (K×Nat)):Prop:= ∀q∈l,0<q.2
def wj{K:Type} [DecidableEq K]{l:List (K×Nat)}{k:K}{n:Nat}(h:Pos l)(c:0<n):Pos (bump l k n):=by
 intro q a;unfold bump kX at a;split at a
 .obtain⟨r,b,e⟩:=dk.mp a;split at e
  .rw[<-e];show 0<_+n;lia
  .rw[<-e];exact h r b
 .rcases gp.mp a with h'|h'
  .exact h q h'
  .simp at h';rw[h'];show 0<_+n;lia
def Ut(d: ∀x,x<L.kinds->0<sJ L x)(α:As)(i:Nat):Pos (bh P L α i):=by
 unfold bh;cases e:(person P i).parents with
 |none=>
  simp only;split
  .intro q a;let⟨(m),b,rfl⟩:=dk.mp a
   simp_all
  .intro q a;let⟨(m),b,h⟩:=g9.mp a;let⟨(x),c,rfl⟩:=dk.mp h
   simp_all
 |some y=>exact wj (wj (wj (wj (λq a=>by simp at a) (by lia)) (by lia)) (by lia)) (by lia)
noncomputable def ones{K:Type}(once:Bool)(l:List (K×Nat)):List (K×Nat):=if once=true then l.map λq=>(q.1,1)else l
def tree(P:fu)(L:Place)(ag:Nat->Pair->Bool)(once:Bool):List Nat->As->(As->Nat)->Nat
 | [],α,F=>F α
 |i::is,α,F=>W (λp=>if ag i p=true then tree P L ag once is (qN α i p) F else 0) (ones once (bh P L α i))
def LG(ag:Nat->Pair->Bool): ∀(is:dE) (α:As) (ω:Om) (F:As->Nat),is.Nodup->tree P L ag false is α F=rm P L is ω λa=>if(is.all λi=>ag i (MU P L is a α i))=true then F (MU P L is a α)else 0:=by
 intro is;induction is with
 |nil=>intro α ω F _;rfl
 |cons i is ih=>
  intro α ω F hd;rw[fH]at hd;show W _ (bh P L α i)=W _ _;rw[afD];apply nR;intro q _;have e: ∀a:Om,(∀j,j∉is->a j=nW ω i q.1 j)->a i=q.1:=λa h=>by rw[h i hd.1];unfold nW;rw[dq rfl]
  have f: ∀a:Om,(∀j,j∉is->a j=nW ω i q.1 j)->MU P L (i::is) a α=MU P L is a (qN α i (pf P L α i q.1)):=λa h=>by
   show MU P L is a (qN α i (pf P L α i (a i)))=_
   simp_all
  have d: ∀a b,MU P L is a (qN b i (pf P L α i q.1)) i=pf P L α i q.1:=λa b=>by rw[Oj hd.1];unfold qN;rw[dq rfl]
  split
  .rename_i c;rw[ih _ (nW ω i q.1) F hd.2];apply vz
   simp_all
  .rename_i c;refine(O2 (P:=P) (L:=L) (is:=is) (ω:=nW ω i q.1)).symm.trans ?_;apply vz
   simp_all
end
section
def zY:List Nat->List Nat->Om->Om
 | [],_,ω=>ω
 |i::a,k,ω=>zY a (k.drop 2) (nW ω i (k.getD 0 0,k.getD 1 0))
def CW:List Nat->List Bool->Om->Om
 | [],_,ω=>ω
 |i::a,w,ω=>CW a (w.drop 2) (nW ω i (bt (w.getD 0 false),bt (w.getD 1 false)))
def DF(P:fu)(L:Place):List Nat->List Nat->Bool
 | [],_=>true
 |i::a,k=>(!(alone P L i)||k.getD 0 0==0)&&DF P L a (k.drop 2)
def OE(P:fu)(L:Place):List Nat->List Nat->Nat
 | [],_=>1
 |i::a,k=>sJ L (k.getD 1 0)*(if alone P L i=true then 1 else sJ L (k.getD 0 0))*OE P L a (k.drop 2)
def CQ(a n:Nat)(f:List Nat->Nat):((nh a (n+1+1)).map f).sum=((nh a n).map λr=>((eE a).map λy=>((eE a).map λx=>f (x::y::r)).sum).sum).sum:=by show(((nh a (n+1)).flatMap _).map f).sum=_;rw[l7];show(((nh a n).flatMap _).map _).sum=_;rw[l7];congr 1;apply map_congr;intro r _;rw[dm];congr 1;apply map_congr;intro y _;show(xI f (xI _ _)).sum=_;rw[dm];rfl
def E4(a A:Nat)(h:0<a):((eE a).map λx=>if x=0 then A else 0).sum=A:=by have:=Nk gZ (eO.mpr h) (λ_=>A);exact this
def Mn(G:Om->Nat): ∀(a:dE) (ω:Om),(∀i∈a,(person P i).parents=none)->
  ((nh L.kinds (2* ~~~a)).map λk=>if DF P L a k=true then OE P L a k*G (zY a k ω)else 0).sum=rm P L a ω G:=by
 intro a;induction a with
 |nil=>intro ω _;show([[]].map _).sum=G ω;simp[DF,OE,zY]
 |cons i a ih=>
  intro ω h;have d:=h i (by simp);show((nh L.kinds (2* ~~~a+1+1)).map _).sum=W (λv=>rm P L a (nW ω i v) G) (SJ P L i);rw[CQ];have ih: ∀v,rm P L a (nW ω i v) G=((nh L.kinds (2* ~~~a)).map λk=>if DF P L a k=true then OE P L a k*G (zY a k (nW ω i v))else 0).sum:=λv=>(ih _ λj b=>h j (by simp[b])).symm;rw[funext ih,Uz];congr 1;apply map_congr;intro r _;have l: ∀x y,OE P L (i::a) (x::y::r)=sJ L y*(if alone P L i=true then 1 else sJ L x)*OE P L a r:=λx y=>rfl;have c: ∀x y,zY (i::a) (x::y::r) ω=zY a r (nW ω i (x,y)):=λx y=>rfl;have g: ∀x y,DF P L (i::a) (x::y::r)=((!(alone P L i)||x==0)&&DF P L a r):=λx y=>rfl;unfold SJ;rw[d];simp only[l,c,g];by_cases ha:alone P L i=true
  .rw[dq ha,Bv];congr 1;apply map_congr;intro y e;have f:0<L.kinds:=by have:=eO.mp e;lia
   rw[<-E4 L.kinds (sJ L y*if DF P L a r=true then OE P L a r*G (zY a r (nW ω i (0,y)))else 0) f];congr 1;apply map_congr;intro x _;by_cases hx:x=0
   .subst hx;simp[ha];split
    .rw[qv]
    .rfl
   .simp_all
  .rw[di ha,wV];congr 1;apply map_congr;intro y _;rw[Bv];congr 1;apply map_congr;intro x _;simp[ha];split
   .simp[qv]
   .rfl
def E5(n:Nat)(f:List Bool->Nat):((Ir (n+1+1)).map f).sum=((Ir n).map λr=>f (false::false::r)+f (true::false::r)+(f (false::true::r)+f (true::true::r))).sum:=by show(((Ir (n+1)).flatMap _).map f).sum=_;rw[l7];show(((Ir n).flatMap _).map _).sum=_;rw[l7];congr 1
def OJ(G:Om->Nat): ∀(a:dE) (ω:Om),(∀i∈a,(person P i).parents.isSome=true)->((Ir (2* ~~~a)).map λw=>G (CW a w ω)).sum=rm P L a ω G:=by
 intro a;induction a with
 |nil=>intro ω _;rfl
 |cons i a ih=>
  intro ω h;show((Ir (2* ~~~a+1+1)).map _).sum=W (λv=>rm P L a (nW ω i v) G) (SJ P L i);rw[E5];have ih: ∀v,rm P L a (nW ω i v) G=((Ir (2* ~~~a)).map λw=>G (CW a w (nW ω i v))).sum:=λv=>(ih _ λj b=>h j (by simp[b])).symm;rw[funext ih,Uz];unfold SJ;cases e:(person P i).parents with
  |none=>simp_all
  |some y=>simp only[oR,Yr];dsimp only[CW,bt];simp;lia
theorem CY: ∀{a k:dE} {ω:Om} {j:Nat},j∉a->zY a k ω j=ω j
 | [],_,_,_,_=>rfl
 |i::a,k,ω,j,h=>by simp at h;show zY a _ _ j=_;rw[CY h.2];unfold nW;rw[di h.1]
theorem Jw: ∀{a:dE} {k:List Bool} {ω:Om} {j:Nat},j∉a->CW a k ω j=ω j
 | [],_,_,_,_=>rfl
 |i::a,k,ω,j,h=>by simp at h;show CW a _ _ j=_;rw[Jw h.2];unfold nW;rw[di h.1]
def pG{α:Type}(l:List α)(a b:Nat)(d:α):(l.drop a).getD b d=l.getD (a+b) d:=by simp
theorem Nn: ∀{a k:dE} {ω:Om} {j:Nat},a.Nodup->j∈a->zY a k ω j=(k.getD (2*a.idxOf j) 0,k.getD (2*a.idxOf j+1) 0)
 | [],_,_,_,_,h=>by simp at h
 |i::a,k,ω,j,hd,h=>by
  rw[fH]at hd;show zY a _ _ j=_;by_cases e:j=i
  .subst e;rw[CY hd.1];unfold nW;rw[dq rfl];simp
  .have b:j∈a:=by simpa [e]using h
   rw[Nn hd.2 b,pG,pG];have:(i::a).idxOf j=a.idxOf j+1:=by
    rw[XE];have:(i==j)=false:=by simpa using gk e
    rw[this];rfl
   rw[this,show 2+2*a.idxOf j=2*(a.idxOf j+1)by lia,show 2+(2*a.idxOf j+1)=2*(a.idxOf j+1)+1 by lia]
theorem Nm: ∀{a:dE} {k:List Bool} {ω:Om} {j:Nat},a.Nodup->j∈a->CW a k ω j=(bt (k.getD (2*a.idxOf j) false),bt (k.getD (2*a.idxOf j+1) false))
 | [],_,_,_,_,h=>by simp at h
 |i::a,k,ω,j,hd,h=>by
  rw[fH]at hd;show CW a _ _ j=_;by_cases e:j=i
  .subst e;rw[Jw hd.1];unfold nW;rw[dq rfl];simp
  .have b:j∈a:=by simpa [e]using h
   rw[Nm hd.2 b,pG,pG];have:(i::a).idxOf j=a.idxOf j+1:=by
    rw[XE];have:(i==j)=false:=by simpa using gk e
    rw[this];rfl
   rw[this,show 2+2*a.idxOf j=2*(a.idxOf j+1)by lia,show 2+(2*a.idxOf j+1)=2*(a.idxOf j+1)+1 by lia]
def SH(k:dE): ∀(a:dE) (m:Nat),((a.zipIdx m).all λy=> !(alone P L y.1)||k.getD (2*y.2) 0==0)=DF P L a (k.drop (2*m)):=by
 intro a;induction a with
 |nil=>intro m;rfl
 |cons i a ih=>intro m;rw[jT,om,ih (m+1)];show _=((!(alone P L i)||(k.drop (2*m)).getD 0 0==0)&&DF P L a ((k.drop (2*m)).drop 2));rw[pG,nj,show 2*m+2=2*(m+1)by lia];rfl
def L7(w:Way)(k:dE):ahq P L ⟨w,k⟩=DF P L (gm P) k:=by have:=SH (P:=P) (L:=L) k (gm P) 0;assumption
theorem Bq{α d:Type}{f g:α->d->d}{b:d}: ∀{l:List α},(∀a∈l,∀b,f a b=g a b)->l.foldr f b=l.foldr g b
 | [],_=>rfl
 |a::l,h=>by
  rw[wB,wB,Bq λc e=>h c (by simp[e])]
  simp_all
def Ra: ∀(a k:dE),a.Nodup->a.foldr (λi w=>sJ L (k.getD (2*a.idxOf i+1) 0)*(if alone P L i=true then 1 else sJ L (k.getD (2*a.idxOf i) 0))*w) 1=OE P L a k:=by
 intro a;induction a with
 |nil=>intro k _;rfl
 |cons i a ih=>
  intro k hd;rw[fH]at hd;rw[wB];have b:(i::a).idxOf i=0:=by simp
  rw[b];show _=sJ L (k.getD 1 0)*(if alone P L i=true then 1 else sJ L (k.getD 0 0))*OE P L a (k.drop 2);rw[<-ih (k.drop 2) hd.2];congr 1;apply Bq;intro j c w;have:(i::a).idxOf j=a.idxOf j+1:=by
   grind
  rw[this,pG,pG,show 2+2*a.idxOf j=2*(a.idxOf j+1)by lia,show 2+(2*a.idxOf j+1)=2*(a.idxOf j+1)+1 by lia]
def qW:(gm P).Nodup:=gZ.filter _
def wg:(gd P).Nodup:=gZ.filter _
def mf:i∈gm P↔i< ~~~P/\(person P i).parents=none:=by unfold gm;rw[eX,eO,Option.isNone_iff_eq_none]
def oN:i∈gd P↔i< ~~~P/\(person P i).parents.isSome=true:=by unfold gd;rw[eX,eO]
def FR(w:Way)(k:dE):EI P L ⟨w,k⟩=OE P L (gm P) k:=by rw[<-Ra (gm P) k qW];rfl
def Pq(P:fu)(x:IG):Om:=zY (gm P) x.kinds (CW (gd P) x.way om0)
def Qj(G:Om->Nat):((rG P L).map λx=>EI P L x*G (Pq P x)).sum=rm P L (gd P++gm P) om0 G:=by
 unfold rG;rw[l7,Js];have b: ∀w:Way,((((nh L.kinds (2*(gm P).length)).map λk=>(⟨w,k⟩:IG)).filter (ahq P L)).map λx=>EI P L x*G (Pq P x)).sum=rm P L (gm P) (CW (gd P) w om0) G:=by
  intro w;rw[<-Mn G (gm P) _ λi a=>(mf.mp a).2];have c: ∀l:List (List Nat),(((l.map λk=>(⟨w,k⟩:IG)).filter (ahq P L)).map λx=>EI P L x*G (Pq P x)).sum=(l.map λk=>if DF P L (gm P) k=true then OE P L (gm P) k*G (zY (gm P) k (CW (gd P) w om0))else 0).sum:=by
   intro l;induction l with
   |nil=>rfl
   |cons k l ih=>
    rw[dt,gQ,dt,gL,<-ih,L7];split
    .rename_i h;rw[dt,gL,FR];rfl
    .lia
  exact c _
 rw[map_congr (λw _=>b w)];exact OJ (λω=>rm P L (gm P) ω G) (gd P) om0 λi a=>(oN.mp a).2
def DE(P:fu)(L:Place)(ω:Om):Nat->Nat->Pair
 |0,_=>(0,0)
 |n+1,i=>pf P L (DE P L ω n) i (ω i)
def aaD(b:Bool):(bt b=1)=(b=true):=by cases b<;>simp[bt]
def Po(G:Good P)(x:IG): ∀(n i:Nat),i< ~~~P->aa3 P L (gd P) (gm P) x n i=DE P L (Pq P x) n i:=by
 intro n;induction n with
 |zero=>intro i _;rfl
 |succ n ih=>
  intro i a;show _=pf P L (DE P L (Pq P x) n) i (Pq P x i);unfold aa3 pf;cases e:(person P i).parents with
  |none=>
   have g:=mf.mpr ⟨a,e⟩;have:Pq P x i=(x.first (gm P) i false,x.first (gm P) i true):=by unfold Pq;rw[Nn qW g];rfl
   simp only[this];rfl
  |some y=>
   have c:=oN.mpr ⟨a,by rw[e];rfl⟩;have d:i∉gm P:=λh=>by have:=(mf.mp h).2;rw[e]at this;cases this
   have:Pq P x i=(bt (mY (gd P) x.way i false),bt (mY (gd P) x.way i true)):=by unfold Pq;rw[CY d,Nm wg c];rfl
   have b:=ih y.1 (G.lt i y.1 (by unfold par;rw[e];simp));have f:=ih y.2 (G.lt i y.2 (by unfold par;rw[e];simp));simp only[this,b,f,aaD];rfl
theorem y3(G:Good P)(ω:Om): ∀(r k a i:Nat),rk P i<r->rk P i<k->rk P i<a->DE P L ω k i=DE P L ω a i
 |0,_,_,_,h,_,_=>by lia
 |r+1,0,_,_,_,h,_=>by lia
 |r+1,k+1,0,_,_,_,h=>by lia
 |r+1,k+1,a+1,i,h,c,d=>by apply JN;intro q b;have:=LR G b;exact y3 G ω r k a q (by lia) (by lia) (by lia)
def NH(P:fu)(L:Place)(ω:Om)(i:Nat):Pair:=DE P L ω (~~~P) i
def SB(G:Good P)(ω:Om)(a:i< ~~~P):NH P L ω i=pf P L (NH P L ω) i (ω i):=by have h:=RV G a;have e:NH P L ω i=DE P L ω (~~~P+1) i:=y3 G ω (~~~P+1) _ _ i (by lia) h (by lia);assumption
def aaJ(G:Good P)(ω:Om)(α:As): ∀(o:dE),Ord P o-> ∀i,i∈o->MU P L o ω α i=NH P L ω i:=by
 intro o;generalize hn: ~~~o=n;induction n generalizing o with
 |zero=>simp_all
 |succ n ih=>
  intro f i h;have d:o≠ []:=by intro e;simp[e]at hn
  obtain⟨b,x,rfl⟩: ∃b x,o=b++ [x]:=⟨o.dropLast,o.getLast d,(qL d).symm⟩;have hd:=f.nodup;rw[gE]at hd;have g:=f.lt x (by simp);have l:=f.before b [] x rfl;have j:Ord P b:=⟨hd.1,λi h=>f.lt i (by simp[h]),λa c i e q k=>f.before a (c++ [x]) i (by simp[e]) q k⟩;have e:MU P L (b++ [x]) ω α=qN (MU P L b ω α) x (pf P L (MU P L b ω α) x (ω x)):=by unfold MU;rw[tJ];rfl
  rw[e];unfold qN;by_cases e:i=x
  .subst e;rw[dq rfl,SB G ω g];apply JN
   simp_all
  .simp_all
def K5(G:Good P):(gd P++gm P).Perm (eV P):=by
 have d:=gD G;refine(lh ?_ d.1.nodup).mpr ?_
 .rw[gE];refine⟨wg,qW,?_⟩;intro a f b c e;have g:=(oN.mp f).2;have h:=(mf.mp c).2
  simp_all
 .intro x;rw[gp,oN,mf,iJ G];cases e:(person P x).parents with
  |none=>simp
  |some y=>simp
def MO(G:Good P)(ag:Nat->Pair->Bool)(F:As->Nat)(e: ∀α β,(∀i,i< ~~~P->α i=β i)->F α=F β):
  ((rG P L).map λx=>EI P L x*if((eE (~~~P)).all λi=>ag i (pQ P L x i))=true then F (pQ P L x)else 0).sum=tree P L ag false (eV P) EM F:=by
 have c:=gD G;rw[LG ag (eV P) EM om0 F c.1.nodup,<-O3 (K5 G),<-Qj];congr 1;apply map_congr;intro x _;have h: ∀i,i< ~~~P->pQ P L x i=MU P L (eV P) (Pq P x) EM i:=λi b=>by rw[aaJ G (Pq P x) EM (eV P) c.1 i ((iJ G).mpr b)];exact Po G x (~~~P) i b
 have d:((eE (~~~P)).all λi=>ag i (pQ P L x i))=(eV P).all λi=>ag i (MU P L (eV P) (Pq P x) EM i):=by
  rw[je,hC,hC];constructor
  .intro a i b;rw[<-h i ((iJ G).mp b)];exact a i (eO.mpr ((iJ G).mp b))
  .intro a i b;rw[h i (eO.mp b)];exact a i ((iJ G).mpr (eO.mp b))
 simp_all
end
abbrev Row:=List (Nat×Pair)
abbrev pO:=List (Row×Nat)
def sE(row:Row):As:=λi=>(gB row i).getD (0,0)
section
variable {K V M:Type} [DecidableEq K]
theorem iI{l:List (K×V)}{k:K}{v:V}(h:k∉l.map (·.1)):kX l k v=l++ [(k,v)]:=by unfold kX;rw[di (λc=>h (uk.mp c))]
theorem VQ: ∀(L a:List (K×V)),(a.map (·.1)++L.map (·.1)).Nodup->L.foldl (λa p=>kX a p.1 p.2) a=a++L:=by
 intro L;induction L with
 |nil=>intro a _;simp
 |cons p L ih=>
  intro a h;have b:p.1∉a.map (·.1):=by
   grind
  rw[eT,iI b,ih]
  .simp
  .simp_all
theorem TJ{c:M->Bool}{k:M->K}{v:M->V}: ∀(l:List M) (a:List (K×V)),l.foldl (λa r=>if c r=true then kX a (k r) (v r)else a) a=((l.filter c).map λr=>(k r,v r)).foldl (λa p=>kX a p.1 p.2) a:=by
 intro l;induction l with
 |nil=>intro a;rfl
 |cons r l ih=>
  intro a;rw[eT,gQ];split
  .rw[dt,eT,ih]
  .rw[ih]
theorem MG{b:Type}(g:M->List b)(f:List (K×V)->b->List (K×V)): ∀(l:List M) (a:List (K×V)),l.foldl (λa q=>(g q).foldl f a) a=(l.flatMap g).foldl f a:=by
 intro l;induction l with
 |nil=>intro a;rfl
 |cons q l ih=>intro a;rw[eT,lL,tJ,ih]
theorem KU{l:List (K×Nat)}{k a:K}{n:Nat}:a∈(bump l k n).map (·.1)↔a∈l.map (·.1)\/a=k:=JD
theorem Uq(f:K->Nat)(k:M->K)(c:M->Nat): ∀(l:List M) (a:List (K×Nat)),(a.map (·.1)).Nodup->Pos a->(∀m∈l,0<c m)->
  ((l.foldl (λa m=>bump a (k m) (c m)) a).map (·.1)).Nodup/\Pos (l.foldl (λa m=>bump a (k m) (c m)) a)/\W f (l.foldl (λa m=>bump a (k m) (c m)) a)=W f a+(l.map λm=>c m*f (k m)).sum/\
  ∀x,x∈(l.foldl (λa m=>bump a (k m) (c m)) a).map (·.1)↔x∈a.map (·.1)\/ ∃m∈l,x=k m:=by
 intro l;induction l with
 |nil=>intro a h b _;exact⟨h,b,by simp,by simp⟩
 |cons m l ih=>
  intro a h b d;let⟨e,g,i,j⟩:=ih (bump a (k m) (c m)) (ja _ _ h) (wj b (d m (by simp))) λr n=>d r (by simp[n]);refine⟨e,g,?_,?_⟩
  .rw[eT,i,uq f h];simp;lia
  .intro x;rw[eT,j,KU];simp[or_assoc]
end
section
variable (P:fu) (L:Place) (ag:Nat->Pair->Bool) (once:Bool)
def Rb(b:pO)(i:Nat):pO:=b.foldl (λa q=>(bh P L (sE q.1) i).foldl (λa r=>if ag i r.1=true then kX a (q.1++ [(i,r.1)]) (if once=true then q.2 else q.2*r.2)else a) a) []
def n4(a:pO)(i:Nat):pO:=a.flatMap λq=>((bh P L (sE q.1) i).filter λr=>ag i r.1).map λr=>(q.1++ [(i,r.1)],if once=true then q.2 else q.2*r.2)
def kT(ps:dE)(row:Row):Row:=row.filter λt=> !ps.contains t.1
def mq(a:pO)(ps:dE):pO:=a.foldl (λb q=>bump b (kT ps q.1) q.2) []
def lD(d:mV)(i:Nat):List (Nat×Nat):=(par P i).foldl (λd q=>kX d q i) (kX d i i)
def sY:List (Nat×Nat):=(eV P).foldl (lD P) []
def goes(asked:Option Nat)(i:Nat):List Nat:=(par P i++ [i]).filter λo=>decide (gB (sY P) o=some i)&&decide (some o≠asked)
def pJ(asked:Option Nat)(a:pO)(i:Nat):pO:=mq (Rb P L ag once a i) (goes P asked i)
def dp(asked:Option Nat):pO:=(eV P).foldl (pJ P L ag once asked) [([],1)]
end
section
def aaB{α:Type}{a b:List α}{x y:α}(h:a++ [x]=b++ [y]):a=b/\x=y:=by
 simp_all
def AX{c:pO}(h:(c.map (·.1)).Nodup)(i:Nat):((n4 P L ag once c i).map (·.1)).Nodup:=by
 unfold n4;rw[CA,eI,lu];refine⟨?_,?_⟩
 .intro q _;rw[dm,fQ];have d:=(eI.mp (K1 (P:=P) (L:=L) (sE q.1) i));rw[fQ]at d;refine(d.filter _).imp ?_
  simp_all
 .have d:=eI.mp h;rw[fQ]at d;refine d.imp ?_;intro a b g x j y f e;rw[dm,dk]at j f;let⟨(v),_,rfl⟩:=f
  simp_all
def CF{b:pO}(h:(b.map (·.1)).Nodup)(i:Nat):Rb P L ag once b i=n4 P L ag once b i:=by
 unfold Rb;have: ∀(a:pO) (q:Row×Nat),(bh P L (sE q.1) i).foldl (λa r=>if ag i r.1=true then kX a (q.1++ [(i,r.1)]) (if once=true then q.2 else q.2*r.2)else a) a=(((bh P L (sE q.1) i).filter λr=>ag i r.1).map λr=>(q.1++ [(i,r.1)],if once=true then q.2 else q.2*r.2)).foldl (λa p=>kX a p.1 p.2) a:=λa q=>TJ _ _;simp only[this];rw[MG,VQ]
 .rfl
 .have:=AX (P:=P) (L:=L) (ag:=ag) (once:=once) h i;assumption
def Vv(f:Row->Nat)(a:pO)(i:Nat):W f (n4 P L ag once a i)=W (λrow=>W (λp=>if ag i p=true then f (row++ [(i,p)])else 0) (ones once (bh P L (sE row) i))) a:=by
 unfold n4;rw[wV];congr 1;apply map_congr;intro q _;rw[Bv];have key: ∀l:List (Pair×Nat),((l.filter λr=>ag i r.1).map λr=>(if once=true then q.2 else q.2*r.2)*f (q.1++ [(i,r.1)])).sum=q.2*W (λp=>if ag i p=true then f (q.1++ [(i,p)])else 0) (if once=true then l.map λq=>(q.1,1)else l):=by
  intro l;induction l with
  |nil=>cases once<;>simp[W]
  |cons r l ih=>
   rw[gQ];cases once with
   |true=>
    simp only[jv,dt,oR]at ih⊢;split
    .rw[dt,gL,ih];simp[mB]
    .simp_all
   |false=>
    simp only[hJ,eW,oR]at ih⊢;split
    .rw[dt,gL,ih];simp[mB,qv]
    .simp_all
 exact key _
def OG(g: ∀x,x<L.kinds->0<sJ L x){a:pO}(h:Pos a)(i:Nat):Pos (n4 P L ag once a i):=by
 intro q c;let⟨(r),b,d⟩:=g9.mp c;let⟨(s),e,rfl⟩:=dk.mp d;have j:=Ut g (sE r.1) i s (eX.mp e).1;have f:=h r b;split
 .exact f
 .simp_all
def Je(f:Row->Nat){a:pO}(e:Pos a)(ps:dE):((mq a ps).map (·.1)).Nodup/\Pos (mq a ps)/\W f (mq a ps)=W (λrow=>f (kT ps row)) a/\ ∀x,x∈(mq a ps).map (·.1)↔ ∃q∈a,x=kT ps q.1:=by let⟨c,d,g,h⟩:=Uq f (λq:Row×Nat=>kT ps q.1) (λq=>q.2) a [] (by simp) (λq b=>by simp at b) (λq b=>e q b);refine⟨c,d,?_,λx=>(h x).trans (by simp)⟩;unfold mq;rw[g];simp[W]
def MF{j:Nat}(i:Nat): ∀(l:dE) (d:mV),gB (l.foldl (λd q=>kX d q i) d) j=if j∈l then some i else gB d j:=by
 intro l;induction l with
 |nil=>intro d;simp
 |cons q l ih=>
  intro d;rw[eT,ih,tm]
  grind
def ub(d:mV)(i j:Nat):gB (lD P d i) j=if j=i\/j∈par P i then some i else gB d j:=by
 unfold lD;rw[MF,tm]
 grind
def Gs: ∀(r:dE) (d:mV) (j:Nat),(∀k∈r,j≠k/\j∉par P k)->gB (r.foldl (lD P) d) j=gB d j:=by
 intro r;induction r with
 |nil=>intro d j _;rfl
 |cons k r ih=>
  intro d j h;rw[eT,ih _ j λx a=>h x (by simp[a]),ub]
  simp_all
def Gr: ∀(r:dE) (d:mV) (j:Nat),(∃k∈r,j=k\/j∈par P k)-> ∃k∈r,gB (r.foldl (lD P) d) j=some k:=by
 intro r;induction r with
 |nil=>intro d j h;simp at h
 |cons k r ih=>
  intro d j h;by_cases h2: ∃k∈r,j=k\/j∈par P k
  .obtain⟨b,c,f⟩:=ih (lD P d k) j h2
   simp_all
  .refine⟨k,by simp,?_⟩;rw[eT,Gs r _ j λx a=>⟨λe=>h2 ⟨x,a,.inl e⟩,λe=>h2 ⟨x,a,.inr e⟩⟩,ub]
   simp_all
def Ke{done rest:dE}{i j:Nat}(f:Ord P (eV P))(e:eV P=done++i::rest)(a:j=i\/j∈par P i):gB (sY P) j=some i↔ ¬ ∃k∈rest,j∈par P k:=by
 have hd:=f.nodup;rw[e,gE,fH]at hd;have d:j∉rest:=by
  intro h;rcases a with rfl|a
  .simp_all
  .have:=f.before done rest i e j a;exact hd.2.2 j this j (by simp[h]) rfl
 have g:sY P=rest.foldl (lD P) (lD P (done.foldl (lD P) []) i):=by unfold sY;rw[e,tJ,eT]
 rw[g];constructor
 .rintro h ⟨k,hk,b⟩;let⟨(l),m,n⟩:=Gr rest (lD P (done.foldl (lD P) []) i) j ⟨k,hk,.inr b⟩
  simp_all
 .intro h;rw[Gs rest _ j λk hk=>⟨λe=>d (by rw[e];exact hk),λc=>h ⟨k,hk,c⟩⟩,ub,dq a]
def UG(P:fu)(asked:Option Nat)(rest:dE)(j:Nat):Prop:=(∃k∈rest,j∈par P k)\/asked=some j
def Uu{α a:As}{i:Nat}(h: ∀q∈par P i,α q=a q):bh P L α i=bh P L a i:=by
 unfold bh;cases e:(person P i).parents with
 |none=>rfl
 |some y=>have b:=h y.1 (by unfold par;rw[e];simp);have c:=h y.2 (by unfold par;rw[e];simp);simp only[b,c]
theorem CO{F:As->Nat}(d: ∀α b,(∀a,asked=some a->α a=b a)->F α=F b): ∀{rest:dE} {α b:As},(∀j,UG P asked rest j->α j=b j)->tree P L ag once rest α F=tree P L ag once rest b F
 | [],α,b,h=>d α b λa f=>h a (.inr f)
 |i::rest,α,b,h=>by
  show W _ (ones once (bh P L α i))=W _ (ones once (bh P L b i));rw[Uu λq e=>h q (.inl ⟨i,by simp,e⟩)];apply nR;intro q _;split
  .apply CO d;intro j c;unfold qN;split
   .rfl
   .refine h j ?_;rcases c with⟨k,hk,c⟩|c
    .exact .inl ⟨k,by simp[hk],c⟩
    .exact .inr c
  .rfl
structure St(P:fu)(asked:Option Nat)(done rest:dE)(sums:pO):Prop where
 nodup:(sums.map (·.1)).Nodup
 pos:Pos sums
 row: ∀q∈sums,(q.1.map (·.1)).Nodup/\ ∀j,j∈q.1.map (·.1)↔j∈done/\UG P asked rest j
def Kp{row:Row}{i j:Nat}{p:Pair}(h:i∉row.map (·.1)):gB (row++ [(i,p)]) j=if j=i then some p else gB row j:=by
 rw[<-iI h,tm]
 grind
def K3{row:Row}{i:Nat}{p:Pair}(h:i∉row.map (·.1)):sE (row++ [(i,p)])=qN (sE row) i p:=by funext j;unfold sE qN;rw[Kp h];split<;>rfl
def Hf(ps:dE)(row:Row):(kT ps row).map (·.1)=(row.map (·.1)).filter λj=> !ps.contains j:=by rw[List.filter_map];rfl
def HS{ps:dE}{j:Nat}(h:j∉ps): ∀row:Row,gB (kT ps row) j=gB row j:=by
 intro row;induction row with
 |nil=>rfl
 |cons t row ih=>
  unfold kT;rw[gQ];have ih:=ih;unfold kT at ih;split
  .rw[gV,gV,ih]
  .rename_i a;rw[ih,gV,di]
   grind
def Kb{done rest:dE}{i j:Nat}(d:Ord P (eV P))(e:eV P=done++i::rest):j∈goes P asked i↔(j=i\/j∈par P i)/\ ¬UG P asked rest j:=by
 unfold goes;rw[eX];simp only[gp,ia,fZ,jL];constructor
 .rintro⟨a,b,g⟩;have c:=a.symm;refine⟨c,?_⟩;rintro(f|f)
  .exact((Ke d e c).mp b) f
  .grind
 .rintro⟨a,b⟩;exact⟨a.symm,(Ke d e a).mpr λh=>b (.inl h),λh=>b (.inr h.symm)⟩
def Hc(J: ∀x,x<L.kinds->0<sJ L x)(n:Ord P (eV P)){done rest:dE}{i:Nat}{b:pO}(e:eV P=done++i::rest)(S:St P asked done (i::rest) b){F:As->Nat}(z: ∀α β,(∀a,asked=some a->α a=β a)->F α=F β):
  St P asked (done++ [i]) rest (pJ P L ag once asked b i)/\W (λrow=>tree P L ag once rest (sE row) F) (pJ P L ag once asked b i)=W (λrow=>tree P L ag once (i::rest) (sE row) F) b:=by
 have hd:=n.nodup;rw[e,gE,fH]at hd;have v:=λq l h=>hd.2.2 i ((((S.row q l).2 i).mp h).1) i (by simp) rfl;have O:=n.before done rest i e;unfold pJ;rw[CF S.nodup];obtain⟨y,B,E,G⟩:=Je (λrow=>tree P L ag once rest (sE row) F) (OG J S.pos i) (goes P asked i);refine⟨⟨y,B,?_⟩,?_⟩
 .intro q l;let⟨(r),w,hk⟩:=(G q.1).mp (dk.mpr ⟨q,l,rfl⟩);unfold n4 at w;let⟨(s),u,o⟩:=g9.mp w;let⟨(t),N,rfl⟩:=dk.mp o;have H:=S.row s u;have M:=v s u;rw[hk,Hf];have I:((s.1++ [(i,t.1)]).map (·.1))=s.1.map (·.1)++ [i]:=by simp
  constructor
  .refine adV _ ?_
   grind
  .intro j;rw[eX];show j∈(s.1++ [(i,t.1)]).map (·.1)/\_↔_;rw[I,gp,H.2 j];simp only[ia,Bool.not_eq_true',xJ,QZ,Kb n e,gp];constructor
   .rintro⟨d|d,f⟩
    .refine⟨.inl d.1,?_⟩;apply dP;intro m;rcases d.2 with⟨k,hk,g⟩|p
     .rcases eM.mp hk with rfl|hk
      .exact f ⟨.inr g,m⟩
      .exact m (.inl ⟨k,hk,g⟩)
     .exact m (.inr p)
    .refine⟨.inr d,?_⟩;apply dP;intro m;exact f ⟨.inl d,m⟩
   .rintro⟨d,f⟩;refine⟨?_,λc=>c.2 f⟩;rcases d with d|d
    .refine .inl ⟨d,?_⟩;rcases f with⟨k,hk,g⟩|p
     .exact .inl ⟨k,by simp[hk],g⟩
     .exact .inr p
    .exact .inr d
 .rw[E];have o:W (λrow=>tree P L ag once rest (sE (kT (goes P asked i) row)) F) (n4 P L ag once b i)=W (λrow=>tree P L ag once rest (sE row) F) (n4 P L ag once b i):=by apply nR;intro q _;apply CO z;intro j A;unfold sE;rw[HS];intro C;exact((Kb n e).mp C).2 A
  rw[o,Vv];apply nR;intro q l;show W _ _=W _ _;apply nR;intro r _;rw[K3 (v q l)]
def WX(g: ∀x,x<L.kinds->0<sJ L x)(c:Ord P (eV P)){F:As->Nat}(d: ∀α β,(∀a,asked=some a->α a=β a)->F α=F β): ∀(rest done:dE) (b:pO),eV P=done++rest->St P asked done rest b->
  St P asked (eV P) [] (rest.foldl (pJ P L ag once asked) b)/\W (λrow=>F (sE row)) (rest.foldl (pJ P L ag once asked) b)=W (λrow=>tree P L ag once rest (sE row) F) b:=by
 intro rest;induction rest with
 |nil=>intro done b e S;rw[km]at e;rw[e];trivial
 |cons i rest ih=>
  intro done b e S;let⟨f,j⟩:=Hc (ag:=ag) (once:=once) g c e S d;let⟨h,k⟩:=ih (done++ [i]) _ (by rw[e];simp) f
  simp_all
def st0:St P asked [] (eV P) [([],1)]:=⟨by simp,λq a=>by simp at a;rw[a];exact EO,λq a=>by simp at a;rw[a];simp⟩
def N4(G:Good P)(e: ∀x,x<L.kinds->0<sJ L x){F:As->Nat}(d: ∀α β,(∀a,asked=some a->α a=β a)->F α=F β):St P asked (eV P) [] (dp P L ag once asked)/\W (λrow=>F (sE row)) (dp P L ag once asked)=tree P L ag once (eV P) EM F:=by
 obtain⟨b,c⟩:=WX e (gD G).1 d (eV P) [] _ rfl st0;refine⟨b,?_⟩;unfold dp;rw[c];have:sE []=EM:=by funext j;rfl
 simp[W,this]
end
section
theorem zc{a:Nat}: ∀{n:Nat} {r:dE},r∈nh a n-> ~~~r=n/\ ∀x∈r,x<a
 |0,r,h=>by
  have:r=[]:=by simpa [nh]using h
  simp_all
 |n+1,r,h=>by
  let⟨(s),b,h⟩:=g9.mp h;let⟨(x),e,rfl⟩:=dk.mp h;let⟨c,d⟩:=zc b
  simp_all
def Gp{x:IG}(h:x∈rG P L): ~~~x.kinds=2*(gm P).length/\ ∀y∈x.kinds,y<L.kinds:=by let⟨(w),_,h⟩:=g9.mp h;let⟨h,_⟩:=eX.mp h;let⟨(k),hk,rfl⟩:=dk.mp h;exact zc hk
def zx{x:IG}(h:x∈rG P L){i:Nat}(b:i∈gm P)(s:Bool):x.first (gm P) i s<L.kinds:=by
 let⟨c,d⟩:=Gp h;unfold Drop.first;have a:2*(gm P).idxOf i+(if s=true then 1 else 0)< ~~~x.kinds:=by
  grind
 simp_all
def Pn(G:Good P)(hk:0<L.kinds){x:IG}(h:x∈rG P L): ∀(n i:Nat),i< ~~~P->(aa3 P L (gd P) (gm P) x n i).1<L.kinds/\(aa3 P L (gd P) (gm P) x n i).2<L.kinds:=by
 intro n;induction n with
 |zero=>intro i _;exact⟨hk,hk⟩
 |succ n ih=>
  intro i b;unfold aa3;cases e:(person P i).parents with
  |none=>
   have a:=mf.mpr ⟨b,e⟩;simp only;split
   .exact⟨zx h a true,zx h a true⟩
   .exact⟨zx h a false,zx h a true⟩
  |some y=>
   have c:=ih y.1 (G.lt i y.1 (by unfold par;rw[e];simp));have d:=ih y.2 (G.lt i y.2 (by unfold par;rw[e];simp));simp only
   repeat' split
   all_goals simp_all
def sU(G:Good P)(hk:0<L.kinds){x:IG}(h:x∈rG P L){i:Nat}(a:i< ~~~P):(pQ P L x i).1<L.kinds/\(pQ P L x i).2<L.kinds:=Pn G hk h _ i a
def oO{k:Nat}{p:Pair}:p∈mJ k↔p.1<k/\p.2<k:=by
 unfold mJ;simp only[g9,dk,eO];constructor
 .rintro⟨a,d,b,c,rfl⟩;exact⟨d,c⟩
 .rintro⟨d,c⟩;exact⟨p.1,d,p.2,c,rfl⟩
def Vu(c: ∀x,x<L.kinds->0<sJ L x): ∀(b k:dE),~~~k=2* ~~~b->(∀y∈k,y<L.kinds)->0<OE P L b k:=by
 intro b;induction b with
 |nil=>intro k _ _;exact EO
 |cons i b ih=>
  intro k a h
  match k,a,h with
  | [],a,_=>simp_all
  | [x],a,_=>simp at a;lia
  |x::y::r,a,h=>
   refine ER (ER (c y (h y (by simp))) ?_) (ih r (by simp at a;lia) λz hz=>h z (by simp[hz]));split
   .lia
   .simp_all
def Lx(c: ∀x,x<L.kinds->0<sJ L x){x:IG}(h:x∈rG P L):0<EI P L x:=by let⟨a,b⟩:=Gp h;have:EI P L x=OE P L (gm P) x.kinds:=FR x.way x.kinds;rw[this];exact Vu c _ _ a b
abbrev gN:=List (Nat×List Pair)
def uo(a:gN)(i:Nat)(p:Pair):Bool:=match gB a i with
 |none=>true
 |some l=>l.contains p
structure lP(P:fu)(L:Place)(sd:gN)(s:Seen):Prop where
 len: ~~~s= ~~~P
 get: ∀i,i< ~~~P->s.getD i []=(gB sd i).getD (mJ L.kinds)
def Ol(P:fu)(L:Place)(a:gN)(x:IG):Bool:=(eE (~~~P)).all λi=>uo a i (pQ P L x i)
def Uw{a:gN}{s:Seen}(R:lP P L a s)(G:Good P)(hk:0<L.kinds){x:IG}(h:x∈rG P L){i:Nat}(b:i< ~~~P):uo a i (pQ P L x i)=(s.getD i []).contains (pQ P L x i):=by
 rw[R.get i b];unfold uo;cases gB a i with
 |none=>
  have:=oO.mpr (sU G hk h b)
  simp_all
 |some l=>rfl
def Qy{c:gN}{s:Seen}(R:lP P L c s)(G:Good P)(hk:0<L.kinds){x:IG}(h:x∈rG P L):Ol P L c x=rJ P L s x (~~~P):=by
 unfold Ol rJ;rw[je,hC,hC];constructor
 .intro a i b;rw[<-Uw R G hk h (eO.mp b)];exact a i b
 .intro a i b;rw[Uw R G hk h (eO.mp b)];exact a i b
def sum_filter{α:Type}(c:α->Bool)(f:α->Nat): ∀l:List α,((l.filter c).map f).sum=(l.map λx=>f x*if c x=true then 1 else 0).sum:=by
 intro l;induction l with
 |nil=>rfl
 |cons x l ih=>rw[gQ,dt,gL,<-ih];split<;>simp
def rQ{a:gN}{s:Seen}(R:lP P L a s)(G:Good P)(hk:0<L.kinds)(c:As->Bool)(d: ∀α b,(∀i,i< ~~~P->α i=b i)->c α=c b):
  ql P L ((kq P L s).filter λx=>c (pQ P L x))=tree P L (uo a) false (eV P) EM λα=>if c α=true then 1 else 0:=by
 rw[<-MO G (uo a) (λα=>if c α=true then 1 else 0) (λα b h=>by rw[d α b h])];unfold ql kq;rw[sQ,List.filter_filter,sum_filter];congr 1;apply map_congr;intro x e;congr 1;rw[<-Qy R G hk e];show _=if Ol P L a x=true then _ else 0;cases Ol P L a x<;>simp
def A4{α:Type}(f:α->Nat): ∀l:List α,0<(l.map f).sum↔ ∃x∈l,0<f x:=by
 intro l;induction l with
 |nil=>simp
 |cons x l ih=>
  have:=ih;constructor
  .intro h;by_cases hx:0<f x
   .simp_all
   .simp_all
  .grind
def GL{K:Type}{f:K->Nat}{l:List (K×Nat)}(b:Pos l):0<W f l↔ ∃q∈l,0<f q.1:=by
 unfold W;rw[A4];constructor
 .rintro⟨q,a,h⟩;exact⟨q,a,Nat.pos_of_mul_pos_left h⟩
 .rintro⟨q,a,h⟩;exact⟨q,a,ER (b q a) h⟩
def yN(b: ∀x,x<L.kinds->0<sJ L x){l:List IG}(h: ∀x∈l,x∈rG P L):0<ql P L l↔ ∃x,x∈l:=by
 unfold ql;rw[sQ,A4];constructor
 .rintro⟨x,a,_⟩;exact⟨x,a⟩
 .rintro⟨x,a⟩;exact⟨x,a,Lx b (h x a)⟩
def mi(P:fu)(L:Place)(b:gN)(a:Nat):List (Pair×Nat):=(dp P L (uo b) false (some a)).map λq=>((q.1.getD 0 (0,(0,0))).2,q.2)
def SG{row:Row}{a:Nat}(hd:(row.map (·.1)).Nodup)(h: ∀j,j∈row.map (·.1)↔j=a): ∃p,row=[(a,p)]:=by
 match row,hd,h with
 | [],_,h=>have:=(h a).mpr rfl;simp at this
 | [t],_,h=>have:t.1=a:=(h t.1).mp (by simp);exact⟨t.2,by rw[<-this]⟩
 |t::u::r,hd,h=>have b:t.1=a:=(h t.1).mp (by simp);have c:u.1=a:=(h u.1).mp (by simp);simp at hd;exact absurd (b.trans c.symm) hd.1.1
def Ia(G:Good P)(e: ∀x,x<L.kinds->0<sJ L x){ag:Nat->Pair->Bool}{once:Bool}{a:Nat}(f:a< ~~~P){q:Row×Nat}(c:q∈dp P L ag once (some a)): ∃p,q.1=[(a,p)]:=by
 have S:=(N4 (ag:=ag) (once:=once) (asked:=some a) G e (F:=λ_=>0) λ_ _ _=>rfl).1;let⟨b,d⟩:=S.row q c;refine SG b λj=> ?_;rw[d j];constructor
 .rintro⟨_,⟨k,hk,_⟩|h⟩
  .simp at hk
  .simp_all
 .rintro rfl;exact⟨(iJ G).mpr f,.inr rfl⟩
def tF(G:Good P)(d: ∀x,x<L.kinds->0<sJ L x)(c:gN){a:Nat}(g:a< ~~~P):((mi P L c a).map (·.1)).Nodup/\Pos (mi P L c a)/\ ∀H:Pair->Nat,W H (mi P L c a)=tree P L (uo c) false (eV P) EM λα=>H (α a):=by
 have S:=(N4 (ag:=uo c) (once:=false) (asked:=some a) G d (F:=λ_=>0) λ_ _ _=>rfl).1;refine⟨?_,?_,?_⟩
 .unfold mi;rw[dm,eI,fQ];have j:=eI.mp S.nodup;rw[fQ]at j;refine kY ?_ j;intro q r b f k e;let⟨(p),i⟩:=Ia G d g b;let⟨(m),l⟩:=Ia G d g f
  simp_all
 .intro q b;let⟨(r),f,rfl⟩:=dk.mp b;exact S.pos r f
 .intro H;rw[<-(N4 G d λα n h=>by rw[h a rfl]).2];unfold mi W;rw[dm];congr 1;apply map_congr;intro q b;let⟨(p),i⟩:=Ia G d g b;show q.2*H (q.1.getD 0 (0,(0,0))).2=q.2*H (sE q.1 a);rw[i];simp[sE,gV]
def acC{K:Type} [DecidableEq K]{l:List (K×Nat)}(hd:(l.map (·.1)).Nodup)(k:K):W (λx=>if x=k then 1 else 0) l=(gB l k).getD 0:=by
 induction l with
 |nil=>rfl
 |cons q l ih=>
  rw[dt,fH]at hd;rw[oR,gV,ih hd.2];by_cases e:q.1=k
  .rw[dq e,dq e];have:gB l k=none:=qI.mpr (by rw[<-e];exact hd.1)
   simp_all
  .simp_all
section
variable (R:lP P L sd s) (G:Good P) (hk:0<L.kinds) (hw: ∀x,x<L.kinds->0<sJ L x) (ha:a< ~~~P)
include R G hk hw ha
theorem Og(p:Pair):p∈(mi P L sd a).map (·.1)↔p∈(kq P L s).map λy=>pQ P L y a:=by
 let⟨m,g,o⟩:=tF G hw sd ha;have n:=rQ R G hk (λα=>decide (α a=p)) (λα j h=>by rw[h a ha]);have c:0<W (λx=>if x=p then 1 else 0) (mi P L sd a)↔ ∃q∈mi P L sd a,0<if q.1=p then 1 else 0:=GL g;have d:=yN hw (l:=(kq P L s).filter λx=>decide (pQ P L x a=p)) (λx b=>(eX.mp (eX.mp b).1).1);have i:W (λx=>if x=p then 1 else 0) (mi P L sd a)=ql P L ((kq P L s).filter λx=>decide (pQ P L x a=p)):=by
  simp_all
 rw[i]at c;constructor
 .intro h;let⟨(q),f,e⟩:=dk.mp h;let⟨(x),b⟩:=d.mp (c.mpr ⟨q,f,by rw[dq e];exact EO⟩)
  grind
 .intro h;let⟨(x),b,e⟩:=dk.mp h;let⟨(q),f,k⟩:=c.mp (d.mpr ⟨x,eX.mpr ⟨b,by simpa using e⟩⟩)
  grind
theorem aaC:Cd P L s a=(mJ L.kinds).filter λp=>decide (p∈(mi P L sd a).map (·.1)):=by
 apply U2;intro p _;have:=Og R G hk hw ha p
 grind
theorem W9{p:Pair}(h:p∈(mi P L sd a).map (·.1)):p∈mJ L.kinds:=by let⟨(x),b,rfl⟩:=dk.mp ((Og R G hk hw ha p).mp h);exact oO.mpr (sU G hk (eX.mp b).1 ha)
theorem CG:((mi P L sd a).map (·.2)).sum=ql P L (kq P L s):=by
 let⟨g,i,c⟩:=tF G hw sd ha;have d:=c λ_=>1;have b:=rQ R G hk (λα=>true) (λα f h=>rfl);have e:(kq P L s).filter (λx=>true)=kq P L s:=by simp
 rw[e]at b;rw[b];simp only[jv];rw[<-d];unfold W;simp
theorem We(l:List Pair){kept:List Pair}(hd:kept.Nodup)(b: ∀p,p∈kept↔p∈mJ L.kinds/\p∈l):(kept.map λp=>(gB (mi P L sd a) p).getD 0).sum=ql P L ((kq P L s).filter λx=>l.contains (pQ P L x a)):=by
 let⟨c,m,g⟩:=tF G hw sd ha;have d:(kept.map λp=>(gB (mi P L sd a) p).getD 0).sum=W (λq=>if q∈kept then 1 else 0) (mi P L sd a):=by
  rw[map_congr (λp _=>(acC c p).symm),<-Uz (λq p=>if q=p then 1 else 0) kept];apply nR;intro q _;generalize q.1=x;clear b;induction kept with
  |nil=>rfl
  |cons p kept ih=>
   rw[fH]at hd;rw[dt,gL,ih hd.2];by_cases e:x=p
   .simp_all
   .simp[e]
 have j:=g λq=>if q∈kept then 1 else 0;have f:=rQ R G hk (λα=>decide (α a∈kept)) (λα n h=>by rw[h a ha]);rw[d,j];have k:(kq P L s).filter (λx=>l.contains (pQ P L x a))=(kq P L s).filter λx=>decide (pQ P L x a∈kept):=by apply U2;intro x i;simp only[b];have:=oO.mpr (sU G hk (eX.mp i).1 ha);simp[this]
 rw[k,f];simp
end
end
section
def leaves(P:fu)(L:Place)(ag:Nat->Pair->Bool):List Nat->As->List As
 | [],α=> [α]
 |i::is,α=>((bh P L α i).filter λq=>ag i q.1).flatMap λq=>leaves P L ag is (qN α i q.1)
theorem A2: ∀(is:dE) (α:As),tree P L ag true is α (λ_=>1)=(leaves P L ag is α).length
 | [],α=>rfl
 |i::is,α=>by
  show W (λp=>if ag i p=true then tree P L ag true is (qN α i p) (λ_=>1)else 0) (ones true (bh P L α i))=_;unfold leaves ones;rw[dq rfl,Bv,kE];generalize bh P L α i=l;induction l with
  |nil=>rfl
  |cons q l ih=>
   rw[dt,gL,ih,gQ];split
   .rename_i h;rw[dt,gL,A2 is];simp
   .simp
theorem x8: ∀{is:dE} {α a:As},a∈leaves P L ag is α-> ∀j,j∉is->a j=α j
 | [],α,a,h,j,_=>by
  have:a=α:=by simpa [leaves]using h
  rw[this]
 |i::is,α,a,h,j,b=>by let⟨(q),_,h⟩:=g9.mp h;simp at b;rw[x8 h j b.2];unfold qN;rw[di b.1]
def HL: ∀(is:dE) (α:As),is.Nodup->(leaves P L ag is α).Pairwise λe c=> ∃j∈is,e j≠c j:=by
 intro is;induction is with
 |nil=>intro α _;simp[leaves]
 |cons i is ih=>
  intro α hd;rw[fH]at hd;unfold leaves;rw[lu];refine⟨λq _=>(ih _ hd.2).imp λk=>by let⟨(j),f,h⟩:=k;exact⟨j,by simp[f],h⟩,?_⟩;have d:=eI.mp (K1 (P:=P) (L:=L) α i);rw[fQ]at d;refine(d.filter _).imp ?_;intro q r g e b c a;refine⟨i,by simp,?_⟩;rw[x8 b i hd.1,x8 a i hd.1];unfold qN
  simp_all
def Rq(f: ∀x,x<L.kinds->0<sJ L x)(F:As->Nat): ∀(is:dE) (α:As),0<tree P L ag false is α F↔ ∃c∈leaves P L ag is α,0<F c:=by
 intro is;induction is with
 |nil=>intro α;simp[tree,leaves]
 |cons i is ih=>
  intro α;show 0<W _ (bh P L α i)↔_;rw[GL (Ut f α i)];constructor
  .rintro⟨q,d,h⟩;split at h
   .rename_i b;let⟨(c),a,e⟩:=(ih _).mp h;exact⟨c,g9.mpr ⟨q,eX.mpr ⟨d,b⟩,a⟩,e⟩
   .lia
  .rintro⟨c,a,e⟩;let⟨(q),d,a⟩:=g9.mp a;let⟨d,b⟩:=eX.mp d;refine⟨q,d,?_⟩;rw[dq b];exact(ih _).mpr ⟨c,a,e⟩
end
theorem C9: ∀{l m:List Pair} {a b:Nat},~~~l= ~~~m->(∀p∈l,p.1<8/\p.2<8)->(∀p∈m,p.1<8/\p.2<8)->l.foldl (λ(n:Nat) (x:Pair)=>64*n+(8*x.1+x.2)) a=m.foldl (λ(n:Nat) (x:Pair)=>64*n+(8*x.1+x.2)) b->a=b/\l=m
 | [],[],a,b,_,_,_,h=>⟨h,rfl⟩
 | [],_::_,_,_,h,_,_,_=>by simp at h
 |_::_,[],_,_,h,_,_,_=>by simp at h
 |x::l,y::m,a,b,g,d,e,h=>by
  rw[eT,eT]at h;let⟨o,i⟩:=C9 (by simpa using g) (λp c=>d p (by simp[c])) (λp c=>e p (by simp[c])) h;have:=d x (by simp);have:=e y (by simp);have f:a=b:=by lia
  have j:x.1=y.1:=by lia
  have k:x.2=y.2:=by lia
  exact⟨f,by rw[i,xF j k]⟩
theorem zA: ∀(l:dE),l.Pairwise (· <= ·)-> ∃m:List Nat,m.Nodup/\(∀x,x∈m↔x∈l)/\ ~~~m=differing l
 | [],_=>⟨[],by simp,by simp,rfl⟩
 | [x],_=>⟨[x],by simp,by simp,rfl⟩
 |x::y::r,h=>by
  rw[zO]at h;let⟨(m),b,f,d⟩:=zA (y::r) h.2;show∃m:List Nat,_/\_/\ ~~~m=(if x=y then 0 else 1)+differing (y::r);by_cases e:x=y
  .refine⟨m,b,?_,by rw[dq e,d,rL]⟩
   simp_all
  .refine⟨x::m,fH.mpr ⟨?_,b⟩,?_,by rw[di e,dB,d,adS]⟩
   .intro a;have a:=(f x).mp a;have g:=h.1 y (by simp);rcases eM.mp a with c|c
    .exact e c
    .have:=(zO.mp h.2).1 x c;lia
   .simp_all
section
def lC(P:fu)(L:Place)(a:gN):Nat:=((dp P L (uo a) true none).map (·.2)).sum
def yK(G:Good P)(a: ∀x,x<L.kinds->0<sJ L x):lC P L sd=(leaves P L (uo sd) (eV P) EM).length:=by rw[<-A2,<-(N4 (asked:=none) G a λ_ _ _=>rfl).2];unfold lC W;simp
def BE(P:fu)(α:As):List Pair:=(eE (~~~P)).map α
def VJ(h:BE P α=BE P β)(a:i< ~~~P):α i=β i:=by
 unfold BE at h
 simp_all
variable (R:lP P L sd s) (G:Good P) (hk:0<L.kinds) (hw: ∀x,x<L.kinds->0<sJ L x)
include R G hk hw
theorem sX(r:List Pair):r∈(leaves P L (uo sd) (eV P) EM).map (BE P)↔r∈(kq P L s).map (pairsOf P L):=by
 have m:=rQ R G hk (λα=>decide (BE P α=r)) (λα d h=>by have:BE P α=BE P d:=map_congr λi j=>h i (eO.mp j);rw[this]);have f:=Rq (P:=P) (ag:=uo sd) hw (λα=>if decide (BE P α=r)=true then 1 else 0) (eV P) EM;rw[<-m,yN hw (l:=(kq P L s).filter λx=>decide (BE P (pQ P L x)=r)) (λx b=>(eX.mp (eX.mp b).1).1)]at f;constructor
 .intro h;let⟨(d),a,e⟩:=dk.mp h;let⟨(x),b⟩:=f.mpr ⟨d,a,by simp[e]⟩;let⟨k,g⟩:=eX.mp b;exact dk.mpr ⟨x,k,lX g⟩
 .intro h;let⟨(x),b,e⟩:=dk.mp h;let⟨(d),a,g⟩:=f.mp ⟨x,eX.mpr ⟨b,mI e⟩⟩;apply dP;intro c
  simp_all
theorem OF(E:L.kinds<=8):lC P L sd=Lf P L s:=by
 have u:=gD G;rw[yK G hw];have d: ∀r∈(leaves P L (uo sd) (eV P) EM).map (BE P),~~~r= ~~~P/\ ∀p∈r,p.1<8/\p.2<8:=by intro r q;let⟨(x),f,rfl⟩:=dk.mp ((sX R G hk hw r).mp q);refine⟨by unfold pairsOf;simp,?_⟩;intro p t;unfold pairsOf at t;let⟨(i),B,rfl⟩:=dk.mp t;have:=sU G hk (eX.mp f).1 (eO.mp B);lia
 have l:(((leaves P L (uo sd) (eV P) EM).map (BE P)).map QW).Nodup:=by rw[eI,fQ,fQ];refine kY ?_ (HL (eV P) EM u.1.nodup);rintro C v o n ⟨j,w,k⟩ e;have g:=d _ (dk.mpr ⟨C,o,rfl⟩);have h:=d _ (dk.mpr ⟨v,n,rfl⟩);have:=(C9 (g.1.trans h.1.symm) g.2 h.2 e).2;exact k (VJ this (u.1.lt j w))
 unfold Lf;have y:(((kq P L s).map λx=>QW (pairsOf P L x)).mergeSort λa b=>decide (a<=b)).Pairwise (· <= ·):=by
  have:=List.pairwise_mergeSort (le:=λa b:Nat=>decide (a<=b)) (by intro a b c;simp;lia) (by intro a b;simp;lia) ((kq P L s).map λx=>QW (pairsOf P L x))
  simp_all
 let⟨(m),g,h,A⟩:=zA _ y;rw[<-A];have:(((leaves P L (uo sd) (eV P) EM).map (BE P)).map QW).length= ~~~m:=by
  apply IZ;refine(lh l g).mpr ?_;intro z;rw[h z,List.mem_mergeSort];constructor
  .intro hz;let⟨(r),q,rfl⟩:=dk.mp hz;let⟨(x),f,rfl⟩:=dk.mp ((sX R G hk hw r).mp q);exact dk.mpr ⟨x,f,rfl⟩
  .intro hz;let⟨(x),f,rfl⟩:=dk.mp hz;exact dk.mpr ⟨pairsOf P L x,(sX R G hk hw _).mpr (dk.mpr ⟨x,f,rfl⟩),rfl⟩
 rw[<-this];simp
theorem xM:0<lC P L sd↔ ∃x∈rG P L,rJ P L s x (~~~P)=true:=by
 rw[yK G hw,<-dA,List.length_pos_iff_exists_mem];constructor
 .rintro⟨r,c⟩;let⟨(x),d,_⟩:=dk.mp ((sX R G hk hw r).mp c);let⟨a,b⟩:=eX.mp d;exact⟨x,a,b⟩
 .rintro⟨x,a,b⟩;exact⟨pairsOf P L x,(sX R G hk hw _).mpr (dk.mpr ⟨x,eX.mpr ⟨a,b⟩,rfl⟩)⟩
end
section
def upTo(a:gN)(m:Nat):gN:=a.filter λq=>decide (q.1<=m)
def Qb(a:gN)(m i:Nat):gB (upTo a m) i=if i<=m then gB a i else none:=by
 induction a with
 |nil=>simp[upTo,gB]
 |cons q a ih=>
  unfold upTo at ih⊢;rw[gQ];split
  .rename_i h;rw[gV,gV,ih];lia
  .rename_i h;rw[ih,gV];lia
noncomputable def C8(P:fu)(L:Place)(s:Seen)(m:Nat):Seen:=(eE (~~~P)).map λi=>if i<=m then s.getD i []else mJ L.kinds
def Rj(R:lP P L sd s)(m:Nat):lP P L (upTo sd m) (C8 P L s m) where
 len:=by unfold C8;simp
 get:=λi a=>by
  have:(C8 P L s m).getD i []=if i<=m then s.getD i []else mJ L.kinds:=by unfold C8;rw[dG,dX,l6 a];rfl
  rw[this,Qb];split
  .exact R.get i a
  .rfl
variable (R:lP P L sd s) (G:Good P) (hk:0<L.kinds) (hw: ∀x,x<L.kinds->0<sJ L x)
def Ag(P:fu)(L:Place)(s:Seen)(m:Nat):Bool:=(rG P L).any λx=>rJ P L s x (m+1)
include R G hk hw in
theorem Rk(d:m< ~~~P):0<lC P L (upTo sd m)↔Ag P L s m=true:=by
 rw[xM (Rj R m) G hk hw];unfold Ag;rw[u5];have key: ∀x∈rG P L,rJ P L (C8 P L s m) x (~~~P)=rJ P L s x (m+1):=by
  intro x b;unfold rJ;rw[je,hC,hC];have c: ∀i,i< ~~~P->(C8 P L s m).getD i []=if i<=m then s.getD i []else mJ L.kinds:=λi a=>by unfold C8;rw[dG,dX,l6 a];rfl
  constructor
  .intro h i a;have a:=eO.mp a;have:=h i (eO.mpr (by lia));rw[c i (by lia),dq (by lia)]at this;exact this
  .intro h i a;have a:=eO.mp a;rw[c i a];split
   .exact h i (eO.mpr (by lia))
   .have:=oO.mpr (sU G hk b a);simp[this]
 constructor
 .rintro⟨x,b,h⟩;exact⟨x,b,by rw[<-key x b];exact h⟩
 .rintro⟨x,b,h⟩;exact⟨x,b,by rw[key x b];exact h⟩
def Ot(h:m'<=m)(a:Ag P L s m=true):Ag P L s m'=true:=by
 unfold Ag at a⊢;rw[u5]at a⊢;let⟨(x),c,b⟩:=a;refine⟨x,c,?_⟩;unfold rJ at b⊢
 grind
def MI(h: ∃x∈rG P L,rJ P L s x (~~~P)=true):Xw P L s=none:=by
 unfold Xw;rw[oB];intro p a;have a:=eO.mp a;have:Ag P L s (~~~P-1)=true:=by
  unfold Ag
  grind
 have:=Ot (m':=p) (by lia) this;unfold Ag at this
 grind
def MH(b:m< ~~~P)(c:Ag P L s m=false)(e: ∀k,k<m->Ag P L s k=true):Xw P L s=some m:=by
 refine v9 (λx y h h'=>by lia) iT (eO.mpr b) ?_ ?_
 .show(!Ag P L s m)=true
  simp_all
 .intro y d a;have a:(!Ag P L s y)=true:=a
  grind
structure B3(P:fu)(L:Place)(s:Seen)(lo hi:Nat):Prop where
 le:lo<=hi
 lt:hi< ~~~P
 no:Ag P L s hi=false
 yes: ∀k,k<lo->Ag P L s k=true
theorem B3.up(h:B3 P L s lo hi)(b:lo<hi)(a:Ag P L s ((lo+hi)/2)=true):B3 P L s ((lo+hi)/2+1) hi:=⟨by lia,h.lt,h.no,λk hk=>Ot (by lia) a⟩
def B3.down(h:B3 P L s lo hi)(b:lo<hi)(a:Ag P L s ((lo+hi)/2)=false):B3 P L s lo ((lo+hi)/2):=⟨by lia,by have:=h.lt;lia,a,h.yes⟩
def B3.done(h:B3 P L s lo hi)(a: ¬lo<hi):Xw P L s=some lo:=by
 have e:lo=hi:=by have:=h.le;lia
 subst e;exact MH h.lt h.no h.yes
include R G hk hw in
theorem B3.start(h:lC P L sd=0):0< ~~~P/\B3 P L s 0 (~~~P-1):=by
 have a: ¬ ∃x∈rG P L,rJ P L s x (~~~P)=true:=λc=>by have:=(xM R G hk hw).mpr c;lia
 have b:0< ~~~P:=by
  apply dP;intro c;have c: ~~~P=0:=by lia
  have:lC P L sd=1:=by unfold lC dp eV grow;rw[c];rfl
  lia
 refine⟨b,by lia,by lia,?_,λk hk=>by lia⟩;cases e:Ag P L s (~~~P-1)with
 |false=>rfl
 |true=>unfold Ag at e;rw[u5,show ~~~P-1+1= ~~~P by lia]at e;exact absurd e a
end
section
structure xC(P:fu):Prop extends Good P where
 cY: ∀i y,(person P i).parents=some y->(person P y.1).man=true/\(person P y.2).man=false
def PX(hk:k< ~~~ws)(f:r<(ws.take (k+1)).sum)(j:(ws.take k).sum<=r):agk ws r=k:=by
 unfold agk;have mono: ∀a b,a<=b->(ws.take a).sum<=(ws.take b).sum:=by
  intro a b g;have:ws.take b=ws.take a++(ws.drop a).take (b-a):=by rw[<-List.take_add,show a+(b-a)=b by lia]
  simp_all
 rw[v9 (λx y h h'=>by lia) iT (eO.mpr hk)]
 .rfl
 .exact mI f
 .intro y i d;have d:r<(ws.take (y+1)).sum:=lX d;by_cases e:y=k
  .lia
  .right;apply dP;intro c;have:=mono (y+1) k (by lia);lia
def pick(y:Pair)(r:Nat):Nat:=if r=0 then y.1 else y.2
def qh(l:dE):Nat:=l.getD (~~~l-1) 0
def pb(P:fu)(L:Place)(α:As)(i:Nat)(taken:dE):Pair:=match(person P i).parents with
 |none=>(agk L.weights (taken.getD 0 0%L.total),agk L.weights (qh taken%L.total))
 |some y=>if alone P L i=true then(pick (α y.2) (qh taken%2),pick (α y.2) (qh taken%2))else(pick (α y.1) (taken.getD 0 0%2),pick (α y.2) (qh taken%2))
def wa(P:fu)(L:Place):List Nat->List Nat->As->As
 | [],_,α=>α
 |i::is,a,α=>wa P L is (a.drop (o9 P L i).length) (qN α i (pb P L α i (a.take (o9 P L i).length)))
def needed(P:fu)(L:Place)(is:dE):List (Nat×Nat):=is.flatMap λi=>(o9 P L i).map λd=>(i,d)
def Men(P:fu)(L:Place)(d:dE)(α:As):Prop:= ∀j∈d,alone P L j=true->(α j).1=(α j).2
noncomputable def pK(P:fu)(d:dE)(α:As):List (Option Pair):=(eE (~~~P)).map λj=>if j∈d then some (α j)else none
def qX(h:j< ~~~P):(pK P d α).getD j none=if j∈d then some (α j)else none:=by
 unfold pK
 simp_all
theorem ye{α:Type}{p q:α->Bool}: ∀{l:List α},(∀x∈l,p x=q x)->l.find? p=l.find? q
 | [],_=>rfl
 |x::l,h=>by rw[gW,gW,h x (by simp),ye λy a=>h y (by simp[a])]
def PB(G:Good P)(d:dE)(α:As):nextOf P (pK P d α)=next P d:=by
 apply ye;intro i a;have a:=eO.mp a;rw[qX a];congr 1
 .by_cases h:i∈d<;>simp[h]
 .unfold par;cases e:(person P i).parents with
  |none=>rfl
  |some y=>have b:=G.lt i y.1 (by unfold par;rw[e];simp);have c:=G.lt i y.2 (by unfold par;rw[e];simp);simp only;rw[qX b,qX c];by_cases c1:y.1∈d<;>by_cases c2:y.2∈d<;>simp[c1,c2]
def MP(h:i∉d):(pK P d α).set i (some p)=pK P (d++ [i]) (qN α i p):=by
 unfold pK;apply nH
 .simp
 .intro j b a;rw[List.getElem_set];dsimp only[qN];by_cases e:i=j
  .simp_all
  .rw[di e];by_cases c:j∈d
   .simp[gk e]
   .simp[gk e]
def acs(G:xC P){d:dE}{α:As}{i:Nat}(m:i< ~~~P)(f: ∀q∈par P i,q∈d)(M:Men P L d α){b:dE}(a:(o9 P L i).length<= ~~~b):
  pairBy P L (pK P d α) i ((b.zip (o9 P L i)).map λz=>z.1%z.2)=pb P L α i (b.take (o9 P L i).length):=by
 unfold pairBy pb o9 at*;cases e:(person P i).parents with
 |none=>
  rw[e]at a;simp only at a⊢;by_cases c:(L.bySex&&(person P i).man)=true
  .rw[c]at a⊢
   match b,a with
   | [],a=>rfl
   |x::b,_=>rfl
  .simp only[c]at a⊢
   match b,a with
   | [],a=>simp at a
   | [x],a=>simp at a
   |x::y::b,_=>simp[qh]
 |some y=>
  rw[e]at a;simp only at a⊢;have h:=G.lt i y.1 (by unfold par;rw[e];simp);have j:=G.lt i y.2 (by unfold par;rw[e];simp);have g:=f y.1 (by unfold par;rw[e];simp);have l:=f y.2 (by unfold par;rw[e];simp);rw[qX h,qX j,dq g,dq l];unfold alone pick;by_cases c:L.bySex=true
  .rw[c]at a⊢
   match b,a with
   | [],a=>simp at a
   |x::b,_=>
    have k:=M y.1 g (by unfold alone;rw[c,(G.cY i y e).1];rfl);by_cases c2:(person P i).man=true
    .simp[c2,qh]
    .simp[qh,k]
  .have c:L.bySex=false:=by simpa using c
   rw[c]at a⊢
   match b,a with
   | [],a=>simp at a
   | [x],a=>simp at a
   |x::z::b,_=>simp[qh]
def ZE(G:xC P)(M:Men P L d α)(a:alone P L i=true->(person P i).parents=none-> ~~~taken<=1)(f:i∉d):Men P L (d++ [i]) (qN α i (pb P L α i taken)):=by
 intro j c b;unfold qN;by_cases e:j=i
 .subst e;rw[dq rfl];unfold pb;cases e:(person P j).parents with
  |none=>
   have:=a b e
   match taken,this with
   | [],_=>rfl
   | [x],_=>rfl
   |_::_::_,h=>simp at h
  |some y=>simp[b]
 .rw[di e];exact M j (by simpa [e]using c) b
def GB(h:next P d=some i):grow P (n+1) d=grow P n (d++ [i]):=by
 show(match next P d with|some i=>grow P n (d++ [i])|none=>d)=_
 rw[h]
def Td: ∀(n:Nat) (d:dE),∃r,grow P n d=d++r:=by
 intro n;induction n with
 |zero=>intro d;exact⟨[],by simp[grow]⟩
 |succ n ih=>
  intro d;show∃r,(match next P d with|some i=>grow P n (d++ [i])|none=>d)=d++r
  cases next P d with
  |none=>simp_all
  |some i=>
   let⟨(r),h⟩:=ih (d++ [i])
   simp_all
def Ql(G:xC P): ∀(n:Nat) (d r:dE) (α:As) (a:dE),Ord P d-> ~~~d+n= ~~~P->grow P n d=d++r->Men P L d α->
  dropBy P L n (pK P d α) a=if ~~~a<(needed P L r).length then .error ((needed P L r).getD (~~~a) (0,0))else .ok (pK P (d++r) (wa P L r a α)):=by
 intro n;induction n with
 |zero=>
  intro d r α a o y e M;have:r=[]:=by simpa [grow]using e
  subst this;simp[dropBy,needed,wa]
 |succ n ih=>
  intro d r α a o y e M;have: ∃x,x< ~~~P/\x∉d:=by
   apply dP;intro v;have g:=λx b=>dP λz=>v ⟨x,eO.mp b,z⟩;have k:=gZ.length_le_of_subset (ES.mpr λ{x} b=>g x b)
   grind
  let⟨(x),b,m⟩:=this;let⟨(i),q⟩:=Aq G.toGood b m;let⟨g,h,k⟩:=Ap q;rw[GB q]at e;let⟨(f),j⟩:=Td (P:=P) n (d++ [i]);have u:r=i::f:=by
   simp_all
  subst u;unfold dropBy;rw[PB G.toGood,q];simp only;have p:(needed P L (i::f)).length=(o9 P L i).length+(needed P L f).length:=by unfold needed;simp
  by_cases c: ~~~a<(o9 P L i).length
  .rw[dq c,dq (by lia)];congr 1;unfold needed;rw[lL,dG (l:=_++_),fU (by simpa using c),dX,dG,df c];rfl
  .rw[di c,acs G g k M (by lia),MP h];have w:Men P L (d++ [i]) (qN α i (pb P L α i (a.take (o9 P L i).length))):=by
    refine ZE G M ?_ h;intro s t;have:(o9 P L i).length=1:=by unfold o9;rw[t];simp only;unfold alone at s;rw[dq s];rfl
    rw[this];simp;lia
   rw[ih (d++ [i]) f _ _ (o.snoc g h k) (by simp;lia) j w];have b:(a.drop (o9 P L i).length).length= ~~~a-(o9 P L i).length:=by simp
   rw[b];by_cases c2: ~~~a<(needed P L (i::f)).length
   .rw[dq c2,dq (by lia)];congr 1;unfold needed;rw[lL,dG,dG,iQ (by simp;lia)];simp
   .rw[di c2,di (by lia)];simp[wa]
def WV(G:xC P)(a:dE):dropped P L a=if ~~~a<(needed P L (eV P)).length then .error ((needed P L (eV P)).getD (~~~a) (0,0))else .ok ((eE (~~~P)).map (wa P L (eV P) a EM)):=by
 unfold dropped;have c:(P.map λ_=>(none:Option Pair))=pK P [] EM:=by
  unfold pK;apply nH
  .simp
  .intro j d e;simp
 have:=Ql (L:=L) G (~~~P) [] (eV P) EM a Ord.nil (by simp) (by simp[eV]) (λj b=>by simp at b);rw[c,this];split
 .rfl
 .simp only[jd];show Except.ok ((pK P (eV P) _).map λx=>x.getD (0,0))=_;congr 1;unfold pK;rw[dm];apply map_congr;intro j b;have:=(iJ G.toGood).mpr (eO.mp b);simp[this]
end
noncomputable def longer(part len:Nat)(c:UInt8):Bool:=if part=1 then decide (len=0)&&(decide (c=102)||decide (c=109))else if len=0 then letter c else decide (len<15)&&iD c
noncomputable def closing(part len:Nat)(c:UInt8):Bool:=if len=0 then false else if c=10 then decide (part=1\/part=3)else decide (c=32)&&decide (part≠3)
def sy(part len:Nat):Bool:=if part=0 then decide (len=0)else decide (0<len)&&decide (part=1\/part=3)
def ku:Nat->Nat->Nat->kH->Option Nat
 |part,len,p,[]=>if sy part len=true then none else some p
 |part,len,p,c::r=>if longer part len c=true then ku part (len+1) (p+1) r else if closing part len c=true then ku (if c=10 then 0 else part+1) 0 (p+1) r else some p
def l8(h:iD c=true):c≠10/\c≠32:=by
 constructor
 .rintro rfl;exact absurd h (by decide)
 .rintro rfl;exact absurd h (by decide)
def Bj(h:letter c=true):iD c=true:=by unfold iD;rw[h];rfl
def LN(q:Nat)(j:q≠1): ∀(b:kH) (len p:Nat),1<=len->len<=15->
  ku q len p b=if 15<len+(b.takeWhile iD).length then some (p+(15-len))else ku q (len+(b.takeWhile iD).length) (p+(b.takeWhile iD).length) (b.drop (b.takeWhile iD).length):=by
 intro r;induction r with
 |nil=>intro len p f g;simp;lia
 |cons c r ih=>
  intro len p f g;by_cases hc:iD c=true
  .have d:(c::r).takeWhile iD=c::r.takeWhile nameByte:=by rw[lZ,dq hc]
   rw[d];by_cases hl:len<15
   .have a:longer q len c=true:=by
     unfold longer
     grind
    show(if longer q len c=true then ku q (len+1) (p+1) r else _)=_;rw[dq a,ih (len+1) (p+1) (by lia) (by lia)]
    grind
   .have e:len=15:=by lia
    subst e;have a:longer q 15 c=false:=by
     unfold longer
     simp_all
    have i:closing q 15 c=false:=by unfold closing;rw[di (by lia),di (l8 hc).1];simp[(l8 hc).2]
    show(if longer q 15 c=true then _ else if closing q 15 c=true then _ else some p)=_
    simp_all
  .have d:(c::r).takeWhile iD=[]:=by rw[lZ,di hc]
   rw[d];simp;intro h;lia
def EF(b:kH):Prop:=b.head?.any iD=false
def KI: ∀b:kH,EF (b.drop (b.takeWhile iD).length):=by
 intro r;induction r with
 |nil=>rfl
 |cons c r ih=>
  by_cases hc:iD c=true
  .rw[lZ,dq hc];exact ih
  .rw[lZ,di hc];show Option.any iD (some c)=false
   simp_all
theorem tW(q:Nat)(d:q≠1)(p:Nat)(b:kH)(e:q≠0\/b≠ []):ku q 0 p b=match wy p b with
  | .error k=>some k
  | .ok x=>ku q x.1.length x.2.1 x.2.2:=by
 unfold wy;cases b with
 |nil=>have:q≠0:=e.resolve_right (λh=>h rfl);simp[ku,sy,this]
 |cons c r=>
  simp only[List.head?_cons,Option.any_some];by_cases hc:letter c=true
  .have a:longer q 0 c=true:=by unfold longer;rw[di d,dq rfl];exact hc
   show(if longer q 0 c=true then ku q 1 (p+1) r else _)=_;rw[dq a,LN q d r 1 (p+1) (by lia) (by lia)];have f:(c::r).takeWhile iD=c::r.takeWhile nameByte:=by rw[lZ,dq (Bj hc)]
   rw[f];simp only[hc,dB];by_cases c1:15<1+(r.takeWhile iD).length
   .rw[dq c1];have:U3<(r.takeWhile iD).length+1:=by unfold U3;lia
    simp[this];rfl
   .rw[di c1];have: ¬U3<(r.takeWhile iD).length+1:=by unfold U3;lia
    simp only[this];rw[show 1+(r.takeWhile iD).length=(r.takeWhile iD).length+1 by lia,show p+1+(r.takeWhile iD).length=p+((r.takeWhile iD).length+1)by lia];simp
  .have a:longer q 0 c=false:=by unfold longer;rw[di d,dq rfl];simpa using hc
   show(if longer q 0 c=true then _ else if closing q 0 c=true then _ else some p)=_;rw[a];simp[hc,closing]
def qH(h:wy p b= .ok x):b=x.1++x.2.2/\x.2.1=p+x.1.length/\1<=x.1.length/\x.1.length<=15/\(∀c∈x.1,iD c=true)/\EF x.2.2:=by
 unfold wy at h;simp only at h;split at h
 .cases h
 .rename_i a;split at h
  .cases h
  .rename_i d;cases h
   refine⟨?_,rfl,?_,by unfold U3 at d;simpa using d,?_,KI b⟩
   .have:=List.takeWhile_append_dropWhile (p:=iD) (l:=b)
    grind
   .cases b with
    |nil=>simp_all
    |cons c r=>simp at a;rw[lZ,dq (Bj a)];simp
   .intro c e;have:=List.all_takeWhile (p:=iD) (l:=b)
    grind
theorem yT(e:q≠1)(g:1<=len)(a:EF b):ku q len p b=match b with
  | []=>if sy q len=true then none else some p
  |c::r=>if closing q len c=true then ku (if c=10 then 0 else q+1) 0 (p+1) r else some p:=by
 cases b with
 |nil=>rfl
 |cons c r=>
  have d:iD c=false:=a;have f:longer q len c=false:=by unfold longer;rw[di e,di (by lia),d];simp
  show(if longer q len c=true then _ else _)=_
  simp_all
theorem A5(d:q=0\/q=2)(e:1<=len)(a:EF b):ku q len p b=match yq p b with
  | .error k=>some k
  | .ok u=>ku (q+1) 0 u.2.1 u.2.2:=by
 rw[yT (by lia) e a];unfold yq;cases b with
 |nil=>
  have:sy q len=false:=by
   unfold sy;rcases d with rfl|rfl
   .simp;lia
   .simp
  simp_all
 |cons c r=>
  by_cases h32:c=32
  .subst h32;have:closing q len 32=true:=by unfold closing;rw[di (by lia),di (by decide)];simp;lia
   simp_all
  .have:closing q len c=false:=by
    unfold closing;rw[di (by lia)];split
    .simp;lia
    .simp[h32]
   simp only[this,eW,hJ];split
   .rename_i h;split at h
    .rename_i h';cases h';exact absurd rfl h32
    .cases h;rfl
   .rename_i h;split at h
    .rename_i h';cases h';exact absurd rfl h32
    .cases h
def Y9(b:c≠102)(a:c≠109):Xq p (c::r)= .error p:=by
 unfold Xq
 simp_all
def TR(a:c≠10):IQ p (c::r)= .error p:=by
 unfold IQ
 simp_all
theorem xj:Bx p (32::r)=(match wy (p+1) r with
  | .error k=> .error k
  | .ok f=>match yq f.2.1 f.2.2 with
   | .error k=> .error k
   | .ok v=>match wy v.2.1 v.2.2 with
    | .error k=> .error k
    | .ok m=> .ok ((some (f.1,m.1),(p+1,v.2.1)),m.2.1,m.2.2)):=rfl
def Dz(h:c≠32):Bx p (c::r)= .ok ((none,(0,0)),p,c::r):=by
 unfold Bx
 simp_all
theorem O7:ku 1 0 p b=match Xq p b with
  | .error k=>some k
  | .ok s=>ku 1 1 s.2.1 s.2.2:=by
 cases b with
 |nil=>rfl
 |cons c r=>
  show(if longer 1 0 c=true then ku 1 1 (p+1) r else if closing 1 0 c=true then _ else some p)=_;by_cases h1:c=102
  .subst h1;rfl
  .by_cases h2:c=109
   .subst h2;rfl
   .have a:longer 1 0 c=false:=by unfold longer;simp[h1,h2]
    rw[a];have d:closing 1 0 c=false:=rfl;rw[d,Y9 h1 h2];rfl
theorem O8(d:q=3)(f:1<=len)(a:EF b):ku q len p b=match IQ p b with
  | .error k=>some k
  | .ok e=>if b=[]then none else ku 0 0 e.2.1 e.2.2:=by
 subst d;rw[yT (by lia) f a];cases b with
 |nil=>
  have:sy 3 len=true:=by unfold sy;simp;lia
  simp[this,IQ]
 |cons c r=>
  by_cases h10:c=10
  .subst h10;have:closing 3 len 10=true:=by unfold closing;rw[di (by lia)];rfl
   simp[this,IQ]
  .have:closing 3 len c=false:=by
    unfold closing
    simp_all
   rw[TR h10]
   simp_all
theorem LM:ku 1 1 p b=match Bx p b with
  | .error k=>some k
  | .ok q=>match IQ q.2.1 q.2.2 with
   | .error k=>some k
   | .ok e=>if q.2.2=[]then none else ku 0 0 e.2.1 e.2.2:=by
 cases b with
 |nil=>rfl
 |cons c r=>
  have a:longer 1 1 c=false:=rfl;show(if longer 1 1 c=true then _ else if closing 1 1 c=true then ku (if c=10 then 0 else 2) 0 (p+1) r else some p)=_;rw[a];by_cases h32:c=32
  .subst h32;have:closing 1 1 32=true:=rfl;rw[this];simp only[eW,hJ,jv];rw[di (by decide),tW 2 (by lia) (p+1) r (.inl (by lia)),xj];cases h1:wy (p+1) r with
   |error k=>rfl
   |ok f=>
    let⟨_,_,h,_,_,i⟩:=qH h1;simp only;rw[A5 (.inr rfl) h i];cases h2:yq f.2.1 f.2.2 with
    |error k=>rfl
    |ok v=>
     simp only;rw[tW 3 (by lia) v.2.1 v.2.2 (.inl (by lia))];cases h3:wy v.2.1 v.2.2 with
     |error k=>rfl
     |ok m=>let⟨_,_,d,_,_,g⟩:=qH h3;simp only;rw[O8 rfl d g]
  .rw[Dz h32];by_cases h10:c=10
   .subst h10;rfl
   .have:closing 1 1 c=false:=by unfold closing;simp[h10,h32]
    rw[this];simp[TR h10]
theorem LO(a:b≠ []):ku 0 0 p b=match Iv p b with
  | .error k=>some k
  | .ok x=>ku 0 0 x.2.1 x.2.2:=by
 rw[tW 0 (by lia) p b (.inr a)];unfold Iv;cases h1:wy p b with
 |error k=>rfl
 |ok n=>
  let⟨_,_,d,_,_,f⟩:=qH h1;simp only;rw[A5 (.inl rfl) d f];cases h2:yq n.2.1 n.2.2 with
  |error k=>rfl
  |ok u=>
   simp only;rw[O7];cases h3:Xq u.2.1 u.2.2 with
   |error k=>rfl
   |ok s=>
    simp only;rw[LM];cases h4:Bx s.2.1 s.2.2 with
    |error k=>rfl
    |ok q=>
     simp only;cases h5:IQ q.2.1 q.2.2 with
     |error k=>rfl
     |ok e=>
      simp only;split
      .rename_i c;rw[c]at h5;cases h5;rfl
      .rfl
abbrev xB:=Nat×kH
noncomputable def lj:Nat->kH->kH->List xB
 |st,a,[]=> [(st,a)]
 |st,a,c::r=>if c=32 then(st,a)::lj (st+ ~~~a+1) [] r else lj st (a++ [c]) r
noncomputable def kf:Nat->kH->kH->List xB
 |st,a,[]=>if a=[]then []else [(st,a)]
 |st,a,c::r=>if c=10 then(st,a)::kf (st+ ~~~a+1) [] r else kf st (a++ [c]) r
def p3: ∀(w a:kH) (st:Nat) (r:kH),(∀c∈w,c≠32)->lj st a (w++32::r)=(st,a++w)::lj (st+(a++w).length+1) [] r:=by
 intro w;induction w with
 |nil=>intro a st r _;simp[lj]
 |cons c w ih=>intro a st r h;have b:=h c (by simp);show(if c=32 then _ else lj st (a++ [c]) (w++32::r))=_;rw[di b,ih (a++ [c]) st r λd hd=>h d (by simp[hd])];simp
def vw: ∀(w a:kH) (st:Nat),(∀c∈w,c≠32)->lj st a w=[(st,a++w)]:=by
 intro w;induction w with
 |nil=>intro a st _;simp[lj]
 |cons c w ih=>intro a st h;have b:=h c (by simp);unfold lj;rw[di b,ih (a++ [c]) st λd hd=>h d (by simp[hd])];simp
def Bd: ∀(w a:kH) (st:Nat) (r:kH),(∀c∈w,c≠10)->kf st a (w++10::r)=(st,a++w)::kf (st+(a++w).length+1) [] r:=by
 intro w;induction w with
 |nil=>intro a st r _;simp[kf]
 |cons c w ih=>intro a st r h;have b:=h c (by simp);show(if c=10 then _ else kf st (a++ [c]) (w++10::r))=_;rw[di b,ih (a++ [c]) st r λd hd=>h d (by simp[hd])];simp
def Be: ∀(w a:kH) (st:Nat),(∀c∈w,c≠10)->a++w≠ []->kf st a w=[(st,a++w)]:=by
 intro w;induction w with
 |nil=>intro a st _ h;simp at h;simp[kf,h]
 |cons c w ih=>intro a st h e;have b:=h c (by simp);unfold kf;rw[di b,ih (a++ [c]) st (λd hd=>h d (by simp[hd])) (by simp)];simp
structure LineM where
 name:xB
 man:Bool
 parents:List xB
def uL(a:List xB):LineM:=⟨a.getD 0 (0,[]),decide ((a.getD 1 (0,[])).2=[109]),a.drop 2⟩
noncomputable def qG(x:Line):LineM:=⟨(x.at_,x.name),x.man,match x.parents with
 |some p=> [(x.fatherAt,p.1),(x.motherAt,p.2)]
 |none=> []⟩
def vS(b:kH):List LineM:=(kf 0 [] b).map λs=>uL (lj s.1 [] s.2)
def K0(h:yq p b= .ok u):b=32::u.2.2/\u.2.1=p+1:=by
 unfold yq at h;split at h
 .cases h;exact⟨rfl,rfl⟩
 .cases h
def Y8(h:Xq p b= .ok u):b=(if u.1=true then 109 else 102)::u.2.2/\u.2.1=p+1:=by
 unfold Xq at h;split at h
 .cases h;exact⟨rfl,rfl⟩
 .cases h;exact⟨rfl,rfl⟩
 .cases h
def MM(h:IQ p b= .ok u):(b=[]/\u.2.2=[]/\u.2.1=p)\/(b=10::u.2.2/\u.2.1=p+1):=by
 unfold IQ at h;split at h
 .cases h;exact .inl ⟨rfl,rfl,rfl⟩
 .cases h;exact .inr ⟨rfl,rfl⟩
 .cases h
def HJ(h:Iv p b= .ok x): ∃d:kH,d≠ []/\(∀c∈d,c≠10)/\(uL (lj p [] d)=qG x.1/\2<=(lj p [] d).length)/\((b=d++10::x.2.2/\x.2.1=p+ ~~~d+1)\/(b=d/\x.2.2=[]/\x.2.1=p+ ~~~d)):=by
 unfold Iv at h;cases h1:wy p b with
 |error k=>simp_all
 |ok n=>
  let⟨G,w,S,R,M,T⟩:=qH h1;rw[h1]at h;simp only at h;cases h2:yq n.2.1 n.2.2 with
  |error k=>simp_all
  |ok u=>
   let⟨B,t⟩:=K0 h2;rw[h2]at h;simp only at h;cases h3:Xq u.2.1 u.2.2 with
   |error k=>simp_all
   |ok s=>
    let⟨c1,c2⟩:=Y8 h3;rw[h3]at h;simp only at h;have j:=λc a=>(l8 (M c a)).2;have l:=λc a=>(l8 (M c a)).1;have o:(if s.1=true then 109 else 102:UInt8)≠32:=by split<;>decide
    have i:(if s.1=true then 109 else 102:UInt8)≠10:=by split<;>decide
    have g:decide ([(if s.1=true then 109 else 102:UInt8)]=[109])=s.1:=by cases s.1<;>decide
    have ne: ∃c r,n.1=c::r:=by
     cases e:n.1 with
     |nil=>simp_all
     |cons c r=>simp_all
    let⟨c0 Y,Q⟩:=ne;cases h4:Bx s.2.1 s.2.2 with
    |error k=>rw[h4]at h;cases h
    |ok q=>
     rw[h4]at h;simp only at h;cases h5:IQ q.2.1 q.2.2 with
     |error k=>rw[h5]at h;cases h
     |ok e=>
      rw[h5]at h;simp only at h;cases h;cases hr:s.2.2 with
      |nil=>
       have P:q=((none,(0,0)),s.2.1,[]):=by rw[hr]at h4;cases h4;rfl
       subst P;refine⟨n.1++32:: [(if s.1=true then 109 else 102:UInt8)],by simp,?_,?_,?_⟩
       .intro c a;simp at a;rcases a with a|a|a
        .exact l c a
        .rw[a];decide
        .rw[a];exact i
       .rw[p3 n.1 [] p _ j,vw _ [] _ (by intro c a;simp at a;rw[a];exact o)];refine⟨?_,by simp⟩;unfold uL qG;simp[g]
       .rcases MM h5 with⟨g1,g2,g3⟩|⟨g1,g2⟩
        .right;refine⟨by rw[G,B,c1,hr],g2,?_⟩;show e.2.1=_;rw[g3];show s.2.1=_;rw[c2,t,w];simp;lia
        .cases g1
      |cons c r=>
       by_cases h32:c=32
       .subst h32;rw[hr,xj]at h4;cases k1:wy (s.2.1+1) r with
        |error k=>rw[k1]at h4;cases h4
        |ok f=>
         let⟨f1,f2,f3,U,I,Z⟩:=qH k1;rw[k1]at h4;simp only at h4;cases k2:yq f.2.1 f.2.2 with
         |error k=>rw[k2]at h4;cases h4
         |ok v=>
          let⟨v1,C⟩:=K0 k2;rw[k2]at h4;simp only at h4;cases k3:wy v.2.1 v.2.2 with
          |error k=>rw[k3]at h4;cases h4
          |ok m=>
           let⟨O,J,X,m4,H,m6⟩:=qH k3;rw[k3]at h4;simp only at h4;cases h4;have y:=λc a=>(l8 (I c a)).2;have F:=λc a=>(l8 (I c a)).1;have z:=λc a=>(l8 (H c a)).2;have E:=λc a=>(l8 (H c a)).1;refine⟨n.1++32::([(if s.1=true then 109 else 102:UInt8)]++32::(f.1++32::m.1)),by simp,?_,?_,?_⟩
           .intro c a;simp at a;rcases a with a|a|a|a|a|a|a
            .exact l c a
            .rw[a];decide
            .rw[a];exact i
            .rw[a];decide
            .exact F c a
            .rw[a];decide
            .exact E c a
           .rw[p3 n.1 [] p _ j,p3 [_] [] _ _ (by intro c a;simp at a;rw[a];exact o),p3 f.1 [] _ _ y,vw m.1 [] _ z];refine⟨?_,by simp⟩;unfold uL qG;simp[g];rw[C,f2,c2,t,w];constructor<;>lia
           .have N:b=n.1++32::([(if s.1=true then 109 else 102:UInt8)]++32::(f.1++32::(m.1++m.2.2))):=by
             rw[G,B,c1,hr,f1,v1,O];simp
            rcases MM h5 with⟨g1,g2,g3⟩|⟨g1,g2⟩
            .right;refine⟨by rw[N,g1];simp,g2,?_⟩;show e.2.1=_;rw[g3];show m.2.1=_;rw[J,C,f2,c2,t,w];simp;lia
            .left;refine⟨by rw[N,g1];simp,?_⟩;show e.2.1=_;rw[g2];show m.2.1+1=_;rw[J,C,f2,c2,t,w];simp;lia
       .rw[hr,Dz h32]at h4;cases h4
        refine⟨n.1++32:: [(if s.1=true then 109 else 102:UInt8)],by simp,?_,?_,?_⟩
        .intro c a;simp at a;rcases a with a|a|a
         .exact l c a
         .rw[a];decide
         .rw[a];exact i
        .rw[p3 n.1 [] p _ j,vw _ [] _ (by intro c a;simp at a;rw[a];exact o)];refine⟨?_,by simp⟩;unfold uL qG;simp[g]
        .rcases MM h5 with⟨g1,g2,g3⟩|⟨g1,g2⟩
         .cases g1
         .left;have A:c::r=10::e.2.2:=g1;refine⟨by rw[G,B,c1,hr,A];simp,?_⟩;show e.2.1=_;rw[g2];show s.2.1+1=_;rw[c2,t,w];simp;lia
theorem qV(a:b≠ []):tM (k+1) p b=match Iv p b with
  | .error q=> .error q
  | .ok x=>(tM k x.2.1 x.2.2).map λ(l:List Line)=>x.1::l:=by
 show(if b=[]then _ else _)=_;rw[di a];rfl
theorem Kc: ∀(k p:Nat) (b:kH),~~~b<k->ku 0 0 p b=match tM k p b with
  | .error q=>some q
  | .ok _=>none:=by
 intro k;induction k with
 |zero=>intro p b h;lia
 |succ k ih=>
  intro p b h;by_cases hb:b=[]
  .subst hb;rfl
  .rw[qV hb,LO hb];cases e:Iv p b with
   |error q=>rfl
   |ok x=>
    simp only;let⟨(a),c,_,_,g⟩:=HJ e;have d:x.2.2.length< ~~~b:=by
     have:0< ~~~a:=kD.mpr c;rcases g with⟨g,_⟩|⟨g,g2,_⟩
     .rw[g];simp;lia
     .simp_all
    rw[ih x.2.1 x.2.2 (by lia)];cases tM k x.2.1 x.2.2 with
    |error q=>rfl
    |ok l=>rfl
def Kd: ∀(k p:Nat) (b:kH) (d:List Line),~~~b<k->tM k p b= .ok d->((kf p [] b).map λs=>uL (lj s.1 [] s.2))=d.map qG:=by
 intro k;induction k with
 |zero=>intro p b d h _;lia
 |succ k ih=>
  intro p b d h he;by_cases hb:b=[]
  .subst hb;cases he;rfl
  .rw[qV hb]at he;cases e:Iv p b with
   |error q=>simp_all
   |ok x=>
    rw[e]at he;simp only at he;let⟨(a),f,c,j,g⟩:=HJ e;cases e2:tM k x.2.1 x.2.2 with
    |error q=>rw[e2]at he;cases he
    |ok l=>
     rw[e2]at he;cases he;have i:x.2.2.length< ~~~b:=by
      have:0< ~~~a:=kD.mpr f;rcases g with⟨g,_⟩|⟨g,g2,_⟩
      .rw[g];simp;lia
      .simp_all
     have ih:=ih x.2.1 x.2.2 l (by lia) e2;rcases g with⟨g,g2⟩|⟨g,g2,g3⟩
     .rw[g,Bd a [] p _ c,dt,dt]
      simp_all
     .rw[g,Be a [] p c (by simpa using f)];have:kf x.2.1 [] []=[]:=by simp[kf]
      grind
def PU: ∀(k p:Nat) (b:kH) (i:List Line),~~~b<k->tM k p b= .ok i-> ∀s∈kf p [] b,2<=(lj s.1 [] s.2).length:=by
 intro k;induction k with
 |zero=>intro p b i h _;lia
 |succ k ih=>
  intro p b i h he;by_cases hb:b=[]
  .subst hb;intro s f;simp[kf]at f
  .rw[qV hb]at he;cases e:Iv p b with
   |error q=>simp_all
   |ok x=>
    rw[e]at he;simp only at he;let⟨(c),f,d,j,g⟩:=HJ e;cases e2:tM k x.2.1 x.2.2 with
    |error q=>rw[e2]at he;cases he
    |ok l=>
     have n:x.2.2.length< ~~~b:=by
      have:0< ~~~c:=kD.mpr f;rcases g with⟨g,_⟩|⟨g,g2,_⟩
      .rw[g];simp;lia
      .simp_all
     have ih:=ih x.2.1 x.2.2 l (by lia) e2;intro s a;rcases g with⟨g,g2⟩|⟨g,g2,g3⟩
     .rw[g,Bd c [] p _ d]at a;simp only[jd]at a;rcases eM.mp a with rfl|m
      .exact j.2
      .simp_all
     .rw[g,Be c [] p d (by simpa using f)]at a
      simp_all
def DY(h:linesOf t= .ok ls): ∀s∈kf 0 [] t,2<=(lj s.1 [] s.2).length:=PU (~~~t+1) 0 t ls (by lia) h
theorem CU(t:kH):ku 0 0 0 t=match linesOf t with
  | .error q=>some q
  | .ok _=>none:=Kc (~~~t+1) 0 t (by lia)
def Ar(h:linesOf t= .ok ls):vS t=ls.map qG:=Kd (~~~t+1) 0 t ls (by lia) h
noncomputable def rV:Nat->List kH->List LineM->Option (Int×Nat)
 |_,_,[]=>none
 |n,before,x::r=>if n=64 then some (-3,x.name.1)else if x.name.2∈before then some (-4,x.name.1)else rV (n+1) (before++ [x.name.2]) r
def Dq: ∀(a:List Line) (n:Nat) (before:List kH),~~~before=n->n<=64->rV n before (a.map qG)=rg before a:=by
 intro r;induction r with
 |nil=>intro n before _ _;rfl
 |cons x r ih=>
  intro n before h d;show(if n=64 then some (-3,x.at_)else if x.name∈before then some (-4,x.at_)else rV (n+1) (before++ [x.name]) (r.map qG))=(if abc<= ~~~before then some (-3,x.at_)else if before.contains x.name=true then some (-4,x.at_)else rg (before++ [x.name]) r);by_cases c:n=64
  .rw[dq c,dq (by unfold abc;lia)]
  .have b: ¬abc<= ~~~before:=by unfold abc;lia
   rw[di c,di b];by_cases c2:x.name∈before
   .simp_all
   .rw[di c2,di (by simpa using c2),ih (n+1) _ (by simp[h]) (by lia)]
def uK: ∀(a:List Line) (before:List kH),rg before a=none-> ~~~before+ ~~~a<=64\/a=[]:=by
 intro r;induction r with
 |nil=>intro before _;exact .inr rfl
 |cons x r ih=>
  intro before h;unfold rg at h;split at h
  .cases h
  .rename_i c;split at h
   .cases h
   .have c: ~~~before<64:=by unfold abc at c;lia
    rcases ih _ h with b|b
    .simp at b⊢;lia
    .subst b;simp;lia
def sW: ∀(f:List Line) (before:List kH),before.Nodup->rg before f=none->(before++f.map (·.name)).Nodup:=by
 intro r;induction r with
 |nil=>intro before hd _;simpa using hd
 |cons x r ih=>
  intro before hd h;unfold rg at h;split at h
  .cases h
  .split at h
   .cases h
   .rename_i c;have c:x.name∉before:=by simpa using c
    have:=ih (before++ [x.name]) (by rw[gE];refine⟨hd,by simp,?_⟩;intro a g b d e;simp at d;subst d;subst e;exact c g) h
    simp_all
def TK{α:Type}(p:α->Bool): ∀l:List α,l.find? p=(l.findIdx? p).bind λi=>l[i]?:=by
 intro l;induction l with
 |nil=>rfl
 |cons x l ih=>
  rw[gW,Q6];cases h:p x with
  |true=>simp
  |false=>simp[ih];cases l.findIdx? p<;>simp
noncomputable def mC(a:List LineM):List (kH×Bool):=a.map λx=>(x.name.2,x.man)
def Pc(a:List Line)(b:kH):gB (mC (a.map qG)) b=(a.find? λx=>x.name==b).map (·.man):=by
 induction a with
 |nil=>rfl
 |cons x a ih=>
  show gB ((x.name,x.man)::mC (a.map qG)) b=_;rw[gV,ih,gW];by_cases h:x.name=b
  .simp[h]
  .have:(x.name==b)=false:=by simpa using h
   rw[this];simp[h]
def Ey(a:List (kH×Bool)):List (xB×Bool)->Option (Int×Nat)
 | []=>none
 |(w,s)::r=>if gB a w.2≠some s then some (-5,w.1)else Ey a r
def pU(a:List (kH×Bool)):List LineM->Option (Int×Nat)
 | []=>none
 |x::r=>match Ey a (x.parents.zip [true,false])with
  |some k=>some k
  |none=>pU a r
def Cs(l:List Line)(a:kH)(s:Bool):(gB (mC (l.map qG)) a≠some s)↔tN l a s=true:=by
 rw[Pc];unfold tN;cases l.find? λx=>x.name==a with
 |none=>simp
 |some x=>simp
def DA(l:List Line): ∀a:List Line,pU (mC (l.map qG)) (a.map qG)=rF l a:=by
 intro r;induction r with
 |nil=>rfl
 |cons x r ih=>
  have ih:=ih;show(match Ey (mC (l.map qG)) ((qG x).parents.zip [true,false])with|some k=>some k|none=>pU (mC (l.map qG)) (r.map qG))=_
  unfold rF;cases hp:x.parents with
  |none=>
   have:(qG x).parents=[]:=by unfold qG;rw[hp]
   rw[this];exact ih
  |some p=>
   have:(qG x).parents=[(x.fatherAt,p.1),(x.motherAt,p.2)]:=by unfold qG;rw[hp]
   rw[this];simp only[si,Q4,Ey];by_cases c1:tN l p.1 true=true
   .rw[dq ((Cs l p.1 true).mpr c1),dq c1]
   .have b:=λh=>c1 ((Cs l p.1 true).mp h);rw[di b,di c1];by_cases c2:tN l p.2 false=true
    .rw[dq ((Cs l p.2 false).mpr c2),dq c2]
    .have c:=λh=>c2 ((Cs l p.2 false).mp h)
     simp_all
theorem pA: ∀{b:List Line},rF l b=none-> ∀x∈b,∀p,x.parents=some p->tN l p.1 true=false/\tN l p.2 false=false
 | [],_,x,a,_,_=>by simp at a
 |y::r,h,x,a,p,c=>by
  unfold rF at h;rcases eM.mp a with rfl|a
  .rw[c]at h
   grind
  .have:rF l r=none:=by
    grind
   exact pA this x a p c
noncomputable def nJ(a:List LineM):List (kH×Nat):=(a.zipIdx).map λq=>(q.1.name.2,q.2)
def HI(b:kH): ∀(a:List Line) (k:Nat),gB (((a.map qG).zipIdx k).map λq=>(q.1.name.2,q.2)) b=(a.findIdx? λx=>x.name==b).map (· +k):=by
 intro a;induction a with
 |nil=>intro k;rfl
 |cons x a ih=>
  intro k;show gB ((x.name,k)::(((a.map qG).zipIdx (k+1)).map λq=>(q.1.name.2,q.2))) b=_;rw[gV,ih (k+1),Q6];by_cases h:x.name=b
  .simp[h]
  .have:(x.name==b)=false:=by simpa using h
   simp[h];cases a.findIdx? λx=>x.name==b with
   |none=>rfl
   |some i=>simp;lia
def Bc(a:List Line)(b:kH):gB (nJ (a.map qG)) b=Xt a b:=by
 have:=HI b a 0;unfold nJ Xt
 simp_all
def sT(a:List LineM):List (List Nat):=a.map λx=>x.parents.map λw=>(gB (nJ a) w.2).getD 0
def tZ(h:ls[i]?=some x):person (mH ls) i=agf ls x:=by
 unfold person mH
 simp_all
def wQ(a:List Line):(mH a).length= ~~~a:=by unfold mH;simp
def JT(a:List Line):sT (a.map qG)=(eE (mH a).length).map (par (mH a)):=by
 apply nH
 .unfold sT;simp[wQ]
 .intro i b e;have c:i< ~~~a:=by unfold sT at b;simpa using b
  have d:=df c;unfold sT;simp only[Vj,Q5,Bc];unfold par;rw[tZ d];unfold agf qG;cases a[i].parents with
  |none=>rfl
  |some p=>rfl
def wU(h:tN l nm s=false): ∃i x,Xt l nm=some i/\l[i]?=some x/\x.man=s:=by
 unfold tN at h;have:=TK (λx:Line=>x.name==nm) l;unfold Xt;cases e:l.findIdx? λx=>x.name==nm with
 |none=>simp_all
 |some i=>
  cases e2:l[i]? with
  |none=>simp_all
  |some x=>simp_all
structure lQ(ls:List Line):Prop where
 one:rg [] ls=none
 two:rF ls ls=none
def lQ.parents(h:lQ ls)(a:(person (mH ls) i).parents=some y): ∃b c,ls[y.1]?=some b/\b.man=true/\ls[y.2]?=some c/\c.man=false:=by
 cases e:ls[i]? with
 |none=>
  have:(mH ls).length<=i:=by rw[wQ];exact sM.mp e
  rw[Do this]at a;cases a
 |some x=>
  rw[tZ e]at a;unfold agf at a;cases hp:x.parents with
  |none=>simp_all
  |some p=>
   rw[hp]at a;let⟨d,f⟩:=pA h.two x (eS e) p hp;let⟨j b,o,k,q⟩:=wU d;let⟨m c,l,n,g⟩:=wU f;simp only[qu,xc]at a;subst a
   simp_all
def lQ.lt(h:lQ ls)(i q:Nat)(a:q∈par (mH ls) i):q<(mH ls).length:=by
 unfold par at a;cases e:(person (mH ls) i).parents with
 |none=>simp_all
 |some y=>
  let⟨d f,b,_,c,_⟩:=h.parents e;rw[e]at a;simp at a;rw[wQ];rcases a with rfl|rfl
  .exact(dH.mp b).1
  .exact(dH.mp c).1
def Bg(P:fu)(a:List LineM):Option (Int×Nat):=((eE (~~~a)).find? λi=>D5 P i).map λi=>(-6,match a[i]? with
 |some x=>x.name.1
 |none=>0)
def SS(h:lQ ls):Bg (mH ls) (ls.map qG)=Bz ls:=by unfold Bg Bz;rw[dA];rw[ye λi _=>S0 h.lt i];congr 1;funext i;rw[dX];cases ls[i]?<;>rfl
def lQ.good(h:lQ ls)(b:Bz ls=none):xC (mH ls) where
 len:=by
  rw[wQ];rcases uK ls [] h.one with a|a
  .lia
  .simp_all
 lt:=h.lt
 loop:=λi c=>by
  unfold Bz at b;rw[uX,oB]at b;have:=b i (eO.mpr (by rw[wQ]at c;exact c))
  simp_all
 cY:=λi y d=>by let⟨g k,a,f,e,j⟩:=h.parents d;rw[tZ a,tZ e];trivial
def lQ.names(h:lQ ls):(ls.map (·.name)).Nodup:=by simpa using sW ls [] (by simp) h.one
def AE(t:kH):Option (Int×Nat):=match ku 0 0 0 t with
 |some k=>some (-2,k)
 |none=>match rV 0 [] (vS t)with
  |some x=>some x
  |none=>match pU (mC (vS t)) (vS t)with
   |some x=>some x
   |none=>match linesOf t with
    | .ok a=>Bg (mH a) (vS t)
    | .error _=>none
def VL(t:kH):(∃x,AE t=some x/\aa0 t= .error x)\/(AE t=none/\ ∃a,linesOf t= .ok a/\lQ a/\Bz a=none/\aa0 t= .ok (mH a)):=by
 unfold AE aa0;rw[CU];cases e:linesOf t with
 |error k=>exact .inl ⟨_,rfl,rfl⟩
 |ok a=>
  simp only;rw[Ar e,Dq a 0 [] rfl (by lia)];cases e1:rg [] a with
  |some x=>exact .inl ⟨_,rfl,rfl⟩
  |none=>
   simp only;rw[DA a a];cases e2:rF a a with
   |some x=>exact .inl ⟨_,rfl,rfl⟩
   |none=>
    simp only;rw[SS ⟨e1,e2⟩];cases e3:Bz a with
    |some x=>exact .inl ⟨_,rfl,rfl⟩
    |none=>exact .inr ⟨rfl,a,rfl,⟨e1,e2⟩,e3,rfl⟩
def pl(a b:Pair):Prop:=a.1<b.1\/(a.1=b.1/\a.2<b.2)
def Pa{l m:List Pair}(h:l.Perm m)(d:l.Pairwise λx y=> ¬pl y x)(e:m.Pairwise λx y=> ¬pl y x):l=m:=by
 refine ahx ?_ d e h;intro a b _ _ c f;unfold pl at c f
 grind
def uU(k:Nat):(mJ k).Pairwise pl:=by
 unfold mJ;rw[lu];refine⟨?_,?_⟩
 .intro p _;rw[fQ];exact iT.imp λh=> .inr ⟨rfl,h⟩
 .refine iT.imp ?_;intro a b c x e y d;let⟨(u),_,rfl⟩:=dk.mp e;let⟨(v),_,rfl⟩:=dk.mp d;exact .inl c
def R5(h:pl a b): ¬pl b a:=by unfold pl at*;lia
def acj(h:pl a b):a≠b:=by rintro rfl;unfold pl at h;lia
def Fo(k:Nat)(c:Pair->Bool):((mJ k).filter c).Pairwise λx y=> ¬pl y x:=((uU k).filter _).imp R5
def zy(k:Nat)(c:Pair->Bool):((mJ k).filter c).Nodup:=((uU k).filter _).imp acj
def E6{k:Nat}{c:Pair->Bool}{ns a:List Pair}(b:ns.Perm a)(d:ns.Pairwise λx y=> ¬pl y x)(hd:a.Nodup)(e: ∀p,p∈a↔p∈mJ k/\c p=true):ns=(mJ k).filter c:=by
 refine Pa (b.trans ((lh hd (zy k c)).mpr ?_)) d (Fo k c)
 simp_all
def bnd(P:fu)(L:Place)(i:Nat):Nat:=if jJ P i=true then 4 else L.kinds*L.kinds
def nY(P:fu)(L:Place)(is:dE):Nat:=is.foldr (λi n=>bnd P L i*n) 1
def js{K:Type} [DecidableEq K](l:List (K×Nat))(k:K)(n:Nat):(bump l k n).length<= ~~~l+1:=by
 unfold bump kX;split
 .simp
 .simp
def aaH(hk:0<L.kinds)(α:As)(i:Nat):(bh P L α i).length<=bnd P L i:=by
 unfold bh bnd jJ;cases (person P i).parents with
 |none=>
  simp only[hJ];split
  .simp;exact Nat.le_mul_of_pos_left _ hk
  .rw[kE];have: ∀l:List Nat,(l.map λ_=>L.kinds).sum<= ~~~l*L.kinds:=by
    intro l;induction l with
    |nil=>simp
    |cons x l ih=>simp[oX];lia
   simpa using this (eE L.kinds)
 |some y=>simp only[oj,jv,eT,G3];refine eC (js _ _ _) ?_;have b:=js (bump (bump ([]:List (Pair×Nat)) (if alone P L i=true then((α y.2).1,(α y.2).1)else((α y.1).1,(α y.2).1)) 1) (if alone P L i=true then((α y.2).2,(α y.2).2)else((α y.1).1,(α y.2).2)) 1) (if alone P L i=true then((α y.2).1,(α y.2).1)else((α y.1).2,(α y.2).1)) 1;have c:=js (bump ([]:List (Pair×Nat)) (if alone P L i=true then((α y.2).1,(α y.2).1)else((α y.1).1,(α y.2).1)) 1) (if alone P L i=true then((α y.2).2,(α y.2).2)else((α y.1).1,(α y.2).2)) 1;have a:=js ([]:List (Pair×Nat)) (if alone P L i=true then((α y.2).1,(α y.2).1)else((α y.1).1,(α y.2).1)) 1;simp at a;lia
def zR(hk:0<L.kinds)(i:Nat): ∀a:pO,(n4 P L ag once a i).length<= ~~~a*bnd P L i:=by
 intro a;induction a with
 |nil=>simp[n4]
 |cons q a ih=>have ih:=ih;unfold n4 at ih⊢;rw[lL,ib,dA,dB,oX,aeE];have b:=iB (λr:Pair×Nat=>ag i r.1) (bh P L (sE q.1) i);have c:=aaH (P:=P) hk (sE q.1) i;lia
def Qu{M K:Type} [DecidableEq K](k:M->K)(c:M->Nat): ∀(l:List M) (a:List (K×Nat)),(l.foldl (λa m=>bump a (k m) (c m)) a).length<= ~~~a+ ~~~l:=by
 intro l;induction l with
 |nil=>intro a;simp
 |cons m l ih=>intro a;rw[eT,dB];have:=ih (bump a (k m) (c m));have:=js a (k m) (c m);lia
def yL(a:pO)(ps:dE):(mq a ps).length<= ~~~a:=by
 unfold mq;have:=Qu (λq:Row×Nat=>kT ps q.1) (λq=>q.2) a []
 simp_all
def r9(P:fu)(L:Place): ∀(a b:dE),nY P L (a++b)=nY P L a*nY P L b:=by
 intro a;induction a with
 |nil=>intro b;simp[nY]
 |cons i a ih=>intro b;show bnd P L i*nY P L (a++b)=bnd P L i*nY P L a*nY P L b;rw[ih b,qv]
def Xd(hk:0<L.kinds)(i:Nat):0<bnd P L i:=by
 unfold bnd;split
 .lia
 .simp_all
def Ur(hk:0<L.kinds): ∀is:List Nat,0<nY P L is:=by
 intro is;induction is with
 |nil=>exact EO
 |cons i is ih=>exact ER (Xd hk i) ih
def Qw(h:l.Perm m):nY P L l=nY P L m:=by
 induction h with
 |nil=>rfl
 |cons x _ ih=>exact gR (bnd P L x* ·) ih
 |swap x y l=>show bnd P L y*(bnd P L x*nY P L l)=bnd P L x*(bnd P L y*nY P L l);rw[Vi]
 |trans _ _ a b=>rw[a,b]
theorem yh: ∀{l:dE},(∀i∈l,bnd P L i=c)->nY P L l=c^ ~~~l
 | [],_=>rfl
 |i::l,h=>by show bnd P L i*nY P L l=_;rw[h i (by simp),yh λj a=>h j (by simp[a]),dB,nN,Ca]
def KY(G:Good P):nY P L (eV P)=4^(gd P).length*L.kinds^(2*(gm P).length):=by
 rw[<-Qw (K5 G),r9,yh (c:=4) λi a=>by unfold bnd jJ;rw[(oN.mp a).2];rfl,
  yh (c:=L.kinds*L.kinds) λi a=>by unfold bnd jJ;rw[(mf.mp a).2];rfl]
 rw[QM];rw[nN,Nat.pow_one]
def RU: ∀n:Nat,(Ir n).length=2^n:=by
 intro n;induction n with
 |zero=>rfl
 |succ n ih=>
  show((Ir n).flatMap _).length=_;rw[kE];have h:(Ir n).map (λr=>ni [false::r,true::r])=fP (Ir n).length 2:=by
   rw[Nc]
   simp_all
  rw[h,Ln,ih,nN]
def HM(k:Nat): ∀n:Nat,(nh k n).length=k^n:=by
 intro n;induction n with
 |zero=>rfl
 |succ n ih=>
  show((nh k n).flatMap _).length=_;rw[kE];have h:(nh k n).map (λr=>ni ((eE k).map λ(x:Nat)=>x::r))=fP (nh k n).length k:=by
   rw[Nc]
   simp_all
  rw[h,Ln,ih,nN]
def CP: ∀l:List Nat,(∀x∈l,x<=B)->l.sum<= ~~~l*B:=by
 intro r;induction r with
 |nil=>intro _;simp
 |cons x r ih=>intro h;have b:=ih λy a=>h y (by simp[a]);have c:=h x (by simp);rw[gL,dB,oX];lia
def Qk(P:fu)(L:Place):(rG P L).length<=2^(2*(gd P).length)*L.kinds^(2*(gm P).length):=by
 unfold rG;rw[kE];refine eC (CP (B:=L.kinds^(2*(gm P).length)) _ λx a=> ?_) ?_
 .obtain⟨w,_,rfl⟩:=dk.mp a;refine eC (iB _ _) ?_;rw[dA,HM];exact dI _
 .rw[dA];unfold ways;rw[RU];exact dI _
def TH(g:Nat->Nat)(h: ∀i,g i<=B): ∀l:List Nat,l.foldr (λi w=>g i*w) 1<=B^ ~~~l:=by
 intro r;induction r with
 |nil=>simp
 |cons i r ih=>rw[wB,dB,nN,Ca (B^_)];exact kh (h i) ih
def OI(a:1<=B)(h: ∀i,L.weights.getD i 0<=B)(x:IG):EI P L x<=(B*B)^(gm P).length:=by
 refine TH (λi=>L.weights.getD (x.first (gm P) i true) 0*(if(L.bySex&&(person P i).man)=true then 1 else L.weights.getD (x.first (gm P) i false) 0)) (λi=> ?_) (gm P);refine kh (h _) ?_;split
 .exact a
 .exact h _
theorem Bn: ∀(l:dE) (i:Nat),l.getD i 0<=l.sum
 | [],i=>by simp
 |x::r,0=>by simp[gL]
 |x::r,i+1=>by have:=Bn r i;rw[nU,gL];lia
def O1: ∀l:List Nat,sumOf l=l.sum:=by
 intro r;induction r with
 |nil=>rfl
 |cons x r _=>rfl
def ZU(G:Good P)(a:L.kinds<=8)(tot:L.weights.sum<=255)(s:Seen):(ql P L (kq P L s)).log2<9000:=by
 have f:(gd P).length<=64:=by unfold gd;refine eC (iB _ _) ?_;rw[pj];exact G.len
 have g:(gm P).length<=64:=by unfold gm;refine eC (iB _ _) ?_;rw[pj];exact G.len
 have e: ∀x:IG,EI P L x<=2^1024:=λx=>by refine eC (OI (B:=2^8) (by decide) (λi=>eC (Bn _ i) (by lia)) x) ?_;rw[<-aeD,<-QM];exact yw (by decide) (by lia)
 have hd:(rG P L).length<=2^512:=by refine eC (Qk P L) ?_;refine eC (kh (yw (by decide) (show 2*(gd P).length<=128 by lia)) (Nat.pow_le_pow_left (show L.kinds<=2^3 from a) _)) ?_;rw[<-QM,<-aeD];exact yw (by decide) (by lia)
 have b:ql P L (kq P L s)<=2^1536:=by
  unfold ql;rw[O1];refine eC (CP (B:=2^1024) _ λx c=> ?_) ?_
  .obtain⟨d,_,rfl⟩:=dk.mp c;exact e d
  .rw[dA];have:(kq P L s).length<=2^512:=eC (iB _ _) hd;lia
 by_cases h0:ql P L (kq P L s)=0
 .rw[h0];decide
 .rw[aeF h0];refine UY b ?_;exact Nat.pow_lt_pow_right (by decide) (by decide)
end BM
namespace DL
open PySem PySem.Spec PyProof.Rows L2
inductive D where
 |non|bl (b:Bool)|int (i:Int)
 |tup (l:List D)|lst (l:List D)
 |obj (c:Nat) (l:List D)
 |dic (t:Bool) (l:List (D×D))
mutual
def vj:NK->D
 | .int i=> .int i
 | .tup l=> .tup (pC l)
def pC:List NK->List D
 | []=> []
 |k::ks=>vj k::pC ks
end
mutual
theorem qB: ∀{a b:NK},vj a=vj b->a=b
 | .int i,.int j,h=>by have h':D.int i=D.int j:=h;injection h' with e;rw[e]
 | .int i,.tup l,h=>by have h':D.int i=D.tup _:=h;cases h'
 | .tup l,.int i,h=>by have h':D.tup _=D.int i:=h;cases h'
 | .tup l,.tup m,h=>by have h':D.tup (pC l)=D.tup (pC m):=h;injection h' with e;rw[J6 e]
theorem J6: ∀{a b:List NK},pC a=pC b->a=b
 | [],[],h=>rfl
 | [],_::_,h=>by have h':([]:List D)=_::_:=h;cases h'
 |_::_,[],h=>by have h':_::_=([]:List D):=h;cases h'
 |x::xs,y::ys,h=>by have h':vj x::pC xs=vj y::pC ys:=h;injection h' with e1 e2;rw[qB e1,J6 e2]
end
def za: ∀l:List NK,pC l=l.map vj:=by
 intro a;induction a with
 |nil=>rfl
 |cons k a ih=>show vj k::pC a=_;rw[ih];rfl
noncomputable instance:DecidableEq D:=λ_ _=>sI _
noncomputable def fl:Nat->List gw
 |0=> ["place","signs"]
 |1=> ["name","sex","parents"]
 |2=> ["by_sex","weights","seen"]
 |3=> ["names","sexes","parents","oldest_first","youngest_first"]
 |4=> ["number","whole_numbers","row"]
 |5=> ["number","listed","text"]
 |6=> ["family","place"]
 |_=> []
structure qj where
 K:dh
 cl:Nat->eB
structure qj.Ok(T:qj):Prop where
 cls: ∀c,c<7->Yw T.K (T.cl c)
 no: ∀c f,c<7->f∈fl c->sF T.K (T.cl c) f
 inj: ∀c c',c<7->c'<7->T.cl c=T.cl c'->c=c'
def fh{α a:Type}(R:α->a->Prop)(us:List α)(ds:List a):Prop:= ~~~us= ~~~ds/\ ∀(i:Nat) u d,us[i]?=some u->ds[i]?=some d->R u d
inductive k7(T:qj)(F:Hp):V->D->Prop
 |non:k7 T F .non .non
 |bl (b:Bool):k7 T F (.bl b) (.bl b)
 |int (i:Int):k7 T F (.int i) (.int i)
 |tup {a:eB} {us:List V} {ds:List D} (h:F a=some (.tup us)) (hl: ~~~us= ~~~ds) (hr: ∀(i:Nat) u d,us[i]?=some u->ds[i]?=some d->k7 T F u d):k7 T F (.ref a) (.tup ds)
 |lst {a:eB} {us:List V} {ds:List D} (h:F a=some (.lst us)) (hl: ~~~us= ~~~ds) (hr: ∀(i:Nat) u d,us[i]?=some u->ds[i]?=some d->k7 T F u d):k7 T F (.ref a) (.lst ds)
 |obj {a dx:eB} {c:Nat} {us:List V} {ds:List D} (hc:c<7) (h:F a=some (.ins (T.cl c) dx ((fl c).zip us))) (hf: ~~~us=(fl c).length) (hl: ~~~us= ~~~ds) (hr: ∀(i:Nat) u d,us[i]?=some u->ds[i]?=some d->k7 T F u d):k7 T F (.ref a) (.obj c ds)
 |dK {a:eB} {kvs:List (Key×V)} {l:List (D×D)} (h:F a=some (.dK kvs)) (hl: ~~~kvs= ~~~l) (hk: ∀(i:Nat) p q,kvs[i]?=some p->l[i]?=some q-> ∃z,p.1= .inl z/\q.1= .int z)
   (hr: ∀(i:Nat) p q,kvs[i]?=some p->l[i]?=some q->k7 T F p.2 q.2):k7 T F (.ref a) (.dic false l)
 |dT {a:eB} {kvs:List (List NK×V)} {l:List (D×D)} (h:F a=some (.dT kvs)) (hl: ~~~kvs= ~~~l) (hk: ∀(i:Nat) p q,kvs[i]?=some p->l[i]?=some q->q.1=vj (.tup p.1))
   (hr: ∀(i:Nat) p q,kvs[i]?=some p->l[i]?=some q->k7 T F p.2 q.2):k7 T F (.ref a) (.dic true l)
abbrev iE(T:qj)(F:Hp):List V->List D->Prop:=fh (k7 T F)
def Le(F b:Hp):Prop:= ∀a o,F a=some o->b a=some o
def Le.refl(F:Hp):Le F F:=λ_ _ h=>h
def Le.trans(a:Le F G)(b:Le G H):Le F H:=λx o h=>b x o (a x o h)
def k7.mono(le:Le F F')(h:k7 T F v d):k7 T F' v d:=by
 induction h with
 |non=>exact .non
 |bl b=>exact .bl b
 |int i=>exact .int i
 |tup h a c ih=>exact .tup (le _ _ h) a ih
 |lst h a c ih=>exact .lst (le _ _ h) a ih
 |obj e h f a c ih=>exact .obj e (le _ _ h) f a ih
 |dK h a hk c ih=>exact .dK (le _ _ h) a hk ih
 |dT h a hk c ih=>exact .dT (le _ _ h) a hk ih
def iE.mono(le:Le F F')(h:iE T F v d):iE T F' v d:=⟨h.1,λi u d a b=>(h.2 i u d a b).mono le⟩
section
variable {α β:Type}
def fh.nil:fh R [] []:=⟨rfl,λi u d h _=>by simp at h⟩
def fh.cons(h:R u d)(t:fh R us ds):fh R (u::us) (d::ds):=⟨by simp[t.1],λi x y a b=>by
 cases i with
 |zero=>simp_all
 |succ i=>simp at a b;exact t.2 i x y a b⟩
def fh.head(h:fh R (u::us) (d::ds)):R u d:=h.2 0 u d rfl rfl
def fh.tail(h:fh R (u::us) (d::ds)):fh R us ds:=⟨by have:=h.1;simpa using this,λi x y a b=>h.2 (i+1) x y (by simpa using a) (by simpa using b)⟩
def fh.af(h:fh R us []):us=[]:=by
 have:=h.1
 simp_all
def fh.cons_right(h:fh R us (d::ds)): ∃u r,us=u::r/\R u d/\fh R r ds:=by
 cases us with
 |nil=>have:=h.1;simp at this
 |cons u r=>exact⟨u,r,rfl,h.head,h.tail⟩
def fh.ah(h:fh R (d::ds) us): ∃u r,us=u::r/\R d u/\fh R ds r:=by
 cases us with
 |nil=>have:=h.1;simp at this
 |cons u r=>exact⟨u,r,rfl,h.head,h.tail⟩
def fh.append(h:fh R us ds)(t:fh R vs es):fh R (us++vs) (ds++es):=⟨by simp[h.1,t.1],λi x y a b=>by
 by_cases hi:i< ~~~us
 .rw[fU hi]at a;rw[fU (by rw[<-h.1];exact hi)]at b;exact h.2 i x y a b
 .rw[iQ (by lia)]at a;rw[iQ (by rw[<-h.1];lia),<-h.1]at b;exact t.2 _ x y a b⟩
def fh.get{us:List α}{ds:List β}(h:fh R us ds){i:Nat}{d:β}(e:ds[i]?=some d): ∃u,us[i]?=some u/\R u d:=by have a:=(dH.mp e).1;refine⟨us[i]'(by rw[h.1];exact a),df _,h.2 i _ d (df _) e⟩
def fh.getL{us:List α}{ds:List β}(h:fh R us ds){i:Nat}{u:α}(e:us[i]?=some u): ∃d,ds[i]?=some d/\R u d:=by have a:=(dH.mp e).1;refine⟨ds[i]'(by rw[<-h.1];exact a),df _,h.2 i u _ e (df _)⟩
def fh.set(h:fh R us ds)(i:Nat)(r:R u d):fh R (us.set i u) (ds.set i d):=⟨by simp[h.1],λj x y a b=>by
 by_cases e:i=j
 .subst e;by_cases hi:i< ~~~us
  .rw[gU hi]at a;rw[gU (by rw[<-h.1];exact hi)]at b
   simp_all
  .simp_all
 .rw[fF e]at a b;exact h.2 j x y a b⟩
def fh.take(h:fh R us ds)(n:Nat):fh R (us.take n) (ds.take n):=⟨by simp[h.1],λj x y a b=>by
 rw[List.getElem?_take]at a b;split at a
 .rename_i c;rw[dq c]at b;exact h.2 j x y a b
 .cases a⟩
def fh.drop(h:fh R us ds)(n:Nat):fh R (us.drop n) (ds.drop n):=⟨by simp[h.1],λj x y a b=>by rw[List.getElem?_drop]at a b;exact h.2 _ x y a b⟩
def fh.map{i c:Type}{S:i->c->Prop}{f:α->i}{g:β->c}{us:List α}{ds:List β}(h:fh R us ds)(k: ∀u d,R u d->S (f u) (g d)):fh S (us.map f) (ds.map g):=⟨by simp[h.1],λj x y a b=>by
 rw[dX]at a b;cases e:us[j]? with
 |none=>simp_all
 |some u=>
  cases e2:ds[j]? with
  |none=>simp_all
  |some d=>rw[e]at a;rw[e2]at b;cases a;cases b;exact k u d (h.2 j u d e e2)⟩
def fh.reverse(h:fh R us ds):fh R us.reverse ds.reverse:=by
 induction us generalizing ds with
 |nil=>
  have e:=eY h.1.symm
  simp_all
 |cons u us ih=>let⟨d r,rfl,a,b⟩:=h.ah;rw[U0,U0];exact(ih b).append (fh.cons a fh.nil)
end
def lk:HO->Bool
 | .dK _=>true
 | .dT _=>true
 | .lst _=>true
 |_=>false
def Lh(H:Hp)(a:eB)(o:HO):Prop:=H a=some o\/(lk o=true/\ ∃b,H a=some (.frz b o))
def Lh.rd(h:Lh H a o):Rd H a o:=h.imp id λx=>x.2
def oW(F H:Hp):Prop:= ∀a o,F a=some o->Lh H a o
structure fT(F H F' H':Hp):Prop where
 le:Le F F'
 old: ∀a,H a≠none->F' a=F a\/ ∃us,H a=some (.tup us)/\F' a=some (.tup us)
 same:qk H H'
 ext:oW F' H'
def fT.refl(h:oW F H):fT F H F H:=⟨Le.refl F,λ_ _=> .inl rfl,qk.refl H,h⟩
def qk.some'(h:qk H H')(n:H a≠none):H' a≠none:=by
 cases e:H a with
 |none=>exact absurd e n
 |some o=>rw[h a o e];simp
def fT.trans(a:fT F H F1 H1)(b:fT F1 H1 F2 H2):fT F H F2 H2:=by
 refine⟨a.le.trans b.le,λx n=> ?_,a.same.trans b.same,b.ext⟩;rcases a.old x n with e|⟨us,c,d⟩
 .rcases b.old x (qk.some' a.same n)with f|⟨us,c,d⟩
  .simp_all
  .cases ex:H x with
   |none=>simp_all
   |some o=>
    have z:=a.same x o ex
    simp_all
 .exact .inr ⟨us,c,b.le _ _ d⟩
def fT.aB(g:fT F H F1 H1)(h:H a=some o)(n: ∀us,o≠ .tup us):F1 a=F a:=by
 rcases g.old a (by rw[h];simp)with e|⟨us,e,_⟩
 .exact e
 .grind
def oW.upd(h:oW F H)(n:H p=none):oW F (upd H p o):=λa u e=>by
 have b:a≠p:=by rintro rfl;rcases h a u e with q|⟨_,_,q⟩<;>rw[n]at q<;>cases q
 unfold Lh;rw[d9 b];exact h a u e
def oW.fresh(h:oW F H)(n:H p=none):F p=none:=by
 cases e:F p with
 |none=>rfl
 |some o=>rcases h p o e with q|⟨_,_,q⟩<;>rw[n]at q<;>cases q
def qk.upd(n:H p=none):qk H (upd H p o):=λb u e=>by rw[d9 (fz e n)];exact e
def fT.new(h:oW F H)(n:H p=none):fT F H (upd F p o) (L2.upd H p o) where
 le:=λa u e=>by rw[d9 (fz e (h.fresh n))];exact e
 old:=λa b=> .inl (by rw[d9 (λe=>b (by rw[e];exact n))])
 same:=qk.upd n
 ext:=λa u e=>by
  by_cases q:a=p
  .subst q;rw[eR]at e;cases e;exact .inl eR
  .rw[d9 q]at e;unfold Lh;rw[d9 q];exact h a u e
def fT.laid(h:oW F H)(n:H p=none):fT F H F (L2.upd H p o):=⟨Le.refl F,λ_ _=> .inl rfl,qk.upd n,h.upd n⟩
inductive L where
 |val (d:D)
 |ol (l:List D)
 |od (t:Bool) (l:List (D×D))
 |oi (q:eB) (c:Nat) (l:List D)
abbrev En:=List (Option L)
def lT(T:qj)(F:Hp)(p:eB):L->HO->Prop
 | .val _,_=>False
 | .ol ds,o=> ∃us,o= .lst us/\iE T F us ds
 | .od false l,o=> ∃a,o= .dK a/\fh (λp q=>(∃z,p.1= .inl z/\q.1= .int z)/\k7 T F p.2 q.2) a l
 | .od true l,o=> ∃a,o= .dT a/\fh (λp q=>q.1=vj (.tup p.1)/\k7 T F p.2 q.2) a l
 | .oi q c ds,o=>q=p/\c<7/\ ∃b us,o= .ins (T.cl c) b ((fl c).zip us)/\ ~~~us<=(fl c).length/\iE T F us ds
theorem lT.mono(le:Le F F'): ∀{l:L} {o:HO},lT T F p l o->lT T F' p l o
 | .val _,_,h=>h.elim
 | .ol ds,o,h=>by let⟨(us),rfl,h⟩:=h;exact⟨us,rfl,iE.mono le h⟩
 | .od false l,o,h=>by let⟨(d),rfl,h⟩:=h;exact⟨d,rfl,h.1,λi p q a b=>⟨(h.2 i p q a b).1,(h.2 i p q a b).2.mono le⟩⟩
 | .od true l,o,h=>by let⟨(d),rfl,h⟩:=h;exact⟨d,rfl,h.1,λi p q a b=>⟨(h.2 i p q a b).1,(h.2 i p q a b).2.mono le⟩⟩
 | .oi q c ds,o,h=>by obtain⟨e,j,f,us,rfl,g,h⟩:=h;exact⟨e,j,f,us,rfl,g,iE.mono le h⟩
theorem lT.cC: ∀{l:L} {o:HO},lT T F p l o->UH (some o)
 | .val _,_,h=>h.elim
 | .ol _,_,⟨_,e,_⟩=>by rw[e];trivial
 | .od false _,_,⟨_,e,_⟩=>by rw[e];trivial
 | .od true _,_,⟨_,e,_⟩=>by rw[e];trivial
 | .oi _ _ _,_,⟨_,_,_,_,e,_⟩=>by rw[e];trivial
structure lq(T:qj)(F:Hp)(δ:En)(σ:L2.St)(H:Hp)(own:AJ):Prop where
 ext:oW F H
 len:δ.length=σ.length
 val: ∀(i:Nat) d,δ[i]?=some (some (L.val d))-> ∃v,σ[i]?=some (some v)/\k7 T F v d
 aN: ∀(i:Nat) l,δ[i]?=some (some l)->(∀d,l≠L.val d)-> ∃p o,own i=some p/\σ[i]?=some (some (.ref p))/\H p=some o/\lT T F p l o
 free: ∀i p,own i=some p->F p=none
 there: ∀i p,own i=some p-> ∃o,H p=some o/\UH (some o)
 inj: ∀i j p,own i=some p->own j=some p->i=j
section
def lq.grow(I:lq T F δ σ H own)(g:fT F H F' H'):lq T F' δ σ H' own where
 ext:=g.ext
 len:=I.len
 val:=λi d e=>let⟨v,a,b⟩:=I.val i d e;⟨v,a,b.mono g.le⟩
 aN:=λi l e n=>let⟨p,o,a,b,c,d⟩:=I.aN i l e n;⟨p,o,a,b,g.same _ _ c,d.mono g.le⟩
 free:=λi p e=>by let⟨(o),f,h⟩:=I.there i p e;rw[g.aB f (by intro us z;subst z;exact h)];exact I.free i p e
 there:=λi p e=>let⟨o,f,h⟩:=I.there i p e;⟨o,g.same _ _ f,h⟩
 inj:=I.inj
def clear(own:AJ)(i:Nat):Nat->Option Addr:=λj=>if j=i then none else own j
def put(own:AJ)(i:Nat)(p:eB):Nat->Option Addr:=λj=>if j=i then some p else own j
def iq(h:clear own i j=some p):own j=some p/\j≠i:=by
 unfold clear at h
 simp_all
def nP{α:Type}{l:List α}{i j:Nat}{x y:α}(h:(l.set i x)[j]?=some y):(j=i/\x=y/\i< ~~~l)\/(j≠i/\l[j]?=some y):=by
 by_cases e:i=j
 .subst e;by_cases hi:i< ~~~l
  .simp_all
  .simp_all
 .rw[fF e]at h;exact .inr ⟨λq=>e q.symm,h⟩
def lq.set(I:lq T F δ σ H own)(i:Nat){v:V}{d:D}(r:k7 T F v d):lq T F (δ.set i (some (.val d))) (σ.set i (some v)) H (clear own i) where
 ext:=I.ext
 len:=by simp[I.len]
 val:=λj d' e=>by
  rcases nP e with⟨rfl,f,h⟩|⟨g,f⟩
  .cases f;exact⟨v,gU (by rw[<-I.len];exact h),r⟩
  .obtain⟨u,a,b⟩:=I.val j d' f;exact⟨u,by rw[fF (λq=>g q.symm)];exact a,b⟩
 aN:=λj l e n=>by
  rcases nP e with⟨rfl,f,h⟩|⟨g,f⟩
  .cases f;exact absurd rfl (n d)
  .obtain⟨p,o,a,b,c,d⟩:=I.aN j l f n;exact⟨p,o,by unfold clear;rw[di g];exact a,by rw[fF (λq=>g q.symm)];exact b,c,d⟩
 free:=λj p e=>I.free j p (iq e).1
 there:=λj p e=>I.there j p (iq e).1
 inj:=λj k p a b=>I.inj j k p (iq a).1 (iq b).1
def lq.forget(I:lq T F δ σ H own)(i:Nat)(f:L2.St)(q: ~~~f=σ.length)(m: ∀j,j≠i->f[j]?=σ[j]?):lq T F (δ.set i none) f H (clear own i) where
 ext:=I.ext
 len:=by simp[I.len,q]
 val:=λj d' e=>by
  rcases nP e with⟨rfl,g,r⟩|⟨h,g⟩
  .cases g
  .obtain⟨u,a,b⟩:=I.val j d' g;exact⟨u,by rw[m j h];exact a,b⟩
 aN:=λj l e n=>by
  rcases nP e with⟨rfl,g,r⟩|⟨h,g⟩
  .cases g
  .obtain⟨p,o,a,b,c,d⟩:=I.aN j l g n;exact⟨p,o,by unfold clear;rw[di h];exact a,by rw[m j h];exact b,c,d⟩
 free:=λj p e=>I.free j p (iq e).1
 there:=λj p e=>I.there j p (iq e).1
 inj:=λj k p a b=>I.inj j k p (iq a).1 (iq b).1
def lq.aC(I:lq T F δ σ H own)(i:Nat){p:eB}{o:HO}{l:L}(h:H p=none)(r:lT T F p l o):lq T F (δ.set i (some l)) (σ.set i (some (.ref p))) (L2.upd H p o) (put own i p) where
 ext:=I.ext.upd h
 len:=by simp[I.len]
 val:=λj d' e=>by
  rcases nP e with⟨rfl,g,t⟩|⟨s,g⟩
  .cases g;exact r.elim
  .obtain⟨u,a,b⟩:=I.val j d' g;exact⟨u,by rw[fF (λq=>s q.symm)];exact a,b⟩
 aN:=λj m e n=>by
  rcases nP e with⟨rfl,g,t⟩|⟨s,g⟩
  .cases g;exact⟨p,o,by unfold put;rw[dq rfl],gU (by rw[<-I.len];exact t),eR,r⟩
  .obtain⟨q,u,a,b,c,d⟩:=I.aN j m g n;exact⟨q,u,by unfold put;rw[di s];exact a,by rw[fF (λq=>s q.symm)];exact b,by rw[d9 (fz c h)];exact c,d⟩
 free:=λj q e=>by
  unfold put at e;split at e
  .cases e;exact I.ext.fresh h
  .exact I.free j q e
 there:=λj q e=>by
  unfold put at e;split at e
  .cases e;exact⟨o,eR,r.cC⟩
  .obtain⟨u,f,v⟩:=I.there j q e;exact⟨u,by rw[d9 (fz f h)];exact f,v⟩
 inj:=λj k q a b=>by
  unfold put at a b;split at a
  .cases a;split at b
   .lia
   .obtain⟨u,f,_⟩:=I.there k p b;rw[h]at f;cases f
  .split at b
   .cases b;let⟨(u),f,_⟩:=I.there j p a;rw[h]at f;cases f
   .exact I.inj j k q a b
def lq.chg(I:lq T F δ σ H own)(i:Nat){p:eB}{o:HO}{l:L}(h:own i=some p)(s:σ[i]?=some (some (.ref p)))(r:lT T F p l o):lq T F (δ.set i (some l)) σ (L2.upd H p o) own where
 ext:=λa u e=>by
  have f:a≠p:=by rintro rfl;rw[I.free i a h]at e;cases e
  unfold Lh;rw[d9 f];exact I.ext a u e
 len:=by simp[I.len]
 val:=λj d' e=>by
  rcases nP e with⟨rfl,g,t⟩|⟨k,g⟩
  .cases g;exact r.elim
  .exact I.val j d' g
 aN:=λj m e n=>by
  rcases nP e with⟨rfl,g,t⟩|⟨k,g⟩
  .cases g;exact⟨p,o,h,s,eR,r⟩
  .obtain⟨q,u,a,b,c,d⟩:=I.aN j m g n;have f:q≠p:=by rintro rfl;exact k (I.inj j i q a h)
   exact⟨q,u,a,b,by rw[d9 f];exact c,d⟩
 free:=I.free
 there:=λj q e=>by
  by_cases z:q=p
  .subst z;exact⟨o,eR,r.cC⟩
  .rw[d9 z];exact I.there j q e
 inj:=I.inj
end
def L.dat:L->D
 | .val d=>d
 | .ol l=> .lst l
 | .od t l=> .dic t l
 | .oi _ c l=> .obj c l
def L.whole:L->Prop
 | .oi _ c l=> ~~~l=(fl c).length
 |_=>True
theorem lT.rep: ∀{l:L} {o:HO},lT T F p l o->l.whole->F p=none->k7 T (L2.upd F p o) (.ref p) l.dat
 | .val _,_,h,_,_=>h.elim
 | .ol ds,o,h,_,n=>by
  let⟨(us),rfl,h⟩:=h;have le:Le F (L2.upd F p (.lst us)):=λa u e=>by rw[d9 (fz e n)];exact e
  exact .lst eR h.1 (iE.mono le h).2
 | .od false l,o,h,_,n=>by
  let⟨(d),rfl,h⟩:=h;have le:Le F (L2.upd F p (.dK d)):=λa u e=>by rw[d9 (fz e n)];exact e
  exact .dK eR h.1 (λi p q a b=>(h.2 i p q a b).1) λi p q a b=>(h.2 i p q a b).2.mono le
 | .od true l,o,h,_,n=>by
  let⟨(d),rfl,h⟩:=h;have le:Le F (L2.upd F p (.dT d)):=λa u e=>by rw[d9 (fz e n)];exact e
  exact .dT eR h.1 (λi p q a b=>(h.2 i p q a b).1) λi p q a b=>(h.2 i p q a b).2.mono le
 | .oi q c ds,o,h,w,n=>by
  obtain⟨_,g,f,us,rfl,j,h⟩:=h;have le:Le F (L2.upd F p (.ins (T.cl c) f ((fl c).zip us))):=λa u e=>by rw[d9 (fz e n)];exact e
  exact .obj g eR (h.1.trans w) h.1 (iE.mono le h).2
def lq.freeze{T:qj}{F H:Hp}{s:En}{A:L2.St}{own:AJ}(I:lq T F s A H own)(i:Nat){l:L}(t:s[i]?=some (some l))(w:l.whole):
  ∃x f,lq T x (s.set i (some (.val l.dat))) A H f/\Le F x/\(∀a,x a≠F a-> ∃j,own j=some a)/\(∀j p,f j=some p->own j=some p):=by
 by_cases hv: ∃d,l= .val d
 .obtain⟨d,rfl⟩:=hv;refine⟨F,own,?_,Le.refl F,λa h=>absurd rfl h,λ_ _ h=>h⟩;have e:s.set i (some (.val (L.val d).dat))=s:=by let⟨(v),E⟩:=dH.mp t;show s.set i (some (.val d))=s;rw[<-E,List.set_getElem_self]
  simp_all
 .have y:=λd e=>hv ⟨d,e⟩;let⟨p o,v,E,J,M⟩:=I.aN i l t y;have n:=I.free i p v;have le:Le F (L2.upd F p o):=λa u e=>by rw[d9 (fz e n)];exact e
  refine⟨L2.upd F p o,clear own i,?_,le,λa h=> ?_,λj q e=>(iq e).1⟩
  .have r:=M.rep w n;refine⟨λa u e=> ?_,by simp[I.len],λj d' e=> ?_,λj m e G=> ?_,λj q e=> ?_,λj q e=>I.there j q (iq e).1,λj k q a b=>I.inj j k q (iq a).1 (iq b).1⟩
   .by_cases z:a=p
    .subst z;rw[eR]at e;cases e;exact .inl J
    .rw[d9 z]at e;exact I.ext a u e
   .rcases nP e with⟨rfl,g,t⟩|⟨C,g⟩
    .simp_all
    .obtain⟨u,a,b⟩:=I.val j d' g;exact⟨u,a,b.mono le⟩
   .rcases nP e with⟨rfl,g,t⟩|⟨C,g⟩
    .cases g;exact absurd rfl (G _)
    .obtain⟨q,u,a,b,c,d⟩:=I.aN j m g G;exact⟨q,u,by unfold clear;rw[di C];exact a,b,c,d.mono le⟩
   .obtain⟨B,g⟩:=iq e;rw[d9 (λz=>g (I.inj j i p (by rw[<-z];exact B) v))];exact I.free j q B
  .refine⟨i,?_⟩;by_cases z:a=p
   .simp_all
   .exact absurd (d9 z) h
abbrev ml:=En->(D->Prop)->Prop
abbrev GM:=En->(Bool->Prop)->Prop
abbrev On:=En->(List D->Prop)->Prop
abbrev qb(X:Cx)(cl:nL):qj:=⟨X.K,cl⟩
def up(T:qj)(t:ml):TE:=λf H Q=> ∃F a own b,lq T F a f H own/\t a b/\ ∀v d c e,fT F H c e->k7 T c v d->b d->Q v e
def G9(T:qj)(t:GM):TT:=λf H Q=> ∃F a own c,lq T F a f H own/\t a c/\ ∀b e d,fT F H e d->c b->Q b d
def upA(T:qj)(t:On):TA:=λf H Q=> ∃F a own c,lq T F a f H own/\t a c/\ ∀b ds d e,fT F H d e->iE T d b ds->c ds->Q b e
def fI(cl:nL)(X:Cx)(e:jG)(t:ml):Prop:=PE X e (up (qb X cl) t)
def ED(cl:nL)(X:Cx)(e:jG)(t:GM):Prop:=PT X e (G9 (qb X cl) t)
def Yu(cl:nL)(X:Cx)(a:mW)(t:On):Prop:=PA X a (upA (qb X cl) t)
def Wt(T:qj)(F H:Hp)(c:D->Prop)(Q:VK):Prop:= ∀v d a b,fT F H a b->k7 T a v d->c d->Q v b
section
def PE.imp(h:PE X e t)(i: ∀a H Q,t' a H Q->t a H Q):PE X e t':=λpz s a H Q I q=>h pz s a H Q I (i a H Q q)
def PT.imp(h:PT X e t)(i: ∀a H Q,t' a H Q->t a H Q):PT X e t':=λpz s a H Q I q=>h pz s a H Q I (i a H Q q)
def PA.imp(h:PA X e t)(i: ∀a H Q,t' a H Q->t a H Q):PA X e t':=λpos pz s a H Q I q=>h pos pz s a H Q I (i a H Q q)
def PS.imp(h:PS X e t)(i: ∀D a H,t' D a H->t D a H):PS X e t':=λpz s a H D I q=>h pz s a H D I (i D a H q)
def GO.imp(h:GO X e t)(i: ∀D a H,t' D a H->t D a H):GO X e t':=λpz s a H D I q=>h pz s a H D I (i D a H q)
def T3(i:Nat):ml:=λa Q=>match a[i]? with
 |some (some (.val d))=>Q d
 |_=>False
def dC(d:D):ml:=λ_ Q=>Q d
def W0(h:T3 i δ Q): ∃d,δ[i]?=some (some (.val d))/\Q d:=by
 unfold T3 at h;split at h
 .rename_i d e;exact⟨d,e,h⟩
 .exact h.elim
def Zw(h:PE X (.Name x pos) (E3 i)):fI cl X (.Name x pos) (T3 i):=PE.imp h λj H Q c=>by let⟨F f own g,I,t,k⟩:=c;let⟨(d),e,q⟩:=W0 t;let⟨(v),a,b⟩:=I.val i d e;exact⟨v,a,k v d F H (fT.refl I.ext) b q⟩
def dW(i:Nat)(c:X.N[i]?=some x:=by rfl)(b:Ys X.env.scope x:=by subst_eqs)(hd:(x==("__debug__" :gw))=false:=by decide)
  (a:(x==("__classdict__" :gw))=false:=by decide):fI cl X (.Name x pos) (T3 i):=Zw (Ht c b hd a)
def Wb(h:PE X e (tC v))(r: ∀F,k7 (qb X cl) F v d):fI cl X e (dC d):=PE.imp h λf H Q a=>by let⟨F b own c,I,t,k⟩:=a;exact k v d F H (fT.refl I.ext) (r F) t
def dM{i j pos}:fI cl X (.Constant (.int i) j pos) (dC (.int i)):=Wb L0 λ_=> .int i
def Dx{b j pos}:fI cl X (.Constant (.bool b) j pos) (dC (.bl b)):=Wb acq λ_=> .bl b
def oH{j pos}:fI cl X (.Constant .none j pos) (dC .non):=Wb Zt λ_=> .non
def V7(a:X.mg x=some (.int n t))(b:Gl X x:=by rfl)(hd:(x==("__debug__" :gw))=false:=by decide):fI cl X (.Name x pos) (dC (.int n)):=Wb (Hu b a (v:= .int n) ⟨t,rfl⟩ hd) λ_=> .int n
abbrev G1:=D->(D->Prop)->Prop
abbrev G2:=D->D->(D->Prop)->Prop
abbrev GN:=List D->(D->Prop)->Prop
def yz(g:G2)(b c:ml):ml:=λa Q=>b a λx=>c a λy=>g x y Q
def BZ(g:G1)(b:ml):ml:=λa Q=>b a λx=>g x Q
def rY(t:ml):GM:=λa Q=>t a λd=>match d with
 | .bl b=>Q b
 |_=>False
def IK(T:qj)(r:R2)(g:G2):Prop:= ∀F H x y b c a Q,oW F H->k7 T F x b->k7 T F y c->g b c a->Wt T F H a Q->r x y H Q
def Wt.grow(w:Wt T F H QD Q)(g:fT F H F1 H1):Wt T F1 H1 QD Q:=λv d a b g' r q=>w v d a b (g.trans g') r q
def Rg(n:IK T r g)(h:up T (yz g ta tb) σ H Q):XW r (up T ta) (up T tb) σ H Q:=by let⟨F a own j,I,t,k⟩:=h;exact⟨F,a,own,_,I,t,λv d o q g1 e f=>⟨o,a,own,_,I.grow g1,f,λi p l b g2 c m=>n l b v i d p j Q g2.ext (e.mono g2.le) c m (Wt.grow k (g1.trans g2))⟩⟩
def oC(h:G9 T (rY t) σ H Q):up T t σ H λx c=> ∃k,x= .bl k/\Q k c:=by
 let⟨F f own j,I,t,k⟩:=h;refine⟨F,f,own,_,I,t,λv d i a g1 e g=> ?_⟩;cases e with
 |bl b=>exact⟨b,rfl,k b i a g1 g⟩
 |_=>simp_all
def A8(d:tG X (nZ op) r)(e:IK (qb X cl) r g)(f:fI cl X a ta)(c:fI cl X b tb):fI cl X (.BinOp a op b pos) (yz g ta tb):=PE.imp (aco d f c) λ_ _ _=>Rg e
def pw(e:tG X (gH op) r)(f:IK (qb X cl) r g)(h:fI cl X a ta)(c:fI cl X b tb)(d:gv op b=false):fI cl X (.Compare a [op] [b] pos) (yz g ta tb):=PE.imp (Hw e h c d) λ_ _ _=>Rg f
def gG(e:tG X (gH op) r)(f:IK (qb X cl) r g)(i:fI cl X a ta)(c:fI cl X b tb)(d:gv op b=false):ED cl X (.Compare a [op] [b] pos) (rY (yz g ta tb)):=
 PT.imp (yX e i c d) λ_ _ _ h=>Rg f (oC h)
def nq(h:fI cl X e t)(he: ∀whole,isTrue e X.env whole=(do let v<-whole;abw e.pos;qm [v] (truthy v)):=by intro _;rfl):ED cl X e (rY t):=PT.imp (Zi h he) λ_ _ _ h=>oC h
def gI(f:Int->Int->D):G2:=λx y Q=>match x,y with
 | .int i,.int j=>Q (f i j)
 |_,_=>False
def Ya(C:Int->Int->Prop)(f:Int->Int->D):G2:=λx y Q=>match x,y with
 | .int i,.int j=>C i j/\Q (f i j)
 |_,_=>False
def X9(h:gI f x y Q): ∃i j,x= .int i/\y= .int j/\Q (f i j):=by
 unfold gI at h;split at h
 .exact⟨_,_,rfl,rfl,h⟩
 .exact h.elim
def aaf(h:Ya C f x y Q): ∃i j,x= .int i/\y= .int j/\C i j/\Q (f i j):=by
 unfold Ya at h;split at h
 .exact⟨_,_,rfl,rfl,h⟩
 .exact h.elim
def k7.aa(h:k7 T F v (.int i)):v= .int i:=by cases h;rfl
def k7.cn(h:k7 T F v (.bl i)):v= .bl i:=by cases h;rfl
def k7.aO(h:k7 T F v .non):v= .non:=by cases h;rfl
def acx{f:Int->Int->Int}:IK T (U8 λi j=> .int (f i j)) (gI λi j=> .int (f i j)):=λF H x y d g c Q e a b h k=>by let⟨i j,rfl,rfl,q⟩:=X9 h;exact⟨i,j,a.aa,b.aa,k _ _ F H (fT.refl e) (.int _) q⟩
def NJ{C:Int->Int->Prop}{f:Int->Int->Int}:IK T (rI C λi j=> .int (f i j)) (Ya C λi j=> .int (f i j)):=λF H x y g l d Q e a b h k=>by let⟨i j,rfl,rfl,c,q⟩:=aaf h;exact⟨i,j,a.aa,b.aa,c,k _ _ F H (fT.refl e) (.int _) q⟩
def nu{f:Int->Int->Bool}:IK T (U8 λi j=> .bl (f i j)) (gI λi j=> .bl (f i j)):=λF H x y d g c Q e a b h k=>by let⟨i j,rfl,rfl,q⟩:=X9 h;exact⟨i,j,a.aa,b.aa,k _ _ F H (fT.refl e) (.bl _) q⟩
def lH(d:fI cl X a ta)(c:fI cl X b tb):fI cl X (.BinOp a .Add b pos) (yz (gI λi j=> .int (i+j)) ta tb):=A8 ZN acx d c
def Hx(d:fI cl X a ta)(c:fI cl X b tb):fI cl X (.BinOp a .Sub b pos) (yz (gI λi j=> .int (i-j)) ta tb):=A8 ZI acx d c
def xS(d:fI cl X a ta)(c:fI cl X b tb):fI cl X (.BinOp a .Mult b pos) (yz (Ya Xm λi j=> .int (i*j)) ta tb):=A8 ZJ NJ d c
def Dt(d:fI cl X a ta)(c:fI cl X b tb):fI cl X (.BinOp a .Mod b pos) (yz (Ya (λ_ j=>0<j) λi j=> .int (i%j)) ta tb):=A8 ZK NJ d c
def NG(d:fI cl X a ta)(c:fI cl X b tb):fI cl X (.BinOp a .FloorDiv b pos) (yz (Ya ady λi j=> .int (i/j)) ta tb):=A8 Wg NJ d c
def gEq(f:Bool->Bool):G2:=λx y Q=>match x,y with
 | .int i,.int j=>Q (.bl (f (decide (i=j))))
 | .non,.int _=>Q (.bl (f false))
 | .int _,.non=>Q (.bl (f false))
 |_,_=>False
def KM(i j:Int):decide (V.int i=V.int j)=decide (i=j):=by simp
def Tu(h:gEq f x y Q):(∃i j,x= .int i/\y= .int j/\Q (.bl (f (decide (i=j)))))\/(∃j,x= .non/\y= .int j/\Q (.bl (f false)))\/(∃j,x= .int j/\y= .non/\Q (.bl (f false))):=by
 unfold gEq at h;split at h
 .exact .inl ⟨_,_,rfl,rfl,h⟩
 .exact .inr (.inl ⟨_,rfl,rfl,h⟩)
 .exact .inr (.inr ⟨_,rfl,rfl,h⟩)
 .exact h.elim
def k6:IK T rEq (gEq id):=λF H x y d f c Q e a b h k=>by
 rcases Tu h with⟨i,j,rfl,rfl,q⟩|⟨j,rfl,rfl,q⟩|⟨j,rfl,rfl,q⟩
 .rw[a.aa,b.aa];exact⟨rfl,k _ _ F H (fT.refl e) (.bl _) (by rw[KM];exact q)⟩
 .rw[a.aO,b.aa];exact⟨rfl,k _ _ F H (fT.refl e) (.bl _) (by rw[fj (by intro z;cases z)];exact q)⟩
 .rw[a.aa,b.aO];exact⟨rfl,k _ _ F H (fT.refl e) (.bl _) (by rw[fj (by intro z;cases z)];exact q)⟩
def SK:IK T rNe (gEq not):=λF H x y d f c Q e a b h k=>by
 rcases Tu h with⟨i,j,rfl,rfl,q⟩|⟨j,rfl,rfl,q⟩|⟨j,rfl,rfl,q⟩
 .rw[a.aa,b.aa];exact⟨rfl,k _ _ F H (fT.refl e) (.bl _) (by rw[KM];exact q)⟩
 .rw[a.aO,b.aa];exact⟨rfl,k _ _ F H (fT.refl e) (.bl _) (by rw[fj (by intro z;cases z)];exact q)⟩
 .rw[a.aa,b.aO];exact⟨rfl,k _ _ F H (fT.refl e) (.bl _) (by rw[fj (by intro z;cases z)];exact q)⟩
def WQ(f:Bool->Bool):G1:=λx Q=>match x with
 | .non=>Q (.bl (f true))
 |_=>Q (.bl (f false))
def X8(r:k7 T F v d)(f:Bool->Bool)(Q:D->Prop)(h:WQ f d Q):Q (.bl (f (decide (v= .non)))):=by
 cases r with
 |non=>exact h
 |_=>exact h
def xP{j b}(l:fI cl X a ta):ED cl X (.Compare a [.Is] [.Constant .none j b] pos) (rY (BZ (WQ id) ta)):=PT.imp (Ho (ZC l)) λm H Q h=>by let⟨F f own n,I,t,k⟩:=oC h;exact⟨F,f,own,_,I,t,λv d i c g1 e g=>k _ _ i c g1 (.bl _) (X8 e id _ g)⟩
def Cf{j b}(l:fI cl X a ta):ED cl X (.Compare a [.IsNot] [.Constant .none j b] pos) (rY (BZ (WQ not) ta)):=PT.imp (Ho (Wc l)) λm H Q h=>by let⟨F f own n,I,t,k⟩:=oC h;exact⟨F,f,own,_,I,t,λv d i c g1 e g=>k _ _ i c g1 (.bl _) (X8 e not _ g)⟩
def Ie(g g':G2)(c d b:ml):ml:=λa Q=>c a λx=>d a λy=>g x y λz=>match z with
 | .bl k=>if k=true then b a λw=>g' y w Q else Q (.bl false)
 |_=>False
def Jk(A:IK T r g)(e:IK T r' g')(h:up T (Ie g g' ta tb tc) σ H Q):LJ r r' (up T ta) (up T tb) (up T tc) σ H Q:=by
 let⟨F a own o,I,t,k⟩:=h;refine⟨F,a,own,_,I,t,λv d B N g1 s u=>⟨B,a,own,_,I.grow g1,u,λn j y p g2 m z=>A y p v n d j _ _ g2.ext (s.mono g2.le) m z λM O l J g3 x c=> ?_⟩⟩;cases x with
 |bl b=>
  refine⟨b,rfl,?_⟩;cases b with
  |true=>rw[dq rfl];have i:tc a λw=>g' j w o:=c;exact⟨l,a,own,_,(I.grow g1).grow (g2.trans g3),i,λv4 C q E f G i=>e q E n v4 j C o Q f.ext ((m.mono g3.le).mono f.le) G i (Wt.grow k (g1.trans (g2.trans (g3.trans f))))⟩
  |false=>rw[di dY];exact k _ _ l J (g1.trans (g2.trans g3)) (.bl false) c
 |_=>exact eZ c
def Du(j:tG X (gH op) r)(e:tG X (gH op') r')(k:IK (qb X cl) r g)(d:IK (qb X cl) r' g')(l:fI cl X a ta)(f:fI cl X b tb)(h:fI cl X c tc)
  (i:QX [op,op'] [b,c]=false:=by with_unfolding_all rfl):fI cl X (.Compare a [op,op'] [b,c] pos) (Ie g g' ta tb tc):=PE.imp (Sh j e l f h i) λ_ _ _=>Jk k d
def RD(k:tG X (gH op) r)(e:tG X (gH op') r')(l:IK (qb X cl) r g)(d:IK (qb X cl) r' g')(m:fI cl X a ta)(f:fI cl X b tb)(i:fI cl X c tc)
  (j:QX [op,op'] [b,c]=false:=by with_unfolding_all rfl):ED cl X (.Compare a [op,op'] [b,c] pos) (rY (Ie g g' ta tb tc)):=PT.imp (R1 k e m f i j) λ_ _ _ h=>Jk l d (oC h)
def aaw(t u:GM):GM:=λa Q=>t a λc=>if c=true then u a Q else Q false
def dOr(t u:GM):GM:=λa Q=>t a λc=>if c=true then Q true else u a Q
def adk(t:GM):GM:=λa Q=>t a λc=>Q (!c)
def K8(cl:nL)(X:Cx)(e:jG)(t:GM):Prop:=PW X e (G9 (qb X cl) t)
variable {tA tB:GM} {rest:mW}
def yO(b:ED cl X a tA):K8 cl X (.BoolOp .And [a] pos) tA:=VP b
def G8(b:ED cl X a tA):K8 cl X (.BoolOp .Or [a] pos) tA:=Zg b
def YO(h:G9 T (aaw tA tB) σ H Q):ab5 (G9 T tA) (G9 T tB) σ H Q:=by
 let⟨F a own g,I,t,k⟩:=h;refine⟨F,a,own,_,I,t,λb d e g1 c=> ?_⟩;cases b with
 |true=>rw[dq rfl];exact⟨d,a,own,g,I.grow g1,c,λi j f g2 l=>k i j f (g1.trans g2) l⟩
 |false=>rw[di dY];exact k false d e g1 c
def abO(h:G9 T (dOr tA tB) σ H Q):tOr (G9 T tA) (G9 T tB) σ H Q:=by
 let⟨F a own g,I,t,k⟩:=h;refine⟨F,a,own,_,I,t,λb d e g1 c=> ?_⟩;cases b with
 |false=>rw[di dY];exact⟨d,a,own,g,I.grow g1,c,λi j f g2 l=>k i j f (g1.trans g2) l⟩
 |true=>rw[dq rfl];exact k true d e g1 c
def CK(e:ED cl X a tA)(d:K8 cl X (.BoolOp .And (b::rest) pos) tB):K8 cl X (.BoolOp .And (a::b::rest) pos) (aaw tA tB):=λc pz s f H Q I q=>Zh e d c pz s f H Q I (YO q)
def Ni(e:ED cl X a tA)(d:K8 cl X (.BoolOp .Or (b::rest) pos) tB):K8 cl X (.BoolOp .Or (a::b::rest) pos) (dOr tA tB):=λc pz s f H Q I q=>ach e d c pz s f H Q I (abO q)
def K8.td(h:K8 cl X e t):ED cl X e t:=PW.pt h
def LH(h:ED cl X a tA):ED cl X (.UnaryOp .Not a pos) (adk tA):=PT.imp (Zj h) λj H Q g=>by let⟨F c own i,I,t,k⟩:=g;exact⟨F,c,own,_,I,t,λb f d g1 e=>k _ f d g1 e⟩
def Yo(b d:ml):ml:=λa Q=>b a λx=>match x with
 | .bl c=>if c=true then d a Q else Q (.bl false)
 |_=>False
def adj(b d:ml):ml:=λa Q=>b a λx=>match x with
 | .bl c=>if c=true then Q (.bl true)else d a Q
 |_=>False
def t5{op}(h:fI cl X a t):fI cl X (.BoolOp op [a] pos) t:=Zs h
def Aa(n:fI cl X a ta)(j:fI cl X (.BoolOp .And (b::rest) pos) tb):fI cl X (.BoolOp .And (a::b::rest) pos) (Yo ta tb):=PE.imp (Zv n j) λo H Q m=>by
 let⟨F e own l,I,t,k⟩:=m;refine⟨F,e,own,_,I,t,λv d g h g1 i f=> ?_⟩;cases i with
 |bl c=>
  refine⟨c,rfl,?_⟩;cases c with
  |true=>rw[dq rfl];exact⟨g,e,own,l,I.grow g1,f,Wt.grow k g1⟩
  |false=>rw[di dY];exact k _ _ g h g1 (.bl false) f
 |_=>simp_all
def Sm(n:fI cl X a ta)(j:fI cl X (.BoolOp .Or (b::rest) pos) tb):fI cl X (.BoolOp .Or (a::b::rest) pos) (adj ta tb):=PE.imp (acn n j) λo H Q m=>by
 let⟨F e own l,I,t,k⟩:=m;refine⟨F,e,own,_,I,t,λv d g h g1 i f=> ?_⟩;cases i with
 |bl c=>
  refine⟨c,rfl,?_⟩;cases c with
  |false=>rw[di dY];exact⟨g,e,own,l,I.grow g1,f,Wt.grow k g1⟩
  |true=>rw[dq rfl];exact k _ _ g h g1 (.bl true) f
 |_=>simp_all
def dIf(t:GM)(b d:ml):ml:=λa Q=>t a λc=>if c=true then b a Q else d a Q
def vE(j:ED cl X c tA)(l:fI cl X a ta)(h:fI cl X b tb):fI cl X (.IfExp c a b pos) (dIf tA ta tb):=PE.imp (Sb j l h) λn H Q i=>by
 let⟨F d own f,I,t,k⟩:=i;refine⟨F,d,own,_,I,t,λv g m g1 e=> ?_⟩;cases v with
 |true=>rw[dq rfl];exact⟨g,d,own,f,I.grow g1,e,Wt.grow k g1⟩
 |false=>rw[di dY];exact⟨g,d,own,f,I.grow g1,e,Wt.grow k g1⟩
def aar:On:=λ_ Q=>Q []
def Uc(c:ml)(d:On):On:=λa Q=>c a λx=>d a λb=>Q (x::b)
def dz:Yu cl X [] aar:=PA.imp mF λd H Q a=>by let⟨F b own c,I,t,k⟩:=a;exact k _ _ F H (fT.refl I.ext) fh.nil t
def da(o:fI cl X e te)(n:Yu cl X es t)(g:dj (e::es) X.env=(false,fX e X.env)::dj es X.env:=by rfl):Yu cl X (e::es) (Uc te t):=
 PA.imp (jl o n g) λq H Q m=>by let⟨F a own s,I,t,k⟩:=m;exact⟨F,a,own,_,I,t,λv d l p g1 f h=>⟨l,a,own,_,I.grow g1,h,λr ds i b g2 c j=>k _ _ i b (g1.trans g2) (fh.cons (f.mono g2.le) c) j⟩⟩
end
section
def Hn(r:k7 T F v (.lst l)): ∃a us,v= .ref a/\F a=some (.lst us)/\iE T F us l:=by
 cases r with
 | @lst a us ds h c b=>exact⟨a,us,rfl,h,c,b⟩
def rS(r:k7 T F v (.tup l)): ∃a us,v= .ref a/\F a=some (.tup us)/\iE T F us l:=by
 cases r with
 | @tup a us ds h c b=>exact⟨a,us,rfl,h,c,b⟩
def oW.tup(e:oW F H)(h:F a=some (.tup us)):H a=some (.tup us):=by
 rcases e a _ h with z|⟨z,_⟩
 .exact z
 .cases z
def ud{us:List V}{ns:jn}(h:iE T F us (ns.map D.int)):us=ns.map V.int:=by
 induction ns generalizing us with
 |nil=>exact fh.af h
 |cons n ns ih=>let⟨u r,rfl,a,b⟩:=fh.cons_right h;rw[a.aa,ih b];rfl
def Gd: ∀ns:List Int,iE T F (ns.map V.int) (ns.map D.int):=by
 intro ns;induction ns with
 |nil=>exact fh.nil
 |cons n ns ih=>exact fh.cons (.int n) ih
def aaE{us:List V}{ns:List Bool}(h:iE T F us (ns.map D.bl)):us=ns.map V.bl:=by
 induction ns generalizing us with
 |nil=>exact fh.af h
 |cons n ns ih=>let⟨u r,rfl,a,b⟩:=fh.cons_right h;rw[a.cn,ih b];rfl
def j7(f:gw):List gw->List D->Option D
 |g::a,d::ds=>if f=g then some d else j7 f a ds
 |_,_=>none
def aag(f:gw):G1:=λx Q=>match x with
 | .obj c l=>match j7 f (fl c) l with
  |some d=>Q d
  |none=>False
 |_=>False
theorem wK: ∀{i:iW} {us:List V} {ds:List D} {d:D},iE T F us ds->j7 f i ds=some d-> ∃v,(i.zip us).lookup f=some v/\k7 T F v d/\f∈i
 | [],us,ds,d,r,h=>by simp[j7]at h
 |g::j,us,[],d,r,h=>by simp[j7]at h
 |g::j,us,d'::ds,d,r,h=>by
  let⟨u us,rfl,l,k⟩:=fh.cons_right r;unfold j7 at h;rw[si,CB];by_cases e:f=g
  .simp_all
  .rw[di e]at h;let⟨(v),a,b,c⟩:=wK k h;refine⟨v,?_,b,eP _ c⟩;have:(f==g)=false:=mz.mpr e;rw[this];exact a
def dS(b:qj.Ok (qb X cl))(he:fI cl X e te)(p:hZ e f X.env (fX e X.env)=fX e X.env:=by rfl):fI cl X (.Attribute e f pos) (BZ (aag f) te):=
 PE.imp (Hv he p) λB H Q x=>by
  let⟨F n own r,I,t,k⟩:=x;refine⟨F,n,own,_,I,t,λv d w j g1 m o=> ?_⟩;cases m with
  | @obj a s c us ds i h C u A=>
   have g:(match j7 f (fl c) ds with|some d=>r d|none=>False):=o
   cases el:j7 f (fl c) ds with
   |none=>simp_all
   |some d=>
    rw[el]at g;let⟨(v),l,y,q⟩:=wK ⟨u,A⟩ el;rcases g1.ext a _ h with z|⟨z,_⟩
    .exact⟨a,_,s,_,v,rfl,z,b.cls c i,b.no c f i q,l,k v d w j g1 y g⟩
    .cases z
  |_=>trivial
def wm(T:qj)(F H:Hp)(v:V)(d:D):Prop:=k7 T F v d\/ ∃p o l,v= .ref p/\H p=some o/\lT T F p l o/\d=l.dat
def wm.grow(h:wm T F H v d)(g:fT F H F' H'):wm T F' H' v d:=by
 rcases h with h|⟨p,o,l,rfl,a,b,rfl⟩
 .exact .inl (h.mono g.le)
 .exact .inr ⟨p,o,l,rfl,g.same _ _ a,b.mono g.le,rfl⟩
def qe(r:wm T F H v (.lst l))(e:oW F H): ∃a us,v= .ref a/\rB T.K H a us/\iE T F us l:=by
 rcases r with r|⟨p,o,m,rfl,f,b,c⟩
 .obtain⟨a,us,rfl,h,r⟩:=Hn r;exact⟨a,us,rfl,.inl (e a _ h).rd,r⟩
 .cases m with
  |ol ds=>let⟨(us),rfl,b⟩:=b;cases c;exact⟨p,us,rfl,.inl (.inl f),b⟩
  |val d=>trivial
  |od _ _=>cases c
  |oi _ _ _=>cases c
def z4(r:wm T F H v (.tup l))(e:oW F H): ∃a us,v= .ref a/\H a=some (.tup us)/\iE T F us l:=by
 rcases r with r|⟨p,o,m,rfl,c,f,b⟩
 .obtain⟨a,us,rfl,h,r⟩:=rS r;exact⟨a,us,rfl,e.tup h,r⟩
 .cases m with
  |ol ds=>cases b
  |val d=>trivial
  |od _ _=>cases b
  |oi _ _ _=>cases b
abbrev RK(T:qj)(F:Hp):Key×V->D×D->Prop:=λp q=>(∃z,p.1= .inl z/\q.1= .int z)/\k7 T F p.2 q.2
abbrev RT(T:qj)(F:Hp):List NK×V->D×D->Prop:=λp q=>q.1=vj (.tup p.1)/\k7 T F p.2 q.2
def Cj(r:wm T F H v (.dic false l))(e:oW F H): ∃a b,v= .ref a/\Rd H a (.dK b)/\fh (RK T F) b l:=by
 rcases r with r|⟨p,o,m,rfl,g,c,f⟩
 .cases r with
  | @dK a b l h j hk k=>exact⟨a,b,rfl,(e a _ h).rd,j,λi p q x y=>⟨hk i p q x y,k i p q x y⟩⟩
 .cases m with
  |od t ds=>
   cases f
   let⟨(b),rfl,c⟩:=c;exact⟨p,b,rfl,.inl g,c⟩
  |val d=>trivial
  |ol _=>cases f
  |oi _ _ _=>cases f
def Ci(r:wm T F H v (.dic true l))(e:oW F H): ∃a b,v= .ref a/\Rd H a (.dT b)/\fh (RT T F) b l:=by
 rcases r with r|⟨p,o,m,rfl,g,c,f⟩
 .cases r with
  | @dT a b l h j hk k=>exact⟨a,b,rfl,(e a _ h).rd,j,λi p q x y=>⟨hk i p q x y,k i p q x y⟩⟩
 .cases m with
  |od t ds=>
   cases f
   let⟨(b),rfl,c⟩:=c;exact⟨p,b,rfl,.inl g,c⟩
  |val d=>trivial
  |ol _=>cases f
  |oi _ _ _=>cases f
def upR(T:qj)(t:ml):TE:=λf H Q=> ∃F b own c,lq T F b f H own/\t b c/\ ∀v d e a,fT F H e a->wm T e a v d->c d->Q v a
def wo(cl:nL)(X:Cx)(e:jG)(t:ml):Prop:=PE X e (upR (qb X cl) t)
def fI.r(h:fI cl X e t):wo cl X e t:=PE.imp h λj H Q i=>by let⟨F b own c,I,t,k⟩:=i;exact⟨F,b,own,c,I,t,λv d f a g r q=>k v d f a g (.inl r) q⟩
def N8(i:Nat):ml:=λa Q=>match a[i]? with
 |some (some l)=>Q l.dat
 |_=>False
def Zb(h:PE X (.Name x pos) (E3 i)):wo cl X (.Name x pos) (N8 i):=PE.imp h λg H Q f=>by
 let⟨F j own m,I,t,k⟩:=f;unfold N8 at t;split at t
 .rename_i l e;by_cases hv: ∃d,l= .val d
  .obtain⟨d,rfl⟩:=hv;let⟨(v),a,b⟩:=I.val i d e;exact⟨v,a,k v d F H (fT.refl I.ext) (.inl b) t⟩
  .obtain⟨p,o,a,b,c,d⟩:=I.aN i l e λd z=>hv ⟨d,z⟩;exact⟨_,b,k _ _ F H (fT.refl I.ext) (.inr ⟨p,o,l,rfl,c,d,rfl⟩) t⟩
 .simp_all
def pr(i:Nat)(c:X.N[i]?=some x:=by rfl)(b:Ys X.env.scope x:=by subst_eqs)(hd:(x==("__debug__" :gw))=false:=by decide)
  (a:(x==("__classdict__" :gw))=false:=by decide):wo cl X (.Name x pos) (N8 i):=Zb (Ht c b hd a)
def OpL(T:qj)(r:R2)(g:G2):Prop:= ∀F H x y b c a Q,oW F H->wm T F H x b->k7 T F y c->g b c a->Wt T F H a Q->r x y H Q
def aaQ(T:qj)(r:R2)(g:G2):Prop:= ∀F H x y b c a Q,oW F H->k7 T F x b->wm T F H y c->g b c a->Wt T F H a Q->r x y H Q
def YL(n:OpL T r g)(h:up T (yz g ta tb) σ H Q):XW r (upR T ta) (up T tb) σ H Q:=by let⟨F a own j,I,t,k⟩:=h;exact⟨F,a,own,_,I,t,λv d o q g1 e f=>⟨o,a,own,_,I.grow g1,f,λi p l b g2 c m=>n l b v i d p j Q g2.ext (e.grow g2) c m (Wt.grow k (g1.trans g2))⟩⟩
def CM(n:aaQ T r g)(h:up T (yz g ta tb) σ H Q):XW r (up T ta) (upR T tb) σ H Q:=by let⟨F a own j,I,t,k⟩:=h;exact⟨F,a,own,_,I,t,λv d o q g1 e f=>⟨o,a,own,_,I.grow g1,f,λi p l b g2 c m=>n l b v i d p j Q g2.ext (e.mono g2.le) c m (Wt.grow k (g1.trans g2))⟩⟩
def K2(r:iE T F us ds)(h:nB ds i=some d): ∃u,nB us i=some u/\k7 T F u d:=by
 unfold nB at h⊢;rw[r.1];cases e:P1 (~~~ds) i with
 |none=>rw[e]at h;cases h
 |some j=>rw[e]at h;let⟨(u),a,b⟩:=r.get (show ds[j]?=some d from h);exact⟨u,a,b⟩
def gIx:G2:=λx y Q=>match x,y with
 | .lst l,.int i=>(match nB l i with
  |some d=>Q d
  |none=>False)
 | .tup l,.int i=>(match nB l i with
  |some d=>Q d
  |none=>False)
 |_,_=>False
def acw:OpL T (rIx T.K) gIx:=λF H x y m n j Q e f g h k=>by
 unfold gIx at h;split at h
 .rename_i l i;cases ea:nB l i with
  |none=>simp_all
  |some d=>rw[ea]at h;let⟨a us,rfl,s,r⟩:=qe f e;let⟨(u),b,c⟩:=K2 r ea;exact .inl ⟨a,us,i,u,rfl,g.aa,s,b,k u d F H (fT.refl e) c h⟩
 .rename_i l i;cases ea:nB l i with
  |none=>simp_all
  |some d=>rw[ea]at h;let⟨a us,rfl,s,r⟩:=z4 f e;let⟨(u),b,c⟩:=K2 r ea;exact .inr (.inl ⟨a,us,i,u,rfl,g.aa,qJ.of s,b,k u d F H (fT.refl e) c h⟩)
 .simp_all
def fK(d:wo cl X a ta)(c:fI cl X b tb)(e:Oo b:=by intro _ _;rfl):fI cl X (.Subscript a b pos) (yz gIx ta tb):=PE.imp (acp Z2 d c e) λ_ _ _=>YL acw
end
section
noncomputable def nV(l:List (D×D))(k:D):Option D:=(l.find? λq=>decide (q.1=k)).map (·.2)
def zT(q:D×D)(l:List (D×D))(k:D):nV (q::l) k=if q.1=k then some q.2 else nV l k:=by
 unfold nV;by_cases e:q.1=k
 .simp_all
 .simp_all
def RO(T:qj)(F:Hp):Option V->Option D->Prop
 |some v,some d=>k7 T F v d
 |none,none=>True
 |_,_=>False
theorem XS(z:Int): ∀{a:List (Key×V)} {l:List (D×D)},fh (RK T F) a l->RO T F (BD a (.inl z)) (nV l (.int z))
 | [],l,h=>by have e:=eY h.1.symm;subst e;trivial
 |p::a,l,h=>by
  obtain⟨q,r,rfl,⟨⟨y,b,c⟩,d⟩,f⟩:=h.ah;rw[zT];by_cases e:y=z
  .subst e;rw[vx b,dq c];exact d
  .rw[vy (by rw[b];intro q;injection q with q;exact e q),di (by rw[c];intro q;injection q with q;exact e q)];exact XS z f
theorem XR(n:List NK): ∀{a:List (List NK×V)} {l:List (D×D)},fh (RT T F) a l->RO T F (BD a n) (nV l (vj (.tup n)))
 | [],l,h=>by have e:=eY h.1.symm;subst e;trivial
 |p::a,l,h=>by
  obtain⟨q,r,rfl,⟨b,c⟩,d⟩:=h.ah;rw[zT];by_cases e:p.1=n
  .subst e;rw[vx rfl,dq b];exact c
  .rw[vy e,di (by rw[b];intro q;have:=qB q;injection this with q;exact e q)];exact XR n d
def hk:Bool->D->Prop
 |false,d=> ∃z,d= .int z
 |true,d=> ∃n,d=vj (.tup n)/\NK.ae n<=6
mutual
theorem x9(e:oW F H): ∀(k:NK) (v:V),k7 T F v (vj k)->M4 H k v
 | .int i,v,r=>by have r':k7 T F v (.int i):=r;exact r'.aa
 | .tup l,v,r=>by have r':k7 T F v (.tup (pC l)):=r;let⟨a us,rfl,h,r2⟩:=rS r';exact⟨a,us,rfl,e.tup h,HN e l us r2⟩
theorem HN(e:oW F H): ∀(k:List NK) (v:List V),iE T F v (pC k)->EG H k v
 | [],v,r=>fh.af r
 |k::ks,v,r=>by have r':iE T F v (vj k::pC ks):=r;let⟨u us,rfl,h1,h2⟩:=fh.cons_right r';exact⟨u,us,rfl,x9 e k u h1,HN e ks us h2⟩
end
def CN(e:oW F H)(hd:NK.ae n<=6)(r:k7 T F v (vj (.tup n))): ∃b,v= .ref b/\TupAt H b n:=by have k:=x9 e (.tup n) v r;let⟨b us,rfl,h⟩:=k;exact⟨b,rfl,hd,⟨b,us,rfl,h⟩⟩
def zB(e:oW F H)(i:wm T F H x (.dic t l))(g:k7 T F y k)(h:hk t k): ∃a o,x= .ref a/\B5 H a y o/\RO T F o (nV l k):=by
 cases t with
 |false=>let⟨(z),rfl⟩:=h;let⟨a c,rfl,d,f⟩:=Cj i e;refine⟨a,_,rfl,.inl ⟨c,.inl z,d,g.aa,rfl⟩,XS z f⟩
 |true=>let⟨(n),rfl,hd⟩:=h;let⟨a c,rfl,d,f⟩:=Ci i e;let⟨(b),rfl,j⟩:=CN e hd g;exact⟨a,_,rfl,.inr ⟨c,n,b,d,rfl,j,rfl⟩,XR n f⟩
def S4(e:oW F H)(d:wm T F H x (.dic t l)): ∃a,x= .ref a/\IsD H a:=by
 cases t with
 |false=>let⟨a b,rfl,c,f⟩:=Cj d e;exact⟨a,rfl,.inl ⟨b,c⟩⟩
 |true=>let⟨a b,rfl,c,f⟩:=Ci d e;exact⟨a,rfl,.inr ⟨b,c⟩⟩
noncomputable def Tv:G2:=λx y Q=>match x with
 | .dic t l=>hk t y/\ ∃d,nV l y=some d/\Q d
 |_=>False
noncomputable def MC(f:Bool->Bool):G2:=λy x Q=>match x with
 | .dic t l=>hk t y/\Q (.bl (f (nV l y).isSome))
 |_=>False
def RO.some_of(h:RO T F o (some d)): ∃v,o=some v/\k7 T F v d:=by
 cases o with
 |none=>trivial
 |some v=>exact⟨v,rfl,h⟩
def RO.isSome(h:RO T F o d):o.isSome=d.isSome:=by cases o<;>cases d<;>first|rfl|exact h.elim
def Vx(h:up T (yz Tv td ty) σ H Q):XX (upR T td) (up T ty) σ H Q:=by
 let⟨F b own y,I,t,k⟩:=h;refine⟨F,b,own,_,I,t,λv d q w g1 m n=>⟨q,b,own,_,I.grow g1,n,λx z p f g2 i c=> ?_⟩⟩;cases d with
 |dic t l=>obtain⟨hk,d,j,g⟩:=c;let⟨a o,rfl,r,e⟩:=zB g2.ext (m.grow g2) i hk;rw[j]at e;let⟨(u),rfl,s⟩:=e.some_of;exact⟨a,u,rfl,r,k u d p f (g1.trans g2) s g⟩
 |_=>exact eZ c
def m7(a:X.A.units+16<jc)(c:wo cl X o td)(b:fI cl X i ty)(d:UF i:=by intro _ _;rfl):fI cl X (.Subscript o i pos) (yz Tv td ty):=PE.imp (V4 a c b d) λ_ _ _=>Vx
def Rh(h:up T (yz (MC id) ty td) σ H Q):abZ (up T ty) (upR T td) σ H Q:=by
 let⟨F b own w,I,t,k⟩:=h;refine⟨F,b,own,_,I,t,λv d n s g1 i j=>⟨n,b,own,_,I.grow g1,j,λu q m e g2 g c=> ?_⟩⟩;cases q with
 |dic t l=>let⟨hk,f⟩:=c;let⟨a o,rfl,p,r⟩:=zB g2.ext g (i.mono g2.le) hk;exact⟨a,o,rfl,p,k _ _ m e (g1.trans g2) (.bl _) (by rw[r.isSome];exact f)⟩
 |_=>exact eZ c
def FT(h:up T (yz (MC not) ty td) σ H Q):Nj (up T ty) (upR T td) σ H Q:=by
 let⟨F b own w,I,t,k⟩:=h;refine⟨F,b,own,_,I,t,λv d n s g1 i j=>⟨n,b,own,_,I.grow g1,j,λu q m e g2 g c=> ?_⟩⟩;cases q with
 |dic t l=>let⟨hk,f⟩:=c;let⟨a o,rfl,p,r⟩:=zB g2.ext g (i.mono g2.le) hk;exact⟨a,o,rfl,p,k _ _ m e (g1.trans g2) (.bl _) (by rw[r.isSome];exact f)⟩
 |_=>exact eZ c
def Sv(a:X.A.units+16<jc)(b:fI cl X i ty)(d:wo cl X o td)(c:gv .In o=false:=by rfl):fI cl X (.Compare i [.In] [o] pos) (yz (MC id) ty td):=PE.imp (Sg (Sz a b d) c) λ_ _ _=>Rh
def Ha(a:X.A.units+16<jc)(b:fI cl X i ty)(d:wo cl X o td)(c:gv .In o=false:=by rfl):ED cl X (.Compare i [.In] [o] pos) (rY (yz (MC id) ty td)):=PT.imp (Ho (Sz a b d) c) λ_ _ _ h=>Rh (oC h)
def Pk(a:X.A.units+16<jc)(b:fI cl X i ty)(d:wo cl X o td)(c:gv .NotIn o=false:=by rfl):fI cl X (.Compare i [.NotIn] [o] pos) (yz (MC not) ty td):=PE.imp (Sg (Gg a b d) c) λ_ _ _=>FT
def O0(a:X.A.units+16<jc)(b:fI cl X i ty)(d:wo cl X o td)(c:gv .NotIn o=false:=by rfl):ED cl X (.Compare i [.NotIn] [o] pos) (rY (yz (MC not) ty td)):=PT.imp (Ho (Gg a b d) c) λ_ _ _ h=>FT (oC h)
noncomputable def Yl(b ty:ml):ml:=λa Q=>b a λx=>match x with
 | .dic t l=>ty a λy=>hk t y/\Q ((nV l y).getD .non)
 |_=>False
noncomputable def Yk(b ty c:ml):ml:=λa Q=>b a λx=>match x with
 | .dic t l=>ty a λy=>c a λz=>hk t y/\Q ((nV l y).getD z)
 |_=>False
def RO.getD{o:Option V}{d:Option D}{v:V}{x:D}(h:RO T F o d)(r:k7 T F v x):k7 T F (o.getD v) (d.getD x):=by cases o<;>cases d<;>first|exact r|exact h|exact h.elim
def V8(j:X.A.units+16<jc)(u:wo cl X o td)(he:fI cl X e ty)(m:M1 X o "get" apos e cpos:=by exact⟨rfl,rfl,rfl,rfl⟩):fI cl X (.Call (.Attribute o "get" apos) [e] [] cpos) (Yl td ty):=
 PE.imp (Sf j u he m) λy H Q r=>by
  let⟨F c own B,I,t,k⟩:=r;refine⟨F,c,own,_,I,t,λv d q x g1 b n=> ?_⟩;cases d with
  |dic t l=>let⟨(a),rfl,hd⟩:=S4 g1.ext b;refine⟨a,rfl,hd,q,c,own,_,I.grow g1,n,λz E p g g2 h f=> ?_⟩;let⟨C o,i,s,w⟩:=zB g2.ext (b.grow g2) h f.1;cases i;exact⟨o,s,k _ _ p g (g1.trans g2) (w.getD .non) f.2⟩
  |_=>simp_all
def yZ(n:X.A.units+16<jc)(z:wo cl X o td)(he:fI cl X e ty)(B:fI cl X f tx)(m:M2 X o "get" apos e f cpos:=by exact⟨rfl,rfl,rfl,rfl⟩):fI cl X (.Call (.Attribute o "get" apos) [e,f] [] cpos) (Yk td ty tx):=
 PE.imp (Se n z he B m) λM H Q w=>by
  let⟨F b own O,I,t,k⟩:=w;refine⟨F,b,own,_,I,t,λv d u G g1 g p=> ?_⟩;cases d with
  |dic t l=>let⟨(a),rfl,hd⟩:=S4 g1.ext g;refine⟨a,rfl,hd,u,b,own,_,I.grow g1,p,λN R r J g2 i s=>⟨r,b,own,_,(I.grow g1).grow g2,s,λE S h y g3 q c=> ?_⟩⟩;let⟨P o,j,x,C⟩:=zB g3.ext ((g.grow g2).grow g3) (i.mono g3.le) c.1;cases j;exact⟨o,x,k _ _ h y (g1.trans (g2.trans g3)) (C.getD q) c.2⟩
  |_=>simp_all
def Yn(g:GN)(t:On):ml:=λa Q=>t a λds=>g ds Q
variable {bid Ty:String}
def Ca1(T:qj)(r:List V->Hp->VK->Prop)(g:G1):Prop:= ∀F H x d a Q,oW F H->wm T F H x d->g d a->Wt T F H a Q->r [x] H Q
def n9{t:ml}{g:G1}(u:nM X (.builtin bid) r)(n:Ca1 (qb X cl) r g)(m:X.mg x=none)(s:iP x=some (.builtin bid))(w:wo cl X e t)(b:Gl X x:=by rfl)(h:x≠ "__name__" :=by decide)(a:(x==("__debug__" :gw))=false:=by decide)
  (he:dj [e] X.env=(false,fX e X.env)::dj [] X.env:=by rfl)(hpl:(gy pos (dj [] X.env)).any (·.1)=false:=by rfl):fI cl X (.Call (.Name x p) [e] [] pos) (BZ g t):=
 PE.imp (Sj u b m s (jl w mF he) h a he hpl) λy H Q q=>by let⟨F i own l,I,t,k⟩:=q;exact⟨F,i,own,_,I,t,λv d o c g1 f j=>n o c v d l Q g1.ext f j (Wt.grow k g1)⟩
def t6{t:ml}{g:G1}(u:nM X (.type Ty) r)(n:Ca1 (qb X cl) r g)(m:X.mg x=none)(s:iP x=some (.type Ty))(w:wo cl X e t)(b:Gl X x:=by rfl)(h:x≠ "__name__" :=by decide)(a:(x==("__debug__" :gw))=false:=by decide)
  (he:dj [e] X.env=(false,fX e X.env)::dj [] X.env:=by rfl)(hpl:(gy pos (dj [] X.env)).any (·.1)=false:=by rfl):fI cl X (.Call (.Name x p) [e] [] pos) (BZ g t):=
 PE.imp (Pj u b m s (jl w mF he) h a he hpl) λy H Q q=>by let⟨F i own l,I,t,k⟩:=q;exact⟨F,i,own,_,I,t,λv d o c g1 f j=>n o c v d l Q g1.ext f j (Wt.grow k g1)⟩
def aad:G1:=λx Q=>match x with
 | .lst l=>Q (.int (~~~l))
 | .tup l=>Q (.int (~~~l))
 | .dic false l=>Q (.int (~~~l))
 |_=>False
def Qs:nM X (.builtin "len") (λc H Q=> ∃a b,c=[V.ref a]/\Rd H a (.dK b)/\Q (.int (~~~b)) H):=by intro pz s g H c us Q I r h;let⟨a b,rfl,f,q⟩:=h;let⟨(u),rfl,e⟩:=vals1 r;cases e;exact ade I f λt i d=>⟨.int (~~~b),H,d,⟨t,rfl⟩,q⟩
def iC{t:ml}(f:X.mg "len" =none)(g:wo cl X e t)(c:Gl X "len" :=by rfl)(he:dj [e] X.env=(false,fX e X.env)::dj [] X.env:=by rfl)(hpl:(gy pos (dj [] X.env)).any (·.1)=false:=by rfl):
  fI cl X (.Call (.Name "len" p) [e] [] pos) (BZ aad t):=by
 refine n9 (Ii.or Qs) (λF H x d i Q e r h k=> ?_) f PySem.boot_len g c (by decide) (by decide) he hpl;unfold aad at h;split at h
 .obtain⟨a,us,rfl,s,r⟩:=qe r e;exact .inl ⟨a,us,rfl,.inl s,k _ _ F H (fT.refl e) (.int _) (by rw[r.1];exact h)⟩
 .obtain⟨a,us,rfl,s,r⟩:=z4 r e;exact .inl ⟨a,us,rfl,.inr (qJ.of s),k _ _ F H (fT.refl e) (.int _) (by rw[r.1];exact h)⟩
 .obtain⟨a,b,rfl,s,r⟩:=Cj r e;exact .inr ⟨a,b,rfl,s,k _ _ F H (fT.refl e) (.int _) (by rw[r.1];exact h)⟩
 .simp_all
def KB(g:List Int->(D->Prop)->Prop):G1:=λx Q=>match x with
 | .lst l=> ∃ns:List Int,l=ns.map D.int/\g ns Q
 |_=>False
def KA{g:List Int->(D->Prop)->Prop}{v:V}{d:D}{b:D->Prop}(e:oW F H)(r:wm T F H v d)(h:KB g d b): ∃a ns,v= .ref a/\rB T.K H a (ns.map V.int)/\g ns b:=by
 unfold KB at h;split at h
 .obtain⟨ns,rfl,h⟩:=h;let⟨a us,rfl,s,r⟩:=qe r e;rw[ud r]at s;exact⟨a,ns,rfl,s,h⟩
 .simp_all
def Tw(g:List Bool->(D->Prop)->Prop):G1:=λx Q=>match x with
 | .lst l=> ∃ns:List Bool,l=ns.map D.bl/\g ns Q
 |_=>False
def NY{g:List Bool->(D->Prop)->Prop}{v:V}{d:D}{b:D->Prop}(e:oW F H)(r:wm T F H v d)(h:Tw g d b): ∃a ns,v= .ref a/\rB T.K H a (ns.map V.bl)/\g ns b:=by
 unfold Tw at h;split at h
 .obtain⟨ns,rfl,h⟩:=h;let⟨a us,rfl,s,r⟩:=qe r e;rw[aaE r]at s;exact⟨a,ns,rfl,s,h⟩
 .simp_all
def Ds{t:ml}(c:X.mg "sum" =none)(g:X.calm=true)(f:iP "sum" =some (.builtin "sum"))(i:wo cl X e t)(b:Gl X "sum" :=by rfl)(he:dj [e] X.env=(false,fX e X.env)::dj [] X.env:=by rfl)(hpl:(gy pos (dj [] X.env)).any (·.1)=false:=by rfl):
  fI cl X (.Call (.Name "sum" p) [e] [] pos) (BZ (KB λns Q=>Q (.int ns.sum)) t):=by
 refine n9 (aax g) (λF H x d j Q e r h k=> ?_) c f i b (by decide) (by decide) he hpl;let⟨a ns,rfl,s,h⟩:=KA e r h;exact⟨a,ns,rfl,s,k _ _ F H (fT.refl e) (.int _) h⟩
def Zy{t:ml}(i:X.mg "min" =none)(l:X.calm=true)(j:iP "min" =some (.builtin "min"))(n:wo cl X e t)(c:Gl X "min" :=by rfl)(he:dj [e] X.env=(false,fX e X.env)::dj [] X.env:=by rfl)(hpl:(gy pos (dj [] X.env)).any (·.1)=false:=by rfl):
  fI cl X (.Call (.Name "min" p) [e] [] pos) (BZ (KB λns Q=>0< ~~~ns/\ ∀m,m∈ns->(∀y,y∈ns->m<=y)->Q (.int m)) t):=by
 refine n9 (aay l) (λF H x d o Q e r h k=> ?_) i j n c (by decide) (by decide) he hpl;let⟨a ns,rfl,s,f,g⟩:=KA e r h;exact⟨a,ns,rfl,s,f,λm a b=>k _ _ F H (fT.refl e) (.int _) (g m a b)⟩
def Sx{t:ml}(c:X.mg "any" =none)(g:X.calm=true)(f:iP "any" =some (.builtin "any"))(j:wo cl X e t)(b:Gl X "any" :=by rfl)(he:dj [e] X.env=(false,fX e X.env)::dj [] X.env:=by rfl)(hpl:(gy pos (dj [] X.env)).any (·.1)=false:=by rfl):
  fI cl X (.Call (.Name "any" p) [e] [] pos) (BZ (Tw λi Q=>Q (.bl (i.any id))) t):=by
 refine n9 (aaz g) (λF H x d l Q e r h k=> ?_) c f j b (by decide) (by decide) he hpl;let⟨a ns,rfl,s,h⟩:=NY e r h;exact⟨a,ns,rfl,s,k _ _ F H (fT.refl e) (.bl _) h⟩
def Sy{t:ml}(c:X.mg "all" =none)(g:X.calm=true)(f:iP "all" =some (.builtin "all"))(j:wo cl X e t)(b:Gl X "all" :=by rfl)(he:dj [e] X.env=(false,fX e X.env)::dj [] X.env:=by rfl)(hpl:(gy pos (dj [] X.env)).any (·.1)=false:=by rfl):
  fI cl X (.Call (.Name "all" p) [e] [] pos) (BZ (Tw λi Q=>Q (.bl (i.all id))) t):=by
 refine n9 (aaA g) (λF H x d l Q e r h k=> ?_) c f j b (by decide) (by decide) he hpl;let⟨a ns,rfl,s,h⟩:=NY e r h;exact⟨a,ns,rfl,s,k _ _ F H (fT.refl e) (.bl _) h⟩
def aaa:G1:=λx Q=>match x with
 | .lst l=>Q (.lst l)
 | .tup l=>Q (.lst l)
 |_=>False
def Z9:G1:=λx Q=>match x with
 | .lst l=>Q (.tup l)
 |_=>False
def md{us:List V}{ds:List D}{p:eB}(e:oW F H)(n:H p=none)(r:iE T F us ds):fT F H (L2.upd F p (.lst us)) (L2.upd H p (.lst us))/\k7 T (L2.upd F p (.lst us)) (.ref p) (.lst ds):=
 ⟨fT.new e n,.lst eR r.1 (iE.mono (fT.new e n).le r).2⟩
def m8{us:List V}{ds:List D}{p:eB}(e:oW F H)(n:H p=none)(r:iE T F us ds):fT F H (L2.upd F p (.tup us)) (L2.upd H p (.tup us))/\k7 T (L2.upd F p (.tup us)) (.ref p) (.tup ds):=
 ⟨fT.new e n,.tup eR r.1 (iE.mono (fT.new e n).le r).2⟩
def Zx{t:ml}(c:X.mg "list" =none)(f:iP "list" =some (.type "list"))(g:wo cl X e t)(b:Gl X "list" :=by rfl)(he:dj [e] X.env=(false,fX e X.env)::dj [] X.env:=by rfl)(hpl:(gy pos (dj [] X.env)).any (·.1)=false:=by rfl):
  fI cl X (.Call (.Name "list" p) [e] [] pos) (BZ aaa t):=by
 refine t6 Ih (λF H x d i Q e r h k=> ?_) c f g b (by decide) (by decide) he hpl;unfold aaa at h;split at h
 .obtain⟨a,us,rfl,s,r⟩:=qe r e;exact⟨a,us,rfl,.inl s,λl n=>k _ _ _ _ (md e n r).1 (md e n r).2 h⟩
 .obtain⟨a,us,rfl,s,r⟩:=z4 r e;exact⟨a,us,rfl,.inr (qJ.of s),λl n=>k _ _ _ _ (md e n r).1 (md e n r).2 h⟩
 .simp_all
def z9{t:ml}(c:X.mg "tuple" =none)(f:iP "tuple" =some (.type "tuple"))(g:wo cl X e t)(b:Gl X "tuple" :=by rfl)(he:dj [e] X.env=(false,fX e X.env)::dj [] X.env:=by rfl)(hpl:(gy pos (dj [] X.env)).any (·.1)=false:=by rfl):
  fI cl X (.Call (.Name "tuple" p) [e] [] pos) (BZ Z9 t):=by
 refine t6 Fs (λF H x d i Q e r h k=> ?_) c f g b (by decide) (by decide) he hpl;unfold Z9 at h;split at h
 .obtain⟨a,us,rfl,s,r⟩:=qe r e;exact⟨a,us,rfl,.inl ⟨s,λl n=>k _ _ _ _ (m8 e n r).1 (m8 e n r).2 h⟩⟩
 .simp_all
def adg(t:On):ml:=λa Q=>t a λds=> ~~~ds<=1000/\Q (.tup ds)
def adl(t:On):ml:=λa Q=>t a λds=> ~~~ds<=1000/\Q (.lst ds)
def D0(h:n<=1000):n<=sizeLine:=by rw[dO];lia
def kM{c}(h:Yu cl X es t):fI cl X (.Tuple es c pos) (adg t):=PE.imp (Zr h) λg H Q e=>by let⟨F d own j,I,t,k⟩:=e;exact⟨F,d,own,_,I,t,λi ds l f g1 a b=>⟨by rw[a.1];exact D0 b.1,λp n=>k _ _ _ _ (g1.trans (m8 g1.ext n a).1) (m8 g1.ext n a).2 b.2⟩⟩
def ke(h:Yu cl X es t):fI cl X (.List es pos) (adl t):=PE.imp (LY h) λf H Q d=>by let⟨F c own i,I,t,k⟩:=d;exact⟨F,c,own,_,I,t,λg ds j e g1 a b=>⟨by rw[a.1];exact D0 b.1,λp n=>k _ _ _ _ (g1.trans (md g1.ext n a).1) (md g1.ext n a).2 b.2⟩⟩
def Qe(f:Bool->Bool):G2:=λx y Q=>match x,y with
 | .int i,.lst l=> ∃ns:List Int,l=ns.map D.int/\Q (.bl (f (decide (i∈ns))))
 | .int i,.tup l=> ∃ns:List Int,l=ns.map D.int/\Q (.bl (f (decide (i∈ns))))
 |_,_=>False
def HQ(i:Int): ∀ns:List Int,inV (.int i) (ns.map V.int)=decide (i∈ns):=by
 intro ns;induction ns with
 |nil=>rfl
 |cons n ns ih=>
  have ih:=ih;unfold inV at ih⊢;show((n==i)||_)=_
  grind
def AD: ∀ns:List Int,(ns.map V.int).all zw=true:=by
 intro ns;induction ns with
 |nil=>rfl
 |cons n ns ih=>rw[dt,om,ih];rfl
def L6(g:f=if b then not else id):aaQ T (rIn T.K b) (Qe f):=λF H x y j l i Q e c d h k=>by
 subst g;unfold Qe at h;split at h
 .obtain⟨ns,rfl,h⟩:=h;let⟨a us,rfl,s,r⟩:=qe d e;rw[ud r]at s;rw[c.aa];refine⟨a,_,rfl,.inl s,rfl,AD ns,k _ _ F H (fT.refl e) (.bl _) ?_⟩;rw[HQ];cases b<;>exact h
 .obtain⟨ns,rfl,h⟩:=h;let⟨a us,rfl,s,r⟩:=z4 d e;rw[ud r]at s;rw[c.aa];refine⟨a,_,rfl,.inr (qJ.of s),rfl,AD ns,k _ _ F H (fT.refl e) (.bl _) ?_⟩;rw[HQ];cases b<;>exact h
 .simp_all
def Sr(e:fI cl X a ta)(c:wo cl X b tb)(d:gv .In b=false:=by with_unfolding_all rfl):fI cl X (.Compare a [.In] [b] pos) (yz (Qe id) ta tb):=PE.imp (Hw Ac e c d) λ_ _ _ h=>CM (L6 rfl) h
def RB(e:fI cl X a ta)(c:wo cl X b tb)(d:gv .In b=false:=by with_unfolding_all rfl):ED cl X (.Compare a [.In] [b] pos) (rY (yz (Qe id) ta tb)):=PT.imp (yX Ac e c d) λ_ _ _ h=>CM (L6 rfl) (oC h)
def Rz(e:fI cl X a ta)(c:wo cl X b tb)(d:gv .NotIn b=false:=by with_unfolding_all rfl):ED cl X (.Compare a [.NotIn] [b] pos) (rY (yz (Qe not) ta tb)):=PT.imp (yX HA e c d) λ_ _ _ h=>CM (L6 rfl) (oC h)
end
section
abbrev TOD:=En->(Option Int->Prop)->Prop
def upO(T:qj)(t:TOD):TO:=λe H Q=> ∃F a own b,lq T F a e H own/\t a b/\ ∀o d c,fT F H d c->b o->Q o c
def POD(cl:nL)(X:Cx)(e:Option jG)(t:TOD):Prop:=PO X e (upO (qb X cl) t)
def Ob:TOD:=λ_ Q=>Q none
def Yg(t:ml):TOD:=λa Q=>t a λd=>match d with
 | .int i=>Q (some i)
 |_=>False
def PO.imp(h:PO X e t)(i: ∀a H Q,t' a H Q->t a H Q):PO X e t':=λpz s a H Q I q=>h pz s a H Q I (i a H Q q)
def DN:POD cl X none Ob:=PO.imp VY λd H Q a=>by let⟨F b own c,I,t,k⟩:=a;exact k none F H (fT.refl I.ext) t
def lR(h:fI cl X e t):POD cl X (some e) (Yg t):=PO.imp (VX h) λl H Q j=>by
 let⟨F f own m,I,t,k⟩:=j;refine⟨F,f,own,_,I,t,λv d g b g1 c a=> ?_⟩;cases c with
 |int i=>exact⟨i,rfl,k _ g b g1 a⟩
 |_=>exact eZ a
def cutD(a:List D)(lo b:pN):List D:=(a.drop (HT.o7 (~~~a) 0 lo)).take (HT.o7 (~~~a) (~~~a) b-HT.o7 (~~~a) 0 lo)
def zC(r:iE T F us ds)(lo a:pN):iE T F (Qp us lo a) (cutD ds lo a):=by unfold Qp cutD;rw[r.1];exact(r.drop _).take _
def aai(x:D)(lo a:pN)(Q:D->Prop):Prop:=match x with
 | .lst l=>Q (.lst (cutD l lo a))
 | .tup l=> ¬(HT.o7 (~~~l) 0 lo=0/\HT.o7 (~~~l) (~~~l) a= ~~~l)/\Q (.tup (cutD l lo a))
 |_=>False
def adn(t:ml)(lo b:TOD):ml:=λa Q=>t a λx=>lo a λl=>b a λu=>aai x l u Q
def vF{e:jG}{lo h:Option jG}{te:ml}{tl i:TOD}{pos l:Pos}(he:wo cl X e te)(y:POD cl X lo tl)(q:POD cl X h i):fI cl X (.Subscript e (.Slice lo h none l) pos) (adn te tl i):=
 PE.imp (R9 (VE.or Y7) he y q) λG H Q A=>by
  let⟨F f own J,I,t,k⟩:=A;refine⟨F,f,own,_,I,t,λv d z B g1 m u=>⟨z,f,own,_,I.grow g1,u,λo w C g2 x=>⟨w,f,own,_,(I.grow g1).grow g2,x,λc E M g3 b=> ?_⟩⟩⟩;have g:=(m.grow g2).grow g3;have j:=g1.trans (g2.trans g3);unfold aai at b;split at b
  .obtain⟨a,us,rfl,s,r⟩:=qe g g3.ext;exact .inl ⟨a,us,rfl,s,λp n=>k _ _ _ _ (j.trans (md g3.ext n (zC r o c)).1) (md g3.ext n (zC r o c)).2 b⟩
  .obtain⟨a,us,rfl,s,r⟩:=z4 g g3.ext;exact .inr ⟨a,us,rfl,qJ.of s,by rw[r.1];exact b.1,λp n=>k _ _ _ _ (j.trans (m8 g3.ext n (zC r o c)).1) (m8 g3.ext n (zC r o c)).2 b.2⟩
  .exact b.elim
def RS(r:wm T F H v (.lst l))(e:oW F H): ∃a us,v= .ref a/\Rd H a (.lst us)/\iE T F us l:=by
 rcases r with r|⟨p,o,m,rfl,f,b,c⟩
 .obtain⟨a,us,rfl,h,r⟩:=Hn r;exact⟨a,us,rfl,(e a _ h).rd,r⟩
 .cases m with
  |ol ds=>let⟨(us),rfl,b⟩:=b;cases c;exact⟨p,us,rfl,.inl f,b⟩
  |val d=>exact b.elim
  |od _ _=>cases c
  |oi _ _ _=>cases c
def Inv.cE(I:Inv X pz σ H s)(h:Rd H a (.lst xs)): ~~~xs<=eQ/\ ∃(b:fM) (n:Nat),gF xs b/\ ~~~xs= ~~~b/\s.heap.get? a=some {cls:= .type "list",data:= .seq b.toArray n}:=by obtain⟨z,b,n,r,e⟩:=h.ok I.ab;exact⟨z,b,n,r,~~~r,e⟩
def X1:R2:=λx y H Q=> ∃l b a c,x= .ref l/\y= .ref b/\Rd H l (.lst a)/\Rd H b (.lst c)/\ ~~~a+ ~~~c<=eQ/\ ∀p,H p=none->Q (.ref p) (upd H p (.lst (a++c)))
def Wi:tG X (nZ .Add) X1:=by
 intro pz s t H x y v u Q I g j h;let⟨l b C w,rfl,rfl,i,k,hz,q⟩:=h;cases g;cases j;obtain⟨z,c,n,r,A,e⟩:=Inv.cE I i;obtain⟨p,a,B,d,o,m⟩:=Inv.cE I k;refine PySem.P.add_list e m ?_ (by rw[eJ,eJ];lia);have f:c.toArray++a.toArray=(c++a).toArray:=by simp
 rw[f];exact⟨.ref _,_,I.cK (r.append d) (by rw[ib];lia),rfl,q _ I.fresh⟩
def WR:G2:=λx y Q=>match x,y with
 | .lst l,.lst m=> ~~~l+ ~~~m<=eQ/\Q (.lst (l++m))
 |_,_=>False
def ZQ:IK T X1 WR:=λF H x y l m j Q e d i h k=>by
 unfold WR at h;split at h
 .obtain⟨a,us,rfl,s,r⟩:=RS (.inl d) e;let⟨b g,rfl,f,c⟩:=RS (.inl i) e;exact⟨a,b,us,g,rfl,rfl,s,f,by rw[r.1,c.1];exact h.1,λp n=>k _ _ _ _ (md e n (r.append c)).1 (md e n (r.append c)).2 h.2⟩
 .exact h.elim
def vG(d:fI cl X a ta)(c:fI cl X b tb):fI cl X (.BinOp a .Add b pos) (yz WR ta tb):=A8 Wi ZQ d c
def spD(T:qj)(n:Nat)(g:GN):Sp:=λb H Q _=> ∃F ds a,oW F H/\iE T F b ds/\ ~~~ds=n/\g ds a/\Wt T F H a Q
def kF(P:fY)(w:iu)(K:dh)(mg:kQ)(base:iZ)(cl:nL)(k:Nat)(x:gw)(n:Nat)(g:GN):Prop:=
 ∃f a ps,qY P w K mg base QE k f a ps (spD ⟨K,cl⟩ n g)/\mg x=some (.ref f)/\iL K (.ref f)=true/\Binds K a ps []
def dU(h:kF X.prog X.w X.K X.mg X.base cl k x n g)(s:oo j X.A)(u:Yu cl X (e::es) t)(E:(e::es).length=n:=by rfl)(c:Gl X x:=by rfl)(b:(x==("__debug__" :gw))=false:=by decide)
  (he:dj (e::es) X.env=(false,fX e X.env)::dj es X.env:=by rfl)(hpl:(gy pos (dj es X.env)).any (·.1)=false:=by rfl)(a:k<=j:=by decide):fI cl X (.Call (.Name x p) (e::es) [] pos) (Yn (λds Q=> ~~~ds=n/\g ds Q) t):=by
 let⟨f y ps,F,o,hk,l⟩:=h;refine PE.imp (Cm F (s.mono a) c o hk l .nil Dy u b he hpl) λz H Q r=> ?_;let⟨F i own m,I,t,k⟩:=r;refine⟨F,i,own,_,I,t,λC ds q v g1 B d=>⟨q,ds,m,g1.ext,?_,d.1,d.2,Wt.grow k g1⟩⟩
 simp_all
end
structure EnD where
 nx:En->Prop
 rt:D->Prop
 bk:En->Prop:=λ_=>False
 ct:En->Prop:=λ_=>False
abbrev yA:=EnD->En->Prop
structure pP(T:qj)(F0 H0 F:Hp)(δ:En)(σ:L2.St)(H:Hp)(own:AJ):Prop where
 e:lq T F δ σ H own
 g:fT F0 H0 F H
 ap: ∀i p,own i=some p->H0 p=none
def At(T:qj)(b c:Hp)(P:En->Prop)(d:L2.St)(H:Hp):Prop:= ∃F a own,pP T b c F a d H own/\P a
def Rt(T:qj)(a b:Hp)(P:D->Prop)(v:V)(H:Hp):Prop:= ∃F d,fT a b F H/\k7 T F v d/\P d
structure K9(T:qj)(F0 H0:Hp)(DD:EnD)(D:EH):Prop where
 nx: ∀σ H,At T F0 H0 DD.nx σ H->D.nx σ H
 rt: ∀v H,Rt T F0 H0 DD.rt v H->D.rt v H
 bk: ∀σ H,At T F0 H0 DD.bk σ H->D.bk σ H
 ct: ∀σ H,At T F0 H0 DD.ct σ H->D.ct σ H
def YQ(T:qj)(t:yA):TS:=λD e H=> ∃b d F c own a,pP T b d F c e H own/\t a c/\K9 T b d a D
def EE(cl:nL)(X:Cx)(st:o4)(t:yA):Prop:=PS X st (YQ (qb X cl) t)
def AL(cl:nL)(X:Cx)(st:List o4)(t:yA):Prop:=GO X st (YQ (qb X cl) t)
section
def pP.grow(I:pP T F0 H0 F δ σ H own)(g:fT F H F' H'):pP T F0 H0 F' δ σ H' own:=⟨I.e.grow g,I.g.trans g,I.ap⟩
def pP.set(I:pP T F0 H0 F δ σ H own)(i:Nat)(r:k7 T F v d):pP T F0 H0 F (δ.set i (some (.val d))) (σ.set i (some v)) H (clear own i):=⟨I.e.set i r,I.g,λj p e=>I.ap j p (iq e).1⟩
def pP.aC(I:pP T F0 H0 F δ σ H own)(i:Nat)(a:H p=none)(r:lT T F p l o):pP T F0 H0 F (δ.set i (some l)) (σ.set i (some (.ref p))) (L2.upd H p o) (put own i p):=by
 refine⟨I.e.aC i a r,I.g.trans (fT.laid I.e.ext a),λj q e=> ?_⟩;unfold put at e;split at e
 .cases e;exact I.g.same.free a
 .exact I.ap j q e
def pP.chg(I:pP T F0 H0 F δ σ H own)(i:Nat)(a:own i=some p)(c:σ[i]?=some (some (.ref p)))(r:lT T F p l o):pP T F0 H0 F (δ.set i (some l)) σ (L2.upd H p o) own:=by have e:=I.e.chg i a c r;refine⟨e,⟨I.g.le,I.g.old,λb u h=> ?_,e.ext⟩,I.ap⟩;rw[d9 (λz=>by rw[z,I.ap i p a]at h;cases h)];exact I.g.same b u h
def pP.freeze(I:pP T F0 H0 F δ σ H own)(i:Nat)(d:δ[i]?=some (some l))(w:l.whole): ∃c b,pP T F0 H0 c (δ.set i (some (.val l.dat))) σ H b:=by
 let⟨c b,e,le,f,m⟩:=I.e.freeze i d w;refine⟨c,b,e,⟨I.g.le.trans le,λa n=> ?_,I.g.same,e.ext⟩,λj p h=>I.ap j p (m j p h)⟩;by_cases z:c a=F a
 .rw[z];exact I.g.old a n
 .obtain⟨j,k⟩:=f a z;exact absurd (I.ap j a k) n
def Yh:yA:=λa b=>a.nx b
def adh(t u:yA)(a:EnD)(b:En):Prop:=t {a with nx:=u a} b
variable {st:o4} {rest:List o4}
def K9.seq{a:EnD}{D:EH}(l:K9 T F0 H0 a D):K9 T F0 H0 {a with nx:=u a} {D with nx:=YQ T u D}:=
 ⟨λd H c=>by let⟨F b own,I,h⟩:=c;exact⟨F0,H0,F,b,own,a,I,h,l⟩,l.rt,l.bk,l.ct⟩
def gK:AL cl X [] Yh:=GO.imp yY λD f H b=>by let⟨d e F a own c,I,h,l⟩:=b;exact l.nx _ _ ⟨F,a,own,I,h⟩
def dg(c:EE cl X st t)(d:AL cl X rest u):AL cl X (st::rest) (adh t u):=GO.imp (kK c d) λD i H e=>by let⟨a f F b own g,I,h,l⟩:=e;exact⟨a,f,F,b,own,_,I,h,l.seq⟩
def dn(a:EE cl X st t):AL cl X [st] t:=oG a
def W2(i:Nat)(t:yA):yA:=λb a=>match a[i]? with
 |some (some l)=>l.whole/\t b (a.set i (some (.val l.dat)))
 |_=>False
def YN{i:Nat}{D:EH}(h:YQ T (W2 i t) D σ H):YQ T t D σ H:=by
 let⟨c g F j own b,I,h,l⟩:=h;unfold W2 at h;split at h
 .rename_i m e;let⟨f a,d⟩:=I.freeze i e h.1;exact⟨c,g,f,_,a,b,d,h.2,l⟩
 .exact h.elim
def ma(i:Nat)(h:AL cl X rest t):AL cl X rest (W2 i t):=GO.imp h λ_ _ _=>YN
def adi(te:ml):yA:=λa b=>te b a.rt
def eK(he:fI cl X e te):EE cl X (.Return (some e) pos) (adi te):=PS.imp (sm he) λD k H c=>by let⟨m j F a own f,I,h,l⟩:=c;exact⟨F,a,own,_,I.e,h,λv d b i g r q=>l.rt _ _ ⟨b,d,I.g.trans g,r,q⟩⟩
def adm(c:GM)(t u:yA):yA:=λd a=>c a λb=>if b=true then t d a else u d a
def iw(o:ED cl X c tc)(p:AL cl X a t)(m:AL cl X b u):EE cl X (.If c a b pos) (adm tc t u):=PS.imp (JF o p m) λD s H n=>by
 let⟨j i F d own f,I,h,l⟩:=n;refine⟨F,d,own,_,I.e,h,λv k r g q=> ?_⟩;cases v with
 |true=>rw[dq rfl]at q;exact⟨j,i,k,d,own,f,I.grow g,q,l⟩
 |false=>rw[di dY]at q;exact⟨j,i,k,d,own,f,I.grow g,q,l⟩
def ado(i:Nat)(nx:En->Prop)(a:En)(d:D):Prop:=nx (a.set i (some (.val d)))
def W1(i:Nat)(te:ml):yA:=λb a=>te a (ado i b.nx a)
def ff(b:X.N.Nodup)(he:fI cl X e te)(k:X.N[i]?=some x:=by rfl)(a:Loc X.env.scope x:=by subst_eqs)(c:jr e (some (.Name x pos')) pos.line X.env=pure false:=by rfl)
  (m:X.fn x=true\/X.env.scope.names.lookup x=some .local:=by subst_eqs):EE cl X (.Assign [.Name x pos'] e pos) (W1 i te):=
 PS.imp (sk b k a he c m) λD s H a=>by let⟨t p F f own n,I,h,l⟩:=a;exact⟨F,f,own,_,I.e,h,λv d j o g r q=>l.nx _ _ ⟨j,_,_,(I.grow g).set i r,q⟩⟩
def Ug(i:Nat)(f:Int->Int->Int)(te:ml):yA:=λb a=>match a[i]? with
 |some (some (.val (.int x)))=>te a λd=>match d with
  | .int y=>b.nx (a.set i (some (.val (.int (f x y)))))
  |_=>False
 |_=>False
def Ri{i:Nat}{f:Int->Int->Int}{D:EH}(h:YQ T (Ug i f te) D σ H):ab3 i (up T te) (ipI f) D σ H:=by
 let⟨o n F d own k,I,h,l⟩:=h;unfold Ug at h;split at h
 .rename_i x e;let⟨(v),c,j⟩:=I.e.val i _ e;refine⟨v,c,F,d,own,_,I.e,h,λp q g m g2 b a=> ?_⟩;cases b with
  |int y=>exact⟨x,y,j.aa,rfl,l.nx _ _ ⟨g,_,_,(I.grow g2).set i (.int _),a⟩⟩
  |_=>exact eZ a
 .exact h.elim
def wH(d:X.N.Nodup)(he:fI cl X e te)(c:X.N[i]?=some x:=by rfl)(f:Loc X.env.scope x:=by subst_eqs)
  (g:X.fn x=true\/X.env.scope.names.lookup x=some .local:=by subst_eqs):EE cl X (.AugAssign (.Name x pos') .Add e pos) (Ug i (λa b=>a+b) te):=PS.imp (R4 d c f he S6 g) λ_ _ _=>Ri
def F9(d:X.N.Nodup)(he:fI cl X e te)(c:X.N[i]?=some x:=by rfl)(f:Loc X.env.scope x:=by subst_eqs)
  (g:X.fn x=true\/X.env.scope.names.lookup x=some .local:=by subst_eqs):EE cl X (.AugAssign (.Name x pos') .Sub e pos) (Ug i (λa b=>a-b) te):=PS.imp (R4 d c f he Z4 g) λ_ _ _=>Ri
def Yi(i:Nat)(t:On):yA:=λb a=>t a λds=> ~~~ds<=1000/\b.nx (a.set i (some (.ol ds)))
def qz{i:Nat}{x:gw}{a d:Pos}{c:mW}{t:On}(f:X.N.Nodup)(he:Yu cl X c t)(s:X.N[i]?=some x:=by rfl)(b:Loc X.env.scope x:=by subst_eqs)(j:jr (.List c d) (some (.Name x a)) pos.line X.env=pure false:=by rfl)
  (u:X.fn x=true\/X.env.scope.names.lookup x=some .local:=by subst_eqs):EE cl X (.Assign [.Name x a] (.List c d) pos) (Yi i t):=
 PS.imp (sk f s b (LY he) j u) λD z H b=>by let⟨A y F k own v,I,h,l⟩:=b;exact⟨F,k,own,_,I.e,h,λm ds o w g r q=>⟨by rw[r.1];exact D0 q.1,λp n=>l.nx _ _ ⟨o,_,_,(I.grow g).aC i (l:= .ol ds) n ⟨m,rfl,r⟩,q.2⟩⟩⟩
def T5(i:Nat)(b:Bool):yA:=λa c=>a.nx (c.set i (some (.od b [])))
def yV(b:X.N.Nodup)(d:X.N[i]?=some x:=by rfl)(a:Loc X.env.scope x:=by subst_eqs)(c:jr (.Dict [] [] p2) (some (.Name x pos')) pos.line X.env=pure false:=by rfl)
  (e:X.fn x=true\/X.env.scope.names.lookup x=some .local:=by subst_eqs):EE cl X (.Assign [.Name x pos'] (.Dict [] [] p2) pos) (T5 i false):=
 PS.imp (sk b d a JO c e) λD j H a=>by let⟨k g F m own f,I,h,l⟩:=a;exact λp n=>l.nx _ _ ⟨F,_,_,I.aC i (l:= .od false []) n ⟨[],rfl,fh.nil⟩,h⟩
def mR(b:X.N.Nodup)(d:X.N[i]?=some x:=by rfl)(a:Loc X.env.scope x:=by subst_eqs)(c:jr (.Dict [] [] p2) (some (.Name x pos')) pos.line X.env=pure false:=by rfl)
  (e:X.fn x=true\/X.env.scope.names.lookup x=some .local:=by subst_eqs):EE cl X (.Assign [.Name x pos'] (.Dict [] [] p2) pos) (T5 i true):=
 PS.imp (sk b d a Sd c e) λD j H a=>by let⟨k g F m own f,I,h,l⟩:=a;exact λp n=>l.nx _ _ ⟨F,_,_,I.aC i (l:= .od true []) n ⟨[],rfl,fh.nil⟩,h⟩
def aav(i:Nat)(te:ml):yA:=λb a=>match a[i]? with
 |some (some (.ol l))=>te a λd=> ~~~l<eQ/\b.nx (a.set i (some (.ol (l++ [d]))))
 |_=>False
def vB(C:PE X (.Name x px) (E3 i))(he:fI cl X e te)(w:jr (.Call (.Attribute (.Name x px) "append" apos) [e] [] cpos) none pos.line X.env=pure false:=by rfl)
  (b:hZ (.Name x px) "append" X.env (fX (.Name x px) X.env)=fX (.Name x px) X.env:=by rfl)
  (j:((gy cpos (dj [e] X.env)).all (λx=> !x.1)&&(xb cpos (pX [] X.env)).all (λx=>x.1.isSome)&&decide (([e]:List jG).length+([]:List pk).length+(if([]:List pk).isEmpty then 0 else 1)<30))=true:=by rfl)
  (c:(apos.endLine==cpos.line)=true:=by rfl)(f:dj [e] X.env=(false,fX e X.env)::dj [] X.env:=by rfl)(a:(gy cpos (dj [] X.env)).any (·.1)=false:=by rfl):
  EE cl X (.Expr (.Call (.Attribute (.Name x px) "append" apos) [e] [] cpos) pos) (aav i te):=
 PS.imp (Hr (JP lU PySem.F.slot_list_append PySem.F.type_list_append PH C (jl he mF f) b j c f a) w) λD N H B=>by
  let⟨O M F y own G,I,h,l⟩:=B;unfold aav at h;split at h
  .rename_i m E;obtain⟨p,o,u,n,t,us,rfl,s⟩:=I.e.aN i _ E (by intro d z;cases z);refine⟨_,n,.inl ⟨rfl,_,rB.of t⟩,F,y,own,_,I.e,h,λv d A J g r q=> ?_⟩;have k:=g.same _ _ t;refine⟨p,us,v,rfl,rfl,k,by rw[s.1];exact q.1,l.nx _ _ ⟨A,_,own,(I.grow g).chg i (l:= .ol (m++ [d])) u n ⟨us++ [v],rfl,(iE.mono g.le s).append (fh.cons r fh.nil)⟩,q.2⟩⟩
  .exact h.elim
noncomputable def rq(l:List (D×D))(k v:D):List (D×D):=if(l.any λq=>decide (q.1=k))=true then l.map (λq=>if q.1=k then(q.1,v)else q)else l++ [(k,v)]
theorem Yq(z:Int): ∀{a:List (Key×V)} {l:List (D×D)},fh (RK T F) a l->(a.any λf=>decide (f.1= .inl z))=l.any λq=>decide (q.1= .int z)
 | [],l,h=>by have e:l=[]:=eY h.1.symm;subst e;rfl
 |p::a,l,h=>by
  obtain⟨q,r,rfl,⟨⟨y,b,c⟩,g⟩,d⟩:=h.ah;rw[iS,iS,Yq z d,b,c];congr 1;by_cases e:y=z
  .subst e;simp
  .rw[fj (λq=>e (by injection q)),fj (λq=>e (by injection q))]
theorem Yp(n:List NK): ∀{a:List (List NK×V)} {l:List (D×D)},fh (RT T F) a l->(a.any λd=>decide (d.1=n))=l.any λq=>decide (q.1=vj (.tup n))
 | [],l,h=>by have e:l=[]:=eY h.1.symm;subst e;rfl
 |p::a,l,h=>by
  obtain⟨q,r,rfl,⟨b,f⟩,c⟩:=h.ah;rw[iS,iS,Yp n c,b];congr 1;by_cases e:p.1=n
  .subst e;simp
  .rw[fj e,fj (λq=>e (by have:=qB q;injection this))]
def JB(z:Int)(h:fh (RK T F) kvs l)(r:k7 T F v d):fh (RK T F) (rp kvs (.inl z) v) (rq l (.int z) d):=by
 unfold rp rq;rw[Yq z h];split
 .refine h.map λp q a=> ?_;obtain⟨⟨y,b,c⟩,e⟩:=a
  grind
 .exact h.append (fh.cons ⟨⟨z,rfl,rfl⟩,r⟩ fh.nil)
def aci(n:List NK)(h:fh (RT T F) kvs l)(r:k7 T F v d):fh (RT T F) (rp kvs n v) (rq l (vj (.tup n)) d):=by
 unfold rp rq;rw[Yp n h];split
 .refine h.map λp q b=> ?_;let⟨a,c⟩:=b;by_cases e:p.1=n
  .grind
  .rw[di e,di (by rw[a];intro q;exact e (by have:=qB q;injection this))];lia
 .exact h.append (fh.cons ⟨rfl,r⟩ fh.nil)
noncomputable def aaq(i:Nat)(ty c:ml):yA:=λb a=>match a[i]? with
 |some (some (.od t l))=>c a λv=>ty a λk=>hk t k/\ ~~~l<eQ/\b.nx (a.set i (some (.od t (rq l k v))))
 |_=>False
def WW{t:Bool}{l:List (D×D)}{o:HO}{p:eB}{y v:V}{k d:D}(e:oW F H)(f:H p=some o)(i:lT T F p (.od t l) o)(j:k7 T F y k)(g:k7 T F v d)(h:hk t k)(m: ~~~l<eQ):
  ∃q,Fu H p y v (L2.upd H p q)/\lT T F p (.od t (rq l k d)) q:=by
 cases t with
 |false=>let⟨(z),rfl⟩:=h;let⟨(c),rfl,a⟩:=i;rw[j.aa];exact⟨_,Fu.k (k:= .inl z) f (by rw[a.1];exact m),_,rfl,JB z a g⟩
 |true=>let⟨(n),rfl,hd⟩:=h;let⟨(c),rfl,a⟩:=i;let⟨(b),rfl,r⟩:=CN e hd j;exact⟨_,Fu.t f r (by rw[a.1];exact m),_,rfl,aci n a g⟩
def mE(n:X.A.units+16<jc)(M:PE X (.Name x px) (E3 i))(G:fI cl X k ty)(he:fI cl X e te)(u:jr e (some (.Subscript (.Name x px) k pos')) pos.line X.env=pure false:=by rfl):
  EE cl X (.Assign [.Subscript (.Name x px) k pos'] e pos) (aaq i ty te):=
 PS.imp (Nu n M G he u) λD T H E=>by
  let⟨U S F b own P,I,h,l⟩:=E;unfold aaq at h;split at h
  .rename_i t m N;let⟨p o,q,c,O,J⟩:=I.e.aN i _ N (by intro d z;cases z);refine⟨F,b,own,_,I.e,h,λv d C Q g1 r w=>⟨_,c,C,b,own,_,I.e.grow g1,w,λy k B R g2 j a=> ?_⟩⟩;have g:=g1.trans g2;let⟨(Y),f,s⟩:=WW g2.ext (g.same _ _ O) (J.mono g.le) j (r.mono g2.le) a.1 a.2.1;exact⟨p,_,rfl,f,l.nx _ _ ⟨B,_,own,(I.grow g).chg i q c s,a.2.2⟩⟩
  .exact h.elim
def TZ(c:GM)(f:yA):yA:=λe d=> ∃W:Nat->En->Prop,(∃m,W m d)/\ ∀m d,W m d->c d λb=>if b=true then f {e with nx:=λa=> ∃m',m'<m/\W m' a,ct:=λa=> ∃m',m'<m/\W m' a,bk:=e.nx} d else e.nx d
def p5(r:IA (dZ X.prog X.w) X.A X.env X.xe)(v:ED cl X c tc)(s:AL cl X body tb):EE cl X (.While c body [] pos) (TZ tc tb):=
 PS.imp (R3 r v s) λD j H t=>by
  obtain⟨k,i,F,a,own,x,I,⟨W,⟨m,n⟩,u⟩,l⟩:=t;refine⟨λm j H=> ∃F a own,pP (qb X cl) k i F a j H own/\W m a,⟨m,F,a,own,I,n⟩,?_⟩;rintro m j H ⟨F,a,own,I,n⟩;refine⟨F,a,own,_,I.e,u m a n,λb q y g1 p=> ?_⟩;cases b with
  |true=>
   refine⟨λd g=> ∃m',m'<m/\ ∃F a own,pP (qb X cl) k i F a d g own/\W m' a,λd g h=>h,k,i,q,a,own,_,I.grow g1,p,⟨?_,l.rt,l.nx,?_⟩⟩
   .rintro d g ⟨F,a,own,I,m',f,o⟩;exact⟨m',f,F,a,own,I,o⟩
   .rintro d g ⟨F,a,own,I,m',f,o⟩;exact⟨m',f,F,a,own,I,o⟩
  |false=>exact l.nx _ _ ⟨q,a,own,I.grow g1,p⟩
end
section
abbrev UD:=D->En->(En->Prop)->Prop
def Rl(T:qj)(g:UD)(j:dE):TG:=λv e H Q=> ∃F f own d h,lq T F f e H own/\k7 T F v d/\g d f h/\
 ∀c a b,lq T F c a H b->(∀i p,b i=some p->own i=some p)-> ~~~a= ~~~e->(∀i,i∉j->a[i]?=e[i]?)->h c->Q a H
def Xh(cl:nL)(X:Cx)(b:jG)(g:UD)(a:dE):Prop:=PG X b (Rl (qb X cl) g a)
def PG.imp(h:PG X tg t)(i: ∀v a H Q,t' v a H Q->t v a H Q):PG X tg t':=λpz s a H v u Q I r q=>h pz s a H v u Q I r (i v a H Q q)
def gNm(i:Nat):UD:=λd a Q=>Q (a.set i (some (.val d)))
def gb(b:X.N.Nodup)(f:X.N[i]?=some x:=by rfl)(c:Loc X.env.scope x:=by subst_eqs)(g:X.fn x=true\/X.env.scope.names.lookup x=some .local:=by subst_eqs):
  Xh cl X (.Name x pos) (gNm i) [i]:=PG.imp (Ck b f c g) λv l H Q ⟨F,m,own,d,n,I,r,h,k⟩=>
 k _ _ _ (I.set i r) (λj p e=>(iq e).1) (by simp) (λj a=>fF (λz=>a (by rw[z];exact ia.mpr rfl))) h
def aac(i j:Nat):UD:=λd c Q=>match d with
 | .tup [a,b]=>Q ((c.set i (some (.val a))).set j (some (.val b)))
 |_=>False
def nz(J:X.calm=true)(o:X.N.Nodup)(G:X.N[i]?=some x:=by rfl)(w:X.N[j]?=some y:=by rfl)(n:Loc X.env.scope x:=by subst_eqs)(M:Loc X.env.scope y:=by subst_eqs)
  (O:X.fn x=true\/X.env.scope.names.lookup x=some .local:=by subst_eqs)(f:X.fn y=true\/X.env.scope.names.lookup y=some .local:=by subst_eqs)
  (g:(lK [.Name x px,.Name y py] X.env).map (·.2)=yr (.Name x px) X.env::(lK [.Name y py] X.env).map (·.2):=by rfl)(c:(lK [.Name y py] X.env).map (·.2)=yr (.Name y py) X.env::(lK [] X.env).map (·.2):=by rfl)
  (A:(lK [.Name x px,.Name y py] X.env).length=2:=by rfl)(l:(lK [.Name x px,.Name y py] X.env).findIdx? (·.1)=none:=by rfl):
  Xh cl X (.Tuple [.Name x px,.Name y py] k pos) (aac i j) [i,j]:=
 PG.imp (Zo J (JM (Ck o G n O) (JM (Ck o w M f) V1 c) g) A l) λv P H Q n=>by
  let⟨F R own d S,I,r,h,k⟩:=n;unfold aac at h;split at h
  .rename_i a b;let⟨p us,rfl,q,B⟩:=rS r;let⟨u us,rfl,z,C⟩:=fh.cons_right B;let⟨t us,rfl,s,E⟩:=fh.cons_right C;have:=fh.af E;subst this;refine⟨p,_,rfl,qJ.of (I.ext.tup q),rfl,u,_,rfl,t,_,rfl,rfl,?_⟩;refine k _ _ _ ((I.set i z).set j s) (λm p e=>(iq (iq e).1).1) (by simp) (λm T=> ?_) h
   grind
  .exact h.elim
abbrev Qz:=En->(List D->Prop)->Prop
def M5(T:qj)(J:It)(e f:Hp)(a:List D):Prop:= ∀(i:Nat) F H,Le e F->oW F H->qk f H->
 (i< ~~~a->J.go i H/\ ∀x c,J.bY i H x c-> ∃b d,fT F H b c/\a[i]?=some d/\k7 T b x d)/\(~~~a<=i->J.stop i H)
def X5:Hp:=λ_=>none
def Hi(H:Hp):qk X5 H:=λb o e=>by cases e
def upI(T:qj)(t:Qz):TI:=λf H R=> ∃F a own d,lq T F a f H own/\t a d/\ ∀J c e b,fT F H e b->M5 T J e X5 c->d c->R J b
def UE(cl:nL)(X:Cx)(a iter:jG)(t:Qz):Prop:=PI X a iter (upI (qb X cl) t)
def PI.imp(h:PI X tg iter t)(i: ∀a H R,t' a H R->t a H R):PI X tg iter t':=λpz s a H R I q=>h pz s a H R I (i a H R q)
def T7(te:ml):Qz:=λa Q=>te a λd=>match d with
 | .lst l=>Q l
 |_=>False
def Oc(te:ml):Qz:=λa Q=>te a λd=>match d with
 | .tup l=>Q l
 |_=>False
def SX(h:F a=some (.lst us))(r:iE T F us l):M5 T (Itl T.K a) F X5 l:=by intro i j k le e _;have c:rB T.K k a us:= .inl (e a _ (le _ _ h)).rd;refine⟨λb=> ?_,λb=>⟨us,c,by rw[r.1];exact b⟩⟩;have f:us[i]?=some (us[i]'(by rw[r.1];exact b)):=df _;refine⟨⟨us,_,c,f⟩,?_⟩;rintro x o ⟨rfl,m⟩;let⟨(d),g,n⟩:=r.getL (m us c);exact⟨j,d,fT.refl e,g,n.mono le⟩
def WE(h:F a=some (.tup us))(r:iE T F us l):M5 T (Itt T.K a) F X5 l:=by intro i j k le e _;have c:qJ T.K k a us:=qJ.of (e.tup (le _ _ h));refine⟨λb=> ?_,λb=>⟨us,c,by rw[r.1];exact b⟩⟩;have f:us[i]?=some (us[i]'(by rw[r.1];exact b)):=df _;refine⟨⟨us,_,c,f⟩,?_⟩;rintro x o ⟨rfl,m⟩;let⟨(d),g,n⟩:=r.getL (m us c);exact⟨j,d,fT.refl e,g,n.mono le⟩
def SY(h:F a=some (.lst us))(r:iE T F us l):M5 T (Ite T.K a) F X5 ((l.zipIdx).map λp=> .tup [.int (p.2:Nat),p.1]):=by
 intro i m j le e _;have f:rB T.K j a us:= .inl (e a _ (le _ _ h)).rd;refine⟨λc=> ?_,λc=>⟨us,f,by simpa [r.1]using c⟩⟩;have b:i< ~~~us:=by simpa [r.1]using c
 have k:us[i]?=some (us[i]'b):=df _;refine⟨⟨us,_,f,k⟩,?_⟩;rintro v s ⟨p,x,rfl,n,rfl,o⟩;let⟨(d),t,q⟩:=r.getL (o us f);have g:iE T m [.int (i:Nat),x] [.int (i:Nat),d]:=fh.cons (.int _) (fh.cons (q.mono le) fh.nil);refine⟨_,_,(m8 e n g).1,?_,(m8 e n g).2⟩
 simp_all
def hG(he:fI cl X e te):UE cl X tg e (T7 te):=PI.imp (NB he) λn H R l=>by
 let⟨F g own o,I,h,k⟩:=l;refine⟨F,g,own,_,I,h,λv d j c g1 f b=> ?_⟩;cases f with
 | @lst a us ds h i m=>exact⟨a,rfl,⟨us,.inl (g1.ext a _ h).rd⟩,k _ ds j c g1 (SX h ⟨i,m⟩) b⟩
 |_=>exact eZ b
def D7(he:fI cl X e te):UE cl X tg e (Oc te):=PI.imp (Zn he) λn H R l=>by
 let⟨F g own o,I,h,k⟩:=l;refine⟨F,g,own,_,I,h,λv d j c g1 f b=> ?_⟩;cases f with
 | @tup a us ds h i m=>exact⟨a,rfl,⟨us,qJ.of (g1.ext.tup h)⟩,k _ ds j c g1 (WE h ⟨i,m⟩) b⟩
 |_=>exact eZ b
def TQ(l:List D):List D:=(l.zipIdx).map λp=> .tup [.int (p.2:Nat),p.1]
def Ym(te:ml):Qz:=λa Q=>te a λd=>match d with
 | .lst l=>Q (TQ l)
 |_=>False
def uf(j:X.mg "enumerate" =none)(he:fI cl X e te)(m:Gl X "enumerate" :=by rfl)(b:dj [e] X.env=[(false,fX e X.env)]:=by rfl):
  UE cl X (.Tuple elts kk tpos) (.Call (.Name "enumerate" p) [e] [] pos) (Ym te):=PI.imp (V0 m j (jl he mF b) b) λr H R o=>by
 let⟨F i own s,I,h,k⟩:=o;refine⟨F,i,own,_,I,h,λv d n f g1 g c=> ?_⟩;cases g with
 | @lst a us ds h l q=>exact⟨a,us,rfl,.inl (g1.ext a _ h).rd,k _ _ n f g1 (SY h ⟨l,q⟩) c⟩
 |_=>exact eZ c
def sj(lo:Int)(n:Nat):List D:=(eE n).map λ(i:Nat)=> .int (lo+i)
def Gw(lo:Int)(n:Nat):M5 T (Itr lo n) F X5 (sj lo n):=by
 intro i b d le e _;refine⟨λa=>⟨show i<n by simpa [sj]using a,?_⟩,λa=>show n<=i by simpa [sj]using a⟩;rintro x c ⟨rfl,rfl⟩;refine⟨b,.int (lo+i),fT.refl e,?_,.int _⟩;have:i<n:=by simpa [sj]using a
 rw[sj,dX,l6 this];rfl
def Oa(te:ml):Qz:=λa Q=>te a λd=>match d with
 | .int j=>(0<=j/\j<2^62)/\Q (sj 0 j.toNat)
 |_=>False
def N9(b c:ml):Qz:=λa Q=>b a λx=>c a λy=>match x,y with
 | .int i,.int j=>(0<=i/\i<2^62/\0<=j/\j<2^62)/\Q (sj i (j-i).toNat)
 |_,_=>False
def wN(i:X.mg "range" =none)(o:fI cl X a ta)(l:Gl X "range" :=by rfl)(c:dj [a] X.env=[(false,fX a X.env)]:=by rfl):UE cl X tg (.Call (.Name "range" p) [a] [] pos) (Oa ta):=
 PI.imp (Ph l i (jl o mF c) c) λq H R n=>by
  let⟨F g own r,I,h,k⟩:=n;refine⟨F,g,own,_,I,h,λv d m e g1 f b=> ?_⟩;cases f with
  |int j=>exact⟨j,rfl,by have:=b.1;lia,b.1.2,k _ _ m e g1 (Gw _ _) b.2⟩
  |_=>exact eZ b
def P6(s:X.mg "range" =none)(x:fI cl X a ta)(q:fI cl X b tb)(t:Gl X "range" :=by rfl)(g:dj [a,b] X.env=[(false,fX a X.env),(false,fX b X.env)]:=by rfl)(c:dj [b] X.env=[(false,fX b X.env)]:=by rfl):
  UE cl X tg (.Call (.Name "range" p) [a,b] [] pos) (N9 ta tb):=
 PI.imp (Pg t s (jl x (jl q mF c) (by rw[c];exact g)) g c) λz H R w=>by
  let⟨F l own B,I,h,k⟩:=w;refine⟨F,l,own,_,I,h,λv d u y g1 n o=>⟨u,l,own,_,I.grow g1,o,λA C r m g2 f e=> ?_⟩⟩;cases n with
  |int i=>
   cases f with
   |int j=>exact⟨i,j,rfl,⟨by have:=e.1;lia,e.1.2.1,by have:=e.1;lia,e.1.2.2.2⟩,k _ _ r m (g1.trans g2) (Gw _ _) e.2⟩
   |_=>exact eZ e
  |_=>cases f<;>exact eZ e
def DW(g:UD)(c:yA)(a:EnD):List D->En->Prop
 | [],b=>a.nx b
 |x::e,b=>g x b λd=>c {nx:=DW g c a e,ct:=DW g c a e,bk:=a.nx,rt:=a.rt} d
def aat(d:Qz)(g:UD)(e:yA):yA:=λb a=>d a λc=>DW g e b c a
noncomputable def oJ(H:Hp)(own:AJ):Hp:=λb=>open Classical in if∃i,own i=some b then none else H b
def pB(h: ∃i,own i=some b):oJ H own b=none:=by unfold oJ;rw[dq h]
def kO(h: ¬ ∃i,own i=some b):oJ H own b=H b:=by unfold oJ;rw[di h]
def pP.rebase(I:pP T F0 H0 F δ σ H own):pP T F (oJ H own) F δ σ H own/\(∀h f,fT F (oJ H own) h f->fT F0 H0 h f)/\(∀p,oJ H own p=none->H0 p=none)/\(∀b o,H b=some o->(∀i,own i≠some b)->oJ H own b=some o):=by
 refine⟨⟨I.e,⟨Le.refl _,λ_ _=> .inl rfl,λb o e=> ?_,I.e.ext⟩,λi p e=>pB ⟨i,e⟩⟩,λh f g=>⟨I.g.le.trans g.le,λa n=> ?_,λb o e=> ?_,g.ext⟩,λp e=> ?_,λb o e n=> ?_⟩
 .by_cases z: ∃i,own i=some b
  .rw[pB z]at e;cases e
  .rw[kO z]at e;exact e
 .have d: ¬ ∃i,own i=some a:=λ⟨i,e⟩=>n (I.ap i a e);have k:=qk.some' I.g.same n;rcases I.g.old a n with e|⟨us,c,j⟩
  .rcases g.old a (by rw[kO d];exact k)with l|⟨us,c,j⟩
   .exact .inl (l.trans e)
   .rw[kO d]at c;cases ex:H0 a with
    |none=>exact absurd ex n
    |some o=>
     rw[I.g.same a o ex]at c
     simp_all
  .exact .inr ⟨us,c,g.le _ _ j⟩
 .have d: ¬ ∃i,own i=some b:=λ⟨i,z⟩=>by rw[I.ap i b z]at e;cases e
  exact g.same b o (by rw[kO d];exact I.g.same b o e)
 .by_cases z: ∃i,own i=some p
  .obtain⟨i,z⟩:=z;exact I.ap i p z
  .rw[kO z]at e;exact I.g.same.free e
 .rw[kO (λ⟨i,z⟩=>n i z)];exact e
def K9.rebase{n:EnD}{D:EH}{j:Hp}(l:K9 T F0 H0 n D)(o: ∀c H2,fT F j c H2->fT F0 H0 c H2)(q: ∀p,j p=none->H0 p=none):K9 T F j n D:=
 have b: ∀{P:En->Prop} {a:L2.St} {H:Hp},At T F j P a H->At T F0 H0 P a H:=λm=>by let⟨c k f,I,p⟩:=m;exact⟨c,k,f,⟨I.e,o _ _ I.g,λi p e=>q p (I.ap i p e)⟩,p⟩
 ⟨λa H h=>l.nx a H (b h),λv H m=>by let⟨c d,g,r,p⟩:=m;exact l.rt v H ⟨c,d,o _ _ g,r,p⟩,λa H h=>l.bk a H (b h),λa H h=>l.ct a H (b h)⟩
def Ep{J:It}{f:List D}{n o E:Hp}{g:UD}{R:dE}{t:yA}{s:EnD}{D:EH}(I:pP T n o n b k H own)(S:M5 T J n E f)(Q:qk E o)(h:DW g t s f b)(l:K9 T n o s D):
  ∃W:Nat->Nat->L2.St->Hp->Prop,(∃m,W 0 m k H)/\ ∀i m k H,W i m k H->
   (J.stop i H/\D.nx k H)\/(J.go i H/\ ∃N:L2.St->Hp->Prop,(∀a c,N a c-> ∃m',m'<m/\W (i+1) m' a c)/\ ∀x c,J.bY i H x c->Rl T g R x k c λu G=>YQ T t {D with nx:=N,ct:=N,bk:=D.nx} u G):=by
 refine⟨λi m k H=>m= ~~~f-i/\i<= ~~~f/\ ∃F b own,pP T n o F b k H own/\DW g t s (f.drop i) b,⟨_,rfl,kW _,n,b,own,I,h⟩,?_⟩;rintro i m k H ⟨rfl,hi,F,b,own,I,h⟩;have B:=S i F H I.g.le I.e.ext (Q.trans I.g.same);by_cases hx:i< ~~~f
 .right;let⟨go,w⟩:=B.1 hx;have X:=fV hx;rw[X]at h;refine⟨go,λa c=> ∃F b own,pP T n o F b a c own/\DW g t s (f.drop (i+1)) b,λa c P=>⟨_,by lia,rfl,by lia,P⟩,λx c Y=> ?_⟩;let⟨C d,M,A,U⟩:=w x c Y;have Z:f[i]=d:=by rw[df hx]at A;exact ft A
  rw[Z]at h;have v:=I.grow M;refine⟨C,b,own,d,_,v.e,U,h,λy a r O sub hl hs q=> ?_⟩;exact⟨n,o,C,y,r,_,⟨O,v.g,λj p e=>v.ap j p (sub j p e)⟩,q,⟨λ_ _ z=>z,l.rt,l.nx,λ_ _ z=>z⟩⟩
 .left;have e:i= ~~~f:=by lia
  subst e;rw[Vl]at h;exact⟨B.2 (dI _),l.nx _ _ ⟨F,b,own,I,h⟩⟩
def i3(b:IA (dZ X.prog X.w) X.A X.env X.xe)(p:X.calm=true)(o:UE cl X tg iter ti)(k:Xh cl X tg g vs)(i:AL cl X body tb)
  (d: ∀x,iO iter X.env x=pure x:=by intro _;rfl):EE cl X (.For tg iter body [] pos) (aat ti g tb):=
 PS.imp (LV b p o k i d) λD u H m=>by let⟨v t F f own r,I,h,l⟩:=m;refine⟨F,f,own,_,I.e,h,λJ z y s g1 j q=> ?_⟩;let⟨n,a,c,_⟩:=(I.grow g1).rebase;exact Ep n j (Hi _) q (l.rebase a c)
def AY(a:En):List Nat->En
 | []=>a
 |v::b=>(AY a b).set v none
def lq.cu(I:lq T F δ σ H own): ∀b:List Nat,∃a,lq T F (AY δ b) (wipe σ b) H a/\ ∀i p,a i=some p->own i=some p:=by
 intro b;induction b with
 |nil=>exact⟨own,I,λ_ _ h=>h⟩
 |cons v b ih=>let⟨(a),d,h⟩:=ih;exact⟨clear a v,d.forget v ((wipe σ b).set v none) (by simp) (λj c=>fF (λz=>c z.symm)),λi p e=>h i p (iq e).1⟩
def Jf(b:L2.St): ∀(a:dE) (i:Nat),i∈a->i< ~~~b->(wipe b a)[i]?=some none:=by
 intro a;induction a with
 |nil=>intro i h _;simp at h
 |cons v a ih=>
  intro i h c;show((wipe b a).set v none)[i]?=_;by_cases e:v=i
  .subst e;rw[gU (by rw[n6];exact c)]
  .rw[fF e];exact ih i ((eM.mp h).resolve_left (λz=>e z.symm)) c
def Nh(a:σ'.length=σ.length)(b: ∀i,i∉vs->σ'[i]?=σ[i]?):wipe σ' vs=wipe σ vs:=by
 apply BA;intro i;by_cases hi:i∈vs
 .by_cases hl2:i<σ.length
  .rw[Jf σ' vs i hi (by rw[a];exact hl2),Jf σ vs i hi hl2]
  .rw[lx (by rw[n6];lia),lx (by rw[n6];lia)]
 .rw[yM hi,yM hi];exact b i hi
def OH(b:L2.St)(a:dE):wipe (wipe b a) a=wipe b a:=Nh (n6 b a) λi c=>yM c
def Va(g:UD)(tt:GM)(te:ml)(d:En):List D->List D->(D->Prop)->Prop
 | [],a,Q=>Q (.lst a)
 |x::e,a,Q=>g x d λc=>tt c λb=>if b=true then te c λy=>Va g tt te d e (a++ [y]) Q else Va g tt te d e a Q
def dLc(d:Qz)(g:UD)(tt:GM)(te:ml)(c:dE):ml:=λa Q=>d a λb=> ~~~b<=eQ/\Va g tt te (AY a c) b [] Q
def aap:GM:=λ_ Q=>Q true
def M3(cl:nL)(X:Cx)(a:mW)(t:GM):Prop:=PTs X a (G9 (qb X cl) t)
def mK:M3 cl X [] aap:=λpz s c H Q I b=>by let⟨F d own e,a,t,k⟩:=b;exact VT pz s c H Q I (k true F H (fT.refl a.ext) t)
def wD(h:ED cl X c t):M3 cl X [c] t:=VS h
end
section
def zf{J:It}{s:List D}{C u Hh:Hp}{g:UD}{tt:GM}{te:ml}{t E:dE}{O:D->Prop}{Q:Hp->Prop}{l:eB}(I:lq T C δ σ u own)(ij:M5 T J C Hh s)(hh:qk Hh u)(hv: ∀i,i∈E->i∈t)(hD:u l=none)
  (hx: ~~~s<=eQ)(h:Va g tt te (AY δ t) s [] O)(k: ∀F H us c,fT C u F H->F l=none->H l=some (.lst us)->iE T F us c->O (.lst c)->Q H):
  ∃W:Nat->Nat->Hp->Prop,(∃m,W 0 m (L2.upd u l (.lst [])))/\ ∀i m H,W i m H->
   (J.stop i H/\Q H)\/(J.go i H/\ ∃Y:Hp->Prop,(∀n,Y n-> ∃m',m'<m/\W (i+1) m' n)/\ ∀x n,J.bY i H x n->Rl T g E x (wipe σ t) n λw H2=>wipe w t=wipe σ t/\G9 T tt w H2 λb H3=>
    if b=true then up T te w H3 λy Z=> ∃c,Z l=some (.lst c)/\ ~~~c<eQ/\Y (L2.upd Z l (.lst (c++ [y])))else Y H3):=by
 refine⟨λi m H=>m= ~~~s-i/\i<= ~~~s/\ ∃F us c,fT C u F H/\F l=none/\H l=some (.lst us)/\iE T F us c/\ ~~~c<=i/\Va g tt te (AY δ t) (s.drop i) c O,
  ⟨_,rfl,kW _,C,[],[],fT.laid I.ext hD,I.ext.fresh hD,eR,fh.nil,dI _,h⟩,?_⟩
 rintro i m H ⟨rfl,hi,F,us,c,B,fD,A,r,x0,h⟩;have IE:=I.grow B;have it:=ij i F H B.le B.ext (hh.trans B.same);by_cases hxi:i< ~~~s
 .right;let⟨go,U⟩:=it.1 hxi;have ed:=fV hxi;rw[ed]at h;refine⟨go,λn=> ∃F us c,fT C u F n/\F l=none/\n l=some (.lst us)/\iE T F us c/\ ~~~c<=i+1/\Va g tt te (AY δ t) (s.drop (i+1)) c O,λn hN=>⟨_,by lia,rfl,by lia,hN⟩,λx n hy=> ?_⟩;let⟨X d,f,e1,e2⟩:=U x n hy;have e3:s[i]=d:=by rw[df hxi]at e1;exact ft e1
  rw[e3]at h;let⟨(M),Iw,_⟩:=(IE.grow f).cu t;refine⟨X,_,M,d,_,Iw,e2,h,λG x1 p N sub hl hs q=>⟨?_,?_⟩⟩
  .rw[<-OH σ t];exact Nh hl λj hj=>hs j λz=>hj (hv j z)
  .refine⟨X,G,p,_,N,q,λb F3 H3 g3 P=> ?_⟩;have R:=f.same _ _ A;have f1:X l=none:=by rw[f.aB A (by intro us z;cases z)];exact fD
   cases b with
   |true=>
    rw[dq rfl]at P;refine afi ?_;refine⟨F3,G,p,_,N.grow g3,P,λv y F4 Z g4 r4 q4=> ?_⟩;have S:=g3.trans g4;have d4:=S.same _ _ R;have f4:F4 l=none:=by rw[S.aB R (by intro us z;cases z)];exact f1
    have all:=(B.trans f).trans S;refine⟨us,d4,by rw[r.1];lia,F4,us++ [v],c++ [y],⟨all.le,all.old,λb o e=> ?_,λa o e=> ?_⟩,f4,eR,?_,by simp;lia,q4⟩
    .rw[d9 (fz e hD)];exact all.same b o e
    .unfold Lh;rw[d9 (fz e f4)];exact all.ext a o e
    .exact(iE.mono (f.le.trans S.le) r).append (fh.cons r4 fh.nil)
   |false=>rw[di dY]at P;refine afj ?_;have all:=(B.trans f).trans g3;exact⟨F3,us,c,all,by rw[g3.aB R (by intro us z;cases z)];exact f1,g3.same _ _ R,iE.mono (f.le.trans g3.le) r,by lia,P⟩
 .left;have e:i= ~~~s:=by lia
  subst e;rw[Vl]at h;exact⟨it.2 (dI _),k F H us c B fD A r h⟩
def Ml(b:H1 Dl=none)(g:fT F1 H1 F H)(f:F Dl=none)(h:H Dl=some (.lst us))(r:iE T F us acc):fT F1 H1 (L2.upd F Dl (.lst us)) H/\k7 T (L2.upd F Dl (.lst us)) (.ref Dl) (.lst acc):=by
 have le:Le F (L2.upd F Dl (.lst us)):=λa u e=>by rw[d9 (fz e f)];exact e
 refine⟨⟨g.le.trans le,λa n=> ?_,g.same,λa o e=> ?_⟩,.lst eR r.1 (iE.mono le r).2⟩
 .rw[d9 (λz=>n (by rw[z];exact b))];exact g.old a n
 .by_cases z:a=Dl
  .subst z;rw[eR]at e;cases e;exact .inl h
  .rw[d9 z]at e;exact g.ext a o e
def XT(o: ∀i,i∈vs'->i∈vs)(h:up T (dLc ti g tt te vs) σ H Q):tLc (upI T ti) (Rl T g vs') (G9 T tt) (up T te) vs σ H Q:=by let⟨F m own s,I,h,k⟩:=h;refine⟨F,m,own,_,I,h,λJ u t p g1 n q v c=> ?_⟩;refine zf (I.grow g1) n (Hi _) o c q.1 q.2 λF H us d e f l r j=> ?_;let⟨a,b⟩:=Ml c e f l r;exact k _ _ _ _ (g1.trans a) b j
def sS(a:List (gw×Nat))(d:X.calm=true)(e:X.N.Nodup)(ok:wq X.N X.env.scope scope a)(b:UE cl X tg iter ti)
  (f: ∀(s:dJ) (H:Hp) (C:eB) (cls:j9) (fp:iY),Xh cl (X.aw s H scope (ig scope cls C X.env) fp) tg g vs')(j: ∀(s:dJ) (H:Hp) (C:eB) (cls:j9) (fp:iY),M3 cl (X.aw s H scope (ig scope cls C X.env) fp) ifs tt)
  (he: ∀(s:dJ) (H:Hp) (C:eB) (cls:j9) (fp:iY),fI cl (X.aw s H scope (ig scope cls C X.env) fp) elt te)(c: ∀i,i∈vs'->i∈a.map (·.2):=by decide)(h: ∀x,iO iter X.env x=pure x:=by intro _;rfl):
  fI cl X (.ListComp elt [⟨tg,iter,ifs,0⟩] scope pos) (dLc ti g tt te (a.map (·.2))):=PE.imp (X3 (g:=Rl (qb X cl) g vs') (tt:=G9 (qb X cl) tt) (te:=up (qb X cl) te) d e b ok f j he h) λ_ _ _=>XT c
def CZ(b:List (gw×Nat))(w:X.calm=true)(f:X.N.Nodup)(a:jr (.ListComp elt [⟨tg,iter,ifs,0⟩] scope pos) (some (.Name y py)) spos.line X.env=pure true)(ok:wq X.N X.env.scope scope b)(t:UE cl X tg iter ti)
  (o: ∀(s:dJ) (H:Hp) (C:eB) (cls:j9) (fp:iY),Xh cl (X.aw s H scope (ig scope cls C X.env) fp) tg g vs')(k: ∀(s:dJ) (H:Hp) (C:eB) (cls:j9) (fp:iY),M3 cl (X.aw s H scope (ig scope cls C X.env) fp) ifs tt)
  (he: ∀(s:dJ) (H:Hp) (C:eB) (cls:j9) (fp:iY),fI cl (X.aw s H scope (ig scope cls C X.env) fp) elt te)(u: ∀i,i∈vs'->i∈b.map (·.2):=by decide)(j: ∀x,iO iter X.env x=pure x:=by intro _;rfl)
  (z:X.N[i]?=some y:=by rfl)(c:X.env.scope.names.lookup y=some .local:=by rfl):EE cl X (.Assign [.Name y py] (.ListComp elt [⟨tg,iter,ifs,0⟩] scope pos) spos) (W1 i (dLc ti g tt te (b.map (·.2)))):=
 PS.imp (Di (g:=Rl (qb X cl) g vs') (tt:=G9 (qb X cl) tt) (te:=up (qb X cl) te) w f z c a t ok o k he j) λD G H p=>by let⟨J E F m own A,I,h,l⟩:=p;exact XT u ⟨F,m,own,_,I.e,h,λv d n B g r q=>l.nx _ _ ⟨n,_,_,(I.grow g).set i r,q⟩⟩
def Yf(i:Nat)(te:ml):yA:=λb a=>te a λd=>match d with
 | .lst l=>b.nx (a.set i (some (.ol l)))
 |_=>False
def FZ(E:List (gw×Nat))(hc:X.calm=true)(U:X.N.Nodup)(B:jr (.ListComp elt [⟨tg,iter,ifs,0⟩] scope pos) (some (.Name y py)) spos.line X.env=pure true)(ok:wq X.N X.env.scope scope E)(w:UE cl X tg iter ti)
  (hg: ∀(s:dJ) (H:Hp) (C:eB) (cls:j9) (fp:iY),Xh cl (X.aw s H scope (ig scope cls C X.env) fp) tg g vs')(Z: ∀(s:dJ) (H:Hp) (C:eB) (cls:j9) (fp:iY),M3 cl (X.aw s H scope (ig scope cls C X.env) fp) ifs tt)
  (he: ∀(s:dJ) (H:Hp) (C:eB) (cls:j9) (fp:iY),fI cl (X.aw s H scope (ig scope cls C X.env) fp) elt te)(hv: ∀i,i∈vs'->i∈E.map (·.2):=by decide)(Y: ∀x,iO iter X.env x=pure x:=by intro _;rfl)
  (hy:X.N[i]?=some y:=by rfl)(G:X.env.scope.names.lookup y=some .local:=by rfl):EE cl X (.Assign [.Name y py] (.ListComp elt [⟨tg,iter,ifs,0⟩] scope pos) spos) (Yf i (dLc ti g tt te (E.map (·.2)))):=
 PS.imp (Di (g:=Rl (qb X cl) g vs') (tt:=G9 (qb X cl) tt) (te:=up (qb X cl) te) hc U hy G B w ok hg Z he Y) λD σ H hx=>by
  obtain⟨F0,H0,F,δ,own,DD,I,h,l⟩:=hx;refine⟨F,δ,own,_,I.e,h,λJ xs F1 H1 g1 ij q A M=> ?_⟩;refine zf (I.e.grow g1) ij (Hi _) hv M q.1 q.2 λF2 H2 us R S f Q r T=> ?_;have k:=I.grow (g1.trans S);have O: ∀j,own j≠some A:=λj e=>by let⟨(u),P,_⟩:=(I.grow g1).e.there j A e;rw[M]at P;cases P
  refine l.nx _ _ ⟨F2,_,put own i A,⟨⟨k.e.ext,by simp[k.e.len],λj d e=> ?_,λj m e n=> ?_,λj p e=> ?_,λj p e=> ?_,λa b p z v=> ?_⟩,k.g,λj p e=> ?_⟩,T⟩
  .rcases nP e with⟨rfl,o,w⟩|⟨t,o⟩
   .cases o
   .obtain⟨u,a,b⟩:=k.e.val j d o;exact⟨u,by rw[fF (λq=>t q.symm)];exact a,b⟩
  .rcases nP e with⟨rfl,o,w⟩|⟨t,o⟩
   .cases o;exact⟨A,_,by unfold put;rw[dq rfl],gU (by rw[<-k.e.len];exact w),Q,us,rfl,r⟩
   .obtain⟨q,u,a,b,c,d⟩:=k.e.aN j m o n;exact⟨q,u,by unfold put;rw[di t];exact a,by rw[fF (λq=>t q.symm)];exact b,c,d⟩
  .unfold put at e;split at e
   .simp_all
   .exact k.e.free j p e
  .unfold put at e;split at e
   .cases e;exact⟨_,Q,trivial⟩
   .exact k.e.there j p e
  .unfold put at z v;split at z
   .simp_all
   .split at v
    .cases v;exact absurd z (O _)
    .exact k.e.inj a b p z v
  .unfold put at e;split at e
   .cases e;exact(I.grow g1).g.same.free M
   .exact k.ap j p e
end
def vA(n:Nat)(ds:List D):En:=ds.map (λd=>some (L.val d))++fP (n- ~~~ds) none
def fN(K:dh)(mg:kQ)(x:gw)(st:o4)(ps:iW):Prop:= ∃f a,UK K x x st f a/\mg x=some (.ref f)/\Binds K a ps []
section
variable {K:dh}
def FV(e:oW F H)(r:iE T F vs ds):lq T F (vA (~~~N) ds) (L2.start N vs) H (λ_=>none) where
 ext:=e
 len:=by simp[vA,L2.start,r.1]
 val:=λi d h=>by
  unfold vA at h;unfold L2.start;by_cases hi:i< ~~~ds
  .rw[fU (by simpa using hi),dX]at h;have a:=df hi;rw[a]at h;cases h;let⟨(v),b,c⟩:=r.get a;exact⟨v,by rw[fU (by simp[r.1];exact hi),dX,b];rfl,c⟩
  .rw[iQ (by simp;lia),jk]at h;split at h<;>cases h
 aN:=λi l h n=>by
  unfold vA at h;by_cases hi:i< ~~~ds
  .rw[fU (by simpa using hi),dX]at h;have a:=df hi;rw[a]at h;cases h;exact absurd rfl (n _)
  .rw[iQ (by simp;lia),jk]at h;split at h<;>cases h
 free:=λi p h=>by cases h
 there:=λi p h=>by cases h
 inj:=λi j p h=>by cases h
def fN.ok{x:gw}{st:o4}{ps N:iW}{k n:Nat}{g:GN}{t:yA}(h:fN K mg x st ps)(S:FnScope N ps (jm st))(M: ~~~ps=n)
  (O: ∀{f:eB} {b:eA} {A:i6} {outer:List Ls} {s:dJ} {H:Hp} {E:XK},oo k (A.deeper (yp x (jm st) s.heap.objs.size f b))->AL cl (KO QE P w K mg base N x (jm st) f b A outer s H E).b9 (nQ st) t)
  (Y: ∀(ds:List D) (j:D->Prop),g ds j->t {nx:=λ_=>j .non,rt:=j} (vA (~~~N) ds)):kF P w K mg base cl (k+1) x n g:=by
 let⟨f J,F,U,R⟩:=h;refine⟨f,J,ps,?_,U,F.kp,R⟩;refine F.ok S (λT H Q E y=>by let⟨u ds j,e,r,C,_⟩:=y;rw[r.1,C,M]) λb A outer s H T Q E c y=> ?_;let⟨u ds j,e,r,C,X,w⟩:=y;refine⟨_,O c,?_⟩;have I:=FV (N:=N) e r;refine⟨u,H,u,_,_,_,⟨I,fT.refl e,λi p h=>by cases h⟩,Y ds j X,⟨?_,?_,?_,?_⟩⟩
 .rintro B l ⟨o,m,a,z,q⟩;exact w _ _ o l z.g .non q
 .rintro v l ⟨o,d,g2,G,q⟩;exact w v d o l g2 G q
 .rintro B l ⟨o,m,a,z,q⟩;exact q.elim
 .rintro B l ⟨o,m,a,z,q⟩;exact q.elim
end
section
def iy(a: ∃t,X.mg x=some (.int n t))(b:Gl X x:=by rfl)(hd:(x==("__debug__" :gw))=false:=by decide):fI cl X (.Name x pos) (dC (.int n)):=by let⟨(t),a⟩:=a;exact V7 a b hd
end
structure Mg(mg:kQ):Prop where
 len:mg "len" =none
 range:mg "range" =none
 enumerate:mg "enumerate" =none
 zip:mg "zip" =none
 min:mg "min" =none
 max:mg "max" =none
 sum:mg "sum" =none
 sorted:mg "sorted" =none
 reversed:mg "reversed" =none
 list:mg "list" =none
 tuple:mg "tuple" =none
 dict:mg "dict" =none
 any:mg "any" =none
 all:mg "all" =none
 aY: ∃t,mg "NEWLINE" =some (.int 10 t)
 ck: ∃t,mg "BLANK" =some (.int 32 t)
 bV: ∃t,mg "WOMAN_SIGN" =some (.int 102 t)
 bg: ∃t,mg "MAN_SIGN" =some (.int 109 t)
 cy: ∃t,mg "WOMAN" =some (.int 0 t)
 cT: ∃t,mg "MAN" =some (.int 1 t)
 bG: ∃t,mg "LONGEST_NAME" =some (.int 15 t)
 aG: ∃t,mg "OWN_NAME" =some (.int 0 t)
 cG: ∃t,mg "SEX" =some (.int 1 t)
 cR: ∃t,mg "FATHER" =some (.int 2 t)
 bx: ∃t,mg "MOTHER" =some (.int 3 t)
 bj: ∃t,mg "BY_SEX" =some (.int 1 t)
 b4: ∃t,mg "MOST_KINDS" =some (.int 8 t)
 bT: ∃t,mg "MOST_WEIGHT" =some (.int 255 t)
 bI: ∃t,mg "MOST_PERSONS" =some (.int 64 t)
 bH: ∃t,mg "NO_SUCH_TEXT" =some (.int (-2) t)
 bK: ∃t,mg "ONE_TOO_MANY" =some (.int (-3) t)
 bW: ∃t,mg "NAME_TAKEN" =some (.int (-4) t)
 bR: ∃t,mg "WRONG_PARENT" =some (.int (-5) t)
 bN: ∃t,mg "OWN_FOREBEAR" =some (.int (-6) t)
 cV: ∃t,mg "READ" =some (.int 1 t)
 cU: ∃t,mg "PLACE" =some (.int 10 t)
 bM: ∃t,mg "LONGEST_TEXT" =some (.int 16384 t)
 bC: ∃t,mg "TEXT_TOO_LONG" =some (.int (-1) t)
 bQ: ∃t,mg "NOBODY_FOUND" =some (.int (-1) t)
 bF: ∃t,mg "NO_SUCH_PLACE" =some (.int (-1) t)
 be: ∃t,mg "NO_CONTRADICTION" =some (.int (-1) t)
 bu: ∃t,mg "NO_SUCH_PERSON" =some (.int (-2) t)
 bS: ∃t,mg "NONE_AGREES" =some (.int (-3) t)
 cB: ∃t,mg "NO_PLACE" =some (.int (-4) t)
 bf: ∃t,mg "ANSWERS_RUN_OUT" =some (.int (-5) t)
 cf: ∃t,mg "NO_FAMILY" =some (.int (-8) t)
def hide(H:Hp)(p:eB):Hp:=λb=>if b=p then none else H b
def Gy:hide H p p=none:=by unfold hide;rw[dq rfl]
def NS(h:b≠p):hide H p b=H b:=by unfold hide;rw[di h]
def WJ:qk (hide H p) H:=λb o e=>by
 by_cases z:b=p
 .subst z;rw[Gy]at e;cases e
 .rw[NS z]at e;exact e
abbrev UJ:=List D->(List D->Prop)->Prop
def spI(T:qj)(c n:Nat)(j:UJ):Sp:=λh H Q _=> ∃p us i F ds g,h= .ref p::us/\H p=some (.ins (T.cl c) i [])/\F p=none/\oW F H/\iE T F us ds/\ ~~~ds=n/\j ds g/\
 ∀f e d a b,fT F (hide H p) f e->f p=none->e p=some (.ins (T.cl c) d ((fl c).zip a))-> ~~~a=(fl c).length->iE T f a b->g b->Q .non e
def Xj(P:fY)(w:iu)(K:dh)(mg:kQ)(base:iZ)(cl:nL)(k c n:Nat)(x:gw)(b:UJ):Prop:=
 c<7/\ ∃f a ps,Mk K (cl c) f/\qY P w K mg base QE k f a ps (spI ⟨K,cl⟩ c n b)/\mg x=some (.ref (cl c))/\Binds K a ps []
section
def T6(c n:Nat)(b:UJ)(t:On):ml:=λa Q=>t a λds=> ~~~ds=n/\b ds λl=>Q (.obj c l)
def PL(O:c<7)(h:up T (T6 c n gi t) σ H Q):RF (T.cl c) (spI T c n gi) [] E0 (upA T t) σ H Q:=by
 let⟨F M own P,I,t,k⟩:=h;refine⟨F,M,own,_,I,t,λN ds A j g1 J y x e f g l=> ?_⟩;have G:oW A (L2.upd (L2.upd j e (.own x)) x (.ins (T.cl c) e [])):=(g1.ext.upd g).upd (by rw[d9 (λz=>l z.symm)];exact f);refine⟨x,N++ [],e,A,ds,_,rfl,eR,g1.ext.fresh f,G,by rw[km];exact J,y.1,y.2,λr E d i p g' C h' m v B=>⟨rfl,?_⟩⟩;have le:Le r (L2.upd r x (.ins (T.cl c) d ((fl c).zip i))):=λa u z=>by rw[d9 (fz z C)];exact z
 have q: ∀b o,j b=some o->hide (L2.upd (L2.upd j e (.own x)) x (.ins (T.cl c) e [])) x b=some o:=λb o z=>by rw[NS (fz z f),d9 (fz z f),d9 (fz z g)];exact z
 refine k (.ref x) (.obj c p) (L2.upd r x (.ins (T.cl c) d ((fl c).zip i))) E (g1.trans ⟨g'.le.trans le,λa w=> ?_,λb o z=>g'.same b o (q b o z),λa o z=> ?_⟩) (.obj O eR m v.1 (iE.mono le v).2) B
 .have s:a≠x:=λz=>w (by rw[z];exact f);rw[d9 s];cases ea:j a with
  |none=>exact absurd ea w
  |some o=>have z:=g'.old a (by rw[q a o ea];simp);rw[q a o ea]at z;exact z
 .by_cases ax:a=x
  .subst ax;rw[eR]at z;cases z;exact .inl h'
  .rw[d9 ax]at z;exact g'.ext a o z
def pT(h:Xj X.prog X.w X.K X.mg X.base cl k c n x gi)(g:oo j X.A)(o:Yu cl X (e::es) t)(a:Gl X x:=by rfl)(d:(x==("__debug__" :gw))=false:=by decide)
  (he:dj (e::es) X.env=(false,fX e X.env)::dj es X.env:=by rfl)(hpl:(gy pos (dj es X.env)).any (·.1)=false:=by rfl)(b:k+1<=j:=by decide):fI cl X (.Call (.Name x p) (e::es) [] pos) (T6 c n gi t):=by
 obtain⟨l,f,q,ps,M,F,m,i⟩:=h;exact PE.imp (V3 M F (g.mono b) a m i .nil Dy o d he hpl) λ_ _ _=>PL l
def T9(i:Nat)(f:gw)(te:ml):yA:=λb a=>match a[i]? with
 |some (some (.oi q c l))=>te a λd=>(fl c)[~~~l]?=some f/\b.nx (a.set i (some (.oi q c (l++ [d]))))
 |_=>False
theorem JC: ∀{b:iW} {us:List V},b.Nodup->b[~~~us]?=some f->qP f y (b.zip us)=b.zip (us++ [y])
 | [],us,_,h=>by simp at h
 |g::c,[],_,h=>by
  have e:g=f:=by simpa using h
  subst e;simp[qP]
 |g::c,u::us,i,h=>by
  have a:=fH.mp i;have h':c[~~~us]?=some f:=by simpa using h
  have j:=eS h';have d: ¬g=f:=λz=>a.1 (by rw[z];exact j);show qP f y ((g,u)::c.zip us)=(g,u)::c.zip (us++ [y]);unfold qP;rw[di d,JC a.2 h']
theorem KF: ∀c,c<7->(fl c).Nodup/\(fl c).length<=5
 |0,_=>by decide+kernel
 |1,_=>by decide+kernel
 |2,_=>by decide+kernel
 |3,_=>by decide+kernel
 |4,_=>by decide+kernel
 |5,_=>by decide+kernel
 |6,_=>by decide+kernel
 |n+7,h=>by lia
def lG(g:qj.Ok (qb X cl))(A:PE X (.Name y py) (E3 i))(he:fI cl X e te)(t:jr e (some (.Attribute (.Name y py) f pos')) pos.line X.env=pure false:=by rfl):
  EE cl X (.Assign [.Attribute (.Name y py) f pos'] e pos) (T9 i f te):=PS.imp (Hq A he t) λD M H x=>by
 let⟨N J F u own E,I,h,l⟩:=x;unfold T9 at h;split at h
 .rename_i q c m B;obtain⟨p,o,n,k,C,rfl,a,j,us,rfl,O,r⟩:=I.e.aN i _ B (by intro d z;cases z);refine⟨F,u,own,_,I.e,h,λv d w G g1 s b=>⟨_,k,q,cl c,j,_,rfl,g1.same _ _ C,g.cls c a,g.no c f a (eS b.1),?_,?_⟩⟩
  .have:=(KF c a).2;have P:((fl c).zip us).length<=(fl c).length:=by rw[List.length_zip];lia
   lia
  .have Q: ~~~us<(fl c).length:=by rw[r.1];exact(dH.mp b.1).1
   refine l.nx _ _ ⟨w,_,own,(I.grow g1).chg i (l:= .oi q c (m++ [d])) n k ⟨rfl,a,j,us++ [v],?_,by simp;lia,(iE.mono g1.le r).append (fh.cons s fh.nil)⟩,b.2⟩;rw[JC (KF c a).1 (by rw[r.1];exact b.1)]
 .exact h.elim
end
section
variable {K:dh}
def ue{x m:gw}{st:o4}{f:eB}{fd:n0}{N ps:iW}{k c n:Nat}{gi:UJ}{t:yA}(F:UK K "__init__" m st f fd)(hb:Binds K fd ps [])(M:Mk K (cl c) f)(hc:c<7)(hm:mg x=some (.ref (cl c)))(S:FnScope N ps (jm st))(hn: ~~~ps=n+1)
  (ht: ∀(u:eA) (A:i6) (outer:List Ls) (s:dJ) (H:Hp) (E:XK),oo k (A.deeper (yp m (jm st) s.heap.objs.size f u))->AL cl (KO QE P w K mg base N m (jm st) f u A outer s H E).b9 (nQ st) t)
  (hr: ∀(q:eB) (ds:List D) (G:List D->Prop),~~~ds=n->gi ds G->t {nx:=λδ=> ∃l,δ[0]?=some (some (.oi q c l))/\ ~~~l=(fl c).length/\G l,rt:=λ_=>False} (some (.oi q c [])::vA (~~~N-1) ds)):Xj P w K mg base cl (k+1) c n x gi:=by
 refine⟨hc,f,fd,ps,M,?_,hm,hb⟩;refine F.ok S (λvs H Q E hx=>by let⟨p us dx U ds G,e,_,_,_,r,Z,_⟩:=hx;rw[e,dB,r.1,Z,hn]) λu A outer s H vs Q E C hx=> ?_;let⟨p us dx U ds G,e,hp,hf,ext,r,Z,hg,w⟩:=hx;refine⟨_,ht u A outer s H E C,?_⟩;subst e;have hN:0< ~~~N:=by
  have h1:=S.pre
  grind
 have T:=FV (N:=N.tail) ext r;have B: ~~~N.tail= ~~~N-1:=List.length_tail;rw[B]at T;have es:L2.start N (.ref p::us)=some (.ref p)::L2.start N.tail us:=by
  unfold L2.start;rw[dt,u4,B]
  grind
 have I:lq ⟨K,cl⟩ U (some (.oi p c [])::vA (~~~N-1) ds) (L2.start N (.ref p::us)) H (λi=>if i=0 then some p else none):=by
  rw[es];refine⟨ext,by simp[T.len],λi d h=> ?_,λi l h nv=> ?_,λi q h=> ?_,λi q h=> ?_,λi j q a b=> ?_⟩
  .cases i with
   |zero=>simp at h
   |succ i=>
    let⟨(v),a,b⟩:=T.val i d (by simpa using h)
    simp_all
  .cases i with
   |zero=>
    have:L.oi p c []=l:=by simpa using h
    subst this;exact⟨p,_,rfl,rfl,hp,rfl,hc,dx,[],by simp,by simp,fh.nil⟩
   |succ i=>let⟨_ _,z,_⟩:=T.aN i l (by simpa using h) nv;cases z
  .simp_all
  .split at h
   .cases h;exact⟨_,hp,trivial⟩
   .cases h
  .simp_all
 refine⟨U,hide H p,U,_,_,_,⟨I,⟨Le.refl _,λ_ _=> .inl rfl,WJ,ext⟩,λi q h=> ?_⟩,hr p ds G Z hg,⟨?_,?_,?_,?_⟩⟩
 .split at h
  .cases h;exact Gy
  .cases h
 .rintro σ X ⟨R,J,y,O,l,e1,e2,q⟩;obtain⟨p',o,a1,a2,a3,rfl,_,Y,x0,rfl,a4,a5⟩:=O.e.aN 0 _ e1 (by intro d z;cases z);exact w R X Y x0 l O.g (O.e.free 0 _ a1) a3 (a5.1.trans e2) a5 q
 .rintro v X ⟨R,d,g2,r2,q⟩;exact q.elim
 .rintro σ X ⟨R,J,y,O,q⟩;exact q.elim
 .rintro σ X ⟨R,J,y,O,q⟩;exact q.elim
end
section
def acJ:G1:=λx Q=>match x with
 | .int i=>Q (.int (-i))
 |_=>False
def Sn(j:fI cl X a ta):fI cl X (.UnaryOp .USub a pos) (BZ acJ ta):=PE.imp (acm YR j) λl H Q h=>by
 let⟨F f own m,I,t,k⟩:=h;refine⟨F,f,own,_,I,t,λv d g c g1 e b=> ?_⟩;cases e with
 |int i=>exact⟨i,rfl,k _ _ g c g1 (.int _) b⟩
 |_=>exact eZ b
def adz(i j:Int):Prop:=0<j/\j.natAbs.log2<9000
def SF:tG X (nZ .FloorDiv) (rI adz λi j=> .int (i/j)):=opI λi j t u s Q E a h=>by
 refine aht (by have:=a.1;lia) ?_ (lB ?_)
 .rw[ID _ (by have:=a.1;lia)];exact h
 .exact PyProof.noPylong_of_log2 a.2
def JR(d:fI cl X a ta)(c:fI cl X b tb):fI cl X (.BinOp a .FloorDiv b pos) (yz (Ya adz λi j=> .int (i/j)) ta tb):=A8 SF NJ d c
def Ue(i:Nat)(c te:ml):yA:=λb a=>match a[i]? with
 |some (some (.ol l))=>c a λk=>match k with
  | .int j=> ∃(n:Nat) (x:Int),j=(n:Int)/\l[n]?=some (.int x)/\te a λy=>match y with
   | .int z=>b.nx (a.set i (some (.ol (l.set n (.int (x+z))))))
   |_=>False
  |_=>False
 |_=>False
def Te:adt X (λo i H Q=> ∃(q:eB) (a:List V) (k:Nat) (v:V),o= .ref q/\i= .int k/\rB X.K H q a/\a[k]?=some v/\Q v H):=by intro pz s m H o i p w Q I g f h;let⟨q a k v,rfl,rfl,c,b,d⟩:=h;cases g;let⟨(t),rfl⟩:=f;let⟨(j),r,pl,hz⟩:=I.list c;let⟨(u),e,l⟩:=r.get b;have hk:=(dH.mp b).1;have n:=Au;exact wpAny_getItem_list pl.isList (by lia) (by lia) (by simpa using e) ⟨v,H,I,l,d⟩
def Np(M:PE X (.Name x px) (E3 i))(J:fI cl X a ti)(he:fI cl X e te)(P: ∀ov iv new,augStore a ov iv new=(do qm [new,ov,iv] (Lj ov iv new);abz [new,ov,iv] [];pure .next):=by intros;rfl):
  EE cl X (.AugAssign (.Subscript (.Name x px) a tpos) .Add e pos) (Ue i ti te):=
 PS.imp (VU M J Te he S6 Jv P) λD U H c=>by
  let⟨Z T F p own Q,I,h,l⟩:=c;unfold Ue at h;split at h
  .rename_i m O;obtain⟨q,o,A,s,w,us,rfl,t⟩:=I.e.aN i _ O (by intro d z;cases z);refine⟨_,s,F,p,own,_,I.e,h,λv d G R g1 B r=> ?_⟩;cases B with
   |int j=>
    let⟨n x,rfl,c,C⟩:=r;let⟨(u),k,N⟩:=t.get c;have b:=g1.same _ _ w;refine⟨q,us,n,u,rfl,rfl,rB.of b,k,G,p,own,_,I.e.grow g1,C,λv2 d2 E S g2 y f=> ?_⟩;cases y with
    |int z=>
     have g:=g1.trans g2;have Y:=(dH.mp k).1;refine⟨x,z,N.aa,rfl,q,us,n,n,rfl,rfl,g.same _ _ w,?_,l.nx _ _ ⟨E,_,own,(I.grow g).chg i (l:= .ol (m.set n (.int (x+z)))) A s ⟨_,rfl,(iE.mono g.le t).set n (.int _)⟩,f⟩⟩;unfold P1
     simp_all
    |_=>exact eZ f
   |_=>exact eZ r
  .exact h.elim
def acf:V->List V->Hp->VK->Prop:=λx d H Q=> ∃l b c a,x= .ref l/\d=[.ref b]/\H l=some (.lst c)/\(Rd H b (.lst a)\/H b=some (.tup a))/\ ~~~c+ ~~~a<=eQ/\Q .non (upd H l (.lst (c++a)))
def BS(l:eB)(items:mj)(n:Nat)(b:eB)(a:mj)(m:Nat)(o:pM)(j:wk)(p: ¬(!items.isEmpty&&mZ (items.size+a.size))=true)(e:items.size<=eQ)(c:items.size+a.size<=eQ+1):
  Meets (Builtin.«list.extend» ⟨[.ref l,.ref b],[]⟩) (λ_ R s=>s.heap.get? l=some {cls:= .type "list",dict:=none,data:= .seq items n,slots:= #[]}/\s.heap.get? b=some {cls:= .type "tuple",dict:=o,data:= .seq a m,slots:=j}/\R (.ok (.ret mw)) {s with heap:=s.heap.update l (lV λx=>x++a),toks:=s.toks}):=
 .of_wp λprog w A R s h=>by
  obtain⟨q,g,d,tk,os⟩:=s;let⟨i,k,h⟩:=h;have f1:=ahP;have f2:=EY;have u:=ahN;have t:=ahL;have r:=ahM;have f:(items++a).size<=eQ+1:=by rw[Array.size_append];exact c
  wp_walk using(m9 i rfl (hz:=e) (_hz':=f)),EX i,EX k;exact⟨_,rfl,h⟩
def NL:MtM X "list.extend" acf:=by
 intro pz s F H x G v us Q I y t h;let⟨l b M A,rfl,rfl,i,f,hz,q⟩:=h;cases y;let⟨(u),rfl,B⟩:=t.one;cases B;obtain⟨z,c,n,r,J,e⟩:=I.cA i;rcases f with f|f
 .obtain⟨p,a,k,g,m,j⟩:=Inv.cE I f;have hsz:c.toArray.size+a.toArray.size<=sizeLine:=by rw[eJ,eJ];lia
  have d: ¬(!c.toArray.isEmpty&&mZ (c.toArray.size+a.toArray.size))=true:=by
   rw[J4 hsz,YI]
   grind
  refine call_meets XJ ⟨_,e,rfl⟩ Vo (U4 _ _)
   (ahO l c.toArray n b a.toArray k d (by rw[eJ];lia) (by lia)) ⟨e,j,?_⟩
  refine⟨.non,_,I.b5 i e (by simp) (r.append g) ?_,rfl,q⟩
  simp_all
 .obtain⟨p,a,g,⟨cls,E,data,o⟩,j,C,k,hd,_⟩:=(show jM X.prog X.w H s.heap b (.tup A)from I.ab b _ f);subst C hd;have m:= ~~~g;have hsz:c.toArray.size+a.toArray.size<=sizeLine:=by rw[eJ,eJ];lia
  have d: ¬(!c.toArray.isEmpty&&mZ (c.toArray.size+a.toArray.size))=true:=by
   rw[J4 hsz,YI]
   grind
  refine call_meets XJ ⟨_,e,rfl⟩ Vo (U4 _ _)
   (BS l c.toArray n b a.toArray k E o d (by rw[eJ];lia) (by lia)) ⟨e,j,?_⟩
  refine⟨.non,_,I.b5 i e (by simp) (r.append g) ?_,rfl,q⟩
  simp_all
def aau(i:Nat)(te:ml):yA:=λb a=>match a[i]? with
 |some (some (.ol l))=>te a λd=>match d with
  | .lst m=> ~~~l+ ~~~m<=eQ/\b.nx (a.set i (some (.ol (l++m))))
  | .tup m=> ~~~l+ ~~~m<=eQ/\b.nx (a.set i (some (.ol (l++m))))
  |_=>False
 |_=>False
def RM(N:PE X (.Name x px) (E3 i))(he:fI cl X e te)(G:jr (.Call (.Attribute (.Name x px) "extend" apos) [e] [] cpos) none pos.line X.env=pure false:=by rfl)
  (c:hZ (.Name x px) "extend" X.env (fX (.Name x px) X.env)=fX (.Name x px) X.env:=by rfl)
  (n:((gy cpos (dj [e] X.env)).all (λx=> !x.1)&&(xb cpos (pX [] X.env)).all (λx=>x.1.isSome)&&decide (([e]:List jG).length+([]:List pk).length+(if([]:List pk).isEmpty then 0 else 1)<30))=true:=by rfl)
  (f:(apos.endLine==cpos.line)=true:=by rfl)(k:dj [e] X.env=(false,fX e X.env)::dj [] X.env:=by rfl)(b:(gy cpos (dj [] X.env)).any (·.1)=false:=by rfl):
  EE cl X (.Expr (.Call (.Attribute (.Name x px) "extend" apos) [e] [] cpos) pos) (aau i te):=
 PS.imp (Hr (JP lU FB Fz NL N (jl he mF k) c n f k b) G) λD S H M=>by
  let⟨T R F J own P,I,h,l⟩:=M;unfold aau at h;split at h
  .rename_i m O;obtain⟨p,o,B,w,E,us,rfl,u⟩:=I.e.aN i _ O (by intro d z;cases z);refine⟨_,w,.inl ⟨rfl,_,rB.of E⟩,F,J,own,_,I.e,h,λv d C Q g r q=> ?_⟩;have s:=g.same _ _ E;cases r with
   | @lst a j ds A t y=>refine⟨p,a,us,j,rfl,rfl,s,.inl (g.ext a _ A).rd,by rw[u.1,t];exact q.1,l.nx _ _ ⟨C,_,own,(I.grow g).chg i (l:= .ol (m++ds)) B w ⟨us++j,rfl,(iE.mono g.le u).append ⟨t,y⟩⟩,q.2⟩⟩
   | @tup a j ds A t y=>refine⟨p,a,us,j,rfl,rfl,s,.inr (g.ext.tup A),by rw[u.1,t];exact q.1,l.nx _ _ ⟨C,_,own,(I.grow g).chg i (l:= .ol (m++ds)) B w ⟨us++j,rfl,(iE.mono g.le u).append ⟨t,y⟩⟩,q.2⟩⟩
   |_=>exact eZ q
  .exact h.elim
end
def HK(d:D):Prop:= ∃k:NK,d=vj k/\k.depth<=6
section
def tw(c:A.units+8<jc)(hd:x.depth<=6)(a:yk s.heap x u)(b:yk s.heap y v):zH A s u v (decide (x=y)):=AF 6 A s x y u v hd (by lia) a b
def MQ(I:A.units+9<jc)(hd:NK.ae l<=5)(z:yk s.heap (.tup l) (.ref a))(G:yk s.heap (.tup m) (.ref b))(h:Q (.bool (decide (l=m))) s):dR (dZ prog w) A (gH .Eq (.ref a) (.ref b)) Q E s:=by
 let⟨M o items q,p,n,r,B,g⟩:=z;let⟨J C c F,v,g1,g2,g3,i⟩:=G;cases p;cases v;have x:items.size= ~~~l:=by rw[~~~g,fB]
 have u:c.size= ~~~m:=by rw[~~~i,fB]
 refine SeqAt.eq_tupleAt ⟨o,n,r,q,B⟩ ⟨C,g1,g2,F,g3⟩ (by lia) (λj d f=> ?_) (by rw[x,u,Ez];exact h);have k:j< ~~~l:=by lia
 have H:j< ~~~m:=by lia
 have e:decide (l[j]?=m[j]?)=decide (l[j]=m[j]):=by
  simp_all
 rw[e];have t:=zb (by rw[fB];exact d) k g;have y:=zb (by rw[fB];exact f) H i;exact tw (by rw[pE];lia) (by have:=tz (nG k);lia) t y
end
section
def acg:R2:=λx y H Q=> ∃k m,NK.ae k<=5/\M4 H (.tup k) x/\M4 H (.tup m) y/\Q (.bl (decide (k=m))) H
def ZM(l:X.A.units+16<jc):tG X (gH .Eq) acg:=by intro pz s j H x y v u Q I c d h;let⟨k m,hd,e,f,q⟩:=h;have i:=vM I.ab e c;have g:=vM I.ab f d;let⟨a us,rfl,_⟩:=e;let⟨b n,rfl,_⟩:=f;cases c;cases d;exact MQ (by lia) hd i g ⟨.bl _,H,I,rfl,q⟩
noncomputable def aah:G2:=λx y Q=> ∃k m,x=vj (.tup k)/\y=vj (.tup m)/\NK.ae k<=5/\Q (.bl (decide (x=y)))
def aam:decide (vj (.tup k)=vj (.tup m))=decide (k=m):=by
 by_cases e:k=m
 .subst e;simp
 .rw[fj e,fj (λq=>e (by have:=qB q;injection this))]
def ZP:IK T acg aah:=λF H x y g i f Q e c d h k=>by let⟨a b,rfl,rfl,hd,q⟩:=h;exact⟨a,b,hd,x9 e _ _ c,x9 e _ _ d,k _ _ F H (fT.refl e) (.bl _) (by rw[<-aam];exact q)⟩
def RC(d:X.A.units+16<jc)(e:fI cl X a ta)(c:fI cl X b tb):ED cl X (.Compare a [.Eq] [b] pos) (rY (yz aah ta tb)):=gG (ZM d) ZP e c (fO _)
noncomputable def eN(h:iZ)(k:NK)(u:eA):Bool:= @decide (yk h k u) (sI _)
def Br(r:yk h k' u):eN h k u=decide (k'=k):=by
 unfold eN;by_cases e:k'=k
 .simp_all
 .rw[fj e,@fj _ (sI _) (λq=>e (yk.inj r q))]
theorem vL: ∀{c:List NK} {us:fM} {u:eA},qD h c us->u∈us-> ∃k,k∈c/\yk h k u
 | [],us,u,r,m=>by have d:=r;subst d;simp at m
 |k::c,us,u,r,m=>by
  let⟨v i,rfl,f,g⟩:=r;rcases eM.mp m with rfl|m
  .exact⟨k,fk ..,f⟩
  .obtain⟨e,a,b⟩:=vL g m;exact⟨e,eP _ a,b⟩
theorem MV: ∀{a:List NK} {us:fM},qD h a us->us.any (eN h k)=a.any λb=>decide (b=k)
 | [],us,r=>by have c:=r;subst c;rfl
 |b::a,us,r=>by let⟨v f,rfl,d,e⟩:=r;rw[iS,iS,MV e,Br d]
theorem KP: ∀{a:List NK} {us:fM},qD h a us->us.countP (eN h k)=a.countP λb=>decide (b=k)
 | [],us,r=>by have c:=r;subst c;rfl
 |b::a,us,r=>by let⟨v f,rfl,d,e⟩:=r;rw[qc,qc,KP e,Br d]
theorem DR: ∀{c:List NK} {us:fM} {j:Nat} {k:NK},qD h c us->c[j]?=some k-> ∃u,us[j]?=some u/\yk h k u
 | [],us,j,k,r,e=>by simp at e
 |f::c,us,0,k,r,e=>by
  let⟨v g,rfl,i,d⟩:=r
  simp_all
 |f::c,us,j+1,k,r,e=>by
  let⟨v g,rfl,i,d⟩:=r;let⟨(u),a,b⟩:=DR d (by simpa using e)
  simp_all
def Io(K:dh)(H:Hp)(p:eB)(a:List NK):Prop:= ∃us,rB K H p us/\EG H a us/\ ∀k∈a,k.depth<=6
def Ze(K:dh)(neg:Bool):R2:=λx y H Q=> ∃p b k,y= .ref p/\Io K H p b/\M4 H k x/\Q (.bl (if neg then !(b.any λa=>decide (a=k))else b.any λa=>decide (a=k))) H
def ZL(n:X.A.units+16<jc):tG X (gH .In) (Ze X.K false):=by
 intro pz s m H x y v u Q I g i h;obtain⟨p,t,k,rfl,⟨us,f,c,hd⟩,hk,q⟩:=h;cases i;let⟨(b),r,pl,hz⟩:=I.list f;have nk:=vM I.ab hk g;have a:=wJ I.ab c r;refine Vg (eN s.heap k) pl.isList (λo l=> ?_) ⟨.bl _,H,I,rfl,?_⟩
 .obtain⟨e,j,d⟩:=vL a (by simpa using l);rw[Br d];exact tw (by rw[pE];lia) (hd e j) d nk
 .rw[show b.toArray.any (eN s.heap k)=b.any (eN s.heap k)by simp,MV a];exact q
def Pp(n:X.A.units+16<jc):tG X (gH .NotIn) (Ze X.K true):=by
 intro pz s m H x y v u Q I g i h;obtain⟨p,t,k,rfl,⟨us,f,c,hd⟩,hk,q⟩:=h;cases i;let⟨(b),r,pl,hz⟩:=I.list f;have nk:=vM I.ab hk g;have a:=wJ I.ab c r;refine QI (eN s.heap k) pl.isList (λo l=> ?_) ⟨.bl _,H,I,rfl,?_⟩
 .obtain⟨e,j,d⟩:=vL a (by simpa using l);rw[Br d];exact tw (by rw[pE];lia) (hd e j) d nk
 .rw[show b.toArray.any (eN s.heap k)=b.any (eN s.heap k)by simp,MV a];exact q
theorem Cq: ∀{l:List D},(∀d∈l,HK d)-> ∃a:List NK,l=pC a/\ ∀k∈a,k.depth<=6
 | [],_=>⟨[],rfl,λk h=>by simp at h⟩
 |d::l,h=>by
  let⟨(k),rfl,hd⟩:=h d (fk ..);let⟨(a),rfl,hk⟩:=Cq λd hd=>h d (eP _ hd);refine⟨k::a,rfl,λc b=> ?_⟩;rcases eM.mp b with rfl|b
  .exact hd
  .exact hk c b
def aaL(k:NK): ∀b:List NK,(b.any λa=>decide (a=k))=decide (vj k∈pC b):=by
 intro b;induction b with
 |nil=>rfl
 |cons a b ih=>
  rw[iS,ih];show(decide (a=k)||_)=decide (vj k∈vj a::pC b);by_cases e:a=k
  .subst e;simp
  .have: ¬vj k=vj a:=λq=>e (qB q).symm
   simp_all
noncomputable def Tt(f:Bool->Bool):G2:=λx y Q=>match y with
 | .lst l=>HK x/\(∀d∈l,HK d)/\Q (.bl (f (decide (x∈l))))
 |_=>False
def Aw(e:oW F H)(r:wm T F H v (.lst (pC ks)))(hd: ∀k∈ks,k.depth<=6): ∃p,v= .ref p/\Io T.K H p ks:=by let⟨p us,rfl,s,r⟩:=qe r e;exact⟨p,rfl,us,s,HN e ks us r,hd⟩
def SC{b:Bool}{f:Bool->Bool}(m:f=if b then not else id):aaQ T (Ze T.K b) (Tt f):=λF H x y o r n Q e c g h k=>by
 subst m;unfold Tt at h;split at h
 .obtain⟨⟨a,rfl,l⟩,i,q⟩:=h;let⟨(j),rfl,hd⟩:=Cq i;let⟨(p),rfl,d⟩:=Aw e g hd;refine⟨p,j,a,rfl,d,x9 e a x c,k _ _ F H (fT.refl e) (.bl _) ?_⟩;rw[aaL];cases b<;>exact q
 .exact h.elim
def ZA(c:X.A.units+16<jc)(f:fI cl X a ta)(d:wo cl X b tb)(e:gv .In b=false:=by with_unfolding_all rfl):fI cl X (.Compare a [.In] [b] pos) (yz (Tt id) ta tb):=PE.imp (Hw (ZL c) f d e) λ_ _ _ h=>CM (SC rfl) h
def OZ(c:X.A.units+16<jc)(f:fI cl X a ta)(d:wo cl X b tb)(e:gv .NotIn b=false:=by with_unfolding_all rfl):ED cl X (.Compare a [.NotIn] [b] pos) (rY (yz (Tt not) ta tb)):=PT.imp (yX (Pp c) f d e) λ_ _ _ h=>CM (SC rfl) (oC h)
def VM(K:dh):V->List V->Hp->VK->Prop:=λx b H Q=> ∃p a y k j,x= .ref p/\b=[y]/\Io K H p a/\M4 H k y/\a[j]?=some k/\(∀m,m<j->a[m]?≠some k)/\Q (.int (j:Nat)) H
def PD(hu:X.A.units+16<jc):MtR X "list.index" (VM X.K):=by
 intro pz s σ H x xs v us Q I U G h;obtain⟨p,ks,y,k,j,rfl,rfl,⟨ws,R,o,hd⟩,hk,T,J,q⟩:=h;cases U;let⟨(uy),rfl,ry⟩:=gF.one G;obtain⟨b,r,⟨⟨cls,dd,data,P⟩,n,N,hc,Z,c⟩,hz⟩:=I.list R;subst hc c;have nk:=vM I.ab hk ry;have a:=wJ I.ab o r;let⟨(u),C,E⟩:=DR a T;let⟨(i),f⟩:=dH.mp C;have hl:= ~~~r;have Y:=dO;refine call_meets GT ⟨_,N,rfl⟩ PySem.F.entry_list_index (PySem.F.args_list_index_2 _ _)
  (SeqAt.list_indexAt p b.toArray n dd P uy (eN s.heap k) j (by simpa using i) (by lia) ?_ ?_) ⟨N,λu' l=> ?_,?_⟩
 .have g:b.toArray[j]=u:=by simpa using f
  rw[g,Br E];simp
 .intro m w B;have t:m< ~~~b:=by simpa using w
  have d:m< ~~~ks:=by rw[~~~a];exact t
  let⟨(S),g1,g2⟩:=DR a (df d);let⟨(_),e⟩:=dH.mp g1;have g:b.toArray[m]=S:=by simpa using e
  rw[g,Br g2];exact fj λz=>J m B (by rw[df d,z])
 .obtain⟨O,w,M⟩:=vL a (by simpa using l);rw[Br M];exact tw (by rw[pE];lia) (hd O w) M nk
 .exact⟨.int (j:Nat),H,I.tok _,⟨_,rfl⟩,q⟩
def VN(K:dh):V->List V->Hp->VK->Prop:=λx c H Q=> ∃p a y k,x= .ref p/\c=[y]/\Io K H p a/\M4 H k y/\Q (.int (a.countP λb=>decide (b=k):Nat)) H
def PF(M:X.A.units+16<jc):MtR X "list.count" (VN X.K):=by
 intro pz s J H x O v us Q I o g h;obtain⟨p,B,y,k,rfl,rfl,⟨G,m,f,hd⟩,hk,q⟩:=h;cases o;let⟨(z),rfl,u⟩:=gF.one g;obtain⟨a,r,⟨⟨cls,E,data,l⟩,n,j,C,t,c⟩,hz⟩:=I.list m;subst C c;have nk:=vM I.ab hk u;have b:=wJ I.ab f r;refine call_meets GU ⟨_,j,rfl⟩ PySem.F.entry_list_count (PySem.F.args_list_count_2 _ _)
  (SeqAt.list_countAt p a.toArray n E l z (eN s.heap k)) ⟨j,λN e=> ?_,?_⟩
 .obtain⟨d,w,i⟩:=vL b (by simpa using e);rw[Br i];exact tw (by rw[pE];lia) (hd d w) i nk
 .refine⟨.int (B.countP λd=>decide (d=k):Nat),H,I.tok _,⟨s.toks,?_⟩,q⟩;rw[show a.toArray.toList=a from rfl,KP b]
noncomputable def T8(b ty:ml):ml:=λa Q=>b a λx=>match x with
 | .lst l=>(∀d∈l,HK d)/\ty a λy=>HK y/\ ∃j,l[j]?=some y/\(∀m,m<j->l[m]?≠some y)/\Q (.int (j:Nat))
 |_=>False
noncomputable def Ub(b ty:ml):ml:=λa Q=>b a λx=>match x with
 | .lst l=>(∀d∈l,HK d)/\ty a λy=>HK y/\Q (.int (l.countP λd=>decide (d=y):Nat))
 |_=>False
def J7{a:List NK}{j:Nat}:(pC a)[j]?=a[j]?.map vj:=by rw[za,dX]
def Uk(k:NK): ∀a:List NK,(a.countP λb=>decide (b=k))=(pC a).countP λd=>decide (d=vj k):=by
 intro a;induction a with
 |nil=>rfl
 |cons b a ih=>
  show _=(vj b::pC a).countP _;rw[qc,qc,ih];by_cases e:b=k
  .subst e;simp
  .have: ¬vj b=vj k:=λq=>e (qB q)
   simp_all
def Sq(G:X.A.units+16<jc)(S:wo cl X a ta)(he:fI cl X e te)(c:hZ a "index" X.env (fX a X.env)=fX a X.env:=by rfl)
  (i:((gy cpos (dj [e] X.env)).all (λx=> !x.1)&&(xb cpos (pX [] X.env)).all (λx=>x.1.isSome)&&decide (([e]:List jG).length+([]:List pk).length+(if([]:List pk).isEmpty then 0 else 1)<30))=true:=by rfl)
  (f:(apos.endLine==cpos.line)=true:=by rfl)(g:dj [e] X.env=(false,fX e X.env)::dj [] X.env:=by rfl)(b:(gy cpos (dj [] X.env)).any (·.1)=false:=by rfl):
  fI cl X (.Call (.Attribute a "index" apos) [e] [] cpos) (T8 ta te):=
 PE.imp (JP lU GT PySem.F.type_list_index (PD G) S (jl he mF g) c i f g b) λY H Q R=>by
  let⟨F r own Z,I,t,k⟩:=R;refine⟨F,r,own,_,I,t,λv d P U g1 q l=> ?_⟩;split at l
  .obtain⟨N,l⟩:=l;let⟨(w),rfl,hd⟩:=Cq N;let⟨p us,rfl,s,_⟩:=qe q g1.ext;refine⟨.inl ⟨rfl,us,s⟩,P,r,own,_,I.grow g1,l,λu d2 M B g2 E n=> ?_⟩;obtain⟨⟨y,rfl,_⟩,j,h,o,n⟩:=n;let⟨(p'),C,J⟩:=Aw g2.ext (q.grow g2) hd;cases C;rw[J7]at h;refine⟨p,w,u,y,j,rfl,rfl,J,x9 g2.ext y u E,?_,λm O z=>o m O (by rw[J7,z];rfl),k _ _ M B (g1.trans g2) (.int _) n⟩;cases ej:w[j]? with
   |none=>rw[ej]at h;cases h
   |some T=>rw[ej]at h;rw[qB (ft h)]
  .exact l.elim
def Sw(w:X.A.units+16<jc)(J:wo cl X a ta)(he:fI cl X e te)(c:hZ a "count" X.env (fX a X.env)=fX a X.env:=by rfl)
  (h:((gy cpos (dj [e] X.env)).all (λx=> !x.1)&&(xb cpos (pX [] X.env)).all (λx=>x.1.isSome)&&decide (([e]:List jG).length+([]:List pk).length+(if([]:List pk).isEmpty then 0 else 1)<30))=true:=by rfl)
  (f:(apos.endLine==cpos.line)=true:=by rfl)(g:dj [e] X.env=(false,fX e X.env)::dj [] X.env:=by rfl)(b:(gy cpos (dj [] X.env)).any (·.1)=false:=by rfl):
  fI cl X (.Call (.Attribute a "count" apos) [e] [] cpos) (Ub ta te):=
 PE.imp (JP lU GU PySem.F.type_list_count (PF w) J (jl he mF g) c h f g b) λN H Q E=>by
  let⟨F m own O,I,t,k⟩:=E;refine⟨F,m,own,_,I,t,λv d C M g1 l i=> ?_⟩;split at i
  .obtain⟨B,i⟩:=i;let⟨(G),rfl,hd⟩:=Cq B;let⟨p us,rfl,s,_⟩:=qe l g1.ext;refine⟨.inl ⟨rfl,us,s⟩,C,m,own,_,I.grow g1,i,λn R z q g2 u j=> ?_⟩;obtain⟨⟨o,rfl,_⟩,j⟩:=j;let⟨(P),r,y⟩:=Aw g2.ext (l.grow g2) hd;cases r;exact⟨p,G,n,o,rfl,rfl,y,x9 g2.ext o n u,k _ _ z q (g1.trans g2) (.int _) (by rw[Uk];exact j)⟩
  .exact i.elim
def Ul{prog:fY}{w:iu}{A:i6}{E:gY}{s:dJ}{t b:eB}{g:fM}{Q:gY}(l:vv s.heap t #[])(m:vv s.heap b g.toArray)(j:Q (.ref b) s):dR (dZ prog w) A (nZ .Add (.ref t) (.ref b)) Q E s:=by
 obtain⟨⟨cls,q,data,k⟩,i,p,n,hd⟩:=id l;obtain⟨⟨h,d,data2,f⟩,a,c,o,e⟩:=id m;subst p hd c e;exact UV ⟨_,i,rfl⟩ ⟨_,a,rfl⟩ Iu QG uD tI (sH _ _)
  (tuple_addW0 t b #[] g.toArray n o q d k f rfl) ⟨i,a,j⟩
def X2:R2:=λx y H Q=> ∃a b c,x= .ref a/\y= .ref b/\H a=some (.tup [])/\H b=some (.tup c)/\Q (.ref b) H
def Wj:tG X (nZ .Add) X2:=by intro pz s n H x y v u Q I f j h;let⟨a b d,rfl,rfl,k,i,q⟩:=h;cases f;cases j;obtain⟨_,g,r,l⟩:=(show jM X.prog X.w H s.heap a (.tup [])from I.ab a _ k);obtain⟨_,c,m,e⟩:=(show jM X.prog X.w H s.heap b (.tup d)from I.ab b _ i);cases r;exact Ul l.tup e.tup ⟨.ref b,H,I,rfl,q⟩
def NX:G2:=λx y Q=>match x,y with
 | .tup l,.tup m=> ~~~l+ ~~~m<=eQ/\Q (.tup (l++m))
 |_,_=>False
def Wr:IK T (λx y H Q=>X0 T.K x y H Q\/X2 x y H Q) NX:=λF H x y u v t Q e d i h k=>by
 unfold NX at h;split at h
 .rename_i l m;let⟨a us,rfl,s,r⟩:=rS d;let⟨b g,rfl,f,c⟩:=rS i;by_cases hu:us=[]
  .subst hu;have o:=eY r.1.symm;subst o;exact .inr ⟨a,b,g,rfl,rfl,e.tup s,e.tup f,k _ _ F H (fT.refl e) i h.2⟩
  .refine .inl ⟨a,b,us,g,rfl,rfl,qJ.of (e.tup s),qJ.of (e.tup f),hu,by rw[r.1,c.1];exact h.1,λj=> ?_,λj p n=> ?_⟩
   .subst j;have q:=eY c.1.symm;subst q;exact k _ _ F H (fT.refl e) d (by have:=h.2;rwa [km]at this)
   .exact k _ _ _ _ (m8 e n (r.append c)).1 (m8 e n (r.append c)).2 h.2
 .exact h.elim
def Wa(d:fI cl X a ta)(c:fI cl X b tb):fI cl X (.BinOp a .Add b pos) (yz NX ta tb):=A8 (Wh.or Wj) Wr d c
end
section
variable {s:dJ}
noncomputable def lO(d:eB)(i n b:Nat)(a:eA)(x y:eA):Obj:={cls:= .type "dict_itemiterator",data:= .fields #[a,.bool false,.ref d,.int i 0,.int n 0,.int b 0,x,y]}
def PV(hit:s.heap.get? it=some (lO d i n ep .none x y))
  (t: ∀h',h'.get? it=some (lO d i n ep (.int s.heap.objs.size 0) key val)->h'.get? s.heap.objs.size=some {cls:= .type "tuple",data:= .seq #[key,val]}->(∀b o,b≠it->s.heap.get? b=some o->h'.get? b=some o)->Q (.ref s.heap.objs.size) {s with heap:=h'}):
  dR (dZ prog w) A (tR (.ref it) 6 key val) Q E s:=by
 obtain⟨a,g,M,tk,os⟩:=s;have lt:it<a.objs.size:=dD hit;have ne:a.objs.size≠it:=jx lt;refine c9 (M7 ?_);have f:(a.push {cls:= .type "tuple",data:= .seq #[key,val]}).get? it=some (lO d i n ep .none x y):=dc _ hit;have l:(a.push {cls:= .type "tuple",data:= .seq #[key,val]}).get? a.objs.size=some {cls:= .type "tuple",data:= .seq #[key,val]}:=dw _ rfl;have p: ∀b o,a.get? b=some o->(a.push {cls:= .type "tuple",data:= .seq #[key,val]}).get? b=some o:=λb o e=>dc _ e;generalize a.push {cls:= .type "tuple",data:= .seq #[key,val]}=h0 at f l p;refine c9 (m:=Vr (.ref it)) (c9 (jQ f rfl (x:= .none) rfl (de ?_)));refine c9 (jQ f rfl (x:=x) rfl (c9 (jQ f rfl (x:=y) rfl ?_)));refine c9 (iX f (by simp) λr H F=> ?_);have k:r.get? it=some (lO d i n ep .none key y):=H;refine c9 (iX k (by simp) λz J I=> ?_);have j:z.get? it=some (lO d i n ep .none key val):=J;refine c9 (iX j (by simp) λG u B=> ?_);have h:G.get? it=some (lO d i n ep (.int a.objs.size 0) key val):=u;refine c9 (iX h (by simp) λq v C=> ?_);have all: ∀b o,b≠it->h0.get? b=some o->q.get? b=some o:=λb o c e=>C.extBut b o c (B.extBut b o c (I.extBut b o c (F.extBut b o c e)));exact c9 (pW (de (t q v (all _ _ ne l) λb o c e=>all b o c (p b o e))))
def uc(h:s.heap.get? it=some (lO d i n ep o x y)):s.TypeIs (.ref it) "dict_itemiterator" :=⟨_,h,rfl⟩
def CT{α:Type}{R:α->dJ->Prop}(c:A.handled=none)(k: ∀h' p o,h'.get? p=some o->o.cls= .type "StopIteration" ->(∀b o,s.heap.get? b=some o->h'.get? b=some o)->E (.ref p) {s with heap:=h'}):dR (dZ prog w) A (UU (.type "StopIteration") []>>=λe=>(Xs e:Sem α)) R E s:=
 c9 (m:=UU _ _) (c9 (m:=newTuple _) (M7 (c9 (m:=agl _ _) (rD (a:=mw) rfl (gq (wpAny_raiseNew_none c (k _ _ _ (dw _ rfl) rfl λb o q=>dc _ (dc _ q))) (by size_fits))))))
theorem acu:iR "dict_itemiterator" =true:=by decide
def Gu{b d:eB}{i n j:Nat}{x y:eA}{od:xG}{c:ur}{R:B9->dJ->Prop}(hit:s.heap.get? b=some (lO d i n j .none x y))(g:s.heap.get? d=some od)(f:od.data= .dict c j)(hsz:c.size=n)
  (go: ∀en a,c[i]?=some en->a.get? b=some (lO d (i+1) n j .none x y)->ic b s.heap a->dR (dZ prog w) A (tR (.ref b) 6 en.key en.val) (λv k=>R (.done (.ret v)) k) E {s with heap:=a})
  (stop: ∀a,c[i]?=none->ic b s.heap a->dR (dZ prog w) A (UU (.type "StopIteration") []>>=λe=>(Xs e:Sem B9)) R E {s with heap:=a}):dR (dZ prog w) A (Builtin.«dict_itemiterator.__next__» ⟨[.ref b],[]⟩) R E s:=by
 have ty:=uc hit;have neg: ¬(i:Int)<0:=by lia
 subst hsz;refine c9 (de (c9 (c9 (c9 (qZ ty (de (c9 (AN hit rfl ?_))))))));refine c9 (m:=mm (.ref d)) (de (c9 (lW g f ?_)));simp only[vo,eW,hJ];refine c9 (m:=mm (.ref d)) (de (c9 (ng g f ?_)));simp only[vo,eW,hJ];refine de ?_;dsimp only[di neg,tQ];cases e:c[i]? with
 |some en=>refine c9 (c9 (qZ ty (de (c9 (ym ty (c9 (m:=uB (.ref b) 3 (wx ((i:Int)+1))) (iX hit (by simp) λa g1 l=>c9 (iF ?_))))))));have g2:a.get? b=some (lO d (i+1) c.size j .none x y):=g1;have h:=uc (s:={s with heap:=a}) g2;exact c9 (ym h (c9 (ym h (iK (go en a e g2 l) (λv k q=>de q) λ_ _ q=>q))))
 |none=>exact c9 (c9 (qZ ty (de (c9 (m:=uB (.ref b) 2 .none) (uz hit rfl (by simp) (stop _ e (mP ..)))))))
def Gv{c d:eB}{i n j:Nat}{f x y:eA}{Q:Option eA->dJ->Prop}(hit:s.heap.get? c=some (lO d i n j f x y))(h:dR (dZ prog w) A.in1 (Builtin.«dict_itemiterator.__next__» ⟨[.ref c],[]⟩) (λfin a=> ∃v,fin= .done (.ret v)/\Q (some v) a) (λe a=> ∃p o,e= .ref p/\a.heap.get? p=some o/\o.cls= .type "StopIteration" /\Q none a) s):dR (dZ prog w) A (mX (.ref c)) Q E s:=
 c9 (m:=QJ _) (wu (jq (name:=rK "__next__") (uc hit) rh (iG rh (uc hit) F.entry_dict_itemiterator_next (iK h (λ_ _ g=>by let⟨(v),l,q⟩:=g;exact⟨v,l,de q⟩) λe a g=>by let⟨p o,k,r,u,t⟩:=g;exact k▸c9 (oq (T:= "StopIteration") (b:=true) ⟨o,r,u⟩ AQ (de t))) (F.args_dict_itemiterator_next_1 _))))
def Py(hit:s.heap.get? it=some (lO d i n ep .none x y))(e:s.heap.get? d=some od)(c:od.data= .dict es ep)(hsz:es.size=n)(k:es[i]?=some en)
  (l: ∀h',h'.get? it=some (lO d (i+1) n ep (.int s.heap.objs.size 0) en.key en.val)->h'.get? s.heap.objs.size=some {cls:= .type "tuple",data:= .seq #[en.key,en.val]}->(∀b o,b≠it->s.heap.get? b=some o->h'.get? b=some o)->Q (some (.ref s.heap.objs.size)) {s with heap:=h'}):
  dR (dZ prog w) A (mX (.ref it)) Q E s:=by
 refine Gv hit (Gu hit e c hsz (λr a q g1 g=> ?_) λa q=>absurd (k.symm.trans q) nofun);cases k.symm.trans q;have z:a.objs.size=s.heap.objs.size:=g.1;refine PV (s:={s with heap:=a}) g1 λm h f p=>⟨_,rfl,?_⟩;rw[z]at h f⊢;exact l m h f λb o j q=>p b o j (g.extBut b o j q)
def TU(m:A.handled=none)(hit:s.heap.get? it=some (lO d i n ep .none x y))(f:s.heap.get? d=some od)(a:od.data= .dict es ep)(hsz:es.size=n)(e:n<=i)
  (k: ∀h',OB it s.heap h'->Q none {s with heap:=h'}):dR (dZ prog w) A (mX (.ref it)) Q E s:=
 Gv hit (Gu hit f a hsz (λt j q=>absurd (q.symm.trans (o6 (hsz▸e))) nofun) λj _ r=>CT m λl p o g c x=>⟨p,o,rfl,g,c,k l λb h n q=>x b h (r.extBut b h n q)⟩)
def shown{d:eB}(hd:(d==ir)=false):sN d=pure ():=di (by rw[hd];exact dY)
def Ki(d:eB)(hd:(d==ir)=false):MeetsIn prog w (Builtin.«dict.items» ⟨[.ref d],[]⟩) (λ_ R s=>s.TypeIs (.ref d) "dict" /\R (.ok (.ret (.ref s.heap.objs.size))) {s with heap:=s.heap.push {cls:= .type "dict_items",data:= .fields #[.ref d]}}):=
 .of_wp λA R s a=>by let⟨ty,h⟩:=a;exact c9 (m:=FH _ _) (c9 (qK ty (de (c9 (rD (shown hd) (c9 (gq (de ⟨_,rfl,h⟩))))))))
def D4(c:s.heap.get? v=some {cls:= .type "dict_items",data:= .fields #[.ref d]})(a:s.heap.get? d=some od)(b:od.data= .dict es ep)
  (e:Q (.ref s.heap.objs.size) {s with heap:=s.heap.push (lO d 0 es.size ep .none .none .none)}):dR (dZ prog w) A (yn (.ref v)) Q E s:=by
 have ty:s.TypeIs (.ref v) "dict_items" :=⟨_,c,rfl⟩;refine vk ty QQ (iG QQ ty F.entry_dict_items_iter ?_ (F.args_dict_items_iter_1 _));refine c9 (de (c9 (m:=xg (.ref v)) (c9 (jQ c rfl (x:= .ref d) rfl (de ?_)))));refine c9 (m:=u7 "dict_itemiterator" d) (c9 (lW a b (c9 (ng a b ?_))));rw[show iR "dict_itemiterator" =true by decide];refine gq (de ⟨_,rfl,"dict_itemiterator",_,⟨_,dw _ rfl,rfl⟩,rh.lookup,?_⟩) (by simp[sizeOk,Vs,dO]);lia
end
def QC(d:eB)(o:xG)(a:List (List NK×V)):It:=
 ⟨λi H=>H d=some (.frz o (.dT a))/\i< ~~~a,λi H x b=> ∃t k v q,a[i]?=some (k,v)/\x= .ref t/\H t=none/\TupAt H q k/\b=upd H t (.tup [.ref q,v]),λi H=>H d=some (.frz o (.dT a))/\ ~~~a<=i⟩
section
def Inv.bB(I:Inv X pz σ H s)(h:H d=some (.frz o (.dT kvs))):(d==ir)=false/\s.heap.get? d=some o/\o.ExactDict/\ ∃(a:ur) (c:Nat),o.data= .dict a c/\a.size= ~~~kvs/\
  ∀(i:Nat) (k:List NK) (v:V),kvs[i]?=some (k,v)-> ∃(en:pY) (q:eB),a[i]?=some en/\en.key= .ref q/\TupAt H q k/\RelV v en.val:=by
 obtain⟨hd,z,j,x,pr,w,a,c,g,m,f,he,_⟩:=I.ab d _ h;rw[hd]at g;cases g;refine⟨j,hd,m,a,c,f,?_,λi k v e=> ?_⟩
 .have u:=La he;have t:=jS pr;lia
 .obtain⟨b,l,r,n,p⟩:=xT pr e;have q:=agm he i;rw[l]at q;exact⟨_,b.2.1,q,rfl,n,p⟩
end
section
variable {K:dh}
def Jo(f:eB)(r:o.data= .dict es ep):
  yi P w K (.Tuple elts kk tpos) (QC d o kvs) [f] f (λi h=> ∃x y,h.get? f=some (lO d i (~~~kvs) ep .none x y)) where
 mem:=by simp
 obj:=λi h st b c=>by
  have e:b=f:=by simpa using c
  subst e;let⟨x y,e⟩:=st;exact⟨_,e,λv z=>nomatch z⟩
 keep:=λi h h' st k=>let⟨x,y,e⟩:=st;⟨x,y,k f (by simp) _ e⟩
 item:=by
  intro X R U M T i pz s O H E I t st C;let⟨hd,F⟩:=C;obtain⟨hs,g,hx,u,B,a,hsz,j⟩:=Inv.bB I hd;let⟨rfl,rfl⟩:=rX r a;obtain⟨⟨k,v⟩,n⟩: ∃p,kvs[i]?=some p:=⟨kvs[i],df F⟩;let⟨en q,J,l,Y,rv⟩:=j i k v n;let⟨x y,he⟩:=st;have m:=dD he;refine Py he g a hsz J λh' a1 a2 a3=>⟨_,rfl,?_⟩;refine Li a1 λS b1 N=> ?_;have tt:=(N.2 _ (jx m)).trans a2;have new:jM X.prog X.w (upd H s.heap.objs.size (.tup [.ref q,v])) S s.heap.objs.size (.tup [.ref q,v]):=⟨by show 2<=eQ;decide,[en.key,en.val],.cons l (.cons rv .nil),⟨_,tt,rfl,_,rfl,rfl⟩⟩;have I1:Inv X pz O (upd H s.heap.objs.size (.tup [.ref q,v])) {s with heap:=S}:=
   I.au (λb G c e=>(N.2 b (by simpa using c)).trans (a3 b G (by simpa using c) e)) t (dI _) new
  refine⟨.ref s.heap.objs.size,_,I1,rfl,⟨_,k,v,q,n,rfl,I.ab.fresh (dI _),Y,rfl⟩,⟨en.key,en.val,b1⟩,λb c=> ?_⟩;have e:b=f:=by simpa using c
  rw[e,d9 (eG m)];exact(t f (by simp)).1
 done:=by intro X R U M T i pz s O H E I t st C;subst R U M;let⟨hd,F⟩:=C;let⟨f0,f1,f2,f3,f4,Z⟩:=t f (by simp);obtain⟨hs,g,hx,u,B,a,hsz,j⟩:=Inv.bB I hd;let⟨rfl,rfl⟩:=rX r a;let⟨x y,he⟩:=st;exact TU (I.ok.hd T) he g a hsz F λh' eb=>⟨rfl,I.turned (λb G c e=>eb b G c e) f0 f1 f3 f4 Z⟩
 self:=λA i s Q E st h=>let⟨_,_,e⟩:=st;QK e h
end
def Yv(H00 b:Hp)(d:eB)(R:It->Hp->Prop):Prop:=
 (∃o a,b d=some (.frz o (.dK a))/\R (Iti d o a) b)\/(∃o a,b d=some (.frz o (.dT a))/\R (QC d o a) b)\/
  (∃a,b d=some (.dK a)/\ ∀o,(∀e c,H00 d≠some (.frz e c))->R (Iti d o a) (upd b d (.frz o (.dK a))))\/
  ∃a,b d=some (.dT a)/\ ∀o,(∀e c,H00 d≠some (.frz e c))->R (QC d o a) (upd b d (.frz o (.dT a)))
def WH(H00:Hp)(a:TE):TI:=λc H R=>a c H λx b=> ∃d,x= .ref d/\Yv H00 b d R
section
def Kh(i:Inv X pz σ H1 s1)
  (h:(∃e,H1 d=some (.frz o (.dK e))/\R (Iti d o e) H1)\/ ∃e,H1 d=some (.frz o (.dT e))/\R (QC d o e) H1):
  (d==ir)=false/\s1.TypeIs (.ref d) "dict" /\(∀a,eD d= .ref a-> ∃k,s1.heap.get? a=some k/\k.dict=none)/\
   dR (dZ X.prog X.w) X.A (yn (.ref s1.heap.objs.size)) (PIE X pz σ (.Tuple elts kk tpos) R) X.xe {s1 with heap:=s1.heap.push {cls:= .type "dict_items",data:= .fields #[.ref d]}}:=by
 have l:Inv X pz σ H1 {s1 with heap:=s1.heap.push {cls:= .type "dict_items",data:= .fields #[.ref d]}}:=i.kept λb k q=>dc _ q;rcases h with⟨e,hd,q⟩|⟨e,hd,q⟩
 .obtain⟨j,c,g,p,n,s,f,hsz,r,t⟩:=i.bc hd;refine⟨j,⟨o,c,g.1⟩,λa z=>by cases z;exact⟨o,c,g.2.1⟩,?_⟩;refine D4 (dw _ rfl) (dc _ c) f (Dn l _ (LF _ f) ⟨.none,.none,?_⟩ q);rw[<-hsz];exact dw _ rfl
 .obtain⟨j,c,g,p,n,f,hsz,m⟩:=Inv.bB i hd;refine⟨j,⟨o,c,g.1⟩,λa z=>by cases z;exact⟨o,c,g.2.1⟩,?_⟩;refine D4 (dw _ rfl) (dc _ c) f (Dn l _ (Jo _ f) ⟨.none,.none,?_⟩ q);rw[<-hsz];exact dw _ rfl
def Gf(he:PE X e td)(f:hZ e "items" X.env (fX e X.env)=fX e X.env:=by rfl)(g:(apos.endLine==cpos.line)=true:=by rfl):
  PI X (.Tuple elts kk tpos) (.Call (.Attribute e "items" apos) [] [] cpos) (WH X.bE td):=by
 intro pz s n H R I h;refine vn (T:= "dict") (id:= "dict.items") f rfl g YF YD F.type_dict_items (jo (he pz s n H _ I h) λu t v=> ?_);obtain⟨x,m,j,p,d,ex,hd⟩:=v;subst ex;obtain rfl:u=eD d:=p;have k: ∃o i,Inv X pz n i t/\((∃c,i d=some (.frz o (.dK c))/\R (Iti d o c) i)\/ ∃c,i d=some (.frz o (.dT c))/\R (QC d o c) i):=by
  rcases hd with⟨o,c,a,b⟩|⟨o,c,a,b⟩|⟨c,a,b⟩|⟨c,a,b⟩
  .exact⟨o,m,j,.inl ⟨c,a,b⟩⟩
  .exact⟨o,m,j,.inr ⟨c,a,b⟩⟩
  .obtain⟨o,l⟩:=j.lock a trivial;exact⟨o,_,l,.inl ⟨c,eR,b o (j.bz a trivial)⟩⟩
  .obtain⟨o,l⟩:=j.lock a trivial;exact⟨o,_,l,.inr ⟨c,eR,b o (j.bz a trivial)⟩⟩
 let⟨o i,l,q⟩:=k;let⟨r,ty,w,fin⟩:=Kh (elts:=elts) (kk:=kk) (tpos:=tpos) l q;refine⟨ty,w,?_⟩;exact agi YD F.entry_dict_items rfl (Ou ⟨rfl,ty,F.args_dict_items_1 _,_,Ki d r,ty,fin⟩)
end
def Xg(H00:Hp)(Q:Hp->Prop)(H:Hp):Prop:=Q H\/ ∃d od u,H d=some (.frz od u)/\(∀b a,H00 d≠some (.frz b a))/\Q (upd H d u)
def aeQ(H00:Hp)(t:TS):TS:=λD b H=>t ⟨λa=>Xg H00 (D.nx a),λv=>Xg H00 (D.rt v),λa=>Xg H00 (D.bk a),λa=>Xg H00 (D.ct a)⟩ b H
def abP(H00:Hp)(t:TE):TE:=λa H Q=>t a H λv=>Xg H00 (Q v)
section
def yQ(I:Inv X pz σ H s)(h:Xg X.bE Q H): ∃a,Inv X pz σ a s/\Q a:=by
 rcases h with h|⟨d,od,u,b,c,e⟩
 .exact⟨H,I,h⟩
 .exact⟨_,I.unlock b c,e⟩
def LU{st:o4}{t:TS}(h:PS X st t):PS X st (aeQ X.bE t):=λpz s j H D I q=>by
 refine jo (h pz s j H _ I q) λf k z=> ?_;cases f with
 |next=>let⟨a i,c,d⟩:=z;let⟨(b),g,e⟩:=yQ c d;exact⟨a,b,g,e⟩
 |brk=>let⟨a i,c,d⟩:=z;let⟨(b),g,e⟩:=yQ c d;exact⟨a,b,g,e⟩
 |cont=>let⟨a i,c,d⟩:=z;let⟨(b),g,e⟩:=yQ c d;exact⟨a,b,g,e⟩
 |ret u=>let⟨v a i,c,r,d⟩:=z;let⟨(b),g,e⟩:=yQ c d;exact⟨v,a,b,g,r,e⟩
def Zq(h:PE X e t):PE X e (abP X.bE t):=λpz s d H Q I q=>by refine jo (h pz s d H _ I q) λu k g=> ?_;let⟨v j,b,r,c⟩:=g;let⟨(a),i,f⟩:=yQ b c;exact⟨v,a,i,r,f⟩
end
section
variable {T:qj}
def sC(F H:Hp):Hp:=λa=>match F a with
 |some o=>some o
 |none=>match H a with
  |some (.tup us)=>some (.tup us)
  |_=>none
def Eo(e:oW F H)(h:H a=some (.tup us)):sC F H a=some (.tup us):=by
 unfold sC;cases ef:F a with
 |none=>rw[h]
 |some o=>
  rcases e a o ef with z|⟨_,b,z⟩
  .grind
  .grind
def Bp(e:oW F H):fT F H (sC F H) H:=by
 refine⟨λa o h=>by unfold sC;rw[h],λa n=> ?_,qk.refl H,λa o h=> ?_⟩
 .unfold sC;cases ef:F a with
  |some o=>exact .inl rfl
  |none=>
   cases eh:H a with
   |none=>exact absurd eh n
   |some o=>
    cases o with
    |tup us=>exact .inr ⟨us,rfl,rfl⟩
    |_=>exact .inl rfl
 .unfold sC at h;cases ef:F a with
  |some u=>rw[ef]at h;cases h;exact e a _ ef
  |none=>
   rw[ef]at h;cases eh:H a with
   |none=>rw[eh]at h;cases h
   |some u=>
    cases u with
    |tup us=>rw[eh]at h;cases h;exact .inl eh
    |_=>rw[eh]at h;cases h
mutual
theorem Nq(e:oW F H): ∀(k:NK) (v:V),M4 H k v->k7 T (sC F H) v (vj k)
 | .int i,v,h=>by have h':v= .int i:=h;rw[h'];exact .int i
 | .tup l,v,h=>by let⟨a us,rfl,h1,h2⟩:=h;have r:=Gc e l us h2;exact .tup (Eo e h1) r.1 r.2
theorem Gc(e:oW F H): ∀(k:List NK) (v:List V),EG H k v->iE T (sC F H) v (pC k)
 | [],v,h=>by have h':v=[]:=h;rw[h'];exact fh.nil
 |k::ks,v,h=>by let⟨u r,rfl,h1,h2⟩:=h;exact fh.cons (Nq e k u h1) (Gc e ks r h2)
end
def pD(l:List (D×D)):List D:=l.map λq=> .tup [q.1,q.2]
def only(d:eB)(o:HO):Hp:=λb=>if b=d then some o else none
def wI(h:H d=some o):qk (only d o) H:=λb u e=>by
 unfold only at e
 simp_all
def ya(r:fh (RT T F) kvs l):M5 T (QC d o kvs) F (only d (.frz o (.dT kvs))) (pD l):=by
 intro i m f le e j;have hd:=j d _ (by unfold only;rw[dq rfl]);have len:(pD l).length= ~~~kvs:=by rw[pD,dA,r.1]
 refine⟨λu=>⟨⟨hd,by lia⟩,?_⟩,λu=>⟨hd,by lia⟩⟩;rintro x y ⟨t,k,v,q,a,rfl,h,c,rfl⟩;let⟨(p),g,s,w⟩:=r.getL a;have g1:=Bp e;have rk:=Nq (T:=T) e _ _ c.2;have n:iE T (sC m f) [.ref q,v] [p.1,p.2]:=fh.cons (by rw[s];exact rk) (fh.cons ((w.mono le).mono g1.le) fh.nil);have b:=m8 g1.ext h n;exact⟨_,_,g1.trans b.1,by rw[pD,dX,g];rfl,b.2⟩
def yb(r:fh (RK T F) kvs l):M5 T (Iti d o kvs) F (only d (.frz o (.dK kvs))) (pD l):=by
 intro i j y le e h;have hd:=h d _ (by unfold only;rw[dq rfl]);have len:(pD l).length= ~~~kvs:=by rw[pD,dA,r.1]
 refine⟨λq=>⟨⟨hd,by lia⟩,?_⟩,λq=>⟨hd,by lia⟩⟩;rintro x w ⟨t,k,v,b,rfl,g,rfl⟩;obtain⟨p,f,⟨z,n,s⟩,u⟩:=r.getL b;have a:=n;subst a;have m:iE T j [kV (.inl z),v] [p.1,p.2]:=fh.cons (by rw[s];exact .int z) (fh.cons (u.mono le) fh.nil);have c:=m8 e g m;exact⟨_,_,c.1,by rw[pD,dX,f];rfl,c.2⟩
def lq.lock(I:lq T F δ σ H own)(f:F d=some u)(g:lk u=true):lq T F δ σ (L2.upd H d (.frz od u)) own:=by
 have no: ∀i,own i≠some d:=λi z=>by rw[I.free i d z]at f;cases f
 refine⟨λa o e=> ?_,I.len,I.val,λi l e n=> ?_,I.free,λi p e=> ?_,I.inj⟩
 .by_cases z:a=d
  .subst z;rw[f]at e;cases e;exact .inr ⟨g,od,eR⟩
  .unfold Lh;rw[d9 z];exact I.ext a o e
 .obtain⟨p,o,a,b,c,x⟩:=I.aN i l e n;exact⟨p,o,a,b,by rw[d9 (λz=>no i (by rw[<-z];exact a))];exact c,x⟩
 .obtain⟨o,a,b⟩:=I.there i p e;exact⟨o,by rw[d9 (λz=>no i (by rw[<-z];exact e))];exact a,b⟩
def lq.unlock(I:lq T F δ σ H own)(f:F d=some u):lq T F δ σ (L2.upd H d u) own:=by
 have no: ∀i,own i≠some d:=λi z=>by rw[I.free i d z]at f;cases f
 refine⟨λa o e=> ?_,I.len,I.val,λi l e n=> ?_,I.free,λi p e=> ?_,I.inj⟩
 .by_cases z:a=d
  .subst z;rw[f]at e;cases e;exact .inl eR
  .unfold Lh;rw[d9 z];exact I.ext a o e
 .obtain⟨p,o,a,b,c,x⟩:=I.aN i l e n;exact⟨p,o,a,b,by rw[d9 (λz=>no i (by rw[<-z];exact a))];exact c,x⟩
 .obtain⟨o,a,b⟩:=I.there i p e;exact⟨o,by rw[d9 (λz=>no i (by rw[<-z];exact e))];exact a,b⟩
def Bm(h:H d=some u)(f:F d=some u)(i: ∀us,u≠ .tup us)(c: ∀b o,H b=some o->b≠d->Hl b=some o)(hd:Hl d=some (.frz od u))(g:fT F Hl F' H'):fT F H F' (L2.upd H' d u):=by
 refine⟨g.le,λa n=> ?_,λb o e=> ?_,λa o e=> ?_⟩
 .cases ea:H a with
  |none=>exact absurd ea n
  |some o=>
   by_cases z:a=d
   .subst z;refine .inl ?_;rw[g.le _ _ f,f]
   .have q:=g.old a (by rw[c a o ea z];simp);rw[c a o ea z]at q;exact q
 .by_cases z:b=d
  .subst z;rw[h]at e;cases e;exact eR
  .rw[d9 z];exact g.same b o (c b o e z)
 .by_cases z:a=d
  .subst z;rw[g.le _ _ f]at e;cases e;exact .inl eR
  .unfold Lh;rw[d9 z];exact g.ext a o e
end
section
def uv(T:qj)(F:Hp)(d:eB)(u:HO)(l:List (D×D)):Prop:=(∃a,u= .dK a/\fh (RK T F) a l)\/ ∃a,u= .dT a/\fh (RT T F) a l
def uv.of(r:k7 T F v (.dic t l)): ∃d u,v= .ref d/\F d=some u/\uv T F d u l:=by
 cases r with
 | @dK a b l h e hk c=>exact⟨a,_,rfl,h,.inl ⟨b,rfl,e,λi p q x y=>⟨hk i p q x y,c i p q x y⟩⟩⟩
 | @dT a b l h e hk c=>exact⟨a,_,rfl,h,.inr ⟨b,rfl,e,λi p q x y=>⟨hk i p q x y,c i p q x y⟩⟩⟩
def uv.lk(h:uv T F d u l):lk u=true/\ ∀us,u≠ .tup us:=by
 rcases h with⟨a,rfl,_⟩|⟨a,rfl,_⟩
 .exact⟨rfl,λus z=>by cases z⟩
 .exact⟨rfl,λus z=>by cases z⟩
def uv.start(h:uv T F d u l)(e:Lh H1 d u)
  (f: ∀J od,H1 d=some (.frz od u)->M5 T J F (only d (.frz od u)) (pD l)->R J H1)
  (c: ∀J od,H1 d=some u->(∀o' u',H00 d≠some (.frz o' u'))->M5 T J F (only d (.frz od u)) (pD l)->R J (L2.upd H1 d (.frz od u))):
  Yv H00 H1 d R:=by
 rcases h with⟨a,rfl,r⟩|⟨a,rfl,r⟩
 .rcases e with e|⟨_,od,e⟩
  .exact .inr (.inr (.inl ⟨a,e,λo b=>c _ o e b (yb r)⟩))
  .exact .inl ⟨od,a,e,f _ od e (yb r)⟩
 .rcases e with e|⟨_,od,e⟩
  .exact .inr (.inr (.inr ⟨a,e,λo b=>c _ o e b (ya r)⟩))
  .exact .inr (.inl ⟨od,a,e,f _ od e (ya r)⟩)
def PR(I:pP T F0 H0 F δ σ H own)(a:F d=some u)(l:lk u=true)(f: ∀us,u≠ .tup us)(hd:H d=some u):
  pP T F (oJ (L2.upd H d (.frz od u)) own) F δ σ (L2.upd H d (.frz od u)) own/\oJ (L2.upd H d (.frz od u)) own d=some (.frz od u)/\
   (∀h c,fT F (oJ (L2.upd H d (.frz od u)) own) h c->fT F0 H0 h (L2.upd c d u))/\(∀p,oJ (L2.upd H d (.frz od u)) own p=none->H0 p=none):=by
 have no: ¬ ∃i,own i=some d:=λm=>by let⟨(i),z⟩:=m;rw[I.e.free i d z]at a;cases a
 have j:=I.e.lock (od:=od) a l;have dl:oJ (L2.upd H d (.frz od u)) own d=some (.frz od u):=by rw[kO no];exact eR
 let⟨_,n,k,_⟩:=I.rebase;refine⟨⟨j,⟨Le.refl _,λ_ _=> .inl rfl,λb o e=> ?_,j.ext⟩,λi p e=>pB ⟨i,e⟩⟩,dl,λh c g=>n _ _ (Bm (by rw[kO no];exact hd) a f (λb o e z=> ?_) dl g),λp e=>k p ?_⟩
 .by_cases z: ∃i,own i=some b
  .rw[pB z]at e;cases e
  .rw[kO z]at e;exact e
 .by_cases y: ∃i,own i=some b
  .rw[pB y]at e;cases e
  .rw[kO y]at e⊢;rw[d9 z];exact e
 .by_cases y: ∃i,own i=some p
  .exact pB y
  .rw[kO y]at e⊢;by_cases z:p=d
   .subst z;rw[eR]at e;cases e
   .rw[d9 z]at e;exact e
def Ic(te:ml):Qz:=λa Q=>te a λd=>match d with
 | .dic _ l=>Q (pD l)
 |_=>False
def tY(T:IA (dZ X.prog X.w) X.A X.env X.xe)(hc:X.calm=true)(he:fI cl X e td)(hg:Xh cl X (.Tuple elts kk tpos) g vs)(hb:AL cl X body tb)
  (c:hZ e "items" X.env (fX e X.env)=fX e X.env:=by rfl)(f:(apos.endLine==cpos.line)=true:=by rfl)(hs: ∀x,iO (.Call (.Attribute e "items" apos) [] [] cpos) X.env x=pure x:=by intro _;rfl):
  EE cl X (.For (.Tuple elts kk tpos) (.Call (.Attribute e "items" apos) [] [] cpos) body [] pos) (aat (Ic td) g tb):=
 PS.imp (LU (LV T hc (Gf he c f) hg hb hs)) λD j H o=>by
  obtain⟨F0,Y,F,δ,own,DD,I,h,l⟩:=o;refine⟨F,δ,own,_,I.e,h,λv d F1 R g1 Z y=> ?_⟩;have C:=I.grow g1;split at y
  .rename_i t m;let⟨d u,rfl,k,E⟩:=uv.of Z;refine⟨d,rfl,E.start (g1.ext d u k) (λJ od hd M=> ?_) (λJ od hd s M=> ?_)⟩
   .obtain⟨O,S,h2,h3⟩:=C.rebase;have no: ∀i,own i≠some d:=λi z=>by rw[C.e.free i d z]at k;cases k
    have B:=l.rebase S h2;exact Ep O M (wI (h3 d _ hd no)) y ⟨λj H z=> .inl (B.nx j H z),λv H z=> .inl (B.rt v H z),λj H z=> .inl (B.bk j H z),λj H z=> .inl (B.ct j H z)⟩
   .obtain⟨O,dl,Q,ap⟩:=PR C k E.lk.1 E.lk.2 hd;have fin: ∀{P:En->Prop} {a:L2.St} {b:Hp},At (qb X cl) F1 (oJ (L2.upd R d (.frz od u)) own) P a b->b d=some (.frz od u)/\At (qb X cl) F0 Y P a (L2.upd b d u):=λo=>by let⟨N G n,r,p⟩:=o;exact⟨r.g.same _ _ dl,N,G,n,⟨r.e.unlock (r.g.le _ _ k),Q _ _ r.g,λi q e=>ap q (r.ap i q e)⟩,p⟩
    refine Ep O M (wI dl) y ⟨λa b z=> .inr ⟨d,od,u,(fin z).1,s,l.nx _ _ (fin z).2⟩,λv b o=>by let⟨N x,g2,U,p⟩:=o;exact .inr ⟨d,od,u,g2.same _ _ dl,s,l.rt _ _ ⟨N,x,Q _ _ g2,U,p⟩⟩,λa b z=> .inr ⟨d,od,u,(fin z).1,s,l.bk _ _ (fin z).2⟩,λa b z=> .inr ⟨d,od,u,(fin z).1,s,l.ct _ _ (fin z).2⟩⟩
  .exact y.elim
end
def abV(g:TG)(tt:TT)(te:TE)(f:dE)(j:L2.St)(Q:VK)(J:It)(h:Hp):Prop:= ∀D,h D=none-> ∃W:Nat->Nat->Hp->Prop,(∃m,W 0 m (upd h D (.lst [])))/\ ∀i m H,W i m H->
 (J.stop i H/\Q (.ref D) H)\/(J.go i H/\ ∃e:Hp->Prop,(∀d,e d-> ∃m',m'<m/\W (i+1) m' d)/\ ∀x d,J.bY i H x d->g x (wipe j f) d λc n=>wipe c f=wipe j f/\tt c n λb l=>
  if b=true then te c l λy k=> ∃a,k D=some (.lst a)/\ ~~~a<eQ/\e (upd k D (.lst (a++ [y])))else e l)
def aeX(H00:Hp)(b:TE):TE:=λf H Q=>b f H λx a=>Q x a\/ ∃d u,x= .ref d/\a d=some u/\UH (some u)/\ ∀o,(∀e c,H00 d≠some (.frz e c))->Q x (upd a d (.frz o u))
section
def Zu(h:PE X e td):PE X e (aeX X.bE td):=λpz s g H Q I q=>by
 refine jo (h pz s g H _ I q) λu k i=> ?_;let⟨v f,b,r,a⟩:=i;rcases a with a|⟨d,l,rfl,hd,c,a⟩
 .exact⟨v,f,b,r,a⟩
 .obtain⟨od,j⟩:=b.lock hd c;exact⟨_,_,j,r,a od (b.bz hd c)⟩
def lcL{J:xG->It}{x:List D}{d:eB}{u:HO}{g:UD}{tt:GM}{te:ml}{n j:dE}{B:D->Prop}{Q:VK}(I:lq T F δ σ H own)(A:F d=some u)(S:lk u=true)(q: ∀us,u≠ .tup us)
  (C: ∀od,M5 T (J od) F (only d (.frz od u)) x)(G: ∀i,i∈j->i∈n)(E: ~~~x<=eQ)(h:Va g tt te (AY δ n) x [] B)(k: ∀v dd F' H',fT F H F' H'->k7 T F' v dd->B dd->Q v H'):
  (∀od,H d=some (.frz od u)->abV (Rl T g j) (G9 T tt) (up T te) n σ (λv=>Xg H00 (Q v)) (J od) H)/\
   (H d=some u-> ∀od,(∀X R,H00 d≠some (.frz X R))->abV (Rl T g j) (G9 T tt) (up T te) n σ (λv=>Xg H00 (Q v)) (J od) (L2.upd H d (.frz od u))):=by
 refine⟨λod hd y c=> ?_,λhd od P y c=> ?_⟩
 .refine zf I (C od) (wI hd) G c E h λU M us p m f w r s=> ?_;let⟨a,b⟩:=Ml c m f w r;exact .inl (k _ _ _ _ a b s)
 .have N:=I.lock (od:=od) A S;refine zf N (C od) (wI eR) G c E h λU M us p m f w r s=> ?_;have l:y≠d:=λz=>by rw[z,eR]at c;cases c
  have t:H y=none:=by rw[d9 l]at c;exact c
  have O:=Bm hd A q (λb o e z=>by rw[d9 z];exact e) eR m;let⟨a,b⟩:=Ml t O f (by rw[d9 l];exact w) r;exact .inr ⟨d,od,u,m.same _ _ eR,P,k _ _ _ _ a b s⟩
def Zz{elts:mW}{kk:Nat}{tpos apos f:Pos}(y:List (gw×Nat))(hc:X.calm=true)(P:X.N.Nodup)(ok:wq X.N X.env.scope scope y)(Z:fI cl X e td)
  (Y: ∀(s:dJ) (H:Hp) (C:eB) (cls:j9) (fp:iY),Xh cl (X.aw s H scope (ig scope cls C X.env) fp) (.Tuple elts kk tpos) g vs')(S: ∀(s:dJ) (H:Hp) (C:eB) (cls:j9) (fp:iY),M3 cl (X.aw s H scope (ig scope cls C X.env) fp) ifs tt)
  (he: ∀(s:dJ) (H:Hp) (C:eB) (cls:j9) (fp:iY),fI cl (X.aw s H scope (ig scope cls C X.env) fp) elt te)(M: ∀i,i∈vs'->i∈y.map (·.2):=by decide)
  (j:hZ e "items" X.env (fX e X.env)=fX e X.env:=by rfl)(l:(apos.endLine==f.line)=true:=by rfl)(R: ∀x,iO (.Call (.Attribute e "items" apos) [] [] f) X.env x=pure x:=by intro _;rfl):
  fI cl X (.ListComp elt [⟨.Tuple elts kk tpos,.Call (.Attribute e "items" apos) [] [] f,ifs,0⟩] scope pos) (dLc (Ic td) g tt te (y.map (·.2))):=
 PE.imp (Zq (X3 (g:=Rl (qb X cl) g vs') (tt:=G9 (qb X cl) tt) (te:=up (qb X cl) te) hc P (Gf Z j l) ok Y S he R)) λσ H Q p=>by
  let⟨F U own QD,I,h,k⟩:=p;refine⟨F,U,own,_,I,h,λv d F1 H1 g1 O n=> ?_⟩;have J:=I.grow g1;split at n
  .rename_i t m;let⟨p,n⟩:=n;let⟨d u,rfl,o,T⟩:=uv.of O;refine⟨d,rfl,?_⟩;rcases T with⟨c,rfl,r⟩|⟨c,rfl,r⟩
   .obtain⟨a,b⟩:=lcL J o rfl (λus z=>by cases z) (λod=>yb r) M p n λv G B w q E A=>k v G B w (g1.trans q) E A;rcases g1.ext d _ o with e|⟨_,od,e⟩
    .exact .inr (.inr (.inl ⟨c,e,b e⟩))
    .exact .inl ⟨od,c,e,a od e⟩
   .obtain⟨a,b⟩:=lcL J o rfl (λus z=>by cases z) (λod=>ya r) M p n λv G B w q E A=>k v G B w (g1.trans q) E A;rcases g1.ext d _ o with e|⟨_,od,e⟩
    .exact .inr (.inr (.inr ⟨c,e,b e⟩))
    .exact .inr (.inl ⟨od,c,e,a od e⟩)
  .exact n.elim
def P3(r:fh (RK T F) kvs l):M5 T (Itk d o kvs) F (only d (.frz o (.dK kvs))) (l.map (·.1)):=by
 intro i g q le e f;have hd:=f d _ (by unfold only;rw[dq rfl]);have len:(l.map (·.1)).length= ~~~kvs:=by rw[dA,r.1]
 refine⟨λj=>⟨⟨hd,by lia⟩,?_⟩,λj=>⟨hd,by lia⟩⟩;rintro x n ⟨rfl,k,v,b,rfl⟩;obtain⟨p,c,⟨z,h,m⟩,s⟩:=r.getL b;have a:=h;subst a;exact⟨g,.int z,fT.refl e,by rw[dX,c,<-m];rfl,.int z⟩
def Yj(te:ml):Qz:=λa Q=>te a λd=>match d with
 | .dic false l=>Q (l.map (·.1))
 |_=>False
def Pd{i:Nat}{y:gw}{py f:Pos}(t:List (gw×Nat))(hc:X.calm=true)(S:X.N.Nodup)(n:jr (.ListComp elt [⟨tg,e,ifs,0⟩] scope pos) (some (.Name y py)) f.line X.env=pure true)(ok:wq X.N X.env.scope scope t)(hi:fI cl X e td)
  (hg: ∀(s:dJ) (H:Hp) (C:eB) (cls:j9) (fp:iY),Xh cl (X.aw s H scope (ig scope cls C X.env) fp) tg g vs')(U: ∀(s:dJ) (H:Hp) (C:eB) (cls:j9) (fp:iY),M3 cl (X.aw s H scope (ig scope cls C X.env) fp) ifs tt)
  (he: ∀(s:dJ) (H:Hp) (C:eB) (cls:j9) (fp:iY),fI cl (X.aw s H scope (ig scope cls C X.env) fp) elt te)(hv: ∀i,i∈vs'->i∈t.map (·.2):=by decide)(T: ∀x,iO e X.env x=pure x:=by intro _;rfl)
  (hy:X.N[i]?=some y:=by rfl)(A:X.env.scope.names.lookup y=some .local:=by rfl):EE cl X (.Assign [.Name y py] (.ListComp elt [⟨tg,e,ifs,0⟩] scope pos) f) (W1 i (dLc (Yj td) g tt te (t.map (·.2)))):=
 PS.imp (LU (Di (g:=Rl (qb X cl) g vs') (tt:=G9 (qb X cl) tt) (te:=up (qb X cl) te) hc S hy A n (VZ (Zu hi)) ok hg U he T)) λD M H w=>by
  let⟨F0 H0 F Y own DD,I,h,l⟩:=w;refine⟨F,Y,own,_,I.e,h,λv d F1 H1 g1 G j=> ?_⟩;have E:=I.grow g1;split at j
  .rename_i m;let⟨w,j⟩:=j;let⟨d u,rfl,k,li⟩:=uv.of G;have O: ∃c,u= .dK c/\fh (RK (qb X cl) F1) c m:=by
    cases G with
    | @dK a c l h hl hk hr=>rw[h]at k;cases k;exact⟨c,rfl,hl,λi p q x y=>⟨hk i p q x y,hr i p q x y⟩⟩
   let⟨(c),rfl,r⟩:=O;let⟨a,b⟩:=lcL (H00:=X.bE) (Q:=λv B=>Kz i v M B D.nx) E.e k rfl (λus z=>by cases z) (λod=>P3 r) hv w j λv dd Z B J rr P=>l.nx _ _ ⟨Z,_,_,(E.grow J).set i rr,P⟩;rcases g1.ext d _ k with e|⟨_,od,e⟩
   .exact .inr ⟨d,_,rfl,e,trivial,λo R=>⟨d,o,rfl,.inl ⟨c,eR,b e o R⟩⟩⟩
   .exact .inl ⟨d,od,rfl,.inl ⟨c,e,a od e⟩⟩
  .exact j.elim
end
def VC(tk e:TE):TE:=λc H Q=> ∀p,H p=none->tk c (upd H p (.dT [])) λx d=>e c d λy a=>a p=some (.dT [])/\ ∃b n,x= .ref b/\TupAt a b n/\Q (.ref p) (upd a p (.dT [(n,y)]))
section
def Pi(hu:X.A.units+16<jc)(hk:PE X k tk)(R:PE X v tv):PE X (.Dict [some k] [v] pos) (VC tk tv):=by
 intro pz s i H Q I q;have B:=I.ab.fresh (dI s.heap.objs.size);have t:=I.laid (t':=s.toks) (λ_ _ q=>dc _ q) (dI _) (KH s.heap I.cz);have a:([some k]:List (Option jG)).all (·.isSome)=true:=rfl;rw[arm_eval_Dict,zip_pairTrees [some k] [v] X.env pos a rfl,dictDisplay_pairs _ (by intro z;cases z) (by show 1<17;decide)];refine c9 (Cw (c9 ?_));refine c9 (ahC ?_);refine c9 (iF ?_);refine c9 (Yy (jo (hk pz _ i _ _ t (q _ B)) λu G g=> ?_));let⟨x m,T,C,J⟩:=g;refine jo (R pz G i m _ T J) λr s2 g=> ?_;obtain⟨y,Y,f,N,e,b,n,ex,l,M⟩:=g;refine aa2 ?_;subst ex;cases (show u=eD b from C);refine iF ?_;obtain⟨z,hd,xs,rel,U⟩:=Yd f.ab e;cases rel;have room:(oM X.prog X.w).room X.A:=by show X.A.units+8<jc;lia
 rw[oy];refine c9 (c9 (c9 (wpAny_dictSet_heap room (vU f.ab l) U λh' d E=>de ?_)));refine de (de (de (de ⟨.ref s.heap.objs.size,_,?_,rfl,M⟩)));let⟨o S p,h,F,O,P,_,h5⟩:=d;refine Cr f (by rw[e];exact oz) E ⟨o,h⟩ ⟨by show 1<=eQ;decide,hd,[(n,b,r)],.cons ⟨rfl,l.keeps λc Z j=> ?_,N⟩ .nil,o,S,p,h,F,O,P,by simp⟩;rw[d9 (X7 j e (λz=>nomatch z))]
 exact j
end
section
def Ay(e:oW F H)(h:H p=none)(d: ∀us,o0≠ .tup us)(g:fT F (L2.upd H p o0) F' H'):F' p=none/\fT F H (L2.upd F' p o) (L2.upd H' p o):=by
 have f:F' p=none:=by rw[g.aB eR d];exact e.fresh h
 refine⟨f,λa u z=> ?_,λa n=> ?_,λb u z=> ?_,λa u z=> ?_⟩
 .have hz:=g.le a u z;rw[d9 (fz hz f)];exact hz
 .have c:a≠p:=λz=>n (by rw[z];exact h);rw[d9 c];have q:=g.old a (by rw[d9 c];exact n);rw[d9 c]at q;exact q
 .have c:=fz z h;rw[d9 c];exact g.same b u (by rw[d9 c];exact z)
 .by_cases z':a=p
  .subst z';rw[eR]at z;cases z;exact .inl eR
  .rw[d9 z']at z;unfold Lh;rw[d9 z'];exact g.ext a u z
def Od(tk b:ml):ml:=λa Q=>tk a λx=>b a λy=>hk true x/\Q (.dic true [(x,y)])
def Pl(r:X.A.units+16<jc)(d:fI cl X k tk)(J:fI cl X v tv):fI cl X (.Dict [some k] [v] pos) (Od tk tv):=PE.imp (Pi r d J) λP H Q G=>by
 let⟨F h own S,I,t,kk⟩:=G;intro p e;have g:=fT.laid (o:=HO.dT []) I.ext e;refine⟨F,h,own,_,I.grow g,t,λv1 R E N g1 s B=>⟨E,h,own,_,(I.grow g).grow g1,B,λC T j O g2 m c=> ?_⟩⟩;obtain⟨⟨n,rfl,hd⟩,c⟩:=c;have l:=g1.trans g2;let⟨(b),rfl,w⟩:=CN g2.ext hd (s.mono g2.le);obtain⟨f,M⟩:=Ay I.ext e (λus z=>by cases z) l;have le:Le j (L2.upd j p (.dT [(n,C)])):=λa u z=>by rw[d9 (fz z f)];exact z
 refine⟨l.same _ _ eR,b,n,rfl,w,kk _ _ _ _ M (.dT eR rfl (λi p q x y=> ?_) λi p q x y=> ?_) c⟩
 .cases i with
  |zero=>simp at x y;subst x;subst y;rfl
  |succ i=>simp at x
 .cases i with
  |zero=>simp at x y;subst x;subst y;exact m.mono le
  |succ i=>simp at x
noncomputable def Ua(h k g f:ml):ml:=λe Q=>h e λa=>k e λb=>g e λc=>f e λd=> ∃i j,a= .int i/\c= .int j/\Q (.dic false (rq (rq [] a b) c d))
def RX(h:F p=some (.dK kvs))(r:fh (RK T F) kvs l):k7 T F (.ref p) (.dic false l):= .dK h r.1 (λi p q x y=>(r.2 i p q x y).1) λi p q x y=>(r.2 i p q x y).2
def RK.mono(le:Le F F')(r:fh (RK T F) kvs l):fh (RK T F') kvs l:=⟨r.1,λi p q x y=>⟨(r.2 i p q x y).1,(r.2 i p q x y).2.mono le⟩⟩
def Ss(O:fI cl X a ta)(A:fI cl X b tb)(N:fI cl X c tc)(hd:fI cl X d td):fI cl X (.Dict [some a,some c] [b,d] pos) (Ua ta tb tc td):=
 PE.imp (NC (Dj O A (Dj N hd Nw)) rfl rfl (by intro z;cases z) (by show 2<=15;decide)) λU H Q J=>by
 let⟨F g own Z,I,t,kk⟩:=J;intro p m;have e:=fT.laid (o:=HO.dK []) I.ext m;refine⟨F,g,own,_,I.grow e,t,λv1 Y G S g1 x y=>⟨G,g,own,_,(I.grow e).grow g1,y,λq d2 C T g2 w E=>⟨C,g,own,_,(I.grow e).grow (g1.trans g2),E,λR d3 v H3 g3 B s=>⟨v,g,own,_,(I.grow e).grow ((g1.trans g2).trans g3),s,λv4 d4 n H4 r M k=> ?_⟩⟩⟩⟩;let⟨i j,rfl,rfl,k⟩:=k;have l:=((g1.trans g2).trans g3).trans r;have h:=w.mono (g3.trans r).le;obtain⟨f,P⟩:=Ay I.ext m (λus z=>by cases z) l;have le:Le n (L2.upd n p (.dK (qU [] [(.inl i,q),(.inl j,v4)]))):=λa u z=>by rw[d9 (fz z f)];exact z
 refine⟨l.same _ _ eR,[(.inl i,q),(.inl j,v4)],by rw[x.aa,B.aa];rfl,by show 2<=15;decide,kk _ _ _ _ P (RX eR ?_) k⟩;exact RK.mono le (JB j (JB i fh.nil h) M)
def Oe(i:Nat)(tk c:ml):yA:=λb a=>tk a λx=>c a λy=> ∃z,x= .int z/\b.nx (a.set i (some (.od false [(x,y)])))
def RN(O:X.N.Nodup)(w:fI cl X k tk)(Z:fI cl X v tv)(U:X.N[i]?=some x:=by rfl)(u:Loc X.env.scope x:=by subst_eqs)(P:jr (.Dict [some k] [v] p2) (some (.Name x pos')) pos.line X.env=pure false:=by rfl)
  (hf:X.fn x=true\/X.env.scope.names.lookup x=some .local:=by subst_eqs):EE cl X (.Assign [.Name x pos'] (.Dict [some k] [v] p2) pos) (Oe i tk tv):=
 PS.imp (sk O U u (NC (Dj w Z Nw) rfl rfl (by intro z;cases z) (by show 1<=15;decide)) P hf) λD s H u=>by
 let⟨F0 H0 F b own DD,I,h,l⟩:=u;intro p d;have A:=fT.laid (o:=HO.dK []) I.e.ext d;refine⟨F,b,own,_,I.e.grow A,h,λv1 d1 S H1 g1 M Q=>⟨S,b,own,_,(I.e.grow A).grow g1,Q,λg C t E g2 G c=> ?_⟩⟩;let⟨(z),rfl,c⟩:=c;have j:=g1.trans g2;refine⟨j.same _ _ eR,[(.inl z,g)],by rw[M.aa];rfl,by show 1<=15;decide,?_⟩;have I0:=I.aC i (l:= .od false []) (o:= .dK []) d ⟨[],rfl,fh.nil⟩;have Y:=I0.grow j;by_cases hi':i< ~~~b
 .have m:(s.set i (some (V.ref p)))[i]?=some (some (.ref p)):=gU (by rw[<-I.e.len];exact hi');have B:=Y.chg i (l:= .od false [(.int z,C)]) (o:= .dK [(.inl z,g)]) (by unfold put;rw[dq rfl]) m ⟨_,rfl,fh.cons ⟨⟨z,rfl,rfl⟩,G⟩ fh.nil⟩;rw[List.set_set]at B;exact l.nx _ _ ⟨t,_,_,B,c⟩
 .have J:b.set i (some (L.od false [(.int z,C)]))=b:=IY (by lia);rw[J]at c;have T:s.set i (some (V.ref p))=s:=IY (by rw[<-I.e.len];lia);have g5:fT F H t (L2.upd E p (.dK [(.inl z,g)])):=by
   let⟨f,y⟩:=Ay (o:=HO.dK [(.inl z,g)]) I.e.ext d (λus z=>by cases z) j;refine⟨j.le,λa n=> ?_,y.same,λa o e=> ?_⟩
   .have r:a≠p:=λz=>n (by rw[z];exact d);have q:=y.old a n;rw[d9 r]at q;exact q
   .exact y.ext a o (by rw[d9 (fz e f)];exact e)
  have R:=I.grow g5;exact l.nx _ _ ⟨t,_,_,by rw[T];exact R,c⟩
def Es(n:Int):List D:=(eE ((n.toNat+1)/2)).map λi=> .int (2*(i:Nat))
def KN(b:ml):Qz:=λa Q=>b a λd=>match d with
 | .int n=>0<=n/\n<2^62/\Q (Es n)
 |_=>False
end
section
def TV(c:s.heap.IsTupleIter j t i)(l:s.heap.IsTuple t its)(f:its[i]?=some v)
  (k: ∀h',h'.IsTupleIter j t (i+1)->ic j s.heap h'->Q v {s with heap:=h'}):dR (dZ prog w) A (ki (.ref j)) Q E s:=by
 have ty:=c.typeIs;let⟨(g),a,n,b⟩:=c;obtain⟨o,f1,f2,m,e⟩:=l;refine c9 (m:=callSpecial? _ _ _) (jq (name:=rK "__next__") ty Ld (iG Ld ty F.entry_tuple_iterator_next (c9 (m:=abB (.ref j) 0) (jQ a b (x:= .ref t) rfl (c9 (m:=abB (.ref j) 1) (jQ a b (x:= .int i 0) rfl (c9 (jK f1 e ?_)))))) (F.args_tuple_iterator_next_1 _)));dsimp only;rw[show its[(i:Int).toNat]?=some v from f];have d:((g.mapFields λh=>h.setIfInBounds 1 (wx (i+1))).data)= .fields #[.ref t,wx (i+1)]:=AR b _;exact c9 (uz a b (by simp) (de ⟨v,rfl,de (k _ ⟨_,i8 _ a (Ov d),(Vh ..).trans n,d⟩ (mP ..))⟩))
def Jc{z I O i j:eB}{a b:eA}{R:B9->dJ->Prop}(p:AV s.heap z I O .none)(gI:pR s.heap I (.ref i) (.ref j))
  (go: ∀l,AV l z I O .ellipsis->ic z s.heap l->dR (dZ prog w) A (ki (.ref i)) (λx B=>pR B.heap O a b/\ ∀t,pR t O x b->ic O B.heap t->
   dR (dZ prog w) A (ki (.ref j)) (λy v=>pR v.heap O x b/\ ∀f,pR f O x y->ic O v.heap f->AV f z I O .ellipsis/\ ∀k,AV k z I O (wx f.objs.size)->k.objs.size=f.objs.size+1->pR k f.objs.size x y->(∀c o,c≠z->f.get? c=some o->k.get? c=some o)->R (.done (.ret (.ref f.objs.size))) {v with heap:=k})
    (λe d=>AV d.heap z I O .ellipsis/\ ∀g,ic z d.heap g->E e {d with heap:=g}) {B with heap:=t})
   (λe d=>AV d.heap z I O .ellipsis/\ ∀g,ic z d.heap g->E e {d with heap:=g}) {s with heap:=l}):dR (dZ prog w) A (Builtin.«zip.__next__» ⟨[.ref z],[]⟩) R E s:=by
 have h: ∀{e:eA} {d:dJ},(AV d.heap z I O .ellipsis/\ ∀g,ic z d.heap g->E e {d with heap:=g})->dR (dZ prog w) A (uB (.ref z) 0 .none) (λ_ H=>E e H) E d:=λr=>by let⟨Z,q2⟩:=r;exact iX Z (by simp) λg _ u=>q2 g u
 refine c9 (m:=abB (.ref z) 2) (jQ p rfl (x:= .bool false) rfl (c9 (m:=abB (.ref z) 3) (jQ p rfl (x:= .ref I) rfl (c9 (jK gI rfl (c9 (m:=Vp (.ref z)) (c9 (m:=abB (.ref z) 0) (jQ p rfl (x:= .none) rfl (de (c9 (m:=rule _) (aaW (c9 (m:=abB (.ref z) 4) (jQ p rfl (x:= .ref O) rfl (c9 (m:=uB (.ref z) 0 .ellipsis) (iX p (by simp) λl T Y=>c9 ?_)))))))))))))));rw[show(#[eD i,.ref j].toList.zipIdx)=[(eD i,0),(eD j,1)]from rfl,oy];refine c9 (c9 (agQ (c9 (m:=ki (.ref i)) (iK (go l T Y) (λx B r=> ?_) λe d q=>h q))));let⟨g2,F⟩:=r;refine de ?_;refine c9 (m:=Bw (.ref O)) (jK g2 rfl (c9 (Xn g2 λt g3 X=>c9 (pW (de ?_)))));dsimp only;rw[oy];refine c9 (c9 (agQ (c9 (m:=ki (.ref j)) (iK (F t g3 X) (λy v r=> ?_) λe d q=>h q))));let⟨N,C⟩:=r;refine de ?_;refine c9 (m:=Bw (.ref O)) (jK N rfl (c9 (Xn N λf Q x5=>c9 (pW (de (de ?_))))));let⟨M,J⟩:=C f Q x5;have P:z≠f.objs.size:=eG (dD M);refine c9 (m:=Bw (.ref O)) (jK (show pR f O x y from Q) rfl (c9 (M7 (c9 (m:=Vq (.ref z) (.ref f.objs.size)) (c9 (m:=uB (.ref z) 0 _) (iX (dc _ M) (by simp) λg S u=>iX S (by simp) λk U G=>de (J k U (by rw[G.1,u.1,fR]) (G.extBut _ _ P.symm (u.extBut _ _ P.symm (dw _ rfl))) λc o n q=>G.extBut _ _ n (u.extBut _ _ n (dc _ q)))))))))
def Jd{z:eB}{I O:eB}{fl:eA}{Q:Option eA->dJ->Prop}(d:AV s.heap z I O fl)(h:dR (dZ prog w) A.in1 (Builtin.«zip.__next__» ⟨[.ref z],[]⟩) (λfin a=> ∃v,fin= .done (.ret v)/\Q (some v) a) (λe a=> ∃p o,e= .ref p/\a.heap.get? p=some o/\o.cls= .type "StopIteration" /\Q none a) s):dR (dZ prog w) A (mX (.ref z)) Q E s:=
 c9 (m:=QJ _) (wu (jq (name:=rK "__next__") ⟨_,d,rfl⟩ abJ (iG abJ ⟨_,d,rfl⟩ F.entry_zip_next (iK h (λ_ _ c=>by let⟨(v),g,i⟩:=c;exact⟨v,g,de i⟩) λe a c=>by let⟨p o,f,j,l,k⟩:=c;exact f▸c9 (oq (T:= "StopIteration") (b:=true) ⟨o,j,l⟩ AQ (de k))) (F.args_zip_next_1 _))))
def Q7(ap:agp z I O i j l t)(B:AV s.heap z I O .none)(gI:pR s.heap I (.ref i) (.ref j))(G:pR s.heap O a b)
  (J:s.heap.IsListIter i l m)(S:s.heap.IsTupleIter j t n)(T:s.heap.IsList l xs)(et:s.heap.IsTuple t ys)(Y:xs[m]?=some x)(hy:ys[n]?=some y)
  (k: ∀h',AV h' z I O (wx s.heap.objs.size)->pR h' O x y->h'.IsListIter i l (m+1)->h'.IsTupleIter j t (n+1)->pR h' s.heap.objs.size x y->h'.objs.size=s.heap.objs.size+1->
   (∀c o,c≠z->c≠O->c≠i->c≠j->s.heap.get? c=some o->h'.get? c=some o)->Q (some (.ref s.heap.objs.size)) {s with heap:=h'}):dR (dZ prog w) A (mX (.ref z)) Q E s:=by
 refine Jd B (Jc (a:=a) (b:=b) B gI λh1 H d=>wpAny_nextOf_list_item (J.extBut d.extBut ap.i1z) (T.extBut d.extBut ap.l1z) Y λh2 N f=>⟨f.extBut _ _ ap.TOi1 (d.extBut _ _ ap.TOz G),λZ g3 e=>
  TV (s:={s with heap:=Z}) (((S.extBut d.extBut ap.i2z).extBut f.extBut ap.i12.symm).extBut e.extBut ap.TOi2.symm) (((et.extBut d.extBut ap.l2z).extBut f.extBut ap.l2i1).extBut e.extBut ap.l2TO) hy λh4 R g=>⟨g.extBut _ _ ap.TOi2 g3,λU g5 h=> ?_⟩⟩)
 have P:U.objs.size=s.heap.objs.size:=by rw[h.1,g.1,e.1,f.1,d.1]
 refine⟨h.extBut _ _ ap.TOz.symm (g.extBut _ _ ap.i2z.symm (e.extBut _ _ ap.TOz.symm (f.extBut _ _ ap.i1z.symm H))),λM v F u p=>⟨_,rfl,?_⟩⟩;rw[P]at v F u⊢;exact k M v (p _ _ ap.TOz g5) ((((N.extBut e.extBut ap.TOi1.symm).extBut g.extBut ap.i12).extBut h.extBut ap.TOi1.symm).at λo q=>p _ o ap.i1z q) ((R.extBut h.extBut ap.TOi2.symm).at λo q=>p _ o ap.i2z q) u F
  λc o r C X m4 q=>p c o r (h.extBut _ _ C (g.extBut _ _ m4 (e.extBut _ _ C (f.extBut _ _ X (d.extBut _ _ r q)))))
def Vt(x:A.handled=none)(ap:agp z I O i j l t)(h:AV s.heap z I O .none)(gI:pR s.heap I (.ref i) (.ref j))(J:pR s.heap O a b)
  (v:s.heap.IsListIter i l m)(B:s.heap.IsList l xs)(f:xs[m]?=none)
  (k: ∀h',(∀c o,c≠z->c≠O->c≠i->c≠j->s.heap.get? c=some o->h'.get? c=some o)->Q none {s with heap:=h'}):dR (dZ prog w) A (mX (.ref z)) Q E s:=by
 refine Jd h (Jc (a:=a) (b:=b) h gI λH u d=>wpAny_nextOf_list_end x (v.extBut d.extBut ap.i1z) (B.extBut d.extBut ap.l1z) f λM e n f=> ?_);let⟨(o),y,C⟩:=f;have r:=n _ _ ap.i1z.symm u;refine⟨r,λG p=>⟨e,o,rfl,p.extBut _ _ (λq=> ?_) y,C,k G λc o g _ F _ q=>p.extBut _ _ g (n _ _ F (d.extBut _ _ g q))⟩⟩
 grind
end
noncomputable def Lv(h:iZ)(l t:eB):Heap:=
 ((((h.push {cls:= .type "list_iterator",data:= .fields #[.ref l,.int 0 0]}).push {cls:= .type "tuple_iterator",data:= .fields #[.ref t,.int 0 0]}).push
  {cls:= .type "tuple",data:= .seq #[.ref h.objs.size,.ref (h.objs.size+1)]}).push {cls:= .type "tuple",data:= .seq #[.none,.none]}).push
  {cls:= .type "zip",data:= .fields #[.none,.bool false,.bool false,.ref (h.objs.size+2),.ref (h.objs.size+3)]}
def Q8(l t:eB)(j i:mj):Meets (Builtin.«zip.__new__» ⟨[.type "zip",.ref l,.ref t],[]⟩) (λ_ R s=>s.heap.IsList l j/\s.heap.IsTuple t i/\R (.ok (.ret (.ref (s.heap.objs.size+4)))) {s with heap:=Lv s.heap l t}):=
 .of_wp λprog w A R s h=>by
  obtain⟨f,g,d,tk,os⟩:=s;let⟨m,o,h⟩:=h;have sub:=sub_zip;have n:Heap.IsList (aba ⟨f,g,d,tk,os⟩) l j:=m;have k:Heap.IsTuple (aba ⟨f.push {cls:= .type "list_iterator",data:= .fields #[.ref l,.int 0 0]},g,d,tk,os⟩) t i:=o.push _
  wp_walk using vm n,uA k
  refine⟨_,rfl,?_⟩;have e: ∀(a b c d:xG),((((f.push a).push b).push c).push d).objs.size=f.objs.size+4:=λa b c d=>by simp only[fR]
  simp only[fR];dsimp only[Lv]at h;exact h
section
variable {prog:fY} {w:iu} {A:i6} {E:gY} {s:dJ}
def Um(d:s.heap.IsList l xs)(g:s.heap.IsTuple t ys)
  (k: ∀h',AV h' (s.heap.objs.size+4) (s.heap.objs.size+2) (s.heap.objs.size+3) .none->pR h' (s.heap.objs.size+2) (.ref s.heap.objs.size) (.ref (s.heap.objs.size+1))->pR h' (s.heap.objs.size+3) .none .none->
   h'.IsListIter s.heap.objs.size l 0->h'.IsTupleIter (s.heap.objs.size+1) t 0->(∀c o,s.heap.get? c=some o->h'.get? c=some o)->Q (.ref (s.heap.objs.size+4)) {s with heap:=h'}):
  dR (dZ prog w) A (call (.type "zip") [.ref l,.ref t]) Q E s:=by
 refine callType_new F.called_zip (by decide) (F.typeCall_zip_2 _ _) (F.newCall_zip_2 _ _) (λobj=>F.args_object_init_3 obj _ _) F.entry_zip_new (Q8 l t xs ys) ⟨d,g,?_⟩;have p: ∀(h:iZ) (a:xG),(h.push a).objs.size=h.objs.size+1:=λh a=>fR ..;have old: ∀{h:iZ} {a:xG} {c:eB} {o:xG},h.get? c=some o->(h.push a).get? c=some o:=λq=>dc _ q;have new: ∀(h:iZ) (a:xG) (n:Nat),h.objs.size=n->a.isFreed=false->(h.push a).get? n=some a:=λh a n e q=>by subst e;exact dw _ q
 have g1:(Lv s.heap l t).get? s.heap.objs.size=some {cls:= .type "list_iterator",data:= .fields #[.ref l,.int 0 0]}:=old (old (old (old (new _ _ _ rfl rfl))));have g2:(Lv s.heap l t).get? (s.heap.objs.size+1)=some {cls:= .type "tuple_iterator",data:= .fields #[.ref t,.int 0 0]}:=old (old (old (new _ _ _ (by rw[p]) rfl)));have g3:(Lv s.heap l t).get? (s.heap.objs.size+2)=some {cls:= .type "tuple",data:= .seq #[.ref s.heap.objs.size,.ref (s.heap.objs.size+1)]}:=old (old (new _ _ _ (by rw[p,p]) rfl));have f:(Lv s.heap l t).get? (s.heap.objs.size+3)=some {cls:= .type "tuple",data:= .seq #[.none,.none]}:=old (new _ _ _ (by rw[p,p,p]) rfl);have b:(Lv s.heap l t).get? (s.heap.objs.size+4)=some {cls:= .type "zip",data:= .fields #[.none,.bool false,.bool false,.ref (s.heap.objs.size+2),.ref (s.heap.objs.size+3)]}:=new _ _ _ (by rw[p,p,p,p]) rfl;exact⟨⟨_,b,rfl⟩,k _ b g3 f ⟨_,g1,rfl,rfl⟩ ⟨_,g2,rfl,rfl⟩ λc o q=>old (old (old (old (old q))))⟩
end
def aaS(K:dh)(a b:eB):It:=
 ⟨λi H=> ∃(c d:List V) (x y:V),rB K H a c/\qJ K H b d/\c[i]?=some x/\d[i]?=some y,
  λi H v e=> ∃t x y,v= .ref t/\H t=none/\e=upd H t (.tup [x,y])/\(∀c,rB K H a c->c[i]?=some x)/\ ∀d,qJ K H b d->d[i]?=some y,
  λi H=> ∃c:List V,rB K H a c/\ ~~~c<=i⟩
def Ro{P:fY}{w:iu}{K:dh}{elts:mW}{kk:Nat}{tpos:Pos}{a b z I O m j:eB}(ap:agp z I O m j a b):
  yi P w K (.Tuple elts kk tpos) (aaS K a b) [z,I,O,m,j] z (λi h=>AV h z I O .none/\pR h I (.ref m) (.ref j)/\(∃x y,pR h O x y)/\h.IsListIter m a i/\h.IsTupleIter j b i) where
 mem:=fk ..
 obj:=λi h st c G=>by
  obtain⟨hz,r,⟨x,y,t⟩,⟨o1,R,_,d1⟩,⟨o2,N,_,d2⟩⟩:=st;simp only[eM,l9,AO]at G;rcases G with rfl|rfl|rfl|rfl|rfl
  .exact⟨_,hz,λv q=>nomatch q⟩
  .exact⟨_,r,λv q=>nomatch q⟩
  .exact⟨_,t,λv q=>nomatch q⟩
  .simp_all
  .simp_all
 keep:=λi h h' ⟨hz,r,⟨x,y,t⟩,f,d⟩ k=>⟨k z (by simp) _ hz,k I (by simp) _ r,⟨x,y,k O (by simp) _ t⟩,f.at λo q=>k m (by simp) o q,d.at λo q=>k j (by simp) o q⟩
 item:=by
  intro X U Y hK G i pz s σ H E J T st hg;subst U Y hK;obtain⟨hz,r,⟨x0,y0,t⟩,f,d⟩:=st;let⟨xs ys x y,S,qy,hx,hy⟩:=hg;let⟨(x3),Z,p,_⟩:=J.list S;let⟨(F),x2,p2,_⟩:=J.tuple qy;let⟨(u),hu,ru⟩:=Z.get hx;let⟨(u2),x4,x1⟩:=x2.get hy;have lz:=dD hz;have pt:s.heap.IsTuple b F.toArray:=by obtain⟨o,R,N,n,e3⟩:=p2;exact⟨o,R,N,n,e3⟩
  refine Q7 ap hz r t f d p.isList pt (by simpa using hu) (by simpa using x4) λh' z' O' j1 j2 T' hsz old=> ?_;refine⟨_,rfl,wpAny_letOwnedTupleGo_zip z' λd zz C=> ?_⟩;have T2:=(C.2 _ (jx lz)).trans T';have new:jM X.prog X.w (upd H s.heap.objs.size (.tup [x,y])) d s.heap.objs.size (.tup [x,y]):=⟨by show 2<=eQ;decide,[u,u2],.cons ru (.cons x1 .nil),⟨_,T2,rfl,_,rfl,rfl⟩⟩;have no: ∀{c q:eB},c∉ [z,I,O,m,j]->q∈ [z,I,O,m,j]->c≠q:=λf d e=>f (by rw[e];exact d);have J1:Inv X pz σ (upd H s.heap.objs.size (.tup [x,y])) {s with heap:=d}:=
   J.au (λc o g q=>(C.2 c (no g (by simp))).trans (old c o (no g (by simp)) (no g (by simp)) (no g (by simp)) (no g (by simp)) q)) T (dI _) new
  refine⟨.ref s.heap.objs.size,_,J1,rfl,⟨_,x,y,rfl,J.ab.fresh (dI _),rfl,λl M=>by rw[J.aH M S];exact hx,λl M=> ?_⟩,⟨zz,?_,⟨u,u2,?_⟩,?_,?_⟩,λc B=> ?_⟩
  .rw[J.aM M qy];exact hy
  .exact(C.2 _ ap.TIz).trans (old _ _ ap.TIz ap.TITO ap.TIi1 ap.TIi2 r)
  .exact(C.2 _ ap.TOz).trans O'
  .exact j1.at λo q=>(C.2 _ ap.i1z).trans q
  .exact j2.at λo q=>(C.2 _ ap.i2z).trans q
  .have lc:c<s.heap.objs.size:=by
    simp only[eM,l9,AO]at B;rcases B with rfl|rfl|rfl|rfl|rfl
    .exact lz
    .exact dD r
    .exact dD t
    .obtain⟨_,R,_⟩:=f;exact dD R
    .obtain⟨_,N,_⟩:=d;exact dD N
   rw[d9 (eG lc)];exact(T c B).1
 done:=by intro X U Y hK G i pz s σ H E J T st hg;subst U Y hK;obtain⟨hz,r,⟨x0,y0,t⟩,f,d⟩:=st;let⟨(xs),S,M⟩:=hg;let⟨(x3),Z,p,_⟩:=J.list S;have l1:= ~~~Z;have no: ∀{c q:eB},c∉ [z,I,O,m,j]->q∈ [z,I,O,m,j]->c≠q:=λf d e=>f (by rw[e];exact d);exact Vt (J.ok.hd G) ap hz r t f p.isList (by simp;lia) λh' old=>⟨rfl,J.bP (λc o g q=>old c o (no g (by simp)) (no g (by simp)) (no g (by simp)) (no g (by simp)) q) T⟩
 self:=λA i s Q E st h=>adA st.1 h
def afm(K:dh)(f:TA):TI:=λh H R=>f h H λe c=> ∃a b d g,e=[.ref a,.ref b]/\rB K c a d/\qJ K c b g/\R (aaS K a b) c
def Zm{X:Cx}{e g:jG}{k:TA}{p pos tpos:Pos}{elts:mW}{kk:Nat}(N:Gl X "zip")(M:X.mg "zip" =none)(U:PA X [e,g] k)
  (A:dj [e,g] X.env=(false,fX e X.env)::dj [g] X.env:=by rfl)(hpl:(gy pos (dj [g] X.env)).any (·.1)=false:=by rfl):
  PI X (.Tuple elts kk tpos) (.Call (.Name "zip" p) [e,g] [] pos) (afm X.K k):=by
 intro pz s u H R J h;refine agt (sA J N M Qv (gP (jo (U pos pz s u H _ J h) λus d O=> ?_) A hpl));let⟨vs n,i,x,E⟩:=O;let⟨a b xs Y,rfl,T,C,q⟩:=E;let⟨(F),Z,l,_⟩:=i.list T;let⟨(f),P,w,_⟩:=i.tuple C;have v:us=[eD a,eD b]:=by
  cases x with
  |cons r j=>
   cases j with
   |cons m j=>cases j;cases r;cases m;rfl
 subst v;have B:=l.lt;have Q:=w.lt;have y:d.heap.IsTuple b f.toArray:=by lia
 refine Um l.isList y λh' hz t I o z old=>adA hz ?_;have G:=i.kept (t':=d.toks) old;refine⟨d.heap.objs.size+4,[d.heap.objs.size+4,d.heap.objs.size+2,d.heap.objs.size+3,d.heap.objs.size,d.heap.objs.size+1],_,_,n,rfl,G,Ro (PySem.W.ktu_apart d.heap.objs.size a b B Q),⟨hz,t,⟨_,_,I⟩,o,z⟩,λc S=> ?_,q⟩;have le:d.heap.objs.size<=c:=by
  grind
 exact i.aV le (i.ab.fresh le)
section
def Lw(l m:List D):List D:=(l.zip m).map λp=> .tup [p.1,p.2]
def adf(b c:ml):Qz:=λa Q=>b a λx=>c a λy=>match x,y with
 | .lst l,.tup m=> ~~~l<= ~~~m/\Q (Lw l m)
 |_,_=>False
def WD(h:F a=some (.lst us))(r:iE T F us l)(u:F b=some (.tup vs))(k:iE T F vs m)(J: ~~~l<= ~~~m):M5 T (aaS T.K a b) F X5 (Lw l m):=by
 intro i I g le e H;have f:rB T.K g a us:= .inl (e a _ (le _ _ h)).rd;have n:qJ T.K g b vs:=qJ.of (e.tup (le _ _ u));have len:(Lw l m).length= ~~~l:=by simp[Lw];lia
 refine⟨λy=> ?_,λy=>⟨us,f,by rw[r.1];lia⟩⟩;have d:i< ~~~us:=by rw[r.1];lia
 have c:i< ~~~vs:=by rw[k.1];lia
 refine⟨⟨us,vs,us[i],vs[i],f,n,df d,df c⟩,?_⟩;rintro x E ⟨t,G,M,rfl,s,rfl,B,A⟩;let⟨(o),p,q⟩:=r.getL (B us f);let⟨(C),w,v⟩:=k.getL (A vs n);have j:=m8 e s (fh.cons (q.mono le) (fh.cons (v.mono le) fh.nil));refine⟨_,_,j.1,?_,j.2⟩;rw[Lw,dX,List.getElem?_zip_eq_some (z:=(o,C))|>.mpr ⟨p,w⟩];rfl
def Z6(w:X.mg "zip" =none)(B:fI cl X e ta)(s:fI cl X e2 tb)(x:Gl X "zip" :=by rfl)(g:dj [e,e2] X.env=(false,fX e X.env)::dj [e2] X.env:=by rfl)(f:dj [e2] X.env=(false,fX e2 X.env)::dj [] X.env:=by rfl)(hpl:(gy pos (dj [e2] X.env)).any (·.1)=false:=by rfl):
  UE cl X (.Tuple elts kk tpos) (.Call (.Name "zip" p) [e,e2] [] pos) (adf ta tb):=PI.imp (Zm x w (jl B (jl s mF f) g) g hpl) λE H R z=>by
 let⟨F i own J,I,h,k⟩:=z;refine⟨F,i,own,_,I,h,λv d y C g1 o r=>⟨y,i,own,_,I.grow g1,r,λG M u j g2 n c=> ?_⟩⟩;split at c
 .rename_i l m;let⟨a us,rfl,f1,q⟩:=Hn (o.mono g2.le);let⟨b t,rfl,f2,A⟩:=rS n;exact⟨a,b,us,t,rfl,.inl (g2.ext a _ f1).rd,qJ.of (g2.ext.tup f2),k _ _ u j (g1.trans g2) (WD f1 q f2 A c.1) c.2⟩
 .exact c.elim
end
section
def HP{prog:fY}{w:iu}{A:i6}{s:dJ}{id:String}{args:Args}{b:Builtin}{R:Result->dJ->Prop}(he:entryFor table id=some b)(a:plainId id=true)
  (h:dR (dZ prog w) A.in1 (b args) (λfin s'=>match fin with| .done f=>R (.ok f) s'| .again c'=>c'.quiet=true/\ou (dZ prog w) A c' R s') (λe s'=>R (.error e) s') s):ou (dZ prog w) A (.builtin id args) R s:=
 yG he ((Lu a args).symm▸h)
structure UI(prog:fY)(w:iu)(A:i6)(its:mj)(I S l:eB)(bt:Nat->Nat->Bool)(Hk:iZ->Prop):Prop where
 hd:A.in1.handled=none
 lI:l≠I
 SI:S≠I
 Sl:S≠l
 keep: ∀h h',Hk h->(∀b o,b≠I->b≠S->h.get? b=some o->h'.get? b=some o)->Hk h'
 cmp: ∀(s:dJ) i j u v (Q:gY) (E:gY),Hk s.heap->its[i]?=some u->its[j]?=some v->Q (.bool (bt i j)) s->dR (dZ prog w) A.in1 (IP .Lt u v) Q E s
def PJ(M:UI prog w A its I S l bt Hk): ∀(k j:Nat) (s:dJ) (v:eA) (c:Nat),its.size-(j+1)=k->j+1<=its.size->s.heap.IsListIter I l (j+1)->s.heap.IsList l its->Hk s.heap->its[lY bt j]?=some v->
  s.heap.get? S=some {cls:= .type "list",dict:=none,data:= .seq #[v,v] c,slots:= #[]}->
  (∀u h' tk,its[lY bt (its.size-1)]?=some u->(∀b o,b≠I->b≠S->s.heap.get? b=some o->h'.get? b=some o)->R (.ok (.ret u)) {s with heap:=h',toks:=tk})->
  ou (dZ prog w) A (.builtin "min.loop" ⟨[.ref I,.none,.ref S],[]⟩) R s:=by
 intro k;induction k with
 |zero=>
  intro j s v c hk O E r F t i p;have e:j+1=its.size:=by lia
  refine HP FE mx (c9 (m:=Bw (.ref S)) (jK i rfl (c9 (m:=tryCatch (mX (.ref I)) _) (ux (Vb M.hd E r (by simp;lia) λh f=>c9 (m:=QV S λ_=> #[]) (m9 (f S _ M.SI i) rfl (c9 (pW (de ?_)))))))));have P:its.size-1=j:=by lia
  exact p v _ s.toks (by rw[P];exact t) λb o d g q=>(iU _ _ (gk g)).trans (f b o d q)
 |succ k ih=>
  intro j s v c hk O E r F t i p;have lt:j+1<its.size:=by lia
  have G:(toString "min" ++toString ".loop" :String)= "min.loop" :=by decide
  refine HP FE mx (c9 (m:=Bw (.ref S)) (jK i rfl (c9 (m:=tryCatch (mX (.ref I)) _) (ux (yl E r (x:=its[j+1]) (by simp[lt]) λh H f=> ?_)))));have N:its[j+1]?=some its[j+1]:=by simp[lt]
  have z:=f.extBut S _ M.SI i;have J:h.IsList l its:=r.extBut f.extBut M.lI;have y:Hk h:=M.keep _ _ F λb o d _ q=>f.extBut b o d q;show dR _ A.in1 (tryCatch (qm [its[j+1],its[j+1]] (IP .Lt its[j+1] v>>=_)) _>>=_) _ _ _;refine c9 (ux (iF (c9 (M.cmp {s with heap:=h} (j+1) (lY bt j) _ v _ _ y N t (c9 (iF (jb (c9 (pW (de ?_))))))))));generalize hb:bt (j+1) (lY bt j)=better;cases better with
  |true=>
   dsimp only[jv];refine c9 (m9 z rfl (c9 (pW ?_)));have a: ∀b o,b≠S->h.get? b=some o->(h.update S (lV λ_=> #[its[j+1],its[j+1]])).get? b=some o:=λb o n q=>(iU _ _ (gk n)).trans q;rw[G];refine de ⟨ly mx _,ih (j+1) _ its[j+1] _ (by lia) lt (H.at λo q=>a _ o (gk M.SI) q) (J.at λo q=>a _ o (gk M.Sl) q) (M.keep _ _ y λb o _ g q=>a b o g q) ?_ (i8 _ z rfl) λu B tk g2 C=> ?_⟩
   .simp only[lY,hb,jv];exact N
   .exact p u B tk g2 λb o d g q=>C b o d g (a b o g (f.extBut b o d q))
  |false=>
   rw[di dY];refine c9 (pW ?_);rw[G];refine de ⟨ly mx _,ih (j+1) _ v c (by lia) lt H J y ?_ z λu B tk g2 C=> ?_⟩
   .simp only[lY,hb,eW,hJ];exact t
   .exact p u B tk g2 λb o d g q=>C b o d g (f.extBut b o d q)
end
section
variable {Hk:iZ->Prop}
def PK(M:UI prog w A its I S l bt Hk)(p:0<its.size)(E:s.heap.IsListIter I l 0)(i:s.heap.IsList l its)(v:Hk s.heap)(k:s.heap.get? S=some {cls:= .type "list",dict:=none,data:= .seq #[] c,slots:= #[]})
  (y: ∀u h' tk,its[lY bt (its.size-1)]?=some u->(∀b o,b≠I->b≠S->s.heap.get? b=some o->h'.get? b=some o)->R (.ok (.ret u)) {s with heap:=h',toks:=tk}):ou (dZ prog w) A (.builtin "min.loop" ⟨[.ref I,.none,.ref S],[]⟩) R s:=by
 have j:its[0]?=some its[0]:=by simp[p]
 refine HP FE mx (c9 (m:=Bw (.ref S)) (jK k rfl (c9 (m:=tryCatch (mX (.ref I)) _) (ux (yl E i (x:=its[0]) j λd z e=> ?_)))));have h:=e.extBut S _ M.SI k;have B:d.IsList l its:=i.extBut e.extBut M.lI;have r:Hk d:=M.keep _ _ v λb o g _ q=>e.extBut b o g q;have a: ∀b o,b≠S->d.get? b=some o->(d.update S (lV λ_=> #[its[0],its[0]])).get? b=some o:=λb o n q=>(iU _ _ (gk n)).trans q;refine c9 (m:=QV S λ_=> #[its[0],its[0]]) (m9 h rfl ?_);refine de ⟨ly mx _,PJ M _ 0 _ its[0] _ rfl p (z.at λo q=>a _ o (gk M.SI) q) (B.at λo q=>a _ o (gk M.Sl) q) (M.keep _ _ r λb o _ f q=>a b o f q) j (i8 _ h rfl) λu t tk g2 C=> ?_⟩;exact y u t tk g2 λb o g f q=>C b o g f (a b o f (e.extBut b o g q))
def SO(hd:A.in1.handled=none)(d:s.heap.IsList l its)(z:0<its.size)(r:Hk s.heap)(keep: ∀h h',Hk h->(∀b o,b<s.heap.objs.size->h.get? b=some o->h'.get? b=some o)->Hk h')
  (cmp: ∀(s:dJ) i j u v (Q:gY) (E:gY),Hk s.heap->its[i]?=some u->its[j]?=some v->Q (.bool (bt i j)) s->dR (dZ prog w) A.in1 (IP .Lt u v) Q E s)
  (k: ∀u h' tk,its[lY bt (its.size-1)]?=some u->(∀b o,s.heap.get? b=some o->h'.get? b=some o)->Q u {s with heap:=h',toks:=tk}):dR (dZ prog w) A (call (.builtin "min") [.ref l]) Q E s:=by
 have t:(toString "min" ++toString ".loop" :String)= "min.loop" :=by decide
 refine call_function_tree F.kind_min F.plain_min F.entry_min (F.args_min1 _) ?_;refine c9 (rD (show YG "min" ["key","default"] 0 ⟨[],[]⟩=pure [none,none]from rfl) (c9 (de (c9 (vm d (c9 (gq ?_)))))));have p:l<s.heap.objs.size:=by let⟨(_),e,_⟩:=d;exact dD e
 have f: ∀(a:xG),(s.heap.push a).objs.size=s.heap.objs.size+1:=λa=>fR ..;rw[t];have M:UI prog w A its s.heap.objs.size (s.heap.objs.size+1) l bt Hk:=
  ⟨hd,eG p,jx (qr _),jx (gn p),λh h' x y=>keep h h' x λb o n q=>y b o (eG n) (eG (gn n)) q,cmp⟩
 have up: ∀{a b:xG} {c:eB} {o:xG},s.heap.get? c=some o->((s.heap.push a).push b).get? c=some o:=λq=>dc _ (dc _ q);refine de ⟨ly mx _,?_⟩;dsimp only;rw[f];refine PK M z ⟨_,dc _ (dw _ rfl),rfl,rfl⟩ (d.at λo q=>up q) (keep _ _ r λb o _ q=>up q) (by rw[<-f];exact dw _ rfl) λu h' tk g x=>k u h' tk g λb o q=> ?_;have m:b<s.heap.objs.size:=dD q;exact x b o (eG m) (eG (gn m)) (up q)
end
def y4(a b:Int×Int):Bool:=decide (a.1<b.1)||(decide (a.1=b.1)&&decide (a.2<b.2))
def Hz:y4 a b=true↔a.1<b.1\/(a.1=b.1/\a.2<b.2):=by simp[y4]
def Mj(a b c d:Int):HT.lexLt [a,b] [c,d]=y4 (a,b) (c,d):=by
 rw[HT.xZ];by_cases e:a=c
 .subst e;rw[dq rfl,HT.xZ];by_cases e2:b=d
  .subst e2;rw[dq rfl];simp[y4,HT.xo]
  .rw[di e2];simp[y4]
 .rw[di e];simp[y4,e]
def Il{v:Nat->Int×Int}: ∀k,lY (λi j=>y4 (v i) (v j)) k<=k/\ ∀j,j<=k->y4 (v j) (v (lY (λi j=>y4 (v i) (v j)) k))=false:=by
 intro k;induction k with
 |zero=>exact⟨dI _,λj a=>by
  have:j=0:=by lia
  subst this;simp[lY,y4]⟩
 |succ k ih=>
  let⟨c,b⟩:=ih;cases hb:y4 (v (k+1)) (v (lY (λi j=>y4 (v i) (v j)) k))with
  |true=>
   have e:lY (λi j=>y4 (v i) (v j)) (k+1)=k+1:=by simp only[lY,hb,jv]
   rw[e];refine⟨dI _,λj a=> ?_⟩;cases hc:y4 (v j) (v (k+1))with
   |false=>rfl
   |true=>
    by_cases ej:j=k+1
    .subst ej;rw[Hz]at hc;lia
    .have q:=b j (by lia);have d:y4 (v j) (v (lY (λi j=>y4 (v i) (v j)) k))=true:=by rw[Hz]at hb hc⊢;lia
     grind
  |false=>
   have e:lY (λi j=>y4 (v i) (v j)) (k+1)=lY (λi j=>y4 (v i) (v j)) k:=by simp only[lY,hb,eW,hJ]
   grind
section
def ab9(K:dh):List V->Hp->VK->Prop:=λb H Q=> ∃(a:eB) (ps:List (eB×Int×Int)),b=[.ref a]/\rB K H a (ps.map λp=>V.ref p.1)/\(∀p,p∈ps->H p.1=some (.tup [.int p.2.1,.int p.2.2]))/\0< ~~~ps/\
 ∀p,p∈ps->(∀q,q∈ps->y4 q.2 p.2=false)->Q (.ref p.1) H
theorem Nr{α:Type}{f:α->eB}: ∀{ps:List α} {us:fM},gF (ps.map λp=>V.ref (f p)) us->us=ps.map λp=>eD (f p)
 | [],us,r=>by cases r;rfl
 |p::ps,us,r=>by
  cases r with
  |cons h t=>cases h;rw[dt,<-Nr t]
def W3(hc:X.calm=true)(hu:X.A.units+16<jc):nM X (.builtin "min") (ab9 X.K):=by
 intro pz s σ H vs us Q I r h;let⟨a ps,rfl,O,P,h0,q⟩:=h;let⟨(T),F,Y,_⟩:=I.list O;rw[gF.aQ r];have E:=Nr F;subst E;have w:(ps.map λp=>eD p.1).toArray.size= ~~~ps:=by simp
 refine SO (bt:=λi j=>y4 (ps.getD i (0,0,0)).2 (ps.getD j (0,0,0)).2) (Hk:=λh=> ∀p,p∈ps->p.1<s.heap.objs.size/\ ∃t u,vv h p.1 #[.int p.2.1 t,.int p.2.2 u])
  (I.ok.hd hc) Y.isList (by rw[w];exact h0) (λp c=> ?_) (λh h' x y p c=> ?_) (λs2 i j u v Q2 E2 x gi gj J=> ?_) λu h' tk g x=> ?_
 .obtain⟨C,G,n,_⟩:=I.tuple (qJ.of (P p c));let⟨t u,e⟩:=gF.cj G;subst e;exact⟨n.lt,t,u,n⟩
 .obtain⟨l,t,u,o,M,d⟩:=x p c;exact⟨l,t,u,o,y _ _ l M,d⟩
 .have b: ∀(i:Nat) (u:eA),(ps.map λp=>eD p.1).toArray[i]?=some u->u= .ref (ps.getD i (0,0,0)).1/\ps.getD i (0,0,0)∈ps:=λi u g=>by
   have g':(ps[i]?).map (λp=>eD p.1)=some u:=by simpa using g
   cases e:ps[i]? with
   |none=>rw[e]at g';cases g'
   |some p=>
    rw[e]at g';have f:ps.getD i (0,0,0)=p:=by rw[dG,e];rfl
    rw[f];exact⟨(ft g').symm,eS e⟩
  let⟨rfl,B⟩:=b i u gi;let⟨rfl,R⟩:=b j v gj;obtain⟨_,t1,u1,k1⟩:=x _ B;obtain⟨_,t2,u2,k2⟩:=x _ R;refine HT.Mh k1 k2 (.cons _ _ (.cons _ _ .nil)) (.cons _ _ (.cons _ _ .nil)) (by show X.A.units+1<jc;lia) ?_;rw[Mj];exact J
 .rw[w]at g;obtain⟨U,k⟩:=Il (~~~ps-1);generalize lY (λi j=>y4 (ps.getD i (0,0,0)).2 (ps.getD j (0,0,0)).2) (~~~ps-1)=m at g U k;have g':(ps[m]?).map (λp=>eD p.1)=some u:=by simpa using g
  cases e:ps[m]? with
  |none=>rw[e]at g';cases g'
  |some p=>
   rw[e]at g';have d:ps.getD m (0,0,0)=p:=by rw[dG,e];rfl
   have f:=(ft g').symm;subst f;refine⟨.ref p.1,H,I.kept x,rfl,q p (eS e) λy hy=> ?_⟩;obtain⟨j,N,S⟩:=List.getElem_of_mem hy;have z:=k j (by lia);have Z:ps.getD j (0,0,0)=y:=by rw[dG,df N,S];rfl
   rw[d,Z]at z;exact z
def aca(K:dh):List V->Hp->VK->Prop:=λb H Q=> ∃(a:eB) (ns:jn),b=[V.ref a]/\qJ K H a (ns.map V.int)/\0< ~~~ns/\ ∀m,m∈ns->(∀y,y∈ns->y<=m)->Q (.int m) H
def W4(B:X.calm=true):nM X (.builtin "max") (aca X.K):=by
 intro pz s G H J us Q I r h;let⟨a ns,rfl,p,E,q⟩:=h;let⟨(u),l,f,_⟩:=I.tuple p;rw[gF.aQ r];have k:=l.ints;let⟨(c),e⟩:=k.allInts.items;have d:numsOf (uC c).toList=ns:=by rw[<-e];exact k.numsOf
 rw[QH]at d;subst d;have tt:s.heap.IsTuple a (uC c):=by rw[<-e];exact f
 have lt:=f.lt;have hsz:0<c.size:=by simpa using E
 refine call_max_walk (uA tt ⟨s.heap.objs.size,_,_,(uC c).size,_,_,λi j=>decide (agg c i>agg c j),rfl,Walks.tuple (A:=X.A.in1) (I.ok.hd B) s.heap.objs.size a (eG lt) (uC c),⟨⟨_,dw _ rfl,rfl,rfl⟩,tt.push _⟩,?_,by simpa [uC]using hsz,CmpOf.ints_gt (agg c) (λi v h=>Xv h),λv h' tk w hk=> ?_⟩)
 .intro b g;rw[fR]
  grind
 .obtain⟨t,rfl⟩:=Xv w;have x:(uC c).size=c.size:=by simp[uC]
  rw[x];let⟨F,n⟩:=argBest_gt (agg c) (c.size-1);refine⟨.int _,H,I.kept λb o z=> ?_,⟨t,rfl⟩,q _ ?_ λy C=> ?_⟩
  .have g:=dD z;exact hk b o (by simp only[eM,l9,AO];exact eG g) (dc _ z)
  .rw[Xu];exact XA (by rw[dA,fB];lia)
  .obtain⟨j,m,rfl⟩:=mem_getD C;rw[dA,fB]at m;rw[<-Xu];exact n j (by lia)
end
section
def KG(H:s.TypeIs (.ref r) T)(J:(jO T==jO "list")=false)(Y:(jO T==jO "tuple")=false)(ne:S≠r)
  (hit:dR (dZ prog w) A.in1 (yn (.ref r)) (λj a=> ∃I p x n P St,j= .ref I/\agq prog w A.in1 I p x n P St/\St 0 a.heap/\S∉p/\n<=eQ/\a.heap.get? S=some {cls:= .type "list",data:= .seq #[] c0}/\
   dR (dZ prog w) A.in1 (kb (.ref r)) (λ_ E=>(∃tk,E={a with toks:=tk})/\ ∀h' tk d c,(∀b o,b∉x->b≠S->a.heap.get? b=some o->h'.get? b=some o)->h'.get? S=some {cls:= .type "list",dict:=none,data:= .seq d c,slots:= #[]}->
    ahy P d n->R (.ok (.ret res)) {a with heap:=h',toks:=tk}) (λe i=>R (.error e) i) a) (λe i=>R (.error e) i) s):
  dR (dZ prog w) A.in1 (aeH (.ref S) (.ref r) res) (λfin i=>match fin with| .done f=>R (.ok f) i| .again C=>C.quiet=true/\ou (dZ prog w) A C R i) (λe i=>R (.error e) i) s:=by
 refine c9 (Fv H ?_);have G:BC (.ref S) (.ref r)=false:=by simp[BC,ne]
 rw[G,J,Y];refine c9 (jo hit λj a u=> ?_);let⟨I p x n P Sk,e,W,st,t,N,m,hint⟩:=u;subst e;refine c9 (iF (jo hint λroom E u=> ?_));obtain⟨⟨l,U⟩,F⟩:=u;subst U;have sw:=λh=>t (W.sub _ h);have go: ∀(h:iZ) (c tk:Nat),(∀b o,b≠S->a.heap.get? b=some o->h.get? b=some o)->h.get? S=some {cls:= .type "list",data:= .seq #[] c}->
   ou (dZ prog w) A (.builtin "list.extend.loop" ⟨[.ref S,.ref I,res],[]⟩) R {a with heap:=h,toks:=tk}:=λh c tk k g=>by
  have v:=W.frame 0 _ _ st λb M o q=>k b o (λz=>t (by rw[<-z];exact M)) q;refine codeAny_extend_loopS W.toS N S t res n 0 {a with heap:=h,toks:=tk} #[] c rfl (kW _) v g (ItemsOf.nil _) λB d Q y g3 O=> ?_;rw[Moved.eq_with y];refine F B.heap B.toks d Q (λb o n1 X q=>y.heap b o (λZ=> ?_) (k b o X q)) g3 O
  grind
 refine yD (λ_=>c9 (aaW (c9 ?_))) (λ_=>de ⟨ly Vn _,go _ c0 l (λb o _ q=>q) m⟩);show dR _ _ (QV S (·.push .none)>>=λ_=>QV S (·.pop)) _ _ _;have g2:=i8 (lV (·.push mw)) m rfl;have g3:=i8 (lV (·.pop)) g2 rfl;refine c9 (m9 m rfl (m9 g2 rfl (de ⟨ly Vn _,go _ _ l (λb o n q=> ?_) g3⟩)));exact(iU _ _ (gk n)).trans ((iU _ _ (gk n)).trans q)
end
section
def Gx(a:s.TypeIs (.ref d) "dict")(h:Q false s):dR (dZ prog w) A (kb (.ref d)) Q E s:=
 PySem.W.kdl_hint_dict a h
def LS:EJ (.type "list_reverseiterator") "__len__" =pure none:=by rw[aej,Ve];kernel_rfl
def RW:EJ (.type "list_reverseiterator") "__length_hint__" =pure (some (.builtin "list_reverseiterator.__length_hint__")):=by rw[aej,Ve];kernel_rfl
def Tb(a:s.TypeIs (.ref d) "list_reverseiterator")(h:Q false s):dR (dZ prog w) A (kb (.ref d)) Q E s:=by
 refine c9 (yC a LS ?_);refine c9 (yC a RW ?_);generalize hid:("list_reverseiterator.__length_hint__" :String)=id0
 wp_delta
 rw[show splitId id0=some ("list_reverseiterator","__length_hint__")from by subst hid;decide+kernel];subst hid;refine c9 (oq (T:= "list_reverseiterator") (b:=true) a (by rw[isSubtype_type];kernel_rfl) ?_);refine yD (λq=>absurd q (by decide)) (λ_=> ?_);refine yD (λ_=> ?_) (λq=>absurd (by decide+kernel) q);refine yD (λq=>absurd q (by decide+kernel)) (λ_=> ?_);exact de h
end
section
def Lz(n:A.handled=none)(I d:eB)(ne:d≠I)(o:xG)(c:o.data= .dict es ep):
  agq prog w A I [I,d] [I] es.size (λi v=> ∃en,es[i]?=some en/\v=en.key) (λi h=>h.IsKeyIter I d i es.size ep/\h.get? d=some o) where
 sub:=λb a=>by rw[ia]at a;rw[a];exact fk ..
 frame:=λ_ _ _ st k=>⟨st.1.at λo e=>k I (by simp) o e,k d (by simp) o st.2⟩
 item:=λi s Q E m st f=>xm st.1 st.2 c rfl (en:=es[i]) (by simp[m]) λh' g l=>
  f _ h' s.toks ⟨es[i],by simp[m],rfl⟩ ⟨g,l.extBut d o ne st.2⟩ λb j a e=>l.extBut b j (λz=>a (by rw[z];exact oU _)) e
 done:=λs Q E st f=>t9 n st.1 st.2 c rfl (dI _) λh' p=>f h' s.toks λb j a e=>p b j (λz=>a (by rw[z];exact oU _)) e
 self:=λ_ s Q E st h=>Xo st.1 h
end
section
def Gq(j:s.TypeIs (.ref r) T)(t:(jO T==jO "list")=false)(C:(jO T==jO "tuple")=false)
  (hit: ∀h0:iZ,(∀b o,s.heap.get? b=some o->h0.get? b=some o)->h0.objs.size=s.heap.objs.size+1->
   dR (dZ prog w) A.in1.in1 (yn (.ref r)) (λg d=> ∃I h i n P St,g= .ref I/\agq prog w A.in1.in1 I h i n P St/\St 0 d.heap/\s.heap.objs.size∉h/\n<=eQ/\(∀o,h0.get? s.heap.objs.size=some o->d.heap.get? s.heap.objs.size=some o)/\
    dR (dZ prog w) A.in1.in1 (kb (.ref r)) (λ_ s2=>(∃tk,s2={d with toks:=tk})/\ ∀h' tk acc c,(∀b o,b∉i->b≠s.heap.objs.size->d.heap.get? b=some o->h'.get? b=some o)->
     h'.get? s.heap.objs.size=some {cls:= .type "list",dict:=none,data:= .seq acc c,slots:= #[]}->ahy P acc n->Q (.ref s.heap.objs.size) {d with heap:=h',toks:=tk}) E d) E {s with heap:=h0}):
  dR (dZ prog w) A (call (.type "list") [.ref r]) Q E s:=by
 have z:r<s.heap.objs.size:=by let⟨(o),e,_⟩:=j;exact dD e
 refine ago (Q₁:=λobj a=>obj= .ref s.heap.objs.size/\a={s with heap:=s.heap.push {cls:= .type "list",data:= .seq #[]}}) F.called_list (F.typeCall_list_1 _) F.entry_list_init (code_list_new _ ⟨rfl,rfl⟩) λobj a f=> ?_;let⟨rfl,rfl⟩:=f;have g1:(s.heap.push {cls:= .type "list",data:= .seq #[]}).get? s.heap.objs.size=some {cls:= .type "list",data:= .seq #[]}:=dw _ rfl;refine⟨⟨_,g1,rfl⟩,F.args_list_init_2 _ _,?_⟩;refine c9 (c9 (jK g1 rfl (de ?_)));have g2:=i8 (lV (λ_=>(#[]:Array eA))) g1 rfl;have old: ∀b o,s.heap.get? b=some o->((s.heap.push {cls:= .type "list",data:= .seq #[]}).update s.heap.objs.size (lV (λ_=>(#[]:Array eA)))).get? b=some o:=λb o q=>
  (iU _ _ (jx (dD q))).trans (dc _ q)
 refine c9 (m9 g1 rfl (c9 (pW ?_)));let⟨(y),m,v⟩:=j;refine KG ⟨y,old _ _ m,v⟩ t C (jx z) (iK (hit _ old (by rw[Heap.size_update,fR])) (λg d ⟨I,h,i,n,P,B,x,G,k,l,u,p,J⟩=>⟨I,h,i,n,P,B,x,G,k,l,u,p _ g2,?_⟩) λe H q=>q)
 grind
end
theorem tT: ∀{c:List V} {us:fM},~~~c= ~~~us->(∀(i:Nat) x u,c[i]?=some x->us[i]?=some u->RelV x u)->gF c us
 | [],[],_,_=> .nil
 | [],_::_,h,_=>by simp at h
 |_::_,[],h,_=>by simp at h
 |x::c,u::us,h,k=> .cons (k 0 x u rfl rfl) (tT (by simpa using h) λi y v a b=>k (i+1) y v (by simpa using a) (by simpa using b))
section
def Zd:List V->Hp->VK->Prop:=λb H Q=> ∃d a,b=[.ref d]/\Rd H d (.dK a)/\ ∀l,H l=none->Q (.ref l) (upd H l (.lst (a.map λp=>kV p.1)))
def Ui(R:X.calm=true):nM X (.type "list") Zd:=by
 intro pz s σ H xs us Q I r h;let⟨d g,rfl,hd,q⟩:=h;rw[gF.aQ r];obtain⟨z,N,m,rel,T⟩:=xx I.ab hd;let⟨o P y,j,t,Z,O,M,J⟩:=id T;have n:s.heap.DictAt (jB X.prog X.w) d m y:=⟨o,P,j,t,Z,O,M,J⟩;have ld:=dD j;have hl:= ~~~rel;refine Gq ⟨o,j,t.1⟩ (by decide) (by decide) λh0 old C=> ?_;have f:=n.at' λo e=>old d o e;refine wpAny_pyIter_dict N f ⟨s.heap.objs.size+1,[s.heap.objs.size+1,d],[s.heap.objs.size+1],~~~m,_,_,by rw[C],Walks.dictKeys (A:=X.A.in1.in1) (I.ok.hd R) (s.heap.objs.size+1) d (eG (gn ld)) m y,⟨⟨_,by rw[<-C];exact dw _ rfl,rfl,rfl⟩,f.at' λo e=>dc _ e⟩,?_,by lia,λo e=>dc _ e,?_⟩
 .intro G
  simp_all
 .refine Gx ⟨o,dc _ (old _ _ j),t.1⟩ ⟨⟨s.toks,rfl⟩,λh' tk l c U Y E=> ?_⟩;refine⟨.ref s.heap.objs.size,_,I.laid (o:= .lst (g.map λp=>kV p.1)) (λb S e=>U b S ?_ (eG (dD e)) (dc _ (old _ _ e))) (dI _) ⟨by rw[dA];lia,l.toList,c,tT ?_ λi x u a b=> ?_,Y⟩,rfl,q _ (I.ab.fresh (dI _))⟩
  .rw[ia];exact eG (gn (dD e))
  .have F:=E.1
   simp_all
  .rw[dX]at a;cases ek:g[i]? with
   |none=>rw[ek]at a;cases a
   |some p=>rw[ek]at a;cases a;let⟨(u'),F,e8⟩:=Mm rel ek;let⟨k x,B,v⟩:=E.2 i u (by rw[<-pZ];exact b);rw[F]at B;cases B;exact Dc v
end
section
def RG(te:TE):TE:=λd H Q=>te d H λx b=> ∃a c,x= .ref a/\Rd b a (.lst c)/\ ∀l,b l=none->Q (.ref l) (upd b l (.lst c.reverse))
def LZ(k:X.calm=true)(E:X.mg "list" =none)(F:X.mg "reversed" =none)(he:PE X e te)(M:Gl X "list" :=by rfl)(J:Gl X "reversed" :=by rfl)(R:dj [e] X.env=(false,fX e X.env)::dj [] X.env:=by rfl)
  (hpl:(gy pos2 (dj [] X.env)).any (·.1)=false:=by rfl)(m:dj [.Call (.Name "reversed" p2) [e] [] pos2] X.env=(false,fX (.Call (.Name "reversed" p2) [e] [] pos2) X.env)::dj [] X.env:=by rfl)(t:(gy pos (dj [] X.env)).any (·.1)=false:=by rfl):
  PE X (.Call (.Name "list" p) [.Call (.Name "reversed" p2) [e] [] pos2] [] pos) (RG te):=by
 intro pz s P H Q I h;refine kg (sA I M E boot_list (gP ?_ m t));rw[m];show dR _ _ (abx ((false,fX (.Call (.Name "reversed" p2) [e] [] pos2) X.env)::gy pos (dj [] X.env))) _ _ s;refine kZ (kg (sA I J F Ex (gP ?_ R hpl)));rw[R];show dR _ _ (abx ((false,fX e X.env)::gy pos2 (dj [] X.env))) _ _ s;refine kZ (jo (he pz s P H _ I h) λu f hx=> ?_);obtain⟨x,H1,y,U,a,O,ex,hd,q⟩:=hx;refine mQ ?_;subst ex;cases (show u=eD a from U);obtain⟨z,d,n,T,el,ge⟩:=Inv.cE y hd;have Y:=dD ge;refine call_reversed_list ⟨_,ge,rfl,n,rfl⟩ (mQ ?_);have j:(f.heap.push (UT a (((d.toArray.size:Nat):Int)-1))).objs.size=f.heap.objs.size+1:=fR ..;have g: ∀b o,f.heap.get? b=some o->(f.heap.push (UT a (((d.toArray.size:Nat):Int)-1))).get? b=some o:=λb o q=>dc _ q;have v:(f.heap.push (UT a (((d.toArray.size:Nat):Int)-1))).get? f.heap.objs.size=some (UT a (((d.toArray.size:Nat):Int)-1)):=dw _ rfl;refine Gq ⟨_,v,rfl⟩ (by decide) (by decide) λN old sz=> ?_;have l:N.IsRevIter f.heap.objs.size a (((d.toArray.size:Nat):Int)-1):=⟨_,old _ _ v,rfl,rfl⟩;have Z:N.IsList a d.toArray:=⟨_,old _ _ (g _ _ ge),rfl,n,rfl⟩;have W:=Walks.listRev (prog:=X.prog) (w:=X.w) (A:=X.A.in1.in1) (y.ok.hd k) f.heap.objs.size a (eG Y) d.toArray;have B:N.IsRevIter f.heap.objs.size a (((d.toArray.size:Nat):Int)-1-((0:Nat):Int)):=by simpa using l
 refine wpAny_pyIter_revIter l ⟨f.heap.objs.size,_,_,_,_,_,rfl,W,⟨kW _,B,Z⟩,?_,by rw[eJ];lia,λo q=>q,Tb l.typeIs ⟨⟨f.toks,rfl⟩,λh' tk r c k1 k2 S=> ?_⟩⟩
 .grind
 .have G:h'.get? (f.heap.objs.size+1)=some {cls:= .type "list",dict:=none,data:= .seq r c,slots:= #[]}:=by rw[<-j];exact k2
  show EP X pz P Q (.ref (f.heap.push (UT a (((d.toArray.size:Nat):Int)-1))).objs.size) _;rw[j];have sx:=S.1;refine⟨.ref (f.heap.objs.size+1),_,y.laid (o:= .lst O.reverse) (λb ob q=>k1 b ob ?_ ?_ (old _ _ (g _ _ q))) (QN _) ⟨by rw[List.length_reverse];exact z,r.toList,c,tT ?_ λi x u g1 g2=> ?_,G⟩,rfl,q _ (y.ab.fresh (QN _))⟩
  .rw[ia];exact eG (dD q)
  .show b≠(f.heap.push (UT a (((d.toArray.size:Nat):Int)-1))).objs.size;rw[j];exact eG (gn (dD q))
  .grind
  .have hi:i< ~~~O:=by have:=(dH.mp g1).1;simpa using this
   rw[List.getElem?_reverse hi]at g1;have w1:=S.2 i u (by rw[<-pZ];exact g2);have C:d[~~~d-1-i]?=some u:=by simpa using w1
   rw[<-el]at C;let⟨(u'),a1,a2⟩:=T.get g1;rw[a1]at C;cases C;exact a2
end
section
def aab:G1:=λx Q=>match x with
 | .lst l=>Q (.lst l.reverse)
 |_=>False
def L1(h:X.mg "list" =none)(i:X.mg "reversed" =none)(b:X.calm=true)(he:wo cl X e te)(m:Gl X "list" :=by rfl)(j:Gl X "reversed" :=by rfl)(q:dj [e] X.env=(false,fX e X.env)::dj [] X.env:=by rfl)
  (hpl:(gy pos2 (dj [] X.env)).any (·.1)=false:=by rfl)(g:dj [.Call (.Name "reversed" p2) [e] [] pos2] X.env=(false,fX (.Call (.Name "reversed" p2) [e] [] pos2) X.env)::dj [] X.env:=by rfl)(c:(gy pos (dj [] X.env)).any (·.1)=false:=by rfl):
  fI cl X (.Call (.Name "list" p) [.Call (.Name "reversed" p2) [e] [] pos2] [] pos) (BZ aab te):=PE.imp (LZ b h i he m j q hpl g c) λy H Q w=>by
 let⟨F u own z,I,t,k⟩:=w;refine⟨F,u,own,_,I,t,λv d A x g1 o f=> ?_⟩;unfold aab at f;split at f
 .obtain⟨a,us,rfl,s,r⟩:=RS o g1.ext;exact⟨a,us,rfl,s,λl n=>k _ _ _ _ (g1.trans (md g1.ext n r.reverse).1) (md g1.ext n r.reverse).2 f⟩
 .exact f.elim
def Ts:G1:=λx Q=>match x with
 | .dic false l=>Q (.lst (l.map (·.1)))
 |_=>False
def So(j:X.mg "list" =none)(v:X.calm=true)(w:wo cl X e t)(c:Gl X "list" :=by rfl)(he:dj [e] X.env=(false,fX e X.env)::dj [] X.env:=by rfl)(hpl:(gy pos (dj [] X.env)).any (·.1)=false:=by rfl):
  fI cl X (.Call (.Name "list" p) [e] [] pos) (BZ Ts t):=by
 refine t6 (Ui v) (λF H x d A Q e r h k=> ?_) j boot_list w c (by decide) (by decide) he hpl;unfold Ts at h;split at h
 .rename_i m;let⟨a b,rfl,s,r⟩:=Cj r e;refine⟨a,b,rfl,s,λl n=> ?_⟩;have i:=r.map (S:=k7 (qb X cl) F) (f:=λp=>kV p.1) (g:=λq=>q.1) λp q o=>by obtain⟨⟨z,u,y⟩,_⟩:=o;rw[u,y];exact .int z
  exact k _ _ _ _ (md e n i).1 (md e n i).2 h
 .exact h.elim
def pairD(p:Int×Int):D:= .tup [.int p.1,.int p.2]
def Tq:G1:=λx Q=>match x with
 | .lst l=> ∃ps:List (Int×Int),l=ps.map pairD/\0< ~~~ps/\ ∀m,m∈ps->(∀y,y∈ps->y4 y m=false)->Q (pairD m)
 |_=>False
theorem Gi: ∀{us:List V} {ps:List (Int×Int)},oW F H->iE T F us (ps.map pairD)-> ∃b:List (eB×Int×Int),us=b.map (λq=>V.ref q.1)/\b.map (·.2)=ps/\ ∀q,q∈b->H q.1=some (.tup [.int q.2.1,.int q.2.2])/\k7 T F (.ref q.1) (pairD q.2)
 |us,[],e,r=>by
  have:us=[]:=fh.af r
  simp_all
 |us,p::ps,e,r=>by
  let⟨u k,rfl,c,f⟩:=fh.cons_right (show iE T F us (pairD p::ps.map pairD)from r);let⟨(b),h,j,l⟩:=Gi e f;let⟨a m,rfl,f1,i⟩:=rS c;have g:=ud (ns:=[p.1,p.2]) i;subst g;refine⟨(a,p)::b,by rw[h];rfl,by rw[<-j];rfl,λq d=> ?_⟩;rcases eM.mp d with z|z
  .subst z;exact⟨e.tup f1,c⟩
  .exact l q z
def V5(u:X.mg "min" =none)(v:X.calm=true)(m:X.A.units+16<jc)(w:wo cl X e t)(f:Gl X "min" :=by rfl)(he:dj [e] X.env=(false,fX e X.env)::dj [] X.env:=by rfl)(hpl:(gy pos (dj [] X.env)).any (·.1)=false:=by rfl):
  fI cl X (.Call (.Name "min" p) [e] [] pos) (BZ Tq t):=by
 refine n9 (W3 v m) (λF H x d E Q e r h k=> ?_) u (by decide+kernel) w f (by decide) (by decide) he hpl;unfold Tq at h;split at h
 .obtain⟨ps,rfl,B,o⟩:=h;let⟨a us,rfl,s,r⟩:=qe r e;let⟨(i),n,g,l⟩:=Gi e r;subst n;have C: ~~~i= ~~~ps:=by rw[<-g,dA]
  refine⟨a,i,rfl,s,λq b=>(l q b).1,by lia,λq b c=> ?_⟩;refine k _ _ F H (fT.refl e) (l q b).2 (o q.2 (by rw[<-g];exact yH b) λy j=> ?_);rw[<-g]at j;let⟨(z),hz,rfl⟩:=dk.mp j;exact c z hz
 .exact h.elim
def Tr:G1:=λx Q=>match x with
 | .tup l=> ∃ns:List Int,l=ns.map D.int/\0< ~~~ns/\ ∀m,m∈ns->(∀y,y∈ns->y<=m)->Q (.int m)
 |_=>False
def V6(i:X.mg "max" =none)(j:X.calm=true)(l:wo cl X e t)(c:Gl X "max" :=by rfl)(he:dj [e] X.env=(false,fX e X.env)::dj [] X.env:=by rfl)(hpl:(gy pos (dj [] X.env)).any (·.1)=false:=by rfl):
  fI cl X (.Call (.Name "max" p) [e] [] pos) (BZ Tr t):=by
 refine n9 (W4 j) (λF H x d n Q e r h k=> ?_) i (by decide+kernel) l c (by decide) (by decide) he hpl;unfold Tr at h;split at h
 .obtain⟨ns,rfl,f,g⟩:=h;let⟨a us,rfl,s,r⟩:=z4 r e;rw[ud r]at s;exact⟨a,ns,rfl,qJ.of s,f,λm a b=>k _ _ F H (fT.refl e) (.int _) (g m a b)⟩
 .exact h.elim
end
section
variable {s:dJ}
def qM(d:eB)(i n a:Nat):Obj:={cls:= .type "dict_valueiterator",data:= .fields #[.ref d,.int i 0,.int n 0,.int a 0]}
def wC(h:s.heap.get? it=some (qM d i n ep)):s.TypeIs (.ref it) "dict_valueiterator" :=⟨_,h,rfl⟩
theorem ad6:iR "dict_valueiterator" =false:=by decide
def Ji{c d:eB}{i n k:Nat}{od:xG}{f:ur}{R:B9->dJ->Prop}(hit:s.heap.get? c=some (qM d i n k))(h:s.heap.get? d=some od)(g:od.data= .dict f k)(hsz:f.size=n)
  (go: ∀en b,f[i]?=some en->b.get? c=some (qM d (i+1) n k)->ic c s.heap b->R (.done (.ret en.val)) {s with heap:=b})
  (stop: ∀b,f[i]?=none->ic c s.heap b->dR (dZ prog w) A (UU (.type "StopIteration") []>>=λe=>(Xs e:Sem B9)) R E {s with heap:=b}):dR (dZ prog w) A (Builtin.«dict_valueiterator.__next__» ⟨[.ref c],[]⟩) R E s:=by
 have ty:=wC hit;have neg: ¬(i:Int)<0:=by lia
 subst hsz;refine c9 (de (c9 (c9 (c9 (rC ty (de (c9 (AN hit rfl ?_))))))));refine c9 (m:=mm (.ref d)) (de (c9 (lW h g ?_)));simp only[vo,eW,hJ];refine c9 (m:=mm (.ref d)) (de (c9 (ng h g ?_)));simp only[vo,eW,hJ];refine de ?_;dsimp only[di neg,tQ];cases e:f[i]? with
 |some en=>refine c9 (c9 (rC ty (de (c9 (zG ty (c9 (m:=uB (.ref c) 1 (wx ((i:Int)+1))) (iX hit (by simp) λb g1 l=>c9 (iF ?_))))))));have g2:b.get? c=some (qM d (i+1) f.size k):=g1;have j:=wC (s:={s with heap:=b}) g2;exact c9 (zG j (c9 (zG j (rD (a:=en.val) rfl (de (go en b e g2 l))))))
 |none=>exact c9 (c9 (rC ty (de (c9 (m:=uB (.ref c) 0 .none) (uz hit rfl (by simp) (stop _ e (mP ..)))))))
def Jj{c d:eB}{i n g:Nat}{Q:Option eA->dJ->Prop}(hit:s.heap.get? c=some (qM d i n g))(h:dR (dZ prog w) A.in1 (Builtin.«dict_valueiterator.__next__» ⟨[.ref c],[]⟩) (λfin a=> ∃v,fin= .done (.ret v)/\Q (some v) a) (λe a=> ∃p o,e= .ref p/\a.heap.get? p=some o/\o.cls= .type "StopIteration" /\Q none a) s):dR (dZ prog w) A (mX (.ref c)) Q E s:=
 c9 (m:=QJ _) (wu (jq (name:=rK "__next__") (wC hit) qE (iG qE (wC hit) F.entry_dict_valueiterator_next (iK h (λ_ _ f=>by let⟨(v),k,l⟩:=f;exact⟨v,k,de l⟩) λe a f=>by let⟨p o,j,q,t,r⟩:=f;exact j▸c9 (oq (T:= "StopIteration") (b:=true) ⟨o,q,t⟩ AQ (de r))) (F.args_dict_valueiterator_next_1 _))))
def SL(hit:s.heap.get? it=some (qM d i n ep))(a:s.heap.get? d=some od)(b:od.data= .dict es ep)(hsz:es.size=n)(e:es[i]?=some en)
  (g: ∀h',h'.get? it=some (qM d (i+1) n ep)->ic it s.heap h'->Q (some en.val) {s with heap:=h'}):dR (dZ prog w) A (mX (.ref it)) Q E s:=
 Jj hit (Ji hit a b hsz (λh c q g1 f=>by cases e.symm.trans q;exact⟨_,rfl,g c g1 f⟩) λc q=>absurd (e.symm.trans q) nofun)
def WS(m:A.handled=none)(hit:s.heap.get? it=some (qM d i n ep))(f:s.heap.get? d=some od)(a:od.data= .dict es ep)(hsz:es.size=n)(e:n<=i)
  (k: ∀h',OB it s.heap h'->Q none {s with heap:=h'}):dR (dZ prog w) A (mX (.ref it)) Q E s:=
 Jj hit (Ji hit f a hsz (λt j q=>absurd (q.symm.trans (o6 (hsz▸e))) nofun) λj _ r=>CT m λl p o g c x=>⟨p,o,rfl,g,c,k l λb h n q=>x b h (r.extBut b h n q)⟩)
def LA(d:eB)(hd:(d==ir)=false):MeetsIn prog w (Builtin.«dict.values» ⟨[.ref d],[]⟩) (λ_ R s=>s.TypeIs (.ref d) "dict" /\R (.ok (.ret (.ref s.heap.objs.size))) {s with heap:=s.heap.push {cls:= .type "dict_values",data:= .fields #[.ref d]}}):=
 .of_wp λA R s a=>by let⟨ty,h⟩:=a;exact c9 (m:=FH _ _) (c9 (qK ty (de (c9 (rD (shown hd) (c9 (gq (de ⟨_,rfl,h⟩))))))))
def P2(c:s.heap.get? v=some {cls:= .type "dict_values",data:= .fields #[.ref d]})(a:s.heap.get? d=some od)(b:od.data= .dict es ep)
  (e:Q (.ref s.heap.objs.size) {s with heap:=s.heap.push (qM d 0 es.size ep)}):dR (dZ prog w) A (yn (.ref v)) Q E s:=by
 have ty:s.TypeIs (.ref v) "dict_values" :=⟨_,c,rfl⟩;refine vk ty OC (iG OC ty F.entry_dict_values_iter ?_ (F.args_dict_values_iter_1 _));refine c9 (de (c9 (m:=xg (.ref v)) (c9 (jQ c rfl (x:= .ref d) rfl (de ?_)))));refine c9 (m:=u7 "dict_valueiterator" d) (c9 (lW a b (c9 (ng a b ?_))));rw[show iR "dict_valueiterator" =false by decide];refine gq (de ⟨_,rfl,"dict_valueiterator",_,⟨_,dw _ rfl,rfl⟩,qE.lookup,?_⟩) (by simp[sizeOk,dO]);lia
theorem Ly(n:A.handled=none)(I d:eB)(ne:d≠I)(o:xG)(c:o.data= .dict es ep):
  agq prog w A I [I,d] [I] es.size (λi v=> ∃en,es[i]?=some en/\v=en.val) (λi h=>h.get? I=some (qM d i es.size ep)/\h.get? d=some o) where
 sub:=λb a=>by rw[ia]at a;rw[a];exact fk ..
 frame:=λ_ _ _ st k=>⟨k I (by simp) _ st.1,k d (by simp) o st.2⟩
 item:=λi s Q E m st f=>SL st.1 st.2 c rfl (en:=es[i]) (by simp[m]) λh' g l=>
  f _ h' s.toks ⟨es[i],by simp[m],rfl⟩ ⟨g,l.extBut d o ne st.2⟩ λb j a e=>l.extBut b j (λz=>a (by rw[z];exact oU _)) e
 done:=λs Q E st f=>WS n st.1 st.2 c rfl (dI _) λh' p=>f h' s.toks λb j a e=>p b j (λz=>a (by rw[z];exact oU _)) e
 self:=λ_ s Q E st h=>wpAny_pyIter_valiter ⟨_,st.1,rfl,rfl⟩ h
end
section
def abQ(te:TE):TE:=λc H Q=>te c H λx b=> ∃(d:eB) (a:List (List NK×V)) (ns:jn),x= .ref d/\Rd b d (.dT a)/\a.map (·.2)=ns.map V.int/\Q (.int ns.sum) b
def JG: ∀(ns:jn),age (λi=>ns.getD i 0) (~~~ns)=ns.sum:=λns=>by
 have key: ∀k,k<= ~~~ns->age (λi=>ns.getD i 0) k=(ns.take k).sum:=λk=>by
  induction k with
  |zero=>intro _;simp[age]
  |succ k ih=>
   intro h;rw[age,ih (by lia),YB,List.sum_append]
   grind
 grind
def V2(hc:X.calm=true)(hm:X.mg "sum" =none)(hv:iP "sum" =some (.builtin "sum"))(he:PE X e te)(hg:Gl X "sum" :=by rfl)(g:hZ e "values" X.env (fX e X.env)=fX e X.env:=by rfl)(j:(apos.endLine==cpos.line)=true:=by rfl)
  (U:dj [.Call (.Attribute e "values" apos) [] [] cpos] X.env=(false,fX (.Call (.Attribute e "values" apos) [] [] cpos) X.env)::dj [] X.env:=by rfl)(hpl:(gy pos (dj [] X.env)).any (·.1)=false:=by rfl):
  PE X (.Call (.Name "sum" p) [.Call (.Attribute e "values" apos) [] [] cpos] [] pos) (abQ te):=by
 intro pz s σ H Q I h;refine kg (sA I hg hm hv (xE ?_ U hpl));rw[U];show dR _ _ (abx ((false,fX (.Call (.Attribute e "values" apos) [] [] cpos) X.env)::gy pos (dj [] X.env))) _ _ s;refine kZ (vn (T:= "dict") (id:= "dict.values") g rfl j YF XM F.type_dict_values (jo (he pz s σ H _ I h) λu c E=> ?_));obtain⟨x,H1,G,rx,d,f,ns,ex,hd,hk,q⟩:=E;subst ex;cases (show u=eD d from rx);obtain⟨z,C,Z,rel,dd⟩:=xw G.ab hd;let⟨o B ep,r,P,S,Y,e5,e6⟩:=id dd;have ld:d<c.heap.objs.size:=dD r;have ty:c.TypeIs (.ref d) "dict" :=⟨o,r,P.1⟩;refine⟨ty,λa zz=>by cases zz;exact⟨o,r,P.2.1⟩,?_⟩;refine agi XM F.entry_dict_values rfl (Ou ⟨rfl,ty,F.args_dict_values_1 _,_,LA d C,ty,mQ ?_⟩);have g1:(c.heap.push {cls:= .type "dict_values",data:= .fields #[.ref d]}).get? c.heap.objs.size=some {cls:= .type "dict_values",data:= .fields #[.ref d]}:=dw _ rfl;have l:(c.heap.push {cls:= .type "dict_values",data:= .fields #[.ref d]}).objs.size=c.heap.objs.size+1:=fR ..;have m:(c.heap.push {cls:= .type "dict_values",data:= .fields #[.ref d]}).get? d=some o:=dc _ r;have len:B.size= ~~~ns:=by have l1:B.size= ~~~Z:=La Y;have l2: ~~~f= ~~~Z:=jS rel;have J:=gR ni hk;simp only[dA]at J;lia
 refine call_sum_walkG (P2 (s:={c with heap:=_}) g1 m S ⟨c.heap.objs.size+1,_,_,B.size,_,_,λi=>ns.getD i 0,by rw[l],Ly (prog:=X.prog) (w:=X.w) (A:=X.A.in1) (G.ok.hd hc) (c.heap.objs.size+1) d (eG (gn ld)) o S,⟨?_,dc _ m⟩,?_,λi v E=> ?_,λh' tk t' k=> ?_⟩)
 .rw[<-l];exact dw _ rfl
 .intro b y;show b<((c.heap.push {cls:= .type "dict_values",data:= .fields #[.ref d]}).push (qM d 0 B.size ep)).objs.size;rw[fR,l];simp only[eM,l9,AO]at y;rcases y with rfl|rfl
  .exact qr _
  .exact gn (gn ld)
 .obtain⟨en,a1,a2⟩:=E;have R:i< ~~~ns:=by have:=(FN.mp a1).1;lia
  have n:i< ~~~f:=by have J:=gR ni hk;simp only[dA]at J;lia
  let⟨(b),y,c1,c2,O⟩:=xT rel (df n);have N:=agm Y i;rw[y,a1]at N;have ev:en.val=b.2.2:=by cases N;rfl
  have c4:f[i].2= .int (ns.getD i 0):=by have l4:=gR (·[i]?) hk;simp only[dX,df n,df R]at l4;have l5:f[i].2=V.int ns[i]:=ft l4;rw[l5,dG,df R];rfl
  rw[c4]at O;let⟨(t),c5⟩:=O;exact⟨t,by rw[a2,ev,c5]⟩
 .rw[len,JG];refine⟨.int ns.sum,H1,G.kept (t':=tk) λb ob M=>k b ob ?_ (dc _ (dc _ M)),⟨t',rfl⟩,q⟩;rw[ia];exact eG (gn (dD M))
end
section
def Tp:G1:=λx Q=>match x with
 | .dic true l=> ∃ns:List Int,l.map (·.2)=ns.map D.int/\Q (.int ns.sum)
 |_=>False
def ND(A:X.mg "sum" =none)(C:X.calm=true)(he:wo cl X e te)(B:Gl X "sum" :=by rfl)(b:hZ e "values" X.env (fX e X.env)=fX e X.env:=by rfl)(c:(apos.endLine==cpos.line)=true:=by rfl)
  (x:dj [.Call (.Attribute e "values" apos) [] [] cpos] X.env=(false,fX (.Call (.Attribute e "values" apos) [] [] cpos) X.env)::dj [] X.env:=by rfl)(hpl:(gy pos (dj [] X.env)).any (·.1)=false:=by rfl):
  fI cl X (.Call (.Name "sum" p) [.Call (.Attribute e "values" apos) [] [] cpos] [] pos) (BZ Tp te):=PE.imp (V2 C A (by decide+kernel) he B b c x hpl) λE H Q l=>by
 let⟨F y own G,I,t,k⟩:=l;refine⟨F,y,own,_,I,t,λv d j o g1 w h=> ?_⟩;unfold Tp at h;split at h
 .rename_i m;let⟨(ns),u,h⟩:=h;let⟨a i,rfl,s,r⟩:=Ci w g1.ext;have n:iE (qb X cl) j (i.map (·.2)) (m.map (·.2)):=r.map (S:=k7 (qb X cl) j) (f:=λp=>p.2) (g:=λq=>q.2) λp q l=>by let⟨_,z⟩:=l;exact z
  rw[u]at n;exact⟨a,i,ns,rfl,s,ud n,k _ _ j o g1 (.int _) h⟩
 .exact h.elim
end
section
def P7(f:s.TypeIs (.ref r) T)(a:(jO T==jO "list")=false)(d:(jO T==jO "tuple")=false)(ne:S≠r)
  (hit:dR (dZ prog w) A.in1 (yn (.ref r)) (λitv s1=> ∃I fp wr n P St,itv= .ref I/\agq prog w A.in1 I fp wr n P St/\St 0 s1.heap/\S∉fp/\n<=eQ/\s1.heap.get? S=some {cls:= .type "list",data:= .seq #[] c0}/\
   dR (dZ prog w) A.in1 (kb (.ref r)) (λ_ s2=>(∃tk,s2={s1 with toks:=tk})/\ ∀h' tk acc c,(∀b o,b∉wr->b≠S->s1.heap.get? b=some o->h'.get? b=some o)->h'.get? S=some {cls:= .type "list",dict:=none,data:= .seq acc c,slots:= #[]}->
    ahy P acc n->R (.ok (.ret (.ref S))) {s1 with heap:=h',toks:=tk}) (λe s'=>R (.error e) s') s1) (λe s'=>R (.error e) s') s):ou (dZ prog w) A (.builtin "list.__iadd__" ⟨[.ref S,.ref r],[]⟩) R s:=
 HP F.entry_list_iadd YE (KG f a d ne hit)
def Kq(t:A.in1.handled=none)(hd:(d==ir)=false)(j:s.heap.get? d=some o)(h:o.ExactDict)(p:o.data= .dict es ep)(u:es.size<=eQ)
  (k: ∀h' tk,s.heap.objs.size<h'.objs.size->(∀b o,s.heap.get? b=some o->h'.get? b=some o)->Q (es.toList.map (·.key)) {s with heap:=h',toks:=tk}):dR (dZ prog w) A (collect (.ref d)) Q E s:=by
 have ld:=dD j;refine c9 (wpAny_runValue (yG F.entry_proto_collect ?_));show dR _ A.in1 (ahr []>>=λl=>again (.builtin "list.__iadd__" ⟨[l,.ref d],[]⟩)) _ _ s;have g1:(s.heap.push {cls:= .type "list",data:= .seq ([]:List eA).toArray}).get? s.heap.objs.size=some {cls:= .type "list",data:= .seq #[]}:=dw _ rfl;have a:(s.heap.push {cls:= .type "list",data:= .seq ([]:List eA).toArray}).get? d=some o:=dc _ j;have f:(s.heap.push {cls:= .type "list",data:= .seq ([]:List eA).toArray}).objs.size=s.heap.objs.size+1:=fR ..;refine c9 (gq (de ⟨ly YE _,P7 (c0:=0) ⟨o,a,h.1⟩ (by decide) (by decide) (jx ld) ?_⟩));refine Ax hd a h p ⟨s.heap.objs.size+1,_,_,es.size,_,_,by rw[f],Lz t (s.heap.objs.size+1) d (eG (gn ld)) o p,⟨⟨_,by rw[<-f];exact dw _ rfl,rfl,rfl⟩,dc _ a⟩,?_,u,dc _ g1,Gx ⟨o,dc _ a,h.1⟩ ⟨⟨s.toks,rfl⟩,λh' tk e c y n m=> ?_⟩⟩
 .intro B
  simp_all
 .show dR _ A (load s.heap.objs.size>>=_) _ _ _;refine c9 (wpAny_load n (de ?_));have r:e.toList=es.toList.map (·.key):=by
   refine BA λi=> ?_;rw[dX];cases g:e.toList[i]? with
   |none=>
    have z:e.size<=i:=by have:=sM.mp g;simpa using this
    rw[lx (by rw[fB];have:=m.1;lia)];rfl
   |some v=>
    let⟨(en),C,G⟩:=m.2 i v (by rw[<-pZ];exact g)
    simp_all
  rw[r];refine k h' tk (dD n) λb x q=>y b x ?_ (eG (dD q)) (dc _ (dc _ q));rw[ia];exact eG (gn (dD q))
end
def Dr{α j:Type}{f:α->j}{l m:List j}(h:l.Perm m): ∀ps:List α,m=ps.map f-> ∃d:List α,d.Perm ps/\l=d.map f:=by
 induction h with
 |nil=>intro ps e;exact⟨ps,.refl _,by rw[<-e]⟩
 |cons x _ ih=>
  intro ps e;cases ps with
  |nil=>cases e
  |cons p ps=>injection e with a b;let⟨(d),n,s⟩:=ih ps b;exact⟨p::d,n.cons p,by rw[dt,<-s,a]⟩
 |swap x y l=>
  intro ps e
  match ps,e with
  |p::q::r,e=>injection e with a e;injection e with b c;exact⟨q::p::r,.swap ..,by rw[dt,dt,<-a,<-b,<-c]⟩
 |trans _ _ g i=>intro ps e;let⟨(d),u,v⟩:=i ps e;let⟨(t),o,k⟩:=g d v;exact⟨t,o.trans u,k⟩
def SU(a b c d:Int):GY itemOrd [jN a,jN b] [jN c,jN d]=y4 (a,b) (c,d):=by
 show(decide (a<c)||(!decide (c<a)&&(decide (b<d)||(!decide (d<b)&&false))))=_;unfold y4;by_cases h1:a<c
 .simp[h1]
 .by_cases h2:c<a
  .have e: ¬a=c:=by lia
   simp[h2,e]
  .have e:a=c:=by lia
   subst e;simp
def Kf(k:vv h a #[.int x t,.int y u]):G.tupKeyC h (λ_=>false) (.ref a)=some [jN x,jN y]:=by obtain⟨o,b,c,n,d⟩:=k;unfold G.tupKeyC;rw[dq (by simp[G.isTupObj,b,c])];simp[tupKey,b,d,tupItems]
section
def LP{d:eB}{o:xG}{S:ur}{ep:Nat}{ps:List (eB×Int×Int)}{Q:gY}(hh:A.in1.in1.handled=none)(hd:(d==ir)=false)(e1:s.heap.get? d=some o)(e2:o.ExactDict)(e3:o.data= .dict S ep)
  (ek:S.toList.map (·.key)=ps.map λp=>eD p.1)(ht: ∀p,p∈ps-> ∃t u,vv s.heap p.1 #[.int p.2.1 t,.int p.2.2 u])(ln: ~~~ps<=eQ)
  (k: ∀(L:eB) (a:List (eB×Int×Int)) (c:Nat) h' tk,s.heap.objs.size<=L->a.Perm ps->a.Pairwise (λx y=>y4 y.2 x.2=false)->(∀b o,s.heap.get? b=some o->h'.get? b=some o)->h'.get? L=some {cls:= .type "list",data:= .seq (a.map λq=>eD q.1).toArray c}->Q (.ref L) {s with heap:=h',toks:=tk}):
  dR (dZ prog w) A (call (.builtin "sorted") [.ref d]) Q E s:=by
 have le:S.size= ~~~ps:=by have:=gR ni ek;simpa using this
 refine Calls.call_function_entry kind_sorted plain_sorted entry_sorted (args_sorted1 _) ?_;refine c9 (de (c9 (Kq hh hd e1 e2 e3 (by lia) λm r N h=>c9 (wpAny_newList ?_))));rw[ek];have g2:(m.push (aaZ "list" (ps.map λp=>eD p.1).toArray 0)).get? m.objs.size=some (aaZ "list" (ps.map λp=>eD p.1).toArray 0):=dw _ rfl;have e: ∀b o,s.heap.get? b=some o->(m.push (aaZ "list" (ps.map λp=>eD p.1).toArray 0)).get? b=some o:=λb o q=>dc _ (h b o q);have M: ∀p,p∈ps-> ∃t u,vv (m.push (aaZ "list" (ps.map λp=>eD p.1).toArray 0)) p.1 #[.int p.2.1 t,.int p.2.2 u]:=λp B=>by let⟨t u l,H,J⟩:=ht p B;exact⟨t,u,l,e _ _ H,J⟩
 generalize m.push (aaZ "list" (ps.map λp=>eD p.1).toArray 0)=h2 at g2 e M⊢;show dR _ _ _ _ _ {s with heap:=h2,toks:=r};have C: ∀F:List (eB×Int×Int),(∀p,p∈F->p∈ps)-> ∃P,TupsOf h2 (λ_=>false) (F.map λp=>eD p.1) P:=λF=>by
  induction F with
  |nil=>intro _;exact⟨[],.nil⟩
  |cons p F ih=>intro hm;let⟨(P),T⟩:=ih λq hq=>hm q (eP _ hq);obtain⟨t,u,l,H,J,n,X⟩:=M p (hm p (fk ..));exact⟨_,.cons ⟨p.1,l,_,n,rfl,H,J,X,rfl,λ_=>⟨_,_,rfl⟩,λz=>by cases z⟩ T⟩
 let⟨(P),T⟩:=C ps λp B=>B;refine c9 (iF (iG slot_list_sort ⟨_,g2,rfl⟩ entry_list_sort (G.list_sort_tups g2 T (λv hv=> ?_) (by rw[dA];exact ln) λf H J X=>⟨_,rfl,de ⟨_,rfl,?_⟩⟩) (args_list_sort _)))
 .obtain⟨p,B,rfl⟩:=dk.mp hv;let⟨t u,z⟩:=M p B;exact⟨_,Kf z⟩
 .have pm:(arrOf f).toList.Perm (ps.map λp=>(eD p.1,eD p.1)):=by
   have q:=H.toList;rw[pairsOf_toList]at q
   grind
  let⟨(a),O,Z⟩:=Dr pm ps rfl;have eo:(arrOf f).map (·.2)=(a.map λq=>eD q.1).toArray:=by apply Array.ext';rw[Array.toList_map,Z];simp
  rw[eo];obtain⟨c,gc⟩:=sortedHeap_at g2;refine k m.objs.size a c _ r (wz N) O ?_ (λb l q=> ?_) gc
  .rw[IB];intro i j I Y R;have sz:(pairsOf (ps.map λp=>eD p.1)).size= ~~~a:=by rw[pairsOf_size,dA,O.length_eq]
   have z:=J i j (wz R) (by rw[sz];exact Y);have kk: ∀(i:Nat) (I:i< ~~~a),KK (G.tupKindC h2 λ_=>false) (arrOf f) i=[jN a[i].2.1,jN a[i].2.2]:=λi I=>by
    have g:(arrOf f)[i]?=some (eD a[i].1,eD a[i].1):=by rw[<-pZ,Z,dX,df I];rfl
    let⟨t u,w1⟩:=M a[i] (O.mem_iff.mp (nG I));unfold KK;rw[g];show((G.tupKeyC h2 (λ_=>false) (eD a[i].1)).getD [])=_;rw[Kf w1];rfl
   rw[kk i I,kk j Y]at z;have U:GY itemOrd [jN a[j].2.1,jN a[j].2.2] [jN a[i].2.1,jN a[i].2.2]=false:=z;rw[SU]at U;exact U
  .have hb:=eG (dD (h b l q));rw[sortedHeap_old hb (dD (e b l q))];exact e b l q
end
section
def Zc:List V->Hp->VK->Prop:=λe H Q=> ∃(d:eB) (a:List (List NK×V)) (c:List (Int×Int)),e=[.ref d]/\Rd H d (.dT a)/\a.map (·.1)=c.map (λp=> [NK.int p.1,NK.int p.2])/\
 ∀(b:List (eB×Int×Int)) (l:eB),(b.map (·.2)).Perm c->b.Pairwise (λx y=>y4 y.2 x.2=false)->(∀q,q∈b->H q.1=some (.tup [.int q.2.1,.int q.2.2]))->H l=none->Q (.ref l) (upd H l (.lst (b.map λq=>V.ref q.1)))
theorem NP: ∀{d:List (List NK×V)} {n:List (List NK×eB×eA)} {f:List (Int×Int)},KT H d n->d.map (·.1)=f.map (λp=> [NK.int p.1,NK.int p.2])->
  ∃ps:List (eB×Int×Int),n.map (λx=>x.2.1)=ps.map (·.1)/\ps.map (·.2)=f/\ ∀p,p∈ps->H p.1=some (.tup [.int p.2.1,.int p.2.2])
 | [],_,f,r,e=>by
  cases r
  simp_all
 |E::d,_,f,.cons (b:=x) h t,e=>by
  cases f with
  |nil=>cases e
  |cons m f=>
   rw[dt,dt]at e;injection e with a1 a2;let⟨(ps),w,o,u⟩:=NP t a2;refine⟨(x.2.1,m)::ps,by rw[dt,dt,w],by rw[dt,o],λp q=> ?_⟩;rcases eM.mp q with z|z
   .subst z;have c:=h.2.1.2;have k:=a1;rw[k]at c;obtain⟨a,us,s,l,G,F,rfl,A,C,B,rfl,y,v⟩:=c;cases s;have g:=A;have j:=y;have i:=v;rw[g,j,i]at l;exact l
   .exact u p z
def Uh(J:X.calm=true):nM X (.builtin "sorted") Zc:=by
 intro pz s U H E us Q I r h;let⟨d k ms,rfl,hd,G,q⟩:=h;rw[gF.aQ r];obtain⟨z,A,E,rel,N⟩:=xw I.ab hd;let⟨o F S,v,B,P,C,Z,T⟩:=id N;let⟨(ps),n,O,m⟩:=NP rel G;have a:F.toList.map (·.key)=ps.map λp=>eD p.1:=by rw[C,dm];have:=gR (xI eD) n;rw[dm,dm]at this;exact this
 have M: ~~~ps= ~~~k:=by have y:=gR ni n;simp only[dA]at y;have l2:=jS rel;lia
 refine LP (I.ok.hd J) A v B P a (λp g=> ?_) (by lia) λL b c h' tk l pm f old R=> ?_
 .obtain⟨w,j,ht,_⟩:=I.tuple (qJ.of (m p g));let⟨t u,Y⟩:=gF.cj j
  grind
 .have len:(b.map λq=>V.ref q.1).length<=sizeLine:=by rw[dA,pm.length_eq];lia
  have j:gF (b.map λq=>V.ref q.1) (b.map λq=>eD q.1):=tT (by simp) λi x u g1 g2=>by
   rw[dX]at g1 g2;cases e:b[i]? with
   |none=>rw[e]at g1;cases g1
   |some q=>rw[e]at g1 g2;cases g1;cases g2;rfl
  refine⟨.ref L,_,I.laid (o:= .lst (b.map λq=>V.ref q.1)) old l ⟨len,_,c,j,R⟩,rfl,q b L ?_ f (λp g=>m p (pm.mem_iff.mp g)) (I.ab.fresh l)⟩;rw[<-O];exact pm.map _
end
section
theorem Jy{us:List V}{ds:List D}{α:Type}{f:α->V}{g:α->D}: ∀{l:List α},(∀a,a∈l->k7 T F (f a) (g a))->iE T F (l.map f) (l.map g)
 | [],_=>fh.nil
 |a::l,h=>fh.cons (h a (fk ..)) (Jy (us:=us) (ds:=ds) λb c=>h b (eP _ c))
def MB:G1:=λx Q=>match x with
 | .dic true l=> ∃a:List (Int×Int),l.map (·.1)=a.map pairD/\ ∀ns:List (Int×Int),ns.Perm a->ns.Pairwise (λx y=>y4 y x=false)->Q (.lst (ns.map pairD))
 |_=>False
theorem NO: ∀{a:List (List NK×V)} {l:List (D×D)} {d:List (Int×Int)},fh (RT T F) a l->l.map (·.1)=d.map pairD->a.map (·.1)=d.map (λp=> [NK.int p.1,NK.int p.2])
 | [],l,d,r,e=>by
  have:l=[]:=eY r.1.symm
  simp_all
 |h::a,l,d,r,e=>by
  let⟨q i,rfl,f,g⟩:=r.ah;cases d with
  |nil=>cases e
  |cons m d=>injection e with a1 a2;rw[dt,dt,NO g a2];congr 1;have b:vj (.tup h.1)=vj (.tup [.int m.1,.int m.2]):=f.1.symm.trans a1;have c:=qB b;injection c
def JQ(v:X.mg "sorted" =none)(A:X.calm=true)(B:wo cl X e t)(i:Gl X "sorted" :=by rfl)(he:dj [e] X.env=(false,fX e X.env)::dj [] X.env:=by rfl)(hpl:(gy pos (dj [] X.env)).any (·.1)=false:=by rfl):
  fI cl X (.Call (.Name "sorted" p) [e] [] pos) (BZ MB t):=by
 refine n9 (Uh A) (λF H x d C Q e r h k=> ?_) v (by decide+kernel) B i (by decide) (by decide) he hpl;unfold MB at h;split at h
 .rename_i m;let⟨(z),j,u⟩:=h;let⟨a g,rfl,s,r⟩:=Ci r e;refine⟨a,g,z,rfl,s,NO r j,λb l pm c f n=> ?_⟩;have g1:=Bp e;have w:iE (qb X cl) (sC F H) (b.map λq=>V.ref q.1) (b.map λq=>pairD q.2):=Jy (us:=[]) (ds:=[]) λq o=> .tup (Eo e (f q o)) rfl (Gd [q.2.1,q.2.2]).2;have nl:=md g1.ext n w;refine k _ _ _ _ (g1.trans nl.1) nl.2 ?_;have y:(b.map λq=>pairD q.2)=(b.map (·.2)).map pairD:=by rw[dm];rfl
  rw[y];exact u _ pm (by rw[fQ];exact c)
 .exact h.elim
def ae6(e:0<=n)(d:n<2^62):RgC 0 n 2 ((n.toNat+1)/2):=by
 have c:lF 0 n 2=(((n.toNat+1)/2:Nat):Int):=by unfold lF;lia
 refine⟨by decide,by decide,?_,c⟩;unfold EW;have f: ∀i:Int,-(2^63)<=i->i<2^63->yI i=true:=λi a b=>by simp[yI];exact⟨a,b⟩
 rw[f 0 (by decide) (by decide),f n (by lia) (by lia),f 2 (by decide) (by decide),f _ (by lia) (by lia),f (n+(2-1)) (by lia) (by lia)];simp
def SW:M5 T (Itc 0 2 ((n.toNat+1)/2)) F1 X5 (Es n):=by
 intro i b d le e f;have len:(Es n).length=(n.toNat+1)/2:=by simp[Es]
 refine⟨λa=>⟨by rw[len]at a;exact a,?_⟩,λa=>by rw[len]at a;exact a⟩;rintro x c ⟨rfl,rfl⟩;refine⟨b,.int (2*(i:Nat)),fT.refl e,?_,?_⟩
 .rw[len]at a;rw[Es,dX,l6 a];rfl
 .have:(0:Int)+(i:Nat)*2=2*(i:Nat):=by lia
  rw[this];exact .int _
def Mq{g a}(q:X.mg "range" =none)(o:fI cl X b tb)(r:Gl X "range" :=by rfl)
  (i:dj [.Constant (.int 0) g p0,b,.Constant (.int 2) a p2] X.env=(false,fX (.Constant (.int 0) g p0) X.env)::dj [b,.Constant (.int 2) a p2] X.env:=by rfl)(f:dj [b,.Constant (.int 2) a p2] X.env=(false,fX b X.env)::dj [.Constant (.int 2) a p2] X.env:=by rfl)
  (e:dj [.Constant (.int 2) a p2] X.env=(false,fX (.Constant (.int 2) a p2) X.env)::dj [] X.env:=by rfl)(hpl:(gy pos (dj [b,.Constant (.int 2) a p2] X.env)).any (·.1)=false:=by rfl):
  UE cl X tg (.Call (.Name "range" p) [.Constant (.int 0) g p0,b,.Constant (.int 2) a p2] [] pos) (KN tb):=PI.imp (Pf r q (jl L0 (jl o (jl L0 mF e) f) i) i hpl) λu H R s=>by
 let⟨F m own w,I,h,k⟩:=s;refine⟨F,m,own,_,I,h,λv d t j g1 l c=> ?_⟩;cases l with
 |int n=>exact⟨0,n,2,_,rfl,ae6 c.1 c.2.1,k _ _ t j g1 SW c.2.2⟩
 |_=>exact eZ c
end
def fw{α S:Type}(conv:α->D)(env:S->En)(I:List α->S->Prop)
  (h: ∀x a s,I (x::a) s-> ∀k:En->Prop,(∀b,I a b->k (env b))->g (conv x) (env s) λδ'=>tb {nx:=k,ct:=k,bk:=DD.nx,rt:=DD.rt} δ')
  (d: ∀s,I [] s->DD.nx (env s)): ∀(a:List α) (s:S),I a s->DW g tb DD (a.map conv) (env s):=by
 intro a;induction a with
 |nil=>intro s c;exact d s c
 |cons x a ih=>intro s c;exact h x a s c _ λb h'=>ih b h'
def n8{S:Type}(env:S->En)(I:S->Prop)(d:S->Nat)
  (h: ∀s,I s-> ∀k:En->Prop,(∀a,I a->d a<d s->k (env a))->c (env s) λb=>if b=true then tb {DD with nx:=k,ct:=k,bk:=DD.nx} (env s)else DD.nx (env s))(s:S)(e:I s):TZ c tb DD (env s):=by
 refine⟨λm f=> ∃s,I s/\d s=m/\f=env s,⟨d s,s,e,rfl,rfl⟩,?_⟩;rintro m f ⟨s,e,rfl,rfl⟩;exact h s e _ λa g i=>⟨d a,i,a,g,rfl,rfl⟩
def ua{α:Type}(conv:α->D)(f:α->Option D): ∀(c:List α) (a:List D),
  (∀x∈c,∀(A:D->Prop) (B:Prop),(match f x with
   |some y=>A y
   |none=>B)->g (conv x) δ λd=>tt d λb=>if b=true then te d A else B)->Q (.lst (a++c.filterMap f))->Va g tt te δ (c.map conv) a Q:=by
 intro c;induction c with
 |nil=>intro a _ q;simpa [Va]using q
 |cons x c ih=>
  intro a h q;apply h x (by simp);cases e:f x with
  |none=>exact ih a (λy i=>h y (by simp[i])) (by simpa [e]using q)
  |some y=>exact ih (a++ [y]) (λy i=>h y (by simp[i])) (by simpa [e]using q)
def mM{α:Type}(conv:α->D)(f:α->D)(a:List α)
  (h: ∀x∈a,∀A:D->Prop,A (f x)->g (conv x) δ λδ2=>te δ2 A)(q:Q (.lst (a.map f))):Va g aap te δ (a.map conv) [] Q:=by
 refine ua conv (λx=>some (f x)) a [] (λx c A B b=> ?_) ?_
 .have:=h x c A b;lia
 .simpa using q
noncomputable def nD(n:Nat):D:= .int (n:Int)
def hU(l:dE):List D:=l.map nD
def jI(h:nD a=nD b):a=b:=by unfold nD at h;injection h with h;lia
theorem Co{α d:Type}{f:α->d}(c: ∀a b,f a=f b->a=b): ∀{l m:List α},l.map f=m.map f->l=m
 | [],[],_=>rfl
 | [],_::_,h=>by simp at h
 |_::_,[],h=>by simp at h
 |x::l,y::m,h=>by injection h with h1 h2;rw[c x y h1,Co c h2]
section
variable {K V:Type} [DecidableEq K]
noncomputable def dl(f:K->D)(g:V->D)(l:List (K×V)):List (D×D):=l.map λq=>(f q.1,g q.2)
theorem kn(c: ∀a b,f a=f b->a=b)(l:List (K×V))(k:K):nV (dl f g l) (f k)=(BM.gB l k).map g:=by
 induction l with
 |nil=>rfl
 |cons q l ih=>
  show nV ((f q.1,g q.2)::dl f g l) (f k)=_;rw[zT,BM.gV];by_cases h:q.1=k
  .simp[h]
  .have:f q.1≠f k:=λe=>h (c _ _ e);simp[h,this,ih]
theorem jz(d: ∀a b,f a=f b->a=b)(l:List (K×V))(k:K)(v:V):rq (dl f g l) (f k) (g v)=dl f g (BM.kX l k v):=by
 unfold rq BM.kX;have c:((dl f g l).any λq=>decide (q.1=f k))=l.any λq=>decide (q.1=k):=by
  unfold dl;rw[BB];congr 1
  grind
 rw[c];split
 .unfold dl;rw[dm,dm];apply BM.map_congr
  grind
 .simp[dl]
end
def kP(n:Nat):hk false (nD n):=⟨_,rfl⟩
noncomputable def nk(n:Nat):NK:= .int n
def Wv(l:dE):pC (l.map nk)=hU l:=by rw[za,dm];rfl
def AG: ∀l:List Nat,NK.ae (l.map nk)<=1:=by
 intro l;induction l with
 |nil=>decide
 |cons n l ih=>have:=ih;lia
def HR(l:dE):hk true (.tup (hU l)):=⟨l.map nk,by show D.tup _=D.tup (pC _);rw[Wv],by have:=AG l;lia⟩
section
def T4(i:Nat)(ty c:ml):yA:=λb a=>match a[i]? with
 |some (some (.ol l))=>c a λv=>ty a λk=>match k with
  | .int j=> ∃n:Nat,j=(n:Int)/\n< ~~~l/\b.nx (a.set i (some (.ol (l.set n v))))
  |_=>False
 |_=>False
def Z3(h:k<n):P1 n (k:Int)=some k:=by unfold P1;simp[h]
def VH(J:PE X (.Name x px) (E3 i))(G:fI cl X k ty)(he:fI cl X e te)(y:agR [.Subscript (.Name x px) k pos'] e pos.line X.env=pure false:=by rfl)(O:agT [.Subscript (.Name x px) k pos'] e X.env=pure none:=by rfl)
  (r:(lK [.Subscript (.Name x px) k pos'] X.env).map (·.2)=[yr (.Subscript (.Name x px) k pos') X.env]:=by rfl)
  (N: ∀v,yr (.Subscript (.Name x px) k pos') X.env v=(do
   let ov<-qm [v] (fX (.Name x px) X.env)
   let iv<-qm [v,ov] (fX k X.env)
   abw pos'
   qm [v,ov,iv] (Lj ov iv v)
   abz [v,ov,iv] []):=by intro _;rfl):EE cl X (.Assign [.Subscript (.Name x px) k pos'] e pos) (T4 i ty te):=
 PS.imp (Zk he (Zp J G Jv N) y O r) λD U H E=>by
  let⟨Y T F a own Q,I,h,l⟩:=E;unfold T4 at h;split at h
  .rename_i m M;obtain⟨q,o,t,c,P,us,rfl,f⟩:=I.e.aN i _ M (by intro d z;cases z);refine⟨F,a,own,_,I.e,h,λv d C R g1 u A=>⟨_,c,C,a,own,_,I.e.grow g1,A,λZ d2 B S g2 s b=> ?_⟩⟩;cases s with
   |int j=>let⟨(n),rfl,w,p⟩:=b;have g:=g1.trans g2;refine⟨q,us,n,n,rfl,rfl,g.same _ _ P,Z3 (by rw[f.1];exact w),?_⟩;exact l.nx _ _ ⟨B,_,own,(I.grow g).chg i (l:= .ol (m.set n d)) t c ⟨_,rfl,(iE.mono g.le f).set n (u.mono g2.le)⟩,p⟩
   |_=>exact eZ b
  .exact h.elim
def Su:fI cl X (.Dict [] [] pos) (dC (.dic false [])):=PE.imp JO λc H Q ⟨F,a,own,b,I,t,k⟩=>λp n=>
 k _ _ _ _ (fT.new I.ext n) (.dK eR rfl (λi p q x y=>by simp at x) λi p q x y=>by simp at x) t
def NF(m:qj.Ok (qb X cl))(he:wo cl X e te)(J:hZ e f X.env (fX e X.env)=fX e X.env:=by rfl):fI cl X (.Attribute e f pos) (BZ (aag f) te):=
 PE.imp (Hv he J) λO H Q M=>by
  let⟨F G own A,I,t,k⟩:=M;refine⟨F,G,own,_,I,t,λv d C y g1 s b=> ?_⟩;rcases s with s|⟨p,o,l,rfl,E,i,rfl⟩
  .cases s with
   | @obj a w c us ds j h P B N=>
    have g:(match j7 f (fl c) ds with|some d=>A d|none=>False):=b
    cases el:j7 f (fl c) ds with
    |none=>rw[el]at g;exact g.elim
    |some d=>
     rw[el]at g;let⟨(v),n,x,u⟩:=wK ⟨B,N⟩ el;rcases g1.ext a _ h with z|⟨z,_⟩
     .exact⟨a,_,w,_,v,rfl,z,m.cls c j,m.no c f j u,n,k v d C y g1 x g⟩
     .cases z
   |_=>exact eZ b
  .match l,i,b with
   | .val _,i,_=>exact i.elim
   | .ol _,_,b=>exact eZ b
   | .od _ _,_,b=>exact eZ b
   | .oi q c ds,i,b=>
    obtain⟨rfl,j,w,us,rfl,B,r⟩:=i;have g:(match j7 f (fl c) ds with|some d=>A d|none=>False):=b
    cases el:j7 f (fl c) ds with
    |none=>rw[el]at g;exact g.elim
    |some d=>rw[el]at g;let⟨(v),n,x,u⟩:=wK r el;exact⟨_,_,w,_,v,rfl,E,m.cls c j,m.no c f j u,n,k v d C y g1 x g⟩
inductive ju:D->Prop
 |non:ju .non
 |bl (b:Bool):ju (.bl b)
 |int (i:Int):ju (.int i)
 |tup {l:List D} (h: ∀d∈l,ju d):ju (.tup l)
 |lst {l:List D} (h: ∀d∈l,ju d):ju (.lst l)
 |obj {c:Nat} {l:List D} (hc:c<6) (h: ∀d∈l,ju d):ju (.obj c l)
def uw(T:qj)(o:HO):Prop:=(∃a,o= .dK a)\/(∃a,o= .dT a)\/ ∃b c,o= .ins (T.cl 6) b c
def k7.plain(m:T.Ok)(r:k7 T F v d)(e:ju d)(k: ∀a o,F a=some o->F' a=some o\/uw T o):k7 T F' v d:=by
 induction r with
 |non=>exact .non
 |bl b=>exact .bl b
 |int i=>exact .int i
 |tup h f g ih=>
  cases e with
  |tup e=>
   rcases k _ _ h with z|⟨_,z⟩|⟨_,z⟩|⟨_,_,z⟩
   .exact .tup z f λi u d a b=>ih i u d a b (e d (eS b))
   all_goals cases z
 |lst h f g ih=>
  cases e with
  |lst e=>
   rcases k _ _ h with z|⟨_,z⟩|⟨_,z⟩|⟨_,_,z⟩
   .exact .lst z f λi u d a b=>ih i u d a b (e d (eS b))
   all_goals cases z
 | @obj a p c us ds l h j f g ih=>
  cases e with
  |obj n e=>
   rcases k _ _ h with z|⟨_,z⟩|⟨_,z⟩|⟨_,_,z⟩
   .exact .obj l z j f λi u d a b=>ih i u d a b (e d (eS b))
   .cases z
   .cases z
   .injection z with z1;have:=m.inj c 6 l (by lia) z1;lia
 |dK h f hk g ih=>cases e
 |dT h f hk g ih=>cases e
def K7(T:qj)(F H:Hp)(v:V)(d:D):Prop:=k7 T F v d\/ ∃p o l,v= .ref p/\H p=some o/\F p=none/\lT T F p l o/\d=l.dat/\l.whole/\uw T o
def uw.cp(h:uw T o): ∀us,o≠ .tup us:=by rcases h with⟨_,rfl⟩|⟨_,rfl⟩|⟨_,_,rfl⟩<;>intro us z<;>cases z
def K7.grow(h:K7 T F H v d)(g:fT F H F' H'):K7 T F' H' v d:=by
 rcases h with h|⟨p,o,l,rfl,a,c,e,rfl,f,b⟩
 .exact .inl (h.mono g.le)
 .exact .inr ⟨p,o,l,rfl,g.same _ _ a,by rw[g.aB a b.cp];exact c,e.mono g.le,rfl,f,b⟩
def upL(T:qj)(t:ml):TE:=λf H Q=> ∃F b own c,lq T F b f H own/\t b c/\ ∀v d e a,fT F H e a->K7 T e a v d->c d->Q v a
def PLD(cl:nL)(X:Cx)(e:jG)(t:ml):Prop:=PE X e (upL (qb X cl) t)
def fI.l(h:fI cl X e t):PLD cl X e t:=PE.imp h λj H Q i=>by let⟨F b own c,I,t,k⟩:=i;exact⟨F,b,own,c,I,t,λv d f a g r q=>k v d f a g (.inl r) q⟩
def T1(i:Nat):ml:=λa Q=>match a[i]? with
 |some (some (.od t l))=>Q (.dic t l)
 |some (some (.oi _ c l))=>c=6/\ ~~~l=(fl c).length/\Q (.obj c l)
 |_=>False
def pl(i:Nat)(n:X.N[i]?=some x:=by rfl)(u:Ys X.env.scope x:=by subst_eqs)(hd:(x==("__debug__" :gw))=false:=by decide)
  (j:(x==("__classdict__" :gw))=false:=by decide):PLD cl X (.Name x pos) (T1 i):=PE.imp (Ht n u hd j) λv H Q s=>by
 let⟨F w own y,I,t,k⟩:=s;unfold T1 at t;split at t
 .rename_i b l e;let⟨p o,f,g,m,a⟩:=I.aN i _ e (by intro d z;cases z);refine⟨_,g,k _ _ F H (fT.refl I.ext) (.inr ⟨p,o,_,rfl,m,I.free i p f,a,rfl,trivial,?_⟩) t⟩;cases b
  .obtain⟨h,rfl,_⟩:=a;exact .inl ⟨_,rfl⟩
  .obtain⟨h,rfl,_⟩:=a;exact .inr (.inl ⟨_,rfl⟩)
 .rename_i q c l e;let⟨rfl,r,t⟩:=t;let⟨p o,f,g,m,a⟩:=I.aN i _ e (by intro d z;cases z);refine⟨_,g,k _ _ F H (fT.refl I.ext) (.inr ⟨p,o,_,rfl,m,I.free i p f,a,rfl,r,?_⟩) t⟩;obtain⟨_,_,A,us,rfl,_⟩:=a;exact .inr (.inr ⟨_,_,rfl⟩)
 .exact t.elim
def aeO(T:qj)(t:On):TA:=λf H Q=> ∃F b own d,lq T F b f H own/\t b d/\ ∀c ds e a,fT F H e a->fh (K7 T e a) c ds->d ds->Q c a
def Xi(cl:nL)(X:Cx)(a:mW)(t:On):Prop:=PA X a (aeO (qb X cl) t)
def MX:Xi cl X [] aar:=PA.imp mF λd H Q a=>by let⟨F b own c,I,t,k⟩:=a;exact k _ _ F H (fT.refl I.ext) fh.nil t
def qC(o:PLD cl X e te)(n:Xi cl X es t)(g:dj (e::es) X.env=(false,fX e X.env)::dj es X.env:=by rfl):Xi cl X (e::es) (Uc te t):=
 PA.imp (jl o n g) λq H Q m=>by let⟨F a own s,I,t,k⟩:=m;exact⟨F,a,own,_,I,t,λv d l p g1 f h=>⟨l,a,own,_,I.grow g1,h,λr ds i b g2 c j=>k _ _ i b (g1.trans g2) (fh.cons (f.grow g2) c) j⟩⟩
def lend(e:oW F H): ∀{f:List V} {ds:List D},fh (K7 T F H) f ds-> ∃b,oW b H/\Le F b/\iE T b f ds/\ ∀a,b a≠F a->F a=none/\ ∃o,b a=some o/\H a=some o/\uw T o:=by
 intro f;induction f with
 |nil=>intro ds r;have:ds=[]:=eY r.1.symm;subst this;exact⟨F,e,Le.refl F,fh.nil,λa h=>absurd rfl h⟩
 |cons v f ih=>
  intro ds r;let⟨d E,rfl,i,A⟩:=r.ah;let⟨(b),m,c,n,c1⟩:=ih A;rcases i with i|⟨p,o,l,rfl,j,s,w,rfl,x,B⟩
  .exact⟨b,m,c,fh.cons (i.mono c) n,c1⟩
  .by_cases hn:b p=none
   .have g:Le b (L2.upd b p o):=λa u z=>by rw[d9 (fz z hn)];exact z
    refine⟨L2.upd b p o,λa u z=> ?_,c.trans g,fh.cons ((w.mono c).rep x hn) (iE.mono g n),λa h=> ?_⟩
    .by_cases q:a=p
     .subst q;rw[eR]at z;cases z;exact .inl j
     .rw[d9 q]at z;exact m a u z
    .by_cases q:a=p
     .subst q;exact⟨s,o,eR,j,B⟩
     .rw[d9 q]at h⊢;exact c1 a h
   .obtain⟨_,G,y,t,_⟩:=c1 p (by rw[s];exact hn);rw[j]at t;cases t;have C:=w.rep x s;have k:Le (L2.upd F p o) b:=λa u z=>by
     by_cases q:a=p
     .subst q;rw[eR]at z;cases z;exact y
     .rw[d9 q]at z;exact c a u z
    exact⟨b,m,c,fh.cons (C.mono k) n,c1⟩
def Rm(k:T.Ok)(le:Le F F1)(c: ∀a,F1 a≠F a->F a=none/\ ∃o,F1 a=some o/\H a=some o/\uw T o)(g:fT F1 H F' H')(r:k7 T F' v d)(j:ju d): ∃i,fT F H i H'/\k7 T i v d:=by
 classical
 refine⟨λa=>if F1 a=F a then F' a else none,⟨λa o h=> ?_,λa n=> ?_,g.same,λa o h=> ?_⟩,r.plain k j λa o h=> ?_⟩
 .have b:=le a o h;rw[dq (b.trans h.symm)];exact g.le a o b
 .by_cases q:F1 a=F a
  .have e:(if F1 a=F a then F' a else none)=F' a:=dq q;rcases g.old a n with z|⟨us,f,m⟩
   .simp_all
   .simp_all
  .exact .inl (by show(if F1 a=F a then F' a else none)=F a;rw[di q,(c a q).1])
 .have h':=h;split at h'
  .exact g.ext a o h'
  .cases h'
 .by_cases q:F1 a=F a
  .simp_all
  .obtain⟨_,l,f,_,p⟩:=c a q;have:=g.le a l f
   simp_all
def Ud(n:Nat)(g:GN)(t:On):ml:=λa Q=>t a λds=> ~~~ds=n/\g ds λd=>ju d/\Q d
def Dv(s:qj.Ok (qb X cl))(h:kF X.prog X.w X.K X.mg X.base cl k x n g)(N:oo j X.A)(P:Xi cl X (e::es) t)(c:Gl X x:=by rfl)(b:(x==("__debug__" :gw))=false:=by decide)
  (he:dj (e::es) X.env=(false,fX e X.env)::dj es X.env:=by rfl)(hpl:(gy pos (dj es X.env)).any (·.1)=false:=by rfl)(a:k<=j:=by decide):fI cl X (.Call (.Name x p) (e::es) [] pos) (Ud n g t):=by
 let⟨f T ps,F,C,hk,y⟩:=h;refine PE.imp (Cm F (N.mono a) c C hk y .nil Dy P b he hpl) λU H Q E=> ?_;let⟨F u own Z,I,t,k⟩:=E;refine⟨F,u,own,_,I,t,λY ds F1 R g1 r m=> ?_⟩;let⟨(B),J,i,o,c2⟩:=lend g1.ext r;refine⟨B,ds,_,J,by rw[km];exact o,m.1,m.2,λv d S O g3 z l=> ?_⟩;let⟨(q),G,M⟩:=Rm s i c2 g3 z l.1;exact k v d q O (g1.trans G) M l.2
end
def E1:EJ (.type "tuple") "keys" =pure none:=am_miss_of_fast (by first|decide+kernel|rfl)
def _root_.PySem.Heap.IsTuple.atT{h h':iZ}{a:eB}{items:mj}(x:h.IsTuple a items)(k: ∀o,h.get? a=some o->h'.get? a=some o):h'.IsTuple a items:=let⟨o,b,r⟩:=x;⟨o,k o b,r⟩
def _root_.PySem.Heap.IsTupleIter.atT{h h':iZ}{a t:eB}{i:Nat}(x:h.IsTupleIter a t i)(k: ∀o,h.get? a=some o->h'.get? a=some o):h'.IsTupleIter a t i:=let⟨o,b,r⟩:=x;⟨o,k o b,r⟩
section
variable {prog:fY} {w:iu} {A:i6} {E:gY}
def SN{s:dJ}{a:eB}{o:xG}{q:mj}{k:Nat}{Q:Option eA->dJ->Prop}(p:s.heap.get? a=some o)(r:o.cls= .type "tuple")(f:o.data= .seq q k)(hd:o.dict=none)(x:A.handled=none)
  (h: ∀h' tk,(∀b ob,s.heap.get? b=some ob->h'.get? b=some ob)->Q none {s with heap:=h',toks:=tk}):dR (dZ prog w) A (getAttr? (.ref a) "keys") Q E s:=by
 obtain⟨c,y,v,t⟩:=o;simp only at r f hd;subst r f hd;obtain⟨u,g,d,tk,os⟩:=s;have n: ∀m,(⟨u,g,d,m,os⟩:dJ).TypeIs (.ref a) "tuple" :=λ_=>⟨_,p,rfl⟩;have j:=E1;have i:(["__module__","__name__","__qualname__","__doc__","__annotations__"]:List gw).contains "keys" =false:=by decide+kernel
 have hsz:("keys" :gw).length+100<=sizeLine:=by first|size_fits|decide+kernel
 have f1:=sub_AttributeError;have G:=o5.lookup;have C:=o5.bind (.ref a);have z:=am_tuple_getattr_none;unfold getAttr? getAttrBy? getAttrBy
 repeat (any_goals (first|assumption|exact n _|((with_reducible show dR _ _ (call (Value.builtin "tuple.__getattribute__") _ _) _ _ _);refine call_meets o5 (n _) am_entry_tuple_getattribute (PySem.F.args_tuple_getattribute_2 _ _) (meets_getattribute_miss_tuple a q k t "keys" _ j i hsz) ⟨p,x,λh' m e l=> ?_⟩)|wp_step))
 let⟨t' B,he⟩:=l.there;show dR _ _ (aa6 _ _ _ _ _ _ _) _ _ _;unfold aa6
 repeat (any_goals (first|assumption|wp_step))
 all_goals first|exact h _ _ l.keeps|(dsimp only;repeat (any_goals (first|assumption|exact h _ _ l.keeps|wp_step)))
theorem FS{R:Result->dJ->Prop}{S I l:eB}{items:mj}{res:eA}(Y:A.handled=none)(r:l≠I)(f:S≠I)(B:S≠l):
  ∀(rest:List (Key×eA)) (i:Nat) (a:List (Key×eA)) (E:Int) (t:Tok) (s:dJ),items.size=i+ ~~~rest-> ~~~a+ ~~~rest<=eQ->
   (∀(j:Nat) (q:Key×eA),rest[j]?=some q-> ∃(b:eB) (u:eA),items[i+j]?=some (.ref b)/\b≠S/\b≠I/\vv s.heap b #[u,q.2]/\uM q.1 u=true)->
   s.heap.IsTupleIter I l i->s.heap.IsTuple l items->s.heap.DictOf (jB prog w) S a->
   (∀h' tk,h'.DictOf (jB prog w) S (agj a rest)->(∀b o,b≠S->b≠I->s.heap.get? b=some o->h'.get? b=some o)->R (.ok (.ret res)) {s with heap:=h',toks:=tk})->
   ou (dZ prog w) A (.builtin "dict.update.loop" ⟨[.ref S,.ref I,.int E t,res],[]⟩) R s
 | [],i,a,E,t,s,hsz,x,N,hit,C,T,F=>by refine yG Jl ?_;show dR _ A.in1 (mX (.ref I)>>=_) _ _ s;refine c9 (UO Y hit C (by first|exact o6 (wA hsz)|(simp at hsz;simp;lia)) λh' he=> ?_);show dR _ A.in1 (aeL S []>>=_) _ _ _;refine c9 (de (de ?_));exact F h' s.toks (T.extBut he f) λb o _ O e=>he b o O e
 |q::rest,i,a,E,t,s,hsz,x,N,hit,C,T,F=>by
  let⟨b u,O,x1,H,v,hk⟩:=N 0 q rfl;rw[dB]at hsz x;refine yG Jl ?_;rw[Lu yR _];show dR _ A.in1 (mX (.ref I)>>=_) _ _ s;refine c9 (QU hit C (by simpa using O) λh1 y d=> ?_);have J:=v.extBut d.extBut H;have M:=C.extBut d.extBut r;have P:=T.extBut d.extBut f;obtain⟨o,ho,hc,n,hd⟩:=id J;show dR _ A.in1 (qm [eD b] _>>=_) _ _ _;refine c9 (iF ?_);refine c9 (ux ?_);unfold aeJ;refine c9 (Fv ⟨o,ho,hc⟩ ?_);rw[dq (by first|decide|rfl|simp)];refine c9 (jK ho hd (de ?_));show dR _ A.in1 (qm [u,q.2] (dictSet S u q.2)) _ _ _;refine iF (wpAny_dictSet_pairs hk P (λh2 G g=> ?_) (by lia));refine de ⟨ly yR _,FS Y r f B rest (i+1) (agc a q.1 q.2) (E+1) 0 _ (show items.size=i+1+ ~~~rest by lia) ?_ (λj q' e=> ?_) ?_ ?_ G λh' tk U k=> ?_⟩
  .have z:=stored_length_le a q.1 q.2;lia
  .obtain⟨b',u',x0,h,m,p,X⟩:=N (j+1) q' (by simpa using e);refine⟨b',u',?_,h,m,(p.extBut d.extBut m).extBut g.extBut h,X⟩
   grind
  .exact y.atT λo' e=>g.extBut I o' (gk f) e
  .exact M.extBut g.extBut (gk B)
  .exact F h' tk U λc Q Z h4 e=>k c Q Z h4 (g.extBut c Q Z (d.extBut c Q h4 e))
def Ft{s:dJ}{l:eB}{ol:xG}{items:mj}{n:Nat}{prs:List (Key×eA)}{Q:gY}(J:A.handled=none)(y:s.heap.get? l=some ol)(I:ol.cls= .type "tuple")(hd:ol.dict=none)
  (g:ol.data= .seq items n)(hsz:items.size= ~~~prs)(G: ~~~prs<=eQ)
  (P: ∀(j:Nat) (q:Key×eA),prs[j]?=some q-> ∃(b:eB) (u:eA),items[j]?=some (.ref b)/\vv s.heap b #[u,q.2]/\uM q.1 u=true)
  (h: ∀h' tk,h'.DictOf (jB prog w) s.heap.objs.size (agj [] prs)->(∀b o,s.heap.get? b=some o->h'.get? b=some o)->Q (.ref s.heap.objs.size) {s with heap:=h',toks:=tk}):
  dR (dZ prog w) A (call (.type "dict") [.ref l]) Q E s:=by
 refine ago (Q₁:=λobj i=>obj= .ref s.heap.objs.size/\i={s with heap:=s.heap.push {cls:= .type "dict",data:= .dict #[]}}) PySem.F.kt_called_dict (PySem.F.kt_typeCall_dict_1 _) PySem.F.entry_dict_init (kt_code_dict_new _ ⟨rfl,rfl⟩) ?_;rintro obj i ⟨rfl,rfl⟩;have d:(s.heap.push {cls:= .type "dict",data:= .dict #[]}).DictOf (jB prog w) s.heap.objs.size []:=Lr s.heap;have v: ∀b o,s.heap.get? b=some o->(s.heap.push {cls:= .type "dict",data:= .dict #[]}).get? b=some o:=λb o e=>dc _ e;refine⟨d.typeIs,PySem.F.args_dict_init_2 _ _,?_⟩;unfold Builtin.«dict.__init__»;refine c9 ?_;unfold aeI;refine c9 (qK d.typeIs ?_);show dR _ _ (pure (s.heap.objs.size,[eD l])) _ _ _;refine de ?_;show dR _ _ (Cc "dict.__init__" s.heap.objs.size (.ref l) [] .none) _ _ _;unfold Cc;refine c9 (Fv ⟨ol,v _ _ y,I⟩ ?_);rw[dq (by first|decide|rfl|simp)];refine c9 (SN (v _ _ y) I g hd J λm C a=> ?_);rw[dq (show(none:Option eA).isNone=true from rfl)];refine c9 (aaW ?_);have t:m.IsTuple l items:=⟨ol,a _ _ (v _ _ y),I,n,g⟩;have f:s.heap.objs.size<m.objs.size:=by have e:(s.heap.push {cls:= .type "dict",data:= .dict #[]}).get? s.heap.objs.size=some {cls:= .type "dict",data:= .dict #[]}:=dw _ rfl;exact dD (a _ _ e)
 refine c9 (uA t ?_);have B: ∀b o,m.get? b=some o->(m.push {cls:= .type "tuple_iterator",data:= .fields #[.ref l,.int 0 0]}).get? b=some o:=λb o e=>dc _ e;have p:=dD y;have key:=FS (A:=A.in1) (R:=wants (λr x=>r= .none/\Q (.ref s.heap.objs.size) x) E) J
  (eG (Cb p f)) (eG f) (jx p) prs 0 [] 0 0
  {s with heap:=m.push {cls:= .type "tuple_iterator",data:= .fields #[.ref l,.int 0 0]},toks:=C} (by rw[hsz,rL]) (by rw[ip,rL];exact G)
  (λj q e=>by let⟨b u,O,N,S⟩:=P j q e;have M:=N.lt;exact⟨b,u,by rw[rL];exact O,eG M,eG (Cb M f),N.keeps λc o z=>B _ _ (a _ _ (v _ _ z)),S⟩)
  ⟨_,dw _ rfl,rfl,rfl⟩ (t.atT λo e=>B _ _ e) ((d.at λo e=>a _ _ e).at λo e=>B _ _ e)
  (λh' tk H k=>⟨rfl,h h' tk H λb o e=>k b o (eG (dD e)) (eG (Cb (dD e) f)) (B _ _ (a _ _ (v _ _ e)))⟩)
 first
  |exact de ⟨ly yR _,key⟩
  |exact c9 (de (de ⟨ly yR _,key⟩))
end
section
def Zf(K:dh):List V->Hp->VK->Prop:=λd H Q=> ∃(a:eB) (ps:iY) (b:List (Key×V)),d=[.ref a]/\H a=some (.tup (ps.map V.ref))/\yu (λp c=>qJ K H p [kV c.1,c.2]) ps b/\
  ∀p,H p=none->Q (.ref p) (upd H p (.dK (qU [] b)))
def Uj(c:X.calm=true):nM X (.type "dict") (Zf X.K):=by
 intro pz s E H F us Q I r q;let⟨a ps b,ex,i,l,q⟩:=q;subst ex;let⟨(u),m,v⟩:=vals1 r;subst m;cases v;obtain⟨hz,x,t,o,B,A,n,f,hd⟩:=(show jM X.prog X.w H s.heap a (.tup (ps.map V.ref))from I.ab a _ i);have p:=Nt t;subst p;rw[dA]at hz;let⟨(prs),rel,g,y⟩:=vH I l;refine Ft (prs:=prs) (I.ok.hd c) B A hd f (by simp[g]) (by rw[g];exact hz) (λj C e=> ?_) λh' tk h k=> ?_
 .simp_all
 .have z:=mz.mpr (jx I.cz);have d:(qU [] b).length<=sizeLine:=by refine eC (xp b []) ?_;rw[ip,rL,~~~rel,g];exact hz
  exact⟨.ref s.heap.objs.size,upd H s.heap.objs.size (.dK (qU [] b)),I.laid k (dI _) (show jM X.prog X.w _ _ _ (.dK (qU [] b))from⟨d,z,agj [] prs,KV.merge rel .nil,h⟩),rfl,q _ (I.ab.fresh (dI _))⟩
end
section
noncomputable def SQ(prs:List (Int×D)):List (D×D):=prs.foldl (λd q=>rq d (.int q.1) q.2) []
noncomputable def Yb:G1:=λx Q=>match x with
 | .tup l=> ∃prs:List (Int×D),l=prs.map (λq=> .tup [.int q.1,q.2])/\Q (.dic false (SQ prs))
 |_=>False
theorem Nv: ∀{us:List V} {prs:List (Int×D)},oW F H->iE T F us (prs.map λq=> .tup [.int q.1,q.2])-> ∃(ps:iY) (c:List (Key×V)),us=ps.map V.ref/\yu (λp g=>qJ T.K H p [kV g.1,g.2]) ps c/\
  ∀(a:List (Key×V)) (l:List (D×D)),fh (RK T F) a l->fh (RK T F) (qU a c) (prs.foldl (λd q=>rq d (.int q.1) q.2) l)
 |us,[],e,r=>by have:us=[]:=fh.af r;subst this;exact⟨[],[],rfl,.nil,λa l h=>h⟩
 |us,q::prs,e,r=>by let⟨u z,rfl,i,n⟩:=r.cons_right;let⟨ps c,rfl,k,t⟩:=Nv e n;let⟨b A,rfl,f1,s⟩:=rS i;let⟨v m,rfl,y,w⟩:=s.cons_right;let⟨j f,rfl,x,o⟩:=w.cons_right;have:f=[]:=fh.af o;subst this;have:v= .int q.1:=y.aa;subst this;refine⟨b::ps,(.inl q.1,j)::c,rfl,.cons (qJ.of (e.tup f1)) k,λa l h=> ?_⟩;exact t _ _ (JB q.1 h x)
def V9(g:X.mg "dict" =none)(u:X.calm=true)(v:fI cl X e t)(f:Gl X "dict" :=by rfl)(he:dj [e] X.env=(false,fX e X.env)::dj [] X.env:=by rfl)(hpl:(gy pos (dj [] X.env)).any (·.1)=false:=by rfl):
  fI cl X (.Call (.Name "dict" p) [e] [] pos) (BZ Yb t):=t6 (Uj u) (λF H x d w Q e r h k=>by
 rcases r with r|⟨_,_,l,rfl,_,n,rfl⟩
 .cases r with
  | @tup a us ds i o s=>let⟨(prs),rfl,j⟩:=h;let⟨ps c,rfl,m,g⟩:=Nv e ⟨o,s⟩;refine⟨a,ps,c,rfl,e.tup i,m,λq b=>k _ _ _ _ (fT.new e b) (RX eR (RK.mono (fT.new e b).le (g [] [] fh.nil))) j⟩
  |_=>exact eZ h
 .cases l with
  |val _=>exact n.elim
  |ol _=>exact eZ h
  |od _ _=>exact eZ h
  |oi _ _ _=>exact eZ h) g (by decide+kernel) v.r f (he:=he) (hpl:=hpl)
end
noncomputable def top(i:Nat):Stmt:=PySem.Challenge.pw_bloodlines_s01_answers.main.body.getD i (.Pass ⟨0,0,0,0⟩)
open BM
def ny:o4->o4
 | .ClassDef _ _ _ body _ _ _ _ _ _ _=>body.getD 0 (.Pass ⟨0,0,0,0⟩)
 |s=>s
abbrev Jn:=Option L
noncomputable def bD(c:UInt8):D:= .int (c.toNat:Int)
def pI{α:Type}(f:α->D)(l:List α):TQ (l.map f)=l.zipIdx.map λp=> .tup [nD p.2,f p.1]:=by unfold TQ;rw[List.zipIdx_map,dm];rfl
def De(a n:Nat):sj (a:Int) n=(xH a n).map nD:=by
 unfold sj nD;rw[List.range'_eq_map_range,dm]
 simp_all
def rT(n:Nat):sj 0 n=(eE n).map nD:=by have:=De 0 n;rw[qw];exact this
def Hj(h:k<=n):HT.o7 n d (some (k:Int))=k:=by
 unfold HT.o7;simp
 grind
def wb{l:List D}{a b:Nat}(h:a<=b)(c:b<= ~~~l):cutD l (some (a:Int)) (some (b:Int))=(l.drop a).take (b-a):=by unfold cutD;rw[Hj (k:=a) (by lia),Hj (k:=b) c]
def jf{α:Type}{l:List α}{n:Nat}:nB l (n:Int)=l[n]?:=by
 unfold nB P1;rw[dq (by lia)];by_cases h:n< ~~~l
 .simp_all
 .grind
theorem afY:j7 "place" (fl 0) [x0,x1]=some x0:=rfl
theorem afX:j7 "signs" (fl 0) [x0,x1]=some x1:=rfl
theorem afW:j7 "name" (fl 1) [x0,x1,x2]=some x0:=rfl
theorem afV:j7 "sex" (fl 1) [x0,x1,x2]=some x1:=rfl
theorem afU:j7 "parents" (fl 1) [x0,x1,x2]=some x2:=rfl
theorem afT:j7 "by_sex" (fl 2) [x0,x1,x2]=some x0:=rfl
theorem afS:j7 "weights" (fl 2) [x0,x1,x2]=some x1:=rfl
theorem afR:j7 "seen" (fl 2) [x0,x1,x2]=some x2:=rfl
theorem afQ:j7 "names" (fl 3) [x0,x1,x2,x3,x4]=some x0:=rfl
theorem afP:j7 "sexes" (fl 3) [x0,x1,x2,x3,x4]=some x1:=rfl
theorem afO:j7 "parents" (fl 3) [x0,x1,x2,x3,x4]=some x2:=rfl
theorem afN:j7 "oldest_first" (fl 3) [x0,x1,x2,x3,x4]=some x3:=rfl
theorem afM:j7 "youngest_first" (fl 3) [x0,x1,x2,x3,x4]=some x4:=rfl
theorem afL:j7 "number" (fl 4) [x0,x1,x2]=some x0:=rfl
theorem afK:j7 "whole_numbers" (fl 4) [x0,x1,x2]=some x1:=rfl
theorem afJ:j7 "row" (fl 4) [x0,x1,x2]=some x2:=rfl
theorem afI:j7 "number" (fl 5) [x0,x1,x2]=some x0:=rfl
theorem afH:j7 "listed" (fl 5) [x0,x1,x2]=some x1:=rfl
theorem afG:j7 "text" (fl 5) [x0,x1,x2]=some x2:=rfl
theorem afF:j7 "family" (fl 6) [x0,x1]=some x0:=rfl
theorem afE:j7 "place" (fl 6) [x0,x1]=some x1:=rfl
theorem afy:(fl 0).length=2:=rfl
theorem ac8:(fl 0)[(0:Nat)]?=(some "place" :Option gw):=rfl
theorem ac7:(fl 0)[(1:Nat)]?=(some "signs" :Option gw):=rfl
theorem afx:(fl 1).length=3:=rfl
theorem ac6:(fl 1)[(0:Nat)]?=(some "name" :Option gw):=rfl
theorem ac5:(fl 1)[(1:Nat)]?=(some "sex" :Option gw):=rfl
theorem ac4:(fl 1)[(2:Nat)]?=(some "parents" :Option gw):=rfl
theorem afw:(fl 2).length=3:=rfl
theorem ac3:(fl 2)[(0:Nat)]?=(some "by_sex" :Option gw):=rfl
theorem ac2:(fl 2)[(1:Nat)]?=(some "weights" :Option gw):=rfl
theorem ac1:(fl 2)[(2:Nat)]?=(some "seen" :Option gw):=rfl
theorem afv:(fl 3).length=5:=rfl
theorem ac0:(fl 3)[(0:Nat)]?=(some "names" :Option gw):=rfl
theorem acZ:(fl 3)[(1:Nat)]?=(some "sexes" :Option gw):=rfl
theorem acY:(fl 3)[(2:Nat)]?=(some "parents" :Option gw):=rfl
theorem acX:(fl 3)[(3:Nat)]?=(some "oldest_first" :Option gw):=rfl
theorem acW:(fl 3)[(4:Nat)]?=(some "youngest_first" :Option gw):=rfl
theorem afu:(fl 4).length=3:=rfl
theorem acV:(fl 4)[(0:Nat)]?=(some "number" :Option gw):=rfl
theorem acU:(fl 4)[(1:Nat)]?=(some "whole_numbers" :Option gw):=rfl
theorem acT:(fl 4)[(2:Nat)]?=(some "row" :Option gw):=rfl
theorem aft:(fl 5).length=3:=rfl
theorem acS:(fl 5)[(0:Nat)]?=(some "number" :Option gw):=rfl
theorem acR:(fl 5)[(1:Nat)]?=(some "listed" :Option gw):=rfl
theorem acQ:(fl 5)[(2:Nat)]?=(some "text" :Option gw):=rfl
theorem afs:(fl 6).length=2:=rfl
theorem acP:(fl 6)[(0:Nat)]?=(some "family" :Option gw):=rfl
theorem acO:(fl 6)[(1:Nat)]?=(some "place" :Option gw):=rfl
def dPs(s:o4):List Str:=(pV s).args.map (·.arg)
abbrev Sc(N:iW)(s:o4):Prop:=FnScope N (dPs s) (jm s)
def _root_.L2.FnScope.bk(S:FnScope N ps sc)(h:aaF N sc scope own=true:=by decide+kernel):wq N sc scope own:=Us h
noncomputable def aaV:List (Nat×gw):=adT [(14,"is_letter"),(15,"is_digit"),(16,"lengthens"),(17,"closes"),(18,"may_end"),(19,"spoiled_at"),(20,"words_between"),(21,"lines_of"),(27,"may_be_place"),(28,"has_one_gene"),(29,"pairs_in"),(30,"all_pairs"),(31,"pairs_seen"),(32,"place_seen_up_to"),(34,"divisors_for"),(35,"first_missing"),(36,"kind_by"),(37,"pair_by"),(38,"drop_by_chance"),(40,"genes_of"),(41,"with_origins"),(42,"followed_past"),(43,"followed_up"),(44,"power_of_all_ways"),(45,"least_power"),(46,"kin_of"),(47,"inbreeding_of")] (adT [(48,"state_of"),(49,"states_of"),(51,"pairs_without_parents"),(52,"pairs_from_parents"),(53,"pairs_behind"),(54,"agrees"),(55,"sums_with"),(56,"sums_without"),(57,"last_needing"),(58,"sums_over_drops"),(59,"sums_by_pair"),(60,"pairs_that_can_be"),(61,"worlds_of"),(62,"first_contradiction"),(63,"in_lowest_terms"),(64,"chance_of"),(67,"parents_before_children"),(68,"lowest_to_place"),(69,"least_steps_up"),(70,"is_own_forebear"),(78,"fault_of"),(79,"person_fault"),(80,"parent_fault"),(81,"forebear_fault"),(82,"parents_by_number"),(83,"family_of"),(85,"tie_between")] [(86,"paths_up"),(118,"number_alone"),(119,"with_list"),(120,"answer_read"),(121,"answer_people"),(122,"answer_person"),(123,"answer_find"),(124,"answer_kin"),(125,"answer_inbred"),(126,"answer_states"),(127,"answer_tie"),(128,"answer_paths"),(129,"with_pairs"),(130,"answer_place"),(131,"answer_see"),(132,"answer_seen"),(133,"answer_can"),(134,"answer_first"),(135,"answer_worlds"),(136,"answer_chance"),(137,"answer_drop"),(142,"persons_of"),(143,"refusal_of"),(144,"answer_to"),(145,"calls_in"),(146,"laid_out"),(147,"answers")])
noncomputable def aga:List (Nat×gw×gw):=[(12,"Word","Word.__init__"),(13,"Line","Line.__init__"),(26,"Place","Place.__init__"),(66,"Family","Family.__init__"),(116,"Call","Call.__init__"),(117,"Answer","Answer.__init__"),(115,"Desk","Desk.__init__")]
structure Fx(K:dh)(mg:kQ)(cl:nL):Prop where
 G:Mg mg
 T:qj.Ok ⟨K,cl⟩
 d: ∀(k:Nat) (q:Nat×gw),aaV[k]?=some q->fN K mg q.2 (top q.1) (dPs (top q.1))
 c: ∀(k:Nat) (q:Nat×gw×gw),aga[k]?=some q-> ∃f fd,UK K "__init__" q.2.2 (ny (top q.1)) f fd/\Binds K fd (dPs (ny (top q.1))) []/\Mk K (cl k) f/\mg q.2.1=some (.ref (cl k))
def Xk(K:dh)(mg:kQ)(x:gw)(ns:jn):Prop:= ∃a,mg x=some (.ref a)/\ ∀H,qJ K H a (ns.map V.int)
def GQ(P:fY)(w:iu)(K:dh)(a:eB)(b:List (Key×eA)):Prop:= ∀h:iZ,K.In h->h.DictOf (jB P w) a b
section
def aae(ns:jn):G1:=λd Q=>match d with
 | .int i=>Q (.bl (decide (i∈ns)))
 |_=>False
def YM(f: ∀H,qJ T.K H a (ns.map V.int))(h:up T (BZ (aae ns) te) σ H Q):XW (rIn T.K false) (up T te) (tC (.ref a)) σ H Q:=by
 let⟨F g own l,I,t,k⟩:=h;refine⟨F,g,own,_,I,t,λv d i b g1 e c=> ?_⟩;cases e with
 |int j=>refine⟨a,_,rfl,.inr (f b),rfl,AD ns,k _ _ i b g1 (.bl _) ?_⟩;rw[HQ];exact c
 |_=>exact eZ c
def RA(h:Xk X.K X.mg x ns)(g:fI cl X e te)(f:Gl X x:=by rfl)(hd:(x==("__debug__" :gw))=false:=by decide)(c:gv .In (.Name x p)=false:=by with_unfolding_all rfl):ED cl X (.Compare e [.In] [.Name x p] pos) (rY (BZ (aae ns) te)):=by let⟨(a),b,d⟩:=h;exact PT.imp (yX Ac g (Hu f b (v:= .ref a) rfl hd) c) λ_ _ _ h=>YM (T:=qb X cl) d (oC h)
def tGD(b:List (Key×eA))(ty:TE):TE:=λc H Q=>ty c H λy a=> ∃z v u,y= .int z/\o8 b (.inl z)=some u/\RelV v u/\Q v a
def X4(G:GQ X.prog X.w X.K a vs)(A:X.mg x=some (.ref a))(E:PE X i ty)(C:Gl X x)(o:UF i)(hd:(x==("__debug__" :gw))=false):PE X (.Subscript (.Name x p) i pos) (tGD vs ty):=by intro pz s c H Q I h;refine Nl EN.lookup o (jo (Hu C A (v:= .ref a) rfl hd pz s c H (λv b=>v= .ref a/\tGD vs ty c b Q) I ⟨rfl,h⟩) λu q d=> ?_);let⟨x b,l,n,ex,r⟩:=d;refine jo (E pz q c b _ l r) λN M d=> ?_;obtain⟨y,g,e,B,z,v,J,j,F,m,t⟩:=d;subst ex;obtain rfl:u=eD a:=n;subst j;have f:=G _ e.bb;refine⟨f.typeIs,?_⟩;exact adC (zg (k:=jN z) B) f.mapOf F ⟨v,g,e.tok _,m,t⟩
def gGD(tbl:Int->Option Int):G1:=λd Q=>match d with
 | .int z=>(match tbl z with
  |some n=>Q (.int n)
  |none=>False)
 |_=>False
def acr(h: ∃a c,X.mg x=some (.ref a)/\GQ X.prog X.w X.K a c/\ ∀z n,tbl z=some n-> ∃t,o8 c (.inl z)=some (.int n t))(B:fI cl X i te)(s:Gl X x:=by rfl)(m:UF i:=by intro _ _;rfl)(hd:(x==("__debug__" :gw))=false:=by decide):fI cl X (.Subscript (.Name x p) i pos) (BZ (gGD tbl) te):=by
 let⟨a c,g,l,A⟩:=h;refine PE.imp (X4 l g B s m hd) λC H Q y=> ?_;let⟨F q own r,I,t,k⟩:=y;refine⟨F,q,own,_,I,t,λv d u f g1 j b=> ?_⟩;cases j with
 |int z=>
  have b:(match tbl z with|some n=>r (.int n)|none=>False):=b
  cases e:tbl z with
  |none=>rw[e]at b;exact b.elim
  |some n=>rw[e]at b;let⟨(t),o⟩:=A z n e;exact⟨z,.int n,_,rfl,o,⟨t,rfl⟩,k _ _ u f g1 (.int n) b⟩
 |_=>exact eZ b
end
open Lean in
def wkF(x:String):Array Ident:=(x.splitOn " ").toArray.map λs=>mkIdent s.toName
def wkD:="vA adh ado Yh adi adm W1 Ug rY yz BZ T3 N8 T1 dC aaw dOr adk Yo adj dIf Ie Uc aar Yn Ud adg adl T7 Oc Ic Ym Oa N9 KN adf Yj aat Yi T5 Yf W2 aav aau aaq T4 Ue T6 T9 Od Ua Oe Yl Yk T8 Ub dLc DL.L.dat DL.L.whole gI Ya gEq WQ aag aad gIx gNm aac acJ Tv MC KB Tw Qe aaa Z9 WR NX Ts aab Tp Tq Tr MB Yb aah Tt aae gGD aap adn Yg Ob aai AY afY afX afW afV afU afT afS afR afQ afP afO afN afM afL afK afJ afI afH afG afF afE afy ac8 ac7 afx ac6 ac5 ac4 afw ac3 ac2 ac1 afv ac0 acZ acY acX acW afu acV acU acT aft acS acR acQ afs acP acO dt jw dB ip fP u4 jd oV uZ List.set_cons_zero List.set_cons_succ Nat.reduceAdd Nat.reduceSub id_eq"
def wkN:="true_and and_true jv hJ eW reduceIte jL CC Bool.not_eq_false Nat.reduceLeDiff"
open Lean in
local macro_rules
|`(tactic|walk_at "s")=> `(tactic|exact⟨rfl,rfl,rfl,by decide+kernel,rfl,by decide+kernel,by decide+kernel⟩)
|`(tactic|rfl')=>do let a:=wkF (wkD++" "++wkN);`(tactic|try simp only[$[$a:ident],*])
|`(tactic|ac_nf)=>do let a:=wkF wkD;`(tactic|try dsimp only[$[$a:ident],*])
|`(tactic|walk_at "n")=>do let a:=wkF wkN;`(tactic|try simp only[$[$a:ident],*])
section
variable {P:fY} {w:iu} {K:dh} {mg:kQ} {base:iZ} {cl:nL}
noncomputable def Bl(b:Int):Bool:=(decide (65<=b)&&decide (b<=90))||(decide (97<=b)&&decide (b<=122))
def rW:GN:=λds Q=>match ds with
 | [.int b]=>Q (.bl (Bl b))
 |_=>False
def y6(Z:Fx K mg cl):kF P w K mg base cl 1 "is_letter" 1 rW:=by
 have S:Sc ["byte"] (top 14):=by walk_at "s"
 refine fN.ok (Z.d 0 _ rfl) S rfl (λc=>(dn (eK (Sm (Du xl xl nu nu dM (dW 0) dM) (t5 (Du xl xl nu nu dM (dW 0) dM)))))) ?_;intro ds e a;unfold rW Bl at a;split at a
 .rename_i b;rfl';by_cases h1:65<=b<;>by_cases h2:b<=90<;>by_cases h3:97<=b<;>simp only[h1,h2,h3]at a⊢ <;>exact a
 .exact a.elim
def Kk(b:Int):Bool:=decide (48<=b)&&decide (b<=57)
def yd:GN:=λds Q=>match ds with
 | [.int b]=>Q (.bl (Kk b))
 |_=>False
def JY(Z:Fx K mg cl):kF P w K mg base cl 1 "is_digit" 1 yd:=by
 have S:Sc ["byte"] (top 15):=by walk_at "s"
 refine fN.ok (Z.d 1 _ rfl) S rfl (λc=>(dn (eK (Du xl xl nu nu dM (dW 0) dM)))) ?_;intro ds e a;unfold yd Kk at a;split at a
 .rename_i b;rfl';by_cases h1:48<=b<;>simp only[h1]at a⊢ <;>exact a
 .exact a.elim
def WA(part len b:Int):Bool:=if part=1 then decide (len=0)&&(decide (b=102)||decide (b=109))else if len=0 then Bl b else decide (len<15)&&(Bl b||Kk b)
def vW:GN:=λds Q=>match ds with
 | [.int p,.int l,.int b]=>Q (.bl (WA p l b))
 |_=>False
def HD(Z:Fx K mg cl):kF P w K mg base cl 2 "lengthens" 3 vW:=by
 have S:Sc ["part","length","byte"] (top 16):=by walk_at "s"
 refine fN.ok (Z.d 2 _ rfl) S rfl (λc=>(dg (iw (gG k5 k6 (dW 0) (iy Z.G.cG) (fO _)) (dn (eK (Aa (pw k5 k6 (dW 1) dM (fO _)) (t5 (Sr (dW 2) (fI.r (kM (da (iy Z.G.bV) (da (iy Z.G.bg) dz))))))))) gK) (dg (iw (gG k5 k6 (dW 1) dM (fO _)) (dn (eK (dU (y6 Z) c (da (dW 2) dz)))) gK) (dn (eK (Aa (pw A9 nu (dW 1) (iy Z.G.bG) (fO _)) (t5 (Sm (dU (y6 Z) c (da (dW 2) dz)) (t5 (dU (JY Z) c (da (dW 2) dz))))))))))) ?_;intro ds e a;unfold vW WA at a;split at a
 .rename_i p l b;rfl';by_cases h1:p=1
  .subst h1;ac_rfl;by_cases h2:l=0
   .subst h2;ac_rfl;refine⟨[102,109],rfl,?_⟩;simpa using a
   .simp only[h2]at a⊢;simpa using a
  .rw[di h1]at a;ac_rfl;by_cases h2:l=0
   .subst h2;ac_rfl;simpa [rW]using a
   .simp only[h2]at a⊢;by_cases h3:l<15
    .simp only[h3]at a⊢;simp only[rW,yd];cases hb:Bl b<;>simp_all
    .simp only[h3]at a⊢;simpa using a
 .exact a.elim
noncomputable def W6(part len b:Int):Bool:=if len=0 then false else if b=10 then decide (part=1\/part=3)else decide (b=32)&&decide (part≠3)
def El:GN:=λds Q=>match ds with
 | [.int p,.int l,.int b]=>Q (.bl (W6 p l b))
 |_=>False
def Pr(Z:Fx K mg cl):kF P w K mg base cl 1 "closes" 3 El:=by
 have S:Sc ["part","length","byte"] (top 17):=by walk_at "s"
 refine fN.ok (Z.d 3 _ rfl) S rfl (λc=>(dg (iw (gG k5 k6 (dW 1) dM (fO _)) (dn (eK Dx)) gK) (dg (iw (gG k5 k6 (dW 2) (iy Z.G.aY) (fO _)) (dn (eK (Sr (dW 0) (fI.r (kM (da (iy Z.G.cG) (da (iy Z.G.bx) dz))))))) gK) (dn (eK (Aa (pw k5 k6 (dW 2) (iy Z.G.ck) (fO _)) (t5 (pw SD SK (dW 0) (iy Z.G.bx) (fO _))))))))) ?_;intro ds e a;unfold El W6 at a;split at a
 .rename_i p l b;rfl';by_cases h1:l=0
  .simp_all
  .rw[di h1]at a;ac_rfl;by_cases h2:b=10
   .rw[dq h2]at a;ac_rfl;refine⟨[1,3],rfl,?_⟩
    simp_all
   .grind
 .exact a.elim
def WU(part len:Int):Bool:=if part=0 then decide (len=0)else decide (0<len)&&decide (part=1\/part=3)
def Az:GN:=λds Q=>match ds with
 | [.int p,.int l]=>Q (.bl (WU p l))
 |_=>False
def L9(Z:Fx K mg cl):kF P w K mg base cl 1 "may_end" 2 Az:=by
 have S:Sc ["part","length"] (top 18):=by walk_at "s"
 refine fN.ok (Z.d 4 _ rfl) S rfl (λb=>(dg (iw (gG k5 k6 (dW 0) (iy Z.G.aG) (fO _)) (dn (eK (pw k5 k6 (dW 1) dM (fO _)))) gK) (dn (eK (Aa (pw uG nu (dW 1) dM (fO _)) (t5 (Sr (dW 0) (fI.r (kM (da (iy Z.G.cG) (da (iy Z.G.bx) dz))))))))))) ?_;intro ds c a;unfold Az WU at a;split at a
 .rename_i p l;rfl';by_cases h1:p=0
  .simp_all
  .rw[di h1]at a;ac_rfl;by_cases h2:0<l
   .ac_rfl;refine⟨[1,3],rfl,?_⟩
    simp_all
   .simp only[h2]at a;ac_rfl;simpa using a
 .exact a.elim
def Kj(c:UInt8):Bl (c.toNat:Int)=abe c:=by
 unfold Bl abe;have b:decide ((65:Int)<=(c.toNat:Int))=decide (65<=c):=by rw[iH,k9];show _↔65<=c.toNat;lia
 have d:decide ((c.toNat:Int)<=90)=decide (c<=90):=by rw[iH,k9];show _↔c.toNat<=90;lia
 have e:decide ((97:Int)<=(c.toNat:Int))=decide (97<=c):=by rw[iH,k9];show _↔97<=c.toNat;lia
 have a:decide ((c.toNat:Int)<=122)=decide (c<=122):=by rw[iH,k9];show _↔c.toNat<=122;lia
 simp_all
def S3(c:UInt8):(Bl (c.toNat:Int)||Kk (c.toNat:Int))=XO c:=by
 rw[Kj];unfold Kk XO;have a:decide ((48:Int)<=(c.toNat:Int))=decide (48<=c):=by rw[iH,k9];show _↔48<=c.toNat;lia
 have b:decide ((c.toNat:Int)<=57)=decide (c<=57):=by rw[iH,k9];show _↔c.toNat<=57;lia
 rw[a,b]
def uh(c d:UInt8):((c.toNat:Int)=(d.toNat:Int))=(c=d):=by rw[M8,<-Vf];lia
def Wz(p l:Nat)(c:UInt8):WA p l c.toNat=longer p l c:=by
 unfold WA longer;rw[S3,Kj];have a:decide ((c.toNat:Int)=102)=decide (c=102):=by rw[iH,show(102:Int)=((102:UInt8).toNat:Int)from rfl,uh]
 have b:decide ((c.toNat:Int)=109)=decide (c=109):=by rw[iH,show(109:Int)=((109:UInt8).toNat:Int)from rfl,uh]
 by_cases h1:p=1
 .simp_all
 .rw[di (by lia),di h1];by_cases h2:l=0
  .simp_all
  .rw[di (by lia),di h2];congr 1;lia
def W5(p l:Nat)(c:UInt8):W6 p l c.toNat=closing p l c:=by
 unfold W6 closing;have a:((c.toNat:Int)=10)=(c=10):=by rw[show(10:Int)=((10:UInt8).toNat:Int)from rfl,uh]
 have b:decide ((c.toNat:Int)=32)=decide (c=32):=by rw[iH,show(32:Int)=((32:UInt8).toNat:Int)from rfl,uh]
 by_cases h2:l=0
 .simp_all
 .rw[di (by lia),di h2];simp only[a];split
  .grind
  .congr 1
   grind
def WT(p l:Nat):WU p l=sy p l:=by
 unfold WU sy;by_cases h1:p=0
 .simp_all
 .rw[di (by lia),di h1]
  grind
def U9(o:Option Nat):D:=match o with
 |none=> .non
 |some k=>nD k
def HV:GN:=λds Q=> ∃t:gT,ds=[.lst (t.map bD)]/\Q (U9 (ku 0 0 0 t))
def Fb(Z:Fx K mg cl):kF P w K mg base cl 3 "spoiled_at" 1 HV:=by
 have S:Sc ["text","part","length","place","byte"] (top 19):=by walk_at "s"
 refine fN.ok (Z.d 5 _ rfl) S rfl (λg=>(dg (ff (i:=1) S.nd (iy Z.G.aG)) (dg (ff (i:=2) S.nd dM) (dg (i3 .never rfl (uf Z.G.enumerate (dW 0)) (nz (i:=3) (j:=4) rfl S.nd) (dn (iw (nq (dU (HD Z) g (da (dW 1) (da (dW 2) (da (dW 4) dz))))) (dn (wH (i:=2) S.nd dM)) (dn (iw (nq (dU (Pr Z) g (da (dW 1) (da (dW 2) (da (dW 4) dz))))) (dg (ff (i:=1) S.nd (vE (gG k5 k6 (dW 4) (iy Z.G.aY) (fO _)) (iy Z.G.aG) (lH (dW 1) dM))) (dn (ff (i:=2) S.nd dM))) (dn (eK (dW 3)))))))) (dg (iw (nq (dU (L9 Z) g (da (dW 1) (da (dW 2) dz)))) (dn (eK oH)) gK) (dn (eK (iC Z.G.len (pr 0))))))))) ?_;rintro ds q ⟨t,rfl,a⟩;generalize hw:ku 0 0 0 t=w0 at a;rfl';rw[pI];refine fw (λp=> .tup [nD p.2,bD p.1]) (λs=> [some (.val (.lst (t.map bD))),some (.val (nD s.1)),some (.val (nD s.2.1)),s.2.2.1,s.2.2.2])
  (λm s=> ∃p r,m=r.zipIdx p/\p+ ~~~r= ~~~t/\ku s.1 s.2.1 p r=w0) ?_ ?_ _ (0,0,none,none) ⟨0,t,rfl,by lia,hw⟩
 .rintro x m ⟨b,f,o,n⟩ ⟨p,r,e,l,he⟩ k hk;cases r with
  |nil=>cases e
  |cons c r=>
   rw[jT]at e;cases e;simp only at he;ac_nf;walk_at "n";simp only[nD,bD,vW,El,Wz,W5,dB]at*;unfold ku at he;by_cases c1:longer b f c=true
   .rw[c1]at he⊢;exact hk (b,f+1,_,_) ⟨p+1,r,rfl,by lia,he⟩
   .rw[di c1]at he;ac_rfl;by_cases c2:closing b f c=true
    .rw[dq c2]at he;ac_rfl;have h:((c.toNat:Int)=10)=(c=10):=by rw[show(10:Int)=((10:UInt8).toNat:Int)from rfl,uh]
     simp only[h]at he⊢;by_cases c3:c=10
     .simp only[c3]at he⊢;exact hk (0,0,_,_) ⟨p+1,r,rfl,by lia,he⟩
     .simp only[c3]at he⊢;exact hk (b+1,0,_,_) ⟨p+1,r,rfl,by lia,he⟩
    .simp only[c2]at he⊢;rw[<-he]at a;exact a
 .rintro⟨b,f,o,n⟩ ⟨p,r,e,l,he⟩;cases r with
  |cons c r=>rw[jT]at e;cases e
  |nil=>
   rfl';simp only[nD,Az,WT];unfold ku at he;simp only at he;by_cases c1:sy b f=true
   .simp only[c1]at he⊢;rw[<-he]at a;exact a
   .simp only[c1]at he⊢;rw[<-he]at a;have: ~~~t=p:=by simpa using l.symm
    simpa [U9,nD,this]using a
def aaI(h:bD a=bD b):a=b:=by unfold bD at h;injection h with h;rw[<-Vf];lia
def Oi{a b:gT}:(a.map bD=b.map bD)↔a=b:=⟨λh=>Co (λ_ _=>aaI) h,λh=>by rw[h]⟩
def k4(x:xB):D:= .obj 0 [nD x.1,.tup (x.2.map bD)]
def mh(b:Bool):D:= .int (if b=true then 1 else 0)
def kz(x:LineM):D:= .obj 1 [k4 x.name,mh x.man,.lst (x.parents.map k4)]
def nkB(c:UInt8):NK:= .int (c.toNat:Int)
def ZS(l:gT):pC (l.map nkB)=l.map bD:=by rw[za,dm];rfl
def Et: ∀l:gT,NK.ae (l.map nkB)<=1:=by
 intro l;induction l with
 |nil=>decide
 |cons n l ih=>lia
def DQ(l:gT):D.tup (l.map bD)=vj (.tup (l.map nkB)):=by show _=D.tup (pC _);rw[ZS]
def sZ(l:gT):hk true (.tup (l.map bD)):=⟨l.map nkB,DQ l,by have:=Et l;lia⟩
def S7:Stmt:=ny (top 12)
def Tj:UJ:=λds Q=>match ds with
 | [a,b]=>Q [a,b]
 |_=>False
def Wm(Z:Fx K mg cl):Xj P w K mg base cl 1 0 2 "Word" Tj:=by
 let⟨f i,F,g,M,h⟩:=Z.c 0 _ rfl;have S:Sc ["self","place","signs"] S7:=by walk_at "s"
 refine ue F g M (by decide) h S rfl (λe A outer s H E l=>(dg (lG Z.T (pv 0) (dW 1)) (dn (lG Z.T (pv 0) (dW 2))))) ?_;intro q ds j k d;unfold Tj at d;split at d
 .rename_i a b;rfl';exact⟨[a,b],rfl,rfl,d⟩
 .exact d.elim
def S8:Stmt:=ny (top 13)
def Z7:UJ:=λds Q=> ∃a:List xB,ds=[.lst (a.map k4)]/\2<= ~~~a/\Q [k4 (uL a).name,mh (uL a).man,.lst ((uL a).parents.map k4)]
def NI(Z:Fx K mg cl):Xj P w K mg base cl 1 1 1 "Line" Z7:=by
 let⟨f t,F,n,M,g⟩:=Z.c 1 _ rfl;have S:Sc ["self","words"] S8:=by walk_at "s"
 refine ue F n M (by decide) g S rfl (λk A outer s H E o=>(dg (lG Z.T (pv 0) (fK (pr 1) (iy Z.G.aG))) (dg (lG Z.T (pv 0) (vE (RC (gX o) (dS Z.T (fK (pr 1) (iy Z.G.cG))) (kM (da (iy Z.G.bg) dz))) (iy Z.G.cT) (iy Z.G.cy))) (dn (lG Z.T (pv 0) (vF (pr 1) (lR (iy Z.G.cR)) DN)))))) ?_;intro q ds v x d;let⟨(l),rfl,m,d⟩:=d;rfl'
 match l,m,d with
 |e::a::r,_,d=>
  have i:nB ((e::a::r).map k4) (0:Int)=some (k4 e):=jf;have j:nB ((e::a::r).map k4) (1:Int)=some (k4 a):=jf;simp only[dt]at i j⊢;rw[i,j];simp only[k4];refine⟨a.2.map nkB,[.int 109],DQ _,rfl,by have:=Et a.2;lia,?_⟩;have p:cutD (k4 e::k4 a::r.map k4) (some (2:Int)) none=r.map k4:=by unfold cutD;simp[HT.o7,ph]
  have b:cutD (D.obj 0 [nD e.1,.tup (e.2.map bD)]::D.obj 0 [nD a.1,.tup (a.2.map bD)]::r.map k4) (some (2:Int)) none=r.map k4:=p;have g:(D.tup (a.2.map bD)=D.tup [D.int 109])↔a.2=[109]:=by
   constructor
   .intro h;injection h with h;exact(Oi).mp h
   .intro h;rw[h];rfl
  by_cases c:a.2=[109]
  .simp only[g.mpr c]at b⊢;refine⟨_,rfl,rfl,?_⟩;rw[b];simpa [uL,mh,c,k4]using d
  .have u: ¬(D.tup (a.2.map bD)=D.tup [D.int 109]):=λh=>c (g.mp h);ac_rfl;refine⟨_,rfl,rfl,?_⟩;rw[b];simpa [uL,mh,c,k4]using d
def BU:GN:=λds Q=> ∃(t:gT) (a b:Nat),ds=[.lst (t.map bD),nD a,nD b]/\a<=b/\b<= ~~~t/\ ~~~t<=100000/\Q (.lst ((lj a [] ((t.drop a).take (b-a))).map k4))
def sV(Z:Fx K mg cl):kF P w K mg base cl 3 "words_between" 3 BU:=by
 have S:Sc ["text","start","end","words","word_start","place"] (top 20):=by walk_at "s"
 refine fN.ok (Z.d 6 _ rfl) S rfl (λM=>(dg (qz (i:=3) S.nd dz) (dg (ff (i:=4) S.nd (dW 1)) (dg (i3 .never rfl (P6 Z.G.range (dW 1) (lH (dW 2) dM)) (gb (i:=5) S.nd) (dn (iw (K8.td (Ni (gG k5 k6 (dW 5) (dW 2) (fO _)) (G8 (gG k5 k6 (fK (pr 0) (dW 5)) (iy Z.G.ck) (fO _))))) (dg (vB (pv 3) (pT (Wm Z) M (da (dW 4) (da (z9 Z.G.tuple (by decide+kernel) (fI.r (vF (pr 0) (lR (dW 4)) (lR (dW 5))))) dz)))) (dn (ff (i:=4) S.nd (lH (dW 5) dM)))) gK))) (ma 3 (dn (eK (dW 3)))))))) ?_;rintro ds O ⟨t,a,b,rfl,J,H,N,B⟩;generalize hw:lj a [] ((t.drop a).take (b-a))=w0 at B;rfl';simp only[nD];refine⟨by lia,?_⟩;rw[show((b:Int)+1-a).toNat=b+1-a by lia,De];refine fw nD (λs=> [some (.val (.lst (t.map bD))),some (.val (nD a)),some (.val (nD b)),some (.ol (s.1.map k4)),some (.val (nD s.2.1)),s.2.2])
  (λC s=> ∃p,C=xH p (b+1-p)/\p<=b+1/\s.2.1<=p/\s.1.length<=p/\(p<=b->s.1++lj s.2.1 ((t.drop s.2.1).take (p-s.2.1)) ((t.drop p).take (b-p))=w0)/\(p=b+1->s.1=w0)) ?_ ?_ _ ([],a,none) ⟨a,rfl,by lia,by simp,by simp,λ_=>by simpa using hw,λh=>by lia⟩
 .rintro p C ⟨f,e,j⟩ ⟨x,n,I,m,q,g,v⟩ k hk;have o:x<=b:=by apply dP;intro c;rw[show b+1-x=0 by lia]at n;cases n
  rw[show b+1-x=(b-x)+1 by lia,nE]at n;cases n;have g:=g o;simp only at g m q;ac_nf;walk_at "n";simp only[nD];have E:cutD (t.map bD) (some (e:Int)) (some (p:Int))=((t.drop e).take (p-e)).map bD:=by rw[wb m (by(try simp)<;>lia),zK,tP]
  have l: ~~~f<sizeLine:=by rw[dO];lia
  by_cases c1:p=b
  .subst c1;simp only[E];refine⟨by simpa using l,?_⟩;have:=hk (f++ [(e,(t.drop e).take (p-e))],p+1,some (.val (nD p))) ⟨p+1,by simp,by lia,by simp,by(try simp)<;>lia,λh=>by lia,λ_=> ?_⟩
   .simpa [k4,nD]using this
   .rw[<-g];simp[lj]
  .have u:p< ~~~t:=by lia
   have z:=df u;have hd:(t.drop p).take (b-p)=t[p]::(t.drop (p+1)).take (b-(p+1)):=by rw[fV u,show b-p=(b-(p+1))+1 by lia,List.take_succ_cons]
   rw[hd]at g;have F: ¬((p:Int)=(b:Int)):=by lia
   ac_rfl;rw[jf,dX,z];simp only[qu,bD];have y:(((t[p].toNat:Nat):Int)=32)=(t[p]=32):=by rw[show(32:Int)=((32:UInt8).toNat:Int)from rfl,uh]
   simp only[y];unfold lj at g;have A:((t.drop e).take (p-e)).length=p-e:=by(try simp)<;>lia
   by_cases c2:t[p]=32
   .simp only[c2,E]at g⊢;refine⟨by simpa using l,?_⟩;have:=hk (f++ [(e,(t.drop e).take (p-e))],p+1,some (.val (nD p))) ⟨p+1,by(try simp)<;>lia,by lia,by simp,by(try simp)<;>lia,λ_=> ?_,λh=>by lia⟩
    .simpa [k4,nD]using this
    .rw[<-g,A,show e+(p-e)+1=p+1 by lia];simp
   .simp only[c2]at g;ac_rfl;have:=hk (f,e,some (.val (nD p))) ⟨p+1,by(try simp)<;>lia,by lia,by show e<=p+1;lia,by show ~~~f<=p+1;lia,λ_=> ?_,λh=>by lia⟩
    .simpa [nD]using this
    .rw[<-g];congr 2;rw[show p+1-e=(p-e)+1 by lia,pd (show p-e<(t.drop e).length by rw[nF];lia)];simp[show e+(p-e)=p by lia]
 .rintro⟨f,e,j⟩ ⟨p,n,I,m,q,g,v⟩;have o:p=b+1:=by apply dP;intro c;rw[show b+1-p=(b-p)+1 by lia,nE]at n;cases n
  have v:=v o;subst v;rfl';exact B
def Mx:GN:=λds Q=> ∃t:gT,ds=[.lst (t.map bD)]/\ ~~~t<=100000/\(∀s∈kf 0 [] t,2<=(lj s.1 [] s.2).length)/\Q (.lst ((vS t).map kz))
def lnM(s:xB):LineM:=uL (lj s.1 [] s.2)
def Bb(Z:Fx K mg cl):kF P w K mg base cl 4 "lines_of" 1 Mx:=by
 have S:Sc ["text","lines","start","place","byte"] (top 21):=by walk_at "s"
 refine fN.ok (Z.d 7 _ rfl) S rfl (λm=>(dg (qz (i:=1) S.nd dz) (dg (ff (i:=2) S.nd dM) (dg (i3 .never rfl (uf Z.G.enumerate (dW 0)) (nz (i:=3) (j:=4) rfl S.nd) (dn (iw (gG k5 k6 (dW 4) (iy Z.G.aY) (fO _)) (dg (vB (pv 1) (pT (NI Z) m (da (dU (sV Z) m (da (dW 0) (da (dW 2) (da (dW 3) dz)))) dz))) (dn (ff (i:=2) S.nd (lH (dW 3) dM)))) gK))) (dg (iw (gG A9 nu (dW 2) (iC Z.G.len (pr 0)) (fO _)) (dn (vB (pv 1) (pT (NI Z) m (da (dU (sV Z) m (da (dW 0) (da (dW 2) (da (iC Z.G.len (pr 0)) dz)))) dz)))) gK) (ma 1 (dn (eK (dW 1))))))))) ?_;rintro ds I ⟨t,rfl,F,A,q⟩;have q:I (.lst (((kf 0 [] t).map lnM).map kz)):=q;generalize hw:kf 0 [] t=w0 at q A;rfl';rw[pI];refine fw (λp=> .tup [nD p.2,bD p.1]) (λs=> [some (.val (.lst (t.map bD))),some (.ol ((s.1.map lnM).map kz)),some (.val (nD s.2.1)),s.2.2.1,s.2.2.2])
  (λH s=> ∃p r,H=r.zipIdx p/\r=t.drop p/\p+ ~~~r= ~~~t/\s.2.1<=p/\s.1.length<=p/\s.1++kf s.2.1 ((t.drop s.2.1).take (p-s.2.1)) r=w0) ?_ ?_ _ ([],0,none,none) ⟨0,t,rfl,by simp,by lia,by simp,by simp,by simpa using hw⟩
 .rintro x H ⟨e,st,M,J⟩ ⟨p,r,v,m,y,g,n,he⟩ k hk;cases r with
  |nil=>cases v
  |cons c r=>
   rw[jT]at v;cases v;simp only at he g n;have o:p< ~~~t:=by simp at y;lia
   have u:r=t.drop (p+1)/\c=t[p]:=by rw[fV o]at m;injection m with a b;exact⟨b,a⟩
   have l:((t.drop st).take (p-st)).length=p-st:=by simp;lia
   have f: ~~~e<sizeLine:=by rw[dO];lia
   ac_nf;walk_at "n";have C:((c.toNat:Int)=10)=(c=10):=by rw[show(10:Int)=((10:UInt8).toNat:Int)from rfl,uh]
   simp only[bD,C];rw[kf]at he;by_cases c1:c=10
   .rw[dq c1]at he;ac_rfl;refine⟨t,st,p,rfl,g,by lia,F,_,rfl,A (st,_) (by rw[<-he];simp),by simpa using f,?_⟩;have:=hk (e++ [(st,(t.drop st).take (p-st))],p+1,some (.val (nD p)),some (.val (bD c))) ⟨p+1,r,rfl,u.1,by simp at y;lia,by simp,by simp;lia,?_⟩
    .simpa [nD,bD,c1,kz,lnM]using this
    .rw[<-he,l,show st+(p-st)+1=p+1 by lia];simp
   .rw[di c1]at he;ac_rfl;have:=hk (e,st,some (.val (nD p)),some (.val (bD c))) ⟨p+1,r,rfl,u.1,by simp at y;lia,by show st<=p+1;lia,by show ~~~e<=p+1;lia,?_⟩
    .simpa [nD,bD]using this
    .rw[<-he];congr 2;rw[show p+1-st=(p-st)+1 by lia,pd (show p-st<(t.drop st).length by rw[nF];lia)];simp[show st+(p-st)=p by lia,u.2]
 .rintro⟨e,st,M,J⟩ ⟨p,r,v,m,y,g,n,he⟩;cases r with
  |cons c r=>rw[jT]at v;cases v
  |nil=>
   have o:p= ~~~t:=by simpa using y
   subst o;simp only at he g n;have f: ~~~e<sizeLine:=by rw[dO];lia
   have l:((t.drop st).take (~~~t-st)).length= ~~~t-st:=by simp
   rw[kf]at he;ac_nf;walk_at "n";rw[nD,dA];by_cases c1:st< ~~~t
   .have z: ¬((t.drop st).take (~~~t-st))=[]:=by
     intro h;rw[h]at l;simp at l;lia
    rw[di z]at he;have E:(st:Int)<(~~~t:Int):=by lia
    ac_rfl;refine⟨t,st,~~~t,rfl,g,by lia,F,_,rfl,A (st,_) (by rw[<-he];simp),by simpa using f,?_⟩;rw[<-he]at q;simpa [kz,lnM]using q
   .have B:(t.drop st).take (~~~t-st)=[]:=eY (by lia);rw[dq B]at he;have E: ¬(st:Int)<(~~~t:Int):=by lia
    ac_rfl;rw[<-he]at q;simpa using q
def jX(p:fc):D:= .tup [nD p.1,nD p.2]
def jH(l:List fc):D:= .lst (l.map jX)
def fJ(L:dQ)(a:gN):D:= .obj 2 [mh L.bySex,.lst (hU L.weights),.dic false (dl nD jH a)]
def qA(h:jX a=jX b):a=b:=by injection h with h;injection h with h1 h2;injection h2 with h2;exact xF (jI h1) (jI h2)
def D8(p:fc):hk true (jX p):=HR [p.1,p.2]
def Bu(p:fc):Int×Int:=((p.1:Int),(p.2:Int))
theorem L5(p:fc):pairD (Bu p)=jX p:=rfl
def JU(a b:fc):y4 (Bu a) (Bu b)=false↔ ¬BM.pl a b:=by rw[<-CC,Hz];unfold Bu BM.pl;lia
def yU{k:Nat}{c:fc->Bool}{keys:List fc}(hd:keys.Nodup)(d: ∀p,p∈keys↔p∈il k/\c p=true){ns:List (Int×Int)}(e:ns.Perm (keys.map Bu))(a:ns.Pairwise λx y=>y4 y x=false):ns.map pairD=((il k).filter c).map jX:=by let⟨(g),b,f⟩:=Dr e keys rfl;subst f;rw[fQ]at a;have:=E6 b (a.imp λh=>(JU _ _).mp h) hd d;rw[this,dm];rfl
noncomputable def iV:List Nat->List fc
 |a::b::r=>(a,b)::iV r
 |_=> []
theorem DC: ∀(l:dE) (i:Nat),2*i+1< ~~~l-> ∃a b,l[2*i]?=some a/\l[2*i+1]?=some b/\(iV l)[i]?=some (a,b)
 | [],i,h=>by simp at h
 | [x],i,h=>by simp at h
 |x::y::r,0,h=>⟨x,y,rfl,rfl,rfl⟩
 |x::y::r,i+1,h=>by
  let⟨a b,d,e,c⟩:=DC r i (by simp at h;lia);refine⟨a,b,?_,?_,by simpa [iV]using c⟩
  .lia
  .lia
theorem DB: ∀l:List Nat,(iV l).length= ~~~l/2
 | []=>rfl
 | [x]=>by simp[iV]
 |x::y::r=>by simp[iV,DB r];lia
def P5:Stmt:=ny (top 26)
def NW:UJ:=λds Q=>match ds with
 | [a,b,c]=>Q [a,b,c]
 |_=>False
def J3(Z:Fx K mg cl):Xj P w K mg base cl 1 2 3 "Place" NW:=by
 let⟨f i,F,g,M,h⟩:=Z.c 2 _ rfl;have S:Sc ["self","by_sex","weights","seen"] P5:=by walk_at "s"
 refine ue F g M (by decide) h S rfl (λe A outer s H E l=>(dg (lG Z.T (pv 0) (dW 1)) (dg (lG Z.T (pv 0) (dW 2)) (dn (lG Z.T (pv 0) (dW 3)))))) ?_;intro q ds j k d;unfold NW at d;split at d
 .rename_i a b c;rfl';exact⟨[a,b,c],rfl,rfl,d⟩
 .exact d.elim
def wM(w:dE):(w.map λn:Nat=>(n:Int)).sum=((w.sum:Nat):Int):=by
 induction w with
 |nil=>rfl
 |cons x w ih=>simp[ih]
def Eh:GN:=λds Q=> ∃(k:Nat) (w:dE),ds=[nD k,.lst (hU w)]/\Q (.bl (decide (k<=1)&&kI ⟨k==1,w⟩))
def BN(Z:Fx K mg cl):kF P w K mg base cl 1 "may_be_place" 2 Eh:=by
 have S:Sc ["by_sex","weights"] (top 27):=by walk_at "s"
 refine fN.ok (Z.d 8 _ rfl) S rfl (λt=>(dg (iw (K8.td (Ni (gG uG nu (dW 0) (iy Z.G.bj) (fO _)) (G8 (LH (RD xl xl nu nu dM (iC Z.G.len (pr 1)) (iy Z.G.b4)))))) (dn (eK Dx)) gK) (dn (eK (Aa (pw SE nu (Zy Z.G.min rfl (by decide+kernel) (pr 1)) dM (fO _)) (t5 (pw xl nu (Ds Z.G.sum rfl (by decide+kernel) (pr 1)) (iy Z.G.bT) (fO _)))))))) ?_;rintro ds q ⟨k,w,rfl,f⟩;unfold kI xh Jb at f;rfl';rw[nD,hU,dA];by_cases c1:k<=1
 .have p: ¬((1:Int)<(k:Int)):=by lia
  ac_rfl;by_cases c2:1<= ~~~w
  .have c:(1:Int)<=(~~~w:Int):=by lia
   by_cases c3: ~~~w<=8
   .have e:(~~~w:Int)<=8:=by lia
    simp only[c,e];refine⟨w.map λn:Nat=>(n:Int),by rw[dm];rfl,by simp;lia,?_⟩;intro m r g;let⟨(m'),o,rfl⟩:=dk.mp r;have a:=λy l=>by have:=g _ (dk.mpr ⟨y,l,rfl⟩);lia
    by_cases c4:1<=m'
    .have j:(1:Int)<=(m':Int):=by lia
     ac_rfl;refine⟨w.map λn:Nat=>(n:Int),by rw[dm];rfl,?_⟩;rw[wM];have i:(w.all λw=>w !=0)=true:=by rw[hC];intro y l;have:=a y l;simp;lia
     have s:decide (((w.sum:Nat):Int)<=255)=decide (w.sum<=255):=by rw[iH];lia
     rw[s];refine(gR (λb=>q (.bl b)) ?_).mp f;rw[je];simp[c1,c2,c3,i,BM.sQ];exact⟨lX,λh=>mI h⟩
    .have j: ¬(1:Int)<=(m':Int):=by lia
     ac_rfl;have i:(w.all λw=>w !=0)=false:=by rw[<-CC,hC];intro h;have:=h m' o;simp at this;lia
     simpa [i]using f
   .have e: ¬(~~~w:Int)<=8:=by lia
    simp only[c,e];simpa [c3]using f
  .have c: ¬(1:Int)<=(~~~w:Int):=by lia
   ac_rfl;simpa [c2]using f
 .have p:(1:Int)<(k:Int):=by lia
  ac_rfl;simpa [c1]using f
def Ej:GN:=λds Q=> ∃(L:dQ) (b:gN) (a:Bool),ds=[fJ L b,mh a]/\Q (.bl (L.bySex&&a))
def nO(Z:Fx K mg cl):kF P w K mg base cl 1 "has_one_gene" 2 Ej:=by
 have S:Sc ["place","sex"] (top 28):=by walk_at "s"
 refine fN.ok (Z.d 9 _ rfl) S rfl (λb=>(dn (eK (Aa (pw k5 k6 (dS Z.T (dW 0)) (iy Z.G.bj) (fO _)) (t5 (pw k5 k6 (dW 1) (iy Z.G.cT) (fO _))))))) ?_;rintro ds c ⟨L,f,a,rfl,e⟩;dsimp only[fJ];rfl';simp only[mh];cases hb:L.bySex<;>cases a<;>simp_all
def Mw:GN:=λds Q=> ∃(L:dQ) (a:gN) (l:dE),ds=[fJ L a,.lst (hU l)]/\ ~~~l%2=0/\ ~~~l<=100000/\Q (jH (gC L (iV l)))
def Ba(Z:Fx K mg cl):kF P w K mg base cl 1 "pairs_in" 2 Mw:=by
 have S:Sc ["place","numbers","kinds","pairs","at","pair"] (top 29):=by walk_at "s"
 refine fN.ok (Z.d 10 _ rfl) S rfl (λU=>(dg (ff (i:=2) S.nd (iC Z.G.len (fI.r (dS Z.T (dW 0))))) (dg (mR (i:=3) S.nd) (dg (i3 .never rfl (Mq Z.G.range (iC Z.G.len (pr 1))) (gb (i:=4) S.nd) (dg (ff (i:=5) S.nd (z9 Z.G.tuple (by decide+kernel) (fI.r (vF (pr 1) (lR (dW 4)) (lR (lH (dW 4) dM)))))) (dn (iw (gG A9 nu (V6 Z.G.max rfl (pr 5)) (dW 2) (fO _)) (dn (mE (gX U) (pv 3) (dW 5) Dx)) gK)))) (dn (eK (JQ Z.G.sorted rfl (pr 3)))))))) ?_;rintro ds QD ⟨L,O,l,rfl,I,x0,N⟩;rw[fJ];rfl';simp only[hU,dA];refine⟨by lia,by lia,?_⟩;have H:Es (~~~l:Int)=(eE (~~~l/2)).map λi=>nD (2*i):=by unfold Es;rw[show((~~~l:Int).toNat+1)/2= ~~~l/2 by lia];rfl
 rw[H];refine fw (S:=List (fc×Bool)×Jn×Jn×Jn) (λi=>nD (2*i)) (λs=> [some (.val (fJ L O)),some (.val (.lst (hU l))),some (.val (nD L.kinds)),some (.od true (dl jX D.bl s.1)),s.2.2.1,s.2.2.2])
  (λF s=> ∃i,F=xH i (~~~l/2-i)/\i<= ~~~l/2/\(s.1.map (·.1)).Nodup/\s.1.length<=i/\ ∀p,p∈s.1.map (·.1)↔p∈(iV l).take i/\p.1<L.kinds/\p.2<L.kinds) ?_ ?_ (eE (~~~l/2)) ([],none,none,none) ⟨0,by rw[qw];rfl,by lia,by simp,by simp,by simp⟩
 .rintro i F ⟨f,C,Y,Q⟩ ⟨z,g,R,hd,q,y⟩ k hk;have u:z< ~~~l/2:=by apply dP;intro c;rw[show ~~~l/2-z=0 by lia]at g;cases g
  rw[show ~~~l/2-z=(~~~l/2-(z+1))+1 by lia,nE]at g;cases g;simp only at hd q y;let⟨a b,ha,J,A⟩:=DC l i (by lia);have o:(iV l).take (i+1)=(iV l).take i++ [(a,b)]:=by rw[YB,A];rfl
  have X:cutD (hU l) (some ((2*i:Nat):Int)) (some ((2*i+2:Nat):Int))=[nD a,nD b]:=by rw[wb (by lia) (by unfold hU;simp;lia)];unfold hU;let⟨(M),rfl⟩:=dH.mp ha;let⟨(h6),rfl⟩:=dH.mp J;rw[<-tP,fV M,fV h6,show 2*i+2-2*i=2 by lia];rfl
  have B:cutD (xI nD l) (some (2*(i:Int))) (some (2*(i:Int)+2))=[nD a,nD b]:=by have:=X;unfold hU at this;rw[show((2*i:Nat):Int)=2*(i:Int)by lia,show((2*i+2:Nat):Int)=2*(i:Int)+2 by lia]at this;exact this
  ac_nf;walk_at "n";simp only[nD,hU];rw[show((2*i:Nat):Int)=2*(i:Int)by lia];rw[B];refine⟨[(a:Int),(b:Int)],rfl,by simp,?_⟩;intro m v n;have t:(m<(L.kinds:Int))↔a<L.kinds/\b<L.kinds:=by
   have q1:=n a (by simp);have q2:=n b (by simp);simp at v;constructor
   .intro h;lia
   .rintro⟨E,I⟩;rcases v with rfl|rfl<;>lia
  by_cases c:a<L.kinds/\b<L.kinds
  .simp only[t.mpr c];refine⟨D8 (a,b),by rw[dO];unfold dl;simp;lia,?_⟩;have e:rq (dl jX D.bl f) (jX (a,b)) (D.bl true)=dl jX D.bl (kX f (a,b) true):=jz (λ_ _=>qA) f (a,b) true;have:=hk (kX f (a,b) true,C,some (.val (nD (2*i))),some (.val (jX (a,b)))) ⟨i+1,rfl,by lia,xQ hd,?_,λp=> ?_⟩
   .rw[<-e]at this;simpa [nD,jX,hU]using this
   .have:(kX f (a,b) true).length<= ~~~f+1:=by
     unfold kX;split<;>simp
    show(kX f (a,b) true).length<=i+1;lia
   .show p∈(kX f (a,b) true).map (·.1)↔_;rw[JD,y p,o,gp,ia];constructor
    .rintro(h|rfl)
     .exact⟨.inl h.1,h.2⟩
     .exact⟨.inr rfl,c⟩
    .rintro⟨h|h,j⟩
     .exact .inl ⟨h,j⟩
     .exact .inr h
  .have c': ¬(m<(L.kinds:Int)):=λh=>c (t.mp h);ac_rfl;have:=hk (f,C,some (.val (nD (2*i))),some (.val (jX (a,b)))) ⟨i+1,rfl,by lia,hd,by show ~~~f<=i+1;lia,λp=> ?_⟩
   .simpa [nD,jX,hU]using this
   .show p∈f.map (·.1)↔_;rw[y p,o,gp,ia];constructor
    .exact λh=>⟨.inl h.1,h.2⟩
    .rintro⟨h|rfl,j⟩
     .exact⟨h,j⟩
     .exact absurd j c
 .rintro⟨f,C,Y,Q⟩ ⟨i,g,R,hd,q,y⟩;have u:i= ~~~l/2:=by apply dP;intro c;rw[show ~~~l/2-i=(~~~l/2-(i+1))+1 by lia,nE]at g;cases g
  subst u;refine⟨(f.map (·.1)).map Bu,by unfold dl;rw[dm,dm,dm];rfl,λns E j=> ?_⟩;have:=yU (k:=L.kinds) (c:=λx=>(iV l).contains x) hd (λp=> ?_) E j
  .rw[this];exact N
  .rw[y p,oO,ph (by rw[DB];lia)];simp only[xJ,jL];exact⟨λh=>⟨h.2,h.1⟩,λh=>⟨h.2,h.1⟩⟩
def oe{K V:Type}(f:K->D)(g:V->D)(l:List (K×V)):pD (dl f g l)=l.map λq=> .tup [f q.1,g q.2]:=by unfold pD dl;rw[dm];rfl
def Kx:GN:=λds Q=> ∃(L:dQ) (a:gN),ds=[fJ L a]/\L.kinds<=1000/\Q (jH (il L.kinds))
def HH(Z:Fx K mg cl):kF P w K mg base cl 1 "all_pairs" 1 Kx:=by
 have S:Sc ["place","kinds","pairs","p","m"] (top 30):=by walk_at "s"
 refine fN.ok (Z.d 11 _ rfl) S rfl (λB=>(dg (ff (i:=1) S.nd (iC Z.G.len (fI.r (dS Z.T (dW 0))))) (dg (qz (i:=2) S.nd dz) (dg (i3 .never rfl (wN Z.G.range (dW 1)) (gb (i:=3) S.nd) (dn (RM (pv 2) (sS [("m",4)] rfl S.nd S.bk (wN Z.G.range (dW 1)) (λ_ _ _ _ _=>(gb (i:=4) S.nd)) (λ_ _ _ _ _=>mK) (λ_ _ _ _ _=>(kM (da (dW 3) (da (dW 4) dz)))))))) (ma 2 (dn (eK (dW 2)))))))) ?_;rintro ds y ⟨L,q,rfl,o,j⟩;generalize hw:il L.kinds=w0 at j;rw[fJ];rfl';have h:(hU L.weights).length=L.kinds:=by unfold hU xh;simp
 rw[h];refine⟨by lia,?_⟩;rw[show((L.kinds:Nat):Int).toNat=L.kinds by lia,rT];refine fw nD (λs=> [some (.val (fJ L q)),some (.val (nD L.kinds)),some (.ol (s.1.map jX)),s.2.1,s.2.2])
  (λn s=> ∃i,n=xH i (L.kinds-i)/\i<=L.kinds/\s.1.length=i*L.kinds/\s.1++(xH i (L.kinds-i)).flatMap (λp=>(eE L.kinds).map λm=>(p,m))=w0) ?_ ?_ (eE L.kinds) ([],none,none) ⟨0,by rw[qw];rfl,by lia,by simp,by rw[<-hw];unfold il;rw[qw];rfl⟩
 .rintro p n ⟨e,u,l⟩ ⟨g,b,t,a,he⟩ k hk;have f:g<L.kinds:=by apply dP;intro c;rw[show L.kinds-g=0 by lia]at b;cases b
  rw[show L.kinds-g=(L.kinds-(g+1))+1 by lia,nE]at b he;cases b;simp only at a he;have x:p*L.kinds+L.kinds<=1000*1000:=by have:p*L.kinds<=999*1000:=kh (by lia) (by lia);lia
  simp only[nD];refine⟨by lia,?_⟩;rw[show((L.kinds:Nat):Int).toNat=L.kinds by lia,rT];refine⟨by rw[dO];simp;lia,?_⟩;refine mM nD (λm=>jX (p,m)) _ (λm z A v=> ?_) ?_
  .rfl';exact v
  .rfl';refine⟨by rw[dO];simp;lia,?_⟩;have:=hk (e++(eE L.kinds).map λm=>(p,m),some (.val (nD p)),l) ⟨p+1,rfl,by lia,by simp[a,oX],by rw[<-he];simp⟩;simpa [nD,jZ]using this
 .rintro⟨e,u,l⟩ ⟨i,b,t,a,he⟩;have f:i=L.kinds:=by apply dP;intro c;rw[show L.kinds-i=(L.kinds-(i+1))+1 by lia,nE]at b;cases b
  subst f;simp at he;subst he;rfl';exact j
def HX:GN:=λds Q=> ∃(L:dQ) (a:gN) (i:Nat),ds=[fJ L a,nD i]/\L.kinds<=1000/\Q (jH ((gB a i).getD (il L.kinds)))
def Fe(Z:Fx K mg cl):kF P w K mg base cl 2 "pairs_seen" 2 HX:=by
 have S:Sc ["place","person"] (top 31):=by walk_at "s"
 refine fN.ok (Z.d 12 _ rfl) S rfl (λb=>(dn (eK (vE (Ha (gX b) (dW 1) (fI.r (dS Z.T (dW 0)))) (m7 (gX b) (fI.r (dS Z.T (dW 0))) (dW 1)) (dU (HH Z) b (da (dW 0) dz)))))) ?_;rintro ds g ⟨L,f,i,rfl,c,a⟩;rw[fJ];rfl';rw[kn (λ_ _=>jI)];refine⟨kP i,?_⟩;cases e:gB f i with
 |none=>rw[e]at a;exact⟨L,f,rfl,c,a⟩
 |some l=>rw[e]at a;exact⟨kP i,_,rfl,a⟩
def yc:GN:=λds Q=> ∃(L:dQ) (a:gN) (m:Nat),ds=[fJ L a,nD m]/\(a.map (·.1)).Nodup/\ ~~~a<=100000/\Q (fJ L (BM.upTo a m))
def wY(Z:Fx K mg cl):kF P w K mg base cl 3 "place_seen_up_to" 2 yc:=by
 have S:Sc ["place","last","seen","person","pairs"] (top 32):=by walk_at "s"
 refine fN.ok (Z.d 13 _ rfl) S rfl (λp=>(dg (yV (i:=2) S.nd) (dg (tY .never rfl (dS Z.T (dW 0)) (nz (i:=3) (j:=4) rfl S.nd) (dn (iw (gG xl nu (dW 3) (dW 1) (fO _)) (dn (mE (gX p) (pv 2) (dW 3) (dW 4))) gK))) (ma 2 (dn (eK (pT (J3 Z) p (da (dS Z.T (dW 0)) (da (dS Z.T (dW 0)) (da (dW 2) dz)))))))))) ?_;rintro ds z ⟨L,l,m,rfl,hd,t,o⟩;generalize hw:BM.upTo l m=w0 at o;rw[fJ];rfl';rw[oe];refine fw (λq=> .tup [nD q.1,jH q.2]) (λs=> [some (.val (fJ L l)),some (.val (nD m)),some (.od false (dl nD jH s.1)),s.2.1,s.2.2])
  (λn s=>((s.1++n).map (·.1)).Nodup/\s.1.length+ ~~~n<= ~~~l/\s.1++BM.upTo n m=w0) ?_ ?_ l ([],none,none) ⟨by simpa using hd,by simp,by simpa using hw⟩
 .rintro x n ⟨a,y,v⟩ ⟨f,b,he⟩ k hk;simp only at f b he;have u:x.1∉a.map (·.1):=by intro h;rw[jF,gE]at f;exact f.2.2 x.1 h x.1 (by simp) rfl
  ac_nf;walk_at "n";by_cases c:x.1<=m
  .have r:(x.1:Int)<=(m:Int):=by lia
   ac_rfl;refine⟨kP x.1,by unfold dl;rw[dO];simp at b⊢;lia,?_⟩;have e:=jz (g:=jH) (λ_ _=>jI) a x.1 x.2;rw[iI u]at e;have:=hk (a++ [x],some (.val (nD x.1)),some (.val (jH x.2))) ⟨by simpa using f,by simp at b⊢;lia,by rw[<-he];simp[BM.upTo,c]⟩;rw[<-e]at this;exact this
  .have r: ¬(x.1:Int)<=(m:Int):=by lia
   ac_rfl;have:=hk (a,some (.val (nD x.1)),some (.val (jH x.2))) ⟨by rw[jF]at f⊢;rw[dt]at f;exact f.sublist (by simp),by simp at b⊢;lia,by rw[<-he];simp[BM.upTo,c]⟩;simpa [nD]using this
 .rintro⟨a,y,v⟩ ⟨f,b,he⟩;simp[BM.upTo]at he;subst he;rw[fJ];rfl';exact o
def uJ(x:gT):D:= .tup (x.map bD)
def me(P:du):List D:=P.map λx=>uJ x.name
def Ju(P:du):List D:=P.map λx=>mh x.man
def qg(P:du):List D:=(eE (~~~P)).map λi=> .lst (hU (par P i))
def iN(P:du):D:= .obj 3 [.lst (me P),.lst (Ju P),.lst (qg P),.lst (hU (eV P)),.lst (hU (j6 P))]
def Dp{P:du}{i:Nat}(h:i< ~~~P):P[i]?=some (gf P i):=by
 unfold gf
 simp_all
def qf{P:du}{i:Nat}(h:i< ~~~P):nB (qg P) (i:Int)=some (.lst (hU (par P i))):=by
 rw[jf];unfold qg
 simp_all
def Hg{P:du}{i:Nat}(h:i< ~~~P):nB (Ju P) (i:Int)=some (mh (gf P i).man):=by rw[jf];unfold Ju;rw[dX,Dp h];rfl
def Ww{P:du}{i:Nat}(h:i< ~~~P):nB (me P) (i:Int)=some (uJ (gf P i).name):=by rw[jf];unfold me;rw[dX,Dp h];rfl
def jA(l:dE):(hU l).length= ~~~l:=by unfold hU;simp
def Cg(l:dE):hU l=(l.map λn:Nat=>(n:Int)).map D.int:=by unfold hU;rw[dm];rfl
def qQ{P:du}{i:Nat}(h:(gf P i).parents=none):par P i=[]:=by unfold par;rw[h]
def kN{P:du}{i:Nat}{y:Nat×Nat}(h:(gf P i).parents=some y):par P i=[y.1,y.2]:=by unfold par;rw[h]
def lS{l:dE}{i n:Nat}(h:l[i]?=some n):nB (hU l) (i:Int)=some (nD n):=by rw[jf];unfold hU;rw[dX,h];rfl
def Ws(h:l≠ []):nB (hU l) (-1)=some (nD (qh l)):=by have a:=kD.mpr h;unfold nB P1;rw[di (by lia),jA,dq (by lia)];show(hU l)[(-1+(~~~l:Int)).toNat]?=_;rw[show(-1+(~~~l:Int)).toNat= ~~~l-1 by lia];unfold hU qh;rw[dX,df (show ~~~l-1< ~~~l by lia),dG,df (show ~~~l-1< ~~~l by lia)];rfl
def Ek:GN:=λds Q=> ∃(P:du) (L:dQ) (a:gN) (i:Nat),ds=[iN P,fJ L a,nD i]/\i< ~~~P/\Q (.lst (hU (gJ P L i)))
def uI(Z:Fx K mg cl):kF P w K mg base cl 2 "divisors_for" 3 Ek:=by
 have S:Sc ["family","place","person","has_parents","divisor"] (top 34):=by walk_at "s"
 refine fN.ok (Z.d 14 _ rfl) S rfl (λe=>(dg (ff (i:=3) S.nd (pw uG nu (iC Z.G.len (fI.r (fK (fI.r (dS Z.T (dW 0))) (dW 2)))) dM (fO _))) (dg (ff (i:=4) S.nd (vE (nq (dW 3)) dM (Ds Z.G.sum rfl (by decide+kernel) (fI.r (dS Z.T (dW 1)))))) (dg (iw (nq (dU (nO Z) e (da (dW 1) (da (fK (fI.r (dS Z.T (dW 0))) (dW 2)) dz)))) (dn (eK (ke (da (dW 4) dz)))) gK) (dg (iw (K8.td (CK (nq (dW 3)) (yO (gG k5 k6 (dS Z.T (dW 1)) (iy Z.G.bj) (fO _))))) (dn (eK (ke (da (dW 4) dz)))) gK) (dn (eK (ke (da (dW 4) (da (dW 4) dz)))))))))) ?_;rintro ds f ⟨P,L,c,i,rfl,b,a⟩;rw[iN];rfl';simp only[nD,qf b,Hg b,jA];unfold gJ at a;cases hp:(gf P i).parents with
 |none=>rw[hp]at a;rw[qQ hp];ac_rfl;ac_nf;simp only[show¬((0:Int)<((0:Nat):Int))by lia];refine⟨_,Cg _,?_⟩;rfl';refine⟨L,c,_,rfl,?_⟩;rw[wM];cases hb:L.bySex<;>cases hm:(gf P i).man<;>rw[hb,hm]at a<;>rfl' <;>simpa [Jb,hU,nD,BM.sQ]using a
 |some y=>rw[hp]at a;rw[kN hp];simp only[fJ];rfl';ac_rfl;refine⟨L,c,_,rfl,?_⟩;simp only[mh];cases hb:L.bySex<;>cases hm:(gf P i).man<;>rw[hb]at a<;>ac_nf <;>simpa [hU,nD]using a
def Rn(p:Nat×Nat):D:= .lst [nD p.1,nD p.2]
def K4(P:du)(L:dQ)(i:Nat):1<=(gJ P L i).length/\(gJ P L i).length<=2:=by unfold gJ;cases (gf P i).parents<;>simp only<;>split<;>simp
theorem vN(P:du)(L:dQ)(i:Nat)(is:dE):needed P L (i::is)=(gJ P L i).map (λd=>(i,d))++needed P L is:=by rfl
def Mb(P:du)(L:dQ): ∀is:List Nat,(needed P L is).length<=2* ~~~is:=by
 intro is;induction is with
 |nil=>simp[needed]
 |cons i is ih=>have:=(K4 P L i).2;rw[vN];simp;lia
def BX:GN:=λds Q=> ∃(P:du) (L:dQ) (b:gN) (a:dE),ds=[iN P,fJ L b,.lst (hU a)]/\Good P/\Q (if ~~~a<(needed P L (eV P)).length then Rn ((needed P L (eV P)).getD (~~~a) (0,0))else .non)
def Af(Z:Fx K mg cl):kF P w K mg base cl 3 "first_missing" 3 BX:=by
 have S:Sc ["family","place","row","needed","person","divisor"] (top 35):=by walk_at "s"
 refine fN.ok (Z.d 15 _ rfl) S rfl (λf=>(dg (qz (i:=3) S.nd dz) (dg (i3 .never rfl (hG (dS Z.T (dW 0))) (gb (i:=4) S.nd) (dn (i3 .never rfl (hG (dU (uI Z) f (da (dW 0) (da (dW 1) (da (dW 4) dz))))) (gb (i:=5) S.nd) (dn (vB (pv 3) (ke (da (dW 4) (da (dW 5) dz)))))))) (dg (iw (gG A9 nu (iC Z.G.len (pr 2)) (iC Z.G.len (pr 3)) (fO _)) (dn (eK (fK (pr 3) (iC Z.G.len (pr 2))))) gK) (dn (eK oH)))))) ?_;rintro ds y ⟨P,L,l,g,rfl,m,e⟩;have h:=(gD m).1.lt;have b:(needed P L (eV P)).length<=128:=by have:=Mb P L (eV P);rw[(gD m).2]at this;have:=m.len;lia
 generalize hw:needed P L (eV P)=w0 at e b;rw[iN];rfl';refine fw nD (λs=> [some (.val (iN P)),some (.val (fJ L l)),some (.val (.lst (hU g))),some (.ol (s.1.map Rn)),s.2.1,s.2.2])
  (λr s=>(∀i∈r,i< ~~~P)/\s.1++needed P L r=w0) ?_ ?_ (eV P) ([],none,none) ⟨h,by simpa using hw⟩
 .rintro i r ⟨a,v,o⟩ ⟨f,he⟩ k hk;simp only at he;rfl';refine⟨P,L,l,i,rfl,f i (by simp),?_⟩;rw[vN]at he;refine fw nD (λs=> [some (.val (iN P)),some (.val (fJ L l)),some (.val (.lst (hU g))),some (.ol (s.1.map Rn)),some (.val (nD i)),s.2])
   (λq s=>s.1++(q.map (λd=>(i,d))++needed P L r)=w0) ?_ ?_ (gJ P L i) (a,o) he
  .rintro d q ⟨a,j⟩ he z n;simp only at he;have p: ~~~a<=128:=by rw[<-he]at b;simp at b;lia
   rfl';refine⟨by simp[dO];lia,?_⟩;have:=n (a++ [(i,d)],some (.val (nD d))) (by rw[<-he];simp);simpa [Rn]using this
  .rintro⟨a,j⟩ he;simp only[jd]at he;exact hk (a,some (.val (nD i)),j) ⟨λx u=>f x (by simp[u]),he⟩
 .rintro⟨a,v,o⟩ ⟨f,he⟩;have he:a=w0:=by simpa [needed]using he
  subst he;rfl';rw[jA,dA];by_cases c: ~~~g< ~~~a
  .have t:(~~~g:Int)<(~~~a:Int):=by lia
   ac_rfl;rw[dq c]at e;rw[jf,dX,df c];rw[dG,df c]at e;exact e
  .have t: ¬(~~~g:Int)<(~~~a:Int):=by lia
   ac_rfl;rw[di c]at e;exact e
def Qd:GN:=λds Q=> ∃(L:dQ) (b:gN) (a:Nat),ds=[fJ L b,nD a]/\0<L.total/\Q (nD (Blood.kindBy L.weights (a%L.total)))
def DH(Z:Fx K mg cl):kF P w K mg base cl 1 "kind_by" 2 Qd:=by
 have S:Sc ["place","answer","rest","kind"] (top 36):=by walk_at "s"
 refine fN.ok (Z.d 16 _ rfl) S rfl (λv=>(dg (ff (i:=2) S.nd (Dt (dW 1) (Ds Z.G.sum rfl (by decide+kernel) (fI.r (dS Z.T (dW 0)))))) (dg (ff (i:=3) S.nd dM) (dg (p5 .never (gG SE nu (dW 2) (fK (fI.r (dS Z.T (dW 0))) (dW 3)) (fO _)) (dg (F9 (i:=2) S.nd (fK (fI.r (dS Z.T (dW 0))) (dW 3))) (dn (wH (i:=3) S.nd dM)))) (dn (eK (dW 3))))))) ?_;rintro ds u ⟨L,q,a,rfl,o,g⟩;generalize hr0:a%L.total=r0 at g;have e:r0<L.weights.sum:=by rw[<-hr0];exact agr _ o
 rw[fJ];ac_nf;refine⟨_,Cg _,?_⟩;rw[wM];refine⟨by have:L.total=L.weights.sum:=rfl;lia,?_⟩;have j:((a:Int)%((L.weights.sum:Nat):Int))=((r0:Nat):Int):=by rw[<-hr0];exact(XI _ _).symm
 rw[j];refine n8 (λs=> [some (.val (fJ L q)),some (.val (nD a)),some (.val (nD s.1)),some (.val (nD s.2))])
  (λs=>s.2< ~~~L.weights/\(L.weights.take s.2).sum+s.1=r0) (λs=> ~~~L.weights-s.2) ?_ (r0,0) ⟨?_,by simp⟩
 .rintro⟨rest,b⟩ ⟨f,m⟩ k hk;simp only at f m;simp only[fJ];ac_nf;walk_at "n";have t:=df f;have n:(L.weights.take (b+1)).sum=(L.weights.take b).sum+L.weights[b]:=by rw[pd f,QO];simp
  simp only[nD,lS t];by_cases c:L.weights[b]<=rest
  .have p:((L.weights[b]:Nat):Int)<=(rest:Int):=by lia
   ac_rfl;have h:b+1< ~~~L.weights:=by apply dP;intro y;have:L.weights.take (b+1)=L.weights:=ph (by lia);rw[this]at n;lia
   have:=hk (rest-L.weights[b],b+1) ⟨h,by show(L.weights.take (b+1)).sum+(rest-L.weights[b])=r0;lia⟩ (by show ~~~L.weights-(b+1)< ~~~L.weights-b;lia);simp only[nD]at this;rw[show((rest-L.weights[b]:Nat):Int)=(rest:Int)-((L.weights[b]:Nat):Int)by lia]at this;exact this
  .have p: ¬((L.weights[b]:Nat):Int)<=(rest:Int):=by lia
   ac_rfl;rw[PX f (by lia) (by lia)]at g;exact g
 .show 0< ~~~L.weights;cases hL:L.weights with
  |nil=>rw[hL]at e;simp at e
  |cons x l=>simp
def afe(prs:List (Nat×fc)):D:= .dic false (dl nD jX prs)
def NA(y:fc)(a:Nat):nB [nD y.1,nD y.2] ((a:Int)%2)=some (nD (pick y (a%2))):=by
 unfold pick;by_cases h:a%2=0
 .rw[dq h,show(a:Int)%2=((0:Nat):Int)by lia,jf];rfl
 .rw[di h,show(a:Int)%2=((1:Nat):Int)by lia,jf];rfl
def Qc:GN:=λds Q=> ∃(P:du) (L:dQ) (a:gN) (prs:List (Nat×fc)) (i:Nat) (taken:dE),ds=[iN P,fJ L a,afe prs,nD i,.lst (hU taken)]/\i< ~~~P/\0<L.total/\taken≠ []/\(∀q∈par P i,∃p,gB prs q=some p)/\Q (jX (pb P L (sE prs) i taken))
def L8(Z:Fx K mg cl):kF P w K mg base cl 2 "pair_by" 5 Qc:=by
 have S:Sc ["family","place","pairs","person","taken","parents","m"] (top 37):=by walk_at "s"
 refine fN.ok (Z.d 17 _ rfl) S rfl (λg=>(dg (ff (i:=5) S.nd (fK (fI.r (dS Z.T (dW 0))) (dW 3))) (dg (iw (gG k5 k6 (iC Z.G.len (pr 5)) dM (fO _)) (dn (eK (kM (da (dU (DH Z) g (da (dW 1) (da (fK (pr 4) dM) dz))) (da (dU (DH Z) g (da (dW 1) (da (fK (pr 4) (Sn dM)) dz))) dz))))) gK) (dg (ff (i:=6) S.nd (fK (fI.r (m7 (gX g) (pr 2) (fK (pr 5) dM))) (Dt (fK (pr 4) (Sn dM)) dM))) (dg (iw (nq (dU (nO Z) g (da (dW 1) (da (fK (fI.r (dS Z.T (dW 0))) (dW 3)) dz)))) (dn (eK (kM (da (dW 6) (da (dW 6) dz))))) gK) (dn (eK (kM (da (fK (fI.r (m7 (gX g) (pr 2) (fK (pr 5) dM))) (Dt (fK (pr 4) dM) dM)) (da (dW 6) dz)))))))))) ?_;rintro ds F ⟨P,L,j,prs,i,taken,rfl,s,o,f,k,a⟩;have C:taken[0]?=some (taken.getD 0 0):=by
  cases taken with
  |nil=>exact absurd rfl f
  |cons x l=>rfl
 have n:nB (hU taken) 0=some (nD (taken.getD 0 0)):=lS C;have p:=Ws f;unfold pb at a;simp only[iN];rfl';simp only[nD,qf s];cases hp:(gf P i).parents with
 |none=>rw[hp]at a;rw[qQ hp];rw[n,p];refine⟨L,j,_,rfl,o,?_⟩;refine⟨L,j,_,rfl,o,?_⟩;exact a
 |some y=>
  rw[hp]at a;let⟨(e),m⟩:=k y.1 (by rw[kN hp];simp);let⟨(b),q⟩:=k y.2 (by rw[kN hp];simp);have v1:nV (dl nD jX prs) (nD y.1)=some (jX e):=by rw[kn (λ_ _=>jI),m];rfl
  have A:nV (dl nD jX prs) (nD y.2)=some (jX b):=by rw[kn (λ_ _=>jI),q];rfl
  have v:sE prs y.1=e:=by unfold sE;rw[m];rfl
  have B:sE prs y.2=b:=by unfold sE;rw[q];rfl
  have E:nB (hU [y.1,y.2]) (0:Int)=some (nD y.1):=lS rfl;have z:nB (hU [y.1,y.2]) (1:Int)=some (nD y.2):=lS rfl;simp only[v,B]at a;rw[kN hp];rw[z];ac_nf;refine⟨kP y.2,_,A,?_⟩;simp only[jX,p,nD];rfl';have t:nB [D.int (b.1:Int),D.int (b.2:Int)] (((qh taken:Nat):Int)%2)=some (nD (pick b (qh taken%2))):=NA b _;have u:nB [D.int (e.1:Int),D.int (e.2:Int)] (((taken.getD 0 0:Nat):Int)%2)=some (nD (pick e (taken.getD 0 0%2))):=NA e _;simp only[t,Hg s];refine⟨by lia,?_⟩;refine⟨L,j,_,rfl,?_⟩;have h:alone P L i=(L.bySex&&(gf P i).man):=rfl;rw[<-h];by_cases c:alone P L i=true
  .simp only[c]at a⊢;exact a
  .simp only[c]at a⊢;refine⟨kP y.1,_,v1,?_⟩;simp only[jX,n,nD];rfl';refine⟨by lia,?_⟩;simp only[u];exact a
def Ny(n:Nat):ju (nD n):= .int _
def JJ(p:fc):ju (jX p):= .tup λd hd=>by simp at hd;rcases hd with rfl|rfl<;>exact Ny _
def AC:GN:=λds Q=> ∃(P:du) (L:dQ) (b:gN) (a:dE),ds=[iN P,fJ L b,.lst (hU a)]/\Good P/\0<L.total/\(needed P L (eV P)).length<= ~~~a/\Q (jH ((eE (~~~P)).map (wa P L (eV P) a EM)))
def y9(Z:Fx K mg cl):kF P w K mg base cl 3 "drop_by_chance" 3 AC:=by
 have S:Sc ["family","place","row","pairs","start","person","end"] (top 38):=by walk_at "s"
 refine fN.ok (Z.d 18 _ rfl) S rfl (λu=>(dg (yV (i:=3) S.nd) (dg (ff (i:=4) S.nd dM) (dg (i3 .never rfl (hG (dS Z.T (dW 0))) (gb (i:=5) S.nd) (dg (ff (i:=6) S.nd (lH (dW 4) (iC Z.G.len (fI.r (dU (uI Z) u (da (dW 0) (da (dW 1) (da (dW 5) dz)))))))) (dg (mE (gX u) (pv 3) (dW 5) (Dv Z.T (L8 Z) u (qC (fI.l (dW 0)) (qC (fI.l (dW 1)) (qC (pl 3) (qC (fI.l (dW 5)) (qC (fI.l (vF (pr 2) (lR (dW 4)) (lR (dW 6)))) MX))))))) (dn (ff (i:=4) S.nd (dW 6)))))) (ma 3 (dn (eK (sS [("person",5)] rfl S.nd S.bk (wN Z.G.range (iC Z.G.len (pr 3))) (λ_ _ _ _ _=>(gb (i:=5) S.nd)) (λ_ _ _ _ _=>mK) (λ_ _ _ _ _=>(m7 (gX u) (pr 3) (dW 5))))))))))) ?_;rintro ds U ⟨P,L,x,b,rfl,o,F,J,I⟩;have t:=gD o;rw[iN];refine fw nD (λs=> [some (.val (iN P)),some (.val (fJ L x)),some (.val (.lst (hU b))),some (.od false (dl nD jX s.1)),some (.val (nD s.2.1)),s.2.2.1,s.2.2.2])
  (λr s=> ∃d,eV P=d++r/\s.1.map (·.1)=d/\s.2.1+(needed P L r).length<= ~~~b/\wa P L r (b.drop s.2.1) (sE s.1)=wa P L (eV P) b EM) ?_ ?_ (eV P) ([],0,none,none) ⟨[],rfl,rfl,by simpa using J,rfl⟩
 .rintro i r ⟨a,st,Q,N⟩ ⟨d,he,hd,j,c⟩ k hk;simp only at hd j c;have n:=t.1.lt i (by rw[he];simp);have f:i∉a.map (·.1):=by rw[hd];intro h;have:=t.1.nodup;rw[he,gE]at this;exact this.2.2 i h i (by simp) rfl
  have z: ~~~a<=64:=by
   have R: ~~~a= ~~~d:=by rw[<-hd];simp
   have B:=t.2;rw[he]at B;have:=o.len;simp at B;lia
  rw[vN]at j;simp at j;have C:=K4 P L i;ac_nf;walk_at "n";refine⟨P,L,x,i,rfl,n,?_⟩;simp only[nD,jA];have O:cutD (hU b) (some (st:Int)) (some ((st:Int)+((gJ P L i).length:Int)))=hU ((b.drop st).take (gJ P L i).length):=by rw[show(st:Int)+((gJ P L i).length:Int)=((st+(gJ P L i).length:Nat):Int)by lia,wb (by lia) (by rw[jA];lia)];unfold hU;rw[show st+(gJ P L i).length-st=(gJ P L i).length by lia,<-tP,<-zK]
  rw[O];refine⟨P,L,x,a,i,_,rfl,n,F,?_,?_,JJ _,⟨_,rfl⟩,by unfold dl;simp[dO];lia,?_⟩
  .intro h;have:=gR ni h;rw[uY,nF,ip]at this;lia
  .intro q E;have:=t.1.before d r i he q E;rw[<-hd]at this;cases e:gB a q with
   |none=>exact absurd this (qI.mp e)
   |some p=>exact⟨p,rfl⟩
  .have e:=jz (g:=jX) (λ_ _=>jI) a i (pb P L (sE a) i ((b.drop st).take (gJ P L i).length));rw[iI f]at e;have:=hk (a++ [(i,pb P L (sE a) i ((b.drop st).take (gJ P L i).length))],st+(gJ P L i).length,some (.val (nD i)),some (.val (nD (st+(gJ P L i).length)))) ⟨d++ [i],by rw[he];simp,by simp[hd],by show st+(gJ P L i).length+_<=_;lia,?_⟩
   .rw[<-e]at this;exact this
   .rw[<-c,K3 f];show wa P L r (b.drop (st+_)) _=wa P L r ((b.drop st).drop _) _;rw[nj]
 .rintro⟨a,st,Q,N⟩ ⟨d,he,hd,j,c⟩;simp only at hd j c;rw[km]at he;have c:sE a=wa P L (eV P) b EM:=c;have H: ~~~a= ~~~P:=by rw[<-t.2,he,<-hd];simp
  rfl';unfold dl;rw[dA,H];refine⟨by have:=o.len;lia,?_⟩;rw[show((~~~P:Nat):Int).toNat= ~~~P by lia,rT];refine⟨by have:=o.len;simp[dO];lia,?_⟩;refine mM nD (λm=>jX (sE a m)) _ (λm M A C=> ?_) ?_
  .rfl';have y:m∈a.map (·.1):=by rw[hd,<-he];exact(iJ o).mpr (eO.mp M)
   have v:nV (dl nD jX a) (nD m)=some (jX (sE a m)):=by
    rw[kn (λ_ _=>jI)];unfold sE;cases e:gB a m with
    |none=>exact absurd y (qI.mp e)
    |some p=>rfl
   exact⟨kP m,_,v,C⟩
  .rw[c];simpa [jH,jZ]using I
def Mz:GN:=λds Q=> ∃i:Nat,ds=[nD i]/\i<=1000/\Q (.lst (hU [2*i,2*i+1]))
def oa(Z:Fx K mg cl):kF P w K mg base cl 1 "genes_of" 1 Mz:=by
 have S:Sc ["person"] (top 40):=by walk_at "s"
 refine fN.ok (Z.d 19 _ rfl) S rfl (λb=>(dn (eK (ke (da (xS dM (dW 0)) (da (lH (xS dM (dW 0)) dM) dz)))))) ?_;rintro ds c ⟨i,rfl,a,e⟩;rfl';refine⟨.inl (by lia),.inl (by lia),?_⟩;lia
def Ea:GN:=λds Q=> ∃(row:dE) (c b a:Nat),ds=[.tup (hU row),nD c,nD b,nD a]/\c<=1000/\ ~~~row<=1000/\Q (.tup (hU (row.map (qR c b a))))
def BH(Z:Fx K mg cl):kF P w K mg base cl 1 "with_origins" 4 Ea:=by
 have S:Sc ["row","child","father_gene","mother_gene","origins","gene"] (top 41):=by walk_at "s"
 refine fN.ok (Z.d 20 _ rfl) S rfl (λl=>(dg (ff (i:=4) S.nd (Ss (xS dM (dW 1)) (dW 2) (lH (xS dM (dW 1)) dM) (dW 3))) (dn (eK (z9 Z.G.tuple (by decide+kernel) (fI.r (sS [("gene",5)] rfl S.nd S.bk (D7 (dW 0)) (λ_ _ _ _ _=>(gb (i:=5) S.nd)) (λ_ _ _ _ _=>mK) (λ_ _ _ _ _=>(yZ (gX l) (pr 4) (dW 5) (dW 5)))))))))) ?_;rintro ds s ⟨row,c,a,b,rfl,t,l,o⟩;simp only[nD];refine⟨.inl (by lia),.inl (by lia),_,_,rfl,rfl,?_⟩;have n:rq (rq [] (D.int (2*(c:Int))) (D.int (a:Int))) (D.int (2*(c:Int)+1)) (D.int (b:Int))=dl nD nD [(2*c,a),(2*c+1,b)]:=by have h:=jz (f:=nD) (g:=nD) (λ_ _=>jI) ([]:List (Nat×Nat)) (2*c) a;have j:=jz (f:=nD) (g:=nD) (λ_ _=>jI) [(2*c,a)] (2*c+1) b;have p:kX ([]:List (Nat×Nat)) (2*c) a=[(2*c,a)]:=rfl;have q:kX [(2*c,a)] (2*c+1) b=[(2*c,a),(2*c+1,b)]:=iI (by simp);rw[p]at h;rw[q,<-h]at j;exact j
 rw[n];refine⟨by rw[jA,dO];lia,?_⟩;refine mM nD (λg=>nD (qR c a b g)) row (λg m A k=> ?_) ?_
 .ac_nf;refine⟨kP g,?_⟩;rw[kn (λ_ _=>jI)];have:(gB [(2*c,a),(2*c+1,b)] g).getD g=qR c a b g:=by
   unfold qR;rw[gV,gV];by_cases h:g=2*c
   .simp[h]
   .by_cases j:g=2*c+1
    .simp[j]
    .rw[di (gk h),di (gk j),di h,di j];rfl
  rw[<-this]at k;cases e:gB [(2*c,a),(2*c+1,b)] g<;>rw[e]at k<;>exact k
 .ac_nf;simpa [hU,dm,jZ]using o
def nr(r:dE):D:= .tup (hU r)
def Fq(l:yB):D:= .dic true (dl nr nD l)
def yW(h:nr a=nr b):a=b:=by injection h with h;exact Co (λ_ _=>jI) h
def Xc(l:yB)(k:dE)(n:Nat):rq (dl nr nD l) (nr k) (.int (((gB l k).getD 0:Nat)+(n:Nat):Int))=dl nr nD (bump l k n):=by have:=jz (g:=nD) (λ_ _=>yW) l k ((gB l k).getD 0+n);lia
def WN(l:yB)(k:dE):(nV (dl nr nD l) (nr k)).getD (D.int 0)= .int (((gB l k).getD 0:Nat):Int):=by rw[kn (λ_ _=>yW)];cases gB l k<;>rfl
def mT{K V:Type}(f:K->D)(g:V->D)(l:List (K×V)):(dl f g l).length= ~~~l:=by unfold dl;simp
def BW:GN:=λds Q=> ∃(cnt:yB) (c f m:Nat),ds=[Fq cnt,nD c,.lst (hU [f,m])]/\c<=500/\f<=500/\m<=500/\(∀q∈cnt,q.1.length<=1000)/\4* ~~~cnt<=1000000/\Q (Fq (past cnt c f m))
def Ae(Z:Fx K mg cl):kF P w K mg base cl 2 "followed_past" 3 BW:=by
 have S:Sc ["counts","child","parents","higher_counts","row","count","father_gene","mother_gene","higher"] (top 42):=by walk_at "s"
 refine fN.ok (Z.d 21 _ rfl) S rfl (λu=>(dg (mR (i:=3) S.nd) (dg (tY .never rfl (dW 0) (nz (i:=4) (j:=5) rfl S.nd) (dn (i3 .never rfl (hG (dU (oa Z) u (da (fK (pr 2) dM) dz))) (gb (i:=6) S.nd) (dn (i3 .never rfl (hG (dU (oa Z) u (da (fK (pr 2) dM) dz))) (gb (i:=7) S.nd) (dg (ff (i:=8) S.nd (dU (BH Z) u (da (dW 4) (da (dW 1) (da (dW 6) (da (dW 7) dz)))))) (dn (mE (i:=3) (gX u) (pv 3) (dW 8) (lH (yZ (gX u) (pr 3) (dW 8) dM) (dW 5)))))))))) (ma 3 (dn (eK (dW 3))))))) ?_;rintro ds X ⟨cnt,c,f,m,rfl,e,hf,Y,F,C,I⟩;generalize hw:past cnt c f m=w0 at I;rw[Fq];rfl';have M:nB (hU [f,m]) (0:Int)=some (nD f):=lS (i:=0) rfl;have O:nB (hU [f,m]) (1:Int)=some (nD m):=lS (i:=1) rfl;rw[oe];refine fw (α:=List Nat×Nat) (S:=yB×Jn×Jn×Jn×Jn×Jn) (λq=> .tup [nr q.1,nD q.2]) (λs=> [some (.val (Fq cnt)),some (.val (nD c)),some (.val (.lst (hU [f,m]))),some (.od true (dl nr nD s.1)),s.2.1,s.2.2.1,s.2.2.2.1,s.2.2.2.2.1,s.2.2.2.2.2])
  (λv s=>(∀q∈v,q.1.length<=1000)/\s.1.length+4* ~~~v<=1000000/\v.foldl (λe q=>qt e q.1 c f m q.2) s.1=w0) ?_ ?_ cnt ([],none,none,none,none,none) ⟨F,by simpa using C,hw⟩
 .rintro⟨row,n⟩ v ⟨y,T,R,z,r,t⟩ ⟨u,H,he⟩ k hk;simp only[dB]at H he;rw[eT]at he;ac_nf;walk_at "n";rw[M];refine⟨f,rfl,by lia,?_⟩;refine fw (α:=Nat) (S:=yB×Jn×Jn×Jn) nD (λs=> [some (.val (Fq cnt)),some (.val (nD c)),some (.val (.lst (hU [f,m]))),some (.od true (dl nr nD s.1)),some (.val (nr row)),some (.val (nD n)),s.2.1,s.2.2.1,s.2.2.2])
   (λA s=>s.1.length+2* ~~~A+4* ~~~v<=1000000/\v.foldl (λe q=>qt e q.1 c f m q.2) (A.foldl (λe b=> [2*m,2*m+1].foldl (λe mg=>bump e (row.map (qR c b mg)) n) e) s.1)=w0) ?_ ?_ [2*f,2*f+1] (y,z,r,t) ⟨by simp;lia,he⟩
  .rintro b A ⟨x,z,r,t⟩ ⟨o,h⟩ k2 G;simp only[dB]at o h;rw[eT]at h;ac_nf;walk_at "n";rw[O];refine⟨m,rfl,by lia,?_⟩;refine fw (α:=Nat) (S:=yB×Jn×Jn) nD (λs=> [some (.val (Fq cnt)),some (.val (nD c)),some (.val (.lst (hU [f,m]))),some (.od true (dl nr nD s.1)),some (.val (nr row)),some (.val (nD n)),some (.val (nD b)),s.2.1,s.2.2])
    (λE s=>s.1.length+ ~~~E+2* ~~~A+4* ~~~v<=1000000/\v.foldl (λe q=>qt e q.1 c f m q.2) (A.foldl (λe b=> [2*m,2*m+1].foldl (λe mg=>bump e (row.map (qR c b mg)) n) e) (E.foldl (λe mg=>bump e (row.map (qR c b mg)) n) s.1))=w0) ?_ ?_ [2*m,2*m+1] (x,r,t) ⟨by simp;lia,h⟩
   .rintro l E ⟨a,r,t⟩ ⟨p,g⟩ U B;simp only[dB]at p g;rw[eT]at g;rfl';refine⟨row,c,b,l,rfl,by lia,u (row,n) (by simp),?_⟩;refine⟨HR _,?_⟩;have N:(nV (dl nr nD a) (D.tup (hU (row.map (qR c b l))))).getD (D.int 0)= .int (((gB a (row.map (qR c b l))).getD 0:Nat):Int):=WN a (row.map (qR c b l));rw[N];simp only[nD];refine⟨HR _,by rw[mT,dO];lia,?_⟩;have Q:=Xc a (row.map (qR c b l)) n;have:=B (bump a (row.map (qR c b l)) n,some (.val (nD l)),some (.val (nr (row.map (qR c b l))))) ⟨by have:=js a (row.map (qR c b l)) n;show(bump a (row.map (qR c b l)) n).length+_+_+_<=_;lia,g⟩;simp only[<-Q]at this;exact this
   .rintro⟨a,r,t⟩ ⟨p,g⟩;exact G (a,some (.val (nD b)),r,t) ⟨by simp at p;exact p,g⟩
  .rintro⟨x,z,r,t⟩ ⟨o,h⟩;exact hk (x,some (.val (nr row)),some (.val (nD n)),z,r,t) ⟨λq J=>u q (by simp[J]),by simp at o;exact o,h⟩
 .rintro⟨y,T,R,z,r,t⟩ ⟨u,H,he⟩;have he:y=w0:=he;subst he;rfl';exact I
def Qh(a:yB)(row:dE)(c f m n:Nat):(qt a row c f m n).length<= ~~~a+4:=by have e:qt a row c f m n=bump (bump (bump (bump a (row.map (qR c (2*f) (2*m))) n) (row.map (qR c (2*f) (2*m+1))) n) (row.map (qR c (2*f+1) (2*m))) n) (row.map (qR c (2*f+1) (2*m+1))) n:=rfl;have b:=js a (row.map (qR c (2*f) (2*m))) n;have d:=js (bump a (row.map (qR c (2*f) (2*m))) n) (row.map (qR c (2*f) (2*m+1))) n;have g:=js (bump (bump a (row.map (qR c (2*f) (2*m))) n) (row.map (qR c (2*f) (2*m+1))) n) (row.map (qR c (2*f+1) (2*m))) n;have h:=js (bump (bump (bump a (row.map (qR c (2*f) (2*m))) n) (row.map (qR c (2*f) (2*m+1))) n) (row.map (qR c (2*f+1) (2*m))) n) (row.map (qR c (2*f+1) (2*m+1))) n;lia
def JS(c f m:Nat): ∀(l a:yB),(l.foldl (λa q=>qt a q.1 c f m q.2) a).length<= ~~~a+4* ~~~l:=by
 intro l;induction l with
 |nil=>intro a;simp
 |cons q l ih=>intro a;rw[eT,dB];have:=ih (qt a q.1 c f m q.2);have:=Qh a q.1 c f m q.2;lia
def ME(h: ∀q∈hc,q.1.length=z)(a: ~~~row=z): ∀q∈qt hc row c f m n,q.1.length=z:=by
 have key: ∀(l:yB) (k:dE) (n:Nat),(∀q∈l,q.1.length=z)-> ~~~k=z-> ∀q∈bump l k n,q.1.length=z:=by
  intro l k n e hk q d;have:q.1∈(bump l k n).map (·.1):=dk.mpr ⟨q,d,rfl⟩;rcases KU.mp this with b|b
  .grind
  .grind
 exact key _ _ _ (key _ _ _ (key _ _ _ (key _ _ _ h (by simp[a])) (by simp[a])) (by simp[a])) (by simp[a])
def Gh: ∀(l a:yB),(∀q∈l,q.1.length=z)->(∀q∈a,q.1.length=z)-> ∀q∈l.foldl (λa q=>qt a q.1 c f m q.2) a,q.1.length=z:=by
 intro l;induction l with
 |nil=>intro a _ h;exact h
 |cons q l ih=>intro a b h;exact ih _ (λr d=>b r (by simp[d])) (ME h (b q (by simp)))
def L4{P:du}{cnt:yB}{x z:Nat}(h: ∀q∈cnt,q.1.length=z): ∀q∈uE P cnt x,q.1.length=z:=by
 unfold uE;split
 .exact Gh cnt [] h λq a=>by simp at a
 .exact h
def xu{P:du}{z:Nat}: ∀(a:dE) (cnt:yB),(∀q∈cnt,q.1.length=z)-> ∀q∈jE P cnt a,q.1.length=z:=by
 intro a;induction a with
 |nil=>intro cnt h;exact h
 |cons x a ih=>intro cnt h;exact ih _ (L4 h)
def Fn:GN:=λds Q=> ∃(P:du) (a:List (List Nat)) (z:Nat),ds=[iN P,.lst (a.map nr)]/\Good P/\a.Nodup/\(∀r∈a,~~~r=z)/\z<=1000/\ ~~~a*4^(fW P).length<=1000000/\Q (Fq (jE P (a.map λr=>(r,1)) (j6 P)))
def vK(Z:Fx K mg cl):kF P w K mg base cl 3 "followed_up" 2 Fn:=by
 have S:Sc ["family","rows","counts","row","person"] (top 43):=by walk_at "s"
 refine fN.ok (Z.d 22 _ rfl) S rfl (λB=>(dg (mR (i:=2) S.nd) (dg (i3 .never rfl (hG (dW 1)) (gb (i:=3) S.nd) (dn (mE (gX B) (pv 2) (dW 3) dM))) (ma 2 (dg (i3 .never rfl (hG (dS Z.T (dW 0))) (gb (i:=4) S.nd) (dn (iw (gG uG nu (iC Z.G.len (fI.r (fK (fI.r (dS Z.T (dW 0))) (dW 4)))) dM (fO _)) (dn (ff (i:=2) S.nd (dU (Ae Z) B (da (dW 2) (da (dW 4) (da (fK (fI.r (dS Z.T (dW 0))) (dW 4)) dz)))))) gK))) (dn (eK (dW 2)))))))) ?_;rintro ds QD ⟨P,f,z,rfl,v,u,C,hz,hsz,O⟩;have ho:=gD v;have F: ∀x∈j6 P,x< ~~~P:=λx A=>ho.1.lt x (by unfold j6 at A;simpa using A);have J:(fW P).length=((j6 P).filter (jJ P)).length:=(sD v).length_eq;have Y: ~~~f<=1000000:=by
  have:1<=4^(fW P).length:=aeC (by lia)
  calc (~~~f)= ~~~f*1:=by lia
   _<= ~~~f*4^(fW P).length:=Q3 _ this
   _<=1000000:=hsz
 generalize hw:jE P (f.map λr=>(r,1)) (j6 P)=w0 at O;rw[iN];refine fw nr (λs=> [some (.val (iN P)),some (.val (.lst (f.map nr))),some (.od true (dl nr nD (s.1.map λr=>(r,1)))),s.2.1,s.2.2])
  (λb s=>s.1++b=f) ?_ ?_ f ([],none,none) rfl
 .rintro r b ⟨a,Q,I⟩ he k hk;simp only at he;have E:r∉(a.map λr=>(r,1)).map (·.1):=by rw[<-he,gE]at u;rw[dm];intro h;let⟨(R),n,l⟩:=dk.mp h;exact u.2.2 R n r (by simp) l
  have U: ~~~a<1000001:=by have:=gR ni he;simp at this;lia
  refine⟨HR _,by rw[mT,dO];simp;lia,?_⟩;have e:=jz (g:=nD) (λ_ _=>yW) (a.map λr=>(r,1)) r 1;rw[iI E]at e;have:=hk (a++ [r],some (.val (nr r)),I) (by rw[<-he];simp);simp only[jF,dt,jw,<-e]at this;exact this
 .rintro⟨a,Q,I⟩ he;simp at he;subst he;rw[iN];rfl';refine fw nD (λs=> [some (.val (iN P)),some (.val (.lst (a.map nr))),some (.val (Fq s.1)),Q,s.2])
   (λb s=>(∀x∈b,x< ~~~P)/\(∀q∈s.1,q.1.length=z)/\s.1.length*4^(b.filter (jJ P)).length<=1000000/\jE P s.1 b=w0) ?_ ?_ (j6 P) (a.map λr=>(r,1),I) ⟨F,?_,?_,hw⟩
  .rintro x b ⟨cnt,j⟩ ⟨n,l,m,o⟩ k hk;simp only at l m o;have A:=n x (by simp);simp only[iN];ac_nf;walk_at "n";simp only[nD,qf A,jA];have c:jE P (uE P cnt x) b=w0:=o;rw[gQ]at m;cases hp:(gf P x).parents with
   |none=>
    rw[qQ hp];ac_rfl;have e:uE P cnt x=cnt:=by unfold uE;rw[hp]
    rw[e]at c;have H:jJ P x=false:=by unfold jJ;rw[hp];rfl
    rw[H]at m;exact hk (cnt,some (.val (nD x))) ⟨λy M=>n y (by simp[M]),l,m,c⟩
   |some y=>
    have l1:=v.lt x y.1 (by rw[kN hp];simp);have l2:=v.lt x y.2 (by rw[kN hp];simp);have l3:=v.len;have e:uE P cnt x=past cnt x y.1 y.2:=by unfold uE;rw[hp]
    rw[e]at c;have H:jJ P x=true:=by unfold jJ;rw[hp];rfl
    rw[dq H,dB,nN]at m;have p:1<=4^(b.filter (jJ P)).length:=aeC (by lia);have N:4* ~~~cnt*4^(b.filter (jJ P)).length<=1000000:=by rw[show 4* ~~~cnt*4^(b.filter (jJ P)).length= ~~~cnt*(4^(b.filter (jJ P)).length*4)by rw[Ca 4,qv,Ca 4]];exact m
    have h6:=eC (vg _ p) N;have X:(past cnt x y.1 y.2).length<=4* ~~~cnt:=by have:=JS x y.1 y.2 cnt [];unfold past;simpa using this
    rw[kN hp];simp only[dB];refine⟨cnt,x,y.1,y.2,rfl,by lia,by lia,by lia,λq t=>by rw[l q t];exact hz,h6,?_⟩;exact hk (past cnt x y.1 y.2,some (.val (nD x))) ⟨λy M=>n y (by simp[M]),Gh cnt [] l (λq t=>by simp at t),eC (yx _ X) N,c⟩
  .rintro⟨cnt,j⟩ ⟨n,l,m,o⟩;have o:=o;subst o;exact O
  .intro q t;let⟨(r),B,rfl⟩:=dk.mp t;exact C r B
  .rw[dA,<-J];exact hsz
def wZ:GN:=λds Q=> ∃P:du,ds=[iN P]/\ ~~~P<=64/\Q (nD (2*(fW P).length))
def Fp{α a:Type}(c:α->Bool)(f:α->a): ∀l:List α,(l.filterMap λx=>if c x=true then some (f x)else none).length=(l.filter c).length:=by
 intro l;induction l with
 |nil=>rfl
 |cons x l ih=>rw[jy,gQ];cases c x<;>simp[ih]
def p6(Z:Fx K mg cl):kF P w K mg base cl 1 "power_of_all_ways" 1 wZ:=by
 have S:Sc ["family","pair"] (top 44):=by walk_at "s"
 refine fN.ok (Z.d 23 _ rfl) S rfl (λg=>(dn (eK (xS dM (iC Z.G.len (fI.r (sS [("pair",1)] rfl S.nd S.bk (hG (dS Z.T (dW 0))) (λ_ _ _ _ _=>(gb (i:=1) S.nd)) (λ_ _ _ _ _=>(wD (gG uG nu (iC Z.G.len (pr 1)) dM (fO _)))) (λ_ _ _ _ _=>(dW 1))))))))) ?_;rintro ds b ⟨P,rfl,a,c⟩;rw[iN];refine⟨by unfold qg;simp[dO];lia,?_⟩;refine ua (λi=> .lst (hU (par P i))) (λi=>if jJ P i=true then some (.lst (hU (par P i)))else none) (eE (~~~P)) [] (λi f A B h=> ?_) ?_
 .rfl';rw[jA];unfold jJ at h;cases hp:(gf P i).parents with
  |none=>
   rw[hp]at h;rw[qQ hp]
   simp_all
  |some y=>
   rw[hp]at h;rw[kN hp]at h⊢
   simp_all
 .rfl';rw[Fp];have e:((eE (~~~P)).filter (jJ P))=fW P:=rfl;rw[e];refine⟨.inl (by lia),?_⟩;lia
def Fm:GN:=λds Q=> ∃(l:dE) (e:Nat),ds=[.lst (hU l),nD e]/\ ~~~l<=1000/\Q (.lst [.lst (hU (qF e l).1),nD (qF e l).2])
def vJ(Z:Fx K mg cl):kF P w K mg base cl 1 "least_power" 2 Fm:=by
 have S:Sc ["numbers","e","number"] (top 45):=by walk_at "s"
 refine fN.ok (Z.d 24 _ rfl) S rfl (λq=>(dg (p5 .never (K8.td (CK (gG uG nu (dW 1) dM (fO _)) (yO (nq (Sy Z.G.all rfl (by decide+kernel) (fI.r (sS [("number",2)] rfl S.nd S.bk (hG (dW 0)) (λ_ _ _ _ _=>(gb (i:=2) S.nd)) (λ_ _ _ _ _=>mK) (λ_ _ _ _ _=>(pw k5 k6 (Dt (dW 2) dM) dM (fO _)))))))))) (dg (CZ (i:=0) [("number",2)] rfl S.nd (wF rfl rfl rfl rfl) S.bk (hG (dW 0)) (λ_ _ _ _ _=>(gb (i:=2) S.nd)) (λ_ _ _ _ _=>mK) (λ_ _ _ _ _=>(NG (dW 2) dM))) (dn (F9 (i:=1) S.nd dM)))) (dn (eK (ke (da (dW 0) (da (dW 1) dz))))))) ?_;rintro ds p ⟨l,e,rfl,a,f⟩;generalize b:qF e l=w0 at f;refine n8 (λs=> [some (.val (.lst (hU s.1))),some (.val (nD s.2.1)),s.2.2]) (λs=>s.1.length<=1000/\qF s.2.1 s.1=w0) (λs=>s.2.1) ?_ (l,e,none) ⟨a,b⟩;rintro⟨l,e,j⟩ ⟨a,b⟩ k hk;simp only at a b;rfl';simp only[nD];cases e with
 |zero=>ac_rfl;rw[<-b]at f;exact f
 |succ e=>
  simp only[show((0:Int)<((e+1:Nat):Int))by lia];refine⟨by rw[jA,dO];lia,?_⟩;refine mM nD (λn=> .bl (n%2==0)) l (λn m A h=> ?_) ?_
  .rfl';refine⟨by lia,?_⟩;have:decide ((n:Int)%2=0)=(n%2==0):=by rw[je];simp;lia
   rw[this];exact h
  .rfl';refine⟨l.map λn=>n%2==0,by rw[dm];rfl,?_⟩;have g:((l.map λn=>n%2==0).all id)=(l.all λn=>n%2==0):=by rw[Lq];rfl
   rw[g];unfold qF at b;by_cases c:(l.all λn=>n%2==0)=true
   .rw[dq c]at b;rw[dq c];refine⟨by rw[jA,dO];lia,?_⟩;refine mM nD (λn=>nD (n/2)) l (λn m A h=> ?_) ?_
    .rfl';refine⟨⟨by lia,by lia⟩,?_⟩;have:(n:Int)/2=((n/2:Nat):Int):=by lia
     rw[this];exact h
    .rfl';have:=hk (l.map λn=>n/2,e,j) ⟨by simpa using a,b⟩ (by show e<e+1;lia);have o:((e+1:Nat):Int)-1=(e:Int):=by lia
     rw[o];simpa [hU,nD,jZ]using this
   .rw[di c]at b;rw[di c];rw[<-b]at f;exact f
def UA{K:Type}(c:K->Bool): ∀l:List (K×Nat),((l.filterMap λq=>if c q.1=true then some q.2 else none).map λn:Nat=>(n:Int)).sum=((W (λk=>if c k=true then 1 else 0) l:Nat):Int):=by
 intro l;induction l with
 |nil=>rfl
 |cons q l ih=>
  have e:W (λk=>if c k=true then 1 else 0) (q::l)=q.2*(if c q.1=true then 1 else 0)+W (λk=>if c k=true then 1 else 0) l:=by simp[W]
  cases hc:c q.1
  .simp_all
  .simp_all
def Ga(r:dE):Bool:=decide (r.getD 0 0=r.getD 1 0)
def VI:C7=λr=>if Ga r=true then 1 else 0:=by funext r;unfold C7 Ga;simp
def BY{α:Type}(c:α->Bool)(f:α->Nat)(l:List α):(l.filterMap λq=>if c q=true then some (nD (f q))else none)=((l.filterMap λq=>if c q=true then some (f q)else none).map λn:Nat=>(n:Int)).map D.int:=by
 induction l with
 |nil=>rfl
 |cons q l ih=>
  rw[jy,jy];cases c q
  .exact ih
  .simp only[jv,dt];rw[ih];rfl
def Th:GN:=λds Q=> ∃(P:du) (a b:Nat),ds=[iN P,nD a,nD b]/\Good P/\a< ~~~P/\b< ~~~P/\4*4^(fW P).length<=1000000/\Q (.lst [nD (kS P a b).1,nD (kS P a b).2])
def Gj(Z:Fx K mg cl):kF P w K mg base cl 4 "kin_of" 3 Th:=by
 have S:Sc ["family","a","b","rows","a_gene","b_gene","same","told","row","count"] (top 46):=by walk_at "s"
 refine fN.ok (Z.d 25 _ rfl) S rfl (λt=>(dg (qz (i:=3) S.nd dz) (dg (i3 .never rfl (hG (dU (oa Z) t (da (dW 1) dz))) (gb (i:=4) S.nd) (dn (i3 .never rfl (hG (dU (oa Z) t (da (dW 2) dz))) (gb (i:=5) S.nd) (dn (vB (i:=3) (pv 3) (kM (da (dW 4) (da (dW 5) dz)))))))) (ma 3 (dg (ff (i:=6) S.nd (Ds Z.G.sum rfl (by decide+kernel) (fI.r (Zz [("row",8),("count",9)] rfl S.nd S.bk (dU (vK Z) t (da (dW 0) (da (dW 3) dz))) (λ_ _ _ _ _=>(nz (i:=8) (j:=9) rfl S.nd)) (λ_ _ _ _ _=>(wD (gG k5 k6 (fK (pr 8) dM) (fK (pr 8) dM) (fO _)))) (λ_ _ _ _ _=>(dW 9)))))) (dg (ff (i:=7) S.nd (dU (vJ Z) t (da (ke (da (dW 6) dz)) (da (lH (dU (p6 Z) t (da (dW 0) dz)) dM) dz)))) (dn (eK (ke (da (fK (fI.r (fK (pr 7) dM)) dM) (da (fK (pr 7) dM) dz))))))))))) ?_;rintro ds QD ⟨P,a,b,rfl,v,ha,X,hsz,hg⟩;have T:=v.len;have g:=ZV v ha X;rfl';refine⟨a,rfl,by lia,?_⟩;refine fw (α:=Nat) (S:=List (List Nat)×Jn×Jn) nD (λs=> [some (.val (iN P)),some (.val (nD a)),some (.val (nD b)),some (.ol (s.1.map nr)),s.2.1,s.2.2,none,none,none,none])
  (λu s=>s.1.length+2* ~~~u=4/\s.1++u.flatMap (λx=> [2*b,2*b+1].map λy=> [x,y])=[[2*a,2*b],[2*a,2*b+1],[2*a+1,2*b],[2*a+1,2*b+1]]) ?_ ?_ [2*a,2*a+1] ([],none,none) ⟨rfl,rfl⟩
 .rintro x u ⟨e,j1,N⟩ ⟨m,he⟩ k hk;simp only[dB]at he m;rfl';refine⟨b,rfl,by lia,?_⟩;rw[lL]at he;refine fw (α:=Nat) (S:=List (List Nat)×Jn) nD (λs=> [some (.val (iN P)),some (.val (nD a)),some (.val (nD b)),some (.ol (s.1.map nr)),some (.val (nD x)),s.2,none,none,none,none])
   (λC s=>s.1.length+ ~~~C+2* ~~~u=4/\s.1++(C.map (λy=> [x,y])++u.flatMap (λx=> [2*b,2*b+1].map λy=> [x,y]))=[[2*a,2*b],[2*a,2*b+1],[2*a+1,2*b],[2*a+1,2*b+1]]) ?_ ?_ [2*b,2*b+1] (e,N) ⟨by simp;lia,he⟩
  .rintro y C ⟨e,j⟩ ⟨m,he⟩ k2 F;simp only[dB]at he m;rfl';refine⟨by simp[dO];lia,?_⟩;have:=F (e++ [[x,y]],some (.val (nD y))) ⟨by simp;lia,by rw[<-he];simp⟩;simpa [nr,hU]using this
  .rintro⟨e,j⟩ ⟨m,he⟩;rw[jw,jd]at he;exact hk (e,some (.val (nD x)),j) ⟨by simpa using m,he⟩
 .rintro⟨e,j1,N⟩ ⟨m,he⟩;rw[List.flatMap_nil,km]at he;subst he;ac_nf;walk_at "n";refine⟨P,[[2*a,2*b],[2*a,2*b+1],[2*a+1,2*b],[2*a+1,2*b+1]],2,rfl,v,by simp,by simp,by lia,by simpa using hsz,?_⟩;have ek:([[2*a,2*b],[2*a,2*b+1],[2*a+1,2*b],[2*a+1,2*b+1]].map λr=>(r,1))=Fj a b:=rfl;rw[ek];have f:=xu (P:=P) (z:=2) (j6 P) (Fj a b) (by unfold Fj;simp);have o:(jE P (Fj a b) (j6 P)).length<=1000000:=by
   have Q: ∀(l:dE) (c:yB),(jE P c l).length<=4^(l.filter (jJ P)).length* ~~~c:=by
    intro l;induction l with
    |nil=>intro c;simp[jE]
    |cons x l ih=>
     intro c;show(jE P (uE P c x) l).length<=_;refine eC (ih _) ?_;rw[gQ];unfold uE jJ;cases (gf P x).parents with
     |none=>simp
     |some p=>
      have:=JS x p.1 p.2 c [];have h3:(past c x p.1 p.2).length<=4* ~~~c:=by unfold past;simpa using this
      simp only[oj,jv,dB,nN];rw[qv];exact Q3 _ h3
   have J:=Q (j6 P) (Fj a b);have H:(fW P).length=((j6 P).filter (jJ P)).length:=(sD v).length_eq;rw[<-H]at J;have:(Fj a b).length=4:=rfl;rw[this]at J;lia
  generalize jE P (Fj a b) (j6 P)=fo at g f o;unfold Fq;simp only;rw[oe];refine⟨by simp[dO];lia,?_⟩;refine ua (λq:List Nat×Nat=> .tup [nr q.1,nD q.2]) (λq=>if Ga q.1=true then some (nD q.2)else none) fo [] (λq R A B h=> ?_) ?_
  .have I:=f q R;ac_nf;obtain⟨r,n⟩:=q
   match r,I with
   | [x,y],_=>
    have E:nB (hU [x,y]) (0:Int)=some (nD x):=lS (i:=0) rfl;have U:nB (hU [x,y]) (1:Int)=some (nD y):=lS (i:=1) rfl;simp only[nr,E,U,nD];unfold Ga at h;simp only[nT,nU]at h;by_cases c:x=y
    .have M:(x:Int)=(y:Int):=by lia
     simp only[c,rH,jv]at h⊢;exact h
    .have M: ¬(x:Int)=(y:Int):=by lia
     simp only[c,M,qo,hJ,eW]at h⊢;exact h
  .rw[jd,BY (λq:List Nat×Nat=>Ga q.1) (λq=>q.2) fo];ac_nf;refine⟨_,rfl,?_⟩;rw[UA Ga fo,<-VI];ac_nf;refine⟨P,rfl,T,?_⟩;rfl';refine⟨[W C7 fo],2*(fW P).length+2,rfl,by simp,?_⟩;rw[g];have E:nB (hU [(kS P a b).1]) (0:Int)=some (nD (kS P a b).1):=lS (i:=0) rfl;have Y:nB [D.lst (hU [(kS P a b).1]),nD (kS P a b).2] (0:Int)=some (D.lst (hU [(kS P a b).1])):=jf (n:=0);have O:nB [D.lst (hU [(kS P a b).1]),nD (kS P a b).2] (1:Int)=some (nD (kS P a b).2):=jf (n:=1);ac_nf;simp only[Y,O,E];rfl';exact hg
def BV:GN:=λds Q=> ∃(P:du) (i:Nat),ds=[iN P,nD i]/\Good P/\i< ~~~P/\4*4^(fW P).length<=1000000/\Q (.lst [nD (rl P i).1,nD (rl P i).2])
def Ad(Z:Fx K mg cl):kF P w K mg base cl 5 "inbreeding_of" 2 BV:=by
 have S:Sc ["family","person","parents"] (top 47):=by walk_at "s"
 refine fN.ok (Z.d 26 _ rfl) S rfl (λe=>(dg (ff (i:=2) S.nd (fK (fI.r (dS Z.T (dW 0))) (dW 1))) (dg (iw (gG k5 k6 (iC Z.G.len (pr 2)) dM (fO _)) (dn (eK (ke (da dM (da dM dz))))) gK) (dn (eK (dU (Gj Z) e (da (dW 0) (da (fK (pr 2) dM) (da (fK (pr 2) dM) dz))))))))) ?_;rintro ds j ⟨P,i,rfl,b,c,hsz,a⟩;unfold rl at a;have f:iN P= .obj 3 [.lst (me P),.lst (Ju P),.lst (qg P),.lst (hU (eV P)),.lst (hU (j6 P))]:=rfl;rw[f];rfl';simp only[nD,qf c,jA];cases hp:(gf P i).parents with
 |none=>rw[hp]at a;rw[qQ hp];ac_rfl;exact a
 |some y=>rw[hp]at a;have h:nB (hU [y.1,y.2]) (0:Int)=some (nD y.1):=lS rfl;have g:nB (hU [y.1,y.2]) (1:Int)=some (nD y.2):=lS rfl;rw[kN hp];simp only[dB];exact⟨P,y.1,y.2,rfl,b,b.lt i y.1 (by rw[kN hp];simp),b.lt i y.2 (by rw[kN hp];simp),hsz,a⟩
def Mu:GN:=λds Q=> ∃c d a b:Nat,ds=[nr [c,d,a,b]]/\Q (nD (pq [c,d,a,b]))
def JV(Z:Fx K mg cl):kF P w K mg base cl 1 "state_of" 1 Mu:=by
 have S:Sc ["row","of_a","of_b","gene"] (top 48):=by walk_at "s"
 refine fN.ok (Z.d 27 _ rfl) S rfl (λs=>(dg (ff (i:=1) S.nd (vF (pr 0) DN (lR dM))) (dg (ff (i:=2) S.nd (vF (pr 0) (lR dM) DN)) (dg (iw (K8.td (CK (gG k5 k6 (fK (pr 1) dM) (fK (pr 1) dM) (fO _)) (yO (gG k5 k6 (fK (pr 2) dM) (fK (pr 2) dM) (fO _))))) (dn (eK (vE (RC (gX s) (dW 1) (dW 2)) dM dM))) gK) (dg (iw (gG k5 k6 (fK (pr 1) dM) (fK (pr 1) dM) (fO _)) (dn (eK (vE (RB (fK (pr 1) dM) (pr 2)) dM dM))) gK) (dg (iw (gG k5 k6 (fK (pr 2) dM) (fK (pr 2) dM) (fO _)) (dn (eK (vE (RB (fK (pr 2) dM) (pr 1)) dM dM))) gK) (dn (eK (Hx dM (iC Z.G.len (fI.r (sS [("gene",3)] rfl S.nd S.bk (D7 (dW 1)) (λ_ _ _ _ _=>(gb (i:=3) S.nd)) (λ_ _ _ _ _=>(wD (RB (dW 3) (pr 2)))) (λ_ _ _ _ _=>(dW 3)))))))))))))) ?_;rintro ds u ⟨b,g,a,f,rfl,e⟩;unfold pq at e;simp only[nT,nU]at e;rw[nr];rfl';have t:cutD (hU [b,g,a,f]) none (some 2)=hU [b,g]:=rfl;have q:cutD (hU [b,g,a,f]) (some 2) none=hU [a,f]:=rfl;refine⟨by show¬((0:Nat)=0/\(2:Nat)=4);lia,by show¬((2:Nat)=0/\(4:Nat)=4);lia,?_⟩;rw[t,q];have l:nB (hU [b,g]) (0:Int)=some (nD b):=lS rfl;have p:nB (hU [b,g]) (1:Int)=some (nD g):=lS rfl;have m:nB (hU [a,f]) (0:Int)=some (nD a):=lS rfl;have n:nB (hU [a,f]) (1:Int)=some (nD f):=lS rfl;simp only[l,p,m,n,nD];have j: ∀(x y z:Nat),((x:Int)∈ [(y:Int),(z:Int)])=(x=y\/x=z):=by intro x y z;rw[M8];simp;lia
 by_cases e1:b=g
 .subst e1;by_cases e2:a=f
  .subst e2;simp only[and_self]at e;ac_rfl;refine⟨[nk b,nk b],[nk a,nk a],rfl,rfl,eC (AG [b,b]) (by lia),?_⟩;by_cases e3:b=a
   .subst e3;simp only[jv]at e;ac_rfl;exact e
   .have: ¬(D.tup (hU [b,b])=D.tup (hU [a,a])):=λh=>e3 (by
     have:=yW h;simpa using this)
    rw[di e3]at e;ac_rfl;exact e
  .have k: ¬(a:Int)=(f:Int):=by lia
   simp only[e2,k]at e;ac_rfl;refine⟨[(a:Int),(f:Int)],rfl,?_⟩;simp only[j];by_cases e3:b=a\/b=f
   .simp only[e3]at e⊢;exact e
   .simp only[e3]at e⊢;exact e
 .have o: ¬(b:Int)=(g:Int):=by lia
  simp only[e1,o]at e⊢;by_cases e2:a=f
  .subst e2;simp only[jv]at e⊢;refine⟨[(b:Int),(g:Int)],rfl,?_⟩;simp only[j];by_cases e3:a=b\/a=g
   .simp only[e3]at e⊢;exact e
   .simp only[e3]at e⊢;exact e
  .have k: ¬(a:Int)=(f:Int):=by lia
   simp only[e2,k]at e⊢;refine⟨by simp[dO,jA],?_⟩;refine ua nD (λx=>if(decide (x=a\/x=f))=true then some (nD x)else none) [b,g] [] (λx v A B h=> ?_) ?_
   .ac_nf;refine⟨[(a:Int),(f:Int)],rfl,?_⟩;simp only[j];by_cases c:x=a\/x=f
    .simp only[c]at h⊢;exact h
    .simp only[c]at h⊢;exact h
   .by_cases c1:b=a\/b=f<;>by_cases c2:g=a\/g=f<;>simp only[c1,c2,jy]at e⊢ <;>ac_nf <;>exact e
def Ku:GN:=λds Q=> ∃(P:du) (a b:Nat),ds=[iN P,nD a,nD b]/\Good P/\a< ~~~P/\b< ~~~P/\4*4^(fW P).length<=1000000/\Q (.lst [.lst (hU (kG P a b).1),nD (kG P a b).2])
def HC(Z:Fx K mg cl):kF P w K mg base cl 4 "states_of" 3 Ku:=by
 have S:Sc ["family","a","b","numbers","row","higher","count","state"] (top 49):=by walk_at "s"
 refine fN.ok (Z.d 28 _ rfl) S rfl (λg=>(dg (FZ (i:=3) [("state",7)] rfl S.nd (wF rfl rfl rfl rfl) S.bk (wN Z.G.range dM) (λ_ _ _ _ _=>(gb (i:=7) S.nd)) (λ_ _ _ _ _=>mK) (λ_ _ _ _ _=>dM)) (dg (ff (i:=4) S.nd (z9 Z.G.tuple (by decide+kernel) (fI.r (vG (dU (oa Z) g (da (dW 1) dz)) (dU (oa Z) g (da (dW 2) dz)))))) (dg (tY .never rfl (dU (vK Z) g (da (dW 0) (da (ke (da (dW 4) dz)) dz))) (nz (i:=5) (j:=6) rfl S.nd) (dn (Np (pv 3) (Hx (dU (JV Z) g (da (dW 5) dz)) dM) (dW 6)))) (ma 3 (dn (eK (dU (vJ Z) g (da (dW 3) (da (dU (p6 Z) g (da (dW 0) dz)) dz)))))))))) ?_;rintro ds T ⟨P,a,b,rfl,x,Q,H,hsz,J⟩;have C:=x.len;have h:=O5 x Q H;ac_nf;refine⟨by lia,?_⟩;rw[show(9:Int).toNat=9 from rfl,rT];refine⟨by simp[dO],?_⟩;refine mM nD (λ_=>nD 0) (eE 9) (λn R A I=> ?_) ?_
 .rfl';exact I
 rfl';refine⟨a,rfl,by lia,?_⟩;refine⟨b,rfl,by lia,?_⟩;refine⟨by simp[jA,dO],?_⟩;refine⟨P,[[2*a,2*a+1,2*b,2*b+1]],4,rfl,x,by simp,by simp,by lia,by simp;lia,?_⟩;have N:([[2*a,2*a+1,2*b,2*b+1]].map λr=>(r,1))=rR a b:=rfl;rw[N];have f:=xu (P:=P) (z:=4) (j6 P) (rR a b) (by unfold rR;simp);have v:wG P a b=(jE P (rR a b) (j6 P)).foldl se (fP 9 0):=rfl;generalize jE P (rR a b) (j6 P)=fo at f v;generalize wG P a b=w0 at v h;unfold Fq;rfl';rw[oe];have E:(eE 9).map (λ_=>nD 0)=hU (fP 9 0):=rfl;rw[E];refine fw (λq=> .tup [nr q.1,nD q.2]) (λs=> [some (.val (iN P)),some (.val (nD a)),some (.val (nD b)),some (.ol (hU s.1)),some (.val (nr [2*a,2*a+1,2*b,2*b+1])),s.2.1,s.2.2,none])
  (λy s=>(∀q∈y,q.1.length=4)/\s.1.length=9/\y.foldl se s.1=w0) ?_ ?_ fo (fP 9 0,none,none) ⟨f,by simp,v.symm⟩
 .rintro⟨r,n⟩ y ⟨ns,O,M⟩ ⟨u,o,c⟩ k hk;simp only at o c;have g:=u (r,n) (by simp)
  match r,g,c with
  | [m,t,p,l],_,c=>
   rfl';refine⟨m,t,p,l,rfl,?_⟩;have F:=yS [m,t,p,l];simp only[nD];rw[eT]at c;unfold se at c;generalize pq [m,t,p,l]=sr at F c;refine⟨sr-1,((ns.getD (sr-1) 0:Nat):Int),by lia,?_,?_⟩
   .unfold hU;rw[dX,df (by lia),dG,df (by lia)];rfl
   .have:=hk (ns.set (sr-1) (ns.getD (sr-1) 0+n),some (.val (nr [m,t,p,l])),some (.val (nD n))) ⟨λq B=>u q (by simp[B]),by simp[o],c⟩;have e:(hU ns).set (sr-1) (D.int (((ns.getD (sr-1) 0:Nat):Int)+(n:Int)))=hU (ns.set (sr-1) (ns.getD (sr-1) 0+n)):=by unfold hU;rw[Lp];rfl
    rw[e];exact this
 .rintro⟨ns,O,M⟩ ⟨u,o,c⟩;have c:ns=w0:=c;subst c;ac_nf;walk_at "n";refine⟨P,rfl,C,?_⟩;refine⟨ns,_,rfl,by simp only at o;lia,?_⟩;rw[h];exact J
def ZD(l:List (fc×Nat)):D:= .dic true (dl jX nD l)
def G6(a:dE):a.zipIdx=(eE (~~~a)).map λi=>(a.getD i 0,i):=by
 apply nH
 .simp
 .simp_all
def NV(l:List (fc×Nat))(k:fc):(nV (dl jX nD l) (jX k)).getD (D.int 0)= .int (((gB l k).getD 0:Nat):Int):=by rw[kn (λ_ _=>qA)];cases gB l k<;>rfl
def Xb(l:List (fc×Nat))(k:fc)(n:Nat):rq (dl jX nD l) (jX k) (.int (((gB l k).getD 0:Nat)+(n:Nat):Int))=dl jX nD (bump l k n):=by have:=jz (g:=nD) (λ_ _=>qA) l k ((gB l k).getD 0+n);lia
def GD(L:dQ)(a:Bool):List (fc×Nat):=if(L.bySex&&a)=true then(eE L.kinds).map λm=>((m,m),sJ L m)else(eE L.kinds).flatMap λm=>(eE L.kinds).map λp=>((p,m),sJ L m*sJ L p)
def KC(L:dQ)(a:Bool):((GD L a).map (·.1)).Nodup:=by
 unfold GD;split
 .rw[dm,eI,fQ];refine(eI.mp gZ).imp ?_
  simp_all
 .rw[CA,eI,lu];refine⟨?_,?_⟩
  .intro m _;rw[dm,fQ];refine(eI.mp gZ).imp ?_
   simp_all
  .refine(eI.mp gZ).imp ?_
   simp_all
def pH{K V:Type}{a rest b:List (K×V)}{x:K×V}(h:a++x::rest=b)(hd:(b.map (·.1)).Nodup):x.1∉a.map (·.1):=by
 grind
def tp:GN:=λds Q=> ∃(L:dQ) (b:gN) (a:Bool),ds=[fJ L b,mh a]/\L.kinds<=1000/\(∀x∈L.weights,x<=1000)/\Q (ZD (GD L a))
def su(Z:Fx K mg cl):kF P w K mg base cl 2 "pairs_without_parents" 2 tp:=by
 have S:Sc ["place","sex","weights","m","weight","p","other_weight"] (top 51):=by walk_at "s"
 refine fN.ok (Z.d 29 _ rfl) S rfl (λJ=>(dg (mR (i:=2) S.nd) (dg (i3 .never rfl (uf Z.G.enumerate (dS Z.T (dW 0))) (nz (i:=3) (j:=4) rfl S.nd) (dn (iw (nq (dU (nO Z) J (da (dW 0) (da (dW 1) dz)))) (dn (mE (i:=2) (gX J) (pv 2) (kM (da (dW 3) (da (dW 3) dz))) (dW 4))) (dn (i3 .never rfl (uf Z.G.enumerate (dS Z.T (dW 0))) (nz (i:=5) (j:=6) rfl S.nd) (dn (mE (i:=2) (gX J) (pv 2) (kM (da (dW 5) (da (dW 3) dz))) (xS (dW 4) (dW 6))))))))) (ma 2 (dn (eK (dW 2))))))) ?_;rintro ds X ⟨L,z,c,rfl,y,F,n⟩;have hd:=KC L c;have hz:=G6 L.weights;have a:(GD L c).length<=1000*1000:=by
  unfold GD;split
  .simp;lia
  .rw[kE];simp only[dA,pj];have: ∀l:List Nat,(l.map λ_=>L.kinds).sum<= ~~~l*L.kinds:=by
    intro l;induction l with
    |nil=>simp
    |cons x l ih=>simp[oX];lia
   refine eC (this _) ?_;rw[pj];exact kh y y
 unfold GD at hd n a;rw[fJ];rfl';rw[show hU L.weights=L.weights.map nD from rfl,pI];by_cases ha:(L.bySex&&c)=true
 .rw[dq ha]at hd n a;have B:((eE L.kinds).map λm=>((m,m),sJ L m))=L.weights.zipIdx.map λq=>((q.2,q.2),q.1):=by rw[hz,dm];rfl
  rw[B]at hd n a;generalize hw:(L.weights.zipIdx.map λq=>((q.2,q.2),q.1))=w0 at hd n a;refine fw (α:=Nat×Nat) (S:=List (fc×Nat)×Jn×Jn×Jn×Jn) (λp=> .tup [nD p.2,nD p.1]) (λs=> [some (.val (fJ L z)),some (.val (mh c)),some (.od true (dl jX nD s.1)),s.2.1,s.2.2.1,s.2.2.2.1,s.2.2.2.2])
   (λu s=>s.1++u.map (λq=>((q.2,q.2),q.1))=w0) ?_ ?_ L.weights.zipIdx ([],none,none,none,none) hw
  .rintro⟨h,m⟩ u ⟨b,O,I,t,o⟩ he k hk;rw[dt]at he;have N:=pH he hd;have C: ~~~b<1000001:=by rw[<-he]at a;simp at a;lia
   ac_nf;walk_at "n";refine⟨L,z,c,rfl,?_⟩;ac_rfl;refine⟨D8 (m,m),by rw[mT,dO];lia,?_⟩;have e:=jz (f:=jX) (g:=nD) (λ_ _=>qA) b (m,m) h;rw[iI N]at e;have:=hk (b++ [((m,m),h)],some (.val (nD m)),some (.val (nD h)),t,o) (by rw[<-he];simp);rw[<-e]at this;exact this
  .rintro⟨b,O,I,t,o⟩ he;have he:b=w0:=by simpa using he
   subst he;rfl';exact n
 .rw[di ha]at hd n a;have B:((eE L.kinds).flatMap λm=>(eE L.kinds).map λp=>((p,m),sJ L m*sJ L p))=L.weights.zipIdx.flatMap λq=>L.weights.zipIdx.map λr=>((r.2,q.2),q.1*r.1):=by rw[hz,List.flatMap_map];congr 1;funext m;rw[dm];rfl
  rw[B]at hd n a;generalize hw:(L.weights.zipIdx.flatMap λq=>L.weights.zipIdx.map λr=>((r.2,q.2),q.1*r.1))=w0 at hd n a;have E: ∀q∈L.weights.zipIdx,q.1<=1000:=λq A=>F q.1 (List.fst_mem_of_mem_zipIdx A);refine fw (α:=Nat×Nat) (S:=List (fc×Nat)×Jn×Jn×Jn×Jn) (λp=> .tup [nD p.2,nD p.1]) (λs=> [some (.val (fJ L z)),some (.val (mh c)),some (.od true (dl jX nD s.1)),s.2.1,s.2.2.1,s.2.2.2.1,s.2.2.2.2])
   (λu s=>(∀q∈u,q.1<=1000)/\s.1++u.flatMap (λq=>L.weights.zipIdx.map λr=>((r.2,q.2),q.1*r.1))=w0) ?_ ?_ L.weights.zipIdx ([],none,none,none,none) ⟨E,hw⟩
  .rintro⟨h,m⟩ u ⟨b,O,I,t,o⟩ ⟨R,he⟩ k hk;rw[lL]at he;have H:=R (h,m) (by simp);ac_nf;walk_at "n";refine⟨L,z,c,rfl,?_⟩;ac_rfl;simp only[fJ];rfl';rw[show hU L.weights=L.weights.map nD from rfl,pI];refine fw (α:=Nat×Nat) (S:=List (fc×Nat)×Jn×Jn) (λp=> .tup [nD p.2,nD p.1]) (λs=> [some (.val (fJ L z)),some (.val (mh c)),some (.od true (dl jX nD s.1)),some (.val (nD m)),some (.val (nD h)),s.2.1,s.2.2])
    (λQ s=>s.1++(Q.map (λr=>((r.2,m),h*r.1))++u.flatMap (λq=>L.weights.zipIdx.map λr=>((r.2,q.2),q.1*r.1)))=w0) ?_ ?_ L.weights.zipIdx (b,t,o) he
   .rintro⟨v,p⟩ Q ⟨b,t,o⟩ he Y M;dsimp only[dt,u4]at he;have N:=pH he hd;have C: ~~~b<1000001:=by rw[<-he]at a;simp at a;lia
    ac_nf;walk_at "n";simp only[nD];refine⟨.inl (by simp only at H;lia),D8 (p,m),by rw[mT,dO];lia,?_⟩;have e:=jz (f:=jX) (g:=nD) (λ_ _=>qA) b (p,m) (h*v);rw[iI N]at e;have:=M (b++ [((p,m),h*v)],some (.val (nD p)),some (.val (nD v))) (by rw[<-he];simp);rw[<-e]at this;have U:nD (h*v)=D.int ((h:Int)*(v:Int)):=by unfold nD;congr 1
    rw[U]at this;exact this
   .rintro⟨b,t,o⟩ he;rw[jw,jd]at he;exact hk (b,some (.val (nD m)),some (.val (nD h)),t,o) ⟨λq A=>R q (by simp[A]),he⟩
  .rintro⟨b,O,I,t,o⟩ ⟨_,he⟩;have he:b=w0:=by simpa using he
   subst he;rfl';exact n
def TB(L:dQ)(a:Bool)(f m:fc):List (fc×Nat):=[f.1,f.2].foldl (λd p=> [m.1,m.2].foldl (λd m=>bump d (if(L.bySex&&a)=true then(m,m)else(p,m)) 1) d) []
def vV:GN:=λds Q=> ∃(L:dQ) (b:gN) (a:Bool) (f m:fc),ds=[fJ L b,mh a,jX f,jX m]/\Q (ZD (TB L a f m))
def u9(Z:Fx K mg cl):kF P w K mg base cl 2 "pairs_from_parents" 4 vV:=by
 have S:Sc ["place","sex","father_pair","mother_pair","ways","p","m","pair"] (top 52):=by walk_at "s"
 refine fN.ok (Z.d 30 _ rfl) S rfl (λr=>(dg (mR (i:=4) S.nd) (dg (i3 .never rfl (D7 (dW 2)) (gb (i:=5) S.nd) (dn (i3 .never rfl (D7 (dW 3)) (gb (i:=6) S.nd) (dg (ff (i:=7) S.nd (vE (nq (dU (nO Z) r (da (dW 0) (da (dW 1) dz)))) (kM (da (dW 6) (da (dW 6) dz))) (kM (da (dW 5) (da (dW 6) dz))))) (dn (mE (gX r) (pv 4) (dW 7) (lH (yZ (gX r) (pr 4) (dW 7) dM) dM))))))) (ma 4 (dn (eK (dW 4))))))) ?_;rintro ds z ⟨L,n,b,f,c,rfl,u⟩;generalize hw:TB L b f c=w0 at u;unfold TB at hw;rw[jX];ac_nf;refine fw nD (λs=> [some (.val (fJ L n)),some (.val (mh b)),some (.val (jX f)),some (.val (jX c)),some (.od true (dl jX nD s.1)),s.2.1,s.2.2.1,s.2.2.2])
  (λl s=>s.1.length+2* ~~~l<=100/\l.foldl (λd p=> [c.1,c.2].foldl (λd m=>bump d (if(L.bySex&&b)=true then(m,m)else(p,m)) 1) d) s.1=w0) ?_ ?_ [f.1,f.2] ([],none,none,none) ⟨by simp,hw⟩
 .rintro p l ⟨a,y,h,g⟩ ⟨e,he⟩ k hk;simp only[dB]at e he;rw[eT]at he;simp only[jX];rfl';refine fw nD (λs=> [some (.val (fJ L n)),some (.val (mh b)),some (.val (jX f)),some (.val (jX c)),some (.od true (dl jX nD s.1)),some (.val (nD p)),s.2.1,s.2.2])
   (λo s=>s.1.length+ ~~~o+2* ~~~l<=100/\l.foldl (λd p=> [c.1,c.2].foldl (λd m=>bump d (if(L.bySex&&b)=true then(m,m)else(p,m)) 1) d) (o.foldl (λd m=>bump d (if(L.bySex&&b)=true then(m,m)else(p,m)) 1) s.1)=w0) ?_ ?_ [c.1,c.2] (a,h,g) ⟨by simp;lia,he⟩
  .rintro m o ⟨a,h,g⟩ ⟨e,he⟩ x t;simp only[dB]at e he;rw[eT]at he;ac_nf;walk_at "n";refine⟨L,n,b,rfl,?_⟩;have key: ∀q:fc,(if(L.bySex&&b)=true then(m,m)else(p,m))=q->DL.hk true (jX q)/\(match(nV (dl jX nD a) (jX q)).getD (D.int 0),D.int 1 with
     | .int i,.int j=>DL.hk true (jX q)/\(dl jX nD a).length<eQ/\x [some (.val (fJ L n)),some (.val (mh b)),some (.val (jX f)),some (.val (jX c)),some (.od true (rq (dl jX nD a) (jX q) (.int (i+j)))),some (.val (nD p)),some (.val (nD m)),some (.val (jX q))]
     |_,_=>False):=by
    intro q v;refine⟨D8 q,?_⟩;rw[NV];refine⟨D8 q,by rw[mT,dO];lia,?_⟩;rw[v]at he;have:=t (bump a q 1,some (.val (nD m)),some (.val (jX q))) ⟨by have:=js a q 1;show(bump a q 1).length+_+_<=_;lia,he⟩;rw[<-Xb a q 1]at this;exact this
   by_cases ha:(L.bySex&&b)=true
   .rw[dq ha]at key;ac_rfl;exact key _ rfl
   .simp only[ha]at key;ac_rfl;exact key _ rfl
  .rintro⟨a,h,g⟩ ⟨e,he⟩;exact hk (a,some (.val (nD p)),h,g) ⟨by simpa using e,he⟩
 .rintro⟨a,y,h,g⟩ ⟨e,he⟩;have he:=he;subst he;rfl';exact u
def tD(t:Nat×fc):D:= .tup [nD t.1,jX t.2]
def zZ(row:BM.Row):D:= .tup (row.map tD)
def sP(s:pO):D:= .dic true (dl zZ nD s)
def YY(h:tD a=tD b):a=b:=by injection h with h;injection h with h1 h2;injection h2 with h2;exact xF (jI h1) (qA h2)
def Hm(h:zZ a=zZ b):a=b:=by injection h with h;exact Co (λ_ _=>YY) h
def nkT(t:Nat×fc):NK:= .tup [nk t.1,.tup [nk t.2.1,nk t.2.2]]
def ZR(row:BM.Row):pC (row.map nkT)=row.map tD:=by rw[za,dm];rfl
def WY: ∀row:BM.Row,NK.ae (row.map nkT)<=2:=by
 intro row;induction row with
 |nil=>decide
 |cons t row ih=>
  show Nat.max (NK.depth (nkT t)) (NK.ae (row.map nkT))<=2;have h:NK.depth (nkT t)=2:=rfl
  simp_all
def Kn(row:BM.Row):hk true (zZ row):=⟨row.map nkT,by show D.tup _=D.tup (pC _);rw[ZR],by have:=WY row;lia⟩
def Mc: ∀{row:BM.Row},(row.map (·.1)).Nodup->SQ (row.map λt=>((t.1:Int),jX t.2))=dl nD jX row:=by
 intro row h;have key: ∀(r a:BM.Row),((a++r).map (·.1)).Nodup->(r.map λt=>((t.1:Int),jX t.2)).foldl (λd q=>rq d (.int q.1) q.2) (dl nD jX a)=dl nD jX (a++r):=by
  intro r;induction r with
  |nil=>intro a _;simp
  |cons t r ih=>
   intro a hd;have b:=pH rfl hd;have e:=jz (g:=jX) (λ_ _=>jI) a t.1 t.2;rw[iI b]at e;have c:rq (dl nD jX a) (D.int (t.1:Int)) (jX t.2)=dl nD jX (a++ [t]):=e
   simp_all
 exact key row [] (by simpa using h)
def Ef:GN:=λds Q=> ∃(P:du) (L:dQ) (a:gN) (row:BM.Row) (i:Nat),ds=[iN P,fJ L a,zZ row,nD i]/\i< ~~~P/\L.kinds<=1000/\(∀x∈L.weights,x<=1000)/\(row.map (·.1)).Nodup/\(∀q∈par P i,q∈row.map (·.1))/\Q (ZD (bh P L (sE row) i))
def BL(Z:Fx K mg cl):kF P w K mg base cl 3 "pairs_behind" 4 Ef:=by
 have S:Sc ["family","place","row","person","sex","parents","told"] (top 53):=by walk_at "s"
 refine fN.ok (Z.d 31 _ rfl) S rfl (λb=>(dg (ff (i:=4) S.nd (fK (fI.r (dS Z.T (dW 0))) (dW 3))) (dg (ff (i:=5) S.nd (fK (fI.r (dS Z.T (dW 0))) (dW 3))) (dg (iw (gG k5 k6 (iC Z.G.len (pr 5)) dM (fO _)) (dn (eK (dU (su Z) b (da (dW 1) (da (dW 4) dz))))) gK) (dg (ff (i:=6) S.nd (V9 Z.G.dict rfl (dW 2))) (dn (eK (dU (u9 Z) b (da (dW 1) (da (dW 4) (da (m7 (gX b) (pr 6) (fK (pr 5) dM)) (da (m7 (gX b) (pr 6) (fK (pr 5) dM)) dz)))))))))))) ?_;rintro ds o ⟨P,L,h,row,i,rfl,j,f,c,hd,k,a⟩;unfold bh at a;rw[iN];rfl';simp only[nD,qf j,Hg j,jA];cases hp:(gf P i).parents with
 |none=>rw[hp]at a;rw[qQ hp];ac_rfl;exact⟨L,h,_,rfl,f,c,a⟩
 |some y=>
  rw[hp]at a;have l:nB (hU [y.1,y.2]) (0:Int)=some (nD y.1):=lS rfl;have n:nB (hU [y.1,y.2]) (1:Int)=some (nD y.2):=lS rfl;have v: ∀q∈par P i,nV (dl nD jX row) (nD q)=some (jX (sE row q)):=by
   intro q g;have:=k q g;rw[kn (λ_ _=>jI)];unfold sE;cases e:gB row q with
   |none=>exact absurd this (qI.mp e)
   |some p=>rfl
  have v1:=v y.1 (by rw[kN hp];simp);have m:=v y.2 (by rw[kN hp];simp);rw[kN hp];simp only[dB];refine⟨row.map λt=>((t.1:Int),jX t.2),by rw[dm];rfl,?_⟩;rw[Mc hd];rw[l];refine⟨kP y.1,_,v1,kP y.2,_,m,?_⟩;exact⟨L,h,_,_,_,rfl,a⟩
def Os(p:fc):HK (jX p):=⟨.tup [nk p.1,nk p.2],rfl,by show NK.ae [nk p.1,nk p.2]+1<=6;have:=AG [p.1,p.2];have e: [nk p.1,nk p.2]=[p.1,p.2].map nk:=rfl;rw[e];lia⟩
def Ti:GN:=λds Q=> ∃(L:dQ) (a:gN) (i:Nat) (p:fc),ds=[fJ L a,nD i,jX p]/\Q (.bl (uo a i p))
def Pt(Z:Fx K mg cl):kF P w K mg base cl 1 "agrees" 3 Ti:=by
 have S:Sc ["place","person","pair"] (top 54):=by walk_at "s"
 refine fN.ok (Z.d 32 _ rfl) S rfl (λb=>(dn (eK (Sm (Pk (gX b) (dW 1) (fI.r (dS Z.T (dW 0)))) (t5 (ZA (gX b) (dW 2) (fI.r (m7 (gX b) (fI.r (dS Z.T (dW 0))) (dW 1))))))))) ?_;rintro ds j ⟨L,f,i,p,rfl,a⟩;unfold uo at a;rw[fJ];rfl';rw[kn (λ_ _=>jI)];refine⟨kP i,?_⟩;cases e:gB f i with
 |none=>simp_all
 |some l=>
  rw[e]at a;refine⟨kP i,_,rfl,?_⟩;unfold jH;refine⟨Os p,λd hd=>by let⟨(q),_,rfl⟩:=dk.mp hd;exact Os q,?_⟩;have:decide (jX p∈l.map jX)=l.contains p:=by rw[je];simp only[jL,xJ,dk];exact⟨λg=>by let⟨(q),c,e⟩:=g;rw[<-qA e];exact c,λh=>⟨p,h,rfl⟩⟩
  rw[this];exact a
def WM(l:pO)(k:BM.Row):(nV (dl zZ nD l) (zZ k)).getD (D.int 0)= .int (((gB l k).getD 0:Nat):Int):=by rw[kn (λ_ _=>Hm)];cases gB l k<;>rfl
def Xa(l:pO)(k:BM.Row)(n:Nat):rq (dl zZ nD l) (zZ k) (.int (((gB l k).getD 0:Nat)+(n:Nat):Int))=dl zZ nD (bump l k n):=by have:=jz (g:=nD) (λ_ _=>Hm) l k ((gB l k).getD 0+n);lia
def tq{α a:Type}(c:α->Bool)(f:α->a): ∀l:List α,(l.filterMap λx=>if c x=true then some (f x)else none)=(l.filter c).map f:=by
 intro l;induction l with
 |nil=>rfl
 |cons x l ih=>rw[jy,gQ];cases c x<;>simp[ih]
def Eb:GN:=λds Q=> ∃(s:pO) (a:dE),ds=[sP s,.lst (hU a)]/\ ~~~s<=1000000/\(∀q∈s,q.1.length<=1000)/\Q (sP (mq s a))
def BI(Z:Fx K mg cl):kF P w K mg base cl 1 "sums_without" 2 Eb:=by
 have S:Sc ["sums","persons","shorter_sums","row","whole","shorter","told"] (top 56):=by walk_at "s"
 refine fN.ok (Z.d 34 _ rfl) S rfl (λg=>(dg (mR (i:=2) S.nd) (dg (tY .never rfl (dW 0) (nz (i:=3) (j:=4) rfl S.nd) (dg (ff (i:=5) S.nd (z9 Z.G.tuple (by decide+kernel) (fI.r (sS [("told",6)] rfl S.nd S.bk (D7 (dW 3)) (λ_ _ _ _ _=>(gb (i:=6) S.nd)) (λ_ _ _ _ _=>(wD (Rz (fK (pr 6) dM) (pr 1)))) (λ_ _ _ _ _=>(dW 6)))))) (dn (mE (gX g) (pv 2) (dW 5) (lH (yZ (gX g) (pr 2) (dW 5) dM) (dW 4)))))) (ma 2 (dn (eK (dW 2))))))) ?_;rintro ds N ⟨s,a,rfl,z,u,x⟩;generalize hw:mq s a=w0 at x;unfold mq at hw;simp only[sP];rfl';rw[oe];refine fw (λq=> .tup [zZ q.1,nD q.2]) (λt=> [some (.val (sP s)),some (.val (.lst (hU a))),some (.od true (dl zZ nD t.1)),t.2.1,t.2.2.1,t.2.2.2,none])
  (λl t=>(∀q∈l,q.1.length<=1000)/\t.1.length+ ~~~l<=1000000/\l.foldl (λb q=>bump b (kT a q.1) q.2) t.1=w0) ?_ ?_ s ([],none,none,none) ⟨u,by simpa using z,hw⟩
 .rintro⟨row,n⟩ l ⟨b,I,F,C⟩ ⟨m,v,f⟩ k hk;simp only[dB]at v f;rw[eT]at f;have g:=m (row,n) (by simp);simp only[zZ];ac_nf;refine⟨by simp[dO];simp only at g;lia,?_⟩;refine ua tD (λt=>if(!a.contains t.1)=true then some (tD t)else none) row [] (λt M A B h=> ?_) ?_
  .rfl';simp only[tD];have J:nB [nD t.1,jX t.2] (0:Int)=some (nD t.1):=jf;simp only[nD];refine⟨a.map λn:Nat=>(n:Int),Cg a,?_⟩;have e:((t.1:Int)∈a.map λn:Nat=>(n:Int))=(t.1∈a):=by rw[M8,dk];exact⟨λE=>by let⟨(q),o,e⟩:=E;rw[show t.1=q by lia];exact o,λh=>⟨t.1,h,rfl⟩⟩
   simp only[e];by_cases c:t.1∈a
   .have p:a.contains t.1=true:=by simpa using c
    rw[p]at h;simpa [c]using h
   .have p:a.contains t.1=false:=by simpa using c
    simp only[p]at h;simpa [c,tD,nD]using h
  .rw[jd,tq (λt:Nat×fc=> !a.contains t.1) tD row];ac_nf;have H:D.tup ((row.filter λt=> !a.contains t.1).map tD)=zZ (kT a row):=rfl;rw[H];refine⟨Kn _,?_⟩;have y:=WM b (kT a row);rw[y];simp only[nD];refine⟨Kn _,by rw[mT,dO];lia,?_⟩;have:=hk (bump b (kT a row) n,some (.val (zZ row)),some (.val (nD n)),some (.val (zZ (kT a row)))) ⟨λq o=>m q (by simp[o]),by have:=js b (kT a row) n;show(bump b (kT a row) n).length+_<=_;lia,f⟩;simp only[<-Xa b (kT a row) n]at this;exact this
 .rintro⟨b,I,F,C⟩ ⟨m,v,f⟩;have f:=f;subst f;rfl';exact x
structure xa(L:dQ):Prop where
 k1:1<=L.kinds
 k8:L.kinds<=8
 pos: ∀x∈L.weights,x≠0
 cX:L.weights.sum<=255
def xa.of{L:dQ}(h:kI L=true):xa L:=by unfold kI at h;simp only[fZ,jL,hC]at h;exact⟨h.1.1.1,h.1.1.2,λx a=>by simpa using h.1.2 x a,h.2⟩
theorem xY: ∀{l:dE} {x:Nat},x∈l->x<=l.sum
 | [],x,h=>by simp at h
 |y::l,x,h=>by
  rw[gL];rcases eM.mp h with rfl|h
  .lia
  .have:=xY h;lia
def xa.le{L:dQ}(h:xa L): ∀x∈L.weights,x<=255:=λx a=>eC (xY a) h.cX
def xa.wp{L:dQ}(h:xa L): ∀x,x<L.kinds->0<sJ L x:=λx a=>by unfold sJ;rw[dG,df a];have:=h.pos _ (nG a);exact UX this
def xa.cI{L:dQ}(h:xa L)(x:Nat):sJ L x<=255:=by
 unfold sJ;rw[dG];cases e:L.weights[x]? with
 |none=>simp
 |some y=>exact h.le y (eS e)
def adp{P:du}{L:dQ}(h:xa L)(α:As)(i:Nat): ∀q∈bh P L α i,q.2<=65025:=by
 unfold bh;cases (gf P i).parents with
 |none=>
  simp only;split
  .intro q a;let⟨(m),_,rfl⟩:=dk.mp a;have:=h.cI m;lia
  .intro q a;let⟨(m),_,a⟩:=g9.mp a;let⟨(x),_,rfl⟩:=dk.mp a;exact kh (h.cI m) (h.cI x)
 |some y=>
  simp only[G3];have key: ∀(l:List (fc×Nat)) (k:fc) (M:Nat),(∀q∈l,q.2<=M)-> ∀q∈bump l k 1,q.2<=M+1:=by
   intro l k M b q a;unfold BM.bump kX at a;have d:(gB l k).getD 0<=M:=by
    cases e:gB l k with
    |none=>simp
    |some v=>exact b _ (zi e)
   split at a
   .obtain⟨r,c,e⟩:=dk.mp a;split at e
    .rw[<-e];show _+1<=_;lia
    .rw[<-e];have:=b r c;lia
   .rcases gp.mp a with h'|h'
    .have:=b q h';lia
    .simp_all
  intro q a;have:=key _ _ 3 (key _ _ 2 (key _ _ 1 (key _ _ 0 (λq a=>by simp at a)))) q a;lia
def Kt:GN:=λds Q=> ∃(P:du) (L:dQ) (a:gN) (s:pO) (i:Nat) (once:Bool),ds=[iN P,fJ L a,sP s,nD i,.bl once]/\xa L/\i< ~~~P/\(s.map (·.1)).Nodup/\(∀q∈s,(q.1.map (·.1)).Nodup/\q.1.length<=64/\ ∀r∈par P i,r∈q.1.map (·.1))/\ ~~~s*bnd P L i<=1000000/\Q (sP (n4 P L (uo a) once s i))
def HB(Z:Fx K mg cl):kF P w K mg base cl 4 "sums_with" 5 Kt:=by
 have S:Sc ["family","place","sums","person","each_once","longer_sums","row","whole","pair","count"] (top 55):=by walk_at "s"
 refine fN.ok (Z.d 33 _ rfl) S rfl (λM=>(dg (mR (i:=5) S.nd) (dg (tY .never rfl (dW 2) (nz (i:=6) (j:=7) rfl S.nd) (dn (tY .never rfl (dU (BL Z) M (da (dW 0) (da (dW 1) (da (dW 6) (da (dW 3) dz))))) (nz (i:=8) (j:=9) rfl S.nd) (dn (iw (nq (dU (Pt Z) M (da (dW 1) (da (dW 3) (da (dW 8) dz))))) (dn (mE (gX M) (pv 5) (Wa (dW 6) (kM (da (kM (da (dW 3) (da (dW 8) dz))) dz))) (vE (nq (dW 4)) (dW 7) (xS (dW 7) (dW 9))))) gK))))) (ma 5 (dn (eK (dW 5))))))) ?_;rintro ds QD ⟨P,L,l,s,i,once,rfl,E,hi,I,y,hsz,Q⟩;have hd:=AX (P:=P) (L:=L) (ag:=uo l) (once:=once) I i;have f:(n4 P L (uo l) once s i).length<=1000000:=eC (zR (by have:=E.k1;lia) i s) hsz;generalize hw:n4 P L (uo l) once s i=w0 at hd Q f;unfold n4 at hw;simp only[sP];rfl';rw[oe];refine fw (λq=> .tup [zZ q.1,nD q.2]) (λt=> [some (.val (iN P)),some (.val (fJ L l)),some (.val (sP s)),some (.val (nD i)),some (.val (.bl once)),some (.od true (dl zZ nD t.1)),t.2.1,t.2.2.1,t.2.2.2.1,t.2.2.2.2])
  (λF t=>(∀q∈F,(q.1.map (·.1)).Nodup/\q.1.length<=64/\ ∀r∈par P i,r∈q.1.map (·.1))/\t.1++F.flatMap (λq=>((bh P L (sE q.1) i).filter λr=>uo l i r.1).map λr=>(q.1++ [(i,r.1)],if once=true then q.2 else q.2*r.2))=w0) ?_ ?_ s ([],none,none,none,none) ⟨y,hw⟩
 .rintro⟨row,h⟩ F ⟨a,j1,j2,B,z⟩ ⟨H,u⟩ k hk;rw[lL]at u;let⟨N,R,O⟩:=H (row,h) (by simp);simp only at N R O;rfl';refine⟨P,L,l,row,i,rfl,hi,by have:=E.k8;lia,λx Y=>by have:=E.le x Y;lia,N,O,?_⟩;have A:=adp (P:=P) E (sE row) i;generalize bh P L (sE row) i=bl at u A;unfold ZD;rfl';rw[oe];refine fw (λq=> .tup [jX q.1,nD q.2]) (λt=> [some (.val (iN P)),some (.val (fJ L l)),some (.val (sP s)),some (.val (nD i)),some (.val (.bl once)),some (.od true (dl zZ nD t.1)),some (.val (zZ row)),some (.val (nD h)),t.2.1,t.2.2])
   (λJ t=>(∀q∈J,q.2<=65025)/\t.1++((J.filter λr=>uo l i r.1).map (λr=>(row++ [(i,r.1)],if once=true then h else h*r.2))++F.flatMap (λq=>((bh P L (sE q.1) i).filter λr=>uo l i r.1).map λr=>(q.1++ [(i,r.1)],if once=true then q.2 else q.2*r.2)))=w0) ?_ ?_ bl (a,B,z) ⟨A,u⟩
  .rintro⟨p,n⟩ J ⟨a,B,z⟩ ⟨G,m⟩ k2 C;simp only[gQ]at m;have U:=G (p,n) (by simp);ac_nf;walk_at "n";refine⟨L,l,i,p,rfl,?_⟩;by_cases c:uo l i p=true
   .rw[dq c]at m;ac_rfl;have hf:=pH m hd;have T: ~~~a<1000001:=by rw[<-m]at f;simp at f;lia
    have o:D.tup (row.map tD++ [D.tup [nD i,jX p]])=zZ (row++ [(i,p)]):=by unfold zZ;rw[jF];rfl
    simp only[zZ];ac_nf;walk_at "n";have e:=jz (g:=nD) (λ_ _=>Hm) a (row++ [(i,p)]) (if once=true then h else h*n);rw[iI hf]at e;have b:=C (a++ [(row++ [(i,p)],if once=true then h else h*n)],some (.val (jX p)),some (.val (nD n))) ⟨λq v=>G q (by simp[v]),by rw[<-m];simp⟩;simp only[<-e]at b;cases once with
    |true=>simp only[jv]at b;ac_rfl;refine⟨by rw[dO];simp;lia,?_⟩;rw[o];exact⟨Kn _,by rw[mT,dO];lia,b⟩
    |false=>
     simp only[hJ,eW]at b⊢;simp only[nD];refine⟨.inr (by simp only at U;lia),by rw[dO];simp;lia,?_⟩;rw[show D.tup [D.int (i:Int),jX p]=D.tup [nD i,jX p]from rfl,o];have X:nD (h*n)=D.int ((h:Int)*(n:Int)):=by unfold nD;congr 1
     rw[X]at b;exact⟨Kn _,by rw[mT,dO];lia,b⟩
   .simp only[c]at m⊢;exact C (a,some (.val (jX p)),some (.val (nD n))) ⟨λq v=>G q (by simp[v]),m⟩
  .rintro⟨a,B,z⟩ ⟨G,m⟩;simp only[XF]at m;exact hk (a,some (.val (zZ row)),some (.val (nD h)),B,z) ⟨λq v=>H q (by simp[v]),m⟩
 .rintro⟨a,j1,j2,B,z⟩ ⟨H,u⟩;have u:a=w0:=by simpa using u
  subst u;rfl';exact Q
def Ei:GN:=λds Q=> ∃P:du,ds=[iN P]/\Good P/\Q (.dic false (dl nD nD (sY P)))
def BO(Z:Fx K mg cl):kF P w K mg base cl 1 "last_needing" 1 Ei:=by
 have S:Sc ["family","last","person","parent"] (top 57):=by walk_at "s"
 refine fN.ok (Z.d 35 _ rfl) S rfl (λu=>(dg (yV (i:=1) S.nd) (dg (i3 .never rfl (hG (dS Z.T (dW 0))) (gb (i:=2) S.nd) (dg (mE (i:=1) (gX u) (pv 1) (dW 2) (dW 2)) (dn (i3 .never rfl (hG (fK (fI.r (dS Z.T (dW 0))) (dW 2))) (gb (i:=3) S.nd) (dn (mE (i:=1) (gX u) (pv 1) (dW 3) (dW 2))))))) (ma 1 (dn (eK (dW 1))))))) ?_;rintro ds G ⟨P,rfl,y,t⟩;have z:=gD y;have F:=y.len;generalize hw:sY P=w0 at t;unfold sY at hw;rw[iN];have a: ∀(d:mV) (k v:Nat),(kX d k v).length<= ~~~d+1:=by intro d k v;unfold kX;split<;>simp
 refine fw (α:=Nat) (S:=List (Nat×Nat)×Jn×Jn) nD (λs=> [some (.val (iN P)),some (.od false (dl nD nD s.1)),s.2.1,s.2.2])
  (λc s=>(∀x∈c,x< ~~~P)/\s.1.length+3* ~~~c<=1000/\c.foldl (lD P) s.1=w0) ?_ ?_ (eV P) ([],none,none) ⟨z.1.lt,by rw[z.2];simp;lia,hw⟩
 .rintro i c ⟨d,C,h⟩ ⟨j,p,b⟩ k hk;simp only[dB]at p b;rw[eT]at b;have B:=j i (by simp);have hpl:(par P i).length<=2:=by unfold par;split<;>simp
  rw[iN];ac_nf;refine⟨kP i,by rw[mT,dO];lia,?_⟩;rw[jz (f:=nD) (g:=nD) (λ_ _=>jI)];have m:nB (qg P) (i:Int)=some (.lst (hU (par P i))):=qf B;simp only[nD,m];unfold lD at b;have E:=a d i i;refine fw (α:=Nat) (S:=List (Nat×Nat)×Jn) nD (λs=> [some (.val (iN P)),some (.od false (dl nD nD s.1)),some (.val (nD i)),s.2])
   (λl s=>s.1.length+ ~~~l+3* ~~~c<=1000/\c.foldl (lD P) (l.foldl (λd q=>kX d q i) s.1)=w0) ?_ ?_ (par P i) (kX d i i,h) ⟨by show(kX d i i).length+_+_<=_;lia,b⟩
  .rintro q l ⟨d,h⟩ ⟨n,e⟩ H o;simp only[dB]at n e;rw[eT]at e;rfl';refine⟨kP q,by rw[mT,dO];lia,?_⟩;rw[jz (f:=nD) (g:=nD) (λ_ _=>jI)];have:=a d q i;exact o (kX d q i,some (.val (nD q))) ⟨by show(kX d q i).length+_+_<=_;lia,e⟩
  .rintro⟨d,h⟩ ⟨n,e⟩;exact hk (d,some (.val (nD i)),h) ⟨λx A=>j x (by simp[A]),by simpa using n,e⟩
 .rintro⟨d,C,h⟩ ⟨j,p,b⟩;have b:d=w0:=b;subst b;rfl';exact t
def zl:GN:=λds Q=> ∃(P:du) (L:dQ) (a:gN) (asked:Option Nat) (once:Bool),ds=[iN P,fJ L a,U9 asked,.bl once]/\Good P/\xa L/\nY P L (eV P)<=1000000/\Q (sP (dp P L (uo a) once asked))
def qS(Z:Fx K mg cl):kF P w K mg base cl 5 "sums_over_drops" 4 zl:=by
 have S:Sc ["family","place","asked","each_once","last","sums","person","nearest","other"] (top 58):=by walk_at "s"
 refine fN.ok (Z.d 36 _ rfl) S rfl (λC=>(dg (ff (i:=4) S.nd (dU (BO Z) C (da (dW 0) dz))) (dg (ff (i:=5) S.nd (Pl (gX C) (kM dz) dM)) (dg (i3 .never rfl (hG (dS Z.T (dW 0))) (gb (i:=6) S.nd) (dg (ff (i:=5) S.nd (dU (HB Z) C (da (dW 0) (da (dW 1) (da (dW 5) (da (dW 6) (da (dW 3) dz))))))) (dg (ff (i:=7) S.nd (vG (fK (fI.r (dS Z.T (dW 0))) (dW 6)) (ke (da (dW 6) dz)))) (dn (ff (i:=5) S.nd (dU (BI Z) C (da (dW 5) (da (sS [("other",8)] rfl S.nd S.bk (hG (dW 7)) (λ_ _ _ _ _=>(gb (i:=8) S.nd)) (λ_ _ _ _ _=>(wD (K8.td (CK (gG k5 k6 (m7 (gX C) (pr 4) (dW 8)) (dW 6) (fO _)) (yO (gG SD SK (dW 8) (dW 2) (fO _))))))) (λ_ _ _ _ _=>(dW 8))) dz)))))))) (dn (eK (dW 5))))))) ?_;rintro ds QD ⟨P,L,b,asked,once,rfl,Q,O,hsz,X⟩;have E:=gD Q;have hP:=Q.len;have z:0<L.kinds:=by have:=O.k1;lia
 generalize hw:dp P L (uo b) once asked=w0 at X;unfold dp at hw;rfl';refine⟨P,rfl,Q,?_⟩;rfl';refine⟨Kn [],?_⟩;simp only[iN];rfl';have e0:D.dic true [(D.tup [],D.int 1)]=sP [([],1)]:=rfl;rw[e0];refine fw (α:=Nat) (S:=pO×Jn×Jn) nD (λs=> [some (.val (iN P)),some (.val (fJ L b)),some (.val (U9 asked)),some (.val (.bl once)),some (.val (.dic false (dl nD nD (sY P)))),some (.val (sP s.1)),s.2.1,s.2.2,none])
  (λr s=> ∃d,eV P=d++r/\St P asked d r s.1/\s.1.length<=nY P L d/\r.foldl (pJ P L (uo b) once asked) s.1=w0) ?_ ?_ (eV P) ([([],1)],none,none) ⟨[],rfl,st0,by simp[nY],hw⟩
 .rintro i r ⟨s,j1,j2⟩ ⟨d,he,y,j,n⟩ k hk;simp only at y j n;rw[eT]at n;have hi:i< ~~~P:=E.1.lt i (by rw[he];simp);let⟨U,_⟩:=Hc (L:=L) (ag:=uo b) (once:=once) O.wp E.1 he y (F:=λ_=>0) (λ_ _ _=>rfl);have R: ~~~s*bnd P L i<=nY P L (d++ [i]):=by
   rw[r9];have:nY P L [i]=bnd P L i:=by simp[nY]
   rw[this];exact yx _ j
  have x0:nY P L (d++ [i])<=1000000:=by refine eC ?_ hsz;rw[he,show d++i::r=(d++ [i])++r by simp,r9 P L (d++ [i]) r];exact vg _ (Ur z r)
  have J:(n4 P L (uo b) once s i).length<= ~~~s*bnd P L i:=zR z i s;have g: ∀q∈s,(q.1.map (·.1)).Nodup/\q.1.length<=64/\ ∀x∈par P i,x∈q.1.map (·.1):=by
   intro q p;let⟨Y,a2⟩:=y.row q p;refine⟨Y,?_,?_⟩
   .have:=oK (~~~P) (q.1.map (·.1)) Y (λx f=>E.1.lt x (by rw[he];simp[((a2 x).mp f).1]));simp at this;lia
   .intro x f;exact(a2 x).mpr ⟨E.1.before d r i he x f,.inl ⟨i,by simp,f⟩⟩
  have G: ∀q∈n4 P L (uo b) once s i,q.1.length<=1000:=by intro q p;unfold n4 at p;let⟨(t),ht,p⟩:=g9.mp p;let⟨(u),_,rfl⟩:=dk.mp p;have:=(g t ht).2.1;simp;lia
  simp only[iN];rfl';refine⟨P,L,b,s,i,once,rfl,O,hi,y.nodup,g,by lia,?_⟩;ac_nf;have I:nB (qg P) (i:Int)=some (.lst (hU (par P i))):=qf hi;simp only[nD,I];rfl';have hpl:(par P i).length<=2:=by unfold par;split<;>simp
  refine⟨by rw[jA,dO];lia,?_⟩;have en:hU (par P i)++ [D.int (i:Int)]=(par P i++ [i]).map nD:=by unfold hU;simp[nD]
  rw[en];refine⟨by rw[dO];simp;lia,?_⟩;refine ua nD (λo=>if(decide (gB (sY P) o=some i)&&decide (some o≠asked))=true then some (nD o)else none) (par P i++ [i]) [] (λo H A B h=> ?_) ?_
  .have m: ∃x,gB (sY P) o=some x:=by
    let⟨(x),_,f⟩:=Gr (P:=P) (eV P) [] o ⟨i,by rw[he];simp,by
     rcases gp.mp H with h'|h'
     .exact .inr h'
     .exact .inl (by simpa using h')⟩
    exact⟨x,f⟩
   let⟨(x),f⟩:=m;have v:nV (dl nD nD (sY P)) (nD o)=some (nD x):=by rw[kn (λ_ _=>jI),f];rfl
   ac_nf;refine⟨kP o,_,v,?_⟩;rw[f]at h;rw[nD];by_cases c:x=i
   .have N:(x:Int)=(i:Int):=by lia
    simp only[c,rH,Bool.true_and]at h;simp only[N,rH,jv];cases asked with
    |none=>simp only[U9]at h⊢;simpa [nD]using h
    |some a=>
     simp only[U9,nD]at h⊢;by_cases c2:o=a
     .have l:(o:Int)=(a:Int):=by lia
      simpa [c2,l]using h
     .have l: ¬(o:Int)=(a:Int):=by lia
      simpa [c2,l]using h
   .have N: ¬(x:Int)=(i:Int):=by lia
    have M: ¬(some x=some i):=λe=>c (by injection e);simp only[M,qo,YH,eW,hJ]at h;simp only[N,qo,hJ,eW];exact h
  .rw[jd,tq (λo:Nat=>decide (gB (sY P) o=some i)&&decide (some o≠asked)) nD (par P i++ [i])];rfl';have eg:((par P i++ [i]).filter λo:Nat=>decide (gB (sY P) o=some i)&&decide (some o≠asked))=goes P asked i:=rfl;rw[eg];refine⟨_,goes P asked i,rfl,by lia,G,?_⟩;have ed:mq (n4 P L (uo b) once s i) (goes P asked i)=pJ P L (uo b) once asked s i:=by unfold pJ;rw[CF y.nodup]
   rw[ed];exact hk (pJ P L (uo b) once asked s i,some (.val (nD i)),some (.val (.lst ((par P i++ [i]).map nD)))) ⟨d++ [i],by rw[he];simp,U,by show(pJ P L (uo b) once asked s i).length<=_;rw[<-ed];exact eC (yL _ _) (eC J R),n⟩
 .rintro⟨s,j1,j2⟩ ⟨d,he,y,j,n⟩;have n:s=w0:=n;subst n;rfl';exact X
structure PO(P:du)(L:dQ)(sd:gN):Prop where
 g:Good P
 l:xa L
 z:nY P L (eV P)<=1000000
def aal{P:du}{L:dQ}{ag:Nat->fc->Bool}{once:Bool}{asked:Option Nat}(g:Good P)(e:xa L):(dp P L ag once asked).length<=nY P L (eV P):=by
 have j:=gD g;have a:0<L.kinds:=by have:=e.k1;lia
 have key: ∀(r d:dE) (s:pO),eV P=d++r->St P asked d r s-> ~~~s<=nY P L d->(r.foldl (pJ P L ag once asked) s).length<=nY P L (eV P):=by
  intro r;induction r with
  |nil=>intro d s he _ h;rw[he];simpa using h
  |cons i r ih=>
   intro d s he c f;obtain⟨b,_⟩:=Hc e.wp j.1 he c (F:=λ_=>0) (λ_ _ _=>rfl);refine ih (d++ [i]) _ (by rw[he];simp) b ?_;unfold pJ;rw[CF c.nodup];refine eC (yL _ _) (eC (zR a i s) ?_);rw[r9];have:nY P L [i]=bnd P L i:=by simp[nY]
   rw[this];exact yx _ f
 exact key (eV P) [] _ rfl st0 (by simp[nY])
def Ec:GN:=λds Q=> ∃(P:du) (L:dQ) (b:gN) (a:Nat),ds=[iN P,fJ L b,nD a]/\PO P L b/\a< ~~~P/\Q (ZD (mi P L b a))
def uH(Z:Fx K mg cl):kF P w K mg base cl 6 "sums_by_pair" 3 Ec:=by
 have S:Sc ["family","place","person","by_pair","row","whole"] (top 59):=by walk_at "s"
 refine fN.ok (Z.d 37 _ rfl) S rfl (λB=>(dg (mR (i:=3) S.nd) (dg (tY .never rfl (dU (qS Z) B (da (dW 0) (da (dW 1) (da (dW 2) (da Dx dz))))) (nz (i:=4) (j:=5) rfl S.nd) (dn (mE (i:=3) (gX B) (pv 3) (fK (fI.r (fK (pr 4) dM)) dM) (dW 5)))) (ma 3 (dn (eK (dW 3))))))) ?_;rintro ds M ⟨P,L,o,a,rfl,ok,C,u⟩;have h: ∀q∈dp P L (uo o) false (some a),∃p,q.1=[(a,p)]:=λq x=>Ia ok.g ok.l.wp C x;have hd:=(tF ok.g ok.l.wp o C).1;have s:(dp P L (uo o) false (some a)).length<=1000000:=eC (aal ok.g ok.l) ok.z;unfold mi at u hd;rfl';refine⟨P,L,o,some a,false,rfl,ok.g,ok.l,ok.z,?_⟩;generalize dp P L (uo o) false (some a)=dpl at u hd h s;have c:(dpl.map λq=>((q.1.getD 0 (0,(0,0))).2,q.2)).length<=1000000:=by simpa using s
 generalize hw:(dpl.map λq=>((q.1.getD 0 (0,(0,0))).2,q.2))=w0 at u hd c;unfold sP;rfl';rw[oe];refine fw (α:=BM.Row×Nat) (S:=List (fc×Nat)×Jn×Jn) (λq=> .tup [zZ q.1,nD q.2]) (λt=> [some (.val (iN P)),some (.val (fJ L o)),some (.val (nD a)),some (.od true (dl jX nD t.1)),t.2.1,t.2.2])
  (λy t=>(∀q∈y,∃p,q.1=[(a,p)])/\t.1++y.map (λq=>((q.1.getD 0 (0,(0,0))).2,q.2))=w0) ?_ ?_ dpl ([],none,none) ⟨h,hw⟩
 .rintro⟨row,n⟩ y ⟨b,J,H⟩ ⟨v,m⟩ k hk;let⟨(p),A⟩:=v (row,n) (by simp);simp only at A;subst A;simp only[dt,nT]at m;have I:=pH m hd;have F: ~~~b<1000001:=by rw[<-m]at c;simp at c;lia
  simp only[zZ,tD,dt,jw];rfl';have E:nB [D.tup [nD a,jX p]] (0:Int)=some (D.tup [nD a,jX p]):=jf (n:=0);have G:nB [nD a,jX p] (1:Int)=some (jX p):=jf (n:=1);simp only[E,G];refine⟨D8 p,by rw[mT,dO];lia,?_⟩;have e:=jz (f:=jX) (g:=nD) (λ_ _=>qA) b p n;rw[iI I]at e;have:=hk (b++ [(p,n)],some (.val (zZ [(a,p)])),some (.val (nD n))) ⟨λq x=>v q (by simp[x]),by rw[<-m];simp⟩;rw[<-e]at this;exact this
 .rintro⟨b,J,H⟩ ⟨v,m⟩;have m:b=w0:=by simpa using m
  subst m;rfl';exact u
def w6:GN:=λds Q=> ∃(P:du) (L:dQ) (b:gN) (s:lN) (a:Nat),ds=[iN P,fJ L b,nD a]/\PO P L b/\lP P L b s/\a< ~~~P/\Q (jH (Cd P L s a))
def vI(Z:Fx K mg cl):kF P w K mg base cl 7 "pairs_that_can_be" 3 w6:=by
 have S:Sc ["family","place","person"] (top 60):=by walk_at "s"
 refine fN.ok (Z.d 38 _ rfl) S rfl (λo=>(dn (eK (JQ Z.G.sorted rfl (fI.r (dU (uH Z) o (da (dW 0) (da (dW 1) (da (dW 2) dz))))))))) ?_;rintro ds q ⟨P,L,j,s,a,rfl,ok,R,f,i⟩;have e:0<L.kinds:=by have:=ok.l.k1;lia
 have hd:=(tF ok.g ok.l.wp j f).1;rw[aaC R ok.g e ok.l.wp f]at i;have b:=λp=>W9 R ok.g e ok.l.wp f (p:=p);rfl';refine⟨P,L,j,a,rfl,ok,f,?_⟩;generalize mi P L j a=bp at hd i b;unfold ZD;refine⟨(bp.map (·.1)).map Bu,by unfold dl;rw[dm,dm,dm];rfl,λns m n=> ?_⟩;have:=yU (k:=L.kinds) (c:=λp=>decide (p∈bp.map (·.1))) hd (λp=> ?_) m n
 .rw[this];exact i
 .rw[jL];exact⟨λh=>⟨b p h,h⟩,λh=>h.2⟩
def Kr:GN:=λds Q=> ∃(P:du) (L:dQ) (a:gN),ds=[iN P,fJ L a]/\PO P L a/\Q (nD (lC P L a))
def t7(Z:Fx K mg cl):kF P w K mg base cl 6 "worlds_of" 2 Kr:=by
 have S:Sc ["family","place"] (top 61):=by walk_at "s"
 refine fN.ok (Z.d 39 _ rfl) S rfl (λc=>(dn (eK (ND Z.G.sum rfl (fI.r (dU (qS Z) c (da (dW 0) (da (dW 1) (da oH (da Dx dz)))))))))) ?_;rintro ds e ⟨P,L,b,rfl,ok,a⟩;unfold lC at a;rfl';refine⟨P,L,b,none,true,rfl,ok.g,ok.l,ok.z,?_⟩;generalize dp P L (uo b) true none=dpl at a;refine⟨(dpl.map (·.2)).map λn:Nat=>(n:Int),by unfold dl;rw[dm,dm,dm];rfl,?_⟩;rw[wM];exact a
def zq:GN:=λds Q=> ∃(u l:Nat),ds=[nD u,nD l]/\0<l/\l.log2<9000/\Q (.lst [nD (u/G0 u l),nD (l/G0 u l)])
def xW(Z:Fx K mg cl):kF P w K mg base cl 1 "in_lowest_terms" 2 zq:=by
 have S:Sc ["upper","lower","divisor","rest","shorter"] (top 63):=by walk_at "s"
 refine fN.ok (Z.d 41 _ rfl) S rfl (λt=>(dg (ff (i:=2) S.nd (dW 1)) (dg (ff (i:=3) S.nd (dW 0)) (dg (p5 .never (gG uG nu (dW 3) dM (fO _)) (dg (ff (i:=4) S.nd (Dt (dW 2) (dW 3))) (dg (ff (i:=2) S.nd (dW 3)) (dn (ff (i:=3) S.nd (dW 4)))))) (dn (eK (ke (da (JR (dW 0) (dW 2)) (da (JR (dW 1) (dW 2)) dz))))))))) ?_;rintro ds r ⟨u,l,rfl,h,f,q⟩;ac_nf;refine n8 (λs=> [some (.val (nD u)),some (.val (nD l)),some (.val (nD s.1)),some (.val (nD s.2.1)),s.2.2]) (λs=>0<s.1/\G0 s.2.1 s.1=G0 u l) (λs=>s.2.1) ?_ (l,u,none) ⟨h,rfl⟩;rintro⟨g,a,j⟩ ⟨p,m⟩ k hk;simp only at p m;ac_nf;walk_at "n";simp only[nD];by_cases c:0<a
 .have o:(0:Int)<(a:Int):=by lia
  simp only[o];refine⟨trivial,?_⟩;have:=hk (a,g%a,some (.val (nD (g%a)))) ⟨c,by rw[<-m];show G0 (g%a) a=_;exact(Nat.gcd_rec a g).symm⟩ (by show g%a<a;exact agr _ c);have e:(g:Int)%(a:Int)=((g%a:Nat):Int):=(XI _ _).symm;rw[e];exact this
 .have o: ¬(0:Int)<(a:Int):=by lia
  have c0:a=0:=by lia
  subst c0;rw[Nat.gcd_zero_left]at m;subst m;ac_rfl;have n:=Nat.le_of_dvd h (Nat.gcd_dvd_right u l);have b:((G0 u l:Nat):Int).natAbs.log2<9000:=by rw[Int.natAbs_natCast];rw[aeF (by lia)]at f⊢;exact UY n f
  refine⟨⟨by lia,b⟩,⟨by lia,b⟩,?_⟩;exact q
def vd:GN:=λds Q=> ∃(P:du) (L:dQ) (a:gN) (s:lN),ds=[iN P,fJ L a]/\PO P L a/\lP P L a s/\(a.map (·.1)).Nodup/\ ~~~a<=100000/\Q (U9 (FJ P L s))
def t8(Z:Fx K mg cl):kF P w K mg base cl 7 "first_contradiction" 2 vd:=by
 have S:Sc ["family","place","lowest","highest","middle"] (top 62):=by walk_at "s"
 refine fN.ok (Z.d 40 _ rfl) S rfl (λx=>(dg (iw (gG uG nu (dU (t7 Z) x (da (dW 0) (da (dW 1) dz))) dM (fO _)) (dn (eK oH)) gK) (dg (ff (i:=2) S.nd dM) (dg (ff (i:=3) S.nd (Hx (iC Z.G.len (fI.r (dS Z.T (dW 0)))) dM)) (dg (p5 .never (gG A9 nu (dW 2) (dW 3) (fO _)) (dg (ff (i:=4) S.nd (NG (lH (dW 2) (dW 3)) dM)) (dn (iw (gG uG nu (dU (t7 Z) x (da (dW 0) (da (dU (wY Z) x (da (dW 1) (da (dW 4) dz))) dz))) dM (fO _)) (dn (ff (i:=2) S.nd (lH (dW 4) dM))) (dn (ff (i:=3) S.nd (dW 4))))))) (dn (eK (dW 2)))))))) ?_;rintro ds F ⟨P,L,b,s,rfl,ok,R,hd,v,p⟩;have h:0<L.kinds:=by have:=ok.l.k1;lia
 have E:=ok.g.len;rfl';refine⟨P,L,b,rfl,ok,?_⟩;by_cases c:0<lC P L b
 .have C:(0:Int)<((lC P L b:Nat):Int):=by lia
  ac_rfl;rw[MI ((xM R ok.g h ok.l.wp).mp c)]at p;exact p
 .have C: ¬(0:Int)<((lC P L b:Nat):Int):=by lia
  ac_rfl;let⟨A,B⟩:=B3.start R ok.g h ok.l.wp (by lia);simp only[iN];ac_nf;have m:(((qg P).length:Nat):Int)-1=((~~~P-1:Nat):Int):=by unfold qg;simp;lia
  rw[m];refine n8 (λt=> [some (.val (iN P)),some (.val (fJ L b)),some (.val (nD t.1)),some (.val (nD t.2.1)),t.2.2]) (λt=>B3 P L s t.1 t.2.1) (λt=>t.2.1-t.1) ?_ (0,~~~P-1,none) B;rintro⟨lo,a,j⟩ n k hk;simp only at n;ac_nf;walk_at "n";simp only[nD];by_cases c2:lo<a
  .have u:(lo:Int)<(a:Int):=by lia
   ac_rfl;have o:(lo+a)/2< ~~~P:=by have:=n.lt;lia
   have e:((lo:Int)+(a:Int))/2=(((lo+a)/2:Nat):Int):=by lia
   refine⟨⟨by lia,by lia⟩,?_⟩;rw[e];have q:PO P L (BM.upTo b ((lo+a)/2)):=⟨ok.g,ok.l,ok.z⟩;refine⟨L,b,(lo+a)/2,rfl,hd,v,?_⟩;refine⟨P,L,BM.upTo b ((lo+a)/2),rfl,q,?_⟩;have f:=Rk R ok.g h ok.l.wp o;by_cases c3:0<lC P L (BM.upTo b ((lo+a)/2))
   .have y:(0:Int)<((lC P L (BM.upTo b ((lo+a)/2)):Nat):Int):=by lia
    ac_rfl;exact hk ((lo+a)/2+1,a,some (.val (nD ((lo+a)/2)))) (n.up c2 (f.mp c3)) (by show a-((lo+a)/2+1)<a-lo;lia)
   .have y: ¬(0:Int)<((lC P L (BM.upTo b ((lo+a)/2)):Nat):Int):=by lia
    ac_rfl;refine hk (lo,(lo+a)/2,some (.val (nD ((lo+a)/2)))) (n.down c2 ?_) (by show(lo+a)/2-lo<a-lo;lia);cases ea:Ag P L s ((lo+a)/2)with
    |false=>rfl
    |true=>exact absurd (f.mpr ea) c3
  .have u: ¬(lo:Int)<(a:Int):=by lia
   ac_rfl;rw[n.done c2]at p;exact p
def chD(o:Option (Nat×Nat)):D:=match o with
 |none=> .non
 |some x=> .lst [nD x.1,nD x.2]
def Kw:GN:=λds Q=> ∃(P:du) (L:dQ) (b:gN) (s:lN) (a:Nat) (l:dE),ds=[iN P,fJ L b,nD a,.lst (hU l)]/\PO P L b/\lP P L b s/\a< ~~~P/\ ~~~l%2=0/\ ~~~l<=100000/\(rM P L (rN P L s)).log2<9000/\Q (chD (AW P L s a (iV l)))
def HF(Z:Fx K mg cl):kF P w K mg base cl 7 "chance_of" 4 Kw:=by
 have S:Sc ["family","place","person","numbers","by_pair","whole","part","pair"] (top 64):=by walk_at "s"
 refine fN.ok (Z.d 42 _ rfl) S rfl (λk=>(dg (ff (i:=4) S.nd (dU (uH Z) k (da (dW 0) (da (dW 1) (da (dW 2) dz))))) (dg (ff (i:=5) S.nd (ND Z.G.sum rfl (pr 4))) (dg (iw (gG k5 k6 (dW 5) dM (fO _)) (dn (eK oH)) gK) (dg (ff (i:=6) S.nd (Ds Z.G.sum rfl (by decide+kernel) (fI.r (sS [("pair",7)] rfl S.nd S.bk (hG (dU (Ba Z) k (da (dW 1) (da (dW 3) dz)))) (λ_ _ _ _ _=>(gb (i:=7) S.nd)) (λ_ _ _ _ _=>mK) (λ_ _ _ _ _=>(yZ (gX k) (pr 4) (dW 7) dM)))))) (dn (eK (dU (xW Z) k (da (dW 6) (da (dW 5) dz)))))))))) ?_;rintro ds C ⟨P,L,q,s,a,l,rfl,ok,R,t,v,m,b,f⟩;have h:0<L.kinds:=by have:=ok.l.k1;lia
 have j:=CG R ok.g h ok.l.wp t;have e:=We R ok.g h ok.l.wp t (iV l) (kept:=gC L (iV l)) (zy _ _) (λp=>by unfold gC;rw[eX];simp);unfold AW at f;simp only at f;rfl';refine⟨P,L,q,a,rfl,ok,t,?_⟩;generalize mi P L q a=bp at j e;unfold ZD;ac_nf;walk_at "n";refine⟨(bp.map (·.2)).map λn:Nat=>(n:Int),by unfold dl;rw[dm,dm,dm];rfl,?_⟩;rw[wM,j];generalize rM P L (rN P L s)=wh at f b;by_cases c:wh=0
 .have y:(wh:Int)=0:=by lia
  ac_rfl;rw[dq c]at f;exact f
 .have y: ¬(wh:Int)=0:=by lia
  ac_rfl;rw[di c]at f;refine⟨L,q,l,rfl,v,m,?_⟩;unfold jH;have o:(gC L (iV l)).length<=1000:=by
   unfold gC;refine eC (iB _ _) ?_;have u:=ok.l.k8;have:(il L.kinds).length<=L.kinds*L.kinds:=by
    unfold il;rw[kE];simp only[dA];have: ∀l:List Nat,(l.map λ_=>L.kinds).sum<= ~~~l*L.kinds:=by
     intro l;induction l with
     |nil=>simp
     |cons x l ih=>simp[oX];lia
    simpa using this (eE L.kinds)
   have E:=kh u u;lia
  generalize gC L (iV l)=kp at e o;refine⟨by rw[dO];simp;lia,?_⟩;refine mM jX (λp=>nD ((gB bp p).getD 0)) kp (λp B A z=> ?_) ?_
  .rfl';refine⟨D8 p,?_⟩;rw[NV];exact z
  .rfl';refine⟨(kp.map λp=>(gB bp p).getD 0).map λn:Nat=>(n:Int),by rw[dm,dm];rfl,?_⟩;rw[wM,e];exact⟨_,wh,rfl,by lia,b,f⟩
def plD(d:dE):D:= .dic false (dl nD D.bl (d.map λi=>(i,true)))
def WO(d:dE)(i:Nat):(gB (d.map λi=>(i,true)) i).isSome=d.contains i:=by
 induction d with
 |nil=>rfl
 |cons x d ih=>
  rw[dt,gV];by_cases h:x=i
  .simp[h]
  .simp[h,ih,gk h]
def Re(d:dE)(i:Nat):(nV (dl nD D.bl (d.map λi=>(i,true))) (nD i)).isSome=d.contains i:=by
 rw[kn (λ_ _=>jI),<-WO]
 simp_all
def okN(P:du)(d:dE)(i:Nat):Bool:= !d.contains i&&(par P i).all λq=>d.contains q
def Pz{P:du}{d:dE}{i:Nat}(h:next P d=some i):i< ~~~P/\okN P d i=true/\ ∀j,j<i->okN P d j=false:=by
 have e:=EV h;have g:=eO.mp (sL h);refine⟨g,e,λj k=> ?_⟩;let⟨as m,he,f⟩:=List.find?_eq_some_iff_append.mp h|>.2;cases hc:okN P d j with
 |false=>rfl
 |true=>
  have a:j∈as:=by
   have l: ~~~as=i:=by
    have b:(eE (~~~P))[~~~as]?=some i:=by rw[he];simp
    rw[l6 (by rw[<-pj (n:= ~~~P),he];simp)]at b;exact ft b
   have c:(eE (~~~P))[j]?=some j:=l6 (by lia);rw[he,fU (by lia)]at c;exact eS c
  have:=f j a;unfold okN at hc;rw[hc]at this;simp at this
def zo:GN:=λds Q=> ∃(P:du) (d:dE) (i:Nat),ds=[.lst (qg P),plD d]/\next P d=some i/\ ~~~P<=64/\Q (nD i)
def xU(Z:Fx K mg cl):kF P w K mg base cl 1 "lowest_to_place" 2 zo:=by
 have S:Sc ["parents","placed","person","parent"] (top 68):=by walk_at "s"
 refine fN.ok (Z.d 44 _ rfl) S rfl (λm=>(dg (ff (i:=2) S.nd dM) (dg (p5 .never (K8.td (Ni (Ha (gX m) (dW 2) (pr 1)) (G8 (LH (nq (Sy Z.G.all rfl (by decide+kernel) (fI.r (sS [("parent",3)] rfl S.nd S.bk (hG (fK (pr 0) (dW 2))) (λ_ _ _ _ _=>(gb (i:=3) S.nd)) (λ_ _ _ _ _=>mK) (λ_ _ _ _ _=>(Sv (gX m) (dW 3) (pr 1))))))))))) (dn (wH (i:=2) S.nd dM))) (dn (eK (dW 2)))))) ?_;rintro ds z ⟨P,b,i,rfl,l,y,v⟩;let⟨B,f,e⟩:=Pz l;simp only[plD];ac_nf;refine n8 (λs=> [some (.val (.lst (qg P))),some (.val (plD b)),some (.val (nD s.1)),s.2]) (λs=>s.1<=i) (λs=>i-s.1) ?_ (0,none) (by simp);rintro⟨p,j⟩ o k hk;simp only at o;have hpl:p< ~~~P:=by lia
 have a:okN P b p=false->k [some (.val (.lst (qg P))),some (.val (plD b)),some (.val (.int ((p:Int)+1))),j]:=by
  intro n;have g:p≠i:=by rintro rfl;rw[f]at n;cases n
  exact hk (p+1,j) (by show p+1<=i;lia) (by show i-(p+1)<i-p;lia)
 simp only[plD];ac_nf;refine⟨kP p,?_⟩;rw[Re];unfold okN at a f e;by_cases c:b.contains p=true
 .ac_rfl;exact a (by rw[c];rfl)
 .ac_rfl;simp only[nD,qf hpl];refine⟨by rw[jA,dO];have:(par P p).length<=2:=(by unfold par;split<;>simp);lia,?_⟩;refine mM nD (λq=> .bl (b.contains q)) (par P p) (λq x A u=> ?_) ?_
  .ac_nf;refine⟨kP q,?_⟩;rw[Re];exact u
  .ac_nf;refine⟨(par P p).map λq=>b.contains q,by rw[dm];rfl,?_⟩;have t:((par P p).map λq=>b.contains q).all id=(par P p).all λq=>b.contains q:=by rw[Lq];rfl
   rw[t];by_cases c2:((par P p).all λq=>b.contains q)=true
   .rw[c2];have h:p=i:=by apply dP;intro g;have:=e p (by lia);simp only[c,c2]at this;simp at this
    subst h;exact v
   .simp only[c2];exact a (by simp only[c2];simp)
def rA:GN:=λds Q=> ∃P:du,ds=[.lst (qg P)]/\Good P/\Q (.lst (hU (eV P)))
def qT(Z:Fx K mg cl):kF P w K mg base cl 2 "parents_before_children" 1 rA:=by
 have S:Sc ["parents","placed"] (top 67):=by walk_at "s"
 refine fN.ok (Z.d 43 _ rfl) S rfl (λo=>(dg (yV (i:=1) S.nd) (dg (p5 .never (gG A9 nu (iC Z.G.len (pr 1)) (iC Z.G.len (pr 0)) (fO _)) (dn (mE (gX o) (pv 1) (Dv Z.T (xU Z) o (qC (fI.l (dW 0)) (qC (pl 1) MX))) Dx))) (dn (eK (So Z.G.list rfl (pr 1))))))) ?_;rintro ds z ⟨P,rfl,p,u⟩;have s:=p.len;ac_nf;refine n8 (λd=> [some (.val (.lst (qg P))),some (.od false (dl nD D.bl (d.map λi=>(i,true))))]) (λd=>Ord P d/\ ~~~d<= ~~~P/\grow P (~~~P- ~~~d) d=eV P) (λd=> ~~~P- ~~~d) ?_ [] ⟨Ord.nil,by simp,rfl⟩;rintro d ⟨y,A,a⟩ k hk;rfl';have q:(qg P).length= ~~~P:=by unfold qg;simp
 rw[mT,q];rw[dA];by_cases c: ~~~d< ~~~P
 .have t:(~~~d:Int)<(~~~P:Int):=by lia
  ac_rfl;have b: ∃x,x< ~~~P/\x∉d:=by apply dP;intro r;have f:=λx b=>dP λv=>r ⟨x,eO.mp b,v⟩;have h:=gZ.length_le_of_subset (ES.mpr λ{x} b=>f x b);simp at h;lia
  let⟨(x),b,j⟩:=b;let⟨(i),m⟩:=Aq p b j;let⟨f,n,h⟩:=Ap m;refine⟨P,d,i,rfl,m,s,Ny i,⟨_,rfl⟩,by rw[dO];lia,?_⟩;have e:=jz (g:=D.bl) (λ_ _=>jI) (d.map λi=>(i,true)) i true;rw[iI (by rw[dm];simpa using n)]at e;have:=hk (d++ [i]) ⟨y.snoc f n h,by simp;lia,by rw[<-a,show ~~~P- ~~~d=(~~~P-(d++ [i]).length)+1 by simp;lia,GB m]⟩ (by simp;lia);simp only[jF,dt,jw,<-e]at this;exact this
 .have t: ¬(~~~d:Int)<(~~~P:Int):=by lia
  ac_rfl;have: ~~~P- ~~~d=0:=by lia
  rw[this]at a;have a:=a;subst a;simpa [dl,hU,jZ]using u
theorem ahn:j7 "oldest_first" (fl 3) [a,b,c,d]=some d:=rfl
def Mo:Stmt:=ny (top 66)
def Tn:UJ:=λds Q=> ∃P:du,ds=[.lst (me P),.lst (Ju P),.lst (qg P)]/\Good P/\Q [.lst (me P),.lst (Ju P),.lst (qg P),.lst (hU (eV P)),.lst (hU (j6 P))]
def Pu(Z:Fx K mg cl):Xj P w K mg base cl 3 3 3 "Family" Tn:=by
 let⟨f j,F,d,M,g⟩:=Z.c 3 _ rfl;have S:Sc ["self","names","sexes","parents"] Mo:=by walk_at "s"
 refine ue F d M (by decide) g S rfl (λb A outer s H E h=>(dg (lG Z.T (pv 0) (dW 1)) (dg (lG Z.T (pv 0) (dW 2)) (dg (lG Z.T (pv 0) (dW 3)) (dg (lG Z.T (pv 0) (dU (qT Z) h (da (dW 3) dz))) (dn (lG Z.T (pv 0) (L1 Z.G.list Z.G.reversed rfl (fI.r (NF Z.T (pr 0))))))))))) ?_;intro q ds k l a;let⟨(P),rfl,i,a⟩:=a;rfl';refine⟨P,rfl,i,?_⟩;refine⟨_,rfl,rfl,?_⟩;have e:(hU (eV P)).reverse=hU (j6 P):=by unfold hU j6;rw[List.map_reverse]
 simp_all
def NT(st:mV)(q:Nat):(nV (dl nD nD st) (nD q)).isSome=pF st q:=by
 rw[kn (λ_ _=>jI)];cases e:gB st q with
 |none=>
  have:=qI.mp e;cases h:pF st q with
  |false=>rfl
  |true=>
   let⟨(v),a⟩:=nX.mp h
   simp_all
 |some v=>
  have:=nX.mpr ⟨v,zi e⟩
  simp_all
def WK{st:mV}{q:Nat}(h:pF st q=false):q∉st.map (·.1):=by
 intro a;let⟨(p),b,e⟩:=dk.mp a;have:=nX.mpr ⟨p.2,show(q,p.2)∈st by rw[<-e];exact b⟩
 grind
def AA:GN:=λds Q=> ∃(P:du) (s:Nat),ds=[.lst (qg P),nD s]/\(∀i q,q∈par P i->q< ~~~P)/\s< ~~~P/\ ~~~P<=64/\Q (.dic false (dl nD nD (GK P s)))
def oI(Z:Fx K mg cl):kF P w K mg base cl 1 "least_steps_up" 2 AA:=by
 have S:Sc ["parents","person","steps","reached","at","lower","parent"] (top 69):=by walk_at "s"
 refine fN.ok (Z.d 45 _ rfl) S rfl (λO=>(dg (RN (i:=2) S.nd (dW 1) dM) (dg (qz (i:=3) S.nd (da (dW 1) dz)) (dg (ff (i:=4) S.nd dM) (dg (p5 .never (gG A9 nu (dW 4) (iC Z.G.len (pr 3)) (fO _)) (dg (ff (i:=5) S.nd (fK (pr 3) (dW 4))) (dg (i3 .never rfl (hG (fK (pr 0) (dW 5))) (gb (i:=6) S.nd) (dn (iw (O0 (gX O) (dW 6) (pr 2)) (dg (mE (gX O) (pv 2) (dW 6) (lH (m7 (gX O) (pr 2) (dW 5)) dM)) (dn (vB (pv 3) (dW 6)))) gK))) (dn (wH (i:=4) S.nd dM))))) (ma 2 (dn (eK (dW 2))))))))) ?_;rintro ds QD ⟨P,s,rfl,I,hs,hP,T⟩;generalize hw:GK P s=w0 at T;have X:Bf P s [(s,0)] 0:=by
  refine⟨by simp,by simpa using hs,by simp,by simp[Up],by simp,?_,?_,λj p hj=>by lia⟩
  .intro j p e;have:=eS e;simp at this;rw[this];exact kW _
  .intro p _ q Q;simp at Q;rw[Q];exact kW _
 rfl';refine⟨_,rfl,?_⟩;refine n8 (λt=> [some (.val (.lst (qg P))),some (.val (nD s)),some (.od false (dl nD nD t.1)),some (.ol (hU (t.1.map (·.1)))),some (.val (nD t.2.1)),t.2.2.1,t.2.2.2]) (λt=>Bf P s t.1 t.2.1/\t.2.1<=t.1.length/\ ∃k,~~~P+1<=k+t.2.1/\oQ P k t.1 t.2.1=w0) (λt=> ~~~P+1-t.2.1) ?_ ([(s,0)],0,none,none) ⟨X,by simp,~~~P+1,by simp,hw⟩;rintro⟨st,i,j1,C⟩ ⟨B,M,f,hf,u⟩ k hk;simp only at B M hf u;have x0: ~~~st<= ~~~P:=by have:=oK (~~~P) _ B.nodup (λx m=>by let⟨(p),H,rfl⟩:=dk.mp m;exact B.lt p H);simpa using this
 ac_nf;walk_at "n";simp only[nD,jA,dA];by_cases c:i< ~~~st
 .have R:(i:Int)<(~~~st:Int):=by lia
  ac_rfl;have m:=df c;obtain⟨x,dd⟩: ∃x,x=st[i]:=⟨_,rfl⟩;rw[<-dd]at m;have J:=B.lt x (eS m);have N:nB (hU (st.map (·.1))) (i:Int)=some (nD x.1):=lS (by rw[dX,m];rfl);rw[N];simp only[nD,qf J];cases f with
  |zero=>lia
  |succ f=>
   have z:oQ P f (xA P st x.1 x.2) (i+1)=w0:=by unfold oQ at u;rw[m]at u;exact u
   have l:=KW I B m;have b:=Bo B.nodup (eS m);have h:i+1<=(xA P st x.1 x.2).length:=by have:=(vZ x.2 (par P x.1) st).length_le;unfold xA;lia
   have r:(xA P st x.1 x.2).length<= ~~~P:=by have:=oK (~~~P) _ l.nodup (λy hy=>by let⟨(p),H,rfl⟩:=dk.mp hy;exact l.lt p H);simpa using this
   generalize a:xA P st x.1 x.2=st2 at z l h r;unfold xA at a;refine fw nD (λt=> [some (.val (.lst (qg P))),some (.val (nD s)),some (.od false (dl nD nD t.1)),some (.ol (hU (t.1.map (·.1)))),some (.val (nD i)),some (.val (nD x.1)),t.2])
    (λF t=>gB t.1 x.1=some x.2/\F.foldl (BF x.2) t.1=st2) ?_ ?_ (par P x.1) (st,C) ⟨b,a⟩
   .rintro q F ⟨t,C⟩ ⟨b,a⟩ k2 A;simp only at b a;rw[eT]at a;have U: ~~~t<=64:=by have h1:=(JE x.2 t q).length_le;have Y:=(vZ x.2 F (BF x.2 t q)).length_le;rw[a]at Y;lia
    rfl';refine⟨kP q,?_⟩;rw[NT];unfold BF at a;by_cases c2:pF t q=true
    .rw[c2]at a⊢;exact A (t,some (.val (nD q))) ⟨b,a⟩
    .have o:pF t q=false:=by simpa using c2
     rw[o]at a⊢;have n:=WK o;have v:nV (dl nD nD t) (nD x.1)=some (nD x.2):=by rw[kn (λ_ _=>jI),b];rfl
     refine⟨kP x.1,_,v,?_⟩;simp only[nD];refine⟨⟨_,rfl⟩,by rw[mT,dO];lia,by rw[jA,dO];simp;lia,?_⟩;have e:=jz (f:=nD) (g:=nD) (λ_ _=>jI) t q (x.2+1);rw[iI n]at e;have E:q≠x.1:=by rintro rfl;exact n (dk.mpr ⟨_,zi b,rfl⟩)
     have:=A (t++ [(q,x.2+1)],some (.val (nD q))) ⟨by rw[<-iI n,tm,di E];exact b,a⟩;simp only[<-e]at this;simpa [hU,nD]using this
   .rintro⟨t,C⟩ ⟨_,a⟩;have a:=a;subst a;ac_nf;exact hk (t,i+1,some (.val (nD x.1)),C) ⟨l,h,f,by show ~~~P+1<=f+(i+1);lia,z⟩ (by show ~~~P+1-(i+1)< ~~~P+1-i;lia)
 .have R: ¬(i:Int)<(~~~st:Int):=by lia
  simp only[R];have:st=w0:=by
   rw[<-u];cases f with
   |zero=>rfl
   |succ f=>unfold oQ;rw[lx (by lia)]
  subst this;exact T
def zp:GN:=λds Q=> ∃(P:du) (i:Nat),ds=[.lst (qg P),nD i]/\(∀i q,q∈par P i->q< ~~~P)/\i< ~~~P/\ ~~~P<=64/\Q (.bl (D5 P i))
def xV(Z:Fx K mg cl):kF P w K mg base cl 2 "is_own_forebear" 2 zp:=by
 have S:Sc ["parents","person","parent"] (top 70):=by walk_at "s"
 refine fN.ok (Z.d 46 _ rfl) S rfl (λb=>(dn (eK (Sx Z.G.any rfl (by decide+kernel) (fI.r (sS [("parent",2)] rfl S.nd S.bk (hG (fK (pr 0) (dW 1))) (λ_ _ _ _ _=>(gb (i:=2) S.nd)) (λ_ _ _ _ _=>mK) (λ_ _ _ _ _=>(Sv (gX b) (dW 1) (fI.r (dU (oI Z) b (da (dW 0) (da (dW 2) dz)))))))))))) ?_;rintro ds k ⟨P,i,rfl,a,f,g,c⟩;unfold D5 at c;rfl';simp only[nD,qf f];refine⟨by rw[jA,dO];have:(par P i).length<=2:=(by unfold par;split<;>simp);lia,?_⟩;refine mM nD (λq=> .bl (pF (GK P q) i)) (par P i) (λq h A j=> ?_) ?_
 .rfl';refine⟨P,q,rfl,a,a i q h,g,?_⟩;refine⟨kP i,?_⟩;have:=NT (GK P q) i;simp only[nD]at this;rw[this];exact j
 .rfl';refine⟨(par P i).map λq=>pF (GK P q) i,by rw[dm];rfl,?_⟩;have e:((par P i).map λq=>pF (GK P q) i).any id=(par P i).any λq=>pF (GK P q) i:=by rw[BB];rfl
  rw[e];exact c
def IJ(b:gT):D:= .tup (b.map bD)
def tX(h:IJ a=IJ b):a=b:=by unfold IJ at h;injection h with h;exact Oi.mp h
def QT(o:Option (Int×Nat)):D:=match o with
 |none=> .non
 |some x=> .tup [.int x.1,nD x.2]
theorem oP(x:LineM):kz x= .obj 1 [.obj 0 [nD x.name.1,IJ x.name.2],mh x.man,.lst (x.parents.map k4)]:=rfl
def YK(b:List gT)(k:gT):(nV (dl IJ D.bl (b.map λx=>(x,true))) (IJ k)).isSome=decide (k∈b):=by
 rw[kn (λ_ _=>tX)];induction b with
 |nil=>simp[gB]
 |cons x b ih=>
  rw[dt,gV]
  grind
def Ed:GN:=λds Q=> ∃a:List LineM,ds=[.lst (a.map kz)]/\ ~~~a<=100000/\Q (QT (rV 0 [] a))
def BJ(Z:Fx K mg cl):kF P w K mg base cl 1 "person_fault" 1 Ed:=by
 have S:Sc ["lines","earlier","number","line"] (top 79):=by walk_at "s"
 refine fN.ok (Z.d 48 _ rfl) S rfl (λq=>(dg (mR (i:=1) S.nd) (dg (i3 .never rfl (uf Z.G.enumerate (dW 0)) (nz (i:=2) (j:=3) rfl S.nd) (dg (iw (gG k5 k6 (dW 2) (iy Z.G.bI) (fO _)) (dn (eK (kM (da (iy Z.G.bK) (da (dS Z.T (dS Z.T (dW 3))) dz))))) gK) (dg (iw (Ha (gX q) (dS Z.T (dS Z.T (dW 3))) (pr 1)) (dn (eK (kM (da (iy Z.G.bW) (da (dS Z.T (dS Z.T (dW 3))) dz))))) gK) (dn (mE (gX q) (pv 1) (dS Z.T (dS Z.T (dW 3))) Dx))))) (dn (eK oH))))) ?_;rintro ds z ⟨h,rfl,u,b⟩;generalize hw:rV 0 [] h=w0 at b;rfl';rw[pI];refine fw (λp=> .tup [nD p.2,kz p.1]) (λs=> [some (.val (.lst (h.map kz))),some (.od true (dl IJ D.bl (s.1.map λx=>(x,true)))),s.2.1,s.2.2])
  (λt s=> ∃n r,t=r.zipIdx n/\s.1.length=n/\n+ ~~~r<=100000/\rV n s.1 r=w0) ?_ ?_ h.zipIdx ([],none,none) ⟨0,h,rfl,rfl,by lia,hw⟩
 .rintro x t ⟨a,y,v⟩ ⟨n,r,c,m,f,he⟩ k hk;cases r with
  |nil=>cases c
  |cons l r=>
   rw[jT]at c;cases c;simp only[dB]at m he f;unfold rV at he;rw[oP];ac_nf;walk_at "n";rw[nD];by_cases c1:n=64
   .have o:(n:Int)=64:=by lia
    ac_rfl;rw[dq c1]at he;rw[<-he]at b;exact b
   .have o: ¬(n:Int)=64:=by lia
    ac_rfl;rw[di c1]at he;refine⟨sZ l.name.2,?_⟩;rw[YK];by_cases c2:l.name.2∈a
    .simp only[c2];rw[dq c2]at he;rw[<-he]at b;exact b
    .simp only[c2];rw[di c2]at he;refine⟨sZ l.name.2,by rw[mT,dO];simp;lia,?_⟩;have e:=jz (g:=D.bl) (λ_ _=>tX) (a.map λx=>(x,true)) l.name.2 true;rw[iI (by rw[dm];simpa using c2)]at e;have:=hk (a++ [l.name.2],some (.val (nD n)),some (.val (kz l))) ⟨n+1,r,rfl,by simp[m],by lia,he⟩;simp only[jF,dt,jw,<-e]at this;exact this
 .rintro⟨a,y,v⟩ ⟨n,r,c,m,f,he⟩;cases r with
  |cons l r=>rw[jT]at c;cases c
  |nil=>have he:=he;rw[<-he]at b;exact b
def Ee:GN:=λds Q=> ∃a:List LineM,ds=[.lst (a.map kz)]/\ ~~~a<=100000/\(a.map λx=>x.name.2).Nodup/\(∀x∈a,~~~x.parents<=2)/\Q (QT (pU (mC a) a))
def Q9{l:List xB}:Lw (l.map k4) [D.int 1,D.int 0]=(l.zip [true,false]).map λp=> .tup [k4 p.1,mh p.2]:=by
 unfold Lw
 match l with
 | []=>rfl
 | [a]=>rfl
 |a::b::r=>simp[mh]
def BK(Z:Fx K mg cl):kF P w K mg base cl 1 "parent_fault" 1 Ee:=by
 have S:Sc ["lines","sexes","line","word","sex"] (top 80):=by walk_at "s"
 refine fN.ok (Z.d 49 _ rfl) S rfl (λM=>(dg (mR (i:=1) S.nd) (dg (i3 .never rfl (hG (dW 0)) (gb (i:=2) S.nd) (dn (mE (gX M) (pv 1) (dS Z.T (dS Z.T (dW 2))) (dS Z.T (dW 2))))) (dg (i3 .never rfl (hG (dW 0)) (gb (i:=2) S.nd) (dn (i3 .never rfl (Z6 Z.G.zip (dS Z.T (dW 2)) (kM (da (iy Z.G.cT) (da (iy Z.G.cy) dz)))) (nz (i:=3) (j:=4) rfl S.nd) (dn (iw (gG SD SK (V8 (gX M) (pr 1) (dS Z.T (dW 3))) (dW 4) (fO _)) (dn (eK (kM (da (iy Z.G.bR) (da (dS Z.T (dW 3)) dz))))) gK))))) (dn (eK oH)))))) ?_;rintro ds X ⟨n,rfl,B,E,H,t⟩;generalize hw:pU (mC n) n=w0 at t;ac_nf;have r:(mC n).length<=100000:=by unfold mC;simpa using B
 have z:((mC n).map (·.1)).Nodup:=by unfold mC;rw[dm];exact E
 generalize hsx:mC n=l at hw r z;refine fw kz (λs=> [some (.val (.lst (n.map kz))),some (.od true (dl IJ mh s.1)),s.2.1,s.2.2.1,s.2.2.2])
  (λm s=>s.1++mC m=l) ?_ ?_ n ([],none,none,none) hsx
 .rintro x m ⟨a,A,q,o⟩ he k hk;have he:a++(x.name.2,x.man)::mC m=l:=he;have U:=pH he z;have O: ~~~a<=100000:=by rw[<-he]at r;simp at r;lia
  simp only[oP];refine⟨sZ x.name.2,by rw[mT,dO];lia,?_⟩;have e:=jz (g:=mh) (λ_ _=>tX) a x.name.2 x.man;rw[iI U]at e;have:=hk (a++ [(x.name.2,x.man)],some (.val (kz x)),q,o) (by show(a++ [(x.name.2,x.man)])++mC m=l;rw[<-he];simp);rw[<-e]at this;exact this
 .rintro⟨a,A,q,o⟩ he;have he:a=l:=by simpa [mC]using he
  subst he;refine fw kz (λs=> [some (.val (.lst (n.map kz))),some (.od true (dl IJ mh a)),s.1,s.2.1,s.2.2])
   (λm s=>(∀x∈m,~~~x.parents<=2)/\pU a m=w0) ?_ ?_ n (A,q,o) ⟨H,hw⟩
  .rintro x m ⟨A,q,o⟩ ⟨C,u⟩ k hk;unfold pU at u;have I:=C x (by simp);simp only[oP];rfl';refine⟨by simpa using I,?_⟩;rw[Q9];refine fw (λp=> .tup [k4 p.1,mh p.2]) (λs=> [some (.val (.lst (n.map kz))),some (.od true (dl IJ mh a)),some (.val (kz x)),s.1,s.2])
    (λF s=>(match Ey a F with|some k=>some k|none=>pU a m)=w0) ?_ ?_ (x.parents.zip [true,false]) (q,o) u
   .rintro⟨h,l⟩ F ⟨q,o⟩ f Y J;unfold Ey at f;simp only[k4];ac_nf;walk_at "n";refine⟨sZ h.2,?_⟩;have v:nV (dl IJ mh a) (IJ h.2)=(gB a h.2).map mh:=kn (λ_ _=>tX) a h.2;have N:nV (dl IJ mh a) (D.tup (xI bD h.2))=(gB a h.2).map mh:=v;rw[N];cases eg:gB a h.2 with
    |none=>
     rw[eg]at f;ac_rfl;have f:some ((-5:Int),h.1)=w0:=by simpa using f
     rw[<-f]at t;exact t
    |some b=>
     rw[eg]at f;simp only[qu,Option.getD_some,mh];have Q:((if b=true then 1 else 0:Int)=(if l=true then 1 else 0:Int))=(b=l):=by rw[M8];cases b<;>cases l<;>decide
     simp only[Q];by_cases c:b=l
     .simp only[c];have f:(match Ey a F with|some k=>some k|none=>pU a m)=w0:=by simpa [c]using f
      exact J (some (.val (k4 h)),some (.val (mh l))) f
     .simp only[c];have f:some ((-5:Int),h.1)=w0:=by simpa [c]using f
      rw[<-f]at t;exact t
   .rintro⟨q,o⟩ f;exact hk (some (.val (kz x)),q,o) ⟨λy R=>C y (by simp[R]),f⟩
  .rintro⟨A,q,o⟩ ⟨C,u⟩;have u:=u;rfl';rw[<-u]at t;exact t
def Gk(h:lQ ls): ~~~ls<=64:=by
 rcases uK ls [] h.one with a|a
 .simpa using a
 .rw[a];simp
def SM(h:lQ ls):((ls.map qG).map λx=>x.name.2).Nodup:=by rw[dm];exact h.names
def A3(x:FM):(qG x).parents.length<=2:=by unfold qG;cases x.parents<;>simp
def E9(h:lQ ls)(g:x∈ls.map qG)(a:wd∈x.parents): ∃i,gB (nJ (ls.map qG)) wd.2=some i:=by
 let⟨(y),k,rfl⟩:=dk.mp g;rw[Bc];unfold qG at a;cases hp:y.parents with
 |none=>rw[hp]at a;simp at a
 |some p=>
  rw[hp]at a;let⟨b,d⟩:=pA h.two y k p hp;let⟨e l,j,_,_⟩:=wU b;let⟨c m,f,_,_⟩:=wU d;simp at a;rcases a with rfl|rfl
  .exact⟨e,j⟩
  .exact⟨c,f⟩
def w4:GN:=λds Q=> ∃a:List FM,ds=[.lst ((a.map qG).map kz)]/\lQ a/\Q (.lst (qg (ik a)))
def p8(Z:Fx K mg cl):kF P w K mg base cl 1 "parents_by_number" 1 w4:=by
 have S:Sc ["lines","numbers","number","line","parents","word"] (top 82):=by walk_at "s"
 refine fN.ok (Z.d 51 _ rfl) S rfl (λhr=>(dg (mR (i:=1) S.nd) (dg (i3 .never rfl (uf Z.G.enumerate (dW 0)) (nz (i:=2) (j:=3) rfl S.nd) (dn (mE (gX hr) (pv 1) (dS Z.T (dS Z.T (dW 3))) (dW 2)))) (dg (qz (i:=4) S.nd dz) (dg (i3 .never rfl (hG (dW 0)) (gb (i:=3) S.nd) (dn (vB (pv 4) (sS [("word",5)] rfl S.nd S.bk (hG (dS Z.T (dW 3))) (λ_ _ _ _ _=>(gb (i:=5) S.nd)) (λ_ _ _ _ _=>mK) (λ_ _ _ _ _=>(m7 (gX hr) (pr 1) (dS Z.T (dW 5)))))))) (ma 4 (dn (eK (dW 4))))))))) ?_;rintro ds QD ⟨u,rfl,f,hg⟩;have H:=Gk f;have B:=SM f;have C: ∀x∈u.map qG,~~~x.parents<=2:=λx o=>by let⟨(y),_,rfl⟩:=dk.mp o;exact A3 y
 have m: ∀x∈u.map qG,∀b∈x.parents,∃i,gB (nJ (u.map qG)) b.2=some i:=λx o b O=>E9 f o O;have F:=JT u;have h:(u.map qG).length<=64:=by simpa using H
 generalize u.map qG=ms at B C m F h;have c:QD (.lst ((sT ms).map λr=> .lst (hU r))):=by rw[F,dm];exact hg
 rfl';have z:((nJ ms).map (·.1)).Nodup:=by
  unfold nJ;rw[dm];have e:(ms.zipIdx.map ((λx=>x.1)∘λq:LineM×Nat=>(q.1.name.2,q.2)))=ms.map λx=>x.name.2:=by have:((λx:gT×Nat=>x.1)∘λq:LineM×Nat=>(q.1.name.2,q.2))=(λx:LineM=>x.name.2)∘Prod.fst:=rfl;rw[this,<-dm,List.zipIdx_map_fst]
  rw[e];exact B
 generalize hnm:nJ ms=nm at m z;have E: ~~~nm<=64:=by rw[<-hnm];unfold nJ;simpa using h
 unfold sT at c;rw[hnm]at c;unfold nJ at hnm;rw[pI];refine fw (λp=> .tup [nD p.2,kz p.1]) (λs=> [some (.val (.lst (ms.map kz))),some (.od true (dl IJ nD s.1)),s.2.1,s.2.2.1,s.2.2.2.1,s.2.2.2.2])
  (λl s=>s.1++l.map (λq=>(q.1.name.2,q.2))=nm) ?_ ?_ ms.zipIdx ([],none,none,none,none) hnm
 .rintro⟨x,n⟩ l ⟨a,j1,X,U,M⟩ he k hk;dsimp only[dt]at he;have hf:=pH he z;have x0: ~~~a<=64:=by rw[<-he]at E;simp at E;lia
  simp only[oP];refine⟨sZ x.name.2,by rw[mT,dO];lia,?_⟩;have e:=jz (g:=nD) (λ_ _=>tX) a x.name.2 n;rw[iI hf]at e;have:=hk (a++ [(x.name.2,n)],some (.val (nD n)),some (.val (kz x)),U,M) (by rw[<-he];simp);rw[<-e]at this;exact this
 .rintro⟨a,j1,X,U,M⟩ he;have he:a=nm:=by simpa using he
  subst he;rfl';generalize O:(ms.map λx=>x.parents.map λw=>(gB a w.2).getD 0)=w0 at c;refine fw kz (λs=> [some (.val (.lst (ms.map kz))),some (.od true (dl IJ nD a)),j1,s.2,some (.ol (s.1.map λr=> .lst (hU r))),M])
   (λl s=>(∀x∈l,~~~x.parents<=2/\ ∀b∈x.parents,∃i,gB a b.2=some i)/\s.1.length+ ~~~l<=64/\s.1++l.map (λx=>x.parents.map λw=>(gB a w.2).getD 0)=w0) ?_ ?_ ms ([],X) ⟨λx o=>⟨C x o,m x o⟩,by simpa using h,O⟩
  .rintro x l ⟨pr,j⟩ ⟨I,Q,t⟩ k hk;simp only[dB]at Q t;let⟨x1,N⟩:=I x (by simp);simp only[oP];rfl';refine⟨by rw[dO];simp;lia,?_⟩;refine mM k4 (λw=>nD ((gB a w.2).getD 0)) x.parents (λb J A R=> ?_) ?_
   .obtain⟨i,Y⟩:=N b J;simp only[k4];rfl';have v:nV (dl IJ nD a) (D.tup (xI bD b.2))=(gB a b.2).map nD:=kn (λ_ _=>tX) a b.2;rw[v,Y];rw[Y]at R;exact⟨sZ b.2,_,rfl,R⟩
   .rfl';refine⟨by rw[dO];simp;lia,?_⟩;have:=hk (pr++ [x.parents.map λw=>(gB a w.2).getD 0],some (.val (kz x))) ⟨λy hy=>I y (by simp[hy]),by simp;lia,by rw[<-t];simp⟩;simpa [hU,jZ,oP]using this
  .rintro⟨pr,j⟩ ⟨I,Q,t⟩;have t:pr=w0:=by simpa using t
   subst t;rfl';exact c
def AB:GN:=λds Q=> ∃a:List FM,ds=[.lst ((a.map qG).map kz)]/\lQ a/\Q (QT (Bg (ik a) (a.map qG)))
def y8(Z:Fx K mg cl):kF P w K mg base cl 3 "forebear_fault" 1 AB:=by
 have S:Sc ["lines","parents","number","line"] (top 81):=by walk_at "s"
 refine fN.ok (Z.d 50 _ rfl) S rfl (λv=>(dg (ff (i:=1) S.nd (dU (p8 Z) v (da (dW 0) dz))) (dg (i3 .never rfl (uf Z.G.enumerate (dW 0)) (nz (i:=2) (j:=3) rfl S.nd) (dn (iw (nq (dU (xV Z) v (da (dW 1) (da (dW 2) dz)))) (dn (eK (kM (da (iy Z.G.bN) (da (dS Z.T (dS Z.T (dW 3))) dz))))) gK))) (dn (eK oH))))) ?_;rintro ds I ⟨l,rfl,b,g⟩;have m:=b.lt;have B:=Gk b;have q:=wQ l;rfl';refine⟨l,rfl,b,?_⟩;rfl';generalize ik l=P at g m q;have r:(l.map qG).length= ~~~l:=by simp
 generalize l.map qG=ms at g r;rw[pI];refine fw (λp=> .tup [nD p.2,kz p.1]) (λs=> [some (.val (.lst (ms.map kz))),some (.val (.lst (qg P))),s.1,s.2])
  (λz s=> ∃n,z=(ms.drop n).zipIdx n/\n<= ~~~ms/\ ∀j,j<n->D5 P j=false) ?_ ?_ ms.zipIdx (none,none) ⟨0,rfl,by lia,λj C=>by lia⟩
 .rintro x z ⟨H,F⟩ ⟨n,f,E,o⟩ k hk;have a:n< ~~~ms:=by apply dP;intro c;rw[vt (by lia)]at f;cases f
  rw[fV a,jT]at f;cases f;rw[oP];ac_nf;walk_at "n";refine⟨P,n,rfl,m,by lia,by lia,?_⟩;by_cases c:D5 P n=true
  .ac_rfl;have t:Bg P ms=some (-6,ms[n].name.1):=by
    unfold Bg;rw[v9 (λx y h h'=>by lia) iT (eO.mpr a) c]
    .rw[qu,df a]
    .intro y A u;by_cases e:y=n
     .exact .inl e
     .right;show n<y;apply dP;intro h;rw[o y (by lia)]at u;cases u
   rw[t]at g;exact g
  .ac_rfl;exact hk (some (.val (nD n)),some (.val (kz ms[n]))) ⟨n+1,rfl,by lia,λj C=>by
    by_cases e:j=n
    .subst e;simpa using c
    .exact o j (by lia)⟩
 .rintro⟨H,F⟩ ⟨n,f,E,o⟩;have a:n= ~~~ms:=by apply dP;intro c;rw[fV (by lia),jT]at f;cases f
  have t:Bg P ms=none:=by unfold Bg;rw[uX,oB];intro y A;rw[o y (by have:=eO.mp A;lia)];simp
  rw[t]at g;exact g
def Mi: ∀(b:gT) (st:Nat) (a:gT),(kf st a b).length<= ~~~b+1:=by
 intro r;induction r with
 |nil=>intro st a;unfold kf;split<;>simp
 |cons c r ih=>
  unfold kf
  grind
def DZ(t:gT):(vS t).length<= ~~~t+1:=by unfold vS;rw[dA];exact Mi t 0 []
def MA:GN:=λds Q=> ∃t:gT,ds=[.lst (t.map bD)]/\ ~~~t<=90000/\Q (QT (AE t))
def JZ(Z:Fx K mg cl):kF P w K mg base cl 5 "fault_of" 1 MA:=by
 have S:Sc ["text","place","lines","fault"] (top 78):=by walk_at "s"
 refine fN.ok (Z.d 47 _ rfl) S rfl (λf=>(dg (ff (i:=1) S.nd (dU (Fb Z) f (da (dW 0) dz))) (dg (iw (Cf (dW 1)) (dn (eK (kM (da (iy Z.G.bH) (da (dW 1) dz))))) gK) (dg (ff (i:=2) S.nd (dU (Bb Z) f (da (dW 0) dz))) (dg (ff (i:=3) S.nd (dU (BJ Z) f (da (dW 2) dz))) (dg (iw (xP (dW 3)) (dn (ff (i:=3) S.nd (dU (BK Z) f (da (dW 2) dz)))) gK) (dg (iw (xP (dW 3)) (dn (ff (i:=3) S.nd (dU (y8 Z) f (da (dW 2) dz)))) gK) (dn (eK (dW 3)))))))))) ?_;rintro ds q ⟨t,rfl,p,a⟩;have c:=CU t;have j:=DZ t;unfold AE at a;rfl';refine⟨t,rfl,?_⟩;cases e:ku 0 0 0 t with
 |some k=>rw[e]at a;rfl';exact a
 |none=>
  rw[e]at a c;simp only at a;cases el:YJ t with
  |error k=>rw[el]at c;cases c
  |ok b=>
   rw[el]at a;have m:=Ar el;have n:=DY el;rw[m]at a j;simp only[U9];rfl';refine⟨t,rfl,by lia,n,?_⟩;rw[m];rfl';refine⟨_,rfl,by lia,?_⟩;have l:=Dq b 0 [] rfl (by lia);rw[l]at a⊢;cases e1:Blood.linesFault [] b with
   |some x=>rw[e1]at a;simp only[QT]at a⊢;ac_nf;exact a
   |none=>
    rw[e1]at a;simp only[QT]at a⊢;rfl';have h:((b.map qG).map λx=>x.name.2).Nodup:=by rw[dm];have:=sW b [] (by simp) e1;rw[jd]at this;exact this
    refine⟨_,rfl,by lia,h,λx o=>by let⟨(y),_,rfl⟩:=dk.mp o;exact A3 y,?_⟩;have g:=DA b b;rw[g]at a⊢;cases e2:Blood.parentFault b b with
    |some x=>rw[e2]at a;simp only[QT]at a⊢;ac_nf;exact a
    |none=>rw[e2]at a;simp only[QT]at a⊢;rfl';exact⟨b,rfl,⟨e1,e2⟩,a⟩
def Kv:GN:=λds Q=> ∃(t:gT) (a:List FM),ds=[.lst (t.map bD)]/\ ~~~t<=90000/\YJ t= .ok a/\lQ a/\Good (ik a)/\Q (iN (ik a))
def HE(Z:Fx K mg cl):kF P w K mg base cl 5 "family_of" 1 Kv:=by
 have S:Sc ["text","lines","names","sexes","line"] (top 83):=by walk_at "s"
 refine fN.ok (Z.d 52 _ rfl) S rfl (λf=>(dg (ff (i:=1) S.nd (dU (Bb Z) f (da (dW 0) dz))) (dg (CZ (i:=2) [("line",4)] rfl S.nd (wF rfl rfl rfl rfl) S.bk (hG (dW 1)) (λ_ _ _ _ _=>(gb (i:=4) S.nd)) (λ_ _ _ _ _=>mK) (λ_ _ _ _ _=>(dS Z.T (dS Z.T (dW 4))))) (dg (CZ (i:=3) [("line",4)] rfl S.nd (wF rfl rfl rfl rfl) S.bk (hG (dW 1)) (λ_ _ _ _ _=>(gb (i:=4) S.nd)) (λ_ _ _ _ _=>mK) (λ_ _ _ _ _=>(dS Z.T (dW 4)))) (dn (eK (pT (Pu Z) f (da (dW 2) (da (dW 3) (da (dU (p8 Z) f (da (dW 1) dz)) dz)))))))))) ?_;rintro ds p ⟨t,b,rfl,o,g,c,m,k⟩;have h:=Ar g;have j:=DY g;have a:=DZ t;rfl';refine⟨t,rfl,by lia,j,?_⟩;rw[h]at a⊢;rfl';refine⟨by rw[dO];simp at a⊢;lia,?_⟩;refine mM kz (λx=>IJ x.name.2) (b.map qG) (λx l A e=> ?_) ?_
 .simp only[oP];exact e
 .rfl';refine⟨by rw[dO];simp at a⊢;lia,?_⟩;refine mM kz (λx=>mh x.man) (b.map qG) (λx l A e=> ?_) ?_
  .simp only[oP];exact e
  .ac_nf;walk_at "n";refine⟨b,rfl,c,?_⟩;have en:(b.map qG).map (λx=>IJ x.name.2)=me (ik b):=by unfold me ik;rw[dm,dm];rfl
   have n:(b.map qG).map (λx=>mh x.man)=Ju (ik b):=by unfold Ju ik;rw[dm,dm];rfl
   rw[en,n];exact⟨_,rfl,m,k⟩
def YW(o:Option (Nat×Nat×Nat)):D:=match o with
 |none=> .non
 |some x=> .lst [nD x.1,nD x.2.1,nD x.2.2]
theorem PP(st:mV)(q:Nat):look st q=gB st q:=by rfl
def Qr(m:fc): ∀l:List fc,((l.map jX).countP λd=>decide (d=jX m))=l.count m:=by
 intro l;induction l with
 |nil=>rfl
 |cons x l ih=>
  rw[dt,qc,XG,ih];by_cases h:x=m
  .simp[h]
  .have h': ¬jX x=jX m:=λe=>h (qA e);simp[h,h']
def Fl:GN:=λds Q=> ∃(P:du) (a b:Nat),ds=[iN P,nD a,nD b]/\Good P/\a< ~~~P/\b< ~~~P/\Q (YW (xK P a b))
def DG(Z:Fx K mg cl):kF P w K mg base cl 2 "tie_between" 3 Fl:=by
 have S:Sc ["family","a","b","from_a","from_b","ties","nearest","person"] (top 85):=by walk_at "s"
 refine fN.ok (Z.d 53 _ rfl) S rfl (λg=>(dg (ff (i:=3) S.nd (dU (oI Z) g (da (dS Z.T (dW 0)) (da (dW 1) dz)))) (dg (ff (i:=4) S.nd (dU (oI Z) g (da (dS Z.T (dW 0)) (da (dW 2) dz)))) (dg (Pd (i:=5) [("person",7)] rfl S.nd (wF rfl rfl rfl rfl) S.bk (dW 3) (λ_ _ _ _ _=>(gb (i:=7) S.nd)) (λ_ _ _ _ _=>(wD (Ha (gX g) (dW 7) (pr 4)))) (λ_ _ _ _ _=>(kM (da (lH (m7 (gX g) (pr 3) (dW 7)) (m7 (gX g) (pr 4) (dW 7))) (da (m7 (gX g) (pr 3) (dW 7)) dz))))) (dg (iw (gG k5 k6 (iC Z.G.len (pr 5)) dM (fO _)) (dn (eK oH)) gK) (dg (ff (i:=6) S.nd (V5 Z.G.min rfl (gX g) (pr 5))) (dn (eK (ke (da (fK (pr 6) dM) (da (Hx (fK (pr 6) dM) (fK (pr 6) dM)) (da (Sw (gX g) (pr 5) (dW 6)) dz)))))))))))) ?_;rintro ds QD ⟨P,a,b,rfl,j,z,s,C⟩;have H:=j.len;have F:=ui j.lt z;have Db:=ui j.lt s;have u:=Rx j.lt z s;have l:=λm=>Rw j.lt z s (m:=m);have f: ∀m∈ties P a b,m.2<=m.1:=λm E=>by let⟨c e,_,_,h⟩:=(vO j.lt z s).mp E;lia
 have o:(GK P a).length<= ~~~P:=by have:=oK (~~~P) _ F.nodup (λx hx=>by let⟨(p),O,rfl⟩:=dk.mp hx;exact F.lt p O);simpa using this
 simp only[iN];rfl';refine⟨P,a,rfl,j.lt,z,H,?_⟩;rfl';refine⟨P,b,rfl,j.lt,s,H,?_⟩;rfl';have r:=F.nodup;unfold ties at u l f;generalize GK P a=fa at u l r o f;generalize GK P b=fb at u l f;have ek:(dl nD nD fa).map (·.1)=fa.map λq=>nD q.1:=by unfold dl;rw[dm];rfl
 rw[ek];refine⟨by rw[dO];simp;lia,?_⟩;refine ua (λq:Nat×Nat=>nD q.1) (λq=>(xi fb q).map jX) fa [] (λq M A B h=> ?_) ?_
 .have I:nV (dl nD nD fa) (nD q.1)=some (nD q.2):=by rw[kn (λ_ _=>jI),Bo r (show(q.1,q.2)∈fa from M)];rfl
  have N:nV (dl nD nD fb) (nD q.1)=(gB fb q.1).map nD:=kn (λ_ _=>jI) fb q.1;unfold xi at h;rw[PP]at h;ac_nf;refine⟨kP q.1,?_⟩;rw[N];cases e:gB fb q.1 with
  |none=>rw[e]at h;simp only[Option.map_none,Option.isSome_none,eW,hJ]at h;ac_rfl;exact h
  |some x=>rw[e]at h;simp only[qu,oj,jv]at h;ac_rfl;refine⟨kP q.1,_,I,kP q.1,_,rfl,?_⟩;simp only[nD];rfl';refine⟨kP q.1,_,I,?_⟩;exact h
 .have U:fa.filterMap (λq=>(xi fb q).map jX)=(fa.filterMap (xi fb)).map jX:=by rw[List.map_filterMap]
  rw[jd,U];generalize fa.filterMap (xi fb)=ts at u l f;ac_nf;rw[dA];by_cases c:ts=[]
  .rw[u c]at C;subst c;simp only[ip,show((0:Nat):Int)=0 from rfl,rH,jv];exact C
  .have hl:0< ~~~ts:=kD.mpr c;have X: ¬((~~~ts:Nat):Int)=0:=by lia
   simp only[X,qo,hJ,eW];refine⟨ts.map Bu,by rw[dm];rfl,by simpa using hl,λm E t=> ?_⟩;let⟨(m'),v,rfl⟩:=dk.mp E;have k: ∀y∈ts,¬(y.1<m'.1\/(y.1=m'.1/\y.2<m'.2)):=λy hy=>(JU y m').mp (t _ (dk.mpr ⟨y,hy,rfl⟩));rw[l m' v k]at C;rw[L5];simp only[jX];ac_nf;have Q:nB [nD m'.1,nD m'.2] (0:Int)=some (nD m'.1):=jf (n:=0);have Y:nB [nD m'.1,nD m'.2] (1:Int)=some (nD m'.2):=jf (n:=1);simp only[Q,Y,nD];rfl';refine⟨λd hd=>by let⟨(q),_,rfl⟩:=dk.mp hd;exact Os q,Os m',?_⟩;have R:=Qr m' ts;have J:=f m' v;have es:(m'.1:Int)-(m'.2:Int)=((m'.1-m'.2:Nat):Int):=by lia
   rw[es];refine(gR (λn:Nat=>QD (.lst [.int (m'.2:Int),.int ((m'.1-m'.2:Nat):Int),.int (n:Int)])) ?_).mp C;refine R.symm.trans (List.countP_congr λd _=> ?_);exact⟨λh=>mI (lX h),λh=>mI (lX h)⟩
def Mv:GN:=λds Q=> ∃(P:du) (a b:Nat),ds=[iN P,nD a,nD b]/\Good P/\a< ~~~P/\b< ~~~P/\Q (nD (Nf P a b))
def JW(Z:Fx K mg cl):kF P w K mg base cl 1 "paths_up" 3 Mv:=by
 have S:Sc ["family","a","b","paths","person","parent"] (top 86):=by walk_at "s"
 refine fN.ok (Z.d 54 _ rfl) S rfl (λG=>(dg (FZ (i:=3) [("person",4)] rfl S.nd (wF rfl rfl rfl rfl) S.bk (hG (dS Z.T (dW 0))) (λ_ _ _ _ _=>(gb (i:=4) S.nd)) (λ_ _ _ _ _=>mK) (λ_ _ _ _ _=>dM)) (dg (VH (pv 3) (dW 1) dM) (dg (i3 .never rfl (hG (dS Z.T (dW 0))) (gb (i:=4) S.nd) (dn (i3 .never rfl (hG (fK (fI.r (dS Z.T (dW 0))) (dW 4))) (gb (i:=5) S.nd) (dn (Np (pv 3) (dW 5) (fK (pr 3) (dW 4))))))) (dn (eK (fK (pr 3) (dW 2)))))))) ?_;rintro ds X ⟨P,a,b,rfl,t,H,J,o⟩;have U:=t.len;have O:=gD t;rw[<-SA t H J]at o;unfold Ab at o;simp only[iN];ac_nf;refine⟨by unfold qg;rw[dO];simp;lia,?_⟩;refine mM (λi=> .lst (hU (par P i))) (λ_=>nD 0) (eE (~~~P)) (λn R A M=> ?_) ?_
 .ac_nf;exact M
 ac_nf;refine⟨a,rfl,by simpa using H,?_⟩;have I:((eE (~~~P)).map λ_=>nD 0).set a (D.int 1)=hU ((fP (~~~P) 0).set a 1):=by
  unfold hU;rw[Lp,List.map_replicate];congr 1;apply nH
  .simp
  .intro i j f;simp
 rw[I];have E: ∀x∈(eV P).reverse,x< ~~~P:=λx p=>O.1.lt x (by simpa using p);have B:hU (j6 P)=((eV P).reverse).map nD:=rfl;rw[B];generalize hw:((eV P).reverse.foldl (λl x=>pL x l (par P x)) ((fP (~~~P) 0).set a 1))=w0 at o;refine fw nD (λs=> [some (.val (iN P)),some (.val (nD a)),some (.val (nD b)),some (.ol (hU s.1)),s.2.1,s.2.2])
  (λu s=>(∀x∈u,x< ~~~P)/\s.1.length= ~~~P/\u.foldl (λl x=>pL x l (par P x)) s.1=w0) ?_ ?_ (eV P).reverse ((fP (~~~P) 0).set a 1,none,none) ⟨E,by simp,hw⟩
 .rintro x u ⟨l,Q,g⟩ ⟨j,f,c⟩ k hk;simp only at f c;rw[eT]at c;have p:=j x (by simp);simp only[iN];ac_nf;simp only[nD,qf p];unfold pL at c;refine fw (S:=List Nat×Jn) nD (λs=> [some (.val (iN P)),some (.val (nD a)),some (.val (nD b)),some (.ol (hU s.1)),some (.val (nD x)),s.2])
   (λv s=>(∀q∈v,q< ~~~P)/\s.1.length= ~~~P/\u.foldl (λl x=>pL x l (par P x)) (v.foldl (λl q=>l.set q (l.getD q 0+l.getD x 0)) s.1)=w0) ?_ ?_ (par P x) (l,g) ⟨λq z=>t.lt x q z,f,c⟩
  .rintro q v ⟨l,g⟩ ⟨C,m,h⟩ k2 F;simp only at m h;rw[eT]at h;have z:=C q (by simp);have g1: ∀i,i< ~~~P->l[i]?=some (l.getD i 0):=λi Y=>by rw[dG,df (by lia)];rfl
   ac_nf;refine⟨q,((l.getD q 0:Nat):Int),rfl,by unfold hU;rw[dX,g1 q z];rfl,?_⟩;simp only[nD,lS (g1 x p)];have e:(hU l).set q (D.int (((l.getD q 0:Nat):Int)+((l.getD x 0:Nat):Int)))=hU (l.set q (l.getD q 0+l.getD x 0)):=by unfold hU;rw[Lp];rfl
   rw[e];exact F (l.set q (l.getD q 0+l.getD x 0),some (.val (nD q))) ⟨λr G=>C r (by simp[G]),by simpa using m,h⟩
  .rintro⟨l,g⟩ ⟨C,m,h⟩;exact hk (l,some (.val (nD x)),g) ⟨λy N=>j y (by simp[N]),m,h⟩
 .rintro⟨l,Q,g⟩ ⟨j,f,c⟩;simp only at f;have c:=c;subst c;ac_nf;have g1:l[b]?=some (l.getD b 0):=by rw[dG,df (by lia)];rfl
  simp only[nD,lS g1];exact o
abbrev lM:=Option (du×Option (dQ×gN))
def JL:Option (dQ×gN)->D
 |none=> .non
 |some x=>fJ x.1 x.2
def Bs:lM->List D
 |none=> [.non,.non]
 |some x=> [iN x.1,JL x.2]
def kl(s:lM):D:= .obj 6 (Bs s)
theorem mU(P:du)(pl:Option (dQ×gN)):kl (some (P,pl))= .obj 6 [iN P,JL pl]:=rfl
def iz(n:Nat)(a row:dE):D:= .obj 4 [nD n,.lst (hU a),.lst (hU row)]
def nA(a:Ce):D:= .obj 5 [.int a.ret,.lst (a.nums.map D.int),.lst (a.text.map bD)]
def MW(z:Int)(l:dE):nA (jj z l)= .obj 5 [.int z,.lst (hU l),.lst []]:=by rw[Cg];rfl
def Ta:Stmt:=ny (top 116)
def To:UJ:=λds Q=>match ds with
 | [a,b,c]=>Q [a,b,c]
 |_=>False
def Wo(Z:Fx K mg cl):Xj P w K mg base cl 1 4 3 "Call" To:=by
 let⟨f i,F,g,M,h⟩:=Z.c 4 _ rfl;have S:Sc ["self","number","whole_numbers","row"] Ta:=by walk_at "s"
 refine ue F g M (by decide) h S rfl (λe A outer s H E l=>(dg (lG Z.T (pv 0) (dW 1)) (dg (lG Z.T (pv 0) (dW 2)) (dn (lG Z.T (pv 0) (dW 3)))))) ?_;intro q ds j k d;unfold To at d;split at d
 .rename_i a b c;rfl';exact⟨[a,b,c],rfl,rfl,d⟩
 .exact d.elim
def Mp:Stmt:=ny (top 117)
def Ky:UJ:=λds Q=>match ds with
 | [a,b,c]=>Q [a,b,c]
 |_=>False
def An(Z:Fx K mg cl):Xj P w K mg base cl 1 5 3 "Answer" Ky:=by
 let⟨f i,F,g,M,h⟩:=Z.c 5 _ rfl;have S:Sc ["self","number","listed","text"] Mp:=by walk_at "s"
 refine ue F g M (by decide) h S rfl (λe A outer s H E l=>(dg (lG Z.T (pv 0) (dW 1)) (dg (lG Z.T (pv 0) (dW 2)) (dn (lG Z.T (pv 0) (dW 3)))))) ?_;intro q ds j k d;unfold Ky at d;split at d
 .rename_i a b c;rfl';exact⟨[a,b,c],rfl,rfl,d⟩
 .exact d.elim
def Eg:GN:=λds Q=> ∃z:Int,ds=[.int z]/\Q (nA (iA z))
def gM(Z:Fx K mg cl):kF P w K mg base cl 3 "number_alone" 1 Eg:=by
 have S:Sc ["number"] (top 118):=by walk_at "s"
 refine fN.ok (Z.d 55 _ rfl) S rfl (λa=>(dn (eK (pT (An Z) a (da (dW 0) (da (ke dz) (da (ke dz) dz))))))) ?_;rintro ds c ⟨z,rfl,b⟩;rfl';exact b
def Ks:GN:=λds Q=> ∃(z:Int) (l:dE),ds=[.int z,.lst (hU l)]/\Q (nA (jj z l))
def ko(Z:Fx K mg cl):kF P w K mg base cl 3 "with_list" 2 Ks:=by
 have S:Sc ["number","listed"] (top 119):=by walk_at "s"
 refine fN.ok (Z.d 56 _ rfl) S rfl (λb=>(dn (eK (pT (An Z) b (da (dW 0) (da (dW 1) (da (ke dz) dz))))))) ?_;rintro ds c ⟨z,l,rfl,a⟩;rw[MW]at a;rfl';exact a
def uQ:GN:=λds Q=> ∃(P:du) (pl:Option (dQ×gN)) (n:Nat) (a row:dE),ds=[kl (some (P,pl)),iz n a row]/\Q (nA (iA (~~~P:Int)))
def Ak(Z:Fx K mg cl):kF P w K mg base cl 4 "answer_people" 2 uQ:=by
 have S:Sc ["desk","call"] (top 121):=by walk_at "s"
 refine fN.ok (Z.d 58 _ rfl) S rfl (λa=>(dn (eK (dU (gM Z) a (da (iC Z.G.len (fI.r (dS Z.T (dS Z.T (dW 0))))) dz))))) ?_;rintro ds c ⟨P,pl,n,f,row,rfl,b⟩;simp only[mU,iN];rfl';have e:(me P).length= ~~~P:=by unfold me;simp
 rw[e];exact⟨_,rfl,b⟩
def uP:GN:=λds Q=> ∃(P:du) (pl:Option (dQ×gN)) (n i:Nat) (row:dE),ds=[kl (some (P,pl)),iz n [i] row]/\i< ~~~P/\Q (nA ⟨((gf P i).name.length:Int),(if(gf P i).man=true then 1 else 0)::(match(gf P i).parents with
  |some x=> [(x.1:Int),(x.2:Int)]
  |none=> []),(gf P i).name⟩)
def Aj(Z:Fx K mg cl):kF P w K mg base cl 3 "answer_person" 2 uP:=by
 have S:Sc ["desk","call","person","name"] (top 122):=by walk_at "s"
 refine fN.ok (Z.d 59 _ rfl) S rfl (λc=>(dg (ff (i:=2) S.nd (fK (fI.r (dS Z.T (dW 1))) dM)) (dg (ff (i:=3) S.nd (fK (fI.r (dS Z.T (dS Z.T (dW 0)))) (dW 2))) (dn (eK (pT (An Z) c (da (iC Z.G.len (pr 3)) (da (vG (ke (da (fK (fI.r (dS Z.T (dS Z.T (dW 0)))) (dW 2)) dz)) (fK (fI.r (dS Z.T (dS Z.T (dW 0)))) (dW 2))) (da (Zx Z.G.list (by decide+kernel) (pr 3)) dz))))))))) ?_;rintro ds f ⟨P,pl,n,i,row,rfl,b,a⟩;dsimp only[mU,iN,iz];rfl';have e:nB (hU [i]) (0:Int)=some (nD i):=lS rfl;simp only[e,nD,Ww b,Hg b,qf b,uJ];rfl';rw[dA];have hpl:(par P i).length<=2:=by unfold par;split<;>simp
 refine⟨by rw[jA,dO];lia,?_⟩;unfold nA at a;cases hp:(gf P i).parents with
 |none=>rw[hp]at a;rw[qQ hp];exact a
 |some y=>rw[hp]at a;rw[kN hp];exact a
def Gm(h:uJ a=uJ b):a=b:=tX h
def Ip(b:gT):HK (uJ b):=⟨.tup (b.map nkB),DQ b,by show NK.ae _+1<=6;have:=Et b;lia⟩
def MJ(P:du)(a:gT):(uJ a∈me P↔ ∃i,P.findIdx? (λx=>x.name==a)=some i)/\ ∀i,P.findIdx? (λx=>x.name==a)=some i->(me P)[i]?=some (uJ a)/\ ∀m,m<i->(me P)[m]?≠some (uJ a):=by
 constructor
 .constructor
  .intro h;let⟨(x),g,e⟩:=dk.mp h;cases b:P.findIdx? λx=>x.name==a with
   |some i=>exact⟨i,rfl⟩
   |none=>rw[List.findIdx?_eq_none_iff]at b;have:=b x g;have k:=Gm e;simp[k]at this
  .rintro⟨i,h⟩;rw[AU]at h;let⟨(c),d,_⟩:=h;refine dk.mpr ⟨P[i],nG c,?_⟩
   simp_all
 .intro i h;rw[AU]at h;let⟨(c),d,f⟩:=h;unfold me;refine⟨?_,?_⟩
  .simp_all
  .intro m j e;rw[dX,df (by lia)]at e;have b:=Gm (ft e);have:=f m j;simp[b]at this
def xr:GN:=λds Q=> ∃(P:du) (pl:Option (dQ×gN)) (n:Nat) (b:dE) (a:gT),ds=[kl (some (P,pl)),.obj 4 [nD n,.lst (hU b),.lst (a.map bD)]]/\Q (nA (iA (match P.findIdx? λ(x:Blood.Person)=>x.name==a with
  |some i=>(i:Int)
  |none=> -1)))
def DK(Z:Fx K mg cl):kF P w K mg base cl 4 "answer_find" 2 xr:=by
 have S:Sc ["desk","call","name"] (top 123):=by walk_at "s"
 refine fN.ok (Z.d 60 _ rfl) S rfl (λf=>(dg (ff (i:=2) S.nd (z9 Z.G.tuple (by decide+kernel) (fI.r (dS Z.T (dW 1))))) (dg (iw (OZ (gX f) (dW 2) (fI.r (dS Z.T (dS Z.T (dW 0))))) (dn (eK (dU (gM Z) f (da (iy Z.G.bQ) dz)))) gK) (dn (eK (dU (gM Z) f (da (Sq (gX f) (fI.r (dS Z.T (dS Z.T (dW 0)))) (dW 2)) dz))))))) ?_;rintro ds k ⟨P,pl,n,l,a,rfl,c⟩;let⟨f1,f2⟩:=MJ P a;simp only[mU,iN];rfl';have b: ∀d∈me P,HK d:=λd hd=>by let⟨(x),_,rfl⟩:=dk.mp hd;exact Ip _
 refine⟨Ip a,b,?_⟩;have en:D.tup (a.map bD)=uJ a:=rfl;rw[en];cases e:P.findIdx? λx=>x.name==a with
 |none=>
  rw[e]at c;have g: ¬uJ a∈me P:=λh=>by let⟨(i),j⟩:=f1.mp h;rw[e]at j;cases j
  simp only[g,qo,Bool.not_false,jv];exact⟨_,rfl,c⟩
 |some i=>rw[e]at c;have g:uJ a∈me P:=f1.mpr ⟨i,e⟩;simp only[g,rH,Bool.not_true,hJ,eW];let⟨g1,g2⟩:=f2 i e;exact⟨b,Ip a,i,g1,g2,_,rfl,c⟩
def zt:GN:=λds Q=> ∃(P:du) (pl:Option (dQ×gN)) (n a b:Nat) (row:dE),ds=[kl (some (P,pl)),iz n [a,b] row]/\Good P/\a< ~~~P/\b< ~~~P/\4*4^(fW P).length<=1000000/\Q (nA (abM (kS P a b)))
def Fh(Z:Fx K mg cl):kF P w K mg base cl 5 "answer_kin" 2 zt:=by
 have S:Sc ["desk","call"] (top 124):=by walk_at "s"
 refine fN.ok (Z.d 61 _ rfl) S rfl (λc=>(dn (eK (dU (ko Z) c (da dM (da (dU (Gj Z) c (da (dS Z.T (dW 0)) (da (fK (fI.r (dS Z.T (dW 1))) dM) (da (fK (fI.r (dS Z.T (dW 1))) dM) dz)))) dz)))))) ?_;rintro ds i ⟨P,pl,n,a,b,row,rfl,e,g,f,hz,h⟩;dsimp only[iz];rfl';refine⟨P,a,b,rfl,e,g,f,hz,?_⟩;exact⟨_,[(kS P a b).1,(kS P a b).2],rfl,h⟩
def uR:GN:=λds Q=> ∃(P:du) (pl:Option (dQ×gN)) (n i:Nat) (row:dE),ds=[kl (some (P,pl)),iz n [i] row]/\Good P/\i< ~~~P/\4*4^(fW P).length<=1000000/\Q (nA (abM (rl P i)))
def Al(Z:Fx K mg cl):kF P w K mg base cl 6 "answer_inbred" 2 uR:=by
 have S:Sc ["desk","call"] (top 125):=by walk_at "s"
 refine fN.ok (Z.d 62 _ rfl) S rfl (λa=>(dn (eK (dU (ko Z) a (da dM (da (dU (Ad Z) a (da (dS Z.T (dW 0)) (da (fK (fI.r (dS Z.T (dW 1))) dM) dz))) dz)))))) ?_;rintro ds f ⟨P,pl,n,i,row,rfl,c,b,hz,e⟩;rfl';refine⟨P,i,rfl,c,b,hz,?_⟩;exact⟨_,[(rl P i).1,(rl P i).2],rfl,e⟩
def uO:GN:=λds Q=> ∃(P:du) (pl:Option (dQ×gN)) (n a b:Nat) (row:dE),ds=[kl (some (P,pl)),iz n [a,b] row]/\Good P/\a< ~~~P/\b< ~~~P/\4*4^(fW P).length<=1000000/\Q (nA (jj ((kG P a b).2:Int) (kG P a b).1))
def Ai(Z:Fx K mg cl):kF P w K mg base cl 5 "answer_states" 2 uO:=by
 have S:Sc ["desk","call","told"] (top 126):=by walk_at "s"
 refine fN.ok (Z.d 63 _ rfl) S rfl (λc=>(dg (ff (i:=2) S.nd (dU (HC Z) c (da (dS Z.T (dW 0)) (da (fK (fI.r (dS Z.T (dW 1))) dM) (da (fK (fI.r (dS Z.T (dW 1))) dM) dz))))) (dn (eK (dU (ko Z) c (da (fK (pr 2) dM) (da (fK (pr 2) dM) dz))))))) ?_;rintro ds k ⟨P,pl,n,a,b,row,rfl,h,j,f,hz,g⟩;dsimp only[iz];rfl';refine⟨P,a,b,rfl,h,j,f,hz,?_⟩;have l:nB [D.lst (hU (kG P a b).1),nD (kG P a b).2] (0:Int)=some (D.lst (hU (kG P a b).1)):=jf;have e:nB [D.lst (hU (kG P a b).1),nD (kG P a b).2] (1:Int)=some (nD (kG P a b).2):=jf;ac_nf;walk_at "n";rw[e];exact⟨_,_,rfl,g⟩
def zr:GN:=λds Q=> ∃(P:du) (pl:Option (dQ×gN)) (n a b:Nat) (row:dE),ds=[kl (some (P,pl)),iz n [a,b] row]/\Good P/\a< ~~~P/\b< ~~~P/\Q (nA (match xK P a b with
  |some x=>jj 1 [x.1,x.2.1,x.2.2]
  |none=>iA 0))
def Ff(Z:Fx K mg cl):kF P w K mg base cl 4 "answer_tie" 2 zr:=by
 have S:Sc ["desk","call","tie"] (top 127):=by walk_at "s"
 refine fN.ok (Z.d 64 _ rfl) S rfl (λf=>(dg (ff (i:=2) S.nd (dU (DG Z) f (da (dS Z.T (dW 0)) (da (fK (fI.r (dS Z.T (dW 1))) dM) (da (fK (fI.r (dS Z.T (dW 1))) dM) dz))))) (dg (iw (xP (dW 2)) (dn (eK (dU (gM Z) f (da dM dz)))) gK) (dn (eK (dU (ko Z) f (da dM (da (dW 2) dz)))))))) ?_;rintro ds m ⟨P,pl,n,a,b,row,rfl,k,l,j,c⟩;dsimp only[mU,iz];rfl';have g:nB (hU [a,b]) (0:Int)=some (nD a):=lS (i:=0) rfl;have h:nB (hU [a,b]) (1:Int)=some (nD b):=lS (i:=1) rfl;rw[g,h];refine⟨P,a,b,rfl,k,l,j,?_⟩;cases e:xK P a b with
 |none=>rw[e]at c;rw[YW];rfl';exact⟨_,rfl,c⟩
 |some x=>rw[e]at c;rw[YW];rfl';exact⟨_,[x.1,x.2.1,x.2.2],rfl,c⟩
def vX:GN:=λds Q=> ∃(P:du) (pl:Option (dQ×gN)) (n a b:Nat) (row:dE),ds=[kl (some (P,pl)),iz n [a,b] row]/\Good P/\a< ~~~P/\b< ~~~P/\Q (nA (iA (Nf P a b:Int)))
def BQ(Z:Fx K mg cl):kF P w K mg base cl 4 "answer_paths" 2 vX:=by
 have S:Sc ["desk","call"] (top 128):=by walk_at "s"
 refine fN.ok (Z.d 65 _ rfl) S rfl (λc=>(dn (eK (dU (gM Z) c (da (dU (JW Z) c (da (dS Z.T (dW 0)) (da (fK (fI.r (dS Z.T (dW 1))) dM) (da (fK (fI.r (dS Z.T (dW 1))) dM) dz)))) dz))))) ?_;rintro ds i ⟨P,pl,n,a,b,row,rfl,e,g,f,h⟩;dsimp only[iz];rfl';refine⟨P,a,b,rfl,e,g,f,?_⟩;exact⟨_,rfl,h⟩
theorem xk(p:fc)(l:List fc):i9 (p::l)=[p.1,p.2]++i9 l:=by rfl
def Hy: ∀l:List fc,(i9 l).length=2* ~~~l:=by
 intro l;induction l with
 |nil=>rfl
 |cons p l ih=>rw[xk];simp[ih];lia
def HU:GN:=λds Q=> ∃l:List fc,ds=[jH l]/\ ~~~l<=100000/\Q (nA (jj (~~~l:Int) (i9 l)))
def so(Z:Fx K mg cl):kF P w K mg base cl 4 "with_pairs" 1 HU:=by
 have S:Sc ["pairs","listed","pair"] (top 129):=by walk_at "s"
 refine fN.ok (Z.d 66 _ rfl) S rfl (λg=>(dg (qz (i:=1) S.nd dz) (dg (i3 .never rfl (hG (dW 0)) (gb (i:=2) S.nd) (dn (RM (pv 1) (dW 2)))) (ma 1 (dn (eK (dU (ko Z) g (da (iC Z.G.len (pr 0)) (da (dW 1) dz))))))))) ?_;rintro ds m ⟨l,rfl,h,c⟩;have b:=Hy l;generalize hw:i9 l=w0 at c b;simp only[jH];rfl';refine fw jX (λs=> [some (.val (jH l)),some (.ol (hU s.1)),s.2]) (λe s=>s.1++i9 e=w0) ?_ ?_ l ([],none) hw
 .rintro p e ⟨a,j⟩ he k hk;rw[xk]at he;have f: ~~~a+2<=200000:=by rw[<-he]at b;simp at b;lia
  simp only[jX];rfl';refine⟨by rw[jA,dO];lia,?_⟩;have:=hk (a++ [p.1,p.2],some (.val (jX p))) (by rw[<-he];simp);simpa [hU,jX]using this
 .rintro⟨a,j⟩ he;have he:a=w0:=by simpa [i9]using he
  subst he;rw[jH];rfl';rw[dA];exact⟨_,a,rfl,c⟩
def xq:GN:=λds Q=> ∃(P:du) (L:dQ) (a:gN) (n i:Nat) (row:dE),ds=[kl (some (P,some (L,a))),iz n [i] row]/\L.kinds<=1000/\((gB a i).getD (il L.kinds)).length<=100000/\Q (nA (jj (((gB a i).getD (il L.kinds)).length:Int) (i9 ((gB a i).getD (il L.kinds)))))
def DI(Z:Fx K mg cl):kF P w K mg base cl 5 "answer_seen" 2 xq:=by
 have S:Sc ["desk","call"] (top 132):=by walk_at "s"
 refine fN.ok (Z.d 69 _ rfl) S rfl (λc=>(dn (eK (dU (so Z) c (da (dU (Fe Z) c (da (dS Z.T (dW 0)) (da (fK (fI.r (dS Z.T (dW 1))) dM) dz))) dz))))) ?_;rintro ds h ⟨P,L,g,n,i,row,rfl,b,a,f⟩;dsimp only[mU,iz,JL];rfl';have e:nB (hU [i]) (0:Int)=some (nD i):=lS (i:=0) rfl;rw[e];refine⟨L,g,i,rfl,b,?_⟩;exact⟨_,rfl,a,f⟩
def um(k:Nat):(il k).length<=k*k:=by
 unfold il;have: ∀l:List Nat,(l.map λ_=>k).sum<= ~~~l*k:=by
  intro l;induction l with
  |nil=>simp
  |cons x l ih=>simp[oX];lia
 simpa using this (eE k)
def W8{P:du}{L:dQ}{s:lN}{i:Nat}(h:L.kinds<=8):(Cd P L s i).length<=64:=by refine eC (iB _ _) (eC (um _) ?_);exact kh h h
def zu:GN:=λds Q=> ∃(P:du) (L:dQ) (a:gN) (s:lN) (n i:Nat) (row:dE),ds=[kl (some (P,some (L,a))),iz n [i] row]/\PO P L a/\lP P L a s/\i< ~~~P/\Q (nA (jj ((Cd P L s i).length:Int) (i9 (Cd P L s i))))
def Fi(Z:Fx K mg cl):kF P w K mg base cl 8 "answer_can" 2 zu:=by
 have S:Sc ["desk","call"] (top 133):=by walk_at "s"
 refine fN.ok (Z.d 70 _ rfl) S rfl (λa=>(dn (eK (dU (so Z) a (da (dU (vI Z) a (da (dS Z.T (dW 0)) (da (dS Z.T (dW 0)) (da (fK (fI.r (dS Z.T (dW 1))) dM) dz)))) dz))))) ?_;rintro ds f ⟨P,L,e,s,n,i,row,rfl,ok,R,b,c⟩;simp only[iz];rfl';refine⟨P,L,e,s,i,rfl,ok,R,b,?_⟩;exact⟨_,rfl,eC (W8 ok.l.k8) (by lia),c⟩
def vY:GN:=λds Q=> ∃(P:du) (L:dQ) (a:gN) (s:lN) (n:Nat) (b row:dE),ds=[kl (some (P,some (L,a))),iz n b row]/\PO P L a/\lP P L a s/\(a.map (·.1)).Nodup/\ ~~~a<=100000/\Q (nA (iA (match FJ P L s with
  |some p=>(p:Int)
  |none=> -1)))
def BR(Z:Fx K mg cl):kF P w K mg base cl 8 "answer_first" 2 vY:=by
 have S:Sc ["desk","call","person"] (top 134):=by walk_at "s"
 refine fN.ok (Z.d 71 _ rfl) S rfl (λb=>(dg (ff (i:=2) S.nd (dU (t8 Z) b (da (dS Z.T (dW 0)) (da (dS Z.T (dW 0)) dz)))) (dn (eK (dU (gM Z) b (da (vE (xP (dW 2)) (iy Z.G.be) (dW 2)) dz)))))) ?_;rintro ds g ⟨P,L,f,s,n,h,row,rfl,ok,R,hd,c,a⟩;dsimp only[mU,iz,JL];rfl';refine⟨P,L,f,s,rfl,ok,R,hd,c,?_⟩;cases e:FJ P L s with
 |none=>rw[e]at a;rw[U9];rfl';exact⟨_,rfl,a⟩
 |some p=>rw[e]at a;simp only[U9,nD];rfl';exact⟨_,rfl,a⟩
def uN:GN:=λds Q=> ∃(P:du) (L:dQ) (a:gN) (s:lN) (n:Nat) (b row:dE),ds=[kl (some (P,some (L,a))),iz n b row]/\PO P L a/\lP P L a s/\Q (nA (jj 0 [Lf P L s]))
def Ah(Z:Fx K mg cl):kF P w K mg base cl 7 "answer_worlds" 2 uN:=by
 have S:Sc ["desk","call"] (top 135):=by walk_at "s"
 refine fN.ok (Z.d 72 _ rfl) S rfl (λa=>(dn (eK (dU (ko Z) a (da dM (da (ke (da (dU (t7 Z) a (da (dS Z.T (dW 0)) (da (dS Z.T (dW 0)) dz))) dz)) dz)))))) ?_;rintro ds e ⟨P,L,c,s,n,f,row,rfl,ok,R,b⟩;rw[<-OF R ok.g (by have:=ok.l.k1;lia) ok.l.wp ok.l.k8]at b;rfl';refine⟨P,L,c,rfl,ok,?_⟩;exact⟨_,[lC P L c],rfl,b⟩
def uS:GN:=λds Q=> ∃(P:du) (L:dQ) (a:gN) (s:lN) (n i:Nat) (row:dE),ds=[kl (some (P,some (L,a))),iz n [i] row]/\PO P L a/\lP P L a s/\i< ~~~P/\ ~~~row%2=0/\ ~~~row<=100000/\(rM P L (rN P L s)).log2<9000/\Q (nA (match AW P L s i (iV row)with
  |some x=>jj 0 [x.1,x.2]
  |none=>iA (-3)))
def Am(Z:Fx K mg cl):kF P w K mg base cl 8 "answer_chance" 2 uS:=by
 have S:Sc ["desk","call","chance"] (top 136):=by walk_at "s"
 refine fN.ok (Z.d 73 _ rfl) S rfl (λc=>(dg (ff (i:=2) S.nd (dU (HF Z) c (da (dS Z.T (dW 0)) (da (dS Z.T (dW 0)) (da (fK (fI.r (dS Z.T (dW 1))) dM) (da (dS Z.T (dW 1)) dz)))))) (dg (iw (xP (dW 2)) (dn (eK (dU (gM Z) c (da (iy Z.G.bS) dz)))) gK) (dn (eK (dU (ko Z) c (da dM (da (dW 2) dz)))))))) ?_;rintro ds l ⟨P,L,j,s,n,i,row,rfl,ok,R,k,h,f,a,b⟩;simp only[iz];rfl';have g:nB (hU [i]) (0:Int)=some (nD i):=lS rfl;rw[g];refine⟨P,L,j,s,i,row,rfl,ok,R,k,h,f,a,?_⟩;cases e:AW P L s i (iV row)with
 |none=>rw[e]at b;rw[chD];rfl';exact⟨_,rfl,b⟩
 |some x=>rw[e]at b;rw[chD];rfl';exact⟨_,[x.1,x.2],rfl,b⟩
def xt:GN:=λds Q=> ∃(P:du) (L:dQ) (a:gN) (n:Nat) (b row:dE),ds=[kl (some (P,some (L,a))),iz n b row]/\xC P/\xa L/\Q (nA (match Blood.dropped P L row with
  | .ok l=>jj (~~~l:Int) (i9 l)
  | .error x=>jj (-5) [x.1,x.2]))
def DM(Z:Fx K mg cl):kF P w K mg base cl 5 "answer_drop" 2 xt:=by
 have S:Sc ["desk","call","missing"] (top 137):=by walk_at "s"
 refine fN.ok (Z.d 74 _ rfl) S rfl (λe=>(dg (ff (i:=2) S.nd (dU (Af Z) e (da (dS Z.T (dW 0)) (da (dS Z.T (dW 0)) (da (dS Z.T (dW 1)) dz))))) (dg (iw (Cf (dW 2)) (dn (eK (dU (ko Z) e (da (iy Z.G.bf) (da (dW 2) dz))))) gK) (dn (eK (dU (so Z) e (da (dU (y9 Z) e (da (dS Z.T (dW 0)) (da (dS Z.T (dW 0)) (da (dS Z.T (dW 1)) dz)))) dz))))))) ?_;rintro ds l ⟨P,L,h,n,m,row,rfl,f,g,b⟩;have a:0<L.total:=by
  have j:=g.wp 0 (by have:=g.k1;lia);have k:sJ L 0∈L.weights:=by
   unfold sJ;have:0< ~~~L.weights:=by have:=g.k1;unfold xh at this;lia
   rw[dG,df this];exact nG this
  exact fC j (xY k)
 rw[WV f row]at b;dsimp only[mU,iz,JL];rfl';refine⟨P,L,h,row,rfl,f.toGood,?_⟩;by_cases c: ~~~row<(needed P L (eV P)).length
 .rw[dq c]at b⊢;rw[Rn];rfl';exact⟨_,[((needed P L (eV P)).getD (~~~row) (0,0)).1,((needed P L (eV P)).getD (~~~row) (0,0)).2],rfl,b⟩
 .rw[di c]at b⊢;rfl';refine⟨P,L,h,row,rfl,f.toGood,a,by lia,?_⟩;exact⟨_,rfl,by have:=f.len;simp;lia,b⟩
def HW:GN:=λds Q=> ∃(n:Nat) (a:dE) (row:D),ds=[.obj 4 [nD n,.lst (hU a),row]]/\Q (.lst (hU (if n=10 then []else a)))
def Fd(Z:Fx K mg cl):kF P w K mg base cl 1 "persons_of" 1 HW:=by
 have S:Sc ["call"] (top 142):=by walk_at "s"
 refine fN.ok (Z.d 75 _ rfl) S rfl (λb=>(dn (eK (vE (gG k5 k6 (dS Z.T (dW 0)) (iy Z.G.cU) (fO _)) (ke dz) (dS Z.T (dW 0)))))) ?_;rintro ds e ⟨n,f,row,rfl,a⟩;rfl';simp only[nD];by_cases c:n=10
 .have g:(n:Int)=10:=by lia
  ac_rfl;rw[dq c]at a;exact a
 .grind
def uT(a:Ce):List Int:=Lm a.ret a.nums (a.text.map λ(b:UInt8)=>(b.toNat:Int))
def My:GN:=λds Q=> ∃a:Ce,ds=[nA a]/\ ~~~a.nums+ ~~~a.text<=2000000/\Q (.lst ((((uT a).length:Int)::uT a).map D.int))
def JX(Z:Fx K mg cl):kF P w K mg base cl 1 "laid_out" 1 My:=by
 have S:Sc ["answer","numbers"] (top 146):=by walk_at "s"
 refine fN.ok (Z.d 79 _ rfl) S rfl (λj=>(dg (ff (i:=1) S.nd (ke (da (dS Z.T (dW 0)) dz))) (dg (iw (K8.td (Ni (gG uG nu (iC Z.G.len (fI.r (dS Z.T (dW 0)))) dM (fO _)) (G8 (gG uG nu (iC Z.G.len (fI.r (dS Z.T (dW 0)))) dM (fO _))))) (dn (ff (i:=1) S.nd (vG (vG (vG (vG (dW 1) (ke (da (iC Z.G.len (fI.r (dS Z.T (dW 0)))) dz))) (dS Z.T (dW 0))) (ke (da (iC Z.G.len (fI.r (dS Z.T (dW 0)))) dz))) (dS Z.T (dW 0))))) gK) (dn (eK (vG (ke (da (iC Z.G.len (pr 1)) dz)) (dW 1))))))) ?_;rintro ds l ⟨a,rfl,g,c⟩;unfold uT Lm at c;have hz:=dO;have f:bD=λx:UInt8=>D.int (x.toNat:Int):=rfl;dsimp only[nA];rfl';simp only[dA];by_cases c1:a.nums=[]
 .by_cases c2:a.text=[]
  .rw[c1,c2,ip]at c⊢;ac_rfl;refine⟨by lia,?_⟩;exact c
  .have m:=kD.mpr c2;have e: ¬(a.nums=[]/\(a.text.map λ(b:UInt8)=>(b.toNat:Int))=[]):=λh=>c2 (by simpa using h.2);rw[di e]at c;simp only[show((0:Int)<((~~~a.text:Nat):Int))by lia,jv,ite_self];simp only[ib,dB,ip,dA];refine⟨by lia,by lia,by lia,by lia,by lia,?_⟩;simpa [f,jZ,adW,Vm]using c
 .have k:=kD.mpr c1;have e: ¬(a.nums=[]/\(a.text.map λ(b:UInt8)=>(b.toNat:Int))=[]):=λh=>c1 h.1;rw[di e]at c;simp only[show((0:Int)<((~~~a.nums:Nat):Int))by lia];simp only[ib,dB,ip,dA];refine⟨by lia,by lia,by lia,by lia,by lia,?_⟩;simpa [f,jZ,adW,Vm]using c
noncomputable def Dd(st:lM)(n:Nat)(a:dE):Option Int:=if n=1 then none else match st with
 |none=>some (-8)
 |some x=>if((if n=10 then []else a).any λp=>decide (x.1.length<=p))=true then some (-2)else if n∈ [11,12,13,14,15,16,17]/\x.2=none then some (-4)else none
def ZO(o:pN):D:=match o with
 |none=> .non
 |some z=> .int z
def Ct:List Int:=[11,12,13,14,15,16,17]
def zm:GN:=λds Q=> ∃(st:lM) (n:Nat) (a:dE) (row:D),ds=[kl st,.obj 4 [nD n,.lst (hU a),row]]/\ ~~~a<=1000/\Q (ZO (Dd st n a))
def Fc(Z:Fx K mg cl)(a:Xk K mg "CALLS_AT_PLACE" Ct):kF P w K mg base cl 2 "refusal_of" 2 zm:=by
 have S:Sc ["desk","call","person"] (top 143):=by walk_at "s"
 refine fN.ok (Z.d 76 _ rfl) S rfl (λu=>(dg (iw (gG k5 k6 (dS Z.T (dW 1)) (iy Z.G.cV) (fO _)) (dn (eK oH)) gK) (dg (iw (xP (dS Z.T (dW 0))) (dn (eK (iy Z.G.cf))) gK) (dg (iw (nq (Sx Z.G.any rfl (by decide+kernel) (fI.r (sS [("person",2)] rfl S.nd S.bk (hG (dU (Fd Z) u (da (dW 1) dz))) (λ_ _ _ _ _=>(gb (i:=2) S.nd)) (λ_ _ _ _ _=>mK) (λ_ _ _ _ _=>(pw SE nu (dW 2) (iC Z.G.len (fI.r (dS Z.T (dS Z.T (dW 0))))) (fO _))))))) (dn (eK (iy Z.G.bu))) gK) (dg (iw (K8.td (CK (RA a (dS Z.T (dW 1))) (yO (xP (dS Z.T (dW 0)))))) (dn (eK (iy Z.G.cB))) gK) (dn (eK oH))))))) ?_;rintro ds z ⟨st,n,l,row,rfl,g,b⟩;unfold Dd at b;cases st with
 |none=>
  dsimp only[kl,Bs];rfl';simp only[nD];by_cases c:n=1
  .have j:(n:Int)=1:=by lia
   ac_rfl;rw[dq c]at b;exact b
  .have j: ¬(n:Int)=1:=by lia
   ac_rfl;rw[di c]at b;exact b
 |some x=>
  obtain⟨P,pl⟩:=x;simp only at b;simp only[mU];rfl';simp only[nD];by_cases c:n=1
  .have j:(n:Int)=1:=by lia
   ac_rfl;rw[dq c]at b;exact b
  .have j: ¬(n:Int)=1:=by lia
   ac_rfl;rw[di c]at b;simp only[iN];rfl';refine⟨n,l,row,rfl,?_⟩;generalize hv:(if n=10 then []else l)=vs at b;have q: ~~~vs<=1000:=by
    rw[<-hv];split
    .simp
    .exact g
   refine⟨by rw[jA,dO];lia,?_⟩;have e:(me P).length= ~~~P:=by unfold me;simp
   refine mM nD (λp=> .bl (decide (~~~P<=p))) vs (λp v A s=> ?_) ?_
   .ac_nf;rw[e];have:decide (((~~~P:Nat):Int)<=((p:Nat):Int))=decide (~~~P<=p):=by rw[iH];lia
    simp only[nD,this];exact s
   .rfl';refine⟨vs.map λp=>decide (~~~P<=p),by rw[dm];rfl,?_⟩;have o:(vs.map λp=>decide (~~~P<=p)).any id=vs.any λp=>decide (~~~P<=p):=by rw[BB];rfl
    rw[o];by_cases c2:(vs.any λp=>decide (~~~P<=p))=true
    .rw[dq c2]at b;simp only[c2,jv];exact b
    .rw[di c2]at b;simp only[c2,hJ,eW];have f:((n:Int)∈Ct)=(n∈ [11,12,13,14,15,16,17]):=by
      rw[show Ct=[11,12,13,14,15,16,17].map (λk:Nat=>(k:Int))from rfl];refine propext ⟨λh=> ?_,λh=>yH h⟩;let⟨(m),t,e⟩:=dk.mp h;have:m=n:=by lia
      subst this;exact t
     simp only[f];by_cases c3:n∈ [11,12,13,14,15,16,17]
     .simp only[c3,rH,jv,true_and]at b⊢;cases pl with
      |none=>simp only[JL]at b⊢;simpa [ZO]using b
      |some y=>simp only[JL,fJ]at b⊢;simpa [ZO]using b
     .simp only[c3,qo,hJ,false_and,eW]at b⊢;exact b
def CH(z:Int):Option Int:=(gh z).map λp=>(p.1:Int)
def rO:List Int:=[1,4,10,11,16,17]
noncomputable def xy(c:List (List Int)):D:= .obj 4 [.int ((c.headD []).headD 0),.lst (((c.headD []).tail).map D.int),.lst (((c.tail).headD []).map D.int)]
noncomputable def RL:List (Int×Nat×Nat):=[(1,0,1),(2,0,0),(3,1,0),(4,0,1),(5,2,0),(6,1,0),(7,2,0),(8,2,0),(9,2,0),(10,1,1),(11,1,1),(12,1,0),(13,1,0),(14,0,0),(15,0,0),(16,1,1),(17,0,1)]
def FX(h:gh p=some x):(p,x)∈RL:=by
 unfold gh at h;by_cases e:p=1
 .subst e;rw[dq rfl]at h;cases h;decide
 rw[di e]at h;clear e;by_cases e:p=2
 .subst e;rw[dq rfl]at h;cases h;decide
 rw[di e]at h;clear e;by_cases e:p=3
 .subst e;rw[dq rfl]at h;cases h;decide
 rw[di e]at h;clear e;by_cases e:p=4
 .subst e;rw[dq rfl]at h;cases h;decide
 rw[di e]at h;clear e;by_cases e:p=5
 .subst e;rw[dq rfl]at h;cases h;decide
 rw[di e]at h;clear e;by_cases e:p=6
 .subst e;rw[dq rfl]at h;cases h;decide
 rw[di e]at h;clear e;by_cases e:p=7
 .subst e;rw[dq rfl]at h;cases h;decide
 rw[di e]at h;clear e;by_cases e:p=8
 .subst e;rw[dq rfl]at h;cases h;decide
 rw[di e]at h;clear e;by_cases e:p=9
 .subst e;rw[dq rfl]at h;cases h;decide
 rw[di e]at h;clear e;by_cases e:p=10
 .subst e;rw[dq rfl]at h;cases h;decide
 rw[di e]at h;clear e;by_cases e:p=11
 .subst e;rw[dq rfl]at h;cases h;decide
 rw[di e]at h;clear e;by_cases e:p=12
 .subst e;rw[dq rfl]at h;cases h;decide
 rw[di e]at h;clear e;by_cases e:p=13
 .subst e;rw[dq rfl]at h;cases h;decide
 rw[di e]at h;clear e;by_cases e:p=14
 .subst e;rw[dq rfl]at h;cases h;decide
 rw[di e]at h;clear e;by_cases e:p=15
 .subst e;rw[dq rfl]at h;cases h;decide
 rw[di e]at h;clear e;by_cases e:p=16
 .subst e;rw[dq rfl]at h;cases h;decide
 rw[di e]at h;clear e;by_cases e:p=17
 .subst e;rw[dq rfl]at h;cases h;decide
 rw[di e]at h;clear e;cases h
def FY(h:gh p=some (n,k)):n<=2/\((k=0/\p∉rO)\/(k=1/\p∈rO)):=
 (by decide: ∀q∈RL,q.2.1<=2/\((q.2.2=0/\q.1∉rO)\/(q.2.2=1/\q.1∈rO))) _ (FX h)
def KS(h:wX gh (p::r)=some (c,t)): ∃n k,gh p=some (n,k)/\n<= ~~~r/\((k=0/\c=[p::r.take n]/\t=r.drop n)\/(k=1/\ ∃m a,r.drop n=m::a/\0<=m/\m.toNat<= ~~~a/\c=[p::r.take n,a.take m.toNat]/\t=a.drop m.toNat)):=by
 unfold wX at h;simp only at h;cases e:gh p with
 |none=>rw[e]at h;cases h
 |some nk=>
  obtain⟨n,k⟩:=nk;rw[e]at h;simp only at h;split at h
  .cases h
  .rename_i b;refine⟨n,k,rfl,by lia,?_⟩;rcases(FY e).2 with⟨rfl,_⟩|⟨rfl,_⟩
   .left;cases h
    simp_all
   .right;refine⟨rfl,?_⟩;unfold PyFlat.rows at h;cases er:r.drop n with
    |nil=>rw[er]at h;simp[abF]at h
    |cons m a=>
     rw[er]at h;rw[abF]at h;by_cases c0:0<=m/\m.toNat<= ~~~a
     .rw[dq c0]at h;cases h
      exact⟨m,a,rfl,c0.1,c0.2,rfl,rfl⟩
     .rw[di c0]at h;cases h
def Em:GN:=λds Q=> ∃(l:jn) (a:List (List (List Int))) (f:Nat),ds=[.lst (l.map D.int)]/\ ~~~l<=31000/\jR gh f l=some a/\Q (.lst (a.map xy))
def J0(Z:Fx K mg cl)(e:Xk K mg "CALLS_WITH_ROW" rO)(g: ∃a vs,mg "WHOLE_NUMBERS" =some (.ref a)/\GQ P w K a vs/\ ∀z n,CH z=some n-> ∃t,o8 vs (.inl z)=some (.int n t)):kF P w K mg base cl 3 "calls_in" 1 Em:=by
 have S:Sc ["numbers","found","at","number","end","whole_numbers","row","row_start"] (top 145):=by walk_at "s"
 refine fN.ok (Z.d 78 _ rfl) S rfl (λhr=>(dg (qz (i:=1) S.nd dz) (dg (ff (i:=2) S.nd dM) (dg (p5 .never (gG A9 nu (dW 2) (iC Z.G.len (pr 0)) (fO _)) (dg (ff (i:=3) S.nd (fK (pr 0) (dW 2))) (dg (ff (i:=4) S.nd (lH (lH (dW 2) dM) (acr g (dW 3)))) (dg (ff (i:=5) S.nd (vF (pr 0) (lR (lH (dW 2) dM)) (lR (dW 4)))) (dg (ff (i:=6) S.nd (ke dz)) (dg (iw (RA e (dW 3)) (dg (ff (i:=7) S.nd (lH (dW 4) dM)) (dg (ff (i:=4) S.nd (lH (dW 7) (fK (pr 0) (dW 4)))) (dn (ff (i:=6) S.nd (vF (pr 0) (lR (dW 7)) (lR (dW 4))))))) gK) (dg (vB (i:=1) (pv 1) (pT (Wo Z) hr (da (dW 3) (da (dW 5) (da (dW 6) dz))))) (dn (ff (i:=2) S.nd (dW 4)))))))))) (ma 1 (dn (eK (dW 1)))))))) ?_;rintro ds QD ⟨l,J,f,rfl,x2,E,hg⟩;ac_nf;walk_at "n";refine n8 (S:=List (List (List Int))×Nat×Jn×Jn×Jn×Jn×Jn) (λs=> [some (.val (.lst (l.map D.int))),some (.ol (s.1.map xy)),some (.val (nD s.2.1)),s.2.2.1,s.2.2.2.1,s.2.2.2.2.1,s.2.2.2.2.2.1,s.2.2.2.2.2.2]) (λs=>s.2.1<= ~~~l/\s.1.length<=s.2.1/\ ∃f rest,jR gh f (l.drop s.2.1)=some rest/\s.1++rest=J) (λs=> ~~~l-s.2.1) ?_ ([],0,none,none,none,none,none) ⟨by simp,by simp,f,J,E,rfl⟩;rintro⟨p,b,j1,j2,j3,j4,Y⟩ ⟨N,U,f,rest,j,y⟩ k hk;simp only at N U j y;ac_nf;walk_at "n";rw[nD,dA];by_cases c:b< ~~~l
 .have X:(b:Int)<(~~~l:Int):=by lia
  ac_rfl;have hd:l.drop b=l[b]::l.drop (b+1):=fV c;rw[hd]at j;cases f with
  |zero=>simp[jR]at j
  |succ f=>
   unfold jR at j;cases ec:wX gh (l[b]::l.drop (b+1))with
   |none=>rw[ec]at j;cases j
   |some ct=>
    obtain⟨cc,t⟩:=ct;rw[ec]at j;simp only at j;cases er:jR gh f t with
    |none=>rw[er]at j;cases j
    |some o=>
     rw[er]at j;cases j;have O:nB (l.map D.int) (b:Int)=some (.int l[b]):=by rw[jf,dX,df c];rfl
     let⟨n kk,F,T,I⟩:=KS ec;have u:=FY F;have hw:CH l[b]=some (n:Int):=by unfold CH;rw[F];rfl
     simp only[O];rw[hw];rfl';rw[nF]at T;have ce:((b:Int)+1+(n:Int))=((b+1+n:Nat):Int):=by lia
     have ca:((b:Int)+1)=((b+1:Nat):Int):=by lia
     have A:cutD (l.map D.int) (some ((b:Int)+1)) (some ((b:Int)+1+(n:Int)))=((l.drop (b+1)).take n).map D.int:=by rw[ce,ca,wb (by lia) (by simp;lia),zK,tP,show b+1+n-(b+1)=n by lia]
     rw[A];have Q: ~~~p<100000:=by lia
     rcases I with⟨rfl,rfl,rfl⟩|⟨rfl,m,B,x,M,x0,rfl,rfl⟩
     .have C:l[b]∉rO:=by rcases u.2 with h|h;exact h.2;exact absurd h.1 (by lia)
      ac_rfl;refine⟨by rw[dO];(try simp)<;>lia,?_⟩;have:=hk (p++ [[l[b]::(l.drop (b+1)).take n]],b+1+n,some (.val (.int l[b])),some (.val (nD (b+1+n))),some (.val (.lst (((l.drop (b+1)).take n).map D.int))),some (.val (.lst [])),Y) ⟨by show b+1+n<=_;lia,by simp;lia,f,o,by rw[nj]at er;exact er,by rw[<-y];simp⟩ (by show ~~~l-(b+1+n)< ~~~l-b;lia);rw[ce];simpa [xy,nD]using this
     .have C:l[b]∈rO:=by rcases u.2 with h|h;exact absurd h.1 (by lia);exact h.2
      ac_rfl;rw[nj]at x;have r:b+1+n< ~~~l:=by apply dP;intro I;rw[vt (by lia)]at x;cases x
      rw[fV r]at x;injection x with hm1 hm2;have R:nB (l.map D.int) ((b:Int)+1+(n:Int))=some (.int m):=by rw[ce,jf,dX,df r,hm1];rfl
      rw[R];rfl';have x1: ~~~B= ~~~l-(b+1+n+1):=by rw[<-hm2];simp
      have H:((b:Int)+1+(n:Int)+1+m)=((b+1+n+1+m.toNat:Nat):Int):=by lia
      have v:((b:Int)+1+(n:Int)+1)=((b+1+n+1:Nat):Int):=by lia
      have q:cutD (l.map D.int) (some ((b:Int)+1+(n:Int)+1)) (some ((b:Int)+1+(n:Int)+1+m))=(B.take m.toNat).map D.int:=by rw[H,v,wb (by lia) (by simp;lia),<-hm2,zK,tP,show b+1+n+1+m.toNat-(b+1+n+1)=m.toNat by lia]
      rw[q];refine⟨by rw[dO];(try simp)<;>lia,?_⟩;have:=hk (p++ [[l[b]::(l.drop (b+1)).take n,B.take m.toNat]],b+1+n+1+m.toNat,some (.val (.int l[b])),some (.val (nD (b+1+n+1+m.toNat))),some (.val (.lst (((l.drop (b+1)).take n).map D.int))),some (.val (.lst ((B.take m.toNat).map D.int))),some (.val (nD (b+1+n+1)))) ⟨by show b+1+n+1+m.toNat<=_;lia,by simp;lia,f,o,by rw[<-hm2,nj]at er;exact er,by rw[<-y];simp⟩ (by show ~~~l-(b+1+n+1+m.toNat)< ~~~l-b;lia);rw[H,v];simp only[jF,dt,jw]at this;exact this
 .have X: ¬(b:Int)<(~~~l:Int):=by lia
  ac_rfl;have:l.drop b=[]:=vt (by lia);rw[this]at j;have j:rest=[]:=by cases f<;>simp[jR]at j<;>exact j
  subst j;simp at y;subst y;exact hg
end
section
def Y3(X:Cx)(k:Nat)(g:TE)(t:TA):TE:=λc H Q=>g c H λv d=> ∃f b ps a,v= .ref f/\qY X.prog X.w X.K X.mg X.base QE k f b ps a/\iL X.K (.ref f)=true/\L2.Binds X.K b ps []/\t c d λh e=>a h e Q E0
def Si(p:oo k X.A)(x:PE X fe tf)(w:PA X (e::es) t)(a:fX (.Call fe (e::es) [] pos) X.env=(do
  callWith pos (<-fX fe X.env) [] (gy pos (dj (e::es) X.env)) (xb pos (pX [] X.env))):=by rfl)
  (he:dj (e::es) X.env=(false,fX e X.env)::dj es X.env:=by rfl)(hpl:(gy pos (dj es X.env)).any (·.1)=false:=by rfl):PE X (.Call fe (e::es) [] pos) (Y3 X k tf t):=by
 intro pz s c H Q I h;rw[a];refine c9 (jo (x pz s c H _ I h) λu m b=> ?_);obtain⟨v,i,d,l,f,B,ps,z,j,F,hk,n,q⟩:=b;subst j;obtain rfl:u=eD f:=l;refine yt d.ok.mod.kin hk (jo (w pos pz m c i _ d q) λus E b=> ?_) he hpl;let⟨C y,g,r,o⟩:=b;refine⟨g.bb,?_⟩;exact RR F p n .nil Dy g r (by rw[km];exact o)
end
def mG(T:qj)(F H:Hp)(p:eB)(l:List D):Prop:=F p=none/\ ~~~l=2/\ ∃o,H p=some o/\lT T F p (.oi p 6 l) o
structure p9(T:qj)(p:eB)(F H F' H':Hp):Prop where
 le: ∀a o,F a=some o->F' a=some o\/uw T o
 ext:oW F' H'
 same: ∀a o,H a=some o->F a=none->a≠p->UH (some o)->H' a=some o/\F' a=none
def fT.after(g:fT F H F' H'):p9 T p F H F' H' where
 le:=λa o h=> .inl (g.le a o h)
 ext:=g.ext
 same:=λa o h c _ b=>⟨g.same a o h,by rw[g.aB h (by rintro us rfl;exact b)];exact c⟩
def mG.grow(h:mG T F H p l)(g:fT F H F' H'):mG T F' H' p l:=by obtain⟨c,d,o,a,b⟩:=h;refine⟨?_,d,o,g.same _ _ a,b.mono g.le⟩;rw[g.aB a (by rintro us rfl;exact b.cC)];exact c
def p9.grow(a:p9 T p F H F1 H1)(g:fT F1 H1 F2 H2):p9 T p F H F2 H2 where
 le:=λx o h=>(a.le x o h).imp (g.le x o) id
 ext:=g.ext
 same:=λx o h f d c=>by let⟨b,e⟩:=a.same x o h f d c;exact⟨g.same _ _ b,by rw[g.aB b (by rintro us rfl;exact c)];exact e⟩
def fT.br(g:fT F H F1 H1)(a:p9 T p F1 H1 F2 H2):p9 T p F H F2 H2 where
 le:=λx o h=>a.le x o (g.le x o h)
 ext:=a.ext
 same:=λx o h d c b=>a.same x o (g.same _ _ h) (by rw[g.aB h (by rintro us rfl;exact b)];exact d) c b
def w8(F H:Hp):Prop:= ∀r a,F r=some (.dK a)->H r=some (.dK a)
open Classical in
noncomputable def trim(T:qj)(F F2:Hp):Hp:=λa=>if F a≠none then F a else if∃o,F2 a=some o/\uw T o then none else F2 a
section
def oE(g:fT F H F2 H2)(m:w8 F H):fT F H (trim T F F2) H2/\w8 (trim T F F2) H2/\ ∀a o,F2 a=some o->trim T F F2 a=some o\/uw T o:=by
 have f: ∀a o,F a=some o->trim T F F2 a=some o:=λa o h=>by unfold trim;rw[dq (by rw[h];simp)];exact h
 have l: ∀a o,F a=none->trim T F F2 a=some o->F2 a=some o/\ ¬uw T o:=λa o h b=>by
  unfold trim at b;rw[di (by simp[h])]at b;split at b
  .cases b
  .rename_i q;exact⟨b,λj=>q ⟨o,b,j⟩⟩
 refine⟨⟨f,λa n=> ?_,g.same,λa o h=> ?_⟩,λr i h=> ?_,λa o h=> ?_⟩
 .cases e:F a with
  |some o=>exact .inl (f a o e)
  |none=>
   rcases g.old a n with z|⟨us,p,k⟩
   .left;unfold trim;rw[di (by simp[e]),z,e];split<;>rfl
   .right;refine⟨us,p,?_⟩;unfold trim;rw[di (by simp[e]),di]
    .exact k
    .rintro⟨o,d,b⟩;rw[k]at d;cases d;rcases b with⟨_,h⟩|⟨_,h⟩|⟨_,_,h⟩<;>cases (h)
 .cases e:F a with
  |some c=>rw[f a c e]at h;cases (h);exact g.ext a o (g.le a o e)
  |none=>exact g.ext a o (l a o e h).1
 .cases e:F r with
  |some c=>rw[f r c e]at h;cases (h);exact g.same _ _ (m r i e)
  |none=>exact absurd (.inl ⟨i,rfl⟩) (l r _ e h).2
 .cases e:F a with
  |some c=>have:=g.le a c e;rw[h]at this;cases this;exact .inl (f a o e)
  |none=>
   by_cases j:uw T o
   .exact .inr j
   .left;unfold trim;rw[di (by simp[e]),di]
    .exact h
    .rintro⟨c,d,b⟩;rw[h]at d;cases d;exact j b
end
def Jp(le:Le F F8)(a:p9 T p F H F8 H8)(m:w8 F H8):p9 T p F H (trim T F F8) H8/\w8 (trim T F F8) H8/\ ∀a o,F8 a=some o->trim T F F8 a=some o\/uw T o:=by
 have g: ∀a o,F a=some o->trim T F F8 a=some o:=λa o h=>by unfold trim;rw[dq (by rw[h];simp)];exact h
 have j: ∀a o,F a=none->trim T F F8 a=some o->F8 a=some o/\ ¬uw T o:=λa o h b=>by
  unfold trim at b;rw[di (by simp[h])]at b;split at b
  .cases b
  .rename_i n;exact⟨b,λi=>n ⟨o,b,i⟩⟩
 refine⟨⟨λx o h=> .inl (g x o h),λx o h=> ?_,λx o h k l q=> ?_⟩,λr d h=> ?_,λx o h=> ?_⟩
 .cases e:F x with
  |some c=>rw[g x c e]at h;cases (h);exact a.ext x o (le x o e)
  |none=>exact a.ext x o (j x o e h).1
 .obtain⟨f,b⟩:=a.same x o h k l q;refine⟨f,?_⟩;unfold trim;rw[di (by simp[k]),b];split<;>rfl
 .cases e:F r with
  |some c=>rw[g r c e]at h;cases (h);exact m r d e
  |none=>exact absurd (.inl ⟨d,rfl⟩) (j r _ e h).2
 .cases e:F x with
  |some c=>have:=le x c e;rw[h]at this;cases this;exact .inl (g x o e)
  |none=>
   by_cases i:uw T o
   .exact .inr i
   .left;unfold trim;rw[di (by simp[e]),di]
    .exact h
    .rintro⟨c,f,b⟩;rw[h]at f;cases f;exact i b
abbrev GA:=lM->Nat->List Nat->List Nat->(lM->D->Prop)->Prop
def spA(T:qj)(gA:GA):Sp:=λg H Q _=> ∃p u F st n f row e,g=[.ref p,u]/\oW F H/\w8 F H/\mG T F H p (Bs st)/\k7 T F u (iz n f row)/\gA st n f row e/\
 ∀v d a c b,p9 T p F H c b->w8 c b->mG T c b p (Bs a)->k7 T c v d->e a d->Q v b
def Qm(st:lM):(Bs st).length=2:=by cases st<;>rfl
def mG.lend(h:mG T F H p l):K7 T F H (.ref p) (.obj 6 l):=by obtain⟨b,d,o,e,a⟩:=h;refine .inr ⟨p,o,.oi p 6 l,rfl,e,b,a,rfl,d,?_⟩;obtain⟨_,_,c,us,rfl,_⟩:=a;exact .inr (.inr ⟨c,_,rfl⟩)
section
variable {K:dh}
def FnA(P:fY)(w:iu)(K:dh)(mg:kQ)(base:iZ)(cl:nL)(k:Nat)(x:gw)(gA:GA):Prop:=
 ∃f a ps,qY P w K mg base QE k f a ps (spA ⟨K,cl⟩ gA)/\mg x=some (.ref f)/\iL K (.ref f)=true/\L2.Binds K a ps []
def kF.ba(l:qj.Ok ⟨K,cl⟩)(h:kF P w K mg base cl k x 2 g)(M: ∀st n a row c,gA st n a row c->g [kl st,iz n a row] λd=>ju d/\c st d):FnA P w K mg base cl k x gA:=by let⟨f t ps,F,J,I,b⟩:=h;refine⟨f,t,ps,F.imp λU H Q E O=> ?_,J,I,b⟩;obtain⟨p,u,F,st,n,a,row,c,y,e,z,hd,R,o,S⟩:=O;subst y;have r:fh (K7 ⟨K,cl⟩ F H) [.ref p,u] [kl st,iz n a row]:=fh.cons hd.lend (fh.cons (.inl R) fh.nil);let⟨(N),A,j,B,c1⟩:=lend e r;refine⟨N,_,_,A,B,rfl,M st n a row c o,λv d Y q g' m i=> ?_⟩;let⟨(X),g2,s⟩:=Rm l j c1 g' m i.1;let⟨g3,C,G⟩:=oE (T:=⟨K,cl⟩) g2 z;exact S v d st _ q g3.after C (hd.grow g3) (s.plain l i.1 G) i.2
end
def ie(a:Ce):ju (nA a):= .obj (by lia) λd hd=>by
 simp at hd;rcases hd with rfl|rfl|rfl
 .exact .int _
 .exact .lst λd hd=>by let⟨(i),_,rfl⟩:=dk.mp hd;exact .int _
 .exact .lst λd hd=>by let⟨(i),_,rfl⟩:=dk.mp hd;exact .int _
structure Yt(P:du)(L:dQ)(sd:gN)(s:lN):Prop where
 ok:xa L
 rel:lP P L sd s
 nd:(sd.map (·.1)).Nodup
 lt: ∀q∈sd,q.1< ~~~P
 ln: ∀q∈sd,q.2.length<=64
inductive w9:lM->jD->Prop
 |none:w9 none none
 |fam {P:du} (g:xC P):w9 (some (P,Ll)) (some ⟨P,Ll⟩)
 |pl {P:du} {L:dQ} {sd:gN} {s:lN} (g:xC P) (r:Yt P L sd s):w9 (some (P,some (L,sd))) (some ⟨P,some (L,s)⟩)
def c0(x:qa):List Nat->Option qa
 | []=>some x
 |_=>none
def c1(f:Nat->qa):List Nat->Option qa
 | [i]=>some (f i)
 |_=>none
def c2(f:Nat->Nat->qa):List Nat->Option qa
 | [a,b]=>some (f a b)
 |_=>none
def callC(n:Nat)(a row:dE):Option Blood.Call:=
 if n=1 then c0 (.read (row.map jC)) a else if n=2 then c0 .people a else if n=3 then c1 .person a else if n=4 then c0 (.find (row.map jC)) a else if n=5 then c2 .kin a else if n=6 then c1 .inbred a else if n=7 then c2 .states a else if n=8 then c2 .tie a else if n=9 then c2 .paths a else if n=10 then c1 (λk=> .place k row) a else if n=11 then c1 (λi=> .see i (iV row)) a else if n=12 then c1 .seen a else if n=13 then c1 .can a else if n=14 then c0 .first a else if n=15 then c0 .worlds a else if n=16 then c1 (λi=> .chance i (iV row)) a else if n=17 then c0 (.drop row) a else none
structure aaR(st:lM)(n:Nat)(row:dE):Prop where
 len: ~~~row<=66000
 byt:n=1\/n=4-> ∀x∈row,x<256
 cO:n=10\/n=11\/n=16\/n=17-> ~~~row<=1000
 two:n=11\/n=16-> ~~~row%2=0
 kin:n=5\/n=6\/n=7-> ∀P pl,st=some (P,pl)->4*4^(fW P).length<=1000000
 cH:n=13\/n=14\/n=15\/n=16-> ∀P L sd,st=some (P,some (L,sd))->nY P L (eV P)<=1000000
 log:n=16-> ∀P L sd s,st=some (P,some (L,sd))->Yt P L sd s->(rM P L (rN P L s)).log2<9000
def afr:GA:=λst n b row d=> ∃s c,w9 st s/\callC n b row=some c/\aaR st n row/\Dd st n b=none/\ ∀a,w9 a (fG s c).1->d a (nA (fG s c).2)
def wO(m:Nat):GA:=λst n b row a=>n=m/\afr st n b row a
def mr(h: ∀i∈l,i< ~~~P):CD P l a=a:=by
 unfold CD
 simp_all
def kj{st:lM}{n:Nat}{b:dE}(h:Dd st n b=none)(d:n≠1): ∃P pl,st=some (P,pl)/\(n≠10-> ∀i∈b,i< ~~~P)/\(n∈ [11,12,13,14,15,16,17]-> ∃x,pl=some x):=by
 unfold Dd at h;rw[di d]at h;cases st with
 |none=>cases h
 |some x=>
  obtain⟨P,pl⟩:=x;simp only at h;by_cases h1:((if n=10 then []else b).any λp=>decide (~~~P<=p))=true
  .rw[dq h1]at h;cases h
  .rw[di h1]at h;refine⟨P,pl,rfl,λc i e=> ?_,λa=> ?_⟩
   .simp_all
   .cases pl with
    |some x=>exact⟨x,rfl⟩
    |none=>rw[dq ⟨a,rfl⟩]at h;cases h
def w9.aj{P:du}{pl:Option (dQ×gN)}{s:jD}(h:w9 (some (P,pl)) s):xC P/\ ∃a,s=some ⟨P,a⟩:=by
 cases h with
 |fam g=>exact⟨g,_,rfl⟩
 |pl g r=>exact⟨g,_,rfl⟩
def w9.ay{P:du}{L:dQ}{a:gN}{s:jD}(h:w9 (some (P,some (L,a))) s):xC P/\ ∃b,Yt P L a b/\s=some ⟨P,some (L,b)⟩:=by
 cases h with
 |pl g r=>exact⟨g,_,r,rfl⟩
def OU{st:lM}{n:Nat}{b row:dE}{e:lM->D->Prop}(h:wO 2 st n b row e):uQ [kl st,iz n b row] λd=>ju d/\e st d:=by
 obtain⟨rfl,s,c,R,a,m,i,f⟩:=h;let⟨P pl,rfl,k,l⟩:=kj i (by lia);obtain⟨g,j,rfl⟩:=R.aj
 match b,a with
 | [],a=>
  cases a
  have:=f _ R;exact⟨P,pl,2,[],row,rfl,ie _,this⟩
def OT{st:lM}{n:Nat}{j row:dE}{k:lM->D->Prop}(h:wO 3 st n j row k):uP [kl st,iz n j row] λd=>ju d/\k st d:=by
 obtain⟨rfl,s,c,R,f,q,o,m⟩:=h;let⟨P pl,rfl,a,p⟩:=kj o (by lia);obtain⟨g,b,rfl⟩:=R.aj
 match j,f,a with
 | [i],f,a=>
  cases f
  have l:=a (by lia) i (by simp);have:=m _ R;have e:(fG (some ⟨P,b⟩) (.person i)).2=_:=mr (by simpa using l);rw[e]at this;exact⟨P,pl,3,i,row,rfl,l,ie _,this⟩
def Vz{st:lM}{n:Nat}{b row:dE}{f:lM->D->Prop}(h:wO 4 st n b row f):xr [kl st,iz n b row] λd=>ju d/\f st d:=by
 obtain⟨rfl,s,c,R,a,j,m,i⟩:=h;let⟨P pl,rfl,p,q⟩:=kj m (by lia);obtain⟨g,o,rfl⟩:=R.aj
 match b,a with
 | [],a=>
  cases a
  have:=i _ R;refine⟨P,pl,4,[],row.map jC,?_,ie _,this⟩;have e:(row.map jC).map bD=hU row:=by
   rw[dm];apply nS;intro x k;have:=j.byt (.inr rfl) x k;have l:(jC x).toNat=x:=by
    simp_all
   show D.int (((jC x).toNat:Nat):Int)=D.int (x:Int);rw[l]
  rw[e];rfl
def YU{st:lM}{n:Nat}{k row:dE}{m:lM->D->Prop}(h:wO 5 st n k row m):zt [kl st,iz n k row] λd=>ju d/\m st d:=by
 obtain⟨rfl,s,c,R,j,q,r,p⟩:=h;let⟨P pl,rfl,f,t⟩:=kj r (by lia);obtain⟨g,i,rfl⟩:=R.aj
 match k,j,f with
 | [a,b],j,f=>
  cases j
  have o:=f (by lia) a (by simp);have l:=f (by lia) b (by simp);have:=p _ R;have e:(fG (some ⟨P,i⟩) (.kin a b)).2=_:=mr (by simp;exact⟨o,l⟩);rw[e]at this;exact⟨P,pl,5,a,b,row,rfl,g.toGood,o,l,q.kin (by lia) P pl rfl,ie _,this⟩
def OV{st:lM}{n:Nat}{j row:dE}{k:lM->D->Prop}(h:wO 6 st n j row k):uR [kl st,iz n j row] λd=>ju d/\k st d:=by
 obtain⟨rfl,s,c,R,f,o,p,m⟩:=h;let⟨P pl,rfl,a,q⟩:=kj p (by lia);obtain⟨g,b,rfl⟩:=R.aj
 match j,f,a with
 | [i],f,a=>
  cases f
  have l:=a (by lia) i (by simp);have:=m _ R;have e:(fG (some ⟨P,b⟩) (.inbred i)).2=_:=mr (by simpa using l);rw[e]at this;exact⟨P,pl,6,i,row,rfl,g.toGood,l,o.kin (by lia) P pl rfl,ie _,this⟩
def OS{st:lM}{n:Nat}{k row:dE}{m:lM->D->Prop}(h:wO 7 st n k row m):uO [kl st,iz n k row] λd=>ju d/\m st d:=by
 obtain⟨rfl,s,c,R,j,q,r,p⟩:=h;let⟨P pl,rfl,f,t⟩:=kj r (by lia);obtain⟨g,i,rfl⟩:=R.aj
 match k,j,f with
 | [a,b],j,f=>
  cases j
  have o:=f (by lia) a (by simp);have l:=f (by lia) b (by simp);have:=p _ R;have e:(fG (some ⟨P,i⟩) (.states a b)).2=_:=mr (by simp;exact⟨o,l⟩);rw[e]at this;exact⟨P,pl,7,a,b,row,rfl,g.toGood,o,l,q.kin (by lia) P pl rfl,ie _,this⟩
def YT{st:lM}{n:Nat}{k row:dE}{m:lM->D->Prop}(h:wO 8 st n k row m):zr [kl st,iz n k row] λd=>ju d/\m st d:=by
 obtain⟨rfl,s,c,R,j,t,q,p⟩:=h;let⟨P pl,rfl,f,r⟩:=kj q (by lia);obtain⟨g,i,rfl⟩:=R.aj
 match k,j,f with
 | [a,b],j,f=>
  cases j
  have o:=f (by lia) a (by simp);have l:=f (by lia) b (by simp);have:=p _ R;have e:(fG (some ⟨P,i⟩) (.tie a b)).2=_:=mr (by simp;exact⟨o,l⟩);rw[e]at this;exact⟨P,pl,8,a,b,row,rfl,g.toGood,o,l,ie _,this⟩
def Ru{st:lM}{n:Nat}{k row:dE}{m:lM->D->Prop}(h:wO 9 st n k row m):vX [kl st,iz n k row] λd=>ju d/\m st d:=by
 obtain⟨rfl,s,c,R,j,t,q,p⟩:=h;let⟨P pl,rfl,f,r⟩:=kj q (by lia);obtain⟨g,i,rfl⟩:=R.aj
 match k,j,f with
 | [a,b],j,f=>
  cases j
  have o:=f (by lia) a (by simp);have l:=f (by lia) b (by simp);have:=p _ R;have e:(fG (some ⟨P,i⟩) (.paths a b)).2=_:=mr (by simp;exact⟨o,l⟩);rw[e]at this;exact⟨P,pl,9,a,b,row,rfl,g.toGood,o,l,ie _,this⟩
def Vy{st:lM}{n:Nat}{j row:dE}{k:lM->D->Prop}(h:wO 12 st n j row k):xq [kl st,iz n j row] λd=>ju d/\k st d:=by
 obtain⟨rfl,s,c,R,f,v,u,p⟩:=h;let⟨P pl,rfl,b,q⟩:=kj u (by lia);obtain⟨⟨L,m⟩,rfl⟩:=q (by simp);obtain⟨g,a,r,rfl⟩:=R.ay
 match j,f,b with
 | [i],f,b=>
  cases f
  have o:=b (by lia) i (by simp);have:=p _ R;have e:(fG (some ⟨P,some (L,a)⟩) (.seen i)).2=_:=mr (by simpa using o);rw[e]at this;have t:Blood.placed ⟨P,some (L,a)⟩ (λ_ s=>jj ((s.getD i []).length:Int) (i9 (s.getD i [])))=jj ((a.getD i []).length:Int) (i9 (a.getD i [])):=rfl;rw[t,r.rel.get i o]at this;refine⟨P,L,m,12,i,row,rfl,by have:=r.ok.k8;lia,?_,ie _,this⟩;cases eg:gB m i with
  |none=>have:=um L.kinds;have w:=kh r.ok.k8 r.ok.k8;show(il L.kinds).length<=_;lia
  |some l=>have:=r.ln _ (zi eg);show ~~~l<=_;simp only at this;lia
def YV{st:lM}{n:Nat}{f row:dE}{k:lM->D->Prop}(h:wO 13 st n f row k):zu [kl st,iz n f row] λd=>ju d/\k st d:=by
 obtain⟨rfl,s,c,R,b,q,t,o⟩:=h;let⟨P pl,rfl,a,p⟩:=kj t (by lia);obtain⟨⟨L,l⟩,rfl⟩:=p (by simp);obtain⟨g,j,r,rfl⟩:=R.ay
 match f,b,a with
 | [i],b,a=>
  cases b
  have m:=a (by lia) i (by simp);have:=o _ R;have e:(fG (some ⟨P,some (L,j)⟩) (.can i)).2=_:=mr (by simpa using m);rw[e]at this;exact⟨P,L,l,j,13,i,row,rfl,⟨g.toGood,r.ok,q.cH (by lia) P L l rfl⟩,r.rel,m,ie _,this⟩
def Yt.len{P:du}{L:dQ}{a:gN}{s:lN}(r:Yt P L a s): ~~~a<= ~~~P:=by
 have:=oK (~~~P) (a.map (·.1)) r.nd (λx c=>by let⟨(q),b,rfl⟩:=dk.mp c;exact r.lt q b)
 simp_all
def Rv{st:lM}{n:Nat}{b row:dE}{e:lM->D->Prop}(h:wO 14 st n b row e):vY [kl st,iz n b row] λd=>ju d/\e st d:=by
 obtain⟨rfl,s,c,R,a,l,m,i⟩:=h;let⟨P pl,rfl,o,j⟩:=kj m (by lia);obtain⟨⟨L,f⟩,rfl⟩:=j (by simp);obtain⟨g,k,r,rfl⟩:=R.ay
 match b,a with
 | [],a=>
  cases a
  have:=i _ R;exact⟨P,L,f,k,14,[],row,rfl,⟨g.toGood,r.ok,l.cH (by lia) P L f rfl⟩,r.rel,r.nd,by have:=r.len;have:=g.len;lia,ie _,this⟩
def OR{st:lM}{n:Nat}{b row:dE}{e:lM->D->Prop}(h:wO 15 st n b row e):uN [kl st,iz n b row] λd=>ju d/\e st d:=by
 obtain⟨rfl,s,c,R,a,l,m,i⟩:=h;let⟨P pl,rfl,o,j⟩:=kj m (by lia);obtain⟨⟨L,f⟩,rfl⟩:=j (by simp);obtain⟨g,k,r,rfl⟩:=R.ay
 match b,a with
 | [],a=>
  cases a
  have:=i _ R;exact⟨P,L,f,k,15,[],row,rfl,⟨g.toGood,r.ok,l.cH (by lia) P L f rfl⟩,r.rel,ie _,this⟩
def OW{st:lM}{n:Nat}{l row:dE}{m:lM->D->Prop}(h:wO 16 st n l row m):uS [kl st,iz n l row] λd=>ju d/\m st d:=by
 obtain⟨rfl,s,c,R,k,a,t,p⟩:=h;let⟨P pl,rfl,b,q⟩:=kj t (by lia);obtain⟨⟨L,j⟩,rfl⟩:=q (by simp);obtain⟨g,f,r,rfl⟩:=R.ay
 match l,k,b with
 | [i],k,b=>
  cases k
  have o:=b (by lia) i (by simp);have:=p _ R;have e:(fG (some ⟨P,some (L,f)⟩) (.chance i (iV row))).2=_:=mr (by simpa using o);rw[e]at this;exact⟨P,L,j,f,16,i,row,rfl,⟨g.toGood,r.ok,a.cH (by lia) P L j rfl⟩,r.rel,o,a.two (by lia),by have:=a.cO (by lia);lia,a.log rfl P L j f rfl r,ie _,this⟩
def VA{st:lM}{n:Nat}{b row:dE}{e:lM->D->Prop}(h:wO 17 st n b row e):xt [kl st,iz n b row] λd=>ju d/\e st d:=by
 obtain⟨rfl,s,c,R,a,o,k,f⟩:=h;let⟨P pl,rfl,l,i⟩:=kj k (by lia);obtain⟨⟨L,j⟩,rfl⟩:=i (by simp);obtain⟨g,m,r,rfl⟩:=R.ay
 match b,a with
 | [],a=>
  cases a
  have:=f _ R;exact⟨P,L,j,17,[],row,rfl,g,r.ok,ie _,this⟩
section
def ug(h:mG T F H p l): ∃e d c b a,l=[b,a]/\H p=some (.ins (T.cl 6) e [("family",d),("place",c)])/\k7 T F d b/\k7 T F c a:=by
 obtain⟨s,j,o,k,_,_,e,us,rfl,t,r⟩:=h
 match l,j,r with
 | [b,a],_,r=>let⟨d q,rfl,m,g⟩:=r.cons_right;let⟨c f,rfl,i,n⟩:=g.cons_right;exact⟨e,d,c,b,a,rfl,k,m,i⟩
def yg(d:F p=none)(e:oW F H)(i:k7 T F u0 d0)(f:k7 T F u1 d1):mG T F (L2.upd H p (.ins (T.cl 6) dx [("family",u0),("place",u1)])) p [d0,d1]/\p9 T p F H F (L2.upd H p (.ins (T.cl 6) dx [("family",u0),("place",u1)])):=by
 refine⟨⟨d,rfl,_,eR,rfl,by lia,dx,[u0,u1],rfl,by show 2<=2;lia,fh.cons i (fh.cons f fh.nil)⟩,⟨λa o h=> .inl h,λa o h=> ?_,λa o h c g j=> ?_⟩⟩
 .have b:a≠p:=by rintro rfl;rw[d]at h;cases h
  unfold Lh;rw[d9 b];exact e a o h
 .exact⟨by rw[d9 g];exact h,c⟩
def p9.trans(a:p9 T p F H F1 H1)(b:p9 T p F1 H1 F2 H2):p9 T p F H F2 H2 where
 le:=λx o h=>by
  rcases a.le x o h with c|c
  .exact b.le x o c
  .exact .inr c
 ext:=b.ext
 same:=λx o h g e d=>by let⟨c,f⟩:=a.same x o h g e d;exact b.same x o c f e d
def GE(g:T.Ok)(h:mG T F H p l)(c: ∀d∈l,ju d)(s: ∀a o,F a=some o->F' a=some o\/uw T o)(e:F' p=none):mG T F' H p l:=by obtain⟨t,f,o,n,q,j,k,us,rfl,m,r⟩:=h;refine⟨e,f,_,n,q,j,k,us,rfl,m,r.1,λi u d a b=>(r.2 i u d a b).plain g (c d (eS b)) s⟩
def zU(h:F p=none)(a:F8 p=none):trim T F F8 p=none:=by
 unfold trim
 simp_all
def vC(l:dE):ju (.lst (hU l)):= .lst λd hd=>by let⟨(n),_,rfl⟩:=dk.mp hd;exact .int _
def z8(P:du):ju (iN P):= .obj (by lia) λd hd=>by
 simp only[eM,l9,AO]at hd;rcases hd with rfl|rfl|rfl|rfl|rfl
 .exact .lst λd hd=>by let⟨(x),_,rfl⟩:=dk.mp hd;exact .tup λd hd=>by let⟨(c),_,rfl⟩:=dk.mp hd;exact .int _
 .exact .lst λd hd=>by let⟨(x),_,rfl⟩:=dk.mp hd;exact .int _
 .exact .lst λd hd=>by let⟨(x),_,rfl⟩:=dk.mp hd;exact vC _
 .exact vC _
 .exact vC _
def A7{v:V}{L:dQ}{j:gN}(h:k7 T F v (fJ L j)): ∃q g a b r d,v= .ref q/\F q=some (.ins (T.cl 2) g [("by_sex",a),("weights",b),("seen",.ref r)])/\k7 T F a (mh L.bySex)/\k7 T F b (.lst (hU L.weights))/\F r=some (.dK d)/\fh (RK T F) d (dl nD jH j):=by
 cases h with
 | @obj q g c us ds G h H z C=>
  have r:iE T F us [mh L.bySex,.lst (hU L.weights),.dic false (dl nD jH j)]:=⟨z,C⟩;let⟨a t,rfl,o,u⟩:=r.cons_right;let⟨b m,rfl,B,s⟩:=u.cons_right;let⟨c n,rfl,w,E⟩:=s.cons_right;cases w with
  | @dK A d l h' e k f=>exact⟨q,g,a,b,A,d,rfl,h,o,B,h',e,λi p q x y=>⟨k i p q x y,f i p q x y⟩⟩
def tV(c: ~~~N=k+2)(e:oW F H)(hd:mG T F H p l)(s:k7 T F u d):lq T F (some (.oi p 6 l)::some (.val d)::fP k none) (L2.start N [.ref p,u]) H (λi=>if i=0 then some p else none):=by
 obtain⟨t,v,o,g,m⟩:=hd;have r:L2.start N [.ref p,u]=some (.ref p)::some u::fP k none:=by unfold L2.start;simp[c]
 rw[r];refine⟨e,by simp,λi d' h=> ?_,λi f h n=> ?_,λi q h=> ?_,λi q h=> ?_,λi j q a b=> ?_⟩
 .match i with
  |0=>simp at h
  |1=>simp at h;subst h;exact⟨u,rfl,s⟩
  |i+2=>
   have h:(fP k (none:Option L))[i]?=some (some (L.val d')):=by simpa using h
   rw[jk]at h
   simp_all
 .match i with
  |0=>
   simp_all
  |1=>simp at h;exact absurd h.symm (n d)
  |i+2=>
   have h:(fP k (none:Option L))[i]?=some (some f):=by simpa using h
   rw[jk]at h
   simp_all
 .simp_all
 .split at h
  .cases h;exact⟨o,g,m.cC⟩
  .cases h
 .simp_all
end
def acM:GA:=λst n d row b=> ∃s c,w9 st s/\callC n d row=some c/\aaR st n row/\ ∀a,w9 a (fG s c).1->b a (nA (fG s c).2)
inductive lJ:Nat->List Nat->List Nat->qa->Prop
 |read (t:dE):lJ 1 [] t (.read (t.map jC))
 |people (t:dE):lJ 2 [] t .people
 |person (i:Nat) (t:dE):lJ 3 [i] t (.person i)
 |find (t:dE):lJ 4 [] t (.find (t.map jC))
 |kin (a b:Nat) (t:dE):lJ 5 [a,b] t (.kin a b)
 |inbred (i:Nat) (t:dE):lJ 6 [i] t (.inbred i)
 |states (a b:Nat) (t:dE):lJ 7 [a,b] t (.states a b)
 |tie (a b:Nat) (t:dE):lJ 8 [a,b] t (.tie a b)
 |paths (a b:Nat) (t:dE):lJ 9 [a,b] t (.paths a b)
 |place (k:Nat) (t:dE):lJ 10 [k] t (.place k t)
 |see (i:Nat) (t:dE):lJ 11 [i] t (.see i (iV t))
 |seen (i:Nat) (t:dE):lJ 12 [i] t (.seen i)
 |can (i:Nat) (t:dE):lJ 13 [i] t (.can i)
 |first (t:dE):lJ 14 [] t .first
 |worlds (t:dE):lJ 15 [] t .worlds
 |chance (i:Nat) (t:dE):lJ 16 [i] t (.chance i (iV t))
 |drop (t:dE):lJ 17 [] t (.drop t)
theorem GF: ∀{a:dE},c0 x a=some c->a=[]/\x=c
 | [],h=>⟨rfl,ft h⟩
theorem Ew: ∀{a:dE},c1 f a=some c-> ∃i,a=[i]/\f i=c
 | [i],h=>⟨i,rfl,ft h⟩
theorem Oh: ∀{d:dE},c2 f d=some c-> ∃a b,d=[a,b]/\f a b=c
 | [a,b],h=>⟨a,b,rfl,ft h⟩
def Uo(h:callC n wn row=some c):lJ n wn row c:=by
 unfold callC at h;by_cases e:n=1
 .subst e;rw[dq rfl]at h;let⟨rfl,rfl⟩:=GF h;constructor
 rw[di e]at h;clear e;by_cases e:n=2
 .subst e;rw[dq rfl]at h;let⟨rfl,rfl⟩:=GF h;constructor
 rw[di e]at h;clear e;by_cases e:n=3
 .subst e;rw[dq rfl]at h;let⟨(_),rfl,rfl⟩:=Ew h;constructor
 rw[di e]at h;clear e;by_cases e:n=4
 .subst e;rw[dq rfl]at h;let⟨rfl,rfl⟩:=GF h;constructor
 rw[di e]at h;clear e;by_cases e:n=5
 .subst e;rw[dq rfl]at h;let⟨_ _,rfl,rfl⟩:=Oh h;constructor
 rw[di e]at h;clear e;by_cases e:n=6
 .subst e;rw[dq rfl]at h;let⟨(_),rfl,rfl⟩:=Ew h;constructor
 rw[di e]at h;clear e;by_cases e:n=7
 .subst e;rw[dq rfl]at h;let⟨_ _,rfl,rfl⟩:=Oh h;constructor
 rw[di e]at h;clear e;by_cases e:n=8
 .subst e;rw[dq rfl]at h;let⟨_ _,rfl,rfl⟩:=Oh h;constructor
 rw[di e]at h;clear e;by_cases e:n=9
 .subst e;rw[dq rfl]at h;let⟨_ _,rfl,rfl⟩:=Oh h;constructor
 rw[di e]at h;clear e;by_cases e:n=10
 .subst e;rw[dq rfl]at h;let⟨(_),rfl,rfl⟩:=Ew h;constructor
 rw[di e]at h;clear e;by_cases e:n=11
 .subst e;rw[dq rfl]at h;let⟨(_),rfl,rfl⟩:=Ew h;constructor
 rw[di e]at h;clear e;by_cases e:n=12
 .subst e;rw[dq rfl]at h;let⟨(_),rfl,rfl⟩:=Ew h;constructor
 rw[di e]at h;clear e;by_cases e:n=13
 .subst e;rw[dq rfl]at h;let⟨(_),rfl,rfl⟩:=Ew h;constructor
 rw[di e]at h;clear e;by_cases e:n=14
 .subst e;rw[dq rfl]at h;let⟨rfl,rfl⟩:=GF h;constructor
 rw[di e]at h;clear e;by_cases e:n=15
 .subst e;rw[dq rfl]at h;let⟨rfl,rfl⟩:=GF h;constructor
 rw[di e]at h;clear e;by_cases e:n=16
 .subst e;rw[dq rfl]at h;let⟨(_),rfl,rfl⟩:=Ew h;constructor
 rw[di e]at h;clear e;by_cases e:n=17
 .subst e;rw[dq rfl]at h;let⟨rfl,rfl⟩:=GF h;constructor
 rw[di e]at h;clear e;cases h
def lJ.bnd(h:lJ n wn row c):1<=n/\n<=17/\ ~~~wn<=2:=by cases h<;>simp
def oF(h:(l.any λp=>decide (~~~P<=p))=true):CD P l a=iA (-2):=by
 unfold CD;rw[di]
 simp_all
def RZ{st:lM}{n:Nat}{a:dE}{z:Int}(h:Dd st n a=some z):n≠1/\((st=none/\z= -8)\/ ∃P pl,st=some (P,pl)/\((((if n=10 then []else a).any λp=>decide (~~~P<=p))=true/\z= -2)\/((∀p∈(if n=10 then []else a),p< ~~~P)/\n∈ [11,12,13,14,15,16,17]/\pl=none/\z= -4))):=by
 unfold Dd at h;by_cases hn:n=1
 .simp_all
 .rw[di hn]at h;refine⟨hn,?_⟩;cases st with
  |none=>left;injection h with h;exact⟨rfl,h.symm⟩
  |some x=>
   obtain⟨P,pl⟩:=x;right;refine⟨P,pl,rfl,?_⟩;by_cases h1:((if n=10 then []else a).any λp=>decide (~~~P<=p))=true
   .simp_all
   .simp_all
def RI{st:lM}{s:jD}{n:Nat}{o row:dE}{c:qa}{z:Int}(R:w9 st s)(l:lJ n o row c)(h:Dd st n o=some z):fG s c=(s,iA z):=by
 obtain⟨m,⟨rfl,rfl⟩|⟨P,pl,rfl,⟨d,rfl⟩|⟨d,e,rfl,rfl⟩⟩⟩:=RZ h
 .cases R;cases l<;>first|rfl|exact absurd rfl m
 .obtain⟨g,j,rfl⟩:=R.aj;cases l with
  |read t=>exact absurd rfl m
  |people t=>simp at d
  |person i t=>exact gR (qp _) (oF d)
  |find t=>simp at d
  |kin a b t=>exact gR (qp _) (oF d)
  |inbred i t=>exact gR (qp _) (oF d)
  |states a b t=>exact gR (qp _) (oF d)
  |tie a b t=>exact gR (qp _) (oF d)
  |paths a b t=>exact gR (qp _) (oF d)
  |place k t=>simp at d
  |see i t=>
   have f: ~~~P<=i:=by simpa using d
   show(if ~~~P<=i then _ else _)=_
   simp_all
  |seen i t=>exact gR (qp _) (oF d)
  |can i t=>exact gR (qp _) (oF d)
  |first t=>simp at d
  |worlds t=>simp at d
  |chance i t=>exact gR (qp _) (oF d)
  |drop t=>simp at d
 .obtain⟨g,j,rfl⟩:=R.aj;have p:j=none:=by cases R;rfl
  subst p;cases l with
  |read t=>simp at e
  |people t=>simp at e
  |person i t=>simp at e
  |find t=>simp at e
  |kin a b t=>simp at e
  |inbred i t=>simp at e
  |states a b t=>simp at e
  |tie a b t=>simp at e
  |paths a b t=>simp at e
  |place k t=>simp at e
  |see i t=>
   have f:i< ~~~P:=by simpa using d
   show(if ~~~P<=i then _ else _)=_;rw[di (by lia)]
  |seen i t=>
   have f:i< ~~~P:=by simpa using d
   exact gR (qp _) (mr (by simpa using f))
  |can i t=>
   have f:i< ~~~P:=by simpa using d
   exact gR (qp _) (mr (by simpa using f))
  |first t=>rfl
  |worlds t=>rfl
  |chance i t=>
   have f:i< ~~~P:=by simpa using d
   exact gR (qp _) (mr (by simpa using f))
  |drop t=>rfl
def mS{l:jn}(h: ∀z∈l,0<=z):l.map D.int=hU (l.map oY):=by unfold hU nD;rw[dm];apply nS;intro z hz;show D.int z=D.int ((z.toNat:Nat):Int);rw[Int.toNat_of_nonneg (h z hz)]
def wL{l:jn}{n:Nat}{lo a:Int}(h:jP l n lo a=true): ~~~l<=n/\ ∀z∈l,lo<=z/\z<=a:=by
 unfold jP at h
 simp_all
def kJ(h:fq z=true):0<=z:=by
 unfold fq at h
 simp_all
def Gb(t:jn):(t.map oY).map jC=NLines.bytesOf t:=by rw[dm];rfl
theorem xR: ∀(f:Nat) (l:jn),~~~l%2=0-> ~~~l<=f->(XD 2 f l).map (λr=>(Ja (r.getD 0 0),Ja (r.getD 1 0)))=iV (l.map oY)
 |0,l,_,h=>by have:l=[]:=eY (by lia);subst this;rfl
 |f+1,[],_,_=>rfl
 |f+1,[x],h,_=>by simp at h
 |f+1,x::y::r,h,a=>by have ih:=xR f r (by simp only[dB]at h;lia) (by simp only[dB]at a;lia);show(_::(XD 2 f r).map _)=(_::iV (r.map oY));rw[ih];rfl
inductive jg:List (List Int)->Prop
 |read (t:jn):jg [[1],t]
 |people:jg [[2]]
 |person (i:Int):jg [[3,i]]
 |find (t:jn):jg [[4],t]
 |kin (a b:Int):jg [[5,a,b]]
 |inbred (i:Int):jg [[6,i]]
 |states (a b:Int):jg [[7,a,b]]
 |tie (a b:Int):jg [[8,a,b]]
 |paths (a b:Int):jg [[9,a,b]]
 |place (k:Int) (w:jn):jg [[10,k],w]
 |see (i:Int) (l:jn):jg [[11,i],l]
 |seen (i:Int):jg [[12,i]]
 |can (i:Int):jg [[13,i]]
 |first:jg [[14]]
 |worlds:jg [[15]]
 |chance (i:Int) (l:jn):jg [[16,i],l]
 |drop (xs:jn):jg [[17],xs]
def Jq{r:jn}(h:1<= ~~~r): ∃a,r.take 1=[a]:=by
 cases r with
 |nil=>cases h
 |cons a r=>exact⟨a,rfl⟩
def RE{r:jn}(h:2<= ~~~r): ∃a b,r.take 2=[a,b]:=by
 cases r with
 |nil=>cases h
 |cons a r=>
  let⟨(b),e⟩:=Jq (Nat.le_of_succ_le_succ h)
  simp_all
def RJ{p:Int}{r:jn}{c:List (List Int)}{t:jn}(h:wX gh (p::r)=some (c,t)):jg c:=by
 let⟨n k,d,f,s⟩:=KS h;have c0:n=0->r.take n=[]:=λe=>by rw[e];rfl
 have c1:n=1-> ∃a,r.take n=[a]:=λe=>by rw[e]at f⊢;exact Jq f
 have c2:n=2-> ∃a b,r.take n=[a,b]:=λe=>by rw[e]at f⊢;exact RE f
 have o:n=0->k=0->c=[[p]]:=λg i=>by
  simp_all
 have j:n=1->k=0-> ∃a,c=[[p,a]]:=λg i=>by
  simp_all
 have l:n=2->k=0-> ∃a b,c=[[p,a,b]]:=λg i=>by
  simp_all
 have m:n=0->k=1-> ∃t,c=[[p],t]:=λg i=>by
  grind
 have q:n=1->k=1-> ∃a t,c=[[p,a],t]:=λg i=>by
  grind
 clear c0 c1 c2 s f h;unfold gh at d;by_cases e:p=1
 .subst e;rw[dq rfl]at d;cases d;let⟨(_),rfl⟩:=m rfl rfl;constructor
 rw[di e]at d;clear e;by_cases e:p=2
 .subst e;rw[dq rfl]at d;cases d;cases o rfl rfl;constructor
 rw[di e]at d;clear e;by_cases e:p=3
 .subst e;rw[dq rfl]at d;cases d;let⟨(_),rfl⟩:=j rfl rfl;constructor
 rw[di e]at d;clear e;by_cases e:p=4
 .subst e;rw[dq rfl]at d;cases d;let⟨(_),rfl⟩:=m rfl rfl;constructor
 rw[di e]at d;clear e;by_cases e:p=5
 .subst e;rw[dq rfl]at d;cases d;let⟨_ _,rfl⟩:=l rfl rfl;constructor
 rw[di e]at d;clear e;by_cases e:p=6
 .subst e;rw[dq rfl]at d;cases d;let⟨(_),rfl⟩:=j rfl rfl;constructor
 rw[di e]at d;clear e;by_cases e:p=7
 .subst e;rw[dq rfl]at d;cases d;let⟨_ _,rfl⟩:=l rfl rfl;constructor
 rw[di e]at d;clear e;by_cases e:p=8
 .subst e;rw[dq rfl]at d;cases d;let⟨_ _,rfl⟩:=l rfl rfl;constructor
 rw[di e]at d;clear e;by_cases e:p=9
 .subst e;rw[dq rfl]at d;cases d;let⟨_ _,rfl⟩:=l rfl rfl;constructor
 rw[di e]at d;clear e;by_cases e:p=10
 .subst e;rw[dq rfl]at d;cases d;let⟨_ _,rfl⟩:=q rfl rfl;constructor
 rw[di e]at d;clear e;by_cases e:p=11
 .subst e;rw[dq rfl]at d;cases d;let⟨_ _,rfl⟩:=q rfl rfl;constructor
 rw[di e]at d;clear e;by_cases e:p=12
 .subst e;rw[dq rfl]at d;cases d;let⟨(_),rfl⟩:=j rfl rfl;constructor
 rw[di e]at d;clear e;by_cases e:p=13
 .subst e;rw[dq rfl]at d;cases d;let⟨(_),rfl⟩:=j rfl rfl;constructor
 rw[di e]at d;clear e;by_cases e:p=14
 .subst e;rw[dq rfl]at d;cases d;cases o rfl rfl;constructor
 rw[di e]at d;clear e;by_cases e:p=15
 .subst e;rw[dq rfl]at d;cases d;cases o rfl rfl;constructor
 rw[di e]at d;clear e;by_cases e:p=16
 .subst e;rw[dq rfl]at d;cases d;let⟨_ _,rfl⟩:=q rfl rfl;constructor
 rw[di e]at d;clear e;by_cases e:p=17
 .subst e;rw[dq rfl]at d;cases d;let⟨(_),rfl⟩:=m rfl rfl;constructor
 rw[di e]at d;clear e;cases d
theorem FW: ∀(f:Nat) (l:jn) (b:List (List (List Int))),jR gh f l=some b-> ∀c∈b,jg c
 |_,[],b,h,c,a=>by
  unfold jR at h
  grind
 |0,_::_,b,h,c,a=>by cases h
 |f+1,p::r,b,h,c,a=>by
  unfold jR at h;cases e:wX gh (p::r)with
  |none=>rw[e]at h;cases h
  |some x=>
   obtain⟨g,t⟩:=x;rw[e]at h;simp only at h;cases e2:jR gh f t with
   |none=>rw[e2]at h;cases h
   |some d=>
    rw[e2]at h;cases h;rcases eM.mp a with rfl|a
    .exact RJ e
    .exact FW f t d e2 c a
noncomputable def X6(s:jD)(c:List (List Int)):Blood.State:=match c with
 | [[1],_]=>(dN s c).1
 | [[10,_],_]=>(dN s c).1
 | [[11,_],_]=>(dN s c).1
 |_=>s
theorem G7(s:jD)(x:List (List Int))(a:List (List (List Int))):tS s (x::a)=pS s x::tS (X6 s x) a:=rfl
def LK(a:jg c):X6 s c=(dN s c).1:=by cases a<;>first|rfl|(cases s<;>rfl)
def Wy{st:lM}{s:jD}{c:List (List Int)}(R:w9 st s)(F:jg c)(d:FI c=true)(u:pS s c<=20000):
  ∃n E row x,xy c=iz n E row/\callC n E row=some x/\aeM c=some x/\aaR st n row:=by
 have kin: ∀P pl,st=some (P,pl)->(∀r:abN,s=some r->4^((fW r.family).length+1)<=20000)->4*4^(fW P).length<=1000000:=by intro P pl e h;subst e;obtain⟨g,C,rfl⟩:=R.aj;have:=h _ rfl;rw[nN]at this;show 4*4^(fW P).length<=_;have G:(agu P C).family=P:=rfl;rw[G]at this;lia
 have p: ∀P L m,st=some (P,some (L,m))->(∀r:abN,s=some r->U5 r (fW r.family).length<=20000)->nY P L (eV P)<=1000000:=by
  intro P L m e h;subst e;obtain⟨g,v,r,rfl⟩:=R.ay;have j:4^(fW P).length*L.kinds^(2*(XQ P).length)* ~~~P<=20000:=h _ rfl;rw[KY g.toGood];by_cases hp: ~~~P=0
  .have:P=[]:=eY hp;subst this;show 1*_<=_;simp[XQ]
  .refine eC (vg _ (UX hp)) (eC j (by decide))
 have log: ∀P L m v,st=some (P,some (L,m))->Yt P L m v->(rM P L (rN P L v)).log2<9000:=by intro P L m v e r;subst e;obtain⟨g,_,_,rfl⟩:=R.ay;exact ZU g.toGood r.ok.k8 r.ok.cX v
 cases F with
 |read t=>
  have d:jP t 66000 0 255=true:=d;let⟨f,j⟩:=wL d;refine⟨1,[],t.map oY,_,?_,rfl,?_,⟨by simpa using f,λ_ x A=> ?_,by lia,by lia,by lia,by lia,by lia⟩⟩
  .show D.obj 4 [.int 1,.lst [],.lst (t.map D.int)]=_;rw[mS λz hz=>(j z hz).1];rfl
  .rw[Gb];rfl
  .obtain⟨z,hz,rfl⟩:=dk.mp A;have:=j z hz;lia
 |people=>exact⟨2,[],[],_,rfl,rfl,rfl,⟨by simp,by lia,by lia,by lia,by lia,by lia,by lia⟩⟩
 |person i=>have d:fq i=true:=d;have f:=kJ d;refine⟨3,[i.toNat],[],_,?_,rfl,rfl,⟨by simp,by lia,by lia,by lia,by lia,by lia,by lia⟩⟩;show D.obj 4 [.int 3,.lst ([i].map D.int),.lst []]=_;rw[mS (l:=[i]) (by simpa using f)];rfl
 |find t=>
  have d:jP t 66000 0 255=true:=d;let⟨f,j⟩:=wL d;refine⟨4,[],t.map oY,_,?_,rfl,?_,⟨by simpa using f,λ_ x A=> ?_,by lia,by lia,by lia,by lia,by lia⟩⟩
  .show D.obj 4 [.int 4,.lst [],.lst (t.map D.int)]=_;rw[mS λz hz=>(j z hz).1];rfl
  .rw[Gb];rfl
  .obtain⟨z,hz,rfl⟩:=dk.mp A;have:=j z hz;lia
 |kin a b=>
  have d:(fq a&&fq b)=true:=d;rw[fZ]at d;have f:=kJ d.1;have j:=kJ d.2;refine⟨5,[a.toNat,b.toNat],[],_,?_,rfl,rfl,⟨by simp,by lia,by lia,by lia,λ_ P pl e=>kin P pl e λr o=> ?_,by lia,by lia⟩⟩
  .show D.obj 4 [.int 5,.lst ([a,b].map D.int),.lst []]=_;rw[mS (l:=[a,b]) (by simpa using⟨f,j⟩)];rfl
  .subst o;exact u
 |inbred i=>
  have d:fq i=true:=d;have f:=kJ d;refine⟨6,[i.toNat],[],_,?_,rfl,rfl,⟨by simp,by lia,by lia,by lia,λ_ P pl e=>kin P pl e λr o=> ?_,by lia,by lia⟩⟩
  .show D.obj 4 [.int 6,.lst ([i].map D.int),.lst []]=_;rw[mS (l:=[i]) (by simpa using f)];rfl
  .subst o;exact u
 |states a b=>
  have d:(fq a&&fq b)=true:=d;rw[fZ]at d;have f:=kJ d.1;have j:=kJ d.2;refine⟨7,[a.toNat,b.toNat],[],_,?_,rfl,rfl,⟨by simp,by lia,by lia,by lia,λ_ P pl e=>kin P pl e λr o=> ?_,by lia,by lia⟩⟩
  .show D.obj 4 [.int 7,.lst ([a,b].map D.int),.lst []]=_;rw[mS (l:=[a,b]) (by simpa using⟨f,j⟩)];rfl
  .subst o;exact u
 |tie a b=>have d:(fq a&&fq b)=true:=d;rw[fZ]at d;have f:=kJ d.1;have j:=kJ d.2;refine⟨8,[a.toNat,b.toNat],[],_,?_,rfl,rfl,⟨by simp,by lia,by lia,by lia,by lia,by lia,by lia⟩⟩;show D.obj 4 [.int 8,.lst ([a,b].map D.int),.lst []]=_;rw[mS (l:=[a,b]) (by simpa using⟨f,j⟩)];rfl
 |paths a b=>have d:(fq a&&fq b)=true:=d;rw[fZ]at d;have f:=kJ d.1;have j:=kJ d.2;refine⟨9,[a.toNat,b.toNat],[],_,?_,rfl,rfl,⟨by simp,by lia,by lia,by lia,by lia,by lia,by lia⟩⟩;show D.obj 4 [.int 9,.lst ([a,b].map D.int),.lst []]=_;rw[mS (l:=[a,b]) (by simpa using⟨f,j⟩)];rfl
 |place k w=>have d:(fq k&&jP w 1000 0 4294967295)=true:=d;rw[fZ]at d;have f:=kJ d.1;let⟨j,q⟩:=wL d.2;refine⟨10,[k.toNat],w.map oY,_,?_,rfl,rfl,⟨by simp;lia,by lia,λ_=>by simpa using j,by lia,by lia,by lia,by lia⟩⟩;show D.obj 4 [.int 10,.lst ([k].map D.int),.lst (w.map D.int)]=_;rw[mS (l:=[k]) (by simpa using f),mS λz hz=>(q z hz).1];rfl
 |see i l=>
  have d:(fq i&&jP l 1000 0 4294967295&&decide (~~~l%2=0))=true:=d;rw[fZ,fZ]at d;have f:=kJ d.1.1;let⟨j,q⟩:=wL d.1.2;have y: ~~~l%2=0:=lX d.2;refine⟨11,[i.toNat],l.map oY,_,?_,rfl,?_,⟨by simp;lia,by lia,λ_=>by simpa using j,λ_=>by simpa using y,by lia,by lia,by lia⟩⟩
  .show D.obj 4 [.int 11,.lst ([i].map D.int),.lst (l.map D.int)]=_;rw[mS (l:=[i]) (by simpa using f),mS λz hz=>(q z hz).1];rfl
  .rw[<-xR (~~~l) l y (dI _)];rfl
 |seen i=>have d:fq i=true:=d;have f:=kJ d;refine⟨12,[i.toNat],[],_,?_,rfl,rfl,⟨by simp,by lia,by lia,by lia,by lia,by lia,by lia⟩⟩;show D.obj 4 [.int 12,.lst ([i].map D.int),.lst []]=_;rw[mS (l:=[i]) (by simpa using f)];rfl
 |can i=>
  have d:fq i=true:=d;have f:=kJ d;refine⟨13,[i.toNat],[],_,?_,rfl,rfl,⟨by simp,by lia,by lia,by lia,by lia,λ_ P L m e=>p P L m e λr o=> ?_,by lia⟩⟩
  .show D.obj 4 [.int 13,.lst ([i].map D.int),.lst []]=_;rw[mS (l:=[i]) (by simpa using f)];rfl
  .subst o;exact u
 |first=>exact⟨14,[],[],_,rfl,rfl,rfl,⟨by simp,by lia,by lia,by lia,by lia,λ_ P L m e=>p P L m e λr o=>by subst o;exact u,by lia⟩⟩
 |worlds=>exact⟨15,[],[],_,rfl,rfl,rfl,⟨by simp,by lia,by lia,by lia,by lia,λ_ P L m e=>p P L m e λr o=>by subst o;exact u,by lia⟩⟩
 |chance i l=>
  have d:(fq i&&jP l 1000 0 4294967295&&decide (~~~l%2=0))=true:=d;rw[fZ,fZ]at d;have f:=kJ d.1.1;let⟨j,q⟩:=wL d.1.2;have y: ~~~l%2=0:=lX d.2;refine⟨16,[i.toNat],l.map oY,_,?_,rfl,?_,⟨by simp;lia,by lia,λ_=>by simpa using j,λ_=>by simpa using y,by lia,λ_ P L m e=>p P L m e λr o=> ?_,λ_=>log⟩⟩
  .show D.obj 4 [.int 16,.lst ([i].map D.int),.lst (l.map D.int)]=_;rw[mS (l:=[i]) (by simpa using f),mS λz hz=>(q z hz).1];rfl
  .rw[<-xR (~~~l) l y (dI _)];rfl
  .subst o;exact u
 |drop B=>have d:jP B 1000 0 4294967295=true:=d;let⟨j,q⟩:=wL d;refine⟨17,[],B.map oY,_,?_,rfl,rfl,⟨by simp;lia,by lia,λ_=>by simpa using j,by lia,by lia,by lia,by lia⟩⟩;show D.obj 4 [.int 17,.lst [],.lst (B.map D.int)]=_;rw[mS λz hz=>(q z hz).1];rfl
abbrev Cl:=List (List Int)
def lp(s:jD)(a:List Cl):Blood.State:=a.foldl (λs c=>(dN s c).1) s
def MY(s:jD)(a:List Cl)(c:Cl):lp s (a++ [c])=(dN (lp s a) c).1:=by unfold lp;rw[tJ];rfl
def JH: ∀(a:List Cl) (s:jD) (c:Cl),fi dN s (a++ [c])=fi dN s a++ [(dN (lp s a) c).2]:=by
 intro a;induction a with
 |nil=>intro s c;rfl
 |cons x a ih=>intro s c;show _::fi dN _ (a++ [c])=_::(fi dN _ a++_);rw[ih];rfl
def OQ(l:List (List Int))(a:jn):jV (l++ [a])=jV l++((~~~a:Int)::a):=by unfold jV;simp
def JI: ∀(a:List Cl) (s:jD),II s a=fi dN s a:=by
 intro a;induction a with
 |nil=>intro s;rfl
 |cons x a ih=>intro s;show _::II _ a=_::fi dN _ a;rw[ih]
theorem CJ: ∀(a:List Cl) (s:jD) (i:Nat) (c:Cl),(∀c∈a,jg c)->a[i]?=some c->pS (lp s (a.take i)) c∈tS s a
 | [],s,i,c,_,h=>by simp at h
 |x::a,s,0,c,b,h=>by
  have:x=c:=by simpa using h
  subst this;exact fk
 |x::a,s,i+1,c,b,h=>by rw[G7,LK (b x (by simp))];refine eP _ ?_;exact CJ a _ i c (λc d=>b c (by simp[d])) (by simpa using h)
def sizes(l:List (List Int)):Nat:=(l.map jW).sum
def KD: ∀(l:List (List Int)) (n:Nat),l.foldl (λ(n:Nat) (a:jn)=>n+jW a) n=n+sizes l:=by
 intro l;induction l with
 |nil=>intro n;simp[sizes]
 |cons a l ih=>
  intro n;rw[eT,ih];unfold sizes
  grind
def Rr: ∀l:List (List Int),(jV l).length<=sizes l+3* ~~~l:=by
 intro l;induction l with
 |nil=>simp[jV]
 |cons a l ih=>
  have ih:=ih;have e:jV (a::l)=((~~~a:Int)::a)++jV l:=rfl;rw[e,ib,dB];unfold sizes at ih⊢;rw[dt,gL,dB];have: ~~~a<=jW a+2:=by unfold jW;lia
  lia
def Pb(h:a∈l):jW a<=sizes l:=by
 unfold sizes;induction l with
 |nil=>cases h
 |cons x l ih=>grind
def He(l m:List (List Int)):sizes (l++m)=sizes l+sizes m:=by unfold sizes;rw[jF,QO]
def LW: ∀(a:List Cl) (s:jD),(fi dN s a).length= ~~~a:=by
 intro a;induction a with
 |nil=>intro s;rfl
 |cons x a ih=>intro s;show(fi dN _ a).length+1= ~~~a+1;rw[ih]
def E8: ∀(a ds:List Cl) (s:jD),fi dN s (a++ds)=fi dN s a++fi dN (lp s a) ds:=by
 intro a;induction a with
 |nil=>intro ds s;rfl
 |cons x a ih=>intro ds s;show _::fi dN _ (a++ds)=_::(fi dN _ a++_);rw[ih];rfl
def Qi(a:Ce): ~~~a.nums+ ~~~a.text<=jW (uT a):=by
 unfold uT Lm jW;split
 .simp_all
 .simp_all
def Rc(h:jg c):Cz c=c:=by cases h<;>rfl
structure Runs(l:jn)(cs:List Cl):Prop where
 calls:jR gh (~~~l) l=some cs
 c7: ∀c∈cs,jg c
 one: ∀c∈cs,FI c=true
 wt: ∀i c,cs[i]?=some c->pS (lp fE (cs.take i)) c<=20000
 len: ~~~cs<=400
 ne:cs≠ []
 size:sizes (fi dN fE cs)<1000000
 c8:zM l=jV (fi dN fE cs)
def ad4(h:GS l=true): ∃a,Runs l a:=by
 unfold GS at h;have b:zM l=match Q0 l with
  |none=> []
  |some a=>jV (fi dN G5 a):=rfl
 unfold Q0 at h b;cases e:jR gh (~~~l) l with
 |none=>rw[e]at h;cases h
 |some a=>
  rw[e]at h b;have d:=FW _ _ _ e;have m:a.map Cz=a:=by
   have:a.map Cz=a.map id:=nS λc f=>Rc (d c f)
   simp_all
  simp only[m]at h b;rw[fZ]at h;have g:=h.2;unfold aeN at g;simp only[fZ,jL,hC]at g;obtain⟨⟨⟨⟨n,j⟩,k⟩,o,q⟩,p⟩:=g;refine⟨a,e,d,n,λi c f=>o _ (CJ a _ i c d f),k,by rintro rfl;simp at j,?_,b⟩;rw[JI,KD]at p;have:sizes (fi dN G5 a)<1000000:=by lia
  exact this
section
variable {P:fY} {w:iu} {K:dh} {mg:kQ} {base:iZ} {cl:nL}
def Qt(h: ∀x∈row,x<256):hU row=(row.map jC).map bD:=by
 rw[dm];apply nS;intro x b;have a:(jC x).toNat=x:=by
  simp_all
 show D.int (x:Int)=D.int (((jC x).toNat:Nat):Int);rw[a]
def DJ(Z:Fx K mg cl):FnA P w K mg base cl 6 "answer_read" (wO 1):=by
 have S:Sc ["desk","call","fault"] (top 120):=by walk_at "s"
 let⟨f fd,F,hm,hb⟩:=Z.d 57 _ rfl;refine⟨f,fd,["desk","call"],?_,hm,F.kp,hb⟩;refine F.ok S (λvs H Q E hx=>by obtain⟨p,u,F,st,n,wn,row,QD,ev,_⟩:=hx;rw[ev];rfl) λu3 A outer s H vs Q E hr hx=> ?_;obtain⟨p,u,F,st,n,wn,row,QD,ev,e,hu,hd,hc,a,hw⟩:=hx;refine⟨_,kK (JF (gG uG nu (iC Z.G.len (fI.r (dS Z.T (dW 1)))) (iy Z.G.bM) (fO _)) (oG (sm (dU (gM Z) hr (da (iy Z.G.bC) dz)))) yY) (kK (sk (i:=2) S.nd rfl (lB rfl) (dU (JZ Z) hr (da (dS Z.T (dW 1)) dz))) (kK (JF (Cf (cl:=cl) (dW 2)) (oG (sm (dU (ko Z) hr (da (fK (pr 2) dM) (da (ke (da (fK (pr 2) dM) dz)) dz))))) yY) (kK (Hq (pv 0) (dU (HE Z) hr (da (dS Z.T (dW 1)) dz)) rfl) (kK (Hq (pv 0) (oH (cl:=cl)) rfl) (oG (sm (dU (gM Z) hr (da dM dz)))))))),?_⟩;subst ev;obtain⟨rfl,s',c,R,m,hl,z7,a⟩:=a
 match wn,m with
 | [],m=>
  cases m
  have x1:=Qt (hl.byt (.inl rfl));have X:(row.map jC).length= ~~~row:=by simp
  have z5:=hl.len;unfold iz at hc;rw[x1]at hc;generalize row.map jC=t at hc X a;have I0:=tV (N:=["desk","call","fault"]) rfl e hd hc;refine⟨F,_,_,λb=>b=decide (16384< ~~~t),I0,?_,λb F1 H1 g1 q1=> ?_⟩
  .rfl';rw[dA];rw[iH];lia
  .subst q1;have I1:=I0.grow g1;by_cases c0:16384< ~~~t
   .simp only[c0];have es:fG s' (.read t)=(s',iA (-1)):=by show(if FK< ~~~t then _ else _)=_;rw[dq (by unfold FK;lia)]
    rw[es]at a;refine⟨F1,_,_,λd=>d=nA (iA (-1)),I1,?_,λv d F3 H3 g3 r3 U=> ?_⟩
    .rfl';exact⟨_,rfl,rfl⟩
    .subst U;obtain⟨gt,ut,lt⟩:=oE (g1.trans g3) hu;exact hw v _ st _ H3 gt.after ut (hd.grow gt) (r3.plain Z.T (ie _) lt) (a _ R)
   .simp only[c0];have k:fG s' (.read t)=match U6 t with
      | .error x=>(s',jj x.1 [x.2])
      | .ok P=>(some ⟨P,none⟩,iA 0):=by
     show(if FK< ~~~t then _ else _)=_;rw[di (by unfold FK;lia)];cases U6 t<;>rfl
    refine⟨F1,_,_,λd=>d=QT (AE t),I1,?_,λv2 d2 F2 H2 g2 r2 q2=> ?_⟩
    .rfl';exact⟨t,rfl,by lia,rfl⟩
    .subst q2;have y:=(I1.grow g2).set 2 r2;have x2:=g1.trans g2;rcases VL t with⟨x,ef,er⟩|⟨ef,z,el,B,y2,er⟩
     .rw[ef]at y;rw[er]at k;rw[k]at a;refine⟨F2,_,_,λb=>b=true,y,?_,λb F3 H3 g3 U=> ?_⟩
      .simp only[QT]
       all_goals first|rfl|simp
      .subst U;ac_rfl;refine⟨F3,_,_,λd=>d=nA (jj x.1 [x.2]),y.grow g3,?_,λv d F4 H4 Y r4 q4=> ?_⟩
       .have z0:nB [D.int x.1,nD x.2] (0:Int)=some (D.int x.1):=jf;have z1:nB [D.int x.1,nD x.2] (1:Int)=some (nD x.2):=jf;simp only[QT];ac_nf;walk_at "n";rw[z0];exact⟨_,[x.2],rfl,rfl⟩
       .subst q4;obtain⟨gt,ut,lt⟩:=oE ((x2.trans g3).trans Y) hu;exact hw v _ st _ H4 gt.after ut (hd.grow gt) (r4.plain Z.T (ie _) lt) (a _ R)
     .rw[ef]at y;rw[er]at k;rw[k]at a;have gS:=B.good y2;refine⟨F2,_,_,λb=>b=false,y,?_,λb F3 H3 g3 U=> ?_⟩
      .simp only[QT];rfl'
       all_goals first|rfl|simp
      .subst U;simp only[eW];have I3:=y.grow g3;have z3:=x2.trans g3;refine⟨F3,_,_,λd=>d=iN (ik z),I3,?_,λv4 d4 F4 H4 Y r4 q4=> ?_⟩
       .rfl';exact⟨t,z,rfl,by lia,el,B,gS.toGood,rfl⟩
       .subst q4;have j:=z3.trans Y;have x0:=hd.grow j;let⟨dx u0 u1 d0 d1,eL,y1,z6,I⟩:=ug x0;refine⟨.ref p,rfl,p,cl 6,dx,_,rfl,y1,Z.T.cls 6 (by lia),Z.T.no 6 "family" (by lia) (by decide),by show 2<1000;lia,?_⟩;have y0:qP "family" v4 [("family",u0),("place",u1)]=([("family",v4),("place",u1)]:List (gw×V)):=rfl;rw[y0];obtain⟨y7,a5⟩:=yg x0.1 Y.ext r4 I;have ow:lT ⟨K,cl⟩ F4 p (.oi p 6 [iN (ik z),d1]) (.ins (cl 6) dx ([("family",v4),("place",u1)]:List (gw×V))):=⟨rfl,by lia,dx,[v4,u1],rfl,by show 2<=2;lia,fh.cons r4 (fh.cons I fh.nil)⟩;have I5:=(I3.grow Y).chg 0 rfl rfl ow;refine⟨F4,_,_,λd=>d=D.non,I5,?_,λv6 d6 F6 H6 q r6 q6=> ?_⟩
        .ac_nf
        .subst q6;have x4:=y7.grow q;let⟨l w0 w1 e0 e1,x6,y5,J,u2⟩:=ug x4;refine⟨.ref p,rfl,p,cl 6,l,_,rfl,y5,Z.T.cls 6 (by lia),Z.T.no 6 "place" (by lia) (by decide),by show 2<1000;lia,?_⟩;have O:qP "place" v6 [("family",w0),("place",w1)]=([("family",w0),("place",v6)]:List (gw×V)):=rfl;rw[O];obtain⟨M,a7⟩:=yg x4.1 q.ext J r6;have z2:lT ⟨K,cl⟩ F6 p (.oi p 6 [e0,D.non]) (.ins (cl 6) l ([("family",w0),("place",v6)]:List (gw×V))):=⟨rfl,by lia,l,[w0,v6],rfl,by show 2<=2;lia,fh.cons J (fh.cons r6 fh.nil)⟩;have I7:=(I5.grow q).chg 0 rfl rfl z2;refine⟨F6,_,_,λd=>d=nA (iA 0),I7,?_,λv8 d8 F8 H8 g8 r8 q8=> ?_⟩
         .rfl';exact⟨_,rfl,rfl⟩
         .subst q8;have ee:e0=iN (ik z):=by injection x6 with h;exact h.symm
          rw[ee]at M;have ha:=((((j.br a5).grow q)).trans a7).grow g8;have x5:=j.le.trans (q.le.trans g8.le);have x7:w8 F H8:=λr o h=>by
           have C:r≠p:=by rintro rfl;rw[hd.1]at h;cases h
           have h1:=j.same _ _ (hu r o h);have h2:=q.same r (.dK o) (by rw[d9 C];exact h1);exact g8.same r (.dK o) (by rw[d9 C];exact h2)
          have x3:=M.grow g8;let⟨ta,tu,tl⟩:=Jp x5 ha x7;refine hw v8 _ (some (ik z,none)) _ H8 ta tu ?_ (r8.plain Z.T (ie _) tl) (a _ (.fam gS));refine GE Z.T x3 ?_ tl (zU hd.1 x3.1);intro d g;have g:d∈ [iN (ik z),D.non]:=g;simp only[eM,l9,AO]at g;rcases g with rfl|rfl
          .exact z8 _
          .exact .non
def BP(Z:Fx K mg cl):FnA P w K mg base cl 4 "answer_place" (wO 10):=by
 have S:Sc ["desk","call","by_sex"] (top 130):=by walk_at "s"
 let⟨f fd,F,hm,hb⟩:=Z.d 67 _ rfl;refine⟨f,fd,["desk","call"],?_,hm,F.kp,hb⟩;refine F.ok S (λvs H Q E hx=>by obtain⟨p,u,F,st,n,wn,row,QD,ev,_⟩:=hx;rw[ev];rfl) λcdv A outer s H vs Q E hr hx=> ?_;obtain⟨p,u,F,st,n,wn,row,QD,ev,e,hu,hd,hc,hq,hw⟩:=hx;refine⟨_,kK (sk (i:=2) S.nd rfl (lB rfl) (fK (fI.r (dS Z.T (dW 1))) dM)) (kK (JF (LH (nq (dU (BN Z) hr (da (dW 2) (da (dS Z.T (dW 1)) dz))))) (oG (sm (dU (gM Z) hr (da (iy Z.G.bF) dz)))) yY) (kK (LU (Hq (pv 0) (pT (J3 Z) hr (da (dW 2) (da (dS Z.T (dW 1)) (da Su dz)))) rfl)) (oG (sm (dU (gM Z) hr (da dM dz)))))),?_⟩;subst ev;obtain⟨rfl,s',c,R,x2,hl,u8,hq⟩:=hq;let⟨m pl,rfl,_,_⟩:=kj u8 (by lia);obtain⟨g0,x5,rfl⟩:=R.aj
 match wn,x2 with
 | [kk],x2=>
  cases x2
  have I0:=tV (N:=["desk","call","by_sex"]) rfl e hd hc;refine⟨F,_,_,λd=>d=nD kk,I0,?_,λv d F1 H1 g1 r1 q1=> ?_⟩
  .have q0:nB (hU [kk]) (0:Int)=some (nD kk):=lS rfl;simp only[iz];ac_nf;rw[q0]
  .subst q1;have I1:=(I0.grow g1).set 2 r1;have hd1:=hd.grow g1;refine⟨F1,_,_,λb=>b= !(decide (kk<=1)&&kI ⟨kk==1,row⟩),I1,?_,λb F2 H2 g2 q2=> ?_⟩
   .simp only[iz];rfl';exact⟨kk,row,rfl,rfl⟩
   .subst q2;have I2:=I1.grow g2;have x6:=g1.trans g2;have u2:=hd.grow x6;by_cases ok:(decide (kk<=1)&&kI ⟨kk==1,row⟩)=true
    .have v6:kk<=1:=by simp at ok;exact ok.1
     have y1:kI ⟨kk==1,row⟩=true:=by simp at ok;exact ok.2
     simp only[ok];have es:fG (some ⟨m,x5⟩) (.place kk row)=(some ⟨m,some (⟨kk==1,row⟩,yJ m ⟨kk==1,row⟩)⟩,iA 0):=by show(if 1<kk\/kI ⟨kk==1,row⟩=false then _ else _)=_;rw[di (by rw[y1];simp;lia)]
     rw[es]at hq;have u3:D.obj 2 [nD kk,.lst (hU row),.dic false []]=fJ ⟨kk==1,row⟩ []:=by
      unfold fJ mh nD;have:(kk:Int)=if((⟨kk==1,row⟩:dQ).bySex)=true then 1 else 0:=by rcases Nat.le_one_iff_eq_zero_or_eq_one.mp v6 with rfl|rfl<;>rfl
      rw[this];rfl
     have R2:w9 (some (m,some (⟨kk==1,row⟩,[]))) (some ⟨m,some (⟨kk==1,row⟩,yJ m ⟨kk==1,row⟩)⟩):=by
      refine .pl g0 ⟨xa.of y1,⟨?_,λi hi=> ?_⟩,by simp,by simp,by simp⟩
      .unfold yJ;simp
      .unfold yJ;rw[dG,dX,df hi];rfl
     refine⟨F2,_,_,λd=>d=fJ ⟨kk==1,row⟩ [],I2,?_,λt d3 F3 H3 g3 r3 q3=> ?_⟩
     .simp only[iz];rfl';exact u3
     .subst q3;have x0:=u2.grow g3;let⟨J B u1 d0 d1,el,w1,x4,w7⟩:=ug x0;refine⟨.ref p,rfl,p,cl 6,J,_,rfl,w1,Z.T.cls 6 (by lia),Z.T.no 6 "place" (by lia) (by decide),by show 2<1000;lia,?_⟩;have u6:qP "place" t [("family",B),("place",u1)]=([("family",B),("place",t)]:List (gw×V)):=rfl;rw[u6];let⟨q v4 va vb r O,w3,v0,w2,v7,g,z7⟩:=A7 r3;have z3:=eY z7.1;subst z3;have U:=x6.trans g3;have C:r≠p:=by rintro rfl;rw[x0.1]at g;cases g
      obtain⟨hd4,a4⟩:=yg x0.1 g3.ext x4 r3;have ow:lT ⟨K,cl⟩ F3 p (.oi p 6 [d0,fJ ⟨kk==1,row⟩ []]) (.ins (cl 6) J ([("family",B),("place",t)]:List (gw×V))):=⟨rfl,by lia,J,[B,t],rfl,by show 2<=2;lia,fh.cons x4 (fh.cons r3 fh.nil)⟩;have I4:=((I2.grow g3).chg 0 rfl rfl ow).unlock g;have v8: ∀o' u',H r≠some (.frz o' u'):=by
       intro o' u' h;rcases U.old r (by rw[h];simp)with z|⟨us,z1,_⟩
       .rw[g]at z;have:=hu r [] z.symm;rw[h]at this;cases this
       .rw[h]at z1;cases z1
      have key: ∀X:Hp->Prop,X (L2.upd (L2.upd H3 p (.ins (cl 6) J ([("family",B),("place",t)]:List (gw×V)))) r (.dK []))->Xg H X (L2.upd H3 p (.ins (cl 6) J ([("family",B),("place",t)]:List (gw×V)))):=by
       intro X hX;rcases g3.ext r _ g with z|⟨_,ob,z⟩
       .left;have:L2.upd (L2.upd H3 p (.ins (cl 6) J ([("family",B),("place",t)]:List (gw×V)))) r (.dK [])=L2.upd H3 p (.ins (cl 6) J ([("family",B),("place",t)]:List (gw×V))):=by
         funext a;by_cases e:a=r
         .subst e;rw[eR,d9 C,z]
         .rw[d9 e]
        rw[this]at hX;exact hX
       .right;exact⟨r,ob,_,by rw[d9 C];exact z,v8,hX⟩
      refine key _ ?_;refine⟨F3,_,_,λd=>d=nA (iA 0),I4,?_,λv5 d5 F5 H5 M r5 q5=> ?_⟩
      .rfl';exact⟨_,rfl,rfl⟩
      .subst q5;have w0:d0=iN m:=by have: [iN m,JL pl]=[d0,d1]:=el;injection this with h;exact h.symm
       subst w0;have v2:p9 ⟨K,cl⟩ p F3 H3 F3 (L2.upd (L2.upd H3 p (.ins (cl 6) J ([("family",B),("place",t)]:List (gw×V)))) r (.dK [])):=by
        refine⟨a4.le,λa o h=> ?_,λa o h l hp hm=> ?_⟩
        .by_cases ea:a=r
         .subst ea;rw[g]at h;cases h;exact .inl eR
         .unfold Lh;rw[d9 ea];exact a4.ext a o h
        .have I:a≠r:=by rintro rfl;rw[g]at l;cases l
         rw[d9 I];exact a4.same a o h l hp hm
       have ha:=(U.br v2).grow M;have y0:=U.le.trans M.le;have x3:=M.same _ _ eR;have x1:=M.le _ _ g;have z6:w8 F H5:=λx O h=>by
        by_cases ex:x=r
        .subst ex;have:=U.le _ _ h;rw[g]at this;cases this;exact x3
        .have I:x≠p:=by rintro rfl;rw[hd.1]at h;cases h
         exact M.same x (.dK O) (by rw[d9 ex,d9 I];exact U.same _ _ (hu x O h))
       let⟨ta,tu,tl⟩:=Jp y0 ha z6;have w5:F5 p=none:=by
        have z:(L2.upd (L2.upd H3 p (.ins (cl 6) J ([("family",B),("place",t)]:List (gw×V)))) r (.dK [])) p=some (.ins (cl 6) J ([("family",B),("place",t)]:List (gw×V))):=by rw[d9 (gk C),eR]
        rw[M.aB z (by intro us h;cases h)];exact x0.1
       have z5:=M.same _ _ (by rw[d9 (gk C),eR])
       let Y:=λa=>if a=r then some (.dK [])else trim ⟨K,cl⟩ F F5 a
       have k:Y r=some (.dK []):=dq rfl;have j: ∀a,a≠r->Y a=trim ⟨K,cl⟩ F F5 a:=λa h=>di h;have l5: ∀a o,F5 a=some o->Y a=some o\/uw ⟨K,cl⟩ o:=λa o h=>by
        by_cases ea:a=r
        .subst ea;rw[x1]at h;cases h;exact .inl k
        .rw[j a ea];exact tl a o h
       have aF:p9 ⟨K,cl⟩ p F H Y H5:=by
        refine⟨λa o h=> ?_,λa o h=> ?_,λa o h l hp hm=> ?_⟩
        .exact l5 a o (y0 a o h)
        .by_cases ea:a=r
         .subst ea;rw[k]at h;cases h;exact .inl x3
         .rw[j a ea]at h;exact ta.ext a o h
        .obtain⟨z1,z2⟩:=ta.same a o h l hp hm;have I:a≠r:=by rintro rfl;have:=(ha.same a o h l hp hm).2;rw[x1]at this;cases this
         exact⟨z1,by rw[j a I];exact z2⟩
       have uF:w8 Y H5:=λx O h=>by
        by_cases ex:x=r
        .subst ex;rw[k]at h;cases h;exact x3
        .rw[j x ex]at h;exact tu x O h
       have y7:Y q=some (.ins (cl 2) v4 ([("by_sex",va),("weights",vb),("seen",.ref r)]:List (gw×V))):=by
        rcases l5 q _ (M.le _ _ v0)with z|⟨_,z⟩|⟨_,z⟩|⟨_,_,z⟩
        .exact z
        .cases z
        .cases z
        .injection z with z1;exact absurd (Z.T.inj 2 6 (by lia) (by lia) z1) (by lia)
       have z0:=(w2.mono M.le).plain Z.T (.int _) l5;have y2:=(v7.mono M.le).plain Z.T (vC _) l5;have y5:=(x4.mono M.le).plain Z.T (z8 m) l5;have v1:k7 ⟨K,cl⟩ Y t (fJ ⟨kk==1,row⟩ []):=by subst w3;have rs:iE ⟨K,cl⟩ Y [va,vb,.ref r] [mh (⟨kk==1,row⟩:dQ).bySex,.lst (hU (⟨kk==1,row⟩:dQ).weights),.dic false (dl nD jH [])]:=fh.cons z0 (fh.cons y2 (fh.cons (.dK k rfl (λi p q x y=>by simp at x) λi p q x y=>by simp at x) fh.nil));exact .obj (by lia) y7 rfl rs.1 rs.2
       refine hw v5 _ (some (m,some (⟨kk==1,row⟩,[]))) Y H5 aF uF ?_ (r5.plain Z.T (ie _) l5) (hq _ R2);exact⟨by rw[j p (gk C)];exact zU hd.1 w5,rfl,_,z5,rfl,by lia,J,[B,t],rfl,by show 2<=2;lia,fh.cons y5 (fh.cons v1 fh.nil)⟩
    .have x7:(decide (kk<=1)&&kI ⟨kk==1,row⟩)=false:=by simpa using ok
     simp only[x7];have es:fG (some ⟨m,x5⟩) (.place kk row)=(some ⟨m,x5⟩,iA (-1)):=by
      show(if 1<kk\/kI ⟨kk==1,row⟩=false then _ else _)=_;rw[dq];rw[Nd,QZ]at x7;rcases x7 with h|h
      .exact .inl (by lia)
      .exact .inr h
     rw[es]at hq;refine⟨F2,_,_,λd=>d=nA (iA (-1)),I2,?_,λv d F3 H3 g3 r3 q3=> ?_⟩
     .rfl';exact⟨_,rfl,rfl⟩
     .subst q3;obtain⟨gt,ut,lt⟩:=oE (x6.trans g3) hu;exact hw v _ (some (m,pl)) _ H3 gt.after ut (hd.grow gt) (r3.plain Z.T (ie _) lt) (hq _ R)
def Dh{K V:Type} [DecidableEq K]{l:List (K×V)}{k:K}{v:V}{q:K×V}(h:q∈kX l k v):q∈l\/q=(k,v):=by
 unfold kX at h;split at h
 .obtain⟨r,a,e⟩:=dk.mp h;split at e
  .rename_i b;right;rw[<-e,<-b]
  .left;rw[<-e];exact a
 .simpa using h
def VG{b:du}{L:dQ}{d:gN}{s:lN}{i:Nat}{l:List fc}(r:Yt b L d s)(f:i< ~~~b):Yt b L (kX d i (gC L l)) (s.set i (gC L l)):=by
 have hk:(gC L l).length<=64:=by refine eC (iB _ _) (eC (um _) ?_);exact kh r.ok.k8 r.ok.k8
 refine⟨r.ok,⟨by rw[EU];exact r.rel.len,λj c=> ?_⟩,xQ r.nd,λq a=> ?_,λq a=> ?_⟩
 .rw[tm];by_cases e:i=j
  .subst e;rw[dq rfl,dG,gU (by rw[r.rel.len];exact c)];rfl
  .rw[di e,dG,fF e,<-dG];exact r.rel.get j c
 .rcases Dh a with h|h
  .exact r.lt q h
  .simp_all
 .rcases Dh a with h|h
  .exact r.ln q h
  .simp_all
def Fg(Z:Fx K mg cl):FnA P w K mg base cl 4 "answer_see" (wO 11):=by
 have S:Sc ["desk","call"] (top 131):=by walk_at "s"
 let⟨f fd,F,hm,hb⟩:=Z.d 68 _ rfl;refine⟨f,fd,["desk","call"],?_,hm,F.kp,hb⟩;refine F.ok S (λvs H Q E hx=>by obtain⟨p,u,F,st,n,wn,row,QD,ev,_⟩:=hx;rw[ev];rfl) λv2 A outer s H vs Q E hr hx=> ?_;obtain⟨p,u,F,st,n,wn,row,QD,ev,e,hu,hd,hc,hq,hw⟩:=hx;refine⟨_,kK (Nu (gX hr) (Hv (Hv (pv 0) rfl) rfl) (fK (fI.r (dS Z.T (dW 1))) dM) (dU (Ba Z) hr (da (NF Z.T (pr 0)) (da (dS Z.T (dW 1)) dz))) rfl) (oG (sm (dU (gM Z) hr (da dM dz)))),?_⟩;subst ev;obtain⟨rfl,s',c,R,J,hl,y7,hq⟩:=hq;let⟨U pl,rfl,h1,h2⟩:=kj y7 (by lia);obtain⟨⟨L,I⟩,rfl⟩:=h2 (by simp);obtain⟨g0,ss,pr,rfl⟩:=R.ay
 match wn,J,h1 with
 | [i],J,h1=>
  cases J
  have hi:=h1 (by lia) i (by simp);have I0:=tV (N:=["desk","call"]) rfl e hd hc;refine⟨F,_,_,λd=>d=jH (gC L (iV row)),I0,?_,λv1 d1 F1 H1 g1 r1 q1=> ?_⟩
  .simp only[iz];ac_nf;walk_at "n";exact⟨L,I,row,rfl,hl.two (by lia),by have:=hl.cO (by lia);lia,rfl⟩
  .subst q1;let⟨dx u0 u1 d0 d1,el,hp,y0,y5⟩:=ug hd;have z5: [iN U,fJ L I]=[d0,d1]:=el;injection z5 with z0 z1;injection z1 with z1;subst z0;subst z1;let⟨q O va vb r G,u8,x4,u3,u2,v,Y⟩:=A7 y5;subst u8;have z6:=hu r G v;have x7:H q=some (.ins (cl 2) O ([("by_sex",va),("weights",vb),("seen",.ref r)]:List (gw×V))):=by
    rcases e q _ x4 with z|⟨z,_⟩
    .exact z
    .cases z
   have x2:r≠p:=by rintro rfl;rw[hd.1]at v;cases v
   refine⟨.ref p,rfl,p,cl 6,dx,_,.ref q,rfl,g1.same _ _ hp,Z.T.cls 6 (by lia),Z.T.no 6 "place" (by lia) (by decide),rfl,q,cl 2,O,_,.ref r,rfl,g1.same _ _ x7,Z.T.cls 2 (by lia),Z.T.no 2 "seen" (by lia) (by decide),rfl,?_⟩;refine⟨F1,_,_,λd=>d=nD i,I0.grow g1,?_,λy dy F3 H3 g3 ry qy=> ?_⟩
   .have q0:nB (hU [i]) (0:Int)=some (nD i):=lS rfl;simp only[iz];rfl';rw[q0]
   .subst qy;have g:=g1.trans g3;have u6: ~~~G<sizeLine:=by have h1:=pr.len;have h2:=g0.len;have h3:=Y.1;rw[mT]at h3;rw[dO];lia
    have hy:=ry.aa;subst hy;refine⟨r,_,rfl,Fu.k (k:= .inl (i:Int)) (g.same _ _ z6) u6,?_⟩;obtain⟨gt,ut,tl⟩:=oE g hu;have C:fh (RK ⟨K,cl⟩ F3) (rp G (.inl (i:Int)) v1) (dl nD jH (kX I i (gC L (iV row)))):=by have:=JB (i:Int) (RK.mono g.le Y) (r1.mono g3.le);rw[show rq (dl nD jH I) (.int (i:Int)) (jH (gC L (iV row)))=_ from jz (λ_ _=>jI) I i _]at this;exact this
    generalize rp G (.inl (i:Int)) v1=kvs' at C
    let t:=λa=>if a=r then some (.dK kvs')else trim ⟨K,cl⟩ F F3 a
    have B:t r=some (.dK kvs'):=dq rfl;have m: ∀a,a≠r->t a=trim ⟨K,cl⟩ F F3 a:=λa h=>di h;have x5:=g.le _ _ v;have X: ∀a o,F3 a=some o->t a=some o\/uw ⟨K,cl⟩ o:=λa o h=>by
     by_cases ea:a=r
     .subst ea;rw[x5]at h;cases h;exact .inr (.inl ⟨_,rfl⟩)
     .rw[m a ea];exact tl a o h
    have eF:oW t (L2.upd H3 r (.dK kvs')):=λa o h=>by
     by_cases ea:a=r
     .subst ea;rw[B]at h;cases h;exact .inl eR
     .rw[m a ea]at h;unfold Lh;rw[d9 ea];exact gt.ext a o h
    have uF:w8 t (L2.upd H3 r (.dK kvs')):=λx k' h=>by
     by_cases ex:x=r
     .subst ex;rw[B]at h;cases h;exact eR
     .rw[m x ex]at h;rw[d9 ex];exact ut x k' h
    have aF:p9 ⟨K,cl⟩ p F H t (L2.upd H3 r (.dK kvs')):=by
     refine⟨λa o h=>X a o (g.le a o h),eF,λa o h M z3 hm=> ?_⟩;have x3:a≠r:=by rintro rfl;rw[v]at M;cases M
     let⟨y1,y2⟩:=(gt.after (T:=⟨K,cl⟩)).same a o h M z3 hm;exact⟨by rw[d9 x3];exact y1,by rw[m a x3];exact y2⟩
    have x1:t q=some (.ins (cl 2) O ([("by_sex",va),("weights",vb),("seen",.ref r)]:List (gw×V))):=by
     rcases X q _ (g.le _ _ x4)with z|⟨_,z⟩|⟨_,z⟩|⟨_,_,z⟩
     .exact z
     .cases z
     .cases z
     .injection z with z1;exact absurd (Z.T.inj 2 6 (by lia) (by lia) z1) (by lia)
    have z7: ∀l:List fc,ju (jH l):=λl=> .lst λd hd=>by let⟨(x),_,rfl⟩:=dk.mp hd;exact JJ x
    have rs:iE ⟨K,cl⟩ t [va,vb,.ref r] [mh L.bySex,.lst (hU L.weights),.dic false (dl nD jH (kX I i (gC L (iV row))))]:=by refine fh.cons ((u3.mono g.le).plain Z.T (.int _) X) (fh.cons ((u2.mono g.le).plain Z.T (vC _) X) (fh.cons (.dK B C.1 (λj a b x y=>(C.2 j a b x y).1) λj a b x y=> ?_) fh.nil));have hb:=eS y;let⟨(z),_,rfl⟩:=dk.mp hb;exact(C.2 j a _ x y).2.plain Z.T (z7 _) X
    have z2:k7 ⟨K,cl⟩ t (.ref q) (fJ L (kX I i (gC L (iV row)))):= .obj (by lia) x1 rfl rs.1 rs.2;have dF:mG ⟨K,cl⟩ t (L2.upd H3 r (.dK kvs')) p (Bs (some (U,some (L,kX I i (gC L (iV row)))))):=by refine⟨by rw[m p (gk x2),gt.aB hp (by intro us h;cases h)];exact hd.1,rfl,_,by rw[d9 (gk x2)];exact g.same _ _ hp,rfl,by lia,dx,[u0,.ref q],rfl,by show 2<=2;lia,fh.cons ((y0.mono g.le).plain Z.T (z8 U) X) (fh.cons z2 fh.nil)⟩
    have I4:lq ⟨K,cl⟩ t [none,none] (L2.start ["desk","call"] [.ref p,u]) (L2.upd H3 r (.dK kvs')) (λ_=>none):=by
     refine⟨eF,rfl,λj d h=> ?_,λj l h _=> ?_,(λj q h=>by cases h),(λj q h=>by cases h),(λj k q h=>by cases h)⟩
     .match j with
      |0=>simp at h
      |1=>simp at h
      |j+2=>simp at h
     .match j with
      |0=>simp at h
      |1=>simp at h
      |j+2=>simp at h
    refine⟨t,_,_,λd=>d=nA (iA 0),I4,?_,λv5 d5 F5 H5 g5 r5 q5=> ?_⟩
    .rfl';exact⟨_,rfl,rfl⟩
    .subst q5;obtain⟨x0,x6,v0⟩:=oE g5 uF;have es:fG (some ⟨U,some (L,ss)⟩) (.see i (iV row))=(some ⟨U,some (L,ss.set i (gC L (iV row)))⟩,iA 0):=by show(if ~~~U<=i then _ else _)=_;rw[di (by lia)]
     rw[es]at hq;exact hw v5 _ _ _ H5 (aF.grow x0) x6 (dF.grow x0) (r5.plain Z.T (ie _) v0) (hq _ (.pl g0 (VG pr hi)))
def S9:Stmt:=ny (top 115)
def Z8:UJ:=λds Q=>ds=[]/\Q [D.non,D.non]
def Wn(Z:Fx K mg cl):Xj P w K mg base cl 1 6 0 "Desk" Z8:=by
 let⟨f g,F,d,M,e⟩:=Z.c 6 _ rfl;have S:Sc ["self"] S9:=by walk_at "s"
 refine ue F d M (by decide) e S rfl (λb A outer s H E k=>(dg (lG (i:=0) Z.T (pv 0) oH) (dn (lG (i:=0) Z.T (pv 0) oH)))) ?_;intro q ds h j a;let⟨rfl,a⟩:=a;rfl';exact⟨[D.non,D.non],rfl,rfl,a⟩
def GR(P:fY)(w:iu)(K:dh)(mg:kQ)(base:iZ)(cl:nL)(k:Nat):Prop:=
 ∃a b,mg "ANSWERING" =some (.ref a)/\GQ P w K a b/\ ∀n:Nat,1<=n->n<=17-> ∃f c ps,o8 b (.inl (n:Int))=some (.ref f)/\qY P w K mg base QE k f c ps (spA ⟨K,cl⟩ (wO n))/\iL K (.ref f)=true/\L2.Binds K c ps []
def HG(Z:Fx K mg cl)(a:kF P w K mg base cl 2 "refusal_of" 2 zm)(hA:GR P w K mg base cl 10):FnA P w K mg base cl 11 "answer_to" acM:=by
 have S:Sc ["desk","call","refusal"] (top 144):=by walk_at "s"
 let⟨f fd,F,hm,hb⟩:=Z.d 77 _ rfl;let⟨aA x3,x2,x,hA⟩:=hA;refine⟨f,fd,["desk","call"],?_,hm,F.kp,hb⟩;refine F.ok S (λvs H Q E O=>by obtain⟨p,u,F,st,n,g,row,QD,J,_⟩:=O;rw[J];rfl) λx4 A outer s H vs Q E hr O=> ?_;obtain⟨p,u,F,st,n,g,row,QD,J,e,hu,hd,hc,j,hw⟩:=O;refine⟨_,kK (sk (i:=2) S.nd rfl (lB rfl) (Dv Z.T a hr (qC (pl 0) (qC (fI.l (dW 1)) MX)))) (kK (JF (Cf (cl:=cl) (dW 2)) (oG (sm (dU (gM Z) hr (da (dW 2) dz)))) yY) (oG (sm (Si hr (X4 x x2 (dS Z.T (dW 1)) rfl (by intro _ _;rfl) (by decide)) (jl (pv 0) (jl (pv 1) mF)))))),?_⟩;subst J;let⟨s' c,R,k,hl,j⟩:=j;have ci:=Uo k;have I0:=tV (N:=["desk","call","refusal"]) rfl e hd hc;refine⟨F,_,_,λd=>d=ZO (Dd st n g),I0,?_,λv1 d1 F1 H1 g1 r1 q1=> ?_⟩
 .simp only[iz];ac_nf;walk_at "n";refine⟨Qm st,⟨st,n,g,_,rfl,by have:=ci.bnd;lia,?_,rfl⟩⟩;cases Dd st n g
  .exact .non
  .exact .int _
 .subst q1;have h:=(I0.grow g1).set 2 r1;have x5:=hd.grow g1;cases hrf:Dd st n g with
  |some z=>
   rw[hrf]at h;refine⟨F1,_,_,λb=>b=true,h,?_,λb m H2 g2 o=> ?_⟩
   .simp only[ZO]
    all_goals first|rfl|simp
   .subst o;ac_rfl;have G:=h.grow g2;refine⟨m,_,_,λd=>d=nA (iA z),G,?_,λv3 d3 F3 H3 g3 M I=> ?_⟩
    .simp only[ZO];rfl';exact⟨z,rfl,rfl⟩
    .subst I;obtain⟨gt,ut,lt⟩:=oE ((g1.trans g2).trans g3) hu;have es:=RI R ci hrf;rw[es]at j;exact hw v3 _ st _ H3 gt.after ut (hd.grow gt) (M.plain Z.T (ie _) lt) (j _ R)
  |none=>
   rw[hrf]at h;refine⟨F1,_,_,λb=>b=false,h,?_,λb m H2 g2 o=> ?_⟩
   .simp only[ZO]
    all_goals first|rfl|simp
   .subst o;simp only[hJ];have G:=h.grow g2;let⟨f2 x1 y,B,C,t,b2⟩:=hA n ci.bnd.1 ci.bnd.2.1;refine⟨m,_,_,λd=>d=nD n,G,?_,λv3 d3 F3 H3 g3 M I=> ?_⟩
    .simp only[iz];ac_nf
    .subst I;have x0:=M.aa;refine⟨(n:Int),.ref f2,.ref f2,x0,B,rfl,f2,x1,y,_,rfl,C,t,b2,_,rfl,_,rfl,?_⟩;let⟨gt,ut,lt⟩:=oE (T:=⟨K,cl⟩) ((g1.trans g2).trans g3) hu;refine⟨p,u,_,st,n,g,row,QD,rfl,gt.ext,ut,hd.grow gt,hc.mono gt.le,⟨rfl,s',c,R,k,hl,hrf,j⟩,λv d U F' H' ha Y q X r=> ?_⟩;exact hw v d U F' H' (gt.br ha) Y q X r
def XY:Sp:=λc H Q _=> ∃(a:eB) (l:jn) (d:List Cl),c=[.ref a]/\Rd H a (.lst (l.map V.int))/\ ~~~l<=31000/\Runs l d/\ ∀(b:Hp) (p:eB),b p=some (.lst ((zM l).map V.int))->Q (.ref p) b
def Dk(l:jn): ∀d∈l.map D.int,ju d:=λd hd=>by let⟨(z),_,rfl⟩:=dk.mp hd;exact .int z
def JK(c:Cl):ju (xy c):= .obj (by lia) λd hd=>by
 simp only[eM,l9,AO]at hd;rcases hd with rfl|rfl|rfl
 .exact .int _
 .exact .lst (Dk _)
 .exact .lst (Dk _)
def A6(a:List Cl): ∀d∈a.map xy,ju d:=λd hd=>by let⟨(c),_,rfl⟩:=dk.mp hd;exact JK c
def iE.plain(f:T.Ok)(r:iE T F us ds)(c: ∀d∈ds,ju d)(e: ∀a o,F a=some o->F' a=some o\/uw T o):iE T F' us ds:=⟨r.1,λi u d a b=>(r.2 i u d a b).plain f (c d (eS b)) e⟩
def PM{T:qj}{F c:Hp}{b:eB}{us:List V}(h:F b=some (.lst us))(d: ∀a o,F a=some o->c a=some o\/uw T o):c b=some (.lst us):=by
 rcases d b _ h with z|⟨_,z⟩|⟨_,z⟩|⟨_,_,z⟩
 .exact z
 all_goals cases z
def Wl(e:oW F H)(r:k7 T F v d):lq T F [some (.val d),none,none,none] [some v,o1,o2,o3] H (λ_=>none):=by
 refine⟨e,rfl,λi d' h=> ?_,λi f h c=> ?_,λi q h=> ?_,λi q h=> ?_,λi j q a b=> ?_⟩
 .match i,h with
  |0,h=>
   simp_all
  |1,h=>simp at h
  |2,h=>simp at h
  |3,h=>simp at h
  |i+4,h=>simp at h
 .match i,h with
  |0,h=>
   have:L.val d=f:=by simpa using h
   exact absurd this.symm (c d)
  |1,h=>simp at h
  |2,h=>simp at h
  |3,h=>simp at h
  |i+4,h=>simp at h
 .cases h
 .cases h
 .cases a
def mG.aD(h:mG T F H p l)(c:p≠q):mG T F (L2.upd H q o) p l:=by obtain⟨a,d,b,e,f⟩:=h;exact⟨a,d,b,by rw[d9 c];exact e,f⟩
def oW.aD(h:oW F H)(c:F q=none):oW F (L2.upd H q o):=λa u e=>by
 have b:a≠q:=by rintro rfl;rw[c]at e;cases e
 unfold Lh;rw[d9 b];exact h a u e
def w8.aD(h:w8 F H)(c:F q=none):w8 F (L2.upd H q o):=λr b e=>by
 have a:r≠q:=by rintro rfl;rw[c]at e;cases e
 rw[d9 a];exact h r b e
structure yi(T:qj)(a x lg b:eB)(us:List V)(cs:List Cl)(i:Nat)(σ:L2.St)(H:Hp)(F:Hp)(st:lM):Prop where
 at_: ∃vc,σ=[some (.ref a),some (.ref x),some (.ref lg),vc]
 ext:oW F H
 cZ:w8 F H
 cW:mG T F H x (Bs st)
 rel:w9 st (lp fE (cs.take i))
 lst:F b=some (.lst us)
 rep:iE T F us (cs.map xy)
 out:H lg=some (.lst ((jV (fi dN fE (cs.take i))).map V.int))
 free:F lg=none
def Ma(Z:Fx K mg cl){f:eB}{fd:n0}(F:UK K "answers" "answers" (top 147) f fd)(k:kF P w K mg base cl 3 "calls_in" 1 Em)(j:FnA P w K mg base cl 11 "answer_to" acM):qY P w K mg base QE 12 f fd ["calls"] XY:=by
 have S:Sc ["calls","desk","given","call"] (top 147):=by walk_at "s"
 obtain⟨hc6,fD,fdD,psD,MD,FD,mD,bD'⟩:=(Wn Z);obtain⟨fL,fdL,psL,FL,mL,kL,bL⟩:=(JX Z);let⟨fA fdA psA,FA,mA,kA,bA⟩:=j;refine F.ok S (λvs H Q E I=>by let⟨a l g,ev,_⟩:=I;rw[ev];rfl) λcdv A outer s H vs Q E hr I=> ?_;let⟨a l g,ev,w1,y7,U,hw⟩:=I;refine⟨_,kK (sk (i:=1) S.nd rfl (lB rfl) (Sa MD FD (hr.mono (by decide)) rfl mD bD' .nil Dy)) (kK (sk (i:=2) S.nd rfl (lB rfl) (LY mF)) (kK (LV .never rfl (NB (dU k hr (da (dW 0) dz))) (Ck (i:=3) S.nd rfl (lB rfl)) (oG (Hr (JP lU FB Fz NL (pv 2) (jl (Cm FL (hr.mono (by decide)) rfl mL kL bL .nil Dy (jl (Cm FA hr rfl mA kA bA .nil Dy (jl (pv 1) (jl (pv 3) mF))) mF)) mF))))) (oG (sm (pv 2))))),?_⟩;subst ev;intro x dx I hdx w2
 let G:Hp:=λb=>if b=a then some (.lst (l.map V.int))else none
 have N:G a=some (.lst (l.map V.int)):=dq rfl;have x4: ∀b o,G b=some o->b=a/\o= .lst (l.map V.int):=λb o h=>by
  by_cases e:b=a
  .subst e;rw[N]at h;exact⟨rfl,(ft h).symm⟩
  .have:G b=none:=di e;rw[this]at h;cases h
 have e0:oW G H:=λb o h=>by let⟨rfl,rfl⟩:=x4 b o h;exact w1.imp id λz=>⟨rfl,z⟩
 have e1:oW G (L2.upd (L2.upd H dx (.own x)) x (.ins (cl 6) dx [])):=(e0.upd hdx).upd (by rw[d9 (λz=>w2 z.symm)];exact I);refine⟨x,_,dx,G,[],λl=>l=[D.non,D.non],rfl,eR,e0.fresh I,e1,fh.nil,rfl,⟨rfl,rfl⟩,λF1 H1 v0 us' ds' g1 f1 h1 v4 r1 q1=>⟨rfl,?_⟩⟩;subst q1;have u0:w8 G (hide (L2.upd (L2.upd H dx (.own x)) x (.ins (cl 6) dx [])) x):=λr kvs h=>by let⟨_,z⟩:=x4 r _ h;cases z
 obtain⟨M,x1,lt1⟩:=oE g1 u0;have hd1:mG ⟨K,cl⟩ F1 H1 x (Bs none):=⟨f1,rfl,_,h1,rfl,by lia,v0,us',rfl,by rw[v4];exact dI _,r1⟩;have O:=GE Z.T hd1 (λd hd=>by
  have:d=D.non:=by have hd:d∈ [D.non,D.non]:=hd;simpa using hd
  subst this;exact .non) lt1 (zU (e0.fresh I) f1)
 have u8:k7 ⟨K,cl⟩ (trim ⟨K,cl⟩ G F1) (.ref a) (.lst (l.map D.int)):=by have r0:=Gd (T:=⟨K,cl⟩) (F:=G) l;exact k7.mono M.le (.lst N r0.1 r0.2)
 generalize trim ⟨K,cl⟩ G F1=F2 at M x1 O u8;refine⟨kW _,λp R=> ?_⟩;have X:fT F2 H1 F2 (L2.upd H1 p (.lst [])):=fT.laid M.ext R;have x0:=M.ext.fresh R;have y5:=fz h1 R;have x3:=O.grow X;have x2:w8 F2 (L2.upd H1 p (.lst [])):=x1.aD x0;have C:(L2.upd H1 p (.lst [])) p=some (.lst []):=eR;generalize L2.upd H1 p (.lst [])=H2 at X x3 x2 C;refine⟨F2,[some (.val (.lst (l.map D.int))),none,none,none],λ_=>none,λd=>d= .lst (g.map xy),Wl X.ext u8,?_,λv3 d3 F3 H3 g3 r3 q3=> ?_⟩
 .rfl';exact⟨l,g,~~~l,rfl,y7,U.calls,rfl⟩
 subst q3;obtain⟨q,u3,x7⟩:=oE g3 x2;have y0:=r3.plain Z.T (.lst (A6 g)) x7;generalize trim ⟨K,cl⟩ F2 F3=F4 at q u3 y0;clear r3 x7;cases y0 with
 | @lst b us ds z6 hl3 w7=>
  have u1:=q.same _ _ C;have v1:F4 p=none:=by rw[q.aB C (by intro us z;cases z)];exact x0
  have T0:yi ⟨K,cl⟩ a x p b us g 0 [some (.ref a),some (.ref x),some (.ref p),none] H3 F4 none:=⟨⟨none,rfl⟩,q.ext,u3,x3.grow q,.none,z6,⟨hl3,w7⟩,u1,v1⟩;refine⟨b,rfl,⟨us,.inl (q.ext b _ z6).rd⟩,TF (λi σ H=> ∃F st,yi ⟨K,cl⟩ a x p b us g i σ H F st) ⟨F4,none,T0⟩ (λi σ H _ I=>by let⟨F st,t⟩:=I;exact .inl (t.ext b _ t.lst).rd) ?_ ?_⟩
  .rintro i y σ H5 hi ⟨F5,st,t⟩;let⟨(vc),rfl⟩:=t.at_;have hil:i< ~~~g:=by have:=(dH.mp hi).1;have h:=t.rep.1;rw[dA]at h;lia
   have u:=df hil;have z1:(g.map xy)[i]?=some (xy g[i]):=by rw[dX,u];rfl
   have ry:=t.rep.2 i y _ hi z1;generalize g[i]=c at u z1 ry;have y1:=eS u;let⟨n wn row m,e1',v5,w0,y2⟩:=Wy t.rel (U.c7 c y1) (U.one c y1) (U.wt i c u);rw[e1']at ry;have z5:g.take (i+1)=g.take i++ [c]:=by rw[List.take_add_one,u];rfl
   have B:dN (lp fE (g.take i)) c=((fG (lp fE (g.take i)) m).1,uT (fG (lp fE (g.take i)) m).2):=by unfold dN;rw[w0];rfl
   have z0:(fi dN fE g).length<=400:=by rw[LW];exact U.len
   have hpl:fi dN fE g=fi dN fE (g.take (i+1))++fi dN (lp fE (g.take (i+1))) (g.drop (i+1)):=by rw[<-E8,List.take_append_drop]
   have x5:fi dN fE (g.take (i+1))=fi dN fE (g.take i)++ [uT (fG (lp fE (g.take i)) m).2]:=by rw[z5,JH,B]
   have hsz:sizes (fi dN fE (g.take (i+1)))<1000000:=by have:=U.size;rw[hpl,He]at this;lia
   have hln:(fi dN fE (g.take (i+1))).length<=400:=by rw[hpl,ib]at z0;lia
   have z2:lp fE (g.take (i+1))=(fG (lp fE (g.take i)) m).1:=by rw[z5,MY,B]
   have hol:(jV (fi dN fE (g.take (i+1)))).length<=1001200:=by have:=Rr (fi dN fE (g.take (i+1)));lia
   have Y:jV (fi dN fE (g.take (i+1)))=jV (fi dN fE (g.take i))++(((uT (fG (lp fE (g.take i)) m).2).length:Int)::uT (fG (lp fE (g.take i)) m).2):=by rw[x5,OQ]
   have z3:(fG (lp fE (g.take i)) m).2.nums.length+(fG (lp fE (g.take i)) m).2.text.length<=2000000:=by have h1:=Qi (fG (lp fE (g.take i)) m).2;have h2:=Pb (l:=fi dN fE (g.take (i+1))) (a:=uT (fG (lp fE (g.take i)) m).2) (by rw[x5];simp);lia
   have hout:=t.out;have hR:=t.rel;generalize lp fE (g.take i)=s0 at hR z2 Y z3;refine⟨_,rfl,.inl ⟨rfl,_,rB.of t.out⟩,_,rfl,_,rfl,?_⟩;refine⟨x,y,F5,st,n,wn,row,λJ d=>d=nA (fG s0 m).2/\w9 J (fG s0 m).1,rfl,t.ext,t.cZ,t.cW,ry,⟨s0,m,hR,v5,y2,λJ h=>⟨rfl,h⟩⟩,λv6 d6 J F6 H6 a6 u6 hd6 r6 q6=> ?_⟩;let⟨q6,R6⟩:=q6;subst q6;let⟨x6,fl6⟩:=a6.same p _ t.out t.free (gk y5) trivial;refine⟨F6,[nA (fG s0 m).2],λd=>d= .lst ((((uT (fG s0 m).2).length:Int)::uT (fG s0 m).2).map D.int),a6.ext,fh.cons r6 fh.nil,rfl,⟨_,rfl,z3,rfl⟩,λv7 d7 F7 H7 g7 r7 q7=> ?_⟩;subst q7;obtain⟨v,ut7,lt7⟩:=oE g7 u6;have w3:=g7.same _ _ x6;have u2:=iE.plain Z.T t.rep (A6 g) a6.le;have z7:=PM t.lst a6.le;cases r7 with
   | @lst a7 ws ds v8 v2 hr7=>
    have w5:=ud ⟨v2,hr7⟩;subst w5;have f7:trim ⟨K,cl⟩ F6 F7 p=none:=by rw[v.aB x6 (by intro us z;cases z)];exact fl6
    refine⟨p,a7,_,_,rfl,rfl,w3,.inl (g7.ext a7 _ v8).rd,?_,?_⟩
    .rw[dA,dA,<-ib,<-Y,dO];lia
    .refine⟨trim ⟨K,cl⟩ F6 F7,J,⟨_,rfl⟩,v.ext.aD f7,ut7.aD f7,(hd6.grow v).aD y5,by rw[z2];exact R6,v.le _ _ z7,iE.mono v.le u2,?_,f7⟩;rw[eR,Y,jF]
  .rintro σ H5 ⟨F5,st,t⟩;let⟨(vc),rfl⟩:=t.at_;refine⟨_,rfl,hw H5 p ?_⟩;have el: ~~~us= ~~~g:=by have:=t.rep.1;rw[dA]at this;exact this
   have:=t.out;rw[el,List.take_length]at this;rw[this,U.c8]
end
section
variable {K:dh} {st:o4}
def Df(K:dh)(x:gw)(st:o4)(f:eB):Prop:=fm K eU x=some (some (.ref f))/\ ∃a,UK K x x st f a
def adb{g:eA}{od h:pM}{e:wk}{kV d pm b ct:eA}(a:fm K eU x=some (some (.ref f)))
  (l:K.lookup f=some ⟨g,od,.func (kr x x (pV st) (nQ st) (jm st) .none kV d pm h b ct),e⟩)(c:oS K b x=true)(k:iL K (.ref f)=true):Df K x st f:=⟨a,_,Tx l c k⟩
def AM(x q:gw)(st:o4)(ps:iW):Prop:= ∀(kV b pm:eA) (c:pM) (a ct:eA) (us:fM),~~~us= ~~~ps->Xz (kr x q (pV st) (nQ st) (jm st) .none kV b pm c a ct) ⟨us,[]⟩=pure (ps.zip us)
def Df.at(d:Df K x st f)(X:K.In h)(G:h.Ns eU mg)(b:AM x x st ps):fN K mg x st ps:=by obtain⟨a,c,F⟩:=d;exact⟨f,c,F,iM X G a,F.binds b⟩
structure ClsAt(K:dh)(x q:gw)(C:eB)(ini:o4)(fs:iW):Prop where
 ns:fm K eU x=some (some (.ref C))
 cls:Yw K C
 no: ∀f∈fs,sF K C f
 b8: ∃f fd,Mk K C f/\UK K "__init__" q ini f fd
def afB{q:gw}{b:o4}{h:iW}{m:eA}{od j:pM}{g:wk}{kV e pm d ct:eA}(a:fm K eU x=some (some (.ref C)))
  (o:tH K C agY=true)(hd:sg K C=true)(po:zI K C=true)(n:jU K (.ref C) "__setattr__" =some (some (.builtin "object.__setattr__")))(no: ∀f∈h,sF K C f)
  (mk:B7 K C=true)(i:jU K (.ref C) "__init__" =some (some (.ref f)))(fn:XB K (.ref f)=true)(p:iL K (.ref C)=true)
  (l:K.lookup f=some ⟨m,od,.func (kr "__init__" q (pV b) (nQ b) (jm b) .none kV e pm j d ct),g⟩)(c:oS K d q=true)(k:iL K (.ref f)=true):ClsAt K x q C b h:=
 ⟨a,⟨o,hd,po,n⟩,no,f,_,⟨mk,i,fn,p⟩,Tx l c k⟩
def afl(a:fm K eU x=some (some (.int n t))): ∃t,fm K eU x=some (some (.int n t)):=⟨t,a⟩
def D6:eA->Option Int
 | .int i _=>some i
 |_=>none
theorem CL: ∀{ns:jn} {a:fM},a.map D6=ns.map some->gF (ns.map V.int) a
 | [],[],_=> .nil
 | [],_::_,h=>by cases h
 |_::_,[],h=>by cases h
 |n::ns,v::a,h=>by
  simp only[dt,OA]at h;refine .cons ?_ (CL h.2);cases v with
  |int i t=>have e:=h.1;cases e;exact⟨t,rfl⟩
  |_=>cases h.1
def EC(K:dh)(x:gw)(ns:jn):Prop:= ∃a o b n,fm K eU x=some (some (.ref a))/\K.lookup a=some o/\o.cls= .type "tuple" /\o.data= .seq b n/\b.toList.map D6=ns.map some/\ ~~~ns<=1000
def ad1(i:fm K eU x=some (some (.ref a)))(l:K.lookup a=some ⟨.type "tuple",od,.seq its n,sl⟩)(v:its.toList.map D6=ns.map some)(z: ~~~ns<=1000):EC K x ns:=⟨a,_,its,n,i,l,rfl,rfl,v,z⟩
def EC.k(t:EC K x ns)(X:K.In h)(G:h.Ns eU mg):Xk K mg x ns:=by
 let⟨a o b n,i,l,d,g,c,j⟩:=t;refine⟨a,iM X G i,λH=> .inr ⟨o,b,n,l,d,g,?_,CL c⟩⟩;have e:(b.toList.map D6).length= ~~~ns:=by rw[c,dA]
 rw[dA]at e;have f:b.size= ~~~b.toList:=by simp
 rw[f,e,dO];lia
def yf(e:pY):Option (Int×eA):=match e.key with
 | .int i _=>if e.hash=abA i then some (i,e.val)else none
 |_=>none
def N2(h:yf e=some p):(∃t,e.key= .int p.1 t)/\e.hash=abA p.1/\e.val=p.2:=by
 unfold yf at h;split at h
 .grind
 .cases h
def SZ(h:v= .int i t):(jB P w).is (jN i) v=true:=by subst h;show Cy i (.int i t)=true;simp[Cy]
theorem vH: ∀{b:List pY} {a:List (Int×eA)},b.map yf=a.map some->Pairs (jB P w) b (a.map λp=>(jN p.1,p.2))
 | [],[],_=> .nil
 | [],_::_,h=>by cases h
 |_::_,[],h=>by cases h
 |e::b,p::a,h=>by simp only[dt,OA]at h;obtain⟨⟨t,c⟩,_,d⟩:=N2 h.1;exact .cons (SZ c) d (vH h.2)
def ML{b:List pY}{a:List (Int×eA)}(h:b.map yf=a.map some): ∀e∈b,∃k,(jB P w).is k e.key=true/\e.hash=(jB P w).hash k:=λe he=>by
 have c:yf e∈a.map some:=by rw[<-h];exact yH he
 let⟨(p),_,d⟩:=dk.mp c;obtain⟨⟨t,f⟩,g,_⟩:=N2 d.symm;exact⟨.inl p.1,SZ f,g⟩
structure wW(K:dh)(x:gw)(a:eB)(es:List pY):Prop where
 ns:fm K eU x=some (some (.ref a))
 at_: ∃(arr:ur) (ep:Nat),K.lookup a=some ⟨.type "dict",none,.dict arr ep,#[]⟩/\arr.toList=es
def ada(i:fm K eU x=some (some (.ref a)))(l:K.lookup a=some ⟨.type "dict",none,.dict arr ep,#[]⟩)(e:arr.toList=es):wW K x a es:=⟨i,arr,ep,l,e⟩
def wW.k{g:List pY}{c:List (Int×eA)}(d:wW K x a g)(hk:g.map yf=c.map some)(m:(c.map (·.1)).Nodup):GQ P w K a (c.map λp=>(jN p.1,p.2)):=by
 let⟨arr i,l,e⟩:=d.at_;intro h X;refine⟨_,arr,i,X _ _ l,⟨rfl,rfl,rfl⟩,rfl,λe he=> ?_,by rw[e];exact vH hk,?_⟩
 .exact ML hk e (by rw[<- ‹arr.toList=g›];exact Array.mem_def.mp he)
 .rw[dm];have j:(c.map ((λx:Key×eA=>x.1)∘λp:Int×eA=>((jN p.1:Key),p.2)))=(c.map (·.1)).map Sum.inl:=by rw[dm];rfl
  rw[j];exact adU _ (λa b f he=>f (Sum.inl.inj he)) m
def AZ(a:List (Int×eA))(z:Int):o8 (a.map λp=>((jN p.1:Key),p.2)) (jN z)=(a.find? λp=>decide (p.1=z)).map (·.2):=by
 unfold o8;induction a with
 |nil=>rfl
 |cons p a ih=>
  by_cases e:p.1=z
  .subst e;simp
  .simp_all
def Im(K:dh):Bool:=K.all λp=>match p.2.cls with
 | .type n=>n != "list"
 |_=>true
theorem DX: ∀{K:dh} {a:eB} {o:xG},K.lookup a=some o->(a,o)∈K
 | [],a,o,h=>by cases h
 |(b,u)::K,a,o,h=>by
  rw[CB]at h;split at h
  .simp_all
  .exact eP _ (DX h)
def Wu(n:Im K=true)(h:K.lookup a=some o)(b:o.cls= .type "list"):False:=by unfold Im at n;rw[hC]at n;have:=n _ (DX h);simp only[b]at this;exact absurd this (by decide)
def Za{H:Hp}{f:List V}{l:jn}(n:Im K=true)(h:uV K H f [.list (l.map adI)]): ∃a,f=[.ref a]/\Rd H a (.lst (l.map V.int)):=by
 cases h with
 |cons b c=>
  cases c
  cases b with
  |lst d i=>
   have e:=WG l _ i;subst e;refine⟨_,rfl,?_⟩;rcases d with d|⟨o,g,k,b,c,_⟩
   .exact d
   .exact(Wu n b c).elim
end
def QF(P:Nat->gw->Prop):List (Nat×gw)->Prop
 | []=>True
 |(i,x)::l=>P i x/\QF P l
def Iq(P:gw->Prop):List gw->Prop
 | []=>True
 |x::l=>P x/\Iq P l
def UN(P:gw->Int->Prop):List (gw×Int)->Prop
 | []=>True
 |(x,n)::l=>P x n/\UN P l
theorem QF.get: ∀{l:List (Nat×gw)} {k:Nat} {q:Nat×gw},QF P l->l[k]?=some q->P q.1 q.2
 | [],_,_,_,h=>by simp at h
 |p::l,0,q,a,h=>by cases h;exact a.1
 |p::l,k+1,q,a,h=>QF.get (l:=l) (k:=k) a.2 h
theorem Iq.get: ∀{l:iW} {k:Nat} {q:gw},Iq P l->l[k]?=some q->P q
 | [],_,_,_,h=>by simp at h
 |p::l,0,q,a,h=>by cases h;exact a.1
 |p::l,k+1,q,a,h=>Iq.get (l:=l) (k:=k) a.2 h
theorem Iq.mem: ∀{l:iW} {q:gw},Iq P l->q∈l->P q
 |p::l,q,a,h=>by
  rcases eM.mp h with rfl|h
  .exact a.1
  .exact Iq.mem a.2 h
theorem UN.get: ∀{l:List (gw×Int)} {k:Nat} {q:gw×Int},UN P l->l[k]?=some q->P q.1 q.2
 | [],_,_,_,h=>by simp at h
 |p::l,0,q,a,h=>by cases h;exact a.1
 |p::l,k+1,q,a,h=>UN.get (l:=l) (k:=k) a.2 h
noncomputable def NON:List Str:=["len","range","enumerate","zip","min","max","sum","sorted","reversed","list","tuple","dict","any","all"]
noncomputable def adx:List (gw×Int):=[("NEWLINE",10),("BLANK",32),("WOMAN_SIGN",102),("MAN_SIGN",109),("WOMAN",0),("MAN",1),("LONGEST_NAME",15),("OWN_NAME",0),("SEX",1),("FATHER",2),("MOTHER",3),("BY_SEX",1),("MOST_KINDS",8),("MOST_WEIGHT",255),("MOST_PERSONS",64),("NO_SUCH_TEXT",(-2)),("ONE_TOO_MANY",(-3)),("NAME_TAKEN",(-4)),("WRONG_PARENT",(-5)),("OWN_FOREBEAR",(-6)),("READ",1),("PLACE",10),("LONGEST_TEXT",16384),("TEXT_TOO_LONG",(-1)),("NOBODY_FOUND",(-1)),("NO_SUCH_PLACE",(-1)),("NO_CONTRADICTION",(-1)),("NO_SUCH_PERSON",(-2)),("NONE_AGREES",(-3)),("NO_PLACE",(-4)),("ANSWERS_RUN_OUT",(-5)),("NO_FAMILY",(-8))]
def bind_n{x q:gw}{st:o4}{ps:iW}(n:Nat)(h: ~~~ps=n)(b: ∀(kV doc pm:eA) (an:pM) (cdv ct:eA) (us:fM),~~~us=n->Xz (kr x q (pV st) (nQ st) (jm st) .none kV doc pm an cdv ct) ⟨us,[]⟩=pure (ps.zip us)):AM x q st ps:=λ_ _ _ _ _ _ us a=>b _ _ _ _ _ _ us (a.trans h)
theorem acB: ∀{us:fM},~~~us=1-> ∃a,us=[a]
 | [a],_=>⟨a,rfl⟩
theorem acA: ∀{us:fM},~~~us=2-> ∃a b,us=[a,b]
 | [a,b],_=>⟨a,b,rfl⟩
theorem acz: ∀{us:fM},~~~us=3-> ∃a b c,us=[a,b,c]
 | [a,b,c],_=>⟨a,b,c,rfl⟩
theorem SV: ∀{us:fM},~~~us=4-> ∃a b c d,us=[a,b,c,d]
 | [a,b,c,d],_=>⟨a,b,c,d,rfl⟩
theorem aff: ∀{us:fM},~~~us=5-> ∃a b c d e,us=[a,b,c,d,e]
 | [a,b,c,d,e],_=>⟨a,b,c,d,e,rfl⟩
def bpD:QF (λi x=>AM x x (top i) (dPs (top i))) aaV:=by
 repeat' (first|exact trivial|refine And.intro ?_ ?_)
 all_goals (first|(refine bind_n 1 rfl λ_ _ _ _ _ _ us a=> ?_;let⟨(_),rfl⟩:=acB a;rfl)|(refine bind_n 2 rfl λ_ _ _ _ _ _ us a=> ?_;let⟨_ _,rfl⟩:=acA a;rfl)|(refine bind_n 3 rfl λ_ _ _ _ _ _ us a=> ?_;let⟨_ _ _,rfl⟩:=acz a;rfl)|(refine bind_n 4 rfl λ_ _ _ _ _ _ us a=> ?_;let⟨_ _ _ _,rfl⟩:=SV a;rfl)|(refine bind_n 5 rfl λ_ _ _ _ _ _ us a=> ?_;let⟨_ _ _ _ _,rfl⟩:=aff a;rfl))
def agI{K:dh}{x:gw}{st:o4}{f:eB}{g:eA}{od h:pM}{e:wk}{kV d pm b ct:eA}(a:fm K eU x=some (some (.ref f)))
  (l:K.lookup f=some ⟨g,od,.func (kr x x (pV st) (nQ st) (jm st) .none kV d pm h b ct),e⟩)(c:oS K b x=true)(k:iL K (.ref f)=true): ∃f,Df K x st f:=⟨f,adb a l c k⟩
def agF{K:dh}{C:eB}{a:iW}(h:Iq (λf=>jU K (.ref C) f=some none) a): ∀f∈a,sF K C f:=λ_ b=>h.mem b
def CG{P:fY}{w:iu}{K:dh}{h:iZ}{mg:kQ}{r:eB}{b:List pY}(d:wW K "WHOLE_NUMBERS" r b)(X:K.In h)(B:h.Ns eU mg)(f:(b.all λe=>(yf e).isSome)=true)(g:(b.filterMap yf).map (λp=>(p.1,D6 p.2))=[(1,some 0),(2,some 0),(3,some 1),(4,some 0),(5,some 2),(6,some 1),(7,some 2),(8,some 2),(9,some 2),(10,some 1),(11,some 1),(12,some 1),(13,some 1),(14,some 0),(15,some 0),(16,some 1),(17,some 0)]):
  ∃a s,mg "WHOLE_NUMBERS" =some (.ref a)/\GQ P w K a s/\ ∀z n,CH z=some n-> ∃t,o8 s (.inl z)=some (.int n t):=by
 have hk: ∀j:List pY,(j.all λe=>(yf e).isSome)=true->j.map yf=(j.filterMap yf).map some:=by
  intro j h;induction j with
  |nil=>rfl
  |cons e j ih=>
   rw[om,fZ]at h;let⟨(p),C⟩:=GZ.mp h.1
   simp_all
 have hk:=hk b f;generalize b.filterMap yf=kvs at g hk;have A:kvs.map (·.1)=[1,2,3,4,5,6,7,8,9,10,11,12,13,14,15,16,17]:=by have:=gR (xI Prod.fst) g;rw[dm]at this;exact this
 refine⟨r,_,iM X B d.ns,d.k hk (by rw[A];decide),λz n hz=> ?_⟩;rw[AZ];have o: ∀(l:List (Int×eA)) (m:List (Int×Option Int)) (k v:Int),l.map (λp=>(p.1,D6 p.2))=m->(m.find? λp=>decide (p.1=k))=some (k,some v)-> ∃t,(l.find? λp=>decide (p.1=k)).map (·.2)=some (.int v t):=by
  intro l m k v u c;subst u;induction l with
  |nil=>simp at c
  |cons p l ih=>
   rw[dt,gW]at c;rw[gW];by_cases e:p.1=k
   .simp only[e,rH]at c⊢;obtain⟨E,y⟩:=p;simp only at c⊢;cases y with
    |int i t=>have c:some (k,some i)=some (k,some v):=c;cases c;exact⟨t,rfl⟩
    |_=>cases c
   .simp only[e,qo]at c⊢;exact ih c
 refine o kvs _ z n g ?_;unfold CH at hz;cases e:gh z with
 |none=>rw[e]at hz;cases hz
 |some x=>rw[e]at hz;cases hz;exact(by decide: ∀q∈RL,([(1,some 0),(2,some 0),(3,some 1),(4,some 0),(5,some 2),(6,some 1),(7,some 2),(8,some 2),(9,some 2),(10,some 1),(11,some 1),(12,some 1),(13,some 1),(14,some 0),(15,some 0),(16,some 1),(17,some 0)].find? λp:Int×Option Int=>decide (p.1=q.1))=some (q.1,some (q.2.1:Int))) _ (FX e)
def asm{P:fY}{w:iu}{K:dh}{h:iZ}{mg:kQ}{fa:eB}{J Q R N A U y aW aA f1 f2 f3 f4 f5 f6 f7 f8 f9 C z B E S I O H:eB}{u v:List pY}(X:K.In h)(l:h.Ns eU mg)(y2:mg "answers" =some (.ref fa))
  (hn:Iq (λx=>fm K eU x=some none) NON)
  (hi:UN (λx n=> ∃t,fm K eU x=some (some (.int n t))) adx)
  (hd:QF (λi x=> ∃f,Df K x (top i) f) aaV)
  (r:ClsAt K "Word" "Word.__init__" J (ny (top 12)) (fl 0)/\ClsAt K "Line" "Line.__init__" Q (ny (top 13)) (fl 1)/\ClsAt K "Place" "Place.__init__" R (ny (top 26)) (fl 2)/\ClsAt K "Family" "Family.__init__" N (ny (top 66)) (fl 3)/\ClsAt K "Call" "Call.__init__" A (ny (top 116)) (fl 4)/\ClsAt K "Answer" "Answer.__init__" U (ny (top 117)) (fl 5)/\ClsAt K "Desk" "Desk.__init__" y (ny (top 115)) (fl 6))
  (inj: [J,Q,R,N,A,U,y].Nodup)
  (t1:EC K "CALLS_AT_PLACE" Ct)(t2:EC K "CALLS_WITH_ROW" rO)(t3:wW K "WHOLE_NUMBERS" aW u)
  (ws:(u.all λe=>(yf e).isSome)=true)(wi:(u.filterMap yf).map (λp=>(p.1,D6 p.2))=[(1,some 0),(2,some 0),(3,some 1),(4,some 0),(5,some 2),(6,some 1),(7,some 2),(8,some 2),(9,some 2),(10,some 1),(11,some 1),(12,some 1),(13,some 1),(14,some 0),(15,some 0),(16,some 1),(17,some 0)])
  (t4:wW K "ANSWERING" aA v)
  (ha:fm K eU "answer_read" =some (some (.ref f1))/\fm K eU "answer_people" =some (some (.ref f2))/\fm K eU "answer_person" =some (some (.ref f3))/\fm K eU "answer_find" =some (some (.ref f4))/\fm K eU "answer_kin" =some (some (.ref f5))/\fm K eU "answer_inbred" =some (some (.ref f6))/\fm K eU "answer_states" =some (some (.ref f7))/\fm K eU "answer_tie" =some (some (.ref f8))/\fm K eU "answer_paths" =some (some (.ref f9))/\fm K eU "answer_place" =some (some (.ref C))/\fm K eU "answer_see" =some (some (.ref z))/\fm K eU "answer_seen" =some (some (.ref B))/\fm K eU "answer_can" =some (some (.ref E))/\fm K eU "answer_first" =some (some (.ref S))/\fm K eU "answer_worlds" =some (some (.ref I))/\fm K eU "answer_chance" =some (some (.ref O))/\fm K eU "answer_drop" =some (some (.ref H)))
  (ai:v.map yf=([(1,.ref f1),(2,.ref f2),(3,.ref f3),(4,.ref f4),(5,.ref f5),(6,.ref f6),(7,.ref f7),(8,.ref f8),(9,.ref f9),(10,.ref C),(11,.ref z),(12,.ref B),(13,.ref E),(14,.ref S),(15,.ref I),(16,.ref O),(17,.ref H)]:List (Int×eA)).map some):
  ∃a:n0,(∀(s:dJ) (us:fM),~~~us=(["calls"]:List gw).length->U7 s a ⟨us,[]⟩ ((["calls"]:List gw).zip us))/\ ∀base:iZ,K.In base->base.Ns eU mg->qY P w K mg base QE 12 fa a ["calls"] XY:=by
 obtain⟨f0,x7,a,Fa⟩:=hd.get (k:=80) rfl;have y5:=y2.symm.trans (iM X l x7);cases y5;refine⟨a,?_,λbase _ _=> ?_⟩
 .obtain⟨oc,od,kV,z2,pm,an,z3,ct,z1,e,lk,z0⟩:=Fa.ex;subst e;exact λs us hu=>match us,hu with| [_],_=> .of_eq rfl
 have n: ∀(k:Nat) (x:gw),NON[k]?=some x->mg x=none:=λk x e=>PySem.W.mg_none_of X l (hn.get e);have i: ∀(k:Nat) (q:gw×Int),adx[k]?=some q-> ∃t,mg q.1=some (.int q.2 t):=λk q e=>let⟨t,e⟩:=hi.get e;⟨t,iM X l e⟩;have G:Mg mg:=⟨n 0 _ rfl,n 1 _ rfl,n 2 _ rfl,n 3 _ rfl,n 4 _ rfl,n 5 _ rfl,n 6 _ rfl,n 7 _ rfl,n 8 _ rfl,n 9 _ rfl,n 10 _ rfl,n 11 _ rfl,n 12 _ rfl,n 13 _ rfl,i 0 _ rfl,i 1 _ rfl,i 2 _ rfl,i 3 _ rfl,i 4 _ rfl,i 5 _ rfl,i 6 _ rfl,i 7 _ rfl,i 8 _ rfl,i 9 _ rfl,i 10 _ rfl,i 11 _ rfl,i 12 _ rfl,i 13 _ rfl,i 14 _ rfl,i 15 _ rfl,i 16 _ rfl,i 17 _ rfl,i 18 _ rfl,i 19 _ rfl,i 20 _ rfl,i 21 _ rfl,i 22 _ rfl,i 23 _ rfl,i 24 _ rfl,i 25 _ rfl,i 26 _ rfl,i 27 _ rfl,i 28 _ rfl,i 29 _ rfl,i 30 _ rfl,i 31 _ rfl⟩;let⟨c0,c1,c2,Y,c4,c5,c6⟩:=r
 let cl:Nat->Addr:=λc=> [J,Q,R,N,A,U,y].getD c 0
 have hT:qj.Ok ⟨K,cl⟩:=by
  refine⟨λc r=> ?_,λc f r j=> ?_,λc c' r x1 e=> ?_⟩
  .match c,r with
   |0,_=>exact c0.cls
   |1,_=>exact c1.cls
   |2,_=>exact c2.cls
   |3,_=>exact Y.cls
   |4,_=>exact c4.cls
   |5,_=>exact c5.cls
   |6,_=>exact c6.cls
   |n+7,r=>lia
  .match c,r,j with
   |0,_,j=>exact c0.no f j
   |1,_,j=>exact c1.no f j
   |2,_,j=>exact c2.no f j
   |3,_,j=>exact Y.no f j
   |4,_,j=>exact c4.no f j
   |5,_,j=>exact c5.no f j
   |6,_,j=>exact c6.no f j
   |n+7,r,_=>lia
  .have g: ∀c,c<7->([J,Q,R,N,A,U,y]:List eB)[c]?=some (cl c):=λc r=>by
    show _=some ([J,Q,R,N,A,U,y].getD c 0);rw[dG,df (by simpa using r)];rfl
   have e1:=g c r;have e2:=g c' x1;have e:cl c=cl c':=e;rw[<-e]at e2;exact acy inj e1 e2
 have Z:Fx K mg cl:=by
  refine⟨G,hT,λk q e=> ?_,λk q e=> ?_⟩
  .obtain⟨f,d⟩:=hd.get e;exact d.at X l (bpD.get e)
  .match k,e with
   |0,e=>
    cases e
    let⟨f a,M,F⟩:=c0.b8;refine⟨f,a,F,F.binds ?_,M,iM X l c0.ns⟩;refine bind_n 3 rfl λ_ _ _ _ _ _ us o=> ?_;let⟨_ _ _,rfl⟩:=acz o;rfl
   |1,e=>
    cases e
    let⟨f a,M,F⟩:=c1.b8;refine⟨f,a,F,F.binds ?_,M,iM X l c1.ns⟩;refine bind_n 2 rfl λ_ _ _ _ _ _ us o=> ?_;let⟨_ _,rfl⟩:=acA o;rfl
   |2,e=>
    cases e
    let⟨f a,M,F⟩:=c2.b8;refine⟨f,a,F,F.binds ?_,M,iM X l c2.ns⟩;refine bind_n 4 rfl λ_ _ _ _ _ _ us o=> ?_;let⟨_ _ _ _,rfl⟩:=SV o;rfl
   |3,e=>
    cases e
    let⟨f a,M,F⟩:=Y.b8;refine⟨f,a,F,F.binds ?_,M,iM X l Y.ns⟩;refine bind_n 4 rfl λ_ _ _ _ _ _ us o=> ?_;let⟨_ _ _ _,rfl⟩:=SV o;rfl
   |4,e=>
    cases e
    let⟨f a,M,F⟩:=c4.b8;refine⟨f,a,F,F.binds ?_,M,iM X l c4.ns⟩;refine bind_n 4 rfl λ_ _ _ _ _ _ us o=> ?_;let⟨_ _ _ _,rfl⟩:=SV o;rfl
   |5,e=>
    cases e
    let⟨f a,M,F⟩:=c5.b8;refine⟨f,a,F,F.binds ?_,M,iM X l c5.ns⟩;refine bind_n 4 rfl λ_ _ _ _ _ _ us o=> ?_;let⟨_ _ _ _,rfl⟩:=SV o;rfl
   |6,e=>
    cases e
    let⟨f a,M,F⟩:=c6.b8;refine⟨f,a,F,F.binds ?_,M,iM X l c6.ns⟩;refine bind_n 1 rfl λ_ _ _ _ _ _ us o=> ?_;let⟨(_),rfl⟩:=acB o;rfl
   |n+7,e=>cases e
 have hA:GR P w K mg base cl 10:=by
  refine⟨aA,_,iM X l t4.ns,t4.k ai (by show [(1:Int),2,3,4,5,6,7,8,9,10,11,12,13,14,15,16,17].Nodup;decide),λn h1 x2=> ?_⟩;rw[AZ];have key: ∀{k m:Nat} {x:gw} {f:eB},fm K eU x=some (some (.ref f))->FnA P w K mg base cl k x (wO m)->k<=10-> ∃f' a ps,(some (eD f):Option eA)=some (.ref f')/\qY P w K mg base QE 10 f' a ps (spA ⟨K,cl⟩ (wO m))/\iL K (.ref f')=true/\L2.Binds K a ps []:=by intro k m x f hx j hk;let⟨f' a ps,F,hm,kp,b⟩:=j;have e:=hm.symm.trans (iM X l hx);cases e;exact⟨_,a,ps,rfl,F.mono hk,kp,b⟩
  obtain⟨a1,a2,a3,a4,a5,a6,a7,a8,a9,x4,x3,y1,x5,x0,y7,x6,y0⟩:=ha
  match n,h1,x2 with
  |1,_,_=>exact key a1 (DJ Z) (by lia)
  |2,_,_=>exact key a2 (kF.ba (gA:=wO 2) Z.T (Ak Z) λ_ _ _ _ _ h=>OU h) (by lia)
  |3,_,_=>exact key a3 (kF.ba (gA:=wO 3) Z.T (Aj Z) λ_ _ _ _ _ h=>OT h) (by lia)
  |4,_,_=>exact key a4 (kF.ba (gA:=wO 4) Z.T (DK Z) λ_ _ _ _ _ h=>Vz h) (by lia)
  |5,_,_=>exact key a5 (kF.ba (gA:=wO 5) Z.T (Fh Z) λ_ _ _ _ _ h=>YU h) (by lia)
  |6,_,_=>exact key a6 (kF.ba (gA:=wO 6) Z.T (Al Z) λ_ _ _ _ _ h=>OV h) (by lia)
  |7,_,_=>exact key a7 (kF.ba (gA:=wO 7) Z.T (Ai Z) λ_ _ _ _ _ h=>OS h) (by lia)
  |8,_,_=>exact key a8 (kF.ba (gA:=wO 8) Z.T (Ff Z) λ_ _ _ _ _ h=>YT h) (by lia)
  |9,_,_=>exact key a9 (kF.ba (gA:=wO 9) Z.T (BQ Z) λ_ _ _ _ _ h=>Ru h) (by lia)
  |10,_,_=>exact key x4 (BP Z) (by lia)
  |11,_,_=>exact key x3 (Fg Z) (by lia)
  |12,_,_=>exact key y1 (kF.ba (gA:=wO 12) Z.T (DI Z) λ_ _ _ _ _ h=>Vy h) (by lia)
  |13,_,_=>exact key x5 (kF.ba (gA:=wO 13) Z.T (Fi Z) λ_ _ _ _ _ h=>YV h) (by lia)
  |14,_,_=>exact key x0 (kF.ba (gA:=wO 14) Z.T (BR Z) λ_ _ _ _ _ h=>Rv h) (by lia)
  |15,_,_=>exact key y7 (kF.ba (gA:=wO 15) Z.T (Ah Z) λ_ _ _ _ _ h=>OR h) (by lia)
  |16,_,_=>exact key x6 (kF.ba (gA:=wO 16) Z.T (Am Z) λ_ _ _ _ _ h=>OW h) (by lia)
  |17,_,_=>exact key y0 (kF.ba (gA:=wO 17) Z.T (DM Z) λ_ _ _ _ _ h=>VA h) (by lia)
  |n+18,_,h=>lia
 exact Ma Z Fa (J0 Z (t2.k X l) (CG t3 X l ws wi)) (HG Z (Fc Z (t1.k X l)) hA)
end DL
end
open PySem PySem.W PyProof.Rows
set_option maxRecDepth 100000 in
set_option maxHeartbeats 0 in
theorem PySem.Challenge.cw_bloodlines_s01_answers_holds : PySem.Challenge.rw_bloodlines_s01_answers.Holds := by
  refine Hx.2 ⟨L2.abg (r := PySem.Challenge.rw_bloodlines_s01_answers) (k := 12) (Q := fun _ => L2.QE) (ps := ["calls"]) (O := fun _ => DL.XY) (by decide +kernel) rfl rfl ⟨rfl, by decide, by decide⟩ (fun w h Y => PySem.W.kIn_of Y) ?F ?S (fun _ _ _ _ _ z => z),⟨⟩⟩
  case F =>
    intro w mg fa h Y KX Gn hmg
    refine' DL.asm KX Gn hmg ?zhn ?zhi ?zhd ?zhc ?zinj ?zt1 ?zt2 ?zt3 ?zws ?zwi ?zt4 ?zha ?zai
    (case zhn => (repeat' (first | exact trivial | refine And.intro ?_ ?_)); all_goals (show _=_;k_is))
    (case zhi => (repeat' (first | exact trivial | refine And.intro ?_ ?_)); all_goals (refine' DL.afl ?za; (case za => k_is)))
    (case zhd => (repeat' (first | exact trivial | refine And.intro ?_ ?_)); all_goals (refine' DL.agI ?za ?zl ?zc ?zk; (case za => k_is); (case zl => k_is); (case zc => k_is); (case zk => k_is)))
    (case zhc => (repeat' (first | exact trivial | refine And.intro ?_ ?_)); all_goals (refine' DL.afB ?za ?zpg ?zhd ?zpo ?zsa (DL.agF ?zno) ?zmk ?zi ?zfn ?zkc ?zl ?zc ?zk; (case za => k_is); (case zpg => k_is); (case zhd => k_is); (case zpo => k_is); (case zsa => k_is); (case zmk => k_is); (case zi => k_is); (case zfn => k_is); (case zkc => k_is); (case zl => k_is); (case zc => k_is); (case zk => k_is); (case zno => (repeat' (first | exact trivial | refine And.intro ?_ ?_)); all_goals (show _=_;k_is))))
    (case zinj => decide)
    (case zt1 => refine' DL.ad1 ?zi ?zl ?zv ?zz; (case zi => k_is); (case zl => k_is); (case zv => rfl); (case zz => decide))
    (case zt2 => refine' DL.ad1 ?zi ?zl ?zv ?zz; (case zi => k_is); (case zl => k_is); (case zv => rfl); (case zz => decide))
    (case zt3 => refine' DL.ada ?zi ?zl ?ze; (case zi => k_is); (case zl => k_is); (case ze => rfl))
    (case zws => rfl)
    (case zwi => rfl)
    (case zt4 => refine' DL.ada ?zi ?zl ?ze; (case zi => k_is); (case zl => k_is); (case ze => rfl))
    (case zha => (repeat' (first | exact trivial | refine And.intro ?_ ?_)); all_goals (show _=_;k_is))
    (case zai => rfl)
  case S =>
    intro w H xs a hO hwi hask hx
    obtain ⟨cs, rn⟩ := DL.ad4 (l := a.1) hask
    obtain ⟨p, rfl, hl⟩ := DL.Za (l := a.1) rfl hx
    have q : ((Codec.inLen 0 31000 a.1 && a.1.all (Codec.inInt 0 4294967295)) && true) = true := hwi
    rw [Bool.and_eq_true, Bool.and_eq_true] at q
    exact ⟨p, a.1, cs, rfl, hl, (Codec.inNat_iff.mp q.1.1).2, rn, fun H' p hp => .lst (L2.rB.of hp) (L2.aeb _)⟩
