import PyProof.Rows.All
import Wide.All
import OpenK.AllK
import Wide.FinOn
import Lean
import PyProof.EqAt
import PyProof.EqKinds
import PyProof.TupleCall
import PySem.Challenge.RW_othersum_k54_desk_refuses
noncomputable section
set_option Elab.async false
set_option linter.all false
set_option maxRecDepth 100000
structure PySem.W.Fast:Prop where(tw5291016469048554158 tw861502493610598483 tw11111163224095644718 tw10966826456635412305 tw747305103253331483 tw7730711234585966178 tw7774113678449685934 tw8732384657001785355 tw2071352088383478486 tw10538179210915043538 tw6845413283916081801 tw13406377419850843074 tw10215653194048460750 tw12546471409375691253 tw6677843147175625621 tw8129399028645417746 tw13084871767532281537 tw7422445781565681216 tw12750670339961964742 tw13257283266767686631 tw6957663135803877297 tw786537726763496527 tw9744259246892133002 tw12978664727549452272 tw13803551925191289636 tw8185220541750880888 tw13932396165709540929 tw4512776594637900181 tw16159750380562633221 tw3136648224631416188 tw7155359931933253843 tw11824586356888161845 tw4584905955269743709 tw1253127297229968123 tw14024141229114651172 tw17105322094737777421 tw10888863842102328177 tw2641800013201688601 tw7942791058656714990 tw15279809834360698895 tw1053170938641747357 tw3507769193172341495 tw15554417296805563061 tw11589282660436910429 tw17450930235937024225 tw13415069484114331020 tw1467881925912835984 tw9385439782273163706 tw86012387029904805 tw3236729772642805936 tw1663524305781585820 tw12550775161083096063 tw2773992215795510196 tw12549542988036985293 tw8176730645128964420 tw16902085369446701243 tw6594970650091316094 tw18333273249017474000 tw3547864450207350986 tw3297117884562324255 tw8950108695139179302 tw4517560463748656503 tw4436474186459923750 tw3717076922277056940 tw11120740854625124088 tw17986951261819808105 tw16151628708876355199 tw8392358500681263680 tw2386784164831690217 tw7828442866392281868 tw5874822333441161849 tw15163409612377130007 tw7181997581385953548 tw9553971096990549364 tw13366278800048369731 tw3846801734645722302 tw5306753302271460952 tw14904287247971174143 tw2046362190076281809 tw14260533273033392520 tw17823556299335049440 tw11205608169257636508 tw13851971633180934007 tw2759284407945088205 tw3277229846650655979 tw13484562703626004877 tw258204147387103276 tw17653592248189364939 tw13996866031312336078 tw14938211915633500526 tw10326336056695345397 tw4408816720484365081 tw6973427100653255629 tw18031968618487185184 tw14611616552423853409 tw1840220198017710270 tw8115137120850386438 tw5341297951324810720 tw5872530126848033075 tw4063829332388037331 tw13439652990877377571 tw2527701527901579348 tw6690350156832105676 tw1630143524128594353 tw206757683497733573 tw15504105790966721872 tw8865387616306378214 tw6084841979344569690 tw12901003280762261817 tw2597523674469684444 tw3801850119919557013 tw11063759124802658401 tw8122695690928665766 tw8319933024895762948 tw2990168724187919761 tw14553807712399142462 tw4757880891971583632 tw12298192366917762067 tw4313010194945074917 tw4859391219904099992 tw12747814925858328940 tw1692201390411429781 tw740290905518256060 tw8356303796347215682 tw547895379624588593 tw2868442198168577507 tw4561898282857576226 tw15036080040530398195 tw1205604411410820431 tw13114645530532618160 tw4804111812005502284 tw8232614014015475128 tw7001957589650049515 tw6278996535519779258 tw4290864757253303354 tw15764947353670896545 tw9510108024173832781 tw16746677531222629524 tw15401437161963490237 tw8186657734068701312 tw11844019762684407370 tw18383651708701053236 tw10312438410070409164 tw2015444344454546412 tw16217903435359918192 tw5000232492035539693 tw15235614512728720 tw16792556548410726896 tw17518593693041627797 tw5171440476677080432 tw628631919661052299 tw15771247859494662083 tw12960429369202013873 tw17883462748017686043 tw13160504802963445071 tw10510019762269167821 tw5239429619861171699 tw6284410105664486691 tw8981176238543900561 tw6128106870883400570 tw16005714805435085966 tw1207101557538958131 tw7091221385724896812 tw15806707075529380192 tw9947508896943372755 tw11151835277377553703 tw11707130962622978684 tw1378205811072252300 tw7164969610272591079 tw4944497897694004105 tw1986786360949550309 tw6701911527682315725 tw2595618661548880785 tw14935156969734317764 tw17360015989920007124 tw12369848792361866835 tw12330612334027959195 tw14398111036562950334 tw3198059409981156222 tw3671519592330383864 tw6702445572142316249 tw8285278889055680438 tw6329614223026926184 tw14479964200598819128 tw14454166528178196959 tw18441984877410159329 tw10988764466652934233 tw622995879521568732 tw17678831435119133177 tw819570635367399668 tw5610444585433571239 tw9530734954097333506 tw8159993647027272844 tw609457278022895560 tw17334828202450815106 tw3099597729799864441 tw14538725608371270373 tw6427576097997697322 tw4186743451310774866 tw17499849576073844966 tw12058884036946728934 tw6607644564249050058 tw1725486776273817318 tw6420159726195949164 tw599730875272715187 tw13298828918039433023 tw7322748291113730364 tw727553628536289456 tw14537775516033599862 tw11280630913190679075 tw16132249320637822498 tw10551173667578312727 tw14849461344987154502 tw3075201292733833056 tw12770481643036789091 tw10911716485165742097 tw14226173905949225808 tw1891733041441978011 tw9223045988441327695 tw7933485763601977624 tw15590096980072825465 tw5832146486336120021 tw5483103596317574428 tw987426779421491659 tw6208910965292489261 tw11368310244458860372 tw7220529860990300233 tw10297410513487048360 tw16873086082458093902 tw13034982811429478159 tw13861969467909019144 tw5217270863462422736 tw16766484511958638138 tw4993863958327201973 tw2781441929908095834 tw14647417624928369756 tw5890639436620234070 tw7557421358154311045 tw15702583709834301711 tw13885670934486923800 tw5137589814051832496 tw5037459499596335280 tw14520296925931582552 tw5404398260228975080 tw8432719020341155521 tw18407495941553956032 tw6046103115902281144 tw10295913840692754127 tw8908233856664302321 tw7998583776865276027 tw13073492499399858440 tw9584292182412213727 tw11267315532378154396 tw9201617497623189827 tw2084650752826471497 tw14801369171006070438 tw16773468814595293053 tw1293241653719404408 tw3335794202401238526 tw4046790133079468173 tw18293242582946804979 tw4938610541543285704 tw13813548295540068894 tw17397653436517662659 tw2595585439558603231 tw16728255500844073214 tw384561282630992784 tw3713540243193553862 tw1708089923452030704 tw13215348057498601715 tw1142673529048489019 tw1401067106901849026 tw4946147512530127568 tw10052031235695348791 tw15699961213505342161 tw17510684818845775701 tw4413860948169739490 tw4971374062829452455 tw12188032599808994241 tw5263133172445716209 tw5072417060200589145 tw16859961878692490766 tw615563214671542189 tw8212203176049278890 tw8006371003960147343 tw13547939009206843870 tw10741264400317747893 tw4903002758410956813 tw13669536469129627823 tw12091130801917272685 tw6557801498797044033 tw247591363613054380 tw12768989823518198380 tw13855379610559885079 tw9461873434466728008 tw977512076041815475 tw6968137755033780318 tw4039707410889071942 tw13861322856664149509 tw6657536258744368796 tw4171853373547519906 tw15254633091992210921 tw16721508838639397229 tw13539809779269347639 tw16797375974695604193 tw17508347553164502932 tw17680797132471856694 tw15528221797031607849 tw7501186508268903616 tw6056707288978253535 tw10042083083395451092 tw12740759652641322565 tw12954591660760965231 tw3992765435912101610 tw5634867526602368427 tw6472337539984862722 tw12147665669636231765 tw4015202173357781934 tw1848955828906020544 tw8521684928402303493 tw10910644110388302437 tw15433366417846715934 tw539538531456391632 tw8949853181751564097 tw3592811809046731828 tw5537553045615171315 tw3215387988796971590 tw3300454383303005205 tw5395340147747708899 tw8834805137890396735 tw10479991185640055810 tw12681666616541194006 tw18183970276198133131 tw17214186515701724070 tw8282588126930224528 tw9387514328989991554 tw8733291241859026926 tw3419001889969749887 tw16279288168775177219 tw2483420100392427323 tw1205274952441263945 tw15402603294489630176 tw6356304189028158447 tw140236481695663071 tw17351735930882485243 tw11107512795663914464 tw4548300405975405348 tw2941924889016668590 tw14842496431369740429 tw87601786513091389 tw1937721966566455358 tw14827714588952709054 tw4382473104129494423 tw18328257000508772394 tw10953238642706405951 tw10713865542653931438 tw694261584828832409 tw17817366049700826239 tw6798380500665416597 tw14061609134260724683 tw8374155422468719031 tw15173544498738437827 tw3721919958574915784 tw18157406047293677543 tw2646887283097553488 tw11962351593759143498 tw12297992134047619483 tw9592521066531166775 tw6229817132586351632 tw12887044766017154078 tw2455152089536381482 tw2789304352393801511 tw3235425350174046738 tw11429584451438056573 tw15779231459743154856 tw12772213712371865176 tw7873786274422454737 tw8737599933303070863 tw8331849164307833061 tw13757698761724263525 tw9456574344343218679 tw3851428956369438258 tw5101696844757716304 tw4075453323654395381 tw16108870410212019532 tw8047209995159408440 tw11898673842065290130 tw14760874974797668852 tw14424681132571578402 tw8219003486749837733 tw17760279517084355780 tw9320515035125037321 tw16864618592142003386 tw12382822922155266910 tw9536688357841153863 tw1972164579936704799 tw9860861378791804195 tw2080317491765294665 tw3239113980409921550 tw1950803216711332702 tw3543459598558145280 tw11564986514327137767 tw896878414759379649 tw10282777137419654623 tw8498532028676091811 tw13303234937177203706 tw5221592684559293012 tw1804834754348979943 tw1998347030407657756 tw7231845647793152400 tw16860917588515726111 tw12020253756985099128 tw16822532161544500889 tw15861351967447197489 tw8997383693586321770 tw6145912378217320015 tw18384110700954362821 tw14135006944967825841 tw7249310025045793396 tw5008593111378822452 tw2629151800749243262 tw17348111734160510231 tw11308061921803828041 tw18248855084332350957 tw6942634455013318504 tw4334401890000744311 tw17318462890700432884 tw10387345722656961088 tw577049184839899653 tw3456351732281881909 tw15475723433398761304 tw1474264761786122189 tw429539710256275620 tw9931937742245647033 tw4483904966330829159 tw17613222154834848340 tw11662115353561507501 tw14154597600763967237 tw2480015634913765671 tw506581581156960101 tw14441679199631801671 tw9399754086935153974 tw11215392098479208961 tw5920806927976990809 tw3520257249291928256 tw9388066449989048879 tw561727478393794602 tw18094105663378112561 tw6172094611929405055 tw13437419889732721216 tw16247262843940693239 tw14334995849660946996 tw9402243437249704421 tw13127508451798649013 tw6094820017090691545 tw10310341975313369176 tw15831126876759372255 tw11408881796089955267 tw12921946191010883867 tw5010956058597451964 tw9678289623588505577 tw4493901809537577575 tw10886659093417053267 tw18310463660012746435 tw15541240446876304647 tw8413399678365625193 tw9461912720999461741 tw17890440400047909864 tw8191318114535113306 tw10095894221667365369 tw18335596039185421423 tw8185545411690514434 tw6216382948874008006 tw4323258101793500111 tw1405720946626083897 tw13385558918117058561 tw10146569101766770184 tw2741014181512449073 tw13307065042914920193 tw9304451534382375720 tw1956260828630720203 tw18004296560267143027 tw360634875079729221 tw14202271707224943307 tw15805137534098808535 tw7764699552788554220 tw13674586047789940208 tw13037224057902187189 tw10159399881129095643 tw5725222548895626118 tw17691633702590694504 tw5953359166732830163 tw4051853165826885262 tw6851275008772768644 tw13710940844802916613 tw1402340071739887797 tw11566098044289413073 tw10164718903369591474 tw9317495090193701157 tw9969077435446430640:True)
set_option compiler.extract_closed false
set_option bootstrap.genMatcherCode false
set_option maxHeartbeats 0 in
open_top hd for PySem.Challenge.rw_othersum_k54_desk_refuses
set_option hygiene false in
local macro_rules|`(tactic|walk)=>`(tactic|refine cps fun G_ k_=>?_)
set_option hygiene false in
local macro_rules|`(tactic|x_go)=>`(tactic|(refine k_ ?_;clear k_ G_))
open Lean in
def rcP:Nat->TSyntax `term->MacroM (TSyntax `rcasesPat)
|0,_=>Macro.throwUnsupported
|n+1,t=>match t with
 |`(($x,$xs,*))=>do
  let y<-rcP n x
  let ys<-xs.getElems.mapM (rcP n)
  `(rcasesPat|⟨$y,$[$ys:rcasesPat],*⟩)
 |`(⟨$x⟩)=>do
  let y<-rcP n x
  `(rcasesPat|⟨$y⟩)
 |`(_)=>`(rcasesPat|_)
 |`($i:ident)=>`(rcasesPat|$i:ident)
 |_=>Macro.throwUnsupported
local macro_rules|`(tactic|let ($x,$xs,*):=$e)=>do
 let y<-rcP 9 x
 let ys<-xs.getElems.mapM (rcP 9)
 `(tactic|obtain⟨$y,$[$ys:rcasesPat],*⟩:=$e)
local macro_rules|`(($a,$bs,*))=>`(⟨$a,$bs,*⟩)
local macro_rules|`(tactic|have ($x,$xs,*):=$e)=>do
 let y<-rcP 9 x
 let ys<-xs.getElems.mapM (rcP 9)
 `(tactic|(walk;obtain⟨$y,$[$ys:rcasesPat],*⟩:=$e;x_go))
local macro_rules|`($a \ $b)=>`($a=some $b)
local macro_rules|`('l')=>`(by lia)
local macro_rules|`('o')=>`(by omega)
local macro_rules|`('k')=>`(by decide +kernel)
local macro_rules|`('d')=>`(by decide)
local macro_rules|`('s')=>`(by simp)
set_option backward.match.sparseCases false
set_option genInjectivity false
set_option genSizeOf false
local macro_rules|`(tactic| room)=>`(tactic| first|exact Or.inl rfl|exact Or.inr rfl|assumption|exact Or.inr (Or.inl rfl)|exact Or.inr (Or.inr rfl))
local macro_rules|`($x⁻¹)=>`(($x).heap.objs.size)
theorem cps{P:Prop}(h:∀G:Prop,(P->G)->G):P:=h P id
abbrev av(a:Type _):=List a
open PySem renaming Value->ax,Addr->ay,Shared->aM,FuncData->bo,Heap->cx,Expr->cy,Program->cH,wpAny_bind->zzb,wpAny_pure->zzr,wpAny_holding->zzQ,mem_of_lookup->zyd,wpAny_mono->zyg,codeAny_mono->zyD,wpAny_truthy_bool->zyM,wpAny_Call_Name_kw->zyP,wpAny_field->zyQ,wpAny_call_entry->zyZ,wpAny_standAt->zxl,wpAny_typeNameOfWhole_keyiter->zxm,sizeLine_eq->zxp,wpAny_newObj_type->zxx,wpAny_pyIter_list->zxy,codeAny_call_builtin->zxB,boot_len->zxD,wpAny_pyIter_tuple->zxJ,call_meets->zxN,wpAny_loadPart_at->zxR,wpAny_seqItems->zxV,wpAny_call->zxY,wpAny_attempt->zwg,wpAny_passesOwn->zwm,wpAny_setField_rec->zww,wpAny_rule->zwB,wpAny_setField->zwC,wpAny_dictEntries->zwF,wpAny_throw->zwI,wpAny_comp_letGo->zwP,typeIs_str->zwU,codeAny_builtin->zwW,intText_digits->zvd,tupleKind_room_in1->zvo,sizeLine->zaa,compareOp->zae,attributeBase->zag,starEach->zaj,swapsWith->zap,Around->zas,foldedSetIterable->zaw,assignEach->zax,binaryOp->zaA,cellsFrom->zaB,bootBuiltins->zaG,sysModules->zaJ,wpAny_callSpecial?_slot->zaM,mainGlobals->zaX,codeAny->zaZ,keywordEach->za1,strKind->za5,relabel->za6,scanBound->za7,Within->zbf,Shared->zbi,sliceBounds->zbj,plainObj_wpAny_Assign_Attribute->zbk,newFunctionEnv->zbn,behindInMarks->zbA,NameKind->zbD,swappedStores->zbE,swapsWithSole->zbF,backTo->zbH,letOwnedTupleGo->zbL,holding->zbM,compEnvC->zbR,backToKw->zbU,builtinsNs->zb9,noteFrame->zcc,Comprehension->zcf,comprehension->zci,Keyword->zco,Result->zcv,noFill_tuple_add->zcw,wpAny_noteFrame_againW->zcA,richCompare_meets_room->zcC,wpAny_notOrdered_dict->zcG,wpAny_dictEpoch->zcH,tupleKind->zcI,wpAny_execs_nil->zcN,getMethod->zcO,wpAny_isOneOf_keyiter->zcP,toDigits_len_ge->zcQ,rawInt->zcS,wpAny_updateSeq_pair->zc0,lookup_relabel_local->zc3,unbindBehindTheSuite->zc7,wpAny_loadPart->zc9,dictSetDefault->zda,firstArgMember->zdb,MulOk->zde,wpAny_of_eq->zdi,subscripted->zdj,standAt->zdk,wpAny_newList->zdr,assign->zds,setField->zdt,pyIter->zdx,seq_tuple_add->zdy,PyData->zdE,frameOf->zdH,typeOf->zdJ,DictEntry->zdK,valueAt->zdL,closureFor->zdQ,callerA->zd7,concat_meets->zed,IsPair->zeh,seqIndex_neg->zel,FuncData->zez,lastMarks->zeD,PassesOwn->zeF,getItem->zeP,pyNext->zeW
open PySem.W renaming Frag->zvu,looks_findIn->zyS,callWith_K->zxb,of_hideAll->zxI,hideAll_get->zwi,hideAll_none->zwS,kia_one->zwV,kia_tup->zvc,plainGet_of->zvg,findIn->zah,hideAll->zaq,exmOne->zar,keepIn->zau,kitOne->zaz,emptyDict->zaE,instObj->zaN,fnOf->zaT,kitAny->zaV,hasDictIn->za4,codeHdIn->zba,InstAt->zbm,codeIn->zbo,plainGet->zbu,lookIn->zbX,kitx_none->zbZ,kas_count->zb0,kas_desc->zcg,clsIn->zch,kas_asc->zcm,handedIn->zcs,funFrames_hide->zcx,cellsFrom_some->zcB,methodCall_KW->zcK,kas_place->zcL,takerIn->zcM,kas_descPart->zcV,tabObj->zdd,findObj_own->zdm,looks_subIn->zdn,looks_clsIn->zdo,kas_sort->zdD,kitx_list->zdS,handed_on->zdU,kas_rev->zdX,set_plain->zd0,kitx_dict->zd1,methodObj->zd2,plainOver->zea,isFn->zee,nsIn->zeg,kas_sort->zeo,any_some->zeq,OpenLaw->zeB,findObj->zeH,exm_one->zeI,bind_fn->zeK,makesIn->zeO,nsOkIn->zeS,typeIn->zeU,KitX->ze5
open List renaming length_map->zza,mem_cons_of_mem->zzc,mem_cons_self->zzd,mem_cons->zze,mem_append->zzg,length_append->zzh,mem_map->zzi,length_cons->zzl,map_append->zzm,getElem?_eq_getElem->zzp,map_cons->zzq,mem_singleton->zzt,map_map->zzv,getD_eq_getElem?_getD->zzw,getElem?_map->zzz,append_nil->zzB,getElem?_eq_some_iff->zzC,size_toArray->zzF,getElem?_set_ne->zzG,append_assoc->zzI,map_congr_left->zzJ,mem_of_getElem?->zzK,mem_filter->zzM,mem_append_right->zzN,cons_append->zzO,getElem?_append_right->zzR,getElem_mem->zzS,mem_append_left->zzT,getElem?_zip_eq_some->zzU,map_nil->zzW,length_nil->zzY,not_mem_nil->zyb,length_eq_zero_iff->zyc,nodup_cons->zye,lookup_cons->zyf,find?_cons_of_pos->zyj,find?_cons_of_neg->zyk,mem_iff_getElem?->zyn,length_zip->zyo,nodup_append->zyr,getElem?_append_left->zys,pairwise_iff_getElem->zyt,length_take->zyv,findIdx_lt_length_of_exists->zyw,filter_append->zyz,all_eq_true->zyA,eq_of_mem_replicate->zyE,dropLast_concat_getLast->zyF,mem_range->zyK,getElem?_set_self->zyL,drop_eq_getElem_cons->zyN,filter_cons_of_pos->zyT,filter_cons_of_neg->zyU,zip_nil_right->zxc,length_singleton->zxd,zip_cons_cons->zxf,length_filter_le->zxg,length_range->zxi,pairwise_map->zxk,filter_eq_nil_iff->zxq,of_mem_zip->zxt,concat_eq_append->zxv,flatMap_cons->zxA,getElem_inj->zxE,replicate_succ->zxF,append_cancel_left->zxH,mem_filterMap->zxK,find?_cons->zxO,length_replicate->zxS,nodup_nil->zxU,take_append_drop->zxW,length_drop->zxZ,any_eq_true->zwb,mem_reverse->zwc,findIdx_getElem->zwd,mem_flatMap->zwe,any_cons->zwf,map_id->zwh,toList_toArray->zwj,flatMap_append->zwk,foldl_cons->zwo,nil_append->zwp,mem_or_eq_of_mem_set->zwq,map_inj_right->zwx,take_of_length_le->zwJ,all_cons->zwN,eq_nil_or_concat->zwQ,singleton_append->zwR,zip_append->zve,filterMap_cons->zvf,getElem?_range->zvk,filter_eq_self->zvl,lookup_append->zvp,map_singleton->zvq,sum_cons->zvs,replicate->zad,length->zai,range->zav,lookup->zaK,toArray->zbq,getLast?_eq_some_getLast->zbw,eq_nil_of_length_eq_zero->zbx,zip_nil_left->zbY,flatten_cons->zb4,getElem?_take_of_lt->zca,getElem?_cons_succ->zck,take_length->zcq,append_inj'->zcr,range_succ_eq_map->zcE,mem_of_mem_take->zcY,mem_iff_getElem->zc1,length_dropLast->zc2,mem_of_mem_drop->zc5,pairwise_append->zc6,drop_eq_nil_iff->zc8,mem_map_of_mem->zdg,length_pos_iff->zdh,map_eq_nil_iff->zdp,pairwise_cons->zdw,contains_cons->zdA,foldl->zdM,any_eq_false->zdP,ext_getElem?->zd3,foldl_append->zd9,any_map->zef,all_map->zej,map_snd_zip->zen,getElem_zip->zer,flatMap_nil->zes,countP_cons->zev,ext_getElem->zey,length_set->zeC,take_left'->zeG,countP_map->zeJ,filter_nil->zeL,forIn_cons->zeQ,map->ze2
open PySem.Heap renaming get?_push_of_some->zzf,get?_push_size->zzx,lt_size->zzy,size_push->zyx,get?_update_self->zyO,get?_update_other->zxP,get?_some_iff->zwu,get?_none_of_le->zwT,get?_update_ne->zvh,SameBut->zam,HeldW->zbe,ExtBut->zbK,FlyingW->zbT,MadeExcOf->zdc,get?_push_at->zdY,get?_push_ne->zd8
open Nat renaming le_trans->zzk,le_refl->zzs,lt_of_lt_of_le->zzA,lt_of_le_of_lt->zzE,ne_of_lt->zzH,zero_le->zyh,lt_irrefl->zyu,lt_of_le_of_ne->zyy,le_of_succ_le->zyC,le_succ->zyW,lt_succ_self->zyY,le_of_lt->zxh,ne_of_gt->zxr,add_sub_cancel->zxs,lt_succ_of_lt->zxz,le_of_lt_succ->zxQ,lt_trans->zxT,sub_self->zxX,pow_le_pow_right->zwa,min_eq_left->zwn,add_right_comm->zwv,le_of_not_lt->zwO,le_antisymm->zwX,not_lt_zero->zwY,zero_add->zwZ,le_sub_one_of_lt->zva,add_le_add_right->zvb,add_sub_cancel'->zvi,toDigits->za0,toDigits_append_toDigits->zbB,le_succ_of_le->zb2,zero_lt_of_lt->zcb,lt_add_of_pos_right->zce,succ_le_succ->zcp,le_add_right->zct,le_of_eq->zcU,sub_lt_sub_left->zdf,ne_zero_of_lt->zdV,not_lt->zec,sub_zero->zei,sub_le->ze0
open Bool renaming false_ne_true->zzL,and_eq_true->zya,true_and->zxw,false_and->zxC,eq_iff_iff->zxL,and_false->zvm,false_eq_true->zdz,not_eq_true'->zdT,eq_false_iff->zdW,not_eq_true->zew
open Option.some renaming inj->zzP,injEq->zd4
open Int renaming toNat_natCast->zzV,eq_ofNat_of_zero_le->zyq,emod_nonneg->zyG,le_refl->zyH,emod_lt_of_pos->zyI,toNat_of_nonneg->zwl,natCast_nonneg->zwt,toNat_lt->zwA,emod_eq_of_lt->zeb,ofNat_lt->zek,max_eq_right->zex
open Array renaming length_toList->zzZ,all_eq_true_iff_forall_mem->zyJ,mem_toList_iff->zyR,getElem?_eq_some_iff->zyX,getElem?_toList->zxe,toList_append->zxG,getD->zbG,perm_iff_toList_perm->zbP,getElem?_eq_getElem->zbV,getElem?_eq_none->zcD,toList_inj->zeu
open Option renaming map_eq_some_iff->zyi,isSome_iff_exists->zwr,isSome_some->zdF,getD_none->zep
open Classical renaming choose_spec->zym,choose->zbv
open PySem.StrLaws renaming glued_eq_join->zyp,join_length_le->zwL,split_free->zvr,sumLen_le->zb3,occ_length_le->zcJ,join_split->zdG
open PySem.Heap.SameBut renaming update->zyB
open List.cons renaming injEq->zyV
open PySem.F renaming plainAttrs_list->zxn,args_tuple_add_2->zws,slot_list_append->zwy,type_list_append->zwz,entry_tuple_add->zwE,slot_tuple_add->zwG,plainAttrs_str->zwK,slot_dict_keyiterator_next->zaL,slot_tuple_iterator_next->zaO,args_dict_keyiterator_next_1->zbr,entry_dict_keyiterator_next->zby,args_tuple_iterator_next_1->zbC,entry_tuple_iterator_next->zbN,excBase_ValueError->zbQ,args_str_split_2->zbS,entry_str_split->zb5,slot_str_split->zcu
open PySem.W.KIN renaming signs_num->zxu
open PySem.Str renaming cps_append->zwD,ofString->zao,empty->zat,join->zbb
open PyProof.Rows renaming subscriptTail_builtinR->zwH,assignInOrder_cons->zvn,callWith_type1->zaC,boot_all->zaF,seqObj->zaS,IntsAre->zaU,envOfC->zbh,toString_length_le->zbl,boot_sum->zbp,AllBare->zcd,step_dedup->zcj,split_pos->zcy,firstMet->zcT,Subscript_->zd5,zipApart_new->zem
open PySem.Paired renaming length->zwM,snoc->zeN
open Int.ofNat renaming inj->zvt
open PySem.Txt renaming split->zab,join->zaf,slice->zcR,mul->zdN
open PySem.Value renaming ref->zac,none->zaI,type->zaW,bool->za3,int->zbt,str->zcF,notImplemented->zcX
open Prod renaming mk->zak,ext->ze1
open PySem.PyData renaming strOk->zal
open PySem.NameKind renaming cell->zan,free->zaY
open PySem.Builtin.SmallTypes renaming nextOf->zay,ownedTupleHandOut->za9,ownedTupleIsFree->zbc
open PySem.Obj renaming mapSeq->zaD,data_mapFields->zaR,isFreed_of_fields->zbs,mapFields->zbz,data_mapDictKeys->zcZ,cls_mapFields->zdZ
open PyProof.Rows.KTD renaming datumAt->zaH,isSome_datumAt->zdR,datLooks->zeT,tabLook->zeZ,Dat->ze8
open True renaming intro->zaP
open PySem.SeqAt.EqAt renaming int_int->zaQ
open PySem.NumText renaming digitsVal->za2
open PyProof.Rows.F renaming entry_set_update_loop->za8
open PySem.Builtin.Int renaming intBits->zbd
open PySem.Code renaming quiet_builtin->zbg
open Sum renaming inl->zbI,inr->zdO
open ForInStep renaming yield->zbJ
open PySem.Calls renaming Name_function_global->zbO,call_function_entry->zbW,callWith_builtin->zcz,evalArgs_plain->zc4
open List.Pairwise renaming nil->zb1
open PySem.Builtin.List renaming listTooLong->zb6
open PySem.AutoSeq1 renaming sub_tuple_tuple->zb7
open PySem.SeqAt renaming EqAt->zb8
open PySem.Builtin.Str renaming occurrences->zcl,strKind->zdl
open Function renaming comp->zcn
open Char renaming toNat->zcW
open PySem.Builtin.ObjectAttr renaming dataDescriptor?->zdq,storeInOwnDict->zdB,getOf->zeX,find->ze4
open Or renaming inl->zdu
open PySem.W.Looks renaming here->zdv,ld->zet
open PySem.Data renaming cell->zdC,fields->zeM
open LawfulBEq renaming eq_of_beq->zdI
open PySem.Heap.Ns1 renaming of_empty->zd6
open PySem.Builtin.Frozenset renaming updateFrom->zeA
open PyProof.Rows.IntsAre renaming int_at->zeE
open PyProof.V renaming Flat->zeR
open List.Perm renaming refl->zeV
open PySem.Walks renaming list->zeY
open PySem.Heap.IsTupleIter renaming extBut->ze3
open PyProof.Rows.IsTup renaming new->ze6
open Nat.succ renaming inj->ze7
abbrev aT(a:Type _):=Option a
abbrev zzj:=@decide_eq_true
abbrev zzn:=@if_neg
abbrev zzo:=@decide_eq_false
abbrev zzu:=@if_pos
abbrev zzX:=@of_decide_eq_true
abbrev zyl:=@of_decide_eq_false
abbrev zxa:=@or_false
abbrev zxj:=@decide_eq_true_eq
abbrev zxo:=@beq_eq_false_iff_ne
abbrev zxM:=@beq_iff_eq
abbrev zvj:=@ne_true_of_eq_false
namespace Lake
open PySem PySem.Spec PyProof.Rows
variable{A:zas}{E:ax->aM->Prop}{N ps:av Str}{a it:ay}{cd cdv dV pm:ax}{ch:av ay}{e tg:cy}{h:cx}{hi:Int}{i k:Nat}{j y:Str}{k':Bool}{kw:av (Str×ax)}{mg:Str->aT ax}{o:Obj}{op op':CmpOp}{p pos px:Pos}{s s':aM}{sc:Scope}{sts:av Stmt}{us:av ax}{α β γ:Type}
variable{h h':cx}{a:ay}{e b:cy}{pins:av (ay×Obj)}{s:aM}{pos p:Pos}{E:ax->aM->Prop}{A:zas}
abbrev _root_.NoDb(x:Str):Prop:=(x==("__debug__" : Str))=false
abbrev _root_.setO(J:Bool):Obj:={cls:=.type "set",dict:=none,data:=.set #[] 0 (.fresh 0 0 J)}
abbrev _root_.wM{α:Type}(prog:cH)(w:World)(A:zas):Sem α->(α->aM->Prop)->(ax->aM->Prop)->aM->Prop:=wpAny (model prog w) A
abbrev Key:=Sum Int Str
noncomputable def xM:Key->ax->Bool
 |.inl k,v=>Value.isInt k v|.inr x,v=>Value.isStrOf x v
noncomputable def keyH(w:World):Key->Int
 |.inl k=>hashInt k|.inr x=>hashStr w x
theorem bT:∀{k:Key}{v:ax},xM k v=true->(∃i t,k=zbI i/\v=zbt i t)∨(∃x t,k=zdO x/\v=zcF x t)
 |.inl i,v,h=>by let(t,e):=Value.isInt_shape h;exact .inl (i,t,rfl,e)
 |.inr x,v,h=>by let(t,e):=Value.isStrOf_shape h;exact .inr (x,t,rfl,e)
theorem zj(i:Int)(t:Tok):xM (.inl i) (.int i t)=true:=by simp[xM,Value.isInt]
theorem zk(x:Str)(t:Tok):xM (.inr x) (.str x t)=true:=by simp[xM,Value.isStrOf]
theorem HS(a b:Int):decide ((zbI a:Key)=zbI b)=(a==b):=by
 by_cases e:a=b
 .subst e;simp
 .have h:¬(zbI a:Key)=zbI b:=λq=>e (zbI.inj q);rw[zzo h];exact(zxo.mpr e).symm
theorem HU(a b:Str):decide ((zdO a:Key)=zdO b)=decide (a=b):=by
 by_cases e:a=b
 · simp
 .have h:¬(zdO a:Key)=zdO b:=λq=>e (zdO.inj q);rw[zzo h,zzo e]
theorem HV(a:Int)(b:Str):decide ((zbI a:Key)=zdO b)=false:=zzo (λq=>nomatch q)
theorem HW(a:Str)(b:Int):decide ((zdO a:Key)=zbI b)=false:=zzo (λq=>nomatch q)
def cG(prog:cH)(w:World):PySem.KeyKind prog w Key where
 is:=xM
 hash:=keyH w
 inj:=λv a b d L=>by
  rcases bT d with ⟨i,t,rfl,rfl⟩|⟨x,t,rfl,rfl⟩
  .rcases bT L with ⟨j,u,rfl,e⟩|⟨y,u,rfl,e⟩
   .injection e with c _;rw[c]
   .exact nomatch e
  .rcases bT L with ⟨j,u,rfl,e⟩|⟨y,u,rfl,e⟩
   .exact nomatch e
   .injection e with c _;rw[c]
 byValue:=λk v h=>by rcases bT h with ⟨i,t,rfl,rfl⟩|⟨x,t,rfl,rfl⟩<;>rfl
 pyHash:=λJ h=>by
  rcases bT J with ⟨i,t,rfl,rfl⟩|⟨x,t,rfl,rfl⟩
  .exact wpAny_pyHash_int h
  .exact wpAny_pyHash_str h
 eqBool:=λU J h=>by
  rcases bT U with ⟨i,t,rfl,rfl⟩|⟨x,t,rfl,rfl⟩
  .rcases bT J with ⟨j,u,rfl,rfl⟩|⟨y,u,rfl,rfl⟩
   .rw[HS]at h;exact wpAny_eqBool_int h
   .rw[HV]at h;exact zb8.int_str i t y u _ _ _ _ h
  .rcases bT J with ⟨j,u,rfl,rfl⟩|⟨y,u,rfl,rfl⟩
   .rw[HW]at h;exact zb8.str_int x t j u _ _ _ _ h
   .rw[HU]at h;exact wpAny_eqBool_str h
 «strs»:=λk x t v h=>by
  rcases bT h with ⟨i,u,rfl,e⟩|⟨y,u,rfl,e⟩
  .exact nomatch e
  .injection e with c _;subst c;cases v<;>rfl
theorem lF(prog:cH)(w:World)(i:Int)(t:Tok):(cG prog w).is (.inl i) (.int i t)=true:=zj i t
theorem uE(prog:cH)(w:World)(x:Str)(t:Tok):(cG prog w).is (.inr x) (.str x t)=true:=zk x t
set_option genInjectivity true in
inductive V where
 |non|bl (b:Bool)|int (i:Int)|str (x:Str)|byt (b:Array UInt8)|flt (b:UInt64)|ref (a:Addr)|ty (n:String)
 deriving DecidableEq
def RelV:V->ax->Prop
 |.non,u=>u=zaI|.bl b,u=>u=za3 b|.int i,u=>∃t,u=zbt i t|.str x,u=>∃t,u=zcF x t|.byt b,u=>∃t,u=Value.bytes b t|.flt b,u=>∃t,u=Value.float b t|.ref a,u=>u=zac a|.ty n,u=>u=zaW n
abbrev Vals:av V->av ax->Prop:=Paired RelV
theorem Vals.length{xs:av V}{us:av ax}(r:Vals xs us):xs.length=us.length:=zwM r
theorem Vals.get:∀{xs:av V}{us:av ax}{i:Nat}{x:V},Vals xs us->xs[i]?\x->∃u,us[i]?\u/\RelV x u
 |_,_,_,_,.nil,e=>by simp at e
 |_,_,0,_,.cons r _,e=>by simp at e;subst e;exact(_,rfl,r)
 |_,_,i+1,x,.cons _ t,e=>by let(u,c,d):=Vals.get (i:=i) (x:=x) t e;exact(u,c,d)
theorem Vals.set{x:V}{u:ax}(r:RelV x u):∀{xs:av V}{us:av ax}(i:Nat),Vals xs us->Vals (xs.set i x) (us.set i u)
 |_,_,_,.nil=>.nil|_,_,0,.cons _ t=>.cons r t|_,_,i+1,.cons q t=>.cons q (Vals.set r i t)
theorem Vals.append:∀{xs c:av V}{us ws:av ax},Vals xs us->Vals c ws->Vals (xs++c) (us++ws):=by
 intro xs c us ws h s
 induction h with
 |nil=>exact s|cons r t J=>exact .cons r J
theorem Vals.take:∀{xs:av V}{us:av ax}(n:Nat),Vals xs us->Vals (xs.take n) (us.take n)
 |_,_,0,_=>.nil|_,_,_+1,.nil=>.nil|_,_,n+1,.cons r t=>.cons r (Vals.take n t)
theorem Vals.drop:∀{xs:av V}{us:av ax}(n:Nat),Vals xs us->Vals (xs.drop n) (us.drop n)
 |_,_,0,r=>r|_,_,_+1,.nil=>.nil|_,_,n+1,.cons _ t=>Vals.drop n t
def RelO:aT V->aT ax->Prop
 |some v,some u=>RelV v u|none,none=>True|_,_=>False
def KV{κ:Type}:av (κ×V)->av (κ×ax)->Prop:=Paired λ(p:κ×V) (q:κ×ax)=>p.1=q.1/\RelV p.2 q.2
noncomputable def kV:Key->V
 |.inl i=>.int i|.inr x=>.str x
inductive HO where
  |lst (xs:List V)
  |tup (xs:List V)
  |dK (kvs:List (Key×V))|dT (kvs:List (List Key×V))
  |set (S:Int->Bool) (n:Nat)
  |ins (C dx:Addr) (fs:List (Str×V))
  |own (x:Addr)
  |xd (fs:List (Str×V))
  |met (f x:Addr)
  |rng (lo hi:Int)
  |frz (o:Obj) (u:HO)
  |tbl (ps:Array Value)
  |ext (φ:Heap->Prop)
abbrev Hp:=ay->aT HO
noncomputable def upd(H:Hp)(a:ay)(o:HO):Hp:=λb=>if b=a then some o else H b
theorem ao{H:Hp}{o:HO}:upd H a o a\o:=by unfold upd;rw[zzu rfl]
theorem ar{H:Hp}{b:ay}{o:HO}(h:b≠a):upd H a o b=H b:=by unfold upd;rw[zzn h]
theorem nW{H:Hp}{b:ay}{o u:HO}(h:H a\o)(h':H b\u)(d:o≠u):a≠b:=by intro e;subst e;rw[h]at h';exact d (zzP h')
theorem bW{H:Hp}{b:ay}{o:HO}(h:H a\o)(h':H b=none):a≠b:=by intro e;subst e;rw[h]at h';cases h'
section
variable(P:cH)(w:World)
inductive NoDc(h:Heap)(a:Addr):Prop
 |mk o:h.get? a\o->o.dict=none->NoDc h a
def NdOr(h:cx)(a:ay)(xs:av V):Prop:=NoDc h a∨∃i x,xs=[V.int i,x]
def ObjOk(H:Hp)(h:cx)(a:ay):HO->Prop
 | .lst g=>g.length<=zaa/\∃(c:av ax)(n:Nat),Vals g c/\h.get? a=some {cls:=.type "list",data:=.seq c.toArray n}|.tup g=>(g.length<=zaa/\NdOr h a g)/\∃c:av ax,Vals g c/\IsTup h a c.toArray|.dK d=>d.length<=zaa/\(a==zaJ)=false/\∃G,KV d G/\h.DictOf (cG P w) a G|.dT d=>d.length<=zaa/\(a==zaJ)=false/\∃g:av (av Key×ay×ax),
   Paired (λ(p:av Key×V) (q:av Key×ay×ax)=>p.1=q.1/\H q.2.1\(.tup (p.1.map kV))/\RelV p.2 q.2.2) d g /\
   ∃o r I,h.get? a\o/\o.ExactDict/\o.data=.dict r I/\r.toList=g.map (entryOfKey (zcI (cG P w)))/\(g.map (·.1)).Nodup
 |.set S n=>h.SetOf (intKind P w) a S n|.ins C dx fs=>H dx\(.own a)/\fs.length<=1000/\dx≠a/\h.get? a\(zaN C dx) /\
   ∃l,h.Ns1 dx l/\(∀f,RelO (fs.lookup f) (l f))/\zbf l (fs.map (·.1))
 |.own _=>∃o,h.get? a\o|.xd fs=>∃l,h.Ns1 a l/\∀f,RelO (fs.lookup f) (l f)| .rng lo hi=>∃t u v,h.get? a=some {cls:=.type "range",data:=.fields #[.int lo t,.int hi u,.int 1 v]}|.frz o u=>h.get? a\o/\ObjOk H h a u|.tbl ps=>h.get? a=some {cls:=.none,data:=.fields ps}|.met f x=>h.get? a\(zd2 (.ref f) (.ref x))|.ext m=>m h/\(∃o,h.get? a\o)/\∀z B:cx,m z->(∀o,z.get? a\o->B.get? a\o)->m B
def HOk(H:Hp)(h:cx):Prop:=∀a o,H a\o->ObjOk P w H h a o
end
section
variable{P:cH}{w:World}{H H':Hp}{o:HO}
theorem ObjOk.lt(x:ObjOk P w H h a o):a<h.objs.size:=by
 cases o with
 |lst d=>let(_,_,_,_,e):=x;exact zzy e
 |tup d=>let(_,_,_,p):=x;exact p.lt
 |dK c=>let(_,_,_,_,o,_,_,e,_):=x;exact zzy e
 |dT c=>let(_,_,_,_,o,_,_,e,_):=x;exact zzy e
 |set S n=>let(o,_,_,_,e,_):=x;exact zzy e
 |ins C dx fs=>let(_,_,_,e,_):=x;exact zzy e
 |own y=>let(_,e):=x;exact zzy e
 |xd fs=>let(_,(_,_,_,e,_),_):=x;exact zzy e
 |rng lo hi=>let(_,_,_,e):=x;exact zzy e
 |frz ob u=>let(e,_):=x;exact zzy e
 |tbl ps=>exact zzy (show h.get? a\_ from x)|met f y=>exact zzy (show h.get? a\_ from x)|ext φ=>let(_,(_,e),_):=x;exact zzy e
theorem Paired.mapP{F G:α->β->Prop}:∀{l₁:av α}{l₂:av β},Paired F l₁ l₂->(∀a b,F a b->G a b)->Paired G l₁ l₂:=by
 intro l₁ l₂ h f
 induction h with
 |nil=>exact .nil|cons r t J=>exact .cons (f _ _ r) J
theorem ObjOk.stay(x:ObjOk P w H h a o)(k:∀b u,(b=a∨H b\(.own a))->h.get? b\u->h'.get? b\u)
  (ho:∀b,H b\(.own a)->H' b\(.own a)) (J:∀b xs,H b\(.tup xs)->H' b\(.tup xs)):ObjOk P w H' h' a o:=by
 induction o with
 |lst xs=>let(z,B,n,r,e):=x;exact(z,B,n,r,k _ _ (.inl rfl) e)
 |tup xs=>let((z,U),B,r,g,e,c):=x;exact((z,U.imp_left λ⟨o,e,n⟩=>(o,k _ _ (.inl rfl) e,n)),B,r,g,k _ _ (.inl rfl) e,c)
 |dK G=>let(z,y,T,r,g,m,l,e,c):=x;exact(z,y,T,r,g,m,l,k _ _ (.inl rfl) e,c)
 |dT G =>
  let(z,y,xs,r,g,m,l,e,c):=x;exact(z,y,xs,Paired.mapP r λp q z=>(z.1,J _ _ z.2.1,z.2.2),g,m,l,k _ _ (.inl rfl) e,c)
 |set S n=>let(g,m,l,t,e,c):=x;exact(g,m,l,t,k _ _ (.inl rfl) e,c)
 |ins C dx fs =>
  let(d,z,ne,e,I,(M,m,l,Q,c),r):=x;exact(ho _ d,z,ne,k _ _ (.inl rfl) e,I,(M,m,l,k _ _ (.inr d) Q,c),r)
 |own y=>let(g,e):=x;exact(g,k _ _ (.inl rfl) e)
 |xd fs=>let(I,(M,m,l,e,c),r):=x;exact(I,(M,m,l,k _ _ (.inl rfl) e,c),r)
 |rng lo hi=>let(t,u,v,e):=x;exact(t,u,v,k _ _ (.inl rfl) e)
 |frz g u L=>let(e,q):=x;exact(k _ _ (.inl rfl) e,L q)
 |tbl ps =>
  have e:h.get? a=some {cls:=.none,data:=.fields ps}:=x;exact k a _ (.inl rfl) e
 |met f y =>
  have e:h.get? a\(zd2 (.ref f) (.ref y)):=x;exact k a _ (.inl rfl) e
 |ext φ=>let(p,(o,e),st):=x;exact(st _ _ p λo q=>k _ _ (.inl rfl) q,(o,k _ _ (.inl rfl) e),st)
theorem HOk.lt(x:HOk P w H h)(e:H a\o):a<h.objs.size:=(x a o e).lt
theorem HOk.fresh(x:HOk P w H h)(e:h.objs.size<=a):H a=none:=by
 cases q:H a with
 |none=>rfl|some u=>exact absurd (zzA (x.lt q) e) (zyu _)
theorem HOk.kept(x:HOk P w H h)(k:∀b u,h.get? b\u->h'.get? b\u):HOk P w H h':=λa o e =>
 (x a o e).stay (λb u _ q=>k b u q) (λ_ q=>q) λ_ _ q=>q
theorem HOk.laid(x:HOk P w H h)(k:∀b u,h.get? b\u->h'.get? b\u)(L:h.objs.size<=a)(new:ObjOk P w (upd H a o) h' a o):HOk P w (upd H a o) h':=λb u e=>by
 have d:=x.fresh L;by_cases J:b=a
 .subst J;rw[ao]at e;cases e;exact new
 .rw[ar J]at e;exact(x b u e).stay (λc v _ q=>k c v q) (λc q=>by rw[ar (bW q d)];exact q) λc xs q=>by rw[ar (bW q d)];exact q
end
def Rd(H:Hp)(a:ay)(u:HO):Prop:=H a\u∨∃o,H a\(.frz o u)
theorem Rd.ok{P:cH}{w:World}{H:Hp}{u:HO}(r:Rd H a u)(x:HOk P w H h):ObjOk P w H h a u:=by
 rcases r with r|⟨o,r⟩
 .exact x a u r
 .let(_,q):=x a _ r;exact q
def Mut:aT HO->Prop
 |some (.lst _)=>True|some (.dK _)=>True|some (.dT _)=>True|some (.set _ _)=>True|some (.ins _ _ _)=>True|some (.ext _)=>True|_=>False
section
variable{P:cH}{w:World}{H:Hp}{x e:ay}{o':HO}
theorem HOk.write(ok:HOk P w H h)(l:Mut (H x))(he:e=x∨H e\(.own x))(k:∀b u,b≠e->h.get? b\u->h'.get? b\u)(B:∃u,h'.get? e\u)
  (new:ObjOk P w (upd H x o') h' x o'):HOk P w (upd H x o') h':=λb u q=>by
 have L:∀c y,H c\(.own y)->c≠x:=λc y r z=>by subst z;rw[r]at l;exact l
 have U:∀c m,H c\(.tup m)->c≠x:=λc m r z=>by subst z;rw[r]at l;exact l
 by_cases d:b=x
 .subst d;rw[ao]at q;cases q;exact new
 .rw[ar d]at q;by_cases J:b=e
  .have n:H b\(.own x):=by
    rcases he with z|z
    .exact absurd (J.trans z) d
    .rw[J];exact z
   rw[q]at n;cases n;let(v,C):=B;exact(v,by rw[J];exact C)
  .refine(ok b u q).stay (λc v g r=>k c v ?_ r) (λc r=>by rw[ar (L c b r)];exact r) λc m r=>by rw[ar (U c m r)];exact r
   rcases g with rfl|g
   .exact J
   .rintro rfl;rcases he with z|z
    .exact L c b g z
    .rw[g]at z;cases z;exact d rfl
end
structure Un(fs ex:List Addr)(H H':Hp)(h h':Heap):Prop where
 keep:∀b o,h.get? b\o->H b=none->b∉fs->b∉ex->h'.get? b\o
 slot:∀b o,h.get? b\o->H b=none->b∈fs->b∉ex->∃sl,h'.get? b=some { o with slots:=sl }
 free:∀b o,h.get? b\o->H b=none->b∉ex->H' b=none
 there:∀b o,h.get? b\o->b∉ex->∃o',h'.get? b\o'
 tups:∀b xs,H b\(.tup xs)->H' b\(.tup xs)
 frzs:∀b o u,H b\(.frz o u)->H' b\(.frz o u)
 tbls:∀b ps,H b\(.tbl ps)->∃more,H' b\(.tbl (ps++more))
section
variable{fs fs' ex ex':av ay}{H H1:Hp}{h1:cx}{x e:ay}{o:HO}
theorem Un.any(u:Un fs ex H H1 h h1){b:ay}{ob:Obj}(q:h.get? b\ob)(n:H b=none)(c:b∉ex):∃sl,h1.get? b=some {ob with slots:=sl}:=by
 by_cases J:b∈fs
 .exact u.slot b ob q n J c
 .exact(ob.slots,u.keep b ob q n J c)
theorem Un.kept(k:∀b u,h.get? b\u->h'.get? b\u):Un fs ex H H h h' :=
 (λb c q _ _ _=>k b c q,λb c q _ _ _=>(c.slots,k b c q),λ_ _ _ n _=>n,λb c q _=>(c,k b c q),λ_ _ q=>q,λ_ _ _ q=>q,λ_ ps q=>(#[],by rw[q];simp))
theorem Un.refl:Un fs ex H H h h:=Un.kept λ_ _ q=>q
theorem Un.laid(k:∀b u,h.get? b\u->h'.get? b\u)(J:h.objs.size<=a)(c:H a=none):Un fs ex H (upd H a o) h h' where
 keep:=λb u q _ _ _=>k b u q
 slot:=λb u q _ _ _=>(u.slots,k b u q)
 free:=λb u q n _=>by rw[ar (zzH (zzA (zzy q) J))];exact n
 there:=λb u q _=>(u,k b u q)
 tups:=λb d q=>by rw[ar (bW q c)];exact q
 frzs:=λb u d q=>by rw[ar (bW q c)];exact q
 tbls:=λb ps q=>(#[],by rw[ar (bW q c),q];simp)
theorem Un.write(L:Mut (H x))(he:e=x∨H e\(.own x))(k:∀b u,b≠e->h.get? b\u->h'.get? b\u)(U:∃u,h'.get? e\u):Un fs ex H (upd H x o) h h':=by
 have g:∀b,H b=none->b≠x:=λb n z=>by subst z;rw[n]at L;exact L
 have d:∀b,H b=none->b≠e:=λb n z=>by
  subst z;rcases he with r|r
  .exact g b n r
  .rw[n]at r;cases r
 have c:∀b u,H b\u->¬Mut (some u)->b≠x:=λb u q nm z=>by subst z;rw[q]at L;exact nm L
 refine(λb u q n _ _=>k b u (d b n) q,λb u q n _ _=>(u.slots,k b u (d b n) q),λb u q n _=>by rw[ar (g b n)];exact n,λb u q _=>?_,
  λb l q=>by rw[ar (c b _ q λz=>z)];exact q,λb u l q=>by rw[ar (c b _ q λz=>z)];exact q,λb ps q=>(#[],by rw[ar (c b _ q λz=>z),q];simp))
 by_cases J:b=e
 .subst J;exact U
 .exact(u,k b u J q)
theorem Un.mono(u:Un fs ex H H1 h h1)(hs:∀b∈fs,b∈fs')(g:∀b∈ex,b∈ex'):Un fs' ex' H H1 h h1 :=
 (λb d q n J c=>u.keep b d q n (λz=>J (hs b z)) λz=>c (g b z),λ_ _ q n _ c=>u.any q n λz=>c (g _ z),λb d q n c=>u.free b d q n λz=>c (g b z),λb d q c=>u.there b d q λz=>c (g b z),u.tups,u.frzs,u.tbls)
end
noncomputable def trk(h:cx)(H:Hp):av ay:=(zav h.objs.size).filter λa=>(H a).isSome
def hidT(h:cx)(H:Hp):cx:=zaq h (trk h H)
theorem zm(h:cx)(H:Hp):(hidT h H).objs.size=h.objs.size:=PySem.W.hideAll_size _ _
theorem Ck{H:Hp}{b:ay}(e:h.get? b\o)(n:H b=none):(hidT h H).get? b\o :=
 zwi _ e λc=>by have q:(H b).isSome=true:=(zzM.mp c).2;rw[n]at q;cases q
theorem FJ{H:Hp}{b:ay}(e:(hidT h H).get? b\o):h.get? b\o/\H b=none:=by
 have J:h.get? b\o:=zxI (trk h H) e;refine(J,?_);cases q:H b with
 |none=>rfl|some x =>
  have c:b∈trk h H:=zzM.mpr (zyK.mpr (zzy J),by simp[q]);have z:(hidT h H).get? b=none:=zwS (trk h H) c;rw[z]at e;cases e
noncomputable def FK(g h:cx)(L:ay):av (ay×Obj):=(zav h.objs.size).filterMap λa=>if a=L∨(g.get? a).isSome=true then none else(h.get? a).map λo=>(a,o)
def rest(g h:cx)(L d:ay):av (ay×Obj):=(FK g h L).filter λp=>decide (p.1≠d)
structure Mod(K:zvu)(mg:Str->Option Value)(base:Heap):Prop where
 kin:K.In base
 glob:base.Ns zaX mg
 blt:∃mb,base.Ns zb9 mb/\∀x:Str,x ≠ "__name__" -> mb x=zaG x
 nolimit:base.NoLimit
structure Cx where
 prog:Program
 w:World
 K:zvu
 mg:Str->Option Value
 base:Heap
 A:zas
 N:List Str
 s₀:zbi
 H₀:Hp
 env:Env
 outer:List Env
 stack:List Env
 ex:List Addr
 fn:Str->Bool
 calm:Bool
 pn:List (Addr×Obj)
 xe:Value->zbi->Prop
abbrev SE(X:Cx)(e:cy)(es:av cy):Prop:=zaj (e::es) X.env=(false,eval e X.env)::zaj es X.env
abbrev BA(X:Cx)(pos:Pos)(es:av cy):Prop:=(zbH pos (zaj es X.env)).any (·.1)=false
abbrev HF(X:Cx)(pos:Pos)(es:av cy):Prop:=((zbH pos (zaj es X.env)).all (λx=>!x.1) && (zbU pos (za1 [] X.env)).all (λx=>x.1.isSome) && decide (es.length+([]:av zco).length+(if ([]:av zco).isEmpty then 0 else 1)<30))=true
abbrev wX{α:Type}(X:Cx):Sem α->(α->aM->Prop)->(ax->aM->Prop)->aM->Prop:=wpAny (model X.prog X.w) X.A
noncomputable def frs(l:av Env):av ay:=l.filterMap (·.frame)
abbrev Cx.fs(X:Cx):av ay:=frs X.outer
def Vis(sc:Scope)(x:Str):Prop:=sc.names.lookup x\.local∨sc.names.lookup x\.cell∨sc.names.lookup x\.free
def Loc(sc:Scope)(x:Str):Prop:=sc.names.lookup x\.local∨sc.names.lookup x\.cell
def Look(env:Env)(h:cx)(m:Str->aT ax)(x:Str)(u:ax):Prop :=
 (env.kindOf x\.local/\m x\u)∨((env.kindOf x\.cell∨env.kindOf x\.free)/\∃c,env.cells.lookup x\c/\h.IsCell c (some u))
structure Cx.Ok(X:Cx):Prop where
 mod:Mod X.K X.mg X.base
 kind:X.env.scope.kind=.function
 glob:X.env.globals=zaX
 blt:X.env.builtins=zb9
 above:X.s₀.heap.objs.size <= X.env.locals
 inj:∀x y c,X.env.cells.lookup x\c->X.env.cells.lookup y\c->x=y
 has:∀x,(X.env.kindOf x\.cell∨X.env.kindOf x\.free)->∃c,X.env.cells.lookup x\c
 cab:∀x c,X.fn x=true->X.env.cells.lookup x\c->X.s₀.heap.objs.size <= c
 hd:X.calm=true->X.A.handled=none
 frames:X.A.frames\X.stack
 stk:X.stack=X.outer∨(X.stack=X.env::X.outer/\X.env.frame\X.env.locals)
 exf:∀b∈X.ex,b≠X.env.locals/\∀x c,X.env.cells.lookup x\c->c≠b
 bs:∀b o,X.base.get? b\o->X.s₀.heap.get? b\o/\X.H₀ b=none
 bsz:X.base.objs.size <= X.s₀.heap.objs.size
 noex:∀b o,X.base.get? b\o->b∉X.ex
 exfs:∀b∈X.ex,b∉X.fs
 funs:X.s₀.heap.FunFrames X.base X.outer
 frf:∀b∈X.fs,X.H₀ b=none
structure Inv(X:Cx)(pins:List (Addr×Obj))(σ:List (Option V))(H:Hp)(s:zbi):Prop where
 ok:X.Ok
 os:s.os=X.s₀.os
 bare:zcd s.gens
 base:Un X.fs X.ex X.H₀ H X.s₀.heap s.heap
 loc:∃m,s.heap.Ns X.env.locals m/\∀(i:Nat)(x:Str)(v:V),X.N[i]? = some x->σ[i]? = some (some v)->Vis X.env.scope x->∃u,RelV v u/\Look X.env s.heap m x u
 cell:∀x c,X.env.cells.lookup x\c->∃v,s.heap.IsCell c v
 free:H X.env.locals=none
 freeC:∀x c,X.env.cells.lookup x\c->H c=none
 pin:∀p∈X.pn++pins,s.heap.get? p.1\p.2/\H p.1=none/\p.1≠X.env.locals/\p.1∉X.fs/\∀v,p.2.data ≠ .cell v
 hok:HOk X.prog X.w H s.heap
 len:σ.length=X.N.length
section
variable{X:Cx}{σ:av (aT V)}{H H':Hp}
theorem Cx.Ok.nofr(ok:X.Ok){b:ay}(e:X.base.get? b\o):b∉X.fs:=λJ=>by have:=(ok.funs.mem J).1;rw[e]at this;cases this
theorem Inv.bs(I:Inv X pins σ H s):∀b o,X.base.get? b\o->s.heap.get? b\o/\H b=none:=λb o e =>
 (I.base.keep b o (I.ok.bs b o e).1 (I.ok.bs b o e).2 (I.ok.nofr e) (I.ok.noex b o e),I.base.free b o (I.ok.bs b o e).1 (I.ok.bs b o e).2 (I.ok.noex b o e))
theorem Inv.bk(I:Inv X pins σ H s):∀b o,X.base.get? b\o->s.heap.get? b\o:=λb o e=>(I.bs b o e).1
theorem Inv.mod(I:Inv X pins σ H s):Mod X.K X.mg X.base:=I.ok.mod
theorem Inv.kIn(I:Inv X pins σ H s):X.K.In s.heap:=I.ok.mod.kin.keeps I.bk
theorem Inv.lt(I:Inv X pins σ H s):X.env.locals<s⁻¹:=let ⟨_,hn,_⟩:=I.loc;hn.lt
theorem Inv.sz(I:Inv X pins σ H s):X.s₀.heap.objs.size<=s⁻¹:=zzk I.ok.above (zxh I.lt)
theorem Inv.nofs(I:Inv X pins σ H s)(h:s⁻¹<=a):a∉X.fs:=λU=>by have(_,o,ho,_):=I.ok.funs.mem U;exact absurd (zzA (zzy ho) (zzk I.sz h)) (zyu _)
theorem Inv.cne(I:Inv X pins σ H s):∀x c,X.env.cells.lookup x\c->c≠X.env.locals:=λx c e z=>by walk;let(v,o,ho,hd):=I.cell x c e;let(m,(o',es,ep,L,J,_),_):=I.loc;x_go;rw[z,L]at ho;cases ho;rw[J]at hd;cases hd
theorem Inv.funs(I:Inv X pins σ H s):s.heap.FunFrames X.base X.outer:=by
 have all:∀(l:av Env),(∀b∈frs l,b∈X.fs)->X.s₀.heap.FunFrames X.base l->s.heap.FunFrames X.base l:=by
  intro l
  induction l with
  |nil=>intro _ _;trivial|cons env r u =>
   intro d m;let(g,(L,o,c,n,ho,hd),q):=m;have J:L∈X.fs:=d L (by unfold frs;rw[zvf,c];exact zzd);let(sl,e):=I.base.slot L o ho (I.ok.frf L J) J λz=>I.ok.exfs L z J;exact(g,(L,_,c,n,e,hd),u (λb U=>d b (by unfold frs;rw[zvf,c];exact zzc _ U)) q)
 exact all X.outer (λ_ U=>U) I.ok.funs
theorem Inv.stack(I:Inv X pins σ H s):s.heap.FunFrames X.base X.stack:=by
 rcases I.ok.stk with e|⟨e,U⟩
 .rw[e];exact I.funs
 .rw[e];have(m,c,_):=I.loc;refine .cons (by rw[I.ok.kind];decide) U c ?_ I.funs;exact zwT (zzk I.ok.bsz I.ok.above)
theorem Inv.stkSub(I:Inv X pins σ H s):∀b∈frs X.stack,b∈X.env.locals::X.fs:=λb J=>by
 rcases I.ok.stk with e|⟨e,L⟩
 .rw[e]at J;exact zzc _ J
 .rw[e]at J;unfold frs at J;rw[zvf,L]at J;exact J
theorem Inv.stkFree(I:Inv X pins σ H s):∀b∈frs X.stack,H b=none:=λb J=>by
 rcases zze.mp (I.stkSub b J) with e|J
 .rw[e];exact I.free
 .let(_,o,ho,_):=I.ok.funs.mem J;exact I.base.free b o ho (I.ok.frf b J) λz=>I.ok.exfs b z J
theorem Inv.step{g':Array GenState}{t':Nat}{d':Drawn}(I:Inv X pins σ H s)(L:∀b∈ch,(b∈X.ex∨X.s₀.heap.objs.size<=b)/\b≠X.env.locals/\(∀x c,X.env.cells.lookup x\c->c≠b)/\∀p∈X.pn++pins,p.1≠b)(keep:∀b o,b≠X.env.locals->b∉X.fs->b∉ch->s.heap.get? b\o->H b=none->h'.get? b\o)(slot:∀b o,b≠X.env.locals->b∈X.fs->b∉ch->s.heap.get? b\o->H b=none->∃sl,h'.get? b=some {o with slots:=sl})(free:∀b o,b∉ch->s.heap.get? b\o->H b=none->H' b=none)(there:∀b o,b∉ch->s.heap.get? b\o->∃o',h'.get? b\o')(T:∀b xs,H b\(.tup xs)->H' b\(.tup xs))(M:∀b o u,H b\(.frz o u)->H' b\(.frz o u))(Q:∀b ps,H b\(.tbl ps)->∃more,H' b\(.tbl (ps++more)))(ns:∀m,s.heap.Ns X.env.locals m->h'.Ns X.env.locals m)(a:HOk X.prog X.w H' h')(hg:zcd g') :
  Inv X pins σ H' {s with heap:=h',gens:=g',drawn:=d',toks:=t' }:=by
 have h:∀b o,X.s₀.heap.get? b\o->b≠X.env.locals:=λb o e=>zzH (zzA (zzy e) I.ok.above);have Y:∀b o,X.s₀.heap.get? b\o->b∉X.ex->b∉ch:=λb o e g C=>by
  rcases (L b C).1 with z|z
  .exact g z
  .exact absurd (zzA (zzy e) z) (zyu _)
 have J:∀x c,X.env.cells.lookup x\c->∀v,s.heap.IsCell c v->h'.IsCell c v:=λx c e v ⟨o,ho,hd⟩=>by
  have U:c∉ch:=λz=>(L c z).2.2.1 x c e rfl;by_cases j:c∈X.fs
  .let(sl,q):=slot c o (I.cne x c e) j U ho (I.freeC x c e);exact(_,q,hd)
  .exact(o,keep c o (I.cne x c e) j U ho (I.freeC x c e),hd)
 refine(I.ok,I.os,hg,(λb o e n C g=>?_,λb o e n C g=>?_,λb o e n g=>?_,λb o e g=>?_,λb xs e=>T b xs (I.base.tups b xs e),λb o xs e=>M b o xs (I.base.frzs b o xs e),λb ps e=>?_),?_,λx c e=>?_,?_,λx c e=>?_,λp y=>?_,a,I.len)
 .exact keep b o (h b o e) C (Y b o e g) (I.base.keep b o e n C g) (I.base.free b o e n g)
 .let(sl,B):=I.base.slot b o e n C g;let(E,G):=slot b _ (h b o e) C (Y b o e g) B (I.base.free b o e n g);exact(E,G)
 .let(o',B):=I.base.there b o e g;exact free b o' (Y b o e g) B (I.base.free b o e n g)
 .let(o',B):=I.base.there b o e g;exact there b o' (Y b o e g) B
 .let(m1,B):=I.base.tbls b ps e;let(m2,G):=Q b _ B;exact(m1++m2,by rw[G,Array.append_assoc])
 .let(m,hn,hl):=I.loc;refine(m,ns m hn,λi x v B G N=>?_);let(u,r,l):=hl i x v B G N;refine(u,r,?_);rcases l with l|⟨k,c,e,z⟩
  .exact .inl l
  .exact .inr (k,c,e,J x c e _ z)
 .let(v,z):=I.cell x c e;exact(v,J x c e v z)
 .let(m,(o,_,_,ho,_),_):=I.loc;exact free _ o (λz=>(L _ z).2.1 rfl) ho I.free
 .let(v,o,ho,hd):=I.cell x c e;exact free c o (λz=>(L c z).2.2.1 x c e rfl) ho (I.freeC x c e)
 .let(e,n,ne,A,d):=I.pin p y;have U:p.1∉ch:=λz=>(L p.1 z).2.2.2 p y rfl;exact(keep p.1 p.2 ne A U e n,free p.1 p.2 U e n,ne,A,d)
theorem Inv.un{t':Nat}(I:Inv X pins σ H s)(u:Un X.fs [] H H' s.heap h')(d:HOk X.prog X.w H' h'):Inv X pins σ H' {s with heap:=h',toks:=t' }:=by
 walk;let(m,(o,es,ep,ho,r),_):=id I.loc;let(sl,q):=u.any ho I.free 's';x_go;exact I.step (g':=s.gens) (d':=s.drawn) (ch:=[]) (λ_ z=>nomatch z) (λb o _ c _ e n=>u.keep b o e n c 's') (λb o _ c _ e n=>u.slot b o e n c 's') (λb o _ e n=>u.free b o e n 's') (λb o _ e=>u.there b o e 's') u.tups u.frzs u.tbls (λm' v=>by have(o',l,g,J,x):=v;rw[ho]at J;cases J;exact(_,l,g,q,x)) d I.bare
theorem Inv.call{g':Array GenState}{t':Nat}{d':Drawn}(I:Inv X pins σ H s)(u:Un (frs X.stack) ch H H' s.heap h')(q:HOk X.prog X.w H' h')(G:zcd g')(L:∀b∈ch,(b∈X.ex∨X.s₀.heap.objs.size<=b)/\b≠X.env.locals/\(∀x c,X.env.cells.lookup x\c->c≠b)/\∀p∈X.pn++pins,p.1≠b) :
  Inv X pins σ H' {s with heap:=h',gens:=g',drawn:=d',toks:=t' }:=by
 walk;let(m,(o,es,ep,ho,r),_):=id I.loc;let(sl,l):=u.any ho I.free λz=>(L _ z).2.1 rfl;x_go;exact I.step (ch:=ch) L (λb o l C J e n=>u.keep b o e n (λz=>(zze.mp (I.stkSub b z)).elim l C) J) (λb o _ _ J e n=>u.any e n J) (λb o J e n=>u.free b o e n J) (λb o J e=>u.there b o e J) u.tups u.frzs u.tbls (λm' M=>by have(o',B,v,U,Q):=M;rw[ho]at U;cases U;exact(_,B,v,l,Q)) q G
theorem Inv.turned{t':Nat}(I:Inv X pins σ H s)(k:∀b o,b≠it->s.heap.get? b\o->h'.get? b\o)(M:H it=none)(U:it≠X.env.locals)(l:it∈X.ex∨X.s₀.heap.objs.size<=it)(w:∀x c,X.env.cells.lookup x\c->c≠it)(B:∀p∈X.pn++pins,p.1≠it):Inv X pins σ H {s with heap:=h',toks:=t' }:=by
 have L:∀b u,H b\u->b≠it:=λb u e z=>by rw[z,M]at e;cases e
 refine I.step (ch:=[it]) (λb C=>?_) (λb o _ _ J e _=>k b o (λz=>J (by simp[z])) e) (λb o _ _ J e _=>(o.slots,k b o (λz=>J (by simp[z])) e)) (λ_ _ _ _ n=>n)
  (λb o J e=>(o,k b o (λz=>J (by simp[z])) e)) (λ_ _ e=>e) (λ_ _ _ e=>e) (λb ps e=>(#[],by rw[e];simp)) (λm G=>?_) (λb u e=>?_) I.bare
 .have e:b=it:=by simpa using C
  subst e;exact(l,U,w,B)
 .let(o,g,d,ho,r):=G;exact(o,g,d,k _ o (Ne.symm U) ho,r)
 .refine(I.hok b u e).stay (λc v J q=>k c v ?_ q) (λ_ q=>q) λ_ _ q=>q;rcases J with z|z
  .rw[z];exact L b u e
  .exact L c _ z
theorem Inv.tok(I:Inv X pins σ H s)(t:Nat):Inv X pins σ H {s with toks:=t}:=I.un Un.refl I.hok
theorem Inv.kept{t':Nat}(I:Inv X pins σ H s)(k:∀b u,s.heap.get? b\u->h'.get? b\u):Inv X pins σ H {s with heap:=h',toks:=t' }:=I.un (Un.kept k) (I.hok.kept k)
theorem Inv.laid{a:ay}{o:HO}{t':Nat}(I:Inv X pins σ H s)(k:∀b u,s.heap.get? b\u->h'.get? b\u)(J:s⁻¹<=a)(new:ObjOk X.prog X.w (upd H a o) h' a o) :
  Inv X pins σ (upd H a o) {s with heap:=h',toks:=t' }:=I.un (Un.laid k J (I.hok.fresh J)) (I.hok.laid k J new)
theorem Inv.write{x e:ay}{o:HO}{t':Nat}(I:Inv X pins σ H s)(L:Mut (H x))(he:e=x∨H e\(.own x))(k:∀b u,b≠e->s.heap.get? b\u->h'.get? b\u)(J:∃u,h'.get? e\u)
  (new:ObjOk X.prog X.w (upd H x o) h' x o):Inv X pins σ (upd H x o) {s with heap:=h',toks:=t' }:=I.un (Un.write L he k J) (I.hok.write L he k J new)
theorem Inv.pins_of{J:av (ay×Obj)}(I:Inv X pins σ H s)(h:∀p∈J,s.heap.get? p.1\p.2/\H p.1=none/\p.1≠X.env.locals/\p.1∉X.fs/\∀v,p.2.data ≠ .cell v):Inv X J σ H s :=
 (I.ok,I.os,I.bare,I.base,I.loc,I.cell,I.free,I.freeC,λp L=>(zzg.mp L).elim (λz=>I.pin p (zzT _ z)) (h p),I.hok,I.len)
theorem pR(U:N.Nodup){j:Nat}{x:Str}(a:N[i]?\x)(b:N[j]?\x):i=j:=by walk;let(h1,c):=zzC.mp a;let(h2,d):=zzC.mp b;x_go;exact(zxE U).mp (c.trans d.symm)
theorem rN{M:Model}{x:Str}{v:V}{u:ax}{Q:Unit->aM->Prop}(I:Inv X pins σ H s)(hN:X.N.Nodup)(hi:X.N[i]?\x)(B:Loc X.env.scope x)(r:RelV v u)(h:∀s',Inv X pins (σ.set i (some v)) H s'->(∃a,zam a s.heap s'.heap/\(a=X.env.locals∨X.env.cells.lookup x\a))->Q () s')(hf:X.fn x=true∨X.env.scope.names.lookup x\.local):wpAny M A (storeName X.env x u) Q E s:=by
 let(m,hn,hl):=id I.loc;have a8:(X.env.scope.kind==.class || (X.env.scope.kind==.module && X.env.locals != X.env.globals))=false:=by rw[I.ok.kind];rfl
 have a4:i<σ.length:=by rw[I.len];exact(zzC.mp hi).1
 have cne:=I.cne;have J:∀{a:ay}{h':cx},(∃o,s.heap.get? a\o/\H a=none)->zam a s.heap h'->HOk X.prog X.w H h':=λ{a h'} ha g b ob e=>by
  let(_,_,U):=ha;refine(I.hok b ob e).stay (λc w' L q=>(g.2 c ?_).trans q) (λ_ q=>q) λ_ _ q=>q;rintro rfl;rcases L with rfl|L
  .rw[U]at e;cases e
  .rw[U]at L;cases L
 rcases B with G|G
 .refine wpAny_storeName_local G hn (λh' b2 g=>?_) a8;let(oL,_,_,b3,_):=id hn;refine h _ (I.ok,I.os,I.bare,(λb o e n T B=>?_,λb o e n T B=>?_,I.base.free,λb o e B=>?_,I.base.tups,I.base.frzs,I.base.tbls),(_,b2,λj y v' l C e3=>?_),λy c e=>?_,I.free,I.freeC,λp hp=>?_,J (oL,b3,I.free) g,by simpa using I.len) (_,g,.inl rfl)
  .exact(g.2 b (zzH (zzA (zzy e) I.ok.above))).trans (I.base.keep b o e n T B)
  .let(sl,l):=I.base.slot b o e n T B;exact(sl,(g.2 b (zzH (zzA (zzy e) I.ok.above))).trans l)
  .let(o',l):=I.base.there b o e B;exact(o',(g.2 b (zzH (zzA (zzy e) I.ok.above))).trans l)
  .by_cases Y:j=i
   .subst Y;rw[hi]at l;cases l;rw[zyL a4]at C;cases C;exact(u,r,.inl (G,'s'))
   .rw[zzG (Ne.symm Y)]at C;let(u',r',q):=hl j y v' l C e3;refine(u',r',?_);rcases q with ⟨k,e⟩|⟨k,c,e,z⟩
    .refine .inl (k,?_);have:y≠x:=λe=>Y (pR hN l (e ▸ hi));simp[this,e]
    .exact .inr (k,c,e,z.sameBut g (cne y c e))
  .let(w',z):=I.cell y c e;exact(w',z.sameBut g (cne y c e))
  .let(e,n,ne,nf,d):=I.pin p hp;exact((g.2 p.1 ne).trans e,n,ne,nf,d)
 .have a5:X.fn x=true:=by
   rcases hf with z|z
   .exact z
   .rw[z]at G;cases G
  let(c,L):=I.ok.has x (.inl G);let(w',z):=I.cell x c L;refine wpAny_storeName_cell I.ok.kind G L z (λh' a6 g=>?_);let(oc,a9,b1):=id z;refine h {s with heap:=h' } (I.ok,I.os,I.bare,(λb o e n T B=>?_,λb o e n T B=>?_,I.base.free,λb o e B=>?_,I.base.tups,I.base.frzs,I.base.tbls),(m,hn.sameBut g (Ne.symm (cne x c L)),λj y v' l C e3=>?_),λy c' e=>?_,I.free,I.freeC,λp hp=>?_,J (oc,a9,I.freeC x c L) g,by simpa using I.len) (c,g,.inr L)
  .exact(g.2 b (zzH (zzA (zzy e) (I.ok.cab x c a5 L)))).trans (I.base.keep b o e n T B)
  .let(sl,l):=I.base.slot b o e n T B;exact(sl,(g.2 b (zzH (zzA (zzy e) (I.ok.cab x c a5 L)))).trans l)
  .let(o',l):=I.base.there b o e B;exact(o',(g.2 b (zzH (zzA (zzy e) (I.ok.cab x c a5 L)))).trans l)
  .by_cases Y:j=i
   .subst Y;rw[hi]at l;cases l;rw[zyL a4]at C;cases C;exact(u,r,.inr (.inl G,c,L,a6))
   .rw[zzG (Ne.symm Y)]at C;let(u',r',q):=hl j y v' l C e3;refine(u',r',?_);rcases q with q|⟨k,c',e,z'⟩
    .exact .inl q
    .refine .inr (k,c',e,z'.sameBut g ?_);rintro rfl;exact Y (pR hN l (I.ok.inj _ _ _ e L ▸ hi))
  .by_cases a7:c'=c
   .subst a7;exact(_,a6)
   .let(w2,z2):=I.cell y c' e;exact(w2,z2.sameBut g a7)
  .let(e,n,ne,nf,d):=I.pin p hp;refine((g.2 p.1 ?_).trans e,n,ne,nf,d);intro q;rw[q,a9]at e;have q':oc=p.2:=zzP e;exact d w' (by rw[<-q'];exact b1)
theorem iH{M:Model}{x:Str}{v:V}{u:ax}{Q:Unit->aM->Prop}(I:Inv X pins σ H s)(L:X.N.Nodup)(hi:X.N[i]?\x)(c:Loc X.env.scope x)(r:RelV v u)(h:∀s',Inv X pins (σ.set i (some v)) H s'->Q () s')(U:X.fn x=true∨X.env.scope.names.lookup x\.local):wpAny M A (storeName X.env x u) Q E s :=
 rN I L hi c r (λs' J _=>h s' J) U
theorem Inv.call'(I:Inv X pins σ H s)(ho:s'.os=s.os)(u:Un (frs X.stack) ch H H' s.heap s'.heap)(d:HOk X.prog X.w H' s'.heap)(L:zcd s'.gens)(J:∀b∈ch,(b∈X.ex∨X.s₀.heap.objs.size<=b)/\b≠X.env.locals/\(∀x c,X.env.cells.lookup x\c->c≠b)/\∀p∈X.pn++pins,p.1≠b):Inv X pins σ H' s':=by let(h',g',d',t',g):=s';have e:g=s.os:=ho;subst e;exact I.call u d L J
end
abbrev XK:=ax->aT ay->Hp->Prop
abbrev St:=av (aT V)
abbrev VK:=V->Hp->Prop
abbrev TE:=St->Hp->VK->Prop
variable{te tl:TE}
abbrev TT:=St->Hp->(Bool->Hp->Prop)->Prop
abbrev TA:=St->Hp->(av V->Hp->Prop)->Prop
variable{ta:TA}
structure Ends where
 nx:St->Hp->Prop
 rt:VK
 bk:St->Hp->Prop:=λ_ _=>False
 ct:St->Hp->Prop:=λ_ _=>False
abbrev TS:=Ends->St->Hp->Prop
def EP(X:Cx)(pins:av (ay×Obj))(σ:St)(Q:VK)(u:ax)(s':aM):Prop:=∃v c,Inv X pins σ c s'/\RelV v u/\Q v c
def TP(X:Cx)(pins:av (ay×Obj))(σ:St)(Q:Bool->Hp->Prop)(b:Bool)(s':aM):Prop:=∃c,Inv X pins σ c s'/\Q b c
def AP(X:Cx)(pins:av (ay×Obj))(σ:St)(Q:av V->Hp->Prop)(us:av ax)(s':aM):Prop:=∃d c,Inv X pins σ c s'/\Vals d us/\Q d c
def SP(X:Cx)(pins:av (ay×Obj))(D:Ends)(f:Flow)(s':aM):Prop :=
 match f with
 |.next=>∃c d,Inv X pins c d s'/\D.nx c d|.brk=>∃c d,Inv X pins c d s'/\D.bk c d|.cont=>∃c d,Inv X pins c d s'/\D.ct c d|.ret u=>∃v c d,Inv X pins c d s'/\RelV v u/\D.rt v d
def PE(X:Cx)(e:cy)(t:TE):Prop :=
 ∀(pins:av (ay×Obj))(s:aM)(c:St)(H:Hp)(Q:VK),Inv X pins c H s->t c H Q->wX X (eval e X.env) (EP X pins c Q) X.xe s
def PT(X:Cx)(e:cy)(t:TT):Prop :=
 ∀(pins:av (ay×Obj))(s:aM)(c:St)(H:Hp)(Q:Bool->Hp->Prop),Inv X pins c H s->t c H Q->wX X (isTrue e X.env (eval e X.env)) (TP X pins c Q) X.xe s
def PW(X:Cx)(e:cy)(t:TT):Prop :=
 ∀(whole:Sem ax)(pins:av (ay×Obj))(s:aM)(c:St)(H:Hp)(Q:Bool->Hp->Prop),Inv X pins c H s->t c H Q->wX X (isTrue e X.env whole) (TP X pins c Q) X.xe s
theorem PW.pt{X:Cx}{t:TT}(h:PW X e t):PT X e t:=h _
def PA(X:Cx)(es:av cy)(t:TA):Prop :=
 ∀(pos:Pos)(pins:av (ay×Obj))(s:aM)(c:St)(H:Hp)(Q:av V->Hp->Prop),Inv X pins c H s->t c H Q->wX X (spliced (zbH pos (zaj es X.env))) (AP X pins c Q) X.xe s
def PS(X:Cx)(st:Stmt)(t:TS):Prop :=
 ∀(pins:av (ay×Obj))(s:aM)(c:St)(H:Hp)(D:Ends),Inv X pins c H s->t D c H->wX X (exec st X.env) (SP X pins D) X.xe s
def PSs(X:Cx)(st:av Stmt)(t:TS):Prop :=
 ∀(pins:av (ay×Obj))(s:aM)(c:St)(H:Hp)(D:Ends),Inv X pins c H s->t D c H->wX X (execs st X.env) (SP X pins D) X.xe s
theorem thn{t:Sem α}{Q J:α->aM->Prop}{M:Model}(h:wpAny M A t Q E s)(L:∀a s,Q a s->J a s):wpAny M A t J E s:=zyg h L λ_ _ x=>x
theorem thnE{t:Sem α}{P R S:α->aM->β->γ->Prop}{J:α->aM->Prop}{M:Model}(h:wpAny M A t (λa s=>∃x H,P a s x H/\R a s x H/\S a s x H) E s)(k:∀a s x H,P a s x H->R a s x H->S a s x H->J a s):wpAny M A t J E s:=thn h λ_ _ ⟨_,_,p,q,r⟩=>k _ _ _ _ p q r
theorem thnF{t:Sem α}{P S:α->aM->β->γ->Prop}{J:α->aM->Prop}{M:Model}(h:wpAny M A t (λa s=>∃x H,P a s x H/\S a s x H) E s)(k:∀a s x H,P a s x H->S a s x H->J a s):wpAny M A t J E s:=thn h λ_ _ ⟨_,_,p,q⟩=>k _ _ _ _ p q
theorem thnG{t:Sem α}{P S:α->aM->γ->Prop}{J:α->aM->Prop}{M:Model}(h:wpAny M A t (λa s=>∃H,P a s H/\S a s H) E s)(k:∀a s H,P a s H->S a s H->J a s):wpAny M A t J E s:=thn h λ_ _ ⟨_,p,q⟩=>k _ _ _ p q
section
variable{X:Cx}
inductive tVar(i:Nat)(σ:St)(H:Hp)(Q:VK):Prop
 |mk v:σ[i]? = some (some v)->Q v H->tVar i σ H Q
def tC(v:V):TE:=λ_ H Q=>Q v H
theorem HX{x:Str}(q:X.N[i]?\x)(C:Vis X.env.scope x)(hd:NoDb x)(U:(x==("__classdict__" : Str))=false):PE X (.Name x pos) (tVar i):=by
 intro pins s G H Q I h;walk;let(v,e,h):=h;let(m,B,w):=I.loc;let(u,r,l):=w i x v q e C;x_go;have fin:EP X pins G Q u s:=(v,H,I,r,h);rcases l with ⟨L,z⟩|⟨L,c,d,J⟩
 .exact wpAny_Name (wpAny_loadName_local I.ok.kind L B z fin) hd
 .rcases L with L|L
  .exact wpAny_Name (wpAny_loadName_cell I.ok.kind L d J fin) hd
  .exact wpAny_Name (wpAny_loadName_free I.ok.kind L d J fin U) hd
theorem cE{i j pos}:PE X (.Constant (.int i) j pos) (tC (.int i)):=λ_ _ _ H _ I h=>wpAny_Constant_int (.int i,H,I.tok _,(_,rfl),h)
theorem KH{b j pos}:PE X (.Constant (.bool b) j pos) (tC (.bl b)):=λ_ _ _ H _ I h=>Constant_bool (.bl b,H,I,rfl,h)
theorem HY{j pos}:PE X (.Constant .none j pos) (tC .non):=λ_ _ _ H _ I h=>Constant_none (.non,H,I,rfl,h)
theorem HZ{x j pos}:PE X (.Constant (.str x) j pos) (tC (.str x)):=λ_ _ _ H _ I h=>Calls.Constant_str (.str x,H,I.tok _,(_,rfl),h)
def Gl(X:Cx)(x:Str):Prop:=X.env.kindOf x\.globalImplicit
theorem eA{pins:av (ay×Obj)}{d:St}{H:Hp}{x:Str}{u:ax}{Q:ax->aM->Prop}(I:Inv X pins d H s)(J:Gl X x)(c:X.mg x\u)(h:Q u s)(hd:NoDb x):wX X (eval (.Name x pos) X.env) Q E s :=
 zbO I.ok.kind J (Calls.loadGlobal_global (by rw[I.ok.glob];exact I.mod.glob.keeps I.bk) c h) hd
theorem lG{pins:av (ay×Obj)}{n:St}{H:Hp}{x:Str}{u:ax}{Q:ax->aM->Prop}(I:Inv X pins n H s)(U:Gl X x)(g:X.mg x=none)(m:zaG x\u)(h:Q u s)(l:x ≠ "__name__":=by decide)(hd:NoDb x:=by decide):wX X (eval (.Name x pos) X.env) Q E s:=by have(mb,c,d):=I.mod.blt;exact zbO I.ok.kind U (Calls.loadGlobal_builtin (by rw[I.ok.glob];exact I.mod.glob.keeps I.bk) g (by rw[I.ok.blt];exact c.keeps I.bk) ((d x l).trans m) h) hd
theorem zp{x:Str}{v:V}{u:ax}(J:Gl X x)(c:X.mg x\u)(r:RelV v u)(hd:NoDb x):PE X (.Name x pos) (tC v) :=
 λ_ _ _ H _ I h=>eA I J c (v,H,I,r,h) hd
theorem FL{x:Str}{v:V}{u:ax}(J:Gl X x)(c:X.mg x=none)(L:zaG x\u)(r:RelV v u)(d:x ≠ "__name__")(hd:NoDb x):PE X (.Name x pos) (tC v) :=
 λ_ _ _ H _ I h=>lG I J c L (v,H,I,r,h) d hd
variable{a:cy}{ta tb:TE}
def tB(t:TE):TT:=λg H Q=>t g H λx d=>∃c,x=.bl c/\Q c d
theorem Ia{t:TE}(h:PE X e t)(he:∀whole,isTrue e X.env whole=(do let v <-whole;zdk e.pos;zbM [v] (truthy v))):PT X e (tB t):=by intro pins s r H Q I g;refine isTrue_plain (thn (h pins s r H _ I g) λv s1 l=>?_) (he _);walk;let(x,c,U,n,m):=l;let(d,rfl,q):=m;x_go;cases n;exact zyM (c,U,q)
variable{tA tB':TT}{rest:av cy}
def tAnd(t u:TT):TT:=λg H Q=>t g H λc d=>if c=true then u g d Q else Q false d
def tOr(t u:TT):TT:=λg H Q=>t g H λc d=>if c=true then Q true d else u g d Q
def tNot(t:TT):TT:=λg H Q=>t g H λc d=>Q (!c) d
theorem FM(d:PT X a tA):PW X (.BoolOp .And [a] pos) tA:=by
 intro wh pins s g H Q I h;refine isTrue_and (thn (d pins s g H Q I h) λc s1 e=>?_);cases c with
 |true=>exact isTrue_and_nil e|false=>exact e
theorem EG(d:PT X a tA):PW X (.BoolOp .Or [a] pos) tA:=by
 intro wh pins s g H Q I h;refine isTrue_or (thn (d pins s g H Q I h) λc s1 e=>?_);cases c with
 |false=>exact isTrue_or_nil e|true=>exact e
theorem Ib(l:PT X a tA)(U:PW X (.BoolOp .And (b::rest) pos) tB'):PW X (.BoolOp .And (a::b::rest) pos) (tAnd tA tB'):=by
 intro n pins s g H Q I h;refine isTrue_and (thnG (l pins s g H _ I h) λc m d J L=>?_);cases c with
 |true=>exact U n pins m g d Q J L|false=>exact(d,J,L)
theorem Ic(l:PT X a tA)(U:PW X (.BoolOp .Or (b::rest) pos) tB'):PW X (.BoolOp .Or (a::b::rest) pos) (tOr tA tB'):=by
 intro n pins s g H Q I h;refine isTrue_or (thnG (l pins s g H _ I h) λc m d J L=>?_);cases c with
 |true=>exact(d,J,L)|false=>exact U n pins m g d Q J L
theorem Id(g:PT X a tA):PT X (.UnaryOp .Not a pos) (tNot tA):=by intro pins s l H Q I h;exact isTrue_not (g pins s l H (λc d=>Q (!c) d) I h)
def KI(ta tb:TE):TE:=λg H Q=>ta g H λx d=>∃c,x=.bl c/\if c=true then tb g d Q else Q (.bl false) d
def tOrV(ta tb:TE):TE:=λg H Q=>ta g H λx d=>∃c,x=.bl c/\if c=true then Q (.bl true) d else tb g d Q
def KJ(ta:TE):TE:=λg H Q=>ta g H λx d=>∃c,x=.bl c/\Q (.bl (!c)) d
theorem Ie{op}{t:TE}(h:PE X a t):PE X (.BoolOp op [a] pos) t:=λpins s d H Q I c=>BoolOp_one (h pins s d H Q I c)
theorem Ig(m:PE X a ta)(n:PE X (.BoolOp .And (b::rest) pos) tb):PE X (.BoolOp .And (a::b::rest) pos) (KI ta tb):=by
 intro pins s g H Q I h;refine BoolOp_and (thn (m pins s g H _ I h) λv u q=>?_);walk;let(x,d,L,r,J):=q;let(c,rfl,J):=J;x_go;cases r;refine zyM ?_;cases c with
 |true=>exact n pins u g d Q L J|false=>exact(.bl false,d,L,rfl,J)
theorem KK(m:PE X a ta)(n:PE X (.BoolOp .Or (b::rest) pos) tb):PE X (.BoolOp .Or (a::b::rest) pos) (tOrV ta tb):=by
 intro pins s g H Q I h;refine BoolOp_or (thn (m pins s g H _ I h) λv u q=>?_);walk;let(x,d,L,r,J):=q;let(c,rfl,J):=J;x_go;cases r;refine zyM ?_;cases c with
 |false=>exact n pins u g d Q L J|true=>exact(.bl true,d,L,rfl,J)
theorem Ih(l:PE X a ta):PE X (.UnaryOp .Not a pos) (KJ ta):=by intro pins s q H Q I h;refine UnaryOp_ (thn (l pins s q H _ I h) λv s1 m=>?_);walk;let(x,d,g,n,J):=m;let(c,rfl,J):=J;x_go;cases n;exact not_of (zyM (.bl (!c),d,g,rfl,J))
end
def SqL(K:zvu)(H:Hp)(a:ay)(xs:av V):Prop :=
 Rd H a (.lst xs) ∨
  ∃(o:Obj)(c:Array ax)(n:Nat),K.lookup a\o/\o.cls=.type "list" /\ o.dict=none/\o.data=.seq c n/\c.size<=zaa/\Vals xs c.toList
def SqT(K:zvu)(H:Hp)(a:ay)(xs:av V):Prop :=
 Rd H a (.tup xs) ∨
  ∃(o:Obj)(c:Array ax)(n:Nat),K.lookup a\o/\o.cls=.type "tuple" /\ o.data=.seq c n/\c.size<=zaa/\Vals xs c.toList
noncomputable def absV:ax->aT V
 |.none=>some .non|.bool b=>some (.bl b)|.int i _=>some (.int i)|.str x _=>some (.str x)|.bytes b _=>some (.byt b)|.float b _=>some (.flt b)|.ref a=>some (.ref a)|.type n=>some (.ty n)|_=>none
theorem RelV.abs{x:V}{u:ax}(r:RelV x u):absV u\x:=by
 cases x with
 |non=>cases r;rfl
 |bl _=>cases r;rfl
 |int _=>let(t,rfl):=r;rfl
 |str _=>let(t,rfl):=r;rfl
 |byt _=>let(t,rfl):=r;rfl
 |flt _=>let(t,rfl):=r;rfl
 |ref _=>cases r;rfl
 |ty _=>cases r;rfl
theorem RelV.inj{x y:V}{u:ax}(r:RelV x u)(q:RelV y u):x=y:=zzP (r.abs.symm.trans q.abs)
theorem Vals.inj:∀{xs ys:av V}{us:av ax},Vals xs us->Vals ys us->xs=ys:=by
 intro xs ys us h k
 induction h generalizing ys with
 |nil=>cases k;rfl
 |cons r t J=>cases k with|cons c d=>rw[r.inj c,J d]
section
variable{X:Cx}{σ:St}{H:Hp}{xs ys:av V}
theorem SqL.of{K:zvu}(h:H a\(.lst xs)):SqL K H a xs:=.inl (.inl h)
theorem SqT.of{K:zvu}(h:H a\(.tup xs)):SqT K H a xs:=.inl (.inl h)
theorem Inv.list(I:Inv X pins σ H s)(h:SqL X.K H a xs):∃its:av ax,Vals xs its/\PlainL s.heap a its.toArray/\xs.length<=zaa:=by
 rcases h with h|⟨o,its,n,L,J,hd,c,hz,r⟩
 .let(z,its,n,r,e):=h.ok I.hok;exact(its,r,(_,n,e,rfl,rfl,rfl),z)
 .refine(its.toList,r,(o,n,I.kIn a o L,J,hd,c),?_);have e:=r.length;simp only[zzZ]at e;lia
theorem Inv.tuple(I:Inv X pins σ H s)(h:SqT X.K H a xs):∃its:av ax,Vals xs its/\IsTup s.heap a its.toArray/\xs.length<=zaa:=by
 rcases h with h|⟨o,its,n,L,J,c,hz,r⟩
 .let(z,its,r,p):=h.ok I.hok;exact(its,r,p,z.1)
 .refine(its.toList,r,(o,I.kIn a o L,J,n,c),?_);have e:=r.length;simp only[zzZ]at e;lia
theorem Inv.list_inj(I:Inv X pins σ H s)(h:SqL X.K H a xs)(h':SqL X.K H a ys):xs=ys:=by
 walk;let(c,r,(o,n,e,_,_,d),_):=I.list h;let(its',m,(o',n',J,_,_,g),_):=I.list h';x_go;rw[e]at J;cases J;rw[d]at g;injection g with l _
 have:c=its':=by simpa using congrArg Array.toList l
 subst this;exact r.inj m
theorem Inv.tuple_inj(I:Inv X pins σ H s)(h:SqT X.K H a xs)(h':SqT X.K H a ys):xs=ys:=by
 walk;let(c,r,(o,e,_,n,d),_):=I.tuple h;let(its',m,(o',J,_,n',g),_):=I.tuple h';x_go;rw[e]at J;cases J;rw[d]at g;injection g with l _
 have:c=its':=by simpa using congrArg Array.toList l
 subst this;exact r.inj m
end
noncomputable abbrev Cx.wish(X:Cx)(E:ax->aM->Prop):Cx:={X with xe:=E}
noncomputable abbrev Cx.nox(X:Cx):Cx:=X.wish λ_ _=>False
theorem Cx.Ok.wish{X:Cx}(ok:X.Ok)(E:ax->aM->Prop):(X.wish E).Ok :=
 (ok.mod,ok.kind,ok.glob,ok.blt,ok.above,ok.inj,ok.has,ok.cab,ok.hd,ok.frames,ok.stk,ok.exf,ok.bs,ok.bsz,ok.noex,ok.exfs,ok.funs,ok.frf)
theorem Cx.Ok.unwish{X:Cx}(ok:(X.wish E).Ok):X.Ok :=
 (ok.mod,ok.kind,ok.glob,ok.blt,ok.above,ok.inj,ok.has,ok.cab,ok.hd,ok.frames,ok.stk,ok.exf,ok.bs,ok.bsz,ok.noex,ok.exfs,ok.funs,ok.frf)
section
variable{X:Cx}{σ:St}{H:Hp}
theorem Inv.wish(I:Inv X pins σ H s)(E:ax->aM->Prop):Inv (X.wish E) pins σ H s:=(I.ok.wish E,I.os,I.bare,I.base,I.loc,I.cell,I.free,I.freeC,I.pin,I.hok,I.len)
theorem Inv.unwish(I:Inv (X.wish E) pins σ H s):Inv X pins σ H s:=(I.ok.unwish,I.os,I.bare,I.base,I.loc,I.cell,I.free,I.freeC,I.pin,I.hok,I.len)
theorem SP.unwish{D:Ends}{f:Flow}{s':aM}(h:SP (X.wish E) pins D f s'):SP X pins D f s':=by
 cases f with
 |next=>let(c,d,I,q):=h;exact(c,d,I.unwish,q)
 |brk=>let(c,d,I,q):=h;exact(c,d,I.unwish,q)
 |cont=>let(c,d,I,q):=h;exact(c,d,I.unwish,q)
 |ret u=>let(v,c,d,I,r,q):=h;exact(v,c,d,I.unwish,r,q)
theorem PSs.nox{st:av Stmt}{t:TS}(h:PSs X.nox st t):PSs X st t:=λpins s σ H D I c =>
 zyg (h pins s σ H D (I.wish _) c) (λ_ _ q=>q.unwish) λ_ _ z=>False.elim z
end
section
variable{X:Cx}{st:Stmt}{rest:av Stmt}{t u:TS}{te:TE}
def KL:TS:=λD c H=>D.nx c H
def tSeq(t u:TS):TS:=λD c H=>t {D with nx:=u D} c H
theorem lH:PSs X [] KL:=λ_ _ c H _ I h=>zcN (c,H,I,h)
theorem cg(g:PS X st t)(l:PSs X rest u):PSs X (st::rest) (tSeq t u):=by
 intro pins s n H D I h;refine wpAny_execs_cons (thn (g pins s n H {D with nx:=u D} I h) λf m q=>?_);cases f with
 |next =>
  have(c,d,U,q):=q;exact l pins m c d D U q
 |ret v=>exact q|brk=>exact q|cont=>exact q
theorem fU(c:PS X st t):PSs X [st] t:=by
 intro pins s d H D I h;refine wpAny_execs_cons (thn (c pins s d H D I h) λf s1 q=>?_);cases f with
 |next=>exact zcN q
 |ret v=>exact q|brk=>exact q|cont=>exact q
theorem Inv.quiet{pins:av (ay×Obj)}{c:St}{H:Hp}(I:Inv X pins c H s):interactive X.env=false:=by simp[interactive,I.ok.kind]
def KM(te:TE):TS:=λD c H=>te c H λ_ d=>D.nx c d
theorem pS(he:PE X e te)(hs:zap e none pos.line X.env=pure false):PS X (.Expr e pos) (KM te):=by intro pins s c H D I h;exact wpAny_Expr_any (thnE (he pins s c H _ I h) λv s1 x d J r1 L=>(c,d,J,L)) I.quiet hs
def tRet(te:TE):TS:=λD c H=>te c H D.rt
theorem rO(he:PE X e te):PS X (.Return (some e) pos) (tRet te):=by intro pins s c H D I h;exact wpAny_Return_some (thnE (he pins s c H _ I h) λv s1 x d J U L=>(x,c,d,J,U,L))
def tIfS(c:TT)(t u:TS):TS:=λD d H=>c d H λb g=>if b=true then t D d g else u D d g
theorem Cl{c:cy}{a b:av Stmt}{n:TT}(r:PT X c n)(q:PSs X a t)(U:PSs X b u):PS X (.If c a b pos) (tIfS n t u):=by
 intro pins s g H D I h;refine wpAny_If (thnG (r pins s g H _ I h) λd m l J L=>?_);cases d with
 |true=>exact q pins m g l D J L|false=>exact U pins m g l D J L
def EH:TS:=λ_ _ _=>False
theorem Cm:PS X st EH:=λ_ _ _ _ _ _ h=>h.elim
theorem zq:PSs X sts EH:=λ_ _ _ _ _ _ h=>h.elim
end
abbrev TG:=V->St->Hp->(St->Hp->Prop)->Prop
variable{g:TG}
abbrev TGs:=av V->St->Hp->(St->Hp->Prop)->Prop
def PG(X:Cx)(target:cy)(t:TG):Prop :=
 ∀(pins:av (ay×Obj))(s:aM)(l:St)(H:Hp)(v:V)(u:ax)(Q:St->Hp->Prop),Inv X pins l H s->RelV v u->t v l H Q ->
  wX X (zds target X.env u) (λ_ s'=>∃c d,Inv X pins c d s'/\Q c d) X.xe s
def PGs(X:Cx)(J:av cy)(t:TGs):Prop :=
 ∀(pins:av (ay×Obj))(s:aM)(m:St)(H:Hp)(l:av V)(us:av ax)(Q:St->Hp->Prop),Inv X pins m H s->Vals l us->t l m H Q ->
  wX X (assignInOrder ((zax J X.env).map (·.2)) us) (λ_ s'=>∃c d,Inv X pins c d s'/\Q c d) X.xe s
abbrev TSet:=V->V->V->Hp->(Hp->Prop)->Prop
def PSet(X:Cx)(t:TSet):Prop :=
 ∀(pins:av (ay×Obj))(s:aM)(d:St)(H:Hp)(o i v:V)(ov iv u:ax)(Q:Hp->Prop),Inv X pins d H s->RelV o ov->RelV i iv->RelV v u->t o i v H Q ->
  wX X (setItem ov iv u) (λ_ s'=>∃c,Inv X pins d c s'/\Q c) X.xe s
section
variable{X:Cx}
def pU(i:Nat):TG:=λv c H Q=>Q (c.set i (some v)) H
theorem pV{x:Str}(L:X.N.Nodup)(hi:X.N[i]?\x)(c:Loc X.env.scope x)(U:X.fn x=true∨X.env.scope.names.lookup x\.local:=by room):PG X (.Name x pos) (pU i):=by intro pins s σ H v u Q I r h;exact wpAny_assign_Name (iH I L hi c r (λs' J=>(_,H,J,h)) U)
def gNil:TGs:=λc d H Q=>c=[]/\Q d H
inductive gCons(t:TG)(u:TGs)(vs:List V)(σ:St)(H:Hp)(Q:St->Hp->Prop):Prop
 |mk v r:vs=v::r->(t v σ H λσ' H'=>u r σ' H' Q)->gCons t u vs σ H Q
theorem zu:PGs X [] gNil:=by intro pins s c H vs us Q I r h;walk;let(e,h):=h;subst e;x_go;exact assignInOrder_nil (c,H,I,h)
theorem lr{e:cy}{c:av cy}{t:TG}{u:TGs}(n:PG X e t)(q:PGs X c u)
  (hs:(zax (e::c) X.env).map (·.2)=zds e X.env::(zax c X.env).map (·.2):=by rfl):PGs X (e::c) (gCons t u):=by
 intro pins s B H vs us Q I r h;walk;let(v,vr,m,h):=h;subst m;x_go;cases r with
 |cons r x =>
  rw[hs];refine zvn (thnF (n pins s B H _ _ _ I r h) λ_ z J d l w=>?_);exact q pins z J d _ _ Q l x w
inductive gTup(K:zvu)(n:Nat)(t:TGs)(v:V)(σ:St)(H:Hp)(Q:St->Hp->Prop):Prop
 |mk a xs:v=.ref a->SqT K H a xs->xs.length=n->t xs σ H Q->gTup K n t v σ H Q
theorem Ii{c:av cy}{t:TGs}{n:Nat}(x:X.calm=true)(h:PGs X c t)(B:(zax c X.env).length=n)(U:(zax c X.env).findIdx? (·.1)=none):PG X (.Tuple c k pos) (gTup X.K n t):=by intro pins s m H v u Q I r d;walk;let(a,T,w,C,z,d):=d;subst w;x_go;cases r;have(its,l,G,hz):=I.tuple C;refine assign_Tuple_tuple (I.ok.hd x) G (by simp[B,<-z,l.length]) U λh' M=>?_;have q:Inv X pins m H {s with heap:=h' }:=I.kept (t':=s.toks) λb o e=>M b o (zzH (zzy e)) e;exact h pins _ m H T _ Q q l d
def gSub(to ti:TE)(t:TSet):TG:=λv c H Q=>to c H λo d=>ti c d λi l=>t o i v l λm=>Q c m
theorem zv{o i:cy}{t:TSet}(ho:PE X o te)(hi:PE X i tl)(hs:PSet X t)(ha:∀v,zds (.Subscript o i pos) X.env v=(do
   let c <-zbM [v] (eval o X.env)
   let J <-zbM [v,c] (eval i X.env)
   zdk pos
   zbM [v,c,J] (setItem c J v)
   release [v,c,J] []):=by intro _;rfl):PG X (.Subscript o i pos) (gSub te tl t):=by
 intro pins s d H v u Q I r h;refine zzb (zzQ (thn (ho pins s d H _ I h) λc a l=>?_));have(x,m,w,T,C):=l;refine zzb (zzQ (thn (hi pins a d m _ w C) λJ b l=>?_));have(y,n,z,Y,G):=l;refine zzb (zxl (zzb (zzQ (thnG (hs pins b d n x y v c J u _ z T Y r G) λ_ s3 q B M=>?_))));exact wpAny_release (d,q,B,M)
def tAsg(te:TE)(g:TG):TS:=λD c H=>te c H λx d=>g x c d D.nx
theorem rP(he:PE X e te)(m:PG X tg g)(hs:zbF [tg] e pos.line X.env=pure false:=by rfl)(n:zbE [tg] e X.env=pure none:=by rfl)(l:(zax [tg] X.env).map (·.2)=[zds tg X.env]:=by rfl):PS X (.Assign [tg] e pos) (tAsg te g):=by intro pins s c H D I h;refine wpAny_Assign_stores (thn (he pins s c H _ I h) λv z r=>?_) hs n;have(x,d,U,w,u):=r;rw[l];exact thn (m pins z c d x v _ U w u) λ_ s2 q=>q
theorem fV{x:Str}(l:X.N.Nodup)(hi:X.N[i]?\x)(n:Loc X.env.scope x)(he:PE X e te)(hs:zap e (some (.Name x p)) pos.line X.env=pure false:=by rfl)(m:X.fn x=true∨X.env.scope.names.lookup x\.local:=by room) :
  PS X (.Assign [.Name x p] e pos) (tAsg te (pU i)):=by
 intro pins s w H D I h;refine wpAny_Assign_Name (thn (he pins s w H _ I h) λv s1 q=>?_) hs;have(y,c,U,u,r):=q;exact iH U l hi n u (λs2 d=>(_,c,d,r)) m
def tPar(i j:Nat)(ta:TA):TS:=λD c H=>ta c H λl d=>∃v w,l=[v,w]/\D.nx ((c.set i (some v)).set j (some w)) d
theorem Ij{j:Nat}{x:Str}{a b:cy}{py pt:Pos}{kt k2 pt2}(E:X.calm=true)(n:X.N.Nodup)(hi:X.N[i]?\x)(hj:X.N[j]?\y)(U:i≠j)(r:X.env.scope.names.lookup x\.local)(u:X.env.scope.names.lookup y\.local)(A:PA X [a,b] ta)(hw:zbE [.Tuple [.Name x px,.Name y py] kt pt] (.Tuple [a,b] k2 pt2) X.env=pure (some [x,y]))(hs:zbF [.Tuple [.Name x px,.Name y py] kt pt] (.Tuple [a,b] k2 pt2) pos.line X.env=pure false) :
  PS X (.Assign [.Tuple [.Name x px,.Name y py] kt pt] (.Tuple [a,b] k2 pt2) pos) (tPar i j ta):=by
 intro pins s B H D I h;refine zzb (zxl ?_);refine zzb (zzr ?_);refine zzb (Tuple_ (thn (A _ pins s B H _ I h) λus c q0=>?_));walk;let(vs,l,G,r1,d):=q0;let(v,w,k,d):=d;subst k;obtain⟨J,L,rfl,rv,g⟩:∃J L,us=[J,L]/\RelV v J/\RelV w L:=by
  cases r1 with
  |cons p q =>
   cases q with
   |cons p' q' =>
    cases q';exact(_,_,rfl,p,p')
 x_go;refine zxx ?_ (by show 2<=zaa;decide);have M:Inv X pins B l {c with heap:=c.heap.push {cls:=.type "tuple",data:=.seq [J,L].toArray} }:=G.kept (t':=c.toks) λb o e=>zzf _ e;rw[hw];show wX X (do rule "assign.swapped-stores";let items <-unpackItems (.ref c⁻¹) 2 none;assignInOrder [λv=>bindName X.env y v,λv=>bindName X.env x v] items.reverse;pure Flow.next) _ _ _;refine zzb (zwB (zzb (unpackItems_tuple (items:=#[J,L]) (I.ok.hd E) (ze6 c.heap _) λh' Y=>?_)));have Q:=M.kept (h':=h') (t':=c.toks) λb o e=>Y b o (zzH (zzy e)) e;refine zzb (zvn (wpAny_bindName (iH Q n hj (.inl u) g (λs2 T=>?_) (.inr u))));refine zvn (wpAny_bindName (iH T n hi (.inl r) rv (λs3 m=>assignInOrder_nil (zzr ?_)) (.inr r)));rw[List.set_comm _ _ (Ne.symm U)]at m;exact(_,l,m,d)
end
structure It where
 go:Nat->Hp->Prop
 yld:Nat->Hp->V->Hp->Prop
 stop:Nat->Hp->Prop
def FpOk(X:Cx)(pins:av (ay×Obj))(H:Hp)(b:ay):Prop :=
 H b=none/\b≠X.env.locals/\b∉X.fs/\(b∈X.ex∨X.s₀.heap.objs.size<=b)/\(∀x c,X.env.cells.lookup x\c->c≠b)/\∀p∈X.pn++pins,p.1≠b
theorem Inv.fpOk{X:Cx}{pins:av (ay×Obj)}{m:St}{H d:Hp}{b:ay}(I:Inv X pins m H s)(J:s⁻¹<=b)(l:d b=none):FpOk X pins d b:=by
 refine(l,zxr (zzA I.lt J),I.nofs J,.inr (zzk I.sz J),λx c e z=>?_,λp L z=>?_)
 .let(v,q):=I.cell x c e;exact absurd (zzA q.lt (by rw[z];exact J)) (zyu _)
 .exact absurd (zzA (zzy (I.pin p L).1) (by rw[z];exact J)) (zyu _)
structure Turn(P:Program)(w:World)(K:zvu)(tg:Expr)(J:It)(fp:List Addr)(it:Addr)(tn:Nat->Heap->Prop):Prop where
 mem:it∈fp
 obj:∀i h,tn i h->∀b∈fp,∃o,h.get? b\o/\∀v,o.data ≠ .cell v
 keep:∀i h h',tn i h->(∀b∈fp,∀o,h.get? b\o->h'.get? b\o)->tn i h'
 item:∀(X:Cx),X.prog=P->X.w=w->X.K=K->X.calm=true->∀(i:Nat)(pins:List (Addr×Obj))(s:zbi)(σ:St)(H:Hp)(E:Value->zbi->Prop),Inv X pins σ H s->(∀b∈fp,FpOk X pins H b)->tn i s.heap->J.go i H ->
  wpAny (model P w) X.A (zeW (.ref it)) (λr s1=>∃u,r\u /\
   wpAny (model P w) X.A (zbL tg (.ref it) u) (λ_ s2=>∃x H',Inv X pins σ H' s2/\RelV x u/\J.yld i H x H'/\tn (i+1) s2.heap/\∀b∈fp,H' b=none) E s1) E s
 done:∀(X:Cx),X.prog=P->X.w=w->X.K=K->X.calm=true->∀(i:Nat)(pins:List (Addr×Obj))(s:zbi)(σ:St)(H:Hp)(E:Value->zbi->Prop),Inv X pins σ H s->(∀b∈fp,FpOk X pins H b)->tn i s.heap->J.stop i H ->
  wpAny (model P w) X.A (zeW (.ref it)) (λr s1=>r=none/\Inv X pins σ H s1) E s
 self:∀(A:zas)(i:Nat)(s:zbi)(Q:Value->zbi->Prop)(E:Value->zbi->Prop),tn i s.heap->Q (.ref it) s->wpAny (model P w) A (zdx (.ref it)) Q E s
abbrev TI:=St->Hp->(It->Hp->Prop)->Prop
inductive PIE(X:Cx)(pins:List (Addr×Obj))(σ:St)(tg:Expr)(R:It->Hp->Prop)(itv:Value)(s2:zbi):Prop
 |mk (it:Addr) (fp:List Addr) (tn:Nat->Heap->Prop) (J:It) (H':Hp):itv=.ref it->Inv X pins σ H' s2->Turn X.prog X.w X.K tg J fp it tn->tn 0 s2.heap->(∀b∈fp,FpOk X pins H' b)->R J H'->PIE X pins σ tg R itv s2
def PI(X:Cx)(tg iter:cy)(wi:TI):Prop :=
 ∀(pins:av (ay×Obj))(s:aM)(c:St)(H:Hp)(R:It->Hp->Prop),Inv X pins c H s->wi c H R ->
  wX X (eval iter X.env) (λv d=>wX X (zdx v) (PIE X pins c tg R) X.xe d) X.xe s
theorem Cn{M:Model}{u:ax}{n:String}{vs:Array ax}{Q:Unit->aM->Prop}(ho:s.heap.get? it\o)(L:o.cls=.type n)(hd:o.data=.fields vs)(c:["enumerate","zip","dict_itemiterator","dict_reverseitemiterator","odict_iterator","itertools.zip_longest","itertools.pairwise"].contains n=false)(J:Q () s):wpAny M A (zbL tg (.ref it) u) Q E s:=by
 cases tg<;>first
  |exact zzr J
  | (cases u<;>first
    |exact zzr J
    | (refine zzb (wpAny_load ho ?_)
       rw[L,hd];show wpAny M A (if (["enumerate","zip","dict_itemiterator","dict_reverseitemiterator","odict_iterator","itertools.zip_longest","itertools.pairwise"].contains n && vs[0]?==some (zcS _))=true then _ else _) Q E s;rw[zzn (by intro h;rw[c,zxC]at h;cases h)];exact zzr J))
noncomputable def Itl(K:zvu)(a:ay):It :=
 (λi H=>∃c x,SqL K H a c/\c[i]?\x,λi H x d=>d=H/\∀c,SqL K H a c->c[i]?\x,λi H=>∃c,SqL K H a c/\c.length<=i)
noncomputable def Itt(K:zvu)(a:ay):It :=
 (λi H=>∃c x,SqT K H a c/\c[i]?\x,λi H x d=>d=H/\∀c,SqT K H a c->c[i]?\x,λi H=>∃c,SqT K H a c/\c.length<=i)
noncomputable def Itr(lo:Int)(n:Nat):It:=(λi _=>i<n,λi H x c=>c=H/\x=.int (lo+i),λi _=>n<=i)
theorem rQ{P:cH}{w:World}{K:zvu}(a it:ay):Turn P w K tg (Itl K a) [it] it (λi h=>h.IsListIter it a i) where
 mem:='s'
 obj:=λi h st b U=>by
  have e:b=it:=by simpa using U
  walk;subst e;let(o,e,c,d):=st;x_go;exact(o,e,λv z=>by rw[d]at z;cases z)
 keep:=λi h h' st k=>st.at λo e=>k it 's' o e
 item:=by intro X G Q C y i pins s A H E I l st M;walk;subst G Q C;let(xs,x,m,T):=M;let(Y,g,p,hz):=I.list m;let(u,hu,ru):=g.get T;let(n,f1,f2,q,r,B):=l it 's';x_go;refine wpAny_pyNext_list_item st p.isList (x:=u) (by simpa using hu) λh' j sb=>?_;have N:Inv X pins A H {s with heap:=h' }:=I.turned (t':=s.toks) (λb o U e=>(sb.2 b U).trans e) n f1 q r B;have(o,e,c,d):=id j;exact(u,rfl,Cn (s:={s with heap:=h' }) e c d 'd' (x,H,N,ru,(rfl,λys hy=>by rw[I.list_inj hy m];exact T),j,λb U=>(l b U).1))
 done:=by intro X G Q C y i pins s A H E I l st M;walk;subst G Q C;let(xs,m,T):=M;let(Y,g,p,hz):=I.list m;let(n,f1,f2,q,r,B):=l it 's';x_go;have hl:=g.length;exact wpAny_pyNext_list_end (I.ok.hd y) st p.isList (by simp;lia) λh' eb=>(rfl,I.turned (t':=s.toks) (λb o U e=>eb b o U e) n f1 q r B)
 self:=λ_ _ _ _ _ st h=>wpAny_pyIter_listiter st h
theorem oK{P:cH}{w:World}{K:zvu}(a it:ay):Turn P w K tg (Itt K a) [it] it (λi h=>h.IsTupleIter it a i) where
 mem:='s'
 obj:=λi h st b U=>by
  have e:b=it:=by simpa using U
  walk;subst e;let(o,e,c,d):=st;x_go;exact(o,e,λv z=>by rw[d]at z;cases z)
 keep:=λi h h' st k=>st.at λo e=>k it 's' o e
 item:=by intro X M T G y i pins s A H E I m st Q;walk;subst M T G;let(xs,x,n,Y):=Q;let(l,g,p,hz):=I.tuple n;let(u,hu,ru):=g.get Y;let(q,f1,f2,r,B,C):=m it 's';x_go;refine wpAny_pyNext_tuple_item st (show s.heap.IsTuple a l.toArray from p) (x:=u) (by simpa using hu) λh' j sb=>?_;have N:Inv X pins A H {s with heap:=h' }:=I.turned (t':=s.toks) (λb o U e=>(sb.2 b U).trans e) q f1 r B C;have(o,e,c,d):=id j;exact(u,rfl,Cn (s:={s with heap:=h' }) e c d 'd' (x,H,N,ru,(rfl,λys hy=>by rw[I.tuple_inj hy n];exact Y),j,λb U=>(m b U).1))
 done:=by intro X M T G y i pins s A H E I m st Q;walk;subst M T G;let(xs,n,Y):=Q;let(l,g,p,hz):=I.tuple n;let(q,f1,f2,r,B,C):=m it 's';x_go;have hl:=g.length;exact wpAny_pyNext_tuple_end (I.ok.hd y) st (show s.heap.IsTuple a l.toArray from p) (by simp;lia) λh' eb=>(rfl,I.turned (t':=s.toks) (λb o U e=>eb b o U e) q f1 r B C)
 self:=λ_ _ _ _ _ st h=>wpAny_pyIter_tupleiter st h
theorem xN{P:cH}{w:World}{K:zvu}(it:ay)(lo:Int)(n:Nat):Turn P w K tg (Itr lo n) [it] it (λi h=>IsRangeIter h it (lo+(i:Nat)*1) ((n:Int)-(i:Nat)) 1) where
 mem:='s'
 obj:=λi h st b J=>by
  have e:b=it:=by simpa using J
  subst e;exact(_,st,λv z=>by have a:zeM _=zdC v:=z;cases a)
 keep:=λi h h' st k=>k it 's' _ st
 item:=by intro X x B u q i pins s G H E I U st r;subst x B u;let(c,f1,f2,d,l,m):=U it 's';have W:=Walks.range (prog:=X.prog) (w:=X.w) (I.ok.hd q) it lo 1 n;refine W.item i s _ _ r st λv h' C T L Y=>?_;let(t,rfl):=T;have M:Inv X pins G H {s with heap:=h',toks:=C}:=I.turned (λb o J e=>Y b o (by simpa using J) e) c f1 d l m;refine(_,rfl,Cn (s:={s with heap:=h',toks:=C}) (n:="range_iterator") L rfl rfl 'd' (.int (lo+i),H,M,(t,?_),(rfl,rfl),L,λb J=>(U b J).1));rw[Int.mul_one]
 done:=by intro X x B u q i pins s G H E I U st r;let(c,f1,f2,d,l,m):=U it 's';exact wpAny_pyNext_range_end (I.ok.hd q) st (by have:n<=i:=r;lia) λh' Q=>(rfl,I.turned (t':=s.toks) (λb o J e=>Q b o J e) c f1 d l m)
 self:=λ_ _ _ _ _ st h=>wpAny_pyIter_rangeiter st h
section
variable{X:Cx}{tg:cy}
def KN(K:zvu)(tl:TE):TI:=λl H R=>tl l H λx c=>∃a,x=.ref a/\(∃d,SqL K c a d)/\R (Itl K a) c
def iTup(K:zvu)(tl:TE):TI:=λl H R=>tl l H λx c=>∃a,x=.ref a/\(∃d,SqT K c a d)/\R (Itt K a) c
theorem FN{l:cy}(n:PE X l tl):PI X tg l (KN X.K tl):=by
 intro pins s B H R I h;refine thn (n pins s B H _ I h) λv c u=>?_;walk;let(x,d,L,z,w):=u;let(a,e,(xs,r),q):=w;subst e;x_go;cases z;have(its,rv,p,hz):=L.list r;refine zxy p.isList ?_;refine(c⁻¹,[c⁻¹],_,_,d,rfl,L.kept (t':=c.toks) λb o e=>zzf _ e,rQ a _,(_,zzx _ rfl,rfl,rfl),λb m=>?_,q);have e:b=c⁻¹:=by simpa using m
 subst e;exact L.fpOk (zzs _) (L.hok.fresh (zzs _))
theorem Ik{l:cy}(r:PE X l tl):PI X tg l (iTup X.K tl):=by
 intro pins s C H R I h;refine thn (r pins s C H _ I h) λv c w=>?_;walk;let(x,m,L,B,z):=w;let(a,e,(xs,u),q):=z;subst e;x_go;cases B;have(d,rv,p,hz):=L.tuple u;refine zxJ (show c.heap.IsTuple a d.toArray from p) ?_;refine(c⁻¹,[c⁻¹],_,_,m,rfl,L.kept (t':=c.toks) λb o e=>zzf _ e,oK a _,(_,zzx _ rfl,rfl,rfl),λb n=>?_,q);have e:b=c⁻¹:=by simpa using n
 subst e;exact L.fpOk (zzs _) (L.hok.fresh (zzs _))
theorem wf{pins:av (ay×Obj)}{c:St}{H:Hp}{s:aM}{R:It->Hp->Prop}{lo:Int}{t u v:Tok}(I:Inv X pins c H s)(m : -(2^62)<=lo)(n:lo<2^62)(r : -(2^62)<=hi)(L:hi<2^62)(q:R (Itr lo (hi-lo).toNat) H):wX X (zdx (.ref s⁻¹)) (PIE X pins c tg R) E {s with heap:=s.heap.push {cls:=.type "range",data:=.fields #[.int lo t,.int hi u,.int 1 v]},toks:=i}:=by
 refine wpAny_pyIter_range (IsRange.new ..) (small_one m n r L) ?_;have J:Inv X pins c H {s with heap:=s.heap.push {cls:=.type "range",data:=.fields #[.int lo t,.int hi u,.int 1 v]},toks:=i}:=I.kept λb o e=>zzf _ e;refine((s.heap.push {cls:=.type "range",data:=.fields #[.int lo t,.int hi u,.int 1 v]}).objs.size,[(s.heap.push {cls:=.type "range",data:=.fields #[.int lo t,.int hi u,.int 1 v]}).objs.size],_,_,H,rfl,
  J.kept (t':=i) λb o e=>zzf _ e,xN _ lo (hi-lo).toNat,?_,λb U=>?_,q)
 .have d:lo+((0:Nat):Int)*1=lo:='s'
  have l:(((hi-lo).toNat:Nat):Int)-((0:Nat):Int)=Builtin.Range.rangeSize lo hi 1:=by rw[rangeSize_one];split<;>lia
  rw[d,l];exact zzx _ rfl
 .have e:b=(s.heap.push {cls:=.type "range",data:=.fields #[.int lo t,.int hi u,.int 1 v]}).objs.size:=by simpa using U
  subst e;exact J.fpOk (zzs _) (J.hok.fresh (zzs _))
def KQ(ta:TA):TI:=λl H R=>ta l H λd c=>∃j:Int,d=[.int j]/\-(2^62)<=j/\j<2^62/\R (Itr 0 j.toNat) c
def KR(ta:TA):TI:=λl H R=>ta l H λd c=>∃i j:Int,d=[.int i,.int j]/\(-(2^62)<=i/\i<2^62/\-(2^62)<=j/\j<2^62)/\R (Itr i (j-i).toNat) c
theorem zw{a:cy}(l:Gl X "range")(m:X.mg "range" = none)(d:PA X [a] ta)(hs:zaj [a] X.env=[(false,eval a X.env)]):PI X tg (.Call (.Name "range" p) [a] [] pos) (KQ ta):=by
 intro pins s x H R I h;refine Call_ (lG I l m boot_range (zaC (thn (d pos pins s x H _ I h) λus s1 n=>?_) hs rfl));walk;let(vs,H1,c,v,U):=n;let(j,e,U,u,q):=U;subst e;x_go;cases v with
 |cons r w =>
  cases w;have(t,rfl):=r;exact call_range_1 (wf c 'l' 'l' U u (by simpa using q))
theorem zx{a b:cy}(n:Gl X "range")(u:X.mg "range" = none)(m:PA X [a,b] ta)(hs:zaj [a,b] X.env=[(false,eval a X.env),(false,eval b X.env)])(J:zaj [b] X.env=[(false,eval b X.env)]) :
  PI X tg (.Call (.Name "range" p) [a,b] [] pos) (KR ta):=by
 intro pins s G H R I h;refine Call_ (lG I n u boot_range (zaC (thn (m pos pins s G H _ I h) λus s1 v=>?_) (by rw[hs,J]) (by rw[J];rfl)));walk;let(vs,H1,l,C,c):=v;let(i,j,e,(c,w,x,z),q):=c;subst e;x_go;cases C with
 |cons r d =>
  cases d with
  |cons B d =>
   cases d;walk;let(t,rfl):=r;let(t',rfl):=B;x_go;exact call_range_2 (wf l c w x z q)
def tFor(wi:TI)(g:TG)(tb:TS):TS:=λD c H=>wi c H λJ n=>∃W:Nat->Nat->St->Hp->Prop,(∃m,W 0 m c n)/\∀i m c H,W i m c H ->
 (J.stop i H/\D.nx c H)∨(J.go i H/\∃N:St->Hp->Prop,(∀l d,N l d->∃U,U<m/\W (i+1) U l d)/\∀x d,J.yld i H x d->g x c d λL q=>tb {D with nx:=N,ct:=N,bk:=D.nx} L q)
noncomputable def rR(fp:av ay)(h:cx):av (ay×Obj):=fp.filterMap λb=>(h.get? b).map λo=>(b,o)
theorem gw{fp:av ay}{b:ay}(J:b∈fp)(e:h.get? b\o):(b,o)∈rR fp h:=zxK.mpr (b,J,by rw[e];rfl)
theorem zy{fp:av ay}{p:ay×Obj}(d:p∈rR fp h):p.1∈fp/\h.get? p.1\p.2:=by
 have(b,c,e):=zxK.mp d;cases q:h.get? b with
 |none=>rw[q]at e;cases e
 |some o =>
  rw[q]at e;have U:(b,o)=p:=zzP e;subst U;exact(c,q)
theorem Inv.pinned{pins:av (ay×Obj)}{c:St}{H:Hp}{fp:av ay}(I:Inv X pins c H s)(n:∀b∈fp,FpOk X pins H b)(ho:∀b∈fp,∃o,s.heap.get? b\o/\∀v,o.data ≠ .cell v):Inv X (pins++rR fp s.heap) c H s :=
 I.pins_of λp q=>(zzg.mp q).elim (λz=>I.pin p (zzN _ z)) λz=>by walk;let(L,e):=zy z;let(m,f1,f2,_):=n p.1 L;let(o,J,d):=ho p.1 L;x_go;rw[e]at J;cases J;exact(e,m,f1,f2,d)
theorem Inv.unpinned{pins pl:av (ay×Obj)}{c:St}{H:Hp}(I:Inv X (pins++pl) c H s):Inv X pins c H s:=I.pins_of λp J=>I.pin p (zzN _ (zzT _ J))
theorem Il{iter:cy}{body:av Stmt}{wi:TI}{tb:TS}(Y:zeF (model X.prog X.w) X.A X.env X.xe)(hc:X.calm=true)(hi:PI X tg iter wi)(hg:PG X tg g)(l:PSs X body tb)(hs:∀x,zaw iter X.env x=pure x):PS X (.For tg iter body [] pos) (tFor wi g tb):=by
 intro pins s σ H D I h;refine wpAny_For (thn (hi pins s σ H _ I h) λv s1 h1=>thn h1 λitv s2 h2=>?_) hs;walk;let(it,Q,tn,J,H2,e,I2,T,b2,f2,W,(m0,w0),j):=h2;subst e;x_go;have p:∀{H':Hp},(∀b∈Q,H' b=none)->∀b∈Q,FpOk X pins H' b:=λhn b l=>(hn b l,(f2 b l).2);refine codeAny_forLoop_any (λn s'=>∃i z H',Inv X pins z H' s'/\tn i s'.heap/\(∀b∈Q,H' b=none)/\W i n z H') ?_ m0 (0,σ,H2,I2,b2,λb l=>(f2 b l).1,w0);rintro n s3 ⟨i,M,k,I3,a8,a7,w3⟩;rcases j i n M k w3 with ⟨stop,qn⟩|⟨go,N,hN,step⟩
 .refine zwm Y (thn (T.done X rfl rfl rfl hc i pins s3 M k X.xe I3 (p a7) a8 stop) λr s4 q=>?_);have(rfl,I4):=q;exact zcN (M,k,I4,qn)
 .refine zwm Y (thnG (T.item X rfl rfl rfl hc i pins s3 M k X.xe I3 (p a7) a8 go) λr s4 u hr h4=>?_);subst hr;refine zwm Y (thn h4 λ_ s5 q0=>?_);have(x,H5,I5,r5,y5,y,b1):=q0;have a9:=I5.pinned (p b1) (T.obj _ _ y);refine zwm Y (thnF (hg _ s5 M H5 x u _ a9 r5 (step x H5 y5)) λ_ s6 b3 H6 I6 q6=>?_);refine zwm Y (thn (l _ s6 b3 H6 _ I6 q6) λf E C=>?_);have again:∀{L:St}{U:Hp},Inv X (pins++rR Q s5.heap) L U E->N L U->∃m,m<n/\∃i z H',Inv X pins z H' E/\tn i E.heap/\(∀b∈Q,H' b=none)/\W i m z H':=λ{L U} c a=>by
   let(m',hm,w7):=hN L U a;refine(m',hm,i+1,L,U,c.unpinned,T.keep _ _ _ y λb l o e=>(c.pin (b,o) (zzN _ (zzN _ (gw l e)))).1,λb l=>?_,w7);let(o,e,d):=T.obj _ _ y b l;exact(c.pin (b,o) (zzN _ (zzN _ (gw l e)))).2.1
  cases f with
  |next=>let(L,U,c,a):=C;exact again c a
  |cont=>let(L,U,c,a):=C;exact again c a
  |brk=>let(L,U,c,C):=C;exact(L,U,c.unpinned,C)
  |ret v=>let(x7,L,U,c,r7,C):=C;exact(x7,L,U,c.unpinned,r7,C)
end
abbrev R2:=V->V->Hp->VK->Prop
variable{r r':R2}
def OpR(X:Cx)(f:ax->ax->Sem ax)(r:R2):Prop :=
 ∀(pins:av (ay×Obj))(s:aM)(c:St)(H:Hp)(x y:V)(v u:ax)(Q:VK),Inv X pins c H s->RelV x v->RelV y u->r x y H Q ->
  wX X (f v u) (EP X pins c Q) X.xe s
def UnR(X:Cx)(f:ax->Sem ax)(r:V->Hp->VK->Prop):Prop :=
 ∀(pins:av (ay×Obj))(s:aM)(c:St)(H:Hp)(x:V)(v:ax)(Q:VK),Inv X pins c H s->RelV x v->r x H Q ->
  wX X (f v) (EP X pins c Q) X.xe s
def df(X:Cx)(f:ax)(r:av V->Hp->VK->Prop):Prop :=
 ∀(pins:av (ay×Obj))(s:aM)(d:St)(H:Hp)(c:av V)(us:av ax)(Q:VK),Inv X pins d H s->Vals c us->r c H Q ->
  wX X (call f us) (EP X pins d Q) X.xe s
def tOp(r:R2)(ta tb:TE):TE:=λc H Q=>ta c H λx d=>tb c d λy l=>r x y l Q
def tUn(r:V->Hp->VK->Prop)(ta:TE):TE:=λd H Q=>ta d H λx c=>r x c Q
inductive rI(C:Int->Int->Prop)(g:Int->Int->V)(x:V)(y:V)(H:Hp)(Q:VK):Prop
 |mk i j:x=.int i->y=.int j->C i j->Q (g i j) H->rI C g x y H Q
inductive rI0(g:Int->Int->V)(x:V)(y:V)(H:Hp)(Q:VK):Prop
 |mk i j:x=.int i->y=.int j->Q (g i j) H->rI0 g x y H Q
inductive rU(g:Int->V)(x:V)(H:Hp)(Q:VK):Prop
 |mk i:x=.int i->Q (g i) H->rU g x H Q
section
variable{X:Cx}{a:cy}{ta tb:TE}
theorem binT(B:PE X a ta)(C:PE X b tb){pins:av (ay×Obj)}{d:St}{H:Hp}{R:V->V->Hp->Prop}(I:Inv X pins d H s)(h:ta d H λx n=>tb d n λy c=>R x y c){Q:ax->aM->Prop}{f:ax->ax->Sem ax}(G:∀v u m x y c,Inv X pins d c m->RelV x v->RelV y u->R x y c->wX X (f v u) Q X.xe m) :
  wX X (eval a X.env) (λv l=>wX X (eval b X.env) (λu L=>wX X (f v u) Q X.xe L) X.xe l) X.xe s:=by
 refine thn (B pins s d H _ I h) λv g q=>?_;have(x,n,w,Y,M):=q;refine thn (C pins g d n _ w M) λu m q=>?_;have(y,c,z,e,T):=q;exact G v u m x y c z Y e T
theorem dM{op:Operator}(ho:OpR X (zaA op) r)(d:PE X a ta)(L:PE X b tb):PE X (.BinOp a op b pos) (tOp r ta tb):=by intro pins s n H Q I h;exact wpAny_BinOp (binT d L I h λv u m x y c J U l q=>ho pins m n c x y v u Q J U l q)
theorem KS{op:UnaryOp}{r:V->Hp->VK->Prop}(ho:UnR X (unaryOp op) r)(l:PE X a ta):PE X (.UnaryOp op a pos) (tUn r ta):=by intro pins s c H Q I h;exact UnaryOp_ (thnE (l pins s c H _ I h) λv m x d J U L=>ho pins m c d x v Q J U L)
theorem opI{f:ax->ax->Sem ax}{C:Int->Int->Prop}{g:Int->Int->Int}
  (rule:∀(i j:Int)(t u:Tok)(s:aM)(Q:ax->aM->Prop)(E:ax->aM->Prop),C i j->Q (.int (g i j) s.toks) {s with toks:=s.toks+1}->wX X (f (.int i t) (.int j u)) Q E s) :
  OpR X f (rI C λi j=>.int (g i j)):=by
 intro pins s σ H x y v u Q I L U h;let(i,j,rfl,rfl,J,q):=h;let(t,rfl):=L;let(c,rfl):=U;exact rule i j t c s _ _ J (.int (g i j),H,I.tok _,(_,rfl),q)
theorem opI0{f:ax->ax->Sem ax}{g:Int->Int->Int}
  (rule:∀(i j:Int)(t u:Tok)(s:aM)(Q:ax->aM->Prop)(E:ax->aM->Prop),Q (.int (g i j) s.toks) {s with toks:=s.toks+1}->wX X (f (.int i t) (.int j u)) Q E s) :
  OpR X f (rI0 λi j=>.int (g i j)):=by
 intro pins s σ H x y v u Q I U c h;walk;let(i,j,rfl,rfl,q):=h;let(t,rfl):=U;let(d,rfl):=c;x_go;exact rule i j t d s _ _ (.int (g i j),H,I.tok _,(_,rfl),q)
theorem opB0{f:ax->ax->Sem ax}{g:Int->Int->Bool}
  (rule:∀(i j:Int)(t u:Tok)(s:aM)(Q:ax->aM->Prop)(E:ax->aM->Prop),Q (.bool (g i j)) s->wX X (f (.int i t) (.int j u)) Q E s) :
  OpR X f (rI0 λi j=>.bl (g i j)):=by
 intro pins s σ H x y v u Q I J L h;let(i,j,rfl,rfl,q):=h;let(t,rfl):=J;let(c,rfl):=L;exact rule i j t c s _ _ (.bl (g i j),H,I,rfl,q)
def CPow(i j:Int):Prop:=0<=j/\j<=1000000/\i.natAbs<2^64
theorem lI:OpR X (zaA .Add) (rI0 λi j=>.int (i+j)):=opI0 λ_ _ _ _ _ _ _ q=>add_int q
theorem Im:OpR X (zaA .Sub) (rI0 λi j=>.int (i-j)):=opI0 λ_ _ _ _ _ _ _ q=>sub_int q
theorem ku:OpR X (zaA .Mod) (rI (λ_ j=>0<j) λi j=>.int (i % j)):=opI λi j _ _ _ _ _ hc q=>by exact mod_int' 'l' (by rw[Int.fmod_eq_emod_of_nonneg i 'l'];exact q)
theorem EI:OpR X (zaA .Pow) (rI CPow λi j=>.int (i^j.toNat)):=opI λ_ _ _ _ _ _ _ J q=>pow_int_small J.1 J.2.1 J.2.2 q
theorem unI{f:ax->Sem ax}{g:Int->Int}
  (rule:∀(i:Int)(t:Tok)(s:aM)(Q:ax->aM->Prop)(E:ax->aM->Prop),Q (.int (g i) s.toks) {s with toks:=s.toks+1}->wX X (f (.int i t)) Q E s) :
  UnR X f (rU λi=>.int (g i)):=by
 intro pins s σ H x v Q I J h;let(i,rfl,q):=h;let(t,rfl):=J;exact rule i t s _ _ (.int (g i),H,I.tok _,(_,rfl),q)
theorem Io:UnR X (unaryOp .USub) (rU λi=>.int (-i)):=unI λ_ _ _ _ _ q=>neg_int q
end
noncomputable def scal:V->V->Bool
 |.non,.non=>true|.non,.int _=>true|.int _,.non=>true|.non,.bl _=>true|.bl _,.non=>true|.non,.str _=>true|.str _,.non=>true|.int _,.int _=>true|.bl _,.bl _=>true|.str _,.str _=>true|.byt _,.byt _=>true|.int _,.str _=>true|.str _,.int _=>true|.bl _,.str _=>true|.str _,.bl _=>true|_,_=>false
def rEq:R2:=λx y H Q=>scal x y=true/\Q (.bl (decide (x=y))) H
theorem FO{i j:Int}:decide (V.int i=V.int j)=(i==j):=by rw[zxL];simp
theorem Ip{i j:Bool}:decide (V.bl i=V.bl j)=(i==j):=by rw[zxL];simp
theorem FP{i:Str}:decide (V.str i=V.str j)=(i==j):=by rw[zxL];simp
theorem FQ{i j:Array UInt8}:decide (V.byt i=V.byt j)=(i.toList==j.toList):=by rw[zxL];cases i;cases j;simp
section
variable{X:Cx}{a c:cy}{ta tb tc:TE}
theorem cS{pins:av (ay×Obj)}{d:St}{H:Hp}{Q:VK}{k:Bool}(I:Inv X pins d H s)(q:Q (.bl k) H)(e:k=k'):EP X pins d Q (.bool k') s:=by subst e;exact(.bl k,H,I,rfl,q)
theorem KU:OpR X (zae .Eq) rEq:=by
 intro pins s σ H x y v u Q I L J h;let(l,q):=h;cases x with
 |non =>
  cases L;cases y with
  |non=>cases J;exact PySem.EqNone.eq_none_none (cS I q 's')
  |bl j=>cases J;exact PySem.EqNone.eq_none_bool (cS I q 's')
  |int j=>let(d,rfl):=J;exact PySem.EqNone.eq_none_int (cS I q 's')
  |str j=>let(d,rfl):=J;exact PySem.EqNone.eq_none_str (cS I q 's')
  |_=>exact absurd (show false=true from l) zzL
 |bl i =>
  cases L;cases y with
  |non=>cases J;exact PySem.EqNone.eq_bool_none (cS I q 's')
  |bl j=>cases J;exact eq_bool (cS I q Ip)
  |str j=>let(d,rfl):=J;exact PySem.EqMixed.eq_bool_str (cS I q 's')
  |_=>exact absurd (show false=true from l) zzL
 |int i =>
  let(t,rfl):=L;cases y with
  |non=>cases J;exact PySem.EqNone.eq_int_none (cS I q 's')
  |int j=>let(d,rfl):=J;exact eq_int (cS I q FO)
  |str j=>let(d,rfl):=J;exact PySem.EqMixed.eq_int_str (cS I q 's')
  |_=>exact absurd (show false=true from l) zzL
 |str i =>
  let(t,rfl):=L;cases y with
  |non=>cases J;exact PySem.EqNone.eq_str_none (cS I q 's')
  |bl j=>cases J;exact PySem.EqMixed.eq_str_bool (cS I q 's')
  |int j=>let(d,rfl):=J;exact PySem.EqMixed.eq_str_int (cS I q 's')
  |str j=>let(d,rfl):=J;exact eq_str (cS I q FP)
  |_=>exact absurd (show false=true from l) zzL
 |byt i =>
  let(t,rfl):=L;cases y with
  |byt j=>let(d,rfl):=J;exact PySem.W.eq_bytes (cS I q FQ)
  |_=>exact absurd (show false=true from l) zzL
 |_=>cases y<;>exact absurd (show false=true from l) zzL
theorem Iq:OpR X (zae .Lt) (rI0 λi j=>.bl (decide (i<j))):=opB0 λ_ _ _ _ _ _ _ q=>lt_int q
theorem KW:OpR X (zae .LtE) (rI0 λi j=>.bl (decide (i<=j))):=opB0 λ_ _ _ _ _ _ _ q=>le_int q
theorem Ir:OpR X (zae .Gt) (rI0 λi j=>.bl (decide (j<i))):=opB0 λ_ _ _ _ _ _ _ q=>gt_int q
theorem KY:OpR X (zae .GtE) (rI0 λi j=>.bl (decide (j<=i))):=opB0 λ_ _ _ _ _ _ _ q=>ge_int q
theorem Iu:OpR X (zae .Is) (λx y H Q=>y=.non/\Q (.bl (decide (x=.non))) H):=by
 intro pins s σ H x y v u Q I L d h;have(rfl,q):=h;cases d;refine is_none_gen (cS I q ?_);cases x<;>first
  |(cases L;rfl)
  |(let(t,rfl):=L;rfl)
theorem oM(b:cy)(h:op ≠ .In:=by decide)(m:op ≠ .NotIn:=by decide):zbA op b=false:=by
 have d:(op==CmpOp.In)=false:=by cases op<;>first|rfl|exact absurd rfl h
 have l:(op==CmpOp.NotIn)=false:=by cases op<;>first|rfl|exact absurd rfl m
 cases b<;>first|rfl|exact by show (_ && (op==.In || op==.NotIn) && _)=false;rw[d,l,Bool.or_false,zvm,zxC]
theorem FR(ho:OpR X (zae op) r)(l:PE X a ta)(L:PE X b tb)(m:zbA op b=false):PE X (.Compare a [op] [b] pos) (tOp r ta tb):=by intro pins s z H Q I h;exact wpAny_Compare1 (binT l L I h λv u w x y d J U n q=>ho pins w z d x y v u Q J U n q) m
def Iv(t:TE):TT:=λl H Q=>t l H λx d=>∃k,x=.bl k/\Q k d
theorem lJ(ho:OpR X (zae op) r)(q:PE X a ta)(w:PE X b tb)(B:zbA op b=false):PT X (.Compare a [op] [b] pos) (Iv (tOp r ta tb)):=by
 intro pins s d H Q I h;refine wpAny_isTrue_Compare1 (thnE (q pins s d H _ I h) λv i x l J T C=>thnE (w pins i d l _ J C) λu j y m L Y G =>
  thn (ho pins j d m x y v u _ L T Y G) λc s3 ⟨z,n,U,g,k,e,M⟩=>?_) B
 subst e;cases g;exact zyM (n,U,M)
def zA(r r':R2)(ta tb tc:TE):TE:=λd H Q=>ta d H λx m=>tb d m λy n=>r x y n λz l=>∃k,z=.bl k /\
 (if k=true then tc d l λL J=>r' y L J Q else Q (.bl false) l)
theorem Co(ho:OpR X (zae op) r)(J:OpR X (zae op') r')(T:PE X a ta)(Y:PE X b tb)(g:PE X c tc)(i:zeD [op,op'] [b,c]=false:=by with_unfolding_all rfl):PE X (.Compare a [op,op'] [b,c] pos) (zA r r' ta tb tc):=by
 intro pins s l H Q I h;refine Compare_chain (thnE (T pins s l H _ I h) λv s1 x q C A j=>chain_link (thnE (Y pins s1 l q _ C j) λu s2 y w G n o =>
  thn (ho pins s2 l w x y v u _ G A n o) λd s3 ⟨z,m,L,E,k,e,U⟩=>?_)) i
 subst e;cases E;refine zyM ?_;cases k with
 |false=>exact ite_ff (.bl false,m,L,rfl,U)|true=>exact ite_tt (chain_last (thnE (g pins s3 l m _ L U) λw' s4 z' B M N p=>J pins s4 l B y z' u w' Q M n N p))
theorem Cp(ho:OpR X (zae op) r)(U:OpR X (zae op') r')(p:PE X a ta)(A:PE X b tb)(E:PE X c tc)(N:zeD [op,op'] [b,c]=false:=by with_unfolding_all rfl):PT X (.Compare a [op,op'] [b,c] pos) (Iv (zA r r' ta tb tc)):=by
 intro pins s l H Q I h;refine isTrue_chain (thnE (p pins s l H _ I h) λv s1 x B T r1 q1=>test_link (thnE (A pins s1 l B _ T q1) λu s2 y C Y w q2 =>
  thn (ho pins s2 l C x y v u _ Y r1 w q2) λd s3 ⟨z,m,n,r3,k,e,q⟩=>?_)) N
 subst e;cases r3;refine zyM ?_;cases k with
 |false =>
  have(k',j,q'):=q;cases j;exact ite_ff (m,n,q')
 |true =>
  refine ite_tt (test_last (thnE (E pins s3 l m _ n q) λw' s4 z' G g r4 q4=>thn (U pins s4 l G y z' u w' _ g w r4 q4) λd' s5 q0=>?_));walk;let(z2,M,i,r5,k2,o,q5):=q0;subst o;x_go;cases r5;exact zyM (M,i,q5)
theorem oN:(zaa:Nat)<2^63:=by  decide
theorem xO:OpR X (zaA .Add) (λx y H Q=>∃i j,x=.str i/\y=.str j/\i.length+j.length<=zaa/\Q (.str (i++j)) H):=by intro pins s σ H x y v u Q I U l h;walk;let(i,j,rfl,rfl,d,q):=h;let(t,rfl):=U;let(m,rfl):=l;x_go;exact add_str (λm tk=>(.str (i++j),H,I.tok _,(_,rfl),q)) d
theorem fW{x:V}(r:Vals [x] us):∃u,us=[u]/\RelV x u:=by
 cases r with
 |cons J L=>cases L;exact(_,rfl,J)
theorem Cq{x y:V}(r:Vals [x,y] us):∃u J,us=[u,J]/\RelV x u/\RelV y J:=by
 cases r with
 |cons L U =>
  cases U with
  |cons d l=>cases l;exact(_,_,rfl,L,d)
theorem zB:df X (.type "int") (λxs H Q=>(∃i,xs=[.int i]/\Q (.int i) H)∨∃k,xs=[.bl k]/\Q (.int (if k then 1 else 0)) H):=by
 intro pins s σ H xs us Q I r h;rcases h with ⟨i,rfl,q⟩|⟨k,rfl,q⟩
 .let(u,rfl,t,rfl):=fW r;exact call_int_int (.int i,H,I,(_,rfl),q)
 .let(u,rfl,J):=fW r;cases J;exact call_int_bool (.int (if k then 1 else 0),H,I.tok _,(_,rfl),q)
theorem rS:df X (.type "str") (λxs H Q=>∃i,xs=[.int i]/\i.natAbs.log2<1920/\Q (.str (toString i)) H):=by intro pins s σ H xs us Q I r h;let(i,rfl,d,q):=h;let(u,rfl,t,rfl):=fW r;exact PySem.P.str_of_int d (.str _,H,I.tok _,(_,rfl),q)
end
structure ObjM(h:Heap)(x dx C:Addr)(mA:Str->Option Value):Prop where
 obj:h.get? x\(zaN C dx)
 ns:h.Ns1 dx mA
 ne:dx≠x
theorem rT{mA:Str->aT ax}(n:h.Ns1 it mA):∃od,h.get? it\od/\∀name,zbX name od\(mA name):=by
 have(o,c,ep,ho,hd,l,_,m):=n;refine(o,ho,λname=>?_);have e:=m name;unfold nsFind findBy at e;rw[<-Array.find?_toList]at e;unfold zbX;rw[hd];dsimp only;split
 .rename_i y q;rw[q]at e;exact congrArg some e
 .rename_i q;rw[q]at e;have a:c.toList.any (·.refKey)=false:=by
   rw[zdP];intro y u;let(z,t,J):=l y (zyR.mp u);simp[zdK.refKey,J]
  have d:¬c.toList.any (·.refKey)=true:=by rw[a];exact zzL
  rw[zzn d];exact congrArg some e
theorem ObjM.look{x C:ay}{mA:Str->aT ax}(I:ObjM h x a C mA):∃od,zbm h x (zaN C a) C (some od)/\∀name,zbX name od\(mA name) :=
 let ⟨od,ho,hl⟩:=rT I.ns
 (od,(I.obj,rfl,rfl,ho),hl)
section
variable{prog:cH}{w:World}{K:zvu}{x dx C f:ay}{mA:Str->aT ax}{name:Str}{v:ax}
theorem FT{Q:ax->aM->Prop}(X:K.In s.heap)(I:ObjM s.heap x dx C mA)(l:zbu K C name=true)(m:za4 K C=true)(d:zah K (.ref C) name\none)(q:mA name\v)(L:zcs v=true)(h:Q v {s with toks:=s.toks+1}) :
  wM prog w A (getAttr (.ref x) name k') Q E s:=by
 have(od,J,n):=I.look;exact PySem.W.get_value X J (zvg l).1 (zdm m d rfl (by rw[n,q])) L h
theorem Cr{pl:Sem Bool}{Q:ax×av ax->aM->Prop}(X:K.In s.heap)(I:ObjM s.heap x dx C mA)(L:zbu K C name=true)
  (d:zah K (.ref C) name\(some (.ref f))) (m:zee K (.ref f)=true) (n:mA name=none) (h:Q (.ref f,[.ref x]) s) :
  wM prog w A (zcO (.ref x) name pl) Q E s:=by
 have(q,J,l):=I.look;exact PySem.W.method_fn X J (zvg L).1 (zvg L).2 d (zxM.mp m) (by show (zbX name q).map (·.isSome)\false;rw[l,n];rfl) h
theorem FU{ns:av Str}{Q:Unit->aM->Prop}(X:K.In s.heap)(I:ObjM s.heap x dx C mA)
  (hs:zah K (.ref C) "__setattr__" = some (some (.builtin "object.__setattr__"))) (B:zea K C=true) (G:zcM K C name\none) (z:za4 K C=true)
  (H:zbf mA ns) (hsz:ns.length<=zaa)
  (h:∀h',ObjM h' x dx C (λy=>if y=name then some v else mA y)->zam dx s.heap h'->Q () {s with heap:=h',toks:=s.toks+2}) :
  wM prog w A (setAttr (.ref x) name v) Q E s:=by
 have(od,J,hl):=I.look;refine zd0 X J hs (PySem.W.osa_open (s:={s with toks:=s.toks+1}) (r:=none) X J B G λb=>?_);have(cd,u,m):=zeq z;have M:s.heap.get? x\(.ref C,some dx,.plain,#[]):=I.obj;refine zzb (zzr (zzb (zzb (zc9 M (zzb (zdv (s:={s with toks:=s.toks+1}) (zdo X u) ?_))))));rw[m];refine zzr (a:=some dx) (zzb (zzr (zzb ?_)));refine wpAny_nsSet1 (s:={s with toks:=s.toks+1}) I.ns λh' c d=>?_;have(oD,esD,epD,q,n,l):=c.count (zbf.cons name v H);refine zzb (wpAny_lookBehind q (by rw[n];exact pastItsLine_dict (zzk l (by rw[zzl];lia))) ?_);exact zzr (h _ ((d.2 _ (Ne.symm I.ne)).trans I.obj,c,I.ne) d)
theorem wg{R:zcv->aM->Prop}{vs:av ax}(X:K.In s.heap)(c:zeO K C=true)(hi:zah K (.ref C) "__init__" = some (some (.ref f)))(J:zeU K (.ref f)\(.type "function"))(h:zaZ (model prog w) (A.under (.builtin "type.__call__" (.ref C::vs,kw))) (.call (.ref f) (.ref (s⁻¹+1)::vs,kw)) (PySem.W.InitBack (s⁻¹+1) R)
   {s with heap:=(s.heap.push zaE).push (zaN C s⁻¹)}) :
  zaZ (model prog w) A (.call (.ref C) (vs,kw)) R s:=by
 exact PySem.W.make_core (PySem.W.makes_of X c) (zyS X hi) (λself=>zeK X self J) (.inl rfl) h
end
noncomputable def putF(f:Str)(v:V):av (Str×V)->av (Str×V)
 |[]=>[(f,v)]|(g,x)::r=>if g=f then(g,v)::r else(g,x)::putF f v r
theorem hU(f g:Str)(v:V):∀fs:av (Str×V),(putF f v fs).lookup g=if g=f then some v else fs.lookup g
 |[]=>by
  show zaK g [(f,v)]=_;by_cases h:g=f
  .have J:(g==f)=true:=zxM.mpr h;simp only[zaK,J,zzu h]
  .have J:(g==f)=false:=zxo.mpr h;simp only[zaK,J,zzn h]
 |(k,x)::r=>by
  have U:=hU f g v r;rw[show putF f v ((k,x)::r)=(if k=f then(k,v)::r else(k,x)::putF f v r) from rfl];by_cases L:k=f
  .rw[zzu L];by_cases h:g=k
   .have J:(g==k)=true:=zxM.mpr h;simp only[zaK,J,zzu (h.trans L)]
   .have J:(g==k)=false:=zxo.mpr h;simp only[zaK,J,zzn (λe:g=f=>h (e.trans L.symm))]
  .rw[zzn L];by_cases h:g=k
   .have J:(g==k)=true:=zxM.mpr h;simp only[zaK,J,zzn (λe:g=f=>L (h.symm.trans e))]
   .have J:(g==k)=false:=zxo.mpr h;simp only[zaK,J];exact U
theorem fX(f:Str)(v:V):∀fs:av (Str×V),f∈(putF f v fs).map (·.1)/\∀g,g∈fs.map (·.1)->g∈(putF f v fs).map (·.1)
 |[]=>(by simp[putF],λg h=>by simp at h)
 |(k,x)::r=>by
  let(c,i2):=fX f v r;rw[show putF f v ((k,x)::r)=(if k=f then(k,v)::r else(k,x)::putF f v r) from rfl];by_cases J:k=f
  .rw[zzu J];subst J;exact('s',λg h=>h)
  .rw[zzn J];refine(?_,λg h=>?_)
   .rw[zzq];exact zzc _ c
   .rw[zzq]at h⊢;rcases zze.mp h with e|e
    .exact zze.mpr (.inl e)
    .exact zzc _ (i2 g e)
theorem lK(f:Str)(v:V):∀fs:av (Str×V),(putF f v fs).length<=fs.length+1
 |[]=>by simp[putF]
 |(k,x)::r=>by
  have ih:=lK f v r;rw[show putF f v ((k,x)::r)=(if k=f then(k,v)::r else(k,x)::putF f v r) from rfl];by_cases J:k=f
  .rw[zzu J,zzl,zzl];lia
  .rw[zzn J,zzl,zzl];lia
theorem RelO.some_of{v:V}{o:aT ax}(r:RelO (some v) o):∃u,o\u/\RelV v u:=by
 cases o with
 |none=>exact(show False from r).elim|some u=>exact(u,rfl,r)
theorem RelO.none_of{o:aT ax}(r:RelO none o):o=none:=by
 cases o with
 |none=>rfl|some u=>exact(show False from r).elim
theorem rV{v:V}{u:ax}(r:RelV v u):zcs u=true:=by
 cases v with
 |non=>cases (show u=zaI from r);rfl
 |bl b=>cases (show u=za3 b from r);rfl
 |int i=>let(t,e):=(show ∃t,u=zbt i t from r);cases e;rfl
 |str x=>let(t,e):=(show ∃t,u=zcF x t from r);cases e;rfl
 |byt b=>let(t,e):=(show ∃t,u=Value.bytes b t from r);cases e;rfl
 |flt b=>let(t,e):=(show ∃t,u=Value.float b t from r);cases e;rfl
 |ref a=>cases (show u=zac a from r);rfl
 |ty n=>cases (show u=zaW n from r);rfl
section
variable{P:cH}{w:World}{H:Hp}{C dx:ay}{fs:av (Str×V)}
theorem uF(c:HOk P w H h)(e:H a\(.ins C dx fs)):∃mA,ObjM h a dx C mA/\(∀f,RelO (fs.lookup f) (mA f))/\zbf mA (fs.map (·.1))/\fs.length<=1000/\H dx\(.own a):=by have(d,z,ne,l,mA,n,r,q):=(show ObjOk P w H h a (.ins C dx fs) from c a _ e);exact(mA,(l,n,ne),r,q,z,d)
end
structure Cls(K:zvu)(C:Addr):Prop where
 pg:zbu K C zat=true
 hd:za4 K C=true
 po:zea K C=true
 sa:zah K (.ref C) "__setattr__" = some (some (.builtin "object.__setattr__"))
theorem Cls.get{K:zvu}{C:ay}(c:Cls K C)(f:Str):zbu K C f=true:=c.pg
def NoAttr(K:zvu)(C:ay)(f:Str):Prop:=zah K (.ref C) f\none
theorem NoAttr.taker{K:zvu}{C:ay}{f:Str}(n:NoAttr K C f):zcM K C f\none:=by unfold zcM;rw[show zah K (.ref C) f\none from n];rfl
structure Meth(K:zvu)(C:Addr)(m:Str)(f:Addr):Prop where
 at_:zah K (.ref C) m\(some (.ref f))
 fn:zee K (.ref f)=true
 kp:zau K (.ref f)=true
section
variable{X:Cx}{σ:St}{H:Hp}{C dx:ay}{fs:av (Str×V)}{f:Str}{v:V}
theorem xP{b:Bool}{Q:ax->aM->Prop}(I:Inv X pins σ H s)(e:H a\(.ins C dx fs))(c:Cls X.K C)(n:NoAttr X.K C f)(l:fs.lookup f\v)
  (h:∀u s',Inv X pins σ H s'->RelV v u->Q u s'):wpAny (model X.prog X.w) A (getAttr (.ref a) f b) Q E s:=by
 walk;let(m,O,r,_,_,_):=uF I.hok e;let(u,d,L):=RelO.some_of (v:=v) (o:=m f) (by rw[<-l];exact r f);x_go;exact FT I.kIn O (c.get f) c.hd n d (rV L) (h u _ (I.tok _) L)
theorem oO{m:Str}{pl:Sem Bool}{Q:ax×av ax->aM->Prop}(I:Inv X pins σ H s)(e:H a\(.ins C dx fs))(c:Cls X.K C)(k:Meth X.K C m it)(l:fs.lookup m=none)(h:Q (.ref it,[.ref a]) s):wpAny (model X.prog X.w) A (zcO (.ref a) m pl) Q E s:=by have(n,O,r,_,_,_):=uF I.hok e;have d:n m=none:=RelO.none_of (by rw[<-l];exact r m);exact Cr I.kIn O (c.get m) k.at_ k.fn d h
theorem xQ{y:V}{u:ax}{Q:Unit->aM->Prop}(I:Inv X pins σ H s)(e:H a\(.ins C dx fs))(c:Cls X.K C)(n:NoAttr X.K C f)(hl:fs.length<1000)(M:RelV y u)
  (h:∀s',Inv X pins σ (upd H a (.ins C dx (putF f y fs))) s'->Q () s'):wpAny (model X.prog X.w) A (setAttr (.ref a) f u) Q E s:=by
 have(d,O,r,l,_,ho):=uF I.hok e;have G:(fs.map (·.1)).length<=zaa:=by rw[zza,zxp];lia
 refine FU I.kIn O c.sa c.po n.taker c.hd l G λh' J T=>h _ ?_;have hd:∃o,h'.get? dx\o:=let ⟨o,_,_,e',_⟩:=J.ns;(o,e')
 refine I.write (x:=a) (e:=dx) (by rw[e];exact zaP) (.inr ho) (λb q m z=>(T.2 b m).trans z) hd ?_;refine(by rw[ar O.ne];exact ho,?_,O.ne,J.obj,_,J.ns,λg=>?_,λg B=>?_)
 .have:=lK f y fs;lia
 .show RelO ((putF f y fs).lookup g) (if g=f then some u else d g);rw[hU];by_cases q:g=f
  .rw[zzu q,zzu q];exact M
  .rw[zzn q,zzn q];exact r g
 .by_cases q:g=f
  .rw[q];exact(fX f y fs).1
  .refine(fX f y fs).2 g (l g λz=>B ?_);show (if g=f then some u else d g)=none;rw[zzn q];exact z
theorem Inv.made(I:Inv X pins σ H s):Inv X pins σ (upd (upd H s⁻¹ (.own (s⁻¹+1))) (s⁻¹+1) (.ins C s⁻¹ []))
  {s with heap:=(s.heap.push zaE).push (zaN C s⁻¹)}:=by
 have c:(s.heap.push zaE).get? s⁻¹\zaE:=zzx s.heap rfl;have d:((s.heap.push zaE).push (zaN C s⁻¹)).get? (s⁻¹+1)\(zaN C s⁻¹):=by have:=zzx (s.heap.push zaE) (o:=zaN C s⁻¹) rfl;rwa [zyx]at this
 have L:(s.heap.push zaE).Ns s⁻¹ (λ_=>none):=(zaE,#[],_,c,rfl,(λe l=>absurd l 's'),λ_=>rfl);have J:=I.laid (o:=.own (s⁻¹+1)) (t':=s.toks) (λb u q=>zzf _ q) (zzs _) (_,c);refine J.laid (λb u q=>zzf _ q) (zcU (zyx _ _)) ?_;have ne:s⁻¹≠s⁻¹+1:=zzH (zyY _);refine(by rw[ar ne,ao],zyh _,ne,d,λ_=>none,(zd6 L).at λo q=>zzf _ q,λ_=>zaP,λy m=>absurd rfl m)
theorem zC{prog:cH}{w:World}{c:Env}{f:Str}{Q:ax->aM->Prop}(J:zag e f c (eval e c)=eval e c)(h:wM prog w A (eval e c) (λo d=>wM prog w A (getAttr o f true) Q E d) E s):wM prog w A (eval (.Attribute e f pos) c) Q E s :=
 Attribute_any_ h (by rw[arm_eval_Attribute,J])
end
def tFld(K:zvu)(ta:TE)(f:Str):TE:=λd H Q=>ta d H λx c=>∃a C dx fs v,x=.ref a/\c a\(.ins C dx fs)/\Cls K C/\NoAttr K C f/\fs.lookup f\v/\Q v c
def sFld(K:zvu)(ta tv:TE)(f:Str):TS:=λD c H=>tv c H λy l=>ta c l λx d=>∃a C dx fs,x=.ref a/\d a\(.ins C dx fs)/\Cls K C/\NoAttr K C f/\fs.length<1000 /\
 D.nx c (upd d a (.ins C dx (putF f y fs)))
section
variable{X:Cx}{o value:cy}{f:Str}{pos':Pos}{ta tv:TE}
theorem oP(he:PE X e ta)(z:zag e f X.env (eval e X.env)=eval e X.env):PE X (.Attribute e f pos) (tFld X.K ta f):=by intro pins s T H Q I h;refine zC z (thn (he pins s T H _ I h) λu s1 B=>?_);walk;let(x,d,U,M,a,C,dx,fs,v,ex,w,c,n,l,q):=B;subst ex;x_go;obtain rfl:u=zac a:=M;exact xP U w c n l λu' s2 m G=>(v,d,m,G,q)
theorem EJ(B:PE X o ta)(G:PE X value tv)(hs:zap value (some (.Attribute o f pos')) pos.line X.env=pure false):PS X (.Assign [.Attribute o f pos'] value pos) (sFld X.K ta tv f):=by intro pins s d H D I h;refine zbk (thnE (G pins s d H _ I h) λu e y m U b q=>thn (B pins e d m _ U q) λM s2 Q=>?_) hs;walk;let(x,H2,v,Y,a,C,dx,fs,ex,z,c,n,l,T):=Q;subst ex;x_go;obtain rfl:M=zac a:=Y;exact xQ v z c n l b λs3 w=>(d,_,w,T)
end
section
variable{X:Cx}{σ:St}{H:Hp}
inductive TyOf(K:zvu)(H:Hp):V->Value->Prop where
 | non:TyOf K H .non (.type "NoneType")
 | bl (x:Bool):TyOf K H (.bl x) (.type "bool")
 | int (i:Int):TyOf K H (.int i) (.type "int")
 | str (x:Str):TyOf K H (.str x) (.type "str")
 | lst {a:Addr} {xs:List V} (e:H a\(.lst xs)):TyOf K H (.ref a) (.type "list")
 | frz {a:Addr} {o:Obj} {xs:List V} (e:H a\(.frz o (.lst xs))):TyOf K H (.ref a) (.type "list")
 | tup {a:Addr} {xs:List V} (e:H a\(.tup xs)):TyOf K H (.ref a) (.type "tuple")
 | dK {a:Addr} {kvs:List (Key×V)} (e:H a\(.dK kvs)):TyOf K H (.ref a) (.type "dict")
 | dT {a:Addr} {kvs:List (List Key×V)} (e:H a\(.dT kvs)):TyOf K H (.ref a) (.type "dict")
inductive KO(K:zvu)(u t:Value)(h:Heap):Prop
 |mk {P:Heap->Prop}:ze5 K u t P->P h->u ≠ .builtin "__main__.__loader__#opaque" -> KO K u t h
theorem EK{x:V}{u t:ax}(I:Inv X pins σ H s)(U:RelV x u)(ty:TyOf X.K H x t):KO X.K u t s.heap:=by
 cases ty with
 |non=>cases (show u=zaI from U);exact(zbZ,zaP,λz=>nomatch z)
 |bl y=>cases (show u=za3 y from U);exact(PySem.W.kitx_bool,zaP,λz=>nomatch z)
 |int i=>let(t,q):=(show ∃t,u=zbt i t from U);cases q;exact(PySem.W.kitx_int,zaP,λz=>nomatch z)
 |str y=>let(t,q):=(show ∃t,u=zcF y t from U);cases q;exact(PySem.W.kitx_str,zaP,λz=>nomatch z)
 |@lst a m c =>
  cases (show u=zac a from U);have(_,_,n,_,d):=(show ObjOk X.prog X.w H s.heap a (.lst m) from I.hok a _ c);exact(zdS,(_,d,rfl),λz=>nomatch z)
 |@frz a G m c =>
  cases (show u=zac a from U);have(_,_,_,n,_,d):=(show ObjOk X.prog X.w H s.heap a (.frz G (.lst m)) from I.hok a _ c);exact(zdS,(_,d,rfl),λz=>nomatch z)
 |@tup a m c =>
  cases (show u=zac a from U);walk;let(_,_,_,p):=(show ObjOk X.prog X.w H s.heap a (.tup m) from I.hok a _ c);let(o,d,v,_):=p;x_go;exact(PySem.W.kitx_tuple,(o,d,v),λz=>nomatch z)
 |@dK a l c =>
  cases (show u=zac a from U);walk;let(_,_,vs,_,p):=(show ObjOk X.prog X.w H s.heap a (.dK l) from I.hok a _ c);let(o,C,B,d,v,_):=p;x_go;exact(zd1,(o,d,v.1),λz=>nomatch z)
 |@dT a l c =>
  cases (show u=zac a from U);have(_,_,m,_,o,C,B,d,v,_):=(show ObjOk X.prog X.w H s.heap a (.dT l) from I.hok a _ c);exact(zd1,(o,d,v.1),λz=>nomatch z)
end
structure Room(k:Nat)(A:zas):Prop where
 hd:A.handled=none
 dp:A.depth+3*k+5<recursionLimit
 un:A.units+16*k+200<cLine
theorem Room.mono{j:Nat}(r:Room k A)(h:j<=k):Room j A:=(r.hd,by have:=r.dp;lia,by have:=r.un;lia)
theorem Room.deeper{k:Nat}{A:zas}(r:Room (k+1) A)(c:Env):Room k (A.deeper c) :=
 (r.hd,by have:=r.dp;show A.depth+1+3*k+5<_;lia,by have:=r.un;show A.units+3+16*k+200<_;lia)
theorem xR{C:ay}:(A.under (.builtin "type.__call__" (.ref C::us,kw))).depth=A.depth+1:=by
 first|rfl|rfl
theorem xS{C:ay}:(A.under (.builtin "type.__call__" (.ref C::us,kw))).units=A.units+1:=by
 first|rfl|rfl
theorem Room.make(r:Room (k+1) A)(C:ay)(us:av ax)(kw:av (Str×ax)):Room k (A.under (.builtin "type.__call__" (.ref C::us,kw))) :=
 (r.hd,by have:=r.dp;rw[xR];lia,by have:=r.un;rw[xS];lia)
theorem Room.depth{k:Nat}{A:zas}(r:Room k A):A.depth<recursionLimit:=by have:=r.dp;lia
theorem Room.units{k:Nat}{A:zas}(r:Room k A):A.units+64<cLine:=by have:=r.un;lia
def tNil:TA:=λ_ H Q=>Q [] H
def Iw(ta:TE)(tr:TA):TA:=λc H Q=>ta c H λx d=>tr c d λm l=>Q (x::m) l
section
variable{X:Cx}{es:av cy}{te:TE}{t:TA}
theorem ci:PA X [] tNil:=λ_ _ _ _ H Q I h=>Calls.spliced_nil ([],H,I,.nil,h)
theorem bj(n:PE X e te)(q:PA X es t)(hs:SE X e es:=by rfl):PA X (e::es) (Iw te t):=by intro pos pins s c H Q I h;rw[hs];refine Calls.spliced_cons (thn (n pins s c H _ I h) λu G v=>?_);have(x,d,U,B,w):=v;exact thnE (q pos pins G c d _ U w) λus s2 M l m C z=>(x::M,l,m,.cons B C,z)
def tTup(t:TA):TE:=λl H Q=>t l H λd c=>d.length<=zaa/\∀p,c p=none->Q (.ref p) (upd c p (.tup d))
def tLst(t:TA):TE:=λl H Q=>t l H λd c=>d.length<=zaa/\∀p,c p=none->Q (.ref p) (upd c p (.lst d))
theorem EL{x1}(h:PA X es t):PE X (.Tuple es x1 pos) (tTup t):=by intro pins s m H Q I U;refine wpAny_Tuple_spliced (thn (h pos pins s m H _ I U) λus c ⟨l,d,J,r,z,q⟩=>(by rw[<-r.length];exact z,?_));have L:d c⁻¹=none:=J.hok.fresh (zzs _);refine(.ref c⁻¹,upd d c⁻¹ (.tup l),J.laid (λb u e=>zzf _ e) (zzs _) ?_,rfl,q _ L);exact((z,.inl (_,zzx _ rfl,rfl)),us,r,(_,zzx _ rfl,rfl,_,rfl))
theorem zD(h:PA X es t):PE X (.List es pos) (tLst t):=by intro pins s m H Q I U;refine wpAny_List_spliced (thn (h pos pins s m H _ I U) λus c ⟨l,d,J,r,z,q⟩=>(by rw[<-r.length];exact z,?_));have L:d c⁻¹=none:=J.hok.fresh (zzs _);refine(.ref c⁻¹,upd d c⁻¹ (.lst l),J.laid (λb u e=>zzf _ e) (zzs _) ?_,rfl,q _ L);exact(z,us,0,r,zzx _ rfl)
end
abbrev Sp:=av V->Hp->VK->XK->Prop
variable{sp':Sp}
abbrev CXT:=av Env->Hp->aM->XK->ax->aM->Prop
variable{CX:CXT}
structure Env0(P:Program)(w:World)(K:zvu)(mg:Str->Option Value)(base:Heap)(A:zas)(outer:List Env)(s:zbi)(H:Hp):Prop where
 frames:A.frames\outer
 mod:Mod K mg base
 bs:∀b o,base.get? b\o->s.heap.get? b\o/\H b=none
 bsz:base.objs.size <= s⁻¹
 funs:s.heap.FunFrames base outer
 frf:∀b∈frs outer,H b=none
 hok:HOk P w H s.heap
 bare:zcd s.gens
inductive CE(outer:List Env)(P:Program)(w:World)(H:Hp)(s:zbi)(Q:VK)(u:Value)(s':zbi):Prop
 |mk v H':s'.os=s.os->zcd s'.gens->Un (frs outer) [] H H' s.heap s'.heap->HOk P w H' s'.heap->RelV v u->Q v H'->CE outer P w H s Q u s'
def CR(CX:CXT)(outer:av Env)(P:cH)(w:World)(H:Hp)(s:aM)(Q:VK)(E:XK)(r:zcv)(s':aM):Prop :=
 match r with
 |.ok (.ret u)=>CE outer P w H s Q u s'|.ok _=>False|.error e=>CX outer H s E e s'
structure FnOk(P:Program)(w:World)(K:zvu)(mg:Str->Option Value)(base:Heap)(CX:CXT)(k:Nat)(f:Addr)(fd:zez)(ps:List Str)(sp:Sp):Prop where
 len:∀vs H Q E,sp vs H Q E->vs.length=ps.length
 run:∀(A:zas)(outer:List Env)(s:zbi)(H:Hp)(args:Args)(us:List Value)(vs:List V)(Q:VK)(E:XK),Room k A->Env0 P w K mg base A outer s H->BindsTo s fd args (ps.zip us)->Vals vs us->sp vs H Q E ->
  zaZ (model P w) A (.call (.ref f) args) (CR CX outer P w H s Q E) s
theorem FnOk.imp{P:cH}{w:World}{K:zvu}{base:cx}{f:ay}{fd:bo}{sp:Sp}(F:FnOk P w K mg base CX k f fd ps sp)(h:∀vs H Q E,sp' vs H Q E->sp vs H Q E):FnOk P w K mg base CX k f fd ps sp' :=
 (λvs H Q E q=>F.len vs H Q E (h _ _ _ _ q),λA c s H args us vs Q E l d J L m=>F.run A c s H args us vs Q E l d J L (h _ _ _ _ m))
theorem Env0.make{P:cH}{w:World}{K:zvu}{base:cx}{outer:av Env}{H:Hp}(e:Env0 P w K mg base A outer s H)(C:ay)(us:av ax)(kw:av (Str×ax)) :
  Env0 P w K mg base (A.under (.builtin "type.__call__" (.ref C::us,kw))) outer s H:=(by first|exact e.frames|(simpa[zas.under,Code.envs,Code.isFrame,pushEnvs]using e.frames),e.mod,e.bs,e.bsz,e.funs,e.frf,e.hok,e.bare)
section
variable{X:Cx}{σ:St}{H:Hp}{s':aM}
theorem Inv.env0(I:Inv X pins σ H s):Env0 X.prog X.w X.K X.mg X.base X.A X.stack s H :=
 (I.ok.frames,I.ok.mod,I.bs,zzk I.ok.bsz I.sz,I.stack,I.stkFree,I.hok,I.bare)
theorem Inv.after{Q:VK}{u:ax}(I:Inv X pins σ H s)(h:CE X.stack X.prog X.w H s Q u s'):EP X pins σ Q u s':=by let(v,l,os,bare,un,c,r,q):=h;let(hh,g,d,t,J):=s';obtain rfl:J=s.os:=os;exact(v,l,I.call un c bare (λb z=>absurd z 's'),r,q)
end
def Ix(sp:Sp)(dvs:av V)(E:XK)(t:TA):TE:=λl H Q=>t l H λd c=>sp (d++dvs) c Q E
def KZ(C:ay)(sp:Sp)(dvs:av V)(E:XK)(t:TA):TE:=λm H Q=>t m H λl c=>∀x dx,c x=none->c dx=none->dx≠x ->
 sp (.ref x::(l++dvs)) (upd (upd c dx (.own x)) x (.ins C dx [])) (λv d=>v=.non/\Q (.ref x) d) E
def Binds(K:zvu)(fd:bo)(ps:av Str)(ds:av ax):Prop :=
 ∀(s:aM)(us:av ax),K.In s.heap->(us++ds).length=ps.length->BindsTo s fd (us,[]) (ps.zip (us++ds))
theorem Binds.all{K:zvu}{fd:bo}(h:∀us:av ax,us.length=ps.length->bindArgs fd (us,[])=pure (ps.zip us)):Binds K fd ps []:=λs us _ c=>by rw[zzB]at c⊢;exact .of_eq (h us c)
def rW(CX:CXT)(X:Cx)(E:XK):Prop:=∀(pins:av (ay×Obj))(c:St)(H:Hp)(s:aM)(e:ax)(s':aM),Inv X pins c H s->CX X.stack H s E e s'->X.xe e s'
section
variable{X:Cx}{CX:CXT}{k:Nat}{f C:ay}{fd:bo}{ps:av Str}{sp:Sp}{dvs:av V}{ds:av ax}{E:XK}{x:Str}{es:av cy}{t:TA}
theorem Iy{pins:av (ay×Obj)}{c:St}{H:Hp}{Q:VK}{vs:av V}(F:FnOk X.prog X.w X.K X.mg X.base CX k f fd ps sp)(m:Room k X.A)(d:Binds X.K fd ps ds)(hd:Vals dvs ds)(n:rW CX X E)(I:Inv X pins c H s)(r:Vals vs us)(h:sp (vs++dvs) H Q E):wX X (call (.ref f) us) (EP X pins c Q) X.xe s:=by
 have L:Vals (vs++dvs) (us++ds):=r.append hd;have l:(us++ds).length=ps.length:=by rw[<-L.length];exact F.len _ _ _ _ h
 refine zxY (zyD (F.run X.A X.stack s H (us,[]) (us++ds) (vs++dvs) Q E m I.env0 (d s us I.kIn l) L h) λr s' J=>?_);cases r with
 |error e=>exact n pins c H s e s' I J|ok U =>
  cases U with
  |ret u=>exact I.after J|next=>exact False.elim J|brk=>exact False.elim J|cont=>exact False.elim J
theorem zE(F:FnOk X.prog X.w X.K X.mg X.base CX k f fd ps sp)(n:Room k X.A)(d:Gl X x)(m:X.mg x\(.ref f))(l:zau X.K (.ref f)=true)(U:Binds X.K fd ps ds)(hd:Vals dvs ds)(u:rW CX X E)
  (c:PA X (e::es) t) (J:NoDb x:=by decide) (he:SE X e es:=by rfl) (hpl:BA X pos es:=by rfl) :
  PE X (.Call (.Name x p) (e::es) [] pos) (Ix sp dvs E t):=by
 intro pins s v H Q I h;refine zyP (eA I d m ?_ J);refine zxb (h₀:=X.base) I.ok.mod.kin l (thnE (c pos pins s v H _ I h) λus s1 vs H1 L r q=>(L.kIn,?_)) he hpl;exact Iy F n U hd u L r q
structure Mk(K:zvu)(C f:Addr):Prop where
 makes:zeO K C=true
 init:zah K (.ref C) "__init__" = some (some (.ref f))
 fn:zee K (.ref f)=true
 kp:zau K (.ref C)=true
theorem Ct{pins:av (ay×Obj)}{c:St}{H:Hp}{Q:VK}{vs:av V}(M:Mk X.K C f)(F:FnOk X.prog X.w X.K X.mg X.base CX k f fd ps sp)(a:Room (k+1) X.A)(T:Binds X.K fd ps ds)(hd:Vals dvs ds)(b:rW CX X E)(I:Inv X pins c H s)(r:Vals vs us)(h:∀x dx,H x=none->H dx=none->dx≠x->sp (.ref x::(vs++dvs)) (upd (upd H dx (.own x)) x (.ins C dx [])) (λv q=>v=.non/\Q (.ref x) q) E) :
  wX X (call (.ref C) us) (EP X pins c Q) X.xe s:=by
 have U:=h (s⁻¹+1) s⁻¹ (I.hok.fresh (zyW _)) (I.hok.fresh (zzs _)) (zzH (zyY _));have L:=Inv.made (C:=C) I;have l:Vals (V.ref (s⁻¹+1)::(vs++dvs)) (zac (s⁻¹+1)::(us++ds)):=.cons rfl (r.append hd);have Y:(zac (s⁻¹+1)::us++ds).length=ps.length:=by have e:=l.length;rw[F.len _ _ _ _ U]at e;exact e.symm
 refine zxY (wg (f:=f) I.kIn M.makes M.init (zxM.mp M.fn) (zyD (F.run _ X.stack _ _ (zac (s⁻¹+1)::us,[]) (zac (s⁻¹+1)::(us++ds)) _ _ E (a.make C us [])
  (L.env0.make C us []) (T _ (zac (s⁻¹+1)::us) L.kIn Y) l U) λr s' J=>?_))
 cases r with
 |error e=>exact b pins c _ _ e s' L J|ok G =>
  cases G with
  |ret u =>
   walk;let(v,n,z,i,B,g):=L.after J;subst B;x_go;exact(i,(V.ref (s⁻¹+1),n,z,rfl,g))
  |next=>exact False.elim J
  |brk=>exact False.elim J|cont=>exact False.elim J
theorem FV(M:Mk X.K C f)(F:FnOk X.prog X.w X.K X.mg X.base CX k f fd ps sp)(m:Room (k+1) X.A)(d:Gl X x)(l:X.mg x\(.ref C))(U:Binds X.K fd ps ds)(hd:Vals dvs ds)(n:rW CX X E)
  (c:PA X (e::es) t) (J:NoDb x) (he:SE X e es) (hpl:BA X pos es) :
  PE X (.Call (.Name x p) (e::es) [] pos) (KZ C sp dvs E t):=by
 intro pins s u H Q I h;refine zyP (eA I d l ?_ J);refine zxb (h₀:=X.base) I.ok.mod.kin M.kp (thnE (c pos pins s u H _ I h) λus s1 vs H1 L r q=>(L.kIn,?_)) he hpl;exact Ct M F m U hd n L r q
end
structure er(N P:List Str)(sc:Scope):Prop where
 kind:sc.kind=.function
 co:sc.isCoroutine=false
 gen:sc.isGenerator=false
 nd:N.Nodup
 pre:N.take P.length=P
 par:∀x∈P,sc.names.lookup x\.local∨sc.names.lookup x\.cell
 nofree:∀y∈sc.names,y.2 ≠ .free
theorem rX{kindOf:Str->aT zbD}{x:Str}:∀{binds:av (Str×ax)}{m:Str->aT ax},(∀v,(x,v)∉binds)->bindL kindOf binds m x=m x
 |[],_,_=>rfl|(n,v)::r,m,h=>by
  unfold bindL;rw[rX λw c=>h w (zzc _ c)];split
  .have:x≠n:=by rintro rfl;exact h v zzd
   simp[this]
  .rfl
theorem rY{kindOf:Str->aT zbD}{x:Str}:∀{binds:av (Str×ax)}{m:Str->aT ax},(∀v,(x,v)∉binds)->bindC kindOf binds m x=m x
 |[],_,_=>rfl|(n,v)::r,m,h=>by
  unfold bindC;rw[rY λw c=>h w (zzc _ c)];split
  .rfl
  .have:x≠n:=by rintro rfl;exact h v zzd
   simp[this]
theorem rZ{kindOf:Str->aT zbD}{x:Str}{v:ax}:∀{P:av Str}{vs:av ax}{i:Nat}{m:Str->aT ax},P.Nodup->P[i]?\x->vs[i]?\v->kindOf x\.local ->
  bindL kindOf (P.zip vs) m x\v
 |[],_,_,_,_,h,_,_=>by simp at h
 |_::_,[],_,_,_,_,h,_=>by simp at h
 |p::P,w::vs,0,m,l,c,d,J=>by simp at c d;subst c;subst d;show bindL kindOf ((p,w)::P.zip vs) m p=_;unfold bindL;rw[rX λv L=>(zye.mp l).1 (zxt L).1,zzu J];simp
 |p::P,w::vs,i+1,m,l,c,d,J=>by unfold bindL;exact rZ (zye.mp l).2 (by simpa using c) (by simpa using d) J
theorem se{kindOf:Str->aT zbD}{x:Str}{v:ax}:∀{P:av Str}{vs:av ax}{i:Nat}{m:Str->aT ax},P.Nodup->P[i]?\x->vs[i]?\v->kindOf x≠some .local ->
  bindC kindOf (P.zip vs) m x\v
 |[],_,_,_,_,h,_,_=>by simp at h
 |_::_,[],_,_,_,_,h,_=>by simp at h
 |p::P,w::vs,0,m,l,c,d,J=>by simp at c d;subst c;subst d;show bindC kindOf ((p,w)::P.zip vs) m p=_;unfold bindC;rw[rY λv L=>(zye.mp l).1 (zxt L).1,zzn J];simp
 |p::P,w::vs,i+1,m,l,c,d,J=>by unfold bindC;exact se (zye.mp l).2 (by simpa using c) (by simpa using d) J
noncomputable def start(N:av Str)(vs:av V):St:=vs.map some++zad (N.length-vs.length) none
noncomputable def cxOf(CX:CXT)(P:cH)(w:World)(K:zvu)(mg:Str->aT ax)(base:cx)(N:av Str)(qual:Str)(scope:Scope)(f:ay)(cd:ax)(A:zas)(outer:av Env)(s:aM)(H:Hp)(E:XK):Cx where
 prog:=P
 w:=w
 K:=K
 mg:=mg
 base:=base
 A:=A.deeper (zbh qual scope s⁻¹ f cd)
 N:=N
 s₀:=s
 H₀:=H
 env:=zbh qual scope s⁻¹ f cd
 outer:=outer
 stack:=zbh qual scope s⁻¹ f cd::outer
 ex:=[]
 calm:=true
 fn:=λ_=>true
 pn:=[]
 xe:=λe s'=>wpAny (model P w) (A.deeper (zbh qual scope s⁻¹ f cd)) (leaving (zbh qual scope s⁻¹ f cd) e) (λ_ J=>CX outer H s E e J) (λL J=>CX outer H s E L J) s'
theorem wj{n:Nat}{x:Str}(h:sc.names.lookup x\.cell):∃c,(zaB n sc.names []).lookup x\c:=by have q:=zcB sc.names n [] (.inl h);exact zwr.mp q
theorem zF{P:cH}{w:World}{K:zvu}{base:cx}{f:ay}{outer:av Env}{H:Hp}{E:XK}{vs:av V}(S:er N ps sc)(hd:A.handled=none)(J:Env0 P w K mg base A outer s H)(hl:vs.length=ps.length)(r:Vals vs us)(x:InCallC s s⁻¹ (bindL (zbh j sc s⁻¹ f cd).kindOf (ps.zip us) λ_=>none) (zaB (s⁻¹+1) sc.names []) (bindC (zbh j sc s⁻¹ f cd).kindOf (ps.zip us) λ_=>none) s') :
  Inv (cxOf CX P w K mg base N j sc f cd A outer s H E) [] (start N vs) H s':=by
 have hpl:ps.length<=N.length:=by have:=congrArg zai S.pre;rw[zyv]at this;lia
 let(m,tk,rfl,B):=x.done;have L:∀b:ay,b∉(cxOf CX P w K mg base N j sc f cd A outer s H E).ex:=λb z=>absurd (show b∈([]:av ay) from z) 's';refine((J.mod,S.kind,rfl,rfl,zzs _,λy z c m d=>?_,λy l=>?_,λy c _ h=>?_,λ_=>hd,zas.frames_deeper J.frames,.inr (rfl,rfl),λb z=>absurd z (L b),J.bs,J.bsz,λb _ _=>L b,λb z=>absurd z (L b),J.funs,J.frf),
  rfl,J.bare,Un.kept B,(_,x.toInCall.ns,λi y v m d h3=>?_),λy c h=>(_,x.cell y c h),J.hok.fresh (zzs _),λy c h=>?_,λp U=>absurd (show p∈([]:av (ay×Obj)) from U) 's',J.hok.kept B,?_)
 .exact name_of_addr x.apart (zyd m) (zyd d)
 .have l:sc.names.lookup y\.cell∨sc.names.lookup y\.free:=l;rcases l with l|l
  .exact wj l
  .exact absurd rfl (S.nofree _ (zyd l))
 .exact zxh (x.above y c (zyd h))
 .have hi:i<vs.length:=by
   unfold start at d;by_cases hi:i<vs.length
   .exact hi
   .rw[zzR (by simpa using hi)]at d;rw[List.getElem?_replicate]at d;split at d<;>cases d
  have G:vs[i]?\v:=by
   unfold start at d;rw[zys (by simpa using hi),zzz]at d;cases e:vs[i]? with
   |none=>rw[e]at d;cases d
   |some a=>rw[e]at d;cases d;rfl
  let(u,C,I):=r.get G;have U:ps[i]?\y:=by rw[<-S.pre,zca 'l'];exact m
  have n:ps.Nodup:=by rw[<-S.pre];exact S.nd.sublist (List.take_sublist _ _)
  refine(u,I,?_);rcases S.par y (zzK U) with k|k
  .exact .inl (k,rZ n U C k)
  .let(c,e):=wj k;refine .inr (.inl k,c,e,?_);have q:=x.cell y c e;rw[se n U C (by show sc.names.lookup y≠_;rw[k];decide)]at q;exact q
 .exact J.hok.fresh (zxh (x.above y c (zyd h)))
 .unfold start;show _=N.length;rw[zzh,zza,zxS];lia
theorem zG{P:cH}{w:World}{K:zvu}{base:cx}{f:ay}{name:Str}{L:Arguments}{body:av Stmt}{doc ct oc:ax}{an od:aT ay}{B:Array (aT ax)}(lk:K.lookup f\(oc,od,.func (zaT name j L body sc dV cd doc pm an cdv ct),B))(T:zbo K cdv j=true)(S:er N ps sc)(len:∀vs H Q E,sp' vs H Q E->vs.length=ps.length)(U:∀(A:zas)(outer:av Env)(s:aM)(H:Hp)(vs:av V)(Q:VK)(E:XK),Room k (A.deeper (zbh j sc s⁻¹ f cdv))->sp' vs H Q E ->
   ∃t,PSs (cxOf CX P w K mg base N j sc f cdv A outer s H E) body t/\t {nx:=λ_ d=>Q .non d,rt:=Q} (start N vs) H) :
  FnOk P w K mg base CX (k+1) f (zaT name j L body sc dV cd doc pm an cdv ct) ps sp':=by
 refine(len,λA outer s H args us vs Q E z m g r G=>?_);have i:=len _ _ _ _ G;have KX:K.In s.heap:=m.mod.kin.keeps λb o e=>(m.bs b o e).1;have Y:s.heap.NoLimit:=m.mod.nolimit.keeps λb o e=>(m.bs b o e).1;have M:∀y∈ps.zip us,sc.names.lookup y.1\.local∨(sc.names.lookup y.1\.cell/\((zaB (s⁻¹+1) sc.names []).lookup y.1).isSome=true):=λ⟨n,v⟩ hy=>by
  rcases S.par n (zxt hy).1 with q|q
  .exact .inl q
  .exact .inr (q,zcB _ _ _ (.inl q))
 refine codeAny_call_function z.depth (KX _ _ lk) rfl S.co S.gen rfl (PySem.W.codeRec_of KX T) (g _ _ _ _ ?_);refine wpAny_newFunctionEnv_cells S.kind M λenv h s1 x=>?_;subst h;refine(Y.keeps x.toInCall.keep,codeAny_func ?_);let(t,ht,p):=U A outer s H vs Q E (z.deeper _) G;have I:Inv (cxOf CX P w K mg base N j sc f cdv A outer s H E) [] (start N vs) H s1:=zF S z.hd m i r x;refine zyg (ht [] s1 (start N vs) H _ I p) (λa s' l=>?_) λe s' l=>l;have fin:∀{c:St}{d:Hp}{v:V}{u:ax},Inv (cxOf CX P w K mg base N j sc f cdv A outer s H E) [] c d s'->RelV v u->Q v d->CE outer P w H s Q u s' :=
  λ{c d v u} J C q=>(v,d,J.os,J.bare,J.base,J.hok,C,q)
 cases a with
 |ret u =>
  let(v,c,d,J,C,q):=l;exact fin J C q
 |next =>
  let(c,d,J,q):=l;exact fin (v:=V.non) J rfl q
 |brk =>
  let(_,_,_,q):=l;exact False.elim q
 |cont =>
  let(_,_,_,q):=l;exact False.elim q
section
variable{X:Cx}{x:Str}{es:av cy}{t:TA}{id T:String}{r:av V->Hp->VK->Prop}
def tCB(r:av V->Hp->VK->Prop)(t:TA):TE:=λl H Q=>t l H λd c=>r d c Q
theorem eZ(U:df X (.builtin id) r)(m:Gl X x)(n:X.mg x=none)(u:zaG x\(.builtin id))(l:PA X (e::es) t)(q:x ≠ "__name__":=by decide)(J:NoDb x:=by decide)
  (he:SE X e es:=by rfl) (hpl:BA X pos es:=by rfl):PE X (.Call (.Name x p) (e::es) [] pos) (tCB r t):=by
 intro pins s c H Q I h;refine zyP (lG I m n u ?_ q J);exact PyProof.Rows.callWith_builtin1 (thnE (l pos pins s c H _ I h) λus z B d L w v=>U pins z c d B us Q L w v) he hpl
theorem iI(U:df X (.type T) r)(m:Gl X x)(n:X.mg x=none)(u:zaG x\(.type T))(l:PA X (e::es) t)(q:x ≠ "__name__":=by decide)(J:NoDb x:=by decide)
  (he:SE X e es:=by rfl) (hpl:BA X pos es:=by rfl):PE X (.Call (.Name x p) (e::es) [] pos) (tCB r t):=by
 intro pins s c H Q I h;refine zyP (lG I m n u ?_ q J);exact zaC (thnE (l pos pins s c H _ I h) λus z B d L w v=>U pins z c d B us Q L w v) he hpl
end
end Lake
namespace HT
open PySem PyProof.Rows
variable{b:ay}
noncomputable def lexLt:av Int->av Int->Bool
 |[],[]=>false|[],_::_=>true|_::_,[]=>false|x::a,y::c=>if x=y then lexLt a c else decide (x<y)
theorem lexLt_cons(x y:Int)(xs a:av Int):lexLt (x::xs) (y::a)=if x=y then lexLt xs a else decide (x<y):=rfl
theorem lexLt_nil_nil:lexLt [] []=false:=rfl
theorem lexLt_nil_cons(y:Int)(a:av Int):lexLt [] (y::a)=true:=rfl
theorem lexLt_cons_nil(x:Int)(xs:av Int):lexLt (x::xs) []=false:=rfl
theorem Cu(A:zas)(s:aM)(a:Int)(t:Tok)(c:Int)(u:Tok):∃e,zb8 A s (.int a t) (.int c u) e/\(e=true↔a=c) :=
 ((a==c),zaQ a t c u,'s')
theorem Cv(A:zas)(s:aM)(a:Int)(t:Tok)(c:Int)(u:Tok)(prog:cH)(w:World)(E:ax->aM->Prop)(Q:ax->aM->Prop)(h:Q (.bool (decide (a<c))) s) :
  wM prog w A (richCompare .Lt (.int a t) (.int c u)) Q E s :=
 (PyProof.Rows.lt_int h:wM prog w A (zae .Lt (.int a t) (.int c u)) Q E s)
section
open PySem.SeqAt
open PySem.AutoSeq1 (wpAny_loadPart')
open PySem.MeetsSeq PySem.MeetsSeq2 PySem.MeetsSeq3
theorem pW(l b:ay)(items items2:Array ax)(n n2:Nat)(dd Q:aT ay)(sl b7:Array (aT ax))(ns ms:av Int)(hi:zaU items.toList ns)(G:zaU items2.toList ms) :
  Meets (Builtin.«tuple.__lt__» ([.ref l,.ref b],[]))
   (λ_ R s=>s.heap.get? l=some {cls:=.type "tuple",dict:=dd,data:=.seq items n,slots:=sl}/\s.heap.get? b=some {cls:=.type "tuple",dict:=Q,data:=.seq items2 n2,slots:=b7} /\
    R (.ok (.ret (.bool (lexLt ns ms)))) s) :=
 .of_wp λj w A R s h=>by
  let(o,g,d,p,os):=s;let(hl,hb,h):=h;have f2:=zb7;have z1:items.size=ns.length:=by rw[<-hi.length];simp
  have z2:items2.size=ms.length:=by rw[<-G.length];simp
  wp_walk using wpAny_loadPart' hl,wpAny_loadPart' hb,wpAny_forIn_list _ (λrest b B=>b.1=none/\B=(o,g,d,p,os)/\∃(r v:av ax)(U L:av Int),rest=r.zip v /\
   zaU r U/\zaU v L/\U.length+items2.size=L.length+items.size/\R (.ok (.ret (.bool (lexLt U L)))) (o,g,d,p,os)) _
  case turn =>
   rintro⟨y,x⟩ rest b B ⟨E,rfl,r,v,U,L,k,z,m,J,i⟩;cases z with
   |nil=>rw[zbY]at k;cases k
   |cons a t M =>
    cases m with
    |nil=>rw[zxc]at k;cases k
    |cons c u N =>
     injection k with Y I;injection Y with hy hx;subst hy hx;rw[lexLt_cons]at i;simp only[zzl]at J;let(e,he,C):=Cu A.in1 (o,g,d,p,os) a t c u;refine zzb (he j w _ _ ?_);cases e with
     |true =>
      rw[zzu (C.mp rfl)]at i
      wp_walk
      exact(rfl,rfl,_,_,_,_,I,M,N,'l',i)
     |false =>
      rw[zzn (λq=>absurd (C.mpr q) zzL)]at i;have T:=Cv A.in1 (o,g,d,p,os) a t c u j w
      wp_walk using T
      exact(_,rfl,i)
  case fin =>
   rintro⟨b1,b2⟩ B ⟨E,rfl,r,v,U,L,k,z,m,J,i⟩;subst E;have H:lexLt U L=decide (items.size<items2.size):=by
    cases z with
    |nil =>
     cases m with
     |nil =>
      exact(zzo 'l').symm
     |cons c u hw =>
      simp only[zzY,zzl]at J;exact(zzj 'l').symm
    |cons a t H =>
     cases m with
     |nil =>
      simp only[zzY,zzl]at J;exact(zzo 'l').symm
     |cons c u hw =>
      cases k
   rw[H]at i
   wp_walk
   exact(_,rfl,i)
  case h =>
   exact(rfl,rfl,items.toList,items2.toList,ns,ms,rfl,hi,G,'l',h)
end
section
variable{prog:cH}{w:World}{A:zas}{E:ax->aM->Prop}{s:aM}
theorem lt_tupInts{l:ay}{items items2:Array ax}{ns ms:av Int}{Q:ax->aM->Prop}(m:IsTup s.heap l items)(i:IsTup s.heap b items2)(hi:zaU items.toList ns)(k:zaU items2.toList ms)(o:A.units<cLine)(h:Q (.bool (lexLt ns ms)) s):wM prog w A (zae .Lt (.ref l) (.ref b)) Q E s:=by
 walk;let((cls,g,data,sl),ho,j,n,hd):=id m;let((cls2,L,data2,e),J,U,p,d):=id i;subst j hd U d;x_go;exact zcC (op:=.Lt) (_,ho,rfl) (_,J,rfl) PySem.F.slot_tuple_lt PySem.F.entry_tuple_lt (PySem.F.args_tuple_lt_2 _ _) (pW l b items items2 n p g L sl e ns ms hi k)
  (ho,J,show za3 (lexLt ns ms)≠zcX/\Q (.bool (lexLt ns ms)) s from((λx=>nomatch x),h)) o
theorem cat_tup{t:ay}{vs ws:av ax}{Q:ax->aM->Prop}(q:IsTup s.heap t vs.toArray)(o:IsTup s.heap b ws.toArray)(d:vs≠[])(l:ws=[]->Q (.ref t) s)(m:ws≠[]->Q (.ref s⁻¹) {s with heap:=s.heap.push {cls:=.type "tuple",data:=.seq (vs++ws).toArray} })(hsz:vs.length+ws.length<=zaa):wM prog w A (zaA .Add (.ref t) (.ref b)) Q E s:=by
 walk;let((cls,c,data,sl),ho,p,n,hd):=id q;let((cls2,L,data2,U),J,j,h,k):=id o;subst p hd j k;x_go;have e:vs.toArray++ws.toArray=(vs++ws).toArray:='s'
 by_cases a:ws=[]
 .exact zed (_,ho,rfl) (_,J,rfl) zcw zdy zwG zwE (zws _ _)
   (tuple_addW1 t b vs.toArray ws.toArray n h c L sl U (by simpa using d) (by simp[a])) (ho,J,l a)
 .refine zed (_,ho,rfl) (_,J,rfl) zcw zdy zwG zwE (zws _ _)
   (tuple_addW2 t b vs.toArray ws.toArray n h c L sl U (by simpa using d) (by simpa using a) (by rw[zzF,zzF];exact hsz)) (ho,J,?_)
  rw[e];exact m a
noncomputable def sIx(n d:Nat):aT Int->Nat
 |none=>d|some v=>if v<0 then(v+(n:Int)).toNat else min v.toNat n
theorem sIx_none(n d:Nat):sIx n d none=d:=rfl
theorem sIx_nat(n d k:Nat):sIx n d (some (k:Int))=min k n:=by show (if (k:Int)<0 then((k:Int)+(n:Int)).toNat else min (k:Int).toNat n)=min k n;rw[zzn 'l',zzV]
end
end HT
namespace Lake
open PySem PySem.Spec PyProof.Rows
variable{A:zas}{E:ax->aM->Prop}{T:String}{a b:ay}{i:Int}{its us:av ax}{kvs:av (av Key×V)}{n t':Nat}{r r':R2}{s:aM}{y:V}{ys:av V}{α:Type}
variable{X:Cx}{e o:cy}{pos:Pos}{a:ay}{pins:av (ay×Obj)}{s:aM}
abbrev TO:=St->Hp->(aT Int->Hp->Prop)->Prop
def PO(X:Cx)(e:aT cy)(t:TO):Prop :=
 ∀(pins:av (ay×Obj))(s:aM)(c:St)(H:Hp)(Q:aT Int->Hp->Prop),Inv X pins c H s->t c H Q ->
  wX X (evalPart e X.env) (λu g=>∃o d,Inv X pins c d g/\IsPart u o/\Q o d) X.xe s
def FW:TO:=λ_ H Q=>Q none H
def La(t:TE):TO:=λd H Q=>t d H λx c=>∃i,x=.int i/\Q (some i) c
theorem jD{ns:av Int}:∀{us:av ax},Vals (ns.map V.int) us->zaU us ns:=by
 induction ns with
 |nil=>intro us r;cases r;exact .nil
 |cons n ns J =>
  intro us r;cases r with
  |cons L U =>
   let(t,e):=L;subst e;exact .cons n t (J U)
section
variable{te:TE}{lo hi:aT cy}{tl th:TO}{p2:Pos}
theorem FX:PO X none FW:=by intro pins s σ H Q I h;exact zzr (none,H,I,.none,h)
theorem FY(h:PE X e te):PO X (some e) (La te):=by intro pins s l H Q I d;refine thn (h pins s l H _ I d) λu s1 g=>?_;walk;let(x,c,U,k,j):=g;let(i,rfl,q):=j;let(t,rfl):=k;x_go;exact(some i,c,U,.int i t,q)
def SlR(X:Cx)(r:V->aT Int->aT Int->Hp->VK->Prop):Prop :=
 ∀(pins:av (ay×Obj))(s:aM)(c:St)(H:Hp)(x:V)(v vl J:ax)(lo hi:aT Int)(sl:ay)(Q:VK),Inv X pins c H s->RelV x v->s.heap.IsSliceOf sl vl J .none->IsPart vl lo->IsPart J hi->r x lo hi H Q ->
  ∃T id,typeLookup (.type T) "__getitem__" = pure (some (.builtin id))/\s.TypeIs v T/\wX X (zeP v (.ref sl)) (EP X pins c Q) X.xe s
def tSl(r:V->aT Int->aT Int->Hp->VK->Prop)(te:TE)(tl th:TO):TE:=λc H Q=>te c H λx d=>tl c d λl g=>th c g λu h=>r x l u h Q
theorem wm{r:V->aT Int->aT Int->Hp->VK->Prop}(Y:SlR X r)(he:PE X e te)(N:PO X lo tl)(i:PO X hi th):PE X (.Subscript e (.Slice lo hi none p2) pos) (tSl r te tl th):=by intro pins s d H Q I h;refine zd5 (thn (he pins s d H _ I h) λv s1 U=>?_);have(x,m,w,E,o):=U;refine wpAny_Slice (thnE (N pins s1 d m _ w o) λg s2 l p z pl y=>thn (i pins s2 d p _ z y) λj c U=>?_);have(u,k,B,n,A):=U;refine zzr ?_;have C:Inv X pins d k {c with heap:=c.heap.push {cls:=.type "slice",data:=.fields #[g,j,.none]} }:=B.kept (t':=c.toks) λb ob q=>zzf _ q;have(T,id,G,a,M):=Y pins {c with heap:=c.heap.push {cls:=.type "slice",data:=.fields #[g,j,.none]} } d k x v g j l u c⁻¹ Q C E (Heap.IsSliceOf.new ..) pl n A;exact tail_any (ops:=[.ref c⁻¹,v]) a G M (by with_unfolding_all rfl)
def cutV(xs:av V)(lo hi:aT Int):av V:=(xs.drop (HT.sIx xs.length 0 lo)).take (HT.sIx xs.length xs.length hi-HT.sIx xs.length 0 lo)
theorem uG(xs:av V)(lo hi:aT Int):(cutV xs lo hi).length<=xs.length:=by unfold cutV;rw[zyv,zxZ];exact zzk (Nat.min_le_right _ _) (ze0 _ _)
inductive rCatT(K:zvu)(x:V)(y:V)(H:Hp)(Q:VK):Prop
 |mk a b xs ys:x=.ref a->y=.ref b->SqT K H a xs->SqT K H b ys->xs≠[]->xs.length+ys.length <= zaa->(ys=[]->Q (.ref a) H)->(ys≠[]->∀p,H p=none->Q (.ref p) (upd H p (.tup (xs++ys))))->rCatT K x y H Q
theorem Vals.nil_iff{xs:av V}(r:Vals xs us):us=[]↔xs=[]:=by
 cases r with
 |nil=>simp|cons _ _=>simp
theorem FZ:OpR X (zaA .Add) (rCatT X.K):=by intro pins s σ H x y v u Q I B C h;have(a,b,G,ys,rfl,rfl,g,j,k,d,m,p):=h;cases B;cases C;walk;let(its,c,l,_):=I.tuple g;let(its2,L,p2,_):=I.tuple j;x_go;refine HT.cat_tup l p2 (λz=>k (c.nil_iff.mp z)) (λz=>(.ref a,H,I,rfl,m (L.nil_iff.mp z))) (λz=>?_) (by rw[<-c.length,<-L.length];exact d);refine(.ref s⁻¹,_,I.laid (t':=s.toks) (o:=.tup (G++ys)) (λb ob q=>zzf _ q) (zzs _) ?_,rfl,p (λw=>z (L.nil_iff.mpr w)) _ (I.hok.fresh (zzs _)));exact((by rw[zzh];exact d,.inl (_,zzx _ rfl,rfl)),_,c.append L,ze6 _ _)
end
noncomputable def ixN(n:Nat)(i:Int):aT Nat:=if 0<=i then(if i<n then some i.toNat else none) else if -(n:Int)<=i then some (i+n).toNat else none
def atI{α:Type}(xs:av α)(i:Int):aT α:=(ixN xs.length i).bind λj=>xs[j]?
theorem zH{n:Nat}{j:Nat}(h:ixN n i\j):seqIndex? i n\j/\j<n/\-(n:Int)<=i/\i<n:=by
 unfold ixN at h;by_cases h0:0<=i
 .rw[zzu h0]at h;by_cases c:i<n
  .rw[zzu c]at h;have e:i.toNat=j:=zzP h;exact(by rw[seqIndex_of h0 c,e],'l','l',c)
  .rw[zzn c]at h;cases h
 .rw[zzn h0]at h;by_cases c : -(n:Int)<=i
  .rw[zzu c]at h;have e:(i+n).toNat=j:=zzP h;exact(by rw[zel 'l' c,e],'l',c,'l')
  .rw[zzn c]at h;cases h
theorem lL{xs:av α}{v:α}(h:atI xs i\v):∃j,seqIndex? i xs.length\j/\xs[j]?\v/\j<xs.length/\-(xs.length:Int)<=i/\i<xs.length:=by
 unfold atI at h;cases e:ixN xs.length i with
 |none=>rw[e]at h;cases h
 |some j =>
  rw[e]at h;let(c,d,g,J):=zH e;exact(j,c,h,d,g,J)
theorem uH{xs:av α}{j:Nat}{v:α}(h:xs[j]?\v):atI xs (j:Int)\v:=by
 have hj:j<xs.length:=(zzC.mp h).1;have e:ixN xs.length (j:Int)\j:=by unfold ixN;rw[zzu 'l',zzu 'l'];simp
 unfold atI;rw[e];exact h
def jE(b:cy):Prop:=∀o i,zdj b false o i=operate [o,i] (zeP o i)
def IxR(X:Cx)(r:R2):Prop :=
 ∀(value slice:cy)(pins:av (ay×Obj))(s:aM)(c:St)(H:Hp)(x y:V)(v u:ax)(Q:VK),Inv X pins c H s->RelV x v->RelV y u->r x y H Q ->
  zdj slice false v u=operate [v,u] (zeP v u)->wX X (subscriptTail value slice v u) (EP X pins c Q) X.xe s
def MtR(X:Cx)(id:String)(r:V->av V->Hp->VK->Prop):Prop :=
 ∀(pins:av (ay×Obj))(s:aM)(d:St)(H:Hp)(x:V)(c:av V)(v:ax)(us:av ax)(Q:VK),Inv X pins d H s->RelV x v->Vals c us->r x c H Q ->
  wX X (call (.builtin id) (v::us)) (EP X pins d Q) X.xe s
section
variable{a b:cy}{ta tb:TE}
theorem IxR.or(h:IxR X r)(h':IxR X r'):IxR X (λx y H Q=>r x y H Q∨r' x y H Q):=by
 intro value slice pins s d H x y v u Q I J L q c;rcases q with q|q
 .exact h value slice pins s d H x y v u Q I J L q c
 .exact h' value slice pins s d H x y v u Q I J L q c
theorem xT(g:IxR X r)(d:PE X a ta)(L:PE X b tb)(hs:jE b):PE X (.Subscript a b pos) (tOp r ta tb):=by intro pins s l H Q I h;exact zd5 (binT d L I h λv u k x y c J U j q=>g a b pins k l c x y v u Q J U j q (hs _ _))
inductive rIxL(K:zvu)(x:V)(y:V)(H:Hp)(Q:VK):Prop
 |mk p xs i v:x=.ref p->y=.int i->SqL K H p xs->atI xs i\v->Q v H->rIxL K x y H Q
inductive rIxT(K:zvu)(x:V)(y:V)(H:Hp)(Q:VK):Prop
 |mk p xs i v:x=.ref p->y=.int i->SqT K H p xs->atI xs i\v->Q v H->rIxT K x y H Q
inductive rIxS(x:V)(y:V)(H:Hp)(Q:VK):Prop
 |mk z i c:x=.str z->y=.int i->z.length <= zaa->atI z.cps.toList i\c->Q (.str ⟨#[c]⟩) H->rIxS x y H Q
theorem pX:IxR X (rIxL X.K):=by
 intro value slice pins s k H x y v u Q I Y a h g;have(p,xs,i,z,rfl,rfl,N,G,q):=h;cases Y;walk;let(t,rfl):=a;let(its,r,pl,hz):=I.list N;let(j,c,m,h3,B,C):=lL G;let(w,d,l):=r.get m;x_go;have M:=r.length;have hn:=oN;have fin:EP X pins k Q w s:=(z,H,I,l,q);by_cases h0:0<=i
 .have U:i.toNat=j:=by
   rw[seqIndex_of h0 C]at c;exact zzP c
  exact item_listR pl.isList h0 'l' (by rw[U];simpa using d) fin g
 .have U:(i+(its.toArray.size:Int)).toNat=j:=by
   rw[zel 'l' B]at c;rw[zzF,<-M];exact zzP c
  exact zwH (x:=w) pl.isList.typeIs slot_list_getitem.lookup
   (wpAny_getItem_list_neg (Q:=λr b=>r=w/\EP X pins k Q r b) pl.isList 'l' (by rw[zzF]<;>lia) 'l' (by rw[U];simpa using d) (rfl,fin)) g
theorem Iz:IxR X (rIxT X.K):=by
 intro value slice pins s c H x y v u Q I G M h C;have(p,xs,i,z,rfl,rfl,B,l,q):=h;cases G;walk;let(t,rfl):=M;let(its,r,pl,hz):=I.tuple B;let(j,g,k,h3,h4,h5):=lL l;let(w,d,U):=r.get k;x_go;have m:=r.length;have hn:=oN;have fin:EP X pins c Q w s:=(z,H,I,U,q);exact zwH (x:=w) pl.typeIs slot_tuple_getitem.lookup
  (getItem_tuple (j:=j) (Q:=λr N=>r=w/\EP X pins c Q r N) pl 'l' 'l' (by rw[zzF,<-m];exact g) (by simpa using d) (rfl,fin)) C
theorem IA:IxR X rIxS:=by
 intro value slice pins s σ H x y v u Q I C G h B;walk;let(z,i,c,rfl,rfl,hz,p,q):=h;let(t,rfl):=C;let(t',rfl):=G;let(j,d,l,h3,U,m):=lL p;x_go;have w:z.cps.toList.length=z.length:=rfl;rw[w]at d U m;have hn:=oN;exact tail_any (zwU s z t) slot_str_getitem.lookup (getItem_str (c:=c) (by have g:decide (i < -(2^63:Int))=false:=zzo 'l';have k:decide (i ≥ 2^63)=false:=zzo 'l';rw[g,k,Bool.or_false]) (by rw[d];simpa using l) (.str ⟨#[c]⟩,H,I.tok _,(_,rfl),q)) B
theorem xU(its:av ax)(n j:Nat)(u:ax):zaD (·.setIfInBounds j u) {cls:=.type "list",data:=.seq its.toArray n}={cls:=.type "list",data:=.seq (its.set j u).toArray n}:=by simp[zaD]
theorem Inv.lst{pins:av (ay×Obj)}{c:St}{H:Hp}{s:aM}{p:ay}{xs:av V}(I:Inv X pins c H s)(h:H p\(.lst xs)) :
  ∃(its:av ax)(n:Nat),Vals xs its/\s.heap.get? p=some {cls:=.type "list",data:=.seq its.toArray n}/\xs.length<=zaa:=by
 have(z,its,n,r,e):=I.hok p _ h;exact(its,n,r,e,z)
theorem Inv.lstUpd{pins:av (ay×Obj)}{c:St}{H:Hp}{s:aM}{p:ay}{xs:av V}{its':av ax}{f:Obj->Obj}(I:Inv X pins c H s)(h:H p\(.lst xs))(ho:s.heap.get? p=some {cls:=.type "list",data:=.seq its.toArray n})(J:f {cls:=.type "list",data:=.seq its.toArray n}={cls:=.type "list",data:=.seq its'.toArray t' })(r:Vals ys its')(hz:ys.length<=zaa)(t:Nat) :
  Inv X pins c (upd H p (.lst ys)) {s with heap:=s.heap.update p f,toks:=t}:=by
 have e:(s.heap.update p f).get? p=some {cls:=.type "list",data:=.seq its'.toArray t' }:=by rw[zyO f ho (by rw[J]<;>rfl),J]
 refine I.write (by rw[h];trivial) (.inl rfl) (λb u L q=>(zxP _ _ (Ne.symm L)).trans q) (_,e) ?_;exact(hz,its',t',r,e)
inductive rSetL(o:V)(i:V)(v:V)(H:Hp)(Q:(Hp->Prop)):Prop
 |mk p xs k j:o=.ref p->i=.int k->H p\(.lst xs)->ixN xs.length k\j->Q (upd H p (.lst (xs.set j v)))->rSetL o i v H Q
theorem pY:PSet X rSetL:=by
 intro pins s N H o i v ov iv u Q I C B G h;have(p,M,k,j,rfl,rfl,w,x,q):=h;cases C;walk;let(t,rfl):=B;let(its,n,r,ho,z):=I.lst w;let(c,h2,l,m):=zH x;x_go;have d:=r.length;have hn:=oN;have g:Inv X pins N (upd H p (.lst (M.set j v))) {s with heap:=s.heap.update p (zaD (·.setIfInBounds j u))} :=
  I.lstUpd w ho (xU its n j u) (r.set G j) (by rw[zeC];exact z) s.toks
 by_cases h0:0<=k
 .have U:k.toNat=j:=by
   rw[seqIndex_of h0 m]at c;exact zzP c
  exact PySem.W.ki_setAt ho h0 'l' (by rw[zzF,<-d];exact m) (by rw[U];exact(_,g,q))
 .have U:(k+(its.toArray.size:Int)).toNat=j:=by
   rw[zel 'l' l]at c;rw[zzF,<-d];exact zzP c
  exact PySem.W.ki_setBack ho 'l' (by rw[zzF,<-d];exact l) 'l' (by rw[U];exact(_,g,q))
theorem sb1(h:i<0):max 0 (min (i+n) n)=((i+n).toNat:Int):=by rw[Int.min_eq_left 'l',Int.ofNat_toNat,Int.max_comm]
theorem sb2{n:Nat}(h:¬i<0):max 0 (min i n)=((min i.toNat n:Nat):Int):=by
 let(k,rfl):=zyq (Int.not_lt.mp h);rw[zzV];rcases Nat.le_total k n with z|z
 .rw[zwn z,Int.min_eq_left (Int.ofNat_le.mpr z)];exact zex (zwt k)
 .rw[Nat.min_eq_right z,Int.min_eq_right (Int.ofNat_le.mpr z)];exact zex (zwt n)
theorem sf(lo hi:aT Int)(n:Nat):(zbj lo hi none n).1=((HT.sIx n 0 lo:Nat):Int)/\(zbj lo hi none n).2.1=((HT.sIx n n hi:Nat):Int)/\(zbj lo hi none n).2.2=1:=by
 refine(?_,?_,rfl)
 .cases lo with
  |none=>simp[zbj,HT.sIx]|some i =>
   simp only[zbj,HT.sIx,zep,show (1:Int)>0 by decide,if_true];by_cases h:i<0
   .simp only[h,if_true];exact sb1 h
   .simp only[h,if_false];exact sb2 h
 .cases hi with
  |none=>simp[zbj,HT.sIx]|some i =>
   simp only[zbj,HT.sIx,zep,show (1:Int)>0 by decide,if_true];by_cases h:i<0
   .simp only[h,if_true];exact sb1 h
   .simp only[h,if_false];exact sb2 h
theorem pZ(its:av ax)(lo hi:aT Int):slicePick its.toArray lo hi none=((its.drop (HT.sIx its.length 0 lo)).take (HT.sIx its.length its.length hi-HT.sIx its.length 0 lo)).toArray:=by have(c,d,g):=sf lo hi its.toArray.size;unfold slicePick;rw[c,d,g];simp only[sliceRange_one,pick_run,zzF]<;>rfl
inductive rSlL(K:zvu)(x:V)(lo:Option Int)(hi:Option Int)(H:Hp)(Q:VK):Prop
 |mk a xs:x=.ref a->SqL K H a xs->(∀p,H p=none->Q (.ref p) (upd H p (.lst (cutV xs lo hi))))->rSlL K x lo hi H Q
theorem Ga:SlR X (rSlL X.K):=by intro pins s σ H x v vl vu lo d sl Q I p j pl m h;have(a,c,rfl,k,q):=h;cases p;have(its,r,g,l):=I.list k;have J:=r.length;refine("list",_,slot_list_getitem.lookup,g.isList.typeIs,?_);refine wpAny_getItem_list_slice g.isList j pl m .none 's' ?_ (by rw[zzF]<;>lia);rw[pZ,<-J];refine(.ref s⁻¹,_,I.laid (t':=s.toks) (o:=.lst (cutV c lo d)) (λb ob q=>zzf _ q) (zzs _) ?_,rfl,q _ (I.hok.fresh (zzs _)));exact(zzk (uG c lo d) l,_,0,(r.drop (HT.sIx c.length 0 lo)).take (HT.sIx c.length c.length d-HT.sIx c.length 0 lo),zzx _ rfl)
noncomputable def fQ:V->Bool
 |.non=>true|.bl _=>true|.int _=>true|.str _=>true|_=>false
noncomputable def eqV:V->V->Bool
 |.non,.non=>true|.bl a,.bl b=>a==b|.bl a,.int b=>(if a then 1 else 0)==b|.int a,.bl b=>a==(if b then 1 else 0)|.int a,.int b=>a==b|.str a,.str b=>a==b|_,_=>false
theorem IB{x:V}{u v:ax}(U:RelV y u)(J:RelV x v)(c:fQ y=true)(L:fQ x=true):zb8 A s u v (eqV y x):=by
 cases y with
 |non =>
  cases U;cases x with
  |non=>cases J;exact zb8.same _
  |bl b=>cases J;exact zb8.none_bool b
  |int b=>let(t,rfl):=J;exact zb8.none_int b t
  |str b=>let(t,rfl):=J;exact zb8.none_str b t
  |_=>exact absurd (show false=true from L) zzL
 |bl a =>
  cases U;cases x with
  |non=>cases J;exact zb8.bool_none a
  |bl b=>cases J;exact zb8.bool_bool a b
  |int b=>let(t,rfl):=J;exact zb8.bool_int a b t
  |str b=>let(t,rfl):=J;exact zb8.bool_str a b t
  |_=>exact absurd (show false=true from L) zzL
 |int a =>
  let(t',rfl):=U;cases x with
  |non=>cases J;exact zb8.int_none a t'
  |bl b=>cases J;exact zb8.int_bool a t' b
  |int b=>let(t,rfl):=J;exact zaQ a t' b t
  |str b=>let(t,rfl):=J;exact zb8.int_str a t' b t
  |_=>exact absurd (show false=true from L) zzL
 |str a =>
  let(t',rfl):=U;cases x with
  |non=>cases J;exact zb8.str_none a t'
  |bl b=>cases J;exact zb8.str_bool a t' b
  |int b=>let(t,rfl):=J;exact zb8.str_int a t' b t
  |str b=>let(t,rfl):=J;exact zb8.str_str a t' b t
  |_=>exact absurd (show false=true from L) zzL
 |_=>exact absurd (show false=true from c) zzL
def eqU(x:V)(u:ax):Bool:=match u with
 |.none=>eqV .non x|.bool b=>eqV (.bl b) x|.int i _=>eqV (.int i) x|.str z _=>eqV (.str z) x|_=>false
theorem wq{x:V}{u:ax}(r:RelV y u)(f:fQ y=true):eqU x u=eqV y x:=by
 cases y with
 |non=>cases r;rfl
 |bl b=>cases r;rfl
 |int i=>let(t,rfl):=r;rfl
 |str z=>let(t,rfl):=r;rfl
 |_=>exact absurd (show false=true from f) zzL
theorem qa{x:V}:∀{xs:av V}{us:av ax},Vals xs us->xs.all fQ=true->us.any (eqU x)=xs.any λy=>eqV y x:=by
 intro xs us h f
 induction h with
 |nil=>rfl|cons r t J =>
  rw[zwN,zya]at f;rw[zwf,zwf,wq r f.1,J f.2]
theorem gx{x:V}{v:ax}(c:RelV x v)(L:fQ x=true):∀{xs:av V}{us:av ax},Vals xs us->xs.all fQ=true->∀u∈us,zb8 A s u v (eqU x u):=by
 intro xs us h f u' J
 induction h with
 |nil=>cases J
 |cons r t U =>
  rw[zwN,zya]at f;rcases zze.mp J with rfl|J
  .rw[wq r f.1];exact IB r c f.1 L
  .exact U f.2 J
def inV(x:V)(xs:av V):Bool:=xs.any λy=>eqV y x
inductive rIn(K:zvu)(neg:Bool)(x:V)(y:V)(H:Hp)(Q:VK):Prop
 |mk p xs:y=.ref p->(SqL K H p xs∨SqT K H p xs)->fQ x=true->xs.all fQ=true->Q (.bl (if neg then !inV x xs else inV x xs)) H->rIn K neg x y H Q
theorem zI:OpR X (zae .In) (rIn X.K false):=by
 intro pins s σ H x y v u Q I d k h;have(p,xs,rfl,J,L,fs,q):=h;cases k;rcases J with J|J
 .let(its,r,pl,j):=I.list J;refine SeqAt.in_listAt (eqU x) pl.isList (λw c=>gx d L r fs w (by simpa using c)) (.bl _,H,I,rfl,?_);rw[show its.toArray.any (eqU x)=its.any (eqU x) by simp,qa r fs];exact q
 .let(its,r,pl,j):=I.tuple J;refine SeqAt.in_tupleAt (eqU x) pl (λw c=>gx d L r fs w (by simpa using c)) (.bl _,H,I,rfl,?_);rw[show its.toArray.any (eqU x)=its.any (eqU x) by simp,qa r fs];exact q
theorem sg:OpR X (zae .NotIn) (rIn X.K true):=by
 intro pins s σ H x y v u Q I U g h;let(p,xs,rfl,J,L,fs,q):=h;cases g;rcases J with J|J
 .let(its,r,pl,d):=I.list J;refine SeqAt.notIn_listAt (eqU x) pl.isList (λw c=>gx U L r fs w (by simpa using c)) (.bl _,H,I,rfl,?_);rw[show its.toArray.any (eqU x)=its.any (eqU x) by simp,qa r fs];exact q
 .let(its,r,pl,d):=I.tuple J;refine SeqAt.notIn_tupleAt (eqU x) pl (λw c=>gx U L r fs w (by simpa using c)) (.bl _,H,I,rfl,?_);rw[show its.toArray.any (eqU x)=its.any (eqU x) by simp,qa r fs];exact q
theorem dq:df X (.builtin "len") (λxs H Q=>∃p ys,xs=[.ref p]/\(SqL X.K H p ys∨SqT X.K H p ys)/\Q (.int ys.length) H):=by
 intro pins s σ H xs us Q I r h;walk;let(p,ys,rfl,L,q):=h;let(u,rfl,g):=fW r;x_go;cases g;have hn:=oN;rcases L with L|L
 .let(its,r',pl,d):=I.list L;have J:=r'.length;exact Calls.call_len_list pl.isList (by simp only[zzF]<;>lia) (.int ys.length,H,I.tok _,(s.toks+1,by rw[zzF,J]),q)
 .let(its,r',pl,d):=I.tuple L;have J:=r'.length;exact len_tuple pl (by simp only[zzF]<;>lia) (.int ys.length,H,I.tok _,(s.toks+1,by rw[zzF,J]),q)
theorem si:df X (.builtin "len") (λxs H Q=>∃z,xs=[.str z]/\z.length<=zaa/\Q (.int z.length) H):=by intro pins s σ H xs us Q I r h;let(z,rfl,hz,q):=h;let(u,rfl,t,rfl):=fW r;have hn:=oN;exact len_str 'l' (.int z.length,H,I.tok _,(_,rfl),q)
theorem sr:df X (.type "list") (λxs H Q=>∃p ys,xs=[.ref p]/\(SqL X.K H p ys∨SqT X.K H p ys)/\∀l,H l=none->Q (.ref l) (upd H l (.lst ys))):=by
 intro pins s z H xs us Q I r h;walk;let(p,ys,rfl,d,q):=h;let(u,rfl,x):=fW r;x_go;cases x;have fin:∀(its:av ax),Vals ys its->ys.length<=zaa->∀(c:cx)(L:Nat),(∀b m,s.heap.get? b\m->c.get? b\m) ->
   c.get? s⁻¹=some {cls:=.type "list",dict:=none,data:=.seq its.toArray L,slots:=#[]}->EP X pins z Q (.ref s⁻¹) {s with heap:=c}:=λits r' g c L j e =>
  (.ref s⁻¹,_,I.laid (t':=s.toks) j (zzs _) (show ObjOk X.prog X.w _ c _ (.lst ys) from(g,its,L,r',e)),rfl,q _ (I.hok.fresh (zzs _)))
 rcases d with d|d
 .let(its,r',pl,g):=I.list d;have v:=r'.length;have(o,ho,k,n,hd):=pl.isList;exact call_list_seq p (.inl rfl) ho k hd (λc L j e=>fin its r' g c L j e) (by simp only[zzF]<;>lia)
 .let(its,r',pl,g):=I.tuple d;have v:=r'.length;have(o,ho,k,n,hd):=pl;exact call_list_seq p (.inr rfl) ho k hd (λc L j e=>fin its r' g c L j e) (by simp only[zzF]<;>lia)
theorem qc:df X (.type "tuple") (λxs H Q=>∃p ys,xs=[.ref p]/\((SqL X.K H p ys/\∀l,H l=none->Q (.ref l) (upd H l (.tup ys)))∨(SqT X.K H p ys/\Q (.ref p) H))):=by
 intro pins s g H xs us Q I r h;let(p,ys,rfl,h):=h;let(u,rfl,k):=fW r;cases k;rcases h with ⟨J,q⟩|⟨J,q⟩
 .let(its,r',pl,d):=I.list J;have hlen:=r'.length;refine call_tuple_list pl.isList (λc j=>?_) (by simp only[zzF]<;>lia);have L:Inv X pins g H {s with heap:=c}:=I.kept j;have U:Inv X pins g (upd H c.objs.size (.tup ys)) {s with heap:=c.push {cls:=.type "tuple",data:=.seq its.toArray} } :=
   L.laid (λb o e=>zzf _ e) (zzs _) (show ObjOk X.prog X.w _ _ _ (.tup ys) from((d,.inl (_,zzx _ rfl,rfl)),its,r',ze6 _ _))
  exact(.ref c.objs.size,_,U,rfl,q _ (L.hok.fresh (zzs _)))
 .let(its,r',pl,d):=I.tuple J;exact call_tuple_same pl (.ref p,H,I,rfl,q)
def tyV(K:zvu)(T:String)(x:V)(H:Hp):Prop:=match x with
 |.str _=>T = "str"|.int _=>T = "int"| .ref p=>(T = "list" /\ ∃c,SqL K H p c)∨(T = "tuple" /\ ∃o,K.lookup p\o/\o.cls=.type "tuple" /\ o.dict=none) ∨
   (T = "dict" /\ ((∃kvs,H p\(.dK kvs))∨∃kvs,H p\(.dT kvs)))∨(T = "set" /\ ∃S n,H p\(.set S n))
 |_=>False
theorem EM{pins:av (ay×Obj)}{g:St}{H:Hp}{x:V}{v:ax}(I:Inv X pins g H s)(r:RelV x v)(ty:tyV X.K T x H) :
  s.TypeIs v T/\∀a,v=.ref a->∃ob,s.heap.get? a\ob/\ob.dict=none:=by
 cases x with
 |str z =>
  let(t,rfl):=r;cases (show T = "str" from ty);exact(zwU s z t,λ_ e=>nomatch e)
 |int i =>
  let(t,rfl):=r;cases (show T = "int" from ty);exact(typeIs_int s i t,λ_ e=>nomatch e)
 |ref p =>
  cases r;rcases ty with ⟨rfl,xs,U⟩|⟨rfl,o,J,L,hd⟩|⟨rfl,J⟩|⟨rfl,S,n,J⟩
  .let(its,_,pl,_):=I.list U;refine(pl.isList.typeIs,λa e=>?_);cases e;let(o,n,e,c,hd,_):=pl;exact(o,e,hd)
  .refine((o,I.kIn p o J,L),λa e=>?_);cases e;exact(o,I.kIn _ o J,hd)
  .have z:∃o,s.heap.get? p\o/\o.ExactDict:=by
    rcases J with ⟨kvs,J⟩|⟨kvs,J⟩
    .let(_,_,_,_,o,_,_,e,ex,_):=I.hok p _ J;exact(o,e,ex)
    .let(_,_,_,_,o,_,_,e,ex,_):=I.hok p _ J;exact(o,e,ex)
   let(o,e,ex):=z;refine((o,e,ex.1),λa d=>?_);cases d;exact(o,e,ex.2.1)
  .let(o,_,_,_,e,ex,_):=I.hok p _ J;refine((o,e,ex.1),λa d=>?_);cases d;exact(o,e,ex.2.1)
 |_=>exact False.elim ty
def tBM0(K:zvu)(T:String)(r:V->av V->Hp->VK->Prop)(to:TE):TE:=λd H Q=>to d H λx c=>tyV K T x c/\r x [] c Q
def tBM(K:zvu)(T:String)(r:V->av V->Hp->VK->Prop)(to:TE)(t:TA):TE:=λd H Q=>to d H λx c=>tyV K T x c/\t d c λh g=>r x h g Q
variable{es:av cy}{to:TE}{t:TA}{name:Str}{apos cpos:Pos}{T id:String}{r:V->av V->Hp->VK->Prop}
theorem IC(u:PlainAttrs T)(slot:Slot T name id)(U:zdJ (.builtin id)=pure (.type "method_descriptor"))(q:MtR X id r)(ho:PE X o to)
  (J:zag o name X.env (eval o X.env)=eval o X.env) (L:(apos.endLine==cpos.line)=true):PE X (.Call (.Attribute o name apos) [] [] cpos) (tBM0 X.K T r to):=by
 intro pins s j H Q I h;refine wpAny_Call_method0_late J L (thn (ho pins s j H _ I h) λv B w=>?_);walk;let(x,l,c,g,ty,z):=w;let(m,p):=EM c g ty;x_go;exact(T,id,u,slot,U,m,p,zcz rfl (PySem.evalArgs_none (q pins B j l x [] v [] Q c g .nil z)))
theorem ss(M:PlainAttrs T)(slot:Slot T name id)(w:zdJ (.builtin id)=pure (.type "method_descriptor"))(G:MtR X id r)(ho:PE X o to)(C:PA X (e::es) t)
  (L:zag o name X.env (eval o X.env)=eval o X.env)
  (u:HF X cpos (e::es))
  (U:(apos.endLine==cpos.line)=true) (hs:SE X e es) (J:BA X cpos es) :
  PE X (.Call (.Attribute o name apos) (e::es) [] cpos) (tBM X.K T r to t):=by
 intro pins s c H Q I h;refine wpAny_Call_method_late L u U rfl (thn (ho pins s c H _ I h) λv i N=>?_);walk;let(x,m,d,k,ty,Y):=N;let(z,B):=EM d k ty;x_go;refine(T,id,M,slot,w,z,B,?_);have g:=C cpos pins i c m _ d Y;rw[hs]at g⊢;refine zcz (by show (false || (zbH cpos (zaj es X.env)).any (·.1))=false;rw[J]<;>rfl) (zc4 ?_);exact thn g λus n ⟨y,p,q,b,a⟩=>G pins n c p x y v us Q q k b a
end
def MtM(X:Cx)(id:String)(r:V->av V->Hp->VK->Prop):Prop :=
 ∀(pins:av (ay×Obj))(s:aM)(d:St)(H:Hp)(x:V)(c:av V)(v:ax)(us:av ax)(Q:VK),Inv X pins d H s->RelV x v->Vals c us->r x c H Q ->
  wX X (call (.builtin id) (v::us)) (EP X pins d Q) X.xe s
theorem Vals.one:∀{x:V}{us:av ax},Vals [x] us->∃u,us=[u]/\RelV x u:=by rintro _ _ (_|⟨r,⟨⟩⟩);exact(_,rfl,r)
theorem Vals.two:∀{x y:V}{us:av ax},Vals [x,y] us->∃u v,us=[u,v]/\RelV x u/\RelV y v:=by rintro _ _ _ (_|⟨r,_|⟨q,⟨⟩⟩⟩);exact(_,_,rfl,r,q)
theorem Vals.zero:∀{us:av ax},Vals [] us->us=[]
 |_,.nil=>rfl
theorem Vals.dropLast{xs:av V}{us:av ax}(h:Vals xs us):Vals xs.dropLast us.dropLast:=by
 induction h with
 |nil=>exact .nil|cons r t J =>
  cases t with
  |nil=>exact .nil|cons q t'=>exact .cons r J
theorem Vals.rep{xs:av V}{us:av ax}(h:Vals xs us):∀k:Nat,Vals (zad k xs).flatten (zad k us).flatten
 |0=>.nil|k+1=>by exact Vals.append h (Vals.rep h k)
theorem xV(l:av α):l.eraseIdx (l.length-1)=l.dropLast:=by
 induction l with
 |nil=>rfl|cons a r J =>
  cases r with
  |nil=>rfl|cons b r =>
   have e:(a::b::r).length-1=((b::r).length-1)+1:=rfl;rw[e,List.eraseIdx_cons_succ,J]
   all_goals rfl
theorem su(its:av ax):∀(k:Nat)(acc:av ax),
  zdM (λd g=>d++g) acc.toArray (zad k its.toArray)=(acc++(zad k its).flatten).toArray
 |0,acc=>'s'
 |k+1,acc=>by
  have e:acc.toArray++its.toArray=(acc++its).toArray:='s'
  have c:(acc++its)++(zad k its).flatten=acc++(zad (k+1) its).flatten:=by rw[zxF,zb4,zzI]
  rw[<-c,<-su its k (acc++its),<-e,zxF,zwo]
section
variable{σ:St}{H:Hp}{l:ay}{xs ys:av V}
theorem Inv.lset{its':av ax}{f:Array ax->Array ax}(I:Inv X pins σ H s)(J:H l\(.lst xs))(e:s.heap.get? l=some {cls:=.type "list",data:=.seq its.toArray n})(U:f its.toArray=its'.toArray)(d:Vals ys its')(hz:ys.length<=zaa) :
  Inv X pins σ (upd H l (.lst ys)) {s with heap:=s.heap.update l (zaD f),toks:=t' }:=by
 have q:=PySem.IsL.update e f;rw[U]at q;refine I.write (by rw[J];exact trivial) (.inl rfl) (λb' u L c=>(zxP s.heap (zaD f) (Ne.symm L)).trans c) (_,q) ?_;exact(hz,its',_,d,q)
theorem Inv.lnew(I:Inv X pins σ H s)(J:Vals ys its)(hz:ys.length<=zaa) :
  Inv X pins σ (upd H s⁻¹ (.lst ys)) {s with heap:=s.heap.push {cls:=.type "list",data:=.seq its.toArray},toks:=t' } :=
 I.laid (λ_ _ q=>zzf _ q) (zzs _) (hz,its,0,J,zzx _ rfl)
theorem Inv.fresh(I:Inv X pins σ H s):H s⁻¹=none:=I.hok.fresh (zzs _)
theorem Inv.lstM(I:Inv X pins σ H s)(U:H l\(.lst xs)):xs.length<=zaa/\∃(its:av ax)(n:Nat),Vals xs its/\xs.length=its.length/\s.heap.get? l=some {cls:=.type "list",data:=.seq its.toArray n}:=by have(z,its,n,r,e):=I.hok l _ U;exact(z,its,n,r,r.length,e)
theorem Cy(h:n<=zaa):zb6 n=false:=by exact zzo 'l'
end
inductive rAppend(x:V)(vs:List V)(H:Hp)(Q:VK):Prop
 |mk l xs y:x=.ref l->vs=[y]->H l\(.lst xs)->xs.length<zaa->Q .non (upd H l (.lst (xs++[y])))->rAppend x vs H Q
theorem iJ:MtM X "list.append" rAppend:=by intro pins s σ H x vs v us Q I g d h;have(l,xs,y,rfl,rfl,U,hz,q):=h;cases g;walk;let(u,rfl,c):=d.one;let(z,its,n,r,hl,e):=I.lstM U;x_go;refine zxN F.slot_list_append (_,e,rfl) F.entry_list_append (F.args_list_append_2 _ _) (PySem.list_append l its.toArray n u (by rw[zzF];lia)) (e,?_);refine(.non,_,I.lset (its':=its++[u]) U e 's' (r.append (.cons c .nil)) ?_,rfl,q);rw[zzh,zxd];lia
inductive rPop(x:V)(vs:List V)(H:Hp)(Q:VK):Prop
 |mk l xs y:x=.ref l->vs=[]->H l\(.lst xs)->xs[xs.length-1]? = some y->Q y (upd H l (.lst xs.dropLast))->rPop x vs H Q
theorem ID:MtM X "list.pop" rPop:=by
 intro pins s σ H x vs v us Q I w p h;have(l,xs,y,rfl,rfl,c,k,q):=h;cases w;have U:=p.zero;walk;subst U;let(z,its,n,r,g,e):=I.lstM c;let(u,j,m):=r.get k;x_go;have d:its.toArray[its.toArray.size-1]?\u:=by show its.toArray[its.length-1]?\u;rw[<-zxe,<-g];exact j
 refine zxN F.slot_list_pop (_,e,rfl) F.entry_list_pop (F.args_list_pop_1 _) (MeetsSeq.list_pop_last l its.toArray n u d (by rw[zzF];omega)) (e,?_);refine(y,_,I.lset (its':=its.dropLast) c e ?_ r.dropLast ?_,m,q)
 .show its.toArray.eraseIdxIfInBounds (its.toArray.size-1)=its.dropLast.toArray;rw[zzF,List.eraseIdxIfInBounds_toArray,xV]
 .rw[zc2];exact zzk (ze0 _ _) z
inductive rCat(x:V)(y:V)(H:Hp)(Q:VK):Prop
 |mk l b xs zs:x=.ref l->y=.ref b->H l\(.lst xs)->H b\(.lst zs)->xs.length+zs.length <= zaa->(∀p,H p=none->Q (.ref p) (upd H p (.lst (xs++zs))))->rCat x y H Q
theorem IE:OpR X (zaA .Add) rCat:=by
 intro pins s σ H x y v u Q I m p h;have(l,b,xs,zs,rfl,rfl,j,g,hz,q):=h;cases m;cases p;walk;let(z,its,n,r,hl,e):=I.lstM j;let(z2,J,n2,k,hl2,c):=I.lstM g;x_go;refine PySem.P.add_list e c ?_ (by rw[zzF,zzF];lia);have d:its.toArray++J.toArray=(its++J).toArray:='s'
 rw[d];exact(.ref _,_,I.lnew (t':=s.toks) (r.append k) (by rw[zzh];lia),rfl,q _ I.fresh)
inductive rRep(x:V)(y:V)(H:Hp)(Q:VK):Prop
 |mk l k xs:x=.ref l->y=.int k->H l\(.lst xs) -> -(2^63) <= k->k<2^63->xs.length*k.toNat <= zaa->(∀p,H p=none->Q (.ref p) (upd H p (.lst (zad k.toNat xs).flatten)))->rRep x y H Q
theorem Gb(xs:av α)(k:Nat):(zad k xs).flatten.length=k*xs.length:=by
 induction k with
 |zero=>simp|succ k J=>rw[zxF,zb4,zzh,J,Nat.succ_mul,Nat.add_comm]
theorem IF:OpR X (zaA .Mult) rRep:=by
 intro pins s σ H x y v u Q I i o h;have(l,k,xs,rfl,rfl,Y,M,N,p,q):=h;cases i;walk;let(t,rfl):=o;let(z,its,n,r,b,e):=I.lstM Y;x_go;have B:its.toArray.size*k.toNat<=zaa:=by rw[zzF,<-b];exact p
 have L:¬its.toArray.size*k.toNat>(2^63-1) / 8:=by
  have:(zaa:Nat)<=(2^63-1) / 8:='d'
  lia
 have w:¬(!Builtin.List.listFitsIndex k)=true:=by rw[fitsIndex_both M N];exact zzL
 have J:¬zb6 (its.toArray.size*k.toNat)=true:=by rw[Cy B];exact zzL
 have C:zdM (λg j=>g++j) #[] (zad (if its.toArray.isEmpty=true then 0 else k.toNat) its.toArray)=(zad k.toNat its).flatten.toArray:=by
  have G:∀m:Nat,zdM (λg j=>g++j) #[] (zad m its.toArray)=(zad m its).flatten.toArray:=λm=>by have:=su its m [];exact this
  rw[G];cases its with
  |nil=>simp|cons a r'=>rw[zzn 's']
 refine wpAny_binaryOp_repeat_ref (T:="list") (U:="int") 'd' (_,e,rfl) (λA=>typeIs_int A k t) noFill_list_mul F.fills_int_mul F.slot_int_rmul repeat_list F.slot_int_index.lookup
  (zxN F.slot_int_rmul (typeIs_int s k t) F.entry_int_rmul (F.args_int_rmul_2 _ _) (int___rmul___int_list k t l its.toArray n)
   (e,rfl,(_,e,rfl),zxN F.slot_list_mul (_,e,rfl) F.entry_list_mul (F.args_list_mul_2 _ _) (AutoListH.list___mul___list_int_3 l its.toArray n k t w L J) (e,?_)))
 rw[C];exact(.ref _,_,I.lnew (t':=s.toks) (r.rep k.toNat) (by rw[Gb,Nat.mul_comm];exact p),rfl,q _ I.fresh)
section
variable{κ:Type}[DecidableEq κ]
noncomputable def valV(kvs:av (κ×V))(k:κ):aT V:=(kvs.find? λJ=>decide (J.1=k)).map (·.2)
noncomputable def putK(kvs:av (κ×V))(k:κ)(v:V):av (κ×V) :=
 if (kvs.any λJ=>decide (J.1=k))=true then kvs.map (λJ=>if J.1=k then(J.1,v) else J) else kvs++[(k,v)]
theorem lu{p:κ×V}{r:av (κ×V)}{k:κ}(e:p.1=k):valV (p::r) k\p.2:=by simp[valV,zxO,e]
theorem iK{p:κ×V}{r:av (κ×V)}{k:κ}(e:¬p.1=k):valV (p::r) k=valV r k:=by simp[valV,zxO,e]
theorem qd(k:κ):∀kvs:av (κ×V),(kvs.any λJ=>decide (J.1=k))=(valV kvs k).isSome
 |[]=>rfl|p::r=>by
  rw[zwf];by_cases e:p.1=k
  .simp only[lu e,zzj e,Bool.true_or,zdF]
  .rw[iK e,zzo e,Bool.false_or];exact qd k r
theorem hV(kvs:av (κ×V))(k:κ)(v:V):(putK kvs k v).length<=kvs.length+1:=by
 unfold putK;split
 .rw[zza];lia
 .rw[zzh,zzl,zzY];lia
theorem RelO.isSome_eq{o:aT V}{u:aT ax}(r:RelO o u):o.isSome=u.isSome:=by
 cases o with
 |none=>cases u with
  |none=>rfl|some _=>exact(show False from r).elim
 |some _=>cases u with
  |none=>exact(show False from r).elim|some _=>rfl
theorem KV.val{kvs:av (κ×V)}{vs:av (κ×ax)}(r:KV kvs vs)(k:κ):RelO (valV kvs k) (zdL vs k):=by
 induction r with
 |nil=>exact zaP|@cons p q ps c h t L =>
  let(d,g):=h;by_cases e:p.1=k
  .have J:q.1=k:=d.symm.trans e;have b:zdL (q::c) k\q.2:=by simp[zdL,zxO,J]
   rw[lu e,b];exact g
  .have J:¬q.1=k:=λz=>e (d.trans z);have b:zdL (q::c) k=zdL c k:=by simp[zdL,zxO,J]
   rw[iK e,b];exact L
theorem KV.any{kvs:av (κ×V)}{vs:av (κ×ax)}(r:KV kvs vs)(k:κ):(kvs.any λJ=>decide (J.1=k))=vs.any λJ=>decide (J.1=k):=by
 induction r with
 |nil=>rfl|cons h t L=>rw[zwf,zwf,L,h.1]
theorem KV.repl{kvs:av (κ×V)}{vs:av (κ×ax)}(r:KV kvs vs)(k:κ){u:ax}(U:RelV y u) :
  KV (kvs.map λJ=>if J.1=k then(J.1,y) else J) (vs.map λJ=>if J.1=k then(J.1,u) else J):=by
 induction r with
 |nil=>exact .nil|@cons p q ps qs h t L =>
  rw[zzq,zzq];refine .cons ?_ L;let(c,d):=h;by_cases e:p.1=k
  .rw[zzu e,zzu (c.symm.trans e)];exact(c,U)
  .rw[zzn e,zzn (λz=>e (c.trans z))];exact(c,d)
theorem KV.put{kvs:av (κ×V)}{vs:av (κ×ax)}(r:KV kvs vs)(k:κ){u:ax}(J:RelV y u):KV (putK kvs k y) (stored vs k u):=by
 unfold putK stored;rw[r.any k];by_cases e:(vs.any λL=>decide (L.1=k))=true
 .rw[zzu e,zzu e];exact r.repl k J
 .rw[zzn e,zzn e];exact zeN r (rfl,J)
theorem KV.length{kvs:av (κ×V)}{vs:av (κ×ax)}(r:KV kvs vs):kvs.length=vs.length:=zwM r
end
theorem Gc{P:cH}{w:World}{k:Key}{u:ax}(r:RelV (kV k) u):(cG P w).is k u=true:=by
 cases k with
 |inl i=>let(t,e):=(show ∃t,u=zbt i t from r);subst e;exact lF P w i t
 |inr x=>let(t,e):=(show ∃t,u=zcF x t from r);subst e;exact uE P w x t
theorem sv{P:cH}{w:World}:∀{ks:av Key}{us:av ax},Vals (ks.map kV) us->ItemsAre (cG P w) ks us
 |[],_,r=>by rw[zzW]at r;cases r;exact .nil
 |k::ks,_,r=>by
  cases r with
  |cons h t=>exact .cons (Gc h) (sv t)
abbrev KT(H:Hp):av (av Key×V)->av (av Key×ay×ax)->Prop:=Paired λp q=>p.1=q.1/\H q.2.1\(.tup (p.1.map kV))/\RelV p.2 q.2.2
theorem KT.val{H:Hp}{xs:av (av Key×ay×ax)}(r:KT H kvs xs)(k:av Key):RelO (valV kvs k) ((atKey xs k).map (·.2)):=by
 induction r with
 |nil=>exact zaP|@cons p q ps c h t L =>
  let(d,_,g):=h;by_cases e:p.1=k
  .have J:q.1=k:=d.symm.trans e;have b:atKey (q::c) k\q.2:=by simp[atKey,zxO,J]
   rw[lu e,b];exact g
  .have J:¬q.1=k:=λz=>e (d.trans z);have b:atKey (q::c) k=atKey c k:=by simp[atKey,zxO,J]
   rw[iK e,b];exact L
theorem KT.repl{H:Hp}{xs:av (av Key×ay×ax)}(r:KT H kvs xs)(k:av Key){u:ax}(l:RelV y u) :
  KT H (kvs.map λJ=>if J.1=k then(J.1,y) else J) (xs.map (putAt k u)):=by
 induction r with
 |nil=>exact .nil|@cons p q ps qs h t j =>
  rw[zzq,zzq];refine .cons ?_ j;have(c,d,g):=h;unfold putAt;by_cases e:p.1=k
  .rw[zzu e,zzu (c.symm.trans e)];exact(c,d,l)
  .rw[zzn e,zzn (λz=>e (c.trans z))];exact(c,d,g)
theorem KT.put{H:Hp}{xs:av (av Key×ay×ax)}(r:KT H kvs xs)(k:av Key){u:ax}(L:H b\(.tup (k.map kV)))(J:RelV y u) :
  KT H (putK kvs k y) (storedH xs k b u):=by
 have e:(kvs.any λU=>decide (U.1=k))=(atKey xs k).isSome:=by rw[qd,(r.val k).isSome_eq,Option.isSome_map]
 unfold putK storedH;rw[e];by_cases q:(atKey xs k).isSome=true
 .rw[zzu q,zzu q];exact r.repl k J
 .rw[zzn q,zzn q];exact zeN r (rfl,L,J)
theorem KT.keeps{H c:Hp}{xs:av (av Key×ay×ax)}(r:KT H kvs xs)(J:∀b ys,H b\(.tup ys)->c b\(.tup ys)):KT c kvs xs :=
 Paired.mapP r λ_ _ z=>(z.1,J _ _ z.2.1,z.2.2)
section
variable{P:cH}{w:World}{H:Hp}{h:cx}
theorem IG{u:HO}(ok:HOk P w H h)(e:Rd H a u):ObjOk P w H h a u:=e.ok ok
theorem Ge{kvs:av (Key×V)}(ok:HOk P w H h)(e:Rd H a (.dK kvs)):kvs.length<=zaa/\(a==zaJ)=false/\∃vs,KV kvs vs/\h.DictOf (cG P w) a vs :=
 show ObjOk P w H h a (.dK kvs) from IG ok e
theorem Lb{kvs:av (Key×V)}(ok:HOk P w H h)(e:H a\(.dK kvs)):kvs.length<=zaa/\(a==zaJ)=false/\∃vs,KV kvs vs/\h.DictOf (cG P w) a vs:=Ge ok (.inl e)
theorem key_of{ks:av Key}(ok:HOk P w H h)(e:H a\(.tup (ks.map kV))):(zcI (cG P w)).is h ks a:=by have(_,its,r,o,c,d,n,g):=(show ObjOk P w H h a (.tup (ks.map kV)) from ok a _ e);exact(o,its.toArray,n,c,d,g,by simpa using sv r)
theorem Cz(ok:HOk P w H h)(e:Rd H a (.dT kvs)):kvs.length<=zaa/\(a==zaJ)=false /\
  ∃xs,KT H kvs xs/\h.DictOfH (zcI (cG P w)) a xs:=by
 have(z,y,xs,r,o,g,d,j,k,u,v,B):=(show ObjOk P w H h a (.dT kvs) from IG ok e);refine(z,y,xs,r,o,g,d,j,k,u,v,λx c=>?_,B);have all:∀{l:av (av Key×V)}{m:av (av Key×ay×ax)},KT H l m->∀x∈m,(zcI (cG P w)).is h x.1 x.2.1:=by
  intro l m q
  induction q with
  |nil=>intro x c;exact nomatch c
  |@cons p q ps qs J t C =>
   intro x c;rcases zze.mp c with e|c
   .subst e;exact key_of ok (by rw[<-J.1];exact J.2.1)
   .exact C x c
 exact all r x c
theorem IH(ok:HOk P w H h)(e:H a\(.dT kvs)):kvs.length<=zaa/\(a==zaJ)=false /\
  ∃xs,KT H kvs xs/\h.DictOfH (zcI (cG P w)) a xs:=Cz ok (.inl e)
end
def DGet(H:Hp)(a:ay)(y:V)(r:aT V):Prop :=
 (∃kvs k,Rd H a (.dK kvs)/\y=kV k/\r=valV kvs k)∨∃kvs k b,Rd H a (.dT kvs)/\y=.ref b/\H b\(.tup (k.map kV))/\r=valV kvs k
def DPut(H:Hp)(a:ay)(y v:V)(H':Hp):Prop :=
 (∃kvs k,H a\(.dK kvs)/\y=kV k/\kvs.length<zaa/\H'=upd H a (.dK (putK kvs k v))) ∨
 ∃kvs k b,H a\(.dT kvs)/\y=.ref b/\H b\(.tup (k.map kV))/\kvs.length<zaa/\H'=upd H a (.dT (putK kvs k v))
theorem DPut.t{H:Hp}{k:av Key}{v:V}(e:H a\(.dT kvs))(c:H b\(.tup (k.map kV)))(d:kvs.length<zaa) :
  DPut H a (.ref b) v (upd H a (.dT (putK kvs k v))):=.inr (kvs,k,b,e,rfl,c,d,rfl)
section
variable{σ:St}{H:Hp}{y v:V}{u r:ax}{o:aT V}{A:zas}{E:ax->aM->Prop}
theorem Inv.big(I:Inv X pins σ H s):zaJ<s⁻¹:=by have h:zaX<s⁻¹:=(I.mod.glob.keeps I.bk).lt;exact zxT 'd' h
theorem zJ{Q:ax->aM->Prop}(G:A.units+1<cLine)(I:Inv X pins σ H s)(g:DGet H a y (some v))(q:RelV y u)(h:∀L s',Inv X pins σ H s'->RelV v L->Q L s') :
  wpAny (model X.prog X.w) A (zeP (.ref a) u) Q E s:=by
 rcases g with ⟨kvs,k,e,j,l⟩|⟨kvs,k,b,e,j,B,l⟩
 .subst j;walk;let(z,hd,M,rel,d):=Ge I.hok e;let(L,m,J):=RelO.some_of (v:=v) (o:=zdL M k) (by rw[l];exact rel.val k);x_go;exact wpAny_getItem_of (Gc q) d.mapOf m (h L _ (I.tok _) J)
 .subst j;cases (show u=zac b from q);walk;let(z,hd,N,rel,d):=Cz I.hok e;let(L,m,J):=RelO.some_of (v:=v) (o:=(atKey N k).map (·.2)) (by rw[l];exact rel.val k);let(p,C,x):=zyi.mp m;x_go;refine wpAny_getItem_heap (zvo G) (key_of I.hok B) d C ?_;rw[x];exact h L _ (I.tok _) J
theorem uI{h':cx}{ob:HO}(I:Inv X pins σ H s)(L:Mut (H a))(hs:zam a s.heap h')(he:∃q,h'.get? a\q)(new:ObjOk X.prog X.w (upd H a ob) h' a ob) :
  Inv X pins σ (upd H a ob) {s with heap:=h',toks:=t' } :=
 I.write L (.inl rfl) (λb q J z=>(hs.2 b J).trans z) he new
theorem II{P:cH}{w:World}{c:Hp}{h':cx}{kvs:av (Key×V)}{vs:av (Key×ax)}(z:kvs.length<=zaa)(hd:(a==zaJ)=false)(rel:KV kvs vs)(dd:h'.DictOf (cG P w) a vs) :
  ObjOk P w c h' a (.dK kvs):=(z,hd,vs,rel,dd)
theorem zK{G:Hp}{Q:Unit->aM->Prop}(hu:A.units+1<cLine)(I:Inv X pins σ H s)(g:DPut H a y v G)(n:RelV y u)(i:RelV v r)(h:∀s',Inv X pins σ G s'->Q () s') :
  wpAny (model X.prog X.w) A (setItem (.ref a) u r) Q E s:=by
 rcases g with ⟨kvs,k,e,p,l,m⟩|⟨kvs,k,b,e,p,M,l,m⟩
 .subst p m;have(z,hd,vs,rel,j):=Lb I.hok e;have C:vs.length<=zaa:=by rw[<-rel.length];exact z
  have x:(putK kvs k v).length<=zaa:=by have:=hV kvs k v;lia
  refine wpAny_setItem_pairs (hsz:=C) (Gc n) j λY J B=>h _ ?_;have he:∃q,Y.get? a\q:=by let(q,_,_,d,_):=J;exact(q,d)
  exact uI I (by rw[e];exact zaP) B he (II x hd (rel.put k i) J)
 .subst p m;cases (show u=zac b from n);have(z,hd,xs,rel,j):=IH I.hok e;have C:xs.length<=zaa:=by rw[<-zwM rel];exact z
  have x:(putK kvs k v).length<=zaa:=by have:=hV kvs k v;lia
  refine wpAny_setItem_heap (hsz:=C) (zvo hu) (key_of I.hok M) j λY J B=>h _ ?_;have(q,T,o,d,h2,h3,h4,_,h5):=J;refine uI I (by rw[e];exact zaP) B (q,d) (x,hd,_,(rel.put k M i).keeps λc ys N=>?_,q,T,o,d,h2,h3,h4,h5);rw[ar (nW N e (λz=>nomatch z))];exact N
end
def NoSl(i:cy):Prop:=∀c J,zdj i false c J=operate [c,J] (zeP c J)
theorem Gf{prog:cH}{w:World}{d:Env}{value slice:cy}{pos:Pos}{id:String}{Q:ax->aM->Prop}(l:typeLookup (.type T) "__getitem__" = pure (some (.builtin id)))(hs:NoSl slice)(h:wM prog w A (eval value d) (λo c=>wM prog w A (eval slice d) (λi J=>J.TypeIs o T/\wM prog w A (zeP o i) Q E J) E c) E s) :
  wM prog w A (eval (.Subscript value slice pos) d) Q E s:=by
 refine zd5 (zyg h (λo c g=>zyg g (λi J L=>?_) λ_ _ x=>x) λ_ _ x=>x);let(k,L):=L;refine zzb ?_;refine zzb (wpAny_specialOf k l ?_);have fin:wM prog w A (zdj slice false o i) (λr U=>wM prog w A (letTemporaryGo value o r >>= λ_=>pure r) Q E U) E J:=by rw[hs o i];exact wpAny_operating (zyg L (λr U j=>zzb (wpAny_letTemporaryGo (zzr j))) λ_ _ x=>x)
 first
  |exact zzr (zzb fin)
  |exact zzb (zzr (zzb fin))
  |exact zzb fin
theorem uJ{X:Cx}{pins:av (ay×Obj)}{d:St}{H:Hp}{o:aT V}(I:Inv X pins d H s)(g:DGet H a y o):s.TypeIs (.ref a) "dict":=by
 rcases g with ⟨kvs,k,e,_,_⟩|⟨kvs,k,b,e,_,_,_⟩
 .let(_,_,vs,_,c):=Ge I.hok e;exact c.typeIs
 .let(_,_,xs,_,c):=Cz I.hok e;exact c.typeIs
def Lc(td ty:TE):TE:=λd H Q=>td d H λx g=>ty d g λy c=>∃a v,x=.ref a/\DGet c a y (some v)/\Q v c
def Ld(td ty tv:TE):TS:=λD c H=>tv c H λv d=>td c d λx g=>ty c g λy h=>∃a J,x=.ref a/\DPut h a y v J/\D.nx c J
section
variable{i value:cy}{pos':Pos}{td ty tv:TE}
theorem Gg(p:X.A.units+1<cLine)(ho:PE X o td)(hi:PE X i ty)(hs:NoSl i):PE X (.Subscript o i pos) (Lc td ty):=by intro pins s c H Q I h;refine Gf PySem.F.slot_dict_getitem.lookup hs (thnE (ho pins s c H _ I h) λu G x j l B w=>thn (hi pins G c j _ l w) λiv s2 q=>?_);walk;let(y,k,L,C,a,v,ex,g,z):=q;subst ex;x_go;obtain rfl:u=zac a:=B;exact(uJ L g,zJ p L g C λw' s3 m J=>(v,k,m,J,z))
theorem Gh(q:X.A.units+1<cLine)(ho:PE X o td)(hi:PE X i ty)(w:PE X value tv)(hs:zap value (some (.Subscript o i pos')) pos.line X.env=pure false) :
  PS X (.Assign [.Subscript o i pos'] value pos) (Ld td ty tv):=by
 intro pins s c H D I h;refine wpAny_Assign_Subscript (thnE (w pins s c H _ I h) λr Y v d k M B=>thnE (ho pins Y c d _ k B) λu b x j l N C=>thn (hi pins b c j _ l C) λiv s3 z=>?_) hs;walk;let(y,H3,m,Q,a,U,ex,g,G):=z;subst ex;x_go;obtain rfl:u=zac a:=N;exact zK q m g Q M λs4 p=>(c,U,p,G)
end
theorem CA{P:cH}{w:World}{H:Hp}(h:cx)(J:zaJ<h.objs.size):ObjOk P w H (h.push {cls:=.type "dict",data:=.dict #[]}) h.objs.size (.dK []) :=
 (zyh _,zxo.mpr (Ne.symm (zzH J)),[],.nil,Heap.DictOf.new h)
theorem CC{P:cH}{w:World}{H:Hp}(h:cx)(J:zaJ<h.objs.size):ObjOk P w H (h.push {cls:=.type "dict",data:=.dict #[]}) h.objs.size (.dT []) :=
 (zyh _,zxo.mpr (Ne.symm (zzH J)),[],.nil,_,#[],0,zzx _ rfl,(rfl,rfl,rfl),rfl,rfl,zxU)
def IJ:TE:=λ_ H Q=>∀p,H p=none->Q (.ref p) (upd H p (.dK []))
def IK:TE:=λ_ H Q=>∀p,H p=none->Q (.ref p) (upd H p (.dT []))
theorem CD:PE X (.Dict [] [] pos) IJ:=λpins s σ H Q I h =>
 wpAny_Dict_empty (.ref s⁻¹,_,I.laid (a:=s⁻¹) (o:=.dK []) (t':=s.toks) (λ_ _ q=>zzf _ q) (zzs _) (CA s.heap I.big),rfl,h _ (I.hok.fresh (zzs _)))
theorem CF:PE X (.Dict [] [] pos) IK:=λpins s σ H Q I h =>
 wpAny_Dict_empty (.ref s⁻¹,_,I.laid (λ_ _ q=>zzf _ q) (zzs _) (CC s.heap I.big),rfl,h _ (I.hok.fresh (zzs _)))
structure M1(X:Cx)(o:Expr)(m:Str)(apos:Pos)(e:Expr)(cpos:Pos):Prop where
 base:zag o m X.env (eval o X.env)=eval o X.env
 few:((zbH cpos (zaj [e] X.env)).all (λx=>!x.1) && (zbU cpos (za1 [] X.env)).all (λx=>x.1.isSome)
  && decide (([e]:List Expr).length+([]:List zco).length+(if ([]:List zco).isEmpty then 0 else 1)<30))=true
 line:(apos.endLine == cpos.line)=true
 trees:zbH cpos (zaj [e] X.env)=[(false,eval e X.env)]
structure M2(X:Cx)(o:Expr)(m:Str)(apos:Pos)(e f:Expr)(cpos:Pos):Prop where
 base:zag o m X.env (eval o X.env)=eval o X.env
 few:((zbH cpos (zaj [e,f] X.env)).all (λx=>!x.1) && (zbU cpos (za1 [] X.env)).all (λx=>x.1.isSome)
  && decide (([e,f]:List Expr).length+([]:List zco).length+(if ([]:List zco).isEmpty then 0 else 1)<30))=true
 line:(apos.endLine == cpos.line)=true
 trees:zbH cpos (zaj [e,f] X.env)=[(false,eval e X.env),(false,eval f X.env)]
end Lake
namespace Att
open PySem PySem.W PySem.Calls PyProof.Rows
theorem lN{P:Params}{h:cx}:∀(ns:av Int)(vs:av ax),WellAll P h vs (ns.map WData.int)->zaU vs ns:=by
 intro ns
 induction ns with
 |nil =>
  intro vs w;cases w;exact .nil
 |cons n ns J =>
  intro vs w;cases w with
  |cons a b =>
   cases a;exact .cons _ _ (J _ b)
theorem zL{l:OpenLaw}{n:Nat}(o:l.most\n){P:Params}{h:cx}{args:av WData}{vals:av ax}
  (J:l.row.toRowW.claim.pre args=true) (g:WellAll P h vals args) :
  ∃a vs ns,vals=[zac a]/\args=[WData.list (ns.map WData.int)]/\h.get? a=some {cls:=.type "list",data:=.seq vs.toArray}/\zaU vs ns/\ns.length<=n:=by
 have e:WShape.hasAll [] args [.list .int]=true:=(pre_splitW J).1;have m:l.pre.holds [] {args:=args}=true:=(pre_splitW J).2;let(d,r,rfl,i,j):=hasAllW_cons e;obtain rfl:=hasAllW_nil j;let(xs,rfl,k):=hasW_list i;let(ns,rfl):=items_int k;have U:ns.length<=n:=by
  have b:(WTm.not (.lt (.lit (.int (n:Int))) (.len (.arg 0)))).holds [] {args:=[.list (ns.map .int)]}=true:=by have b:=(holds_andW m).1;rw[o]at b;exact b
  have c:=condW_of b (w_not (w_lt w_lit (w_len_list (w_arg rfl))));rw[zza]at c;refine zwO λq=>?_;have p:(n:Int)<((ns.length:Nat):Int):='o'
  first
   |(rw[zzj p]at c;exact absurd c 'd')
   |(cases c;omega)
 cases g with
 |cons s u =>
  cases u;cases s with
  |list ho L=>exact(_,_,ns,rfl,rfl,ho,lN ns _ L,U)
theorem zM(l:OpenLaw)(args:av WData):l.row.toRowW.claim.post args (.bool true) args=true :=
 postW_of
  (show WShape.has [] (.bool true) .bool=true by first|rfl|decide|simp[WShape.has,WShape.arms,WShape.armsAll])
  (show (WTm.eq .res (.lit (.bool true))).value [] {args:=args,res:=some (.bool true),after:=args}\(.bool (true==true)) from w_eq_bool (w_res rfl) w_lit) rfl
theorem attach_call{l:OpenLaw}{n:Nat}{q:cH}{J:av Str}{m:(Str->aT ax)->cx->Prop}{p:World->cx->Prop}{d:DefRec}
  (N:l.most\n) (y:d.params.defaults=[])
  (call:∀(w:World)(c b:aM)(i k:Str->aT ax)(e:ay)(o:Obj)(pm h doc:ax)(a:ay)(vs:av ax)(ns:av Int),
   Ground q J [] m w c i k b.heap->p w b.heap ->
   b.heap.get? e\o->o.data=.func (docDef d.name d.params d.body d.scope pm h doc)->b.heap.CodeRec h d.name->i d.name\(.ref e) ->
   b.heap.get? a=some {cls:=.type "list",data:=.seq vs.toArray}->zaU vs ns->ns.length<=n->b.gens = #[] ->
   zaZ (model l.prog w) zd7 (.call (.ref e) ([.ref a],[])) (λr s'=>r=.ok (.ret (.bool true))/\OldK b.heap s'.heap/\s'.os=b.os/\zcd s'.gens) b) :
  WalkO q J m p l.row.toRowW d [] (λf vs=>PySem.call f vs):=by
 intro w c b i k G Y e o pm h doc B kV ho hd x s z I args vals as v hlay hrd A hlo;obtain rfl:B=.none:=Dflts.none s y;obtain rfl:kV=.none:=Dflts.noKw s;have(a,vs,ns,rfl,rfl,u,L,U):=zL N v A;refine enter_call (zyD (call w c b i k e o pm h doc a vs ns G Y ho (fd_plain hd) x z u L U I) λr s' Q=>?_);have(rfl,C,E,H):=Q;exact(.inl (.bool true,.bool true,[],rfl,λ_=>rfl,.bool true,zM l _,λ_=>(zb1,λ_ M=>(nomatch M))),C,E,H)
end Att
namespace Lake
open PySem PySem.Spec PyProof.Rows
variable{A:zas}{E:ax->aM->Prop}{H1 H2:Hp}{N ps:av Str}{T ty:String}{a ea p:ay}{a0 cls e oc:ax}{b:Bool}{dd od:aT ay}{env:Env}{fp:av ay}{h h':cx}{i j t' y:Int}{k n:Nat}{mA:Str->aT ax}{ns:av Int}{o ox:Obj}{pos:Pos}{r:av (Str×ay)}{s:aM}{tk:Tok}{us:av ax}{α β:Type}
variable{K:zvu}{X:Cx}{pos:Pos}{pins:av (ay×Obj)}{s s':aM}{a:ay}{B h':cx}{W:St->XK}{e:cy}{prog:cH}{A:zas}{E:ax->aM->Prop}
theorem zN:∀{vs:av ax}{ns:av Int},zaU vs ns->Vals (ns.map V.int) vs:=by
 intro vs ns h
 induction h with
 |nil=>exact .nil|cons n t h J=>exact .cons (t,rfl) J
noncomputable def hZ(s:Stmt)(j:Nat):Stmt:=match s with
 |.ClassDef _ _ _ body _ _ _ _ _ _ _=>body.getD j (.Pass (0,0,0,0))|_=>.Pass (0,0,0,0)
noncomputable def fY(s:Stmt):Arguments:=match s with
 |.FunctionDef _ a _ _ _ _ _ _ _ _=>a|_=>{posonlyargs:=[],args:=[],vararg:=none,kwonlyargs:=[],kw_defaults:=[],kwarg:=none,defaults:=[]}
noncomputable def cj(s:Stmt):av Stmt:=match s with
 |.FunctionDef _ _ b _ _ _ _ _ _ _=>b|_=>[]
noncomputable def aj(s:Stmt):Scope:=match s with
 |.FunctionDef _ _ _ _ _ _ c _ _ _=>c|_=>{kind:=.function,names:=[],isGenerator:=false,isCoroutine:=false}
abbrev CX0:CXT:=λ_ _ _ _ _ _=>False
abbrev E0:XK:=λ_ _ _=>False
theorem Gi{X:Cx}:rW CX0 X E0:=λ_ _ _ _ _ _ _ h=>h.elim
structure Fun(K:zvu)(x qual:Str)(st:Stmt)(f:Addr)(fd:zez):Prop where
 ex:∃(oc:Value)(od:Option Addr)(kV doc pm:Value)(an:Option Addr)(cdv ct:Value)(osl:Array (Option Value)),
  fd=zaT x qual (fY st) (cj st) (aj st) .none kV doc pm an cdv ct/\K.lookup f\(oc,od,.func fd,osl)/\zbo K cdv qual=true
 kp:zau K (.ref f)=true
section
variable{P:cH}{w:World}{mg:Str->aT ax}{base:cx}
theorem Fun.ok{x c:Str}{st:Stmt}{f:ay}{fd:bo}{sp:Sp}(F:Fun K x c st f fd)(S:er N ps (aj st))(len:∀vs H Q E,sp vs H Q E->vs.length=ps.length)(J:∀(d:ax)(A:zas)(outer:av Env)(s:aM)(H:Hp)(vs:av V)(Q:VK)(E:XK),Room k (A.deeper (zbh c (aj st) s⁻¹ f d))->sp vs H Q E ->
   ∃t,PSs (cxOf CX0 P w K mg base N c (aj st) f d A outer s H E).nox (cj st) t/\t {nx:=λ_ g=>Q .non g,rt:=Q} (start N vs) H):FnOk P w K mg base CX0 (k+1) f fd ps sp:=by
 have(oc,od,kV,doc,pm,an,d,ct,osl,rfl,v,l):=F.ex;refine zG v l S len λA outer s H vs Q E u m=>?_;have(t,h,q):=J d A outer s H vs Q E u m;exact(t,h.nox,q)
theorem Fun.binds{x c:Str}{st:Stmt}{f:ay}{fd:bo}(F:Fun K x c st f fd)(h:∀(kV doc pm:ax)(an:aT ay)(d g:ax)(us:av ax),us.length=ps.length->bindArgs (zaT x c (fY st) (cj st) (aj st) .none kV doc pm an d g) (us,[])=pure (ps.zip us)):Binds K fd ps []:=by have(oc,od,kV,doc,pm,an,d,g,osl,rfl,lk,hcd):=F.ex;exact .all (h kV doc pm an d g)
theorem wu{x d:Str}{st:Stmt}{f:ay}{g:Array (aT ax)}{pm cdv m:ax}(l:K.lookup f\(oc,od,.func (zaT x d (fY st) (cj st) (aj st) .none cls a0 pm dd cdv m),g))(c:zbo K cdv d=true)(k:zau K (.ref f)=true):Fun K x d st f (zaT x d (fY st) (cj st) (aj st) .none cls a0 pm dd cdv m):=((oc,od,cls,a0,pm,dd,cdv,m,g,rfl,l,c),k)
end
theorem pv(i:Nat){x:Str}(L:X.N[i]?\x:=by rfl)(U:Vis X.env.scope x:=by room)(hd:NoDb x:=by decide)(J:(x==("__classdict__" : Str))=false:=by decide):PE X (.Name x pos) (tVar i):=HX L U hd J
theorem iteF{A B:Prop}(h:B):if false=true then A else B:=by exact h
theorem iteT{A B:Prop}(h:A):if true=true then A else B:=by exact h
theorem ite2{c A B:Prop}[Decidable c](d:c->A)(g:¬c->B):if c then A else B:=by
 by_cases h:c
 .rw[zzu h];exact d h
 .rw[zzn h];exact g h
def Same(H H':Hp):Prop:=∀b o,H b\o->H' b\o
inductive gLs(K:zvu)(n:Nat)(t:TGs)(v:V)(σ:St)(H:Hp)(Q:St->Hp->Prop):Prop
 |mk a xs:v=.ref a->SqL K H a xs->xs.length=n->t xs σ H Q->gLs K n t v σ H Q
theorem Le{c:av cy}{t:TGs}(x:X.calm=true)(h:PGs X c t)(C:(zax c X.env).length=n)(U:(zax c X.env).findIdx? (·.1)=none):PG X (.Tuple c k pos) (gLs X.K n t):=by intro pins s m H v u Q I r d;walk;let(a,Y,w,G,z,d):=d;subst w;x_go;cases r;have(g,l,pl,hz):=I.list G;refine zzb (zxl ?_);unfold unpack;rw[show (zax c X.env).length=g.toArray.size by simp[C,<-z,l.length],U];refine zzb (zzQ (PySem.W.kun_itemsOf (I.ok.hd x) pl.isList λh' M=>?_));have q:Inv X pins m H {s with heap:=h' }:=I.kept (t':=s.toks) λb o e=>M b o (zzH (zzy e)) e;exact h pins _ m H Y _ Q q l d
def knV(H:Hp):V->Prop
 |.non=>True|.bl _=>True|.int _=>True|.str _=>True|.ref a=>(∃d,H a\(.lst d))∨(∃o d,H a\(.frz o (.lst d)))∨(∃d,H a\(.tup d))∨(∃c,H a\(.dK c))∨(∃c,H a\(.dT c))|_=>False
noncomputable def EQ:V->Bool
 |.int _=>true|.bl _=>true|_=>false
noncomputable def IL:V->Bool
 |.bl _=>true|_=>false
noncomputable def ER:V->Bool
 |.str _=>true|_=>false
noncomputable def wv:aT HO->Bool
 |some (.tup _)=>true|_=>false
noncomputable def IM:aT HO->Bool
 |some (.lst _)=>true|some (.frz _ (.lst _))=>true|_=>false
def fF(H:Hp):V->Bool
 |.ref a=>wv (H a)|_=>false
def lO(H:Hp):V->Bool
 |.ref a=>IM (H a)|_=>false
theorem dw{K:zvu}{t:String}(h:(if (zaW t==zaW T)=true then some true else if PySem.W.kitMeta T=true then(PySem.fastBuiltinMro t).map (·.contains (.type T)) else none)\b):zaz K (.type t) (.type T)\b:=h
theorem IN{K:zvu}{H:Hp}{x:V}(kn:knV H x):∃t,TyOf K H x t:=by
 cases x with
 |non=>exact(_,.non)|bl c=>exact(_,.bl c)|int i=>exact(_,.int i)|str y=>exact(_,.str y)|ref a =>
  rcases kn with ⟨d,e⟩|⟨o,d,e⟩|⟨d,e⟩|⟨d,e⟩|⟨d,e⟩
  .exact(_,.lst e)
  .exact(_,.frz e)
  .exact(_,.tup e)
  .exact(_,.dK e)
  .exact(_,.dT e)
 |_=>exact kn.elim
theorem gy{f:Hp->V->Bool}(U:∀(H:Hp)(x:V)(t:ax),TyOf X.K H x t->zaz X.K t (.type T)\(f H x)) :
  df X (.builtin "isinstance") (λxs H Q=>∃x,xs=[x,.ty T]/\knV H x/\Q (.bl (f H x)) H):=by
 intro pins s σ H xs us Q I r h;walk;let(x,rfl,kn,q):=h;let(u1,u2,rfl,g,l):=Cq r;let(t,ty):=IN (K:=X.K) kn;let(d,p,c):=EK I g ty;x_go;cases l;exact zwV d I.kIn p (U H x t ty) c λtk=>(.bl (f H x),H,I.tok tk,rfl,q)
theorem uK:df X (.builtin "isinstance") (λxs H Q=>∃x,xs=[x,.ty "int"]/\knV H x/\Q (.bl (EQ x)) H) :=
 gy (f:=λ_ x=>EQ x) λ_ _ _ ty=>by cases ty<;>first|exact dw (b:=false) 'k'|exact dw (b:=true) 'k'
theorem sx:df X (.builtin "isinstance") (λxs H Q=>∃x,xs=[x,.ty "bool"]/\knV H x/\Q (.bl (IL x)) H) :=
 gy (f:=λ_ x=>IL x) λ_ _ _ ty=>by cases ty<;>first|exact dw (b:=false) 'k'|exact dw (b:=true) 'k'
theorem uL:df X (.builtin "isinstance") (λxs H Q=>∃x,xs=[x,.ty "str"]/\knV H x/\Q (.bl (ER x)) H) :=
 gy (f:=λ_ x=>ER x) λ_ _ _ ty=>by cases ty<;>first|exact dw (b:=false) 'k'|exact dw (b:=true) 'k'
theorem qe:df X (.builtin "isinstance") (λxs H Q=>∃x,xs=[x,.ty "tuple"]/\knV H x/\Q (.bl (fF H x)) H) :=
 gy (f:=fF) λ_ _ _ ty=>by cases ty<;>first|exact dw (b:=false) 'k'|(rename_i e;simp only[fF,e,wv];first|exact dw (b:=false) 'k'|exact dw (b:=true) 'k')
def Big(i:Int):Prop:=i.natAbs.log2<8000
theorem ES(h:i.natAbs<2^8000):Big i:=by
 unfold Big;rcases Nat.eq_zero_or_pos i.natAbs with h0|J
 .rw[h0];decide
 .exact(Nat.log2_lt (zxr J)).mpr h
theorem Big.bits(h:Big i):zbd i<=8000:=by
 unfold zbd;unfold Big at h;split
 .exact zyh _
 .lia
def CMulB(i j:Int):Prop:=(-(2^64)<i/\i<2^64)∨(-(2^64)<j/\j<2^64)∨(Big i/\Big j)
theorem CMulB.ok(h:CMulB i j):IntMulOk i j:=by
 rcases h with ⟨c,d⟩|⟨c,d⟩|⟨c,d⟩
 .exact .of_left (intBits_le_64 c d)
 .exact .of_right (intBits_le_64 c d)
 .have b1:=c.bits;have b2:=d.bits;unfold IntMulOk;have:Builtin.Int.intTooBig (zbd i+zbd j)=false:=by
   refine zzo ?_;have e:bitsLine=134217728:='d'
   lia
  rw[this];simp
theorem jF:OpR X (zaA .Mult) (rI CMulB λi j=>.int (i*j)):=opI λ_ _ _ _ _ _ _ J q=>mul_int q J.ok
def Lf(_ j:Int):Prop:=0<j/\Big j
theorem ww:OpR X (zaA .FloorDiv) (rI Lf λi j=>.int (i / j)):=opI λi j _ _ _ _ _ J q=>by have h1:(0:Int)<j:=J.1;exact floordiv_int 'l' (by rw[Int.fdiv_eq_ediv_of_nonneg i 'l'];exact q) (.inl (PyProof.noPylong_of_log2 (zxT J.2 'd')))
structure Df(K:zvu)(mg:Str->Option Value)(x:Str)(st:Stmt)(ps:List Str)(f:Addr)(fd:zez):Prop where
 F:Fun K x x st f fd
 m:mg x\(.ref f)
 b:Binds K fd ps []
structure Dd(K:zvu)(mg:Str->Option Value)(x:Str)(st:Stmt)(ps:List Str) where
 f:Addr
 fd:zez
 d:Df K mg x st ps f fd
abbrev Dd.Ok{K:zvu}{mg:Str->aT ax}{x:Str}{st:Stmt}{ps:av Str}(D:Dd K mg x st ps)(P:cH)(w:World)(base:cx)(CX:CXT)(k:Nat)(sp:Sp):Prop:=FnOk P w K mg base CX k D.f D.fd ps sp
def SBut(p:ay)(H H':Hp):Prop:=∀b o,b≠p->H b\o->H' b\o
theorem SBut.trans{H:Hp}(x:SBut p H H1)(y:SBut p H1 H2):SBut p H H2:=λb o n e=>y b o n (x b o n e)
theorem SBut.upd{p:ay}{H:Hp}{o:HO}:SBut p H (upd H p o):=λb u n e=>by rw[ar n];exact e
theorem wy{q:ay}{H:Hp}{o:HO}(h:H q=none):Same H (upd H q o):=λb u e=>by rw[ar (bW e h)];exact e
theorem fc{H:Hp}{q:ay}{o u:HO}(h:H p=none)(e:H q\u):upd H p o q\u:=by rw[ar (bW e h)];exact e
def Scr(K:zvu)(H:Hp)(a:ay)(ns:av Int):Prop:=(∃o,H a\(.frz o (.lst (ns.map V.int))))∨∀c,SqL K c a (ns.map V.int)
theorem Scr.sq{K:zvu}{H:Hp}(h:Scr K H a ns):SqL K H a (ns.map V.int):=by
 rcases h with ⟨o,h⟩|h
 .exact .inl (.inr (o,h))
 .exact h H
structure Pen(K:zvu)(H:Hp)(p a:Addr)(ns:List Int)(t l:Int):Prop where
 lst:H p\(.lst [.ref a,.int t,.int l])
 scr:Scr K H a ns
 t0:0 <= t
theorem Pen.put{K:zvu}{H:Hp}{t l:Int}(h:Pen K H p a ns t l)(h0:0<=t'):Pen K (upd H p (.lst [.ref a,.int t',.int i])) p a ns t' i:=by
 refine(ao,?_,h0);rcases h.scr with ⟨o,e⟩|e
 .refine .inl (o,?_);rw[ar (nW e h.lst (by intro z;cases z))];exact e
 .exact .inr e
theorem Pen.same{K:zvu}{H:Hp}{t l:Int}(h:Pen K H p a ns t l)(s:Same H H1):Pen K H1 p a ns t l:=by
 refine(s _ _ h.lst,?_,h.t0);rcases h.scr with ⟨o,e⟩|e
 .exact .inl (o,s _ _ e)
 .exact .inr e
theorem zO(h0:0<=i)(h:i<(ns.length:Int)):atI (ns.map V.int) i\(.int (ns.getD i.toNat 0)):=by let(j,rfl):=zyq h0;have J:j<ns.length:=zek.mp h;refine uH ?_;simp[zzz,J]
inductive rIxTH(x:V)(y:V)(H:Hp)(Q:VK):Prop
 |mk p xs i v:x=.ref p->y=.int i->H p\(.tup xs)->atI xs i\v->Q v H->rIxTH x y H Q
inductive rIxLH(x:V)(y:V)(H:Hp)(Q:VK):Prop
 |mk p xs i v:x=.ref p->y=.int i->H p\(.lst xs)->atI xs i\v->Q v H->rIxLH x y H Q
theorem Gj:IxR X rIxTH:=by rintro value slice pins s m H x y v u Q I L U ⟨p,l,i,z,c,d,h,J,q⟩ g;exact Iz value slice pins s m H x y v u Q I L U (p,l,i,z,c,d,SqT.of h,J,q) g
theorem CG:IxR X rIxLH:=by rintro value slice pins s m H x y v u Q I L U ⟨p,l,i,z,c,d,h,J,q⟩ g;exact pX value slice pins s m H x y v u Q I L U (p,l,i,z,c,d,SqL.of h,J,q) g
noncomputable def lenO:aT HO->aT Nat
 |some (.lst c)=>some c.length|some (.tup c)=>some c.length|_=>none
inductive rLenH(xs:List V)(H:Hp)(Q:VK):Prop
 |mk p n:xs=[.ref p]->lenO (H p)\n->Q (.int n) H->rLenH xs H Q
theorem sy:df X (.builtin "len") rLenH:=by
 intro pins s d H xs us Q I r h;have(p,n,rfl,e,q):=h;cases o:H p with
 |none=>rw[o]at e;cases e
 |some g =>
  rw[o]at e;cases g with
  |lst c=>cases e;exact dq pins s d H _ us Q I r (p,c,rfl,.inl (SqL.of o),q)
  |tup c=>cases e;exact dq pins s d H _ us Q I r (p,c,rfl,.inr (SqT.of o),q)
  |_=>cases e
inductive gLsH(n:Nat)(t:TGs)(v:V)(σ:St)(H:Hp)(Q:St->Hp->Prop):Prop
 |mk a xs:v=.ref a->H a\(.lst xs)->xs.length=n->t xs σ H Q->gLsH n t v σ H Q
theorem IO{c:av cy}{t:TGs}(U:X.calm=true)(h:PGs X c t)(l:(zax c X.env).length=n:=by rfl)(J:(zax c X.env).findIdx? (·.1)=none:=by rfl):PG X (.Tuple c k pos) (gLsH n t):=by rintro pins s w H v u Q I r ⟨a,m,d,g,L,q⟩;exact Le U h l J pins s w H v u Q I r (a,m,d,SqL.of g,L,q)
inductive gTupH(n:Nat)(t:TGs)(v:V)(σ:St)(H:Hp)(Q:St->Hp->Prop):Prop
 |mk a xs:v=.ref a->H a\(.tup xs)->xs.length=n->t xs σ H Q->gTupH n t v σ H Q
theorem Gk{c:av cy}{t:TGs}(U:X.calm=true)(h:PGs X c t)(l:(zax c X.env).length=n)(J:(zax c X.env).findIdx? (·.1)=none):PG X (.Tuple c k pos) (gTupH n t):=by rintro pins s w H v u Q I r ⟨a,m,d,g,L,q⟩;exact Ii U h l J pins s w H v u Q I r (a,m,d,SqT.of g,L,q)
inductive sp_next(K:zvu)(vs:List V)(H:Hp)(Q:VK)(x3:XK):Prop
 |mk (p a:Addr) (ns:List Int) (t l m:Int):vs=[.ref p,.int m]->Pen K H p a ns t l->1 <= m->m <= 10^60->(∀(r t' l':Int)(H':Hp),0 <= r->r<m->Pen K H' p a ns t' l'->SBut p H H'->Q (.int r) H')->sp_next K vs H Q x3
inductive sp_pen(K:zvu)(vs:List V)(H:Hp)(Q:VK)(x3:XK):Prop
 |mk (a:Addr) (ns:List Int):vs=[.ref a]->Scr K H a ns->(∀(p:Addr)(H':Hp),H p=none->Pen K H' p a ns 0 0->Same H H'->Q (.ref p) H')->sp_pen K vs H Q x3
theorem qf{x d:Int}(h0:0<d)(h:d<=18446744073709551616):CMulB (x % d) y:=by have h1:=zyG x (show d≠0 by lia);have h2:=zyI x h0;exact .inl ('l','l')
theorem CI{c:Int}(h : -18446744073709551616<c/\c<18446744073709551616:=by decide):CMulB c y:=.inl h
theorem IP{c:Int}(h : -18446744073709551616<c/\c<18446744073709551616:=by decide):CMulB y c:=.inr (.inl h)
theorem mpos{c:Int}(h:0<c:=by decide):0<c:=h
theorem zP{c:Int}(h0:0<=c)(h:c<=10^60):Big c:=ES (zzA (zzE (show c.natAbs<=10^60 by lia) (show 10^60<2^200 by decide)) (zwa 'd' 'd'))
theorem sA{c:Int}(h0:0<=c)(h:c<=18446744073709551616):Big c:=ES (zzA (zzE (show c.natAbs<=18446744073709551616 by lia) (show 18446744073709551616<2^65 by decide)) (zwa 'd' 'd'))
noncomputable def dz(cT:av (Str×ay)):av (Str×zbD)->av (Str×ay)->aT (av (Str×ay))
 |[],cs=>some cs| (n,k)::r,cs=>if k==.free then(match cT.lookup n with
  |some c=>dz cT r ((n,c)::cs)|none=>none) else dz cT r cs
theorem iL{d:Scope}{cl:av (Str×ay)}(h:dz env.cells d.names []\cl):zdQ d env=pure cl:=by
 simp only[zdQ];generalize ([]:av (Str×ay))=cs at h⊢;generalize d.names=l at h⊢
 induction l generalizing cs with
 |nil=>cases h;rfl
 |cons a r L =>
  let(n,k):=a;unfold dz at h;rw[zeQ];by_cases J:(k==zaY)=true
  .rw[zzu J]at h;cases e:env.cells.lookup n with
   |none=>rw[e]at h;cases h
   |some c =>
    rw[e]at h;have:=L _ h;simp only[J,if_true,cellOf,e,pure_bind];exact this
  .rw[zzn J]at h;have:=L _ h;simp only[J,zdz,if_false,pure_bind];exact this
theorem jG{cT cl:av (Str×ay)}:∀{l:av (Str×zbD)}{cs:av (Str×ay)},dz cT l cs\cl->(∀y c,cs.lookup y\c->cT.lookup y\c)->∀y c,cl.lookup y\c->cT.lookup y\c
 |[],cs,h,g,y,c,e=>by cases h;exact g y c e
 |(n,k)::r,cs,h,g,y,c,e=>by
  unfold dz at h;by_cases L:(k==zaY)=true
  .rw[zzu L]at h;cases q:cT.lookup n with
   |none=>rw[q]at h;cases h
   |some c' =>
    rw[q]at h;refine jG h (λz d m=>?_) y c e;by_cases J:(z==n)=true
    .rw[zyf,J]at m;cases m;rw[zdI J];exact q
    .rw[zyf,(zew _).mp J]at m;exact g z d m
  .rw[zzn L]at h;exact jG h g y c e
theorem gz{cT cl:av (Str×ay)}:∀{l:av (Str×zbD)}{cs:av (Str×ay)},dz cT l cs\cl->∀y,((y,zaY)∈l∨∃c,cs.lookup y\c)->∃c,cl.lookup y\c
 |[],cs,h,y,e=>by
  cases h;rcases e with e|e
  .simp at e
  .exact e
 |(n,k)::r,cs,h,y,e=>by
  unfold dz at h;by_cases L:(k==zaY)=true
  .rw[zzu L]at h;cases q:cT.lookup n with
   |none=>rw[q]at h;cases h
   |some U =>
    rw[q]at h;refine gz h y ?_;rcases e with e|⟨c,e⟩
    .rcases zze.mp e with e|e
     .cases e;exact .inr (U,by rw[zyf,beq_self_eq_true])
     .exact .inl e
    .by_cases J:(y==n)=true
     .exact .inr (U,by rw[zyf,J])
     .exact .inr (c,by rw[zyf,(zew _).mp J];exact e)
  .rw[zzn L]at h;refine gz h y ?_;rcases e with e|e
   .rcases zze.mp e with e|e
    .cases e;exact absurd rfl L
    .exact .inl e
   .exact .inr e
inductive Cap(X:Cx)(scope:Scope):List Str->List (Option Nat)->Prop where
 |nil:Cap X scope [] []
 |own {x:Str} {N:List Str} {js:List (Option Nat)} (h:Cap X scope N js):Cap X scope (x::N) (none::js)
 |cap {x:Str} {j:Nat} {N:List Str} {js:List (Option Nat)} (h1:X.N[j]? = some x) (h2:X.env.kindOf x\.cell∨X.env.kindOf x\.free)
   (h3:scope.names.lookup x\.free) (h:Cap X scope N js):Cap X scope (x::N) (some j::js)
noncomputable def sub1(σ:St):aT Nat->aT V
 |none=>none|some j=>(σ[j]?).join
def sub(js:av (aT Nat))(σ:St):St:=js.map (sub1 σ)
theorem Cap.len{X:Cx}{c:Scope}{d:av (aT Nat)}(h:Cap X c N d):d.length=N.length:=by induction h<;>simp[*]
theorem Cap.at{X:Cx}{c:Scope}{N:av Str}{m:av (aT Nat)}(h:Cap X c N m):∀{i:Nat}{x:Str}{g:St}{v:V},N[i]?\x->(sub m g)[i]?\(some v) ->
  ∃j:Nat,X.N[j]?\x/\g[j]?\(some v)/\(X.env.kindOf x\.cell∨X.env.kindOf x\.free)/\c.names.lookup x\.free:=by
 induction h with
 |nil=>intro i x g v h;cases h
 |own h J =>
  intro i x g v l d;cases i with
  |zero=>cases d
  |succ i=>exact J l d
 |@cap x j N m u w z h J =>
  intro i y g v l d;cases i with
  |zero =>
   simp at l;subst l;simp[sub,sub1]at d;refine(j,u,?_,w,z);cases q:g[j]? with
   |none=>rw[q]at d;cases d
   |some o=>rw[q]at d;simp at d;rw[d]
  |succ i=>exact J l d
noncomputable def lP(X:Cx)(scope:Scope)(cl:av (Str×ay))(C:ay)(N':av Str)(L:aM)(J:Hp)(fp:av ay)(pins:av (ay×Obj)):Cx :=
 {X with N:=N',s₀:=L,H₀:=J,env:=zbR scope cl C X.env,outer:=X.stack,ex:=fp,fn:=λy=>scope.names.lookup y==some .cell,pn:=X.pn++pins,xe:=λ_ _=>False}
abbrev cxN(X:Cx)(scope:Scope)(cl:av (Str×ay))(N':av Str)(s3:aM)(H3:Hp)(fp:av ay)(pins:av (ay×Obj)):Cx:=lP X scope (zaB (s3⁻¹+1) scope.names cl) s3⁻¹ N' s3 H3 fp pins
abbrev ceN(X:Cx)(scope:Scope)(cl:av (Str×ay))(s3:aM):=zbR scope (zaB (s3⁻¹+1) scope.names cl) s3⁻¹ X.env
structure Blk where
 C:Addr
 s3:zbi
 H3:Hp
 fp:List Addr
 pins:List (Addr×Obj)
abbrev cxB(X:Cx)(scope:Scope)(cl:av (Str×ay))(N':av Str)(B:Blk):Cx:=lP X scope (zaB (B.C+1) scope.names cl) B.C N' B.s3 B.H3 B.fp B.pins
def PTs(X:Cx)(ifs:av cy)(t:TT):Prop :=
 ∀(pins:av (ay×Obj))(s:aM)(d:St)(H:Hp)(Q:Bool->Hp->Prop),Inv X pins d H s->t d H Q ->
  wX X (forIn ifs true λc r=>if r=true then do let ok <-isTrue c X.env (eval c X.env);pure (zbJ ok) else pure (zbJ r)) (TP X pins d Q) X.xe s
def Gm:TT:=λ_ H Q=>Q true H
theorem Gn{X:Cx}:PTs X [] Gm:=λ_ _ _ H _ I h=>wpAny_tests_nil (H,I,h)
theorem Go{X:Cx}{c:cy}{t:TT}(h:PT X c t):PTs X [c] t:=λpins s d H Q I q=>wpAny_tests_one (h pins s d H Q I q)
theorem sC{d:Scope}{y:Str}(h:(za6 d env).names.lookup y\.cell∨(za6 d env).names.lookup y\.free):(y,zaY)∈d.names∨(y,zan)∈d.names:=by
 have key:∀k,(y,k)∈(za6 d env).names->(k=.cell∨k=.free)->(y,zaY)∈d.names∨(y,zan)∈d.names:=by
  intro k l J;let((n,q),g,e):=zzi.mp l;dsimp only at e;split at e
  .rename_i c;simp only[zya]at c;have:q=.free:=zdI c.1.1;subst this;cases e;exact .inl g
  .cases e;rcases J with rfl|rfl
   .exact .inr g
   .exact .inl g
 rcases h with h|h
 .exact key _ (zyd h) (.inl rfl)
 .exact key _ (zyd h) (.inr rfl)
theorem lQ{c:Scope}{y:Str}(h:c.names.lookup y\.free):(za6 c env).names.lookup y\.cell∨(za6 c env).names.lookup y\.free:=by
 show (zaK y (c.names.map _))=_∨(zaK y (c.names.map _))=_;generalize c.names=l at h
 induction l with
 |nil=>cases h
 |cons a r J =>
  let(n,k):=a;rw[zyf]at h;rw[zzq];cases e:y==n with
  |true =>
   rw[e]at h;cases h;dsimp only;split
   .left;rw[zyf,e]
   .right;rw[zyf,e]
  |false =>
   rw[e]at h;dsimp only;split<;>(rw[zyf,e];exact J h)
theorem cu:∀(c:av (Str×zbD))(n:Nat)(acc:av (Str×ay)),zaB n c acc=zaB n c []++acc
 |[],_,_=>rfl|(x,k)::r,n,acc=>by
  unfold zaB;split
  .rw[cu r (n+1) ((x,n)::acc),cu r (n+1) [(x,n)],zzI];rfl
  .exact cu r n acc
theorem eB:∀(d:av (Str×zbD))(n:Nat)(y:Str)(c:ay),(y,c)∈zaB n d []->(y,zan)∈d
 |[],_,_,_,h=>(nomatch h)|(x,k)::r,n,y,c,h=>by
  unfold zaB at h;split at h
  .rename_i J;rw[cu]at h;rcases zzg.mp h with h|h
   .exact zzc _ (eB r _ y c h)
   .have e:=zzt.mp h;cases e;rw[show k=.cell from zdI J];exact zzd
  .exact zzc _ (eB r _ y c h)
theorem iM:∀{l:av (Str×ay)}{y:Str}{c:ay},(y,c)∈l->∃d,l.lookup y\d
 |(x,k)::r,y,c,h=>by
  rw[zyf];cases e:y==x with
  |true=>exact(_,rfl)|false =>
   rcases zze.mp h with h|h
   .cases h;simp at e
   .exact iM h
theorem fe:∀(d:av (Str×zbD))(n:Nat)(y:Str),(y,zan)∈d->∃c,(y,c)∈zaB n d []
 |(x,k)::r,n,y,h=>by
  unfold zaB;split
  .rw[cu];rcases zze.mp h with h|h
   .cases h;exact(n,zzN _ (zzt.mpr rfl))
   .let(c,q):=fe r (n+1) y h;exact(c,zzT _ q)
  .rename_i J;rcases zze.mp h with h|h
   .cases h;exact absurd rfl J
   .exact fe r n y h
theorem eK{l:av (Str×ay)}{y:Str}{c:ay}(h:(l++r).lookup y\c):l.lookup y\c∨(l.lookup y=none/\r.lookup y\c):=by
 rw[zvp]at h;cases e:l.lookup y with
 |none=>rw[e]at h;exact .inr (rfl,h)|some d=>rw[e]at h;exact .inl h
theorem lR{l:av (Str×ay)}{y:Str}{c:ay}(h:l.lookup y\c):(l++r).lookup y\c:=by rw[zvp,h];rfl
theorem lS{l:av (Str×ay)}{y:Str}(h:l.lookup y=none):(l++r).lookup y=r.lookup y:=by rw[zvp,h];rfl
theorem kQ{M:Model}{s:aM}{c:Scope}{cl:av (Str×ay)}{d:Str}{outer:Env}{Q:Env->aM->Prop}(h:∀J:cx,J.Ns s⁻¹ (λ_=>none)->(∀b o,s.heap.get? b\o->J.get? b\o)->CellsOk J (s⁻¹+1) (zaB (s⁻¹+1) c.names []) ->
   Q (newEnv c s⁻¹ ea (zaB (s⁻¹+1) c.names cl) d none .none (some outer) zb9) {s with heap:=J}) :
  wpAny M A (zbn c ea cl [] d none .none (some outer)) Q E s:=by
 simp only[zbn,zdF,if_true];refine zzb (wpAny_alloc ?_);refine zzb (wpAny_layCells _ (λname kind cT=>by cases L:kind==zan<;>simp[L]) _ _ _ _ ?_);have ok:=cellsFrom_ok c.names (s.heap.push {cls:=.type "dict",data:=.dict #[]}) (s⁻¹+1) [] (λ_ _ g=>(nomatch g),zb1) (by rw[zyx];exact zzs _);rw[zyx]at ok;rw[show ({s with heap:=s.heap.push {cls:=.type "dict",data:=.dict #[]} }:aM).heap.objs.size=s⁻¹+1 from zyx ..];exact zzb (zzr (zzr (h _ ((Heap.Ns.new s.heap (.type "dict")).keeps (pushCells_keeps _ _)) (λb o e=>pushCells_keeps _ _ b o (zzf _ e)) ok)))
section
variable{σ:St}{H:Hp}{scope:Scope}{cl:av (Str×ay)}{N':av Str}{js:av (aT Nat)}
theorem CJ(I:Inv X pins σ H s)(J:dz X.env.cells scope.names []\cl)(a6:∀y∈scope.names,y.2=.free->(y.1,zan)∉scope.names)(a5:scope.kind=.function)(cap:Cap X scope N' js)(Q:∀b∈fp,FpOk X pins H b)(ho:∀b∈fp,∃o,s.heap.get? b\o)(a8:h'.Ns s⁻¹ (λ_=>none))(M:∀b o,s.heap.get? b\o->h'.get? b\o)(n:CellsOk h' (s⁻¹+1) (zaB (s⁻¹+1) scope.names [])){t':Nat} :
  Inv (lP X scope (zaB (s⁻¹+1) scope.names cl) s⁻¹ N' s H fp pins) [] (sub js σ) H {s with heap:=h',toks:=t' }:=by
 have l:=jG J (λy c e=>by cases e);rw[cu];generalize E:zaB (s⁻¹+1) scope.names []=nw at n⊢;have nk:∀y c,(y,c)∈nw->(y,zan)∈scope.names:=λy c h=>by rw[<-E]at h;exact eB _ _ y c h
 have nh:∀y,(y,zan)∈scope.names->∃c,nw.lookup y\c:=λy h=>by let(c,q):=fe scope.names (s⁻¹+1) y h;rw[E]at q;exact iM q
 have w:∀y c,nw.lookup y\c->h'.IsCell c none/\s⁻¹+1<=c:=λy c h=>n.empty y c (zyd h);have old:∀y c,cl.lookup y\c->c<s⁻¹:=λy c h=>by let(v,o,g,x):=I.cell y c (l y c h);exact zzy g
 have nf:∀y,(y,zaY)∈scope.names->nw.lookup y=none:=λy h=>by
  cases e:nw.lookup y with
  |none=>rfl|some c=>exact absurd (nk y c (zyd e)) (a6 _ h rfl)
 refine((I.ok.mod,a5,I.ok.glob,I.ok.blt,zzs _,λy z c G A=>?_,λy hy=>?_,λy c z h=>?_,I.ok.hd,I.ok.frames,.inl rfl,λb L=>(?_,λy c h=>?_),I.bs,zzk I.ok.bsz I.sz,λb o e L=>?_,λb L=>?_,I.stack,I.stkFree),
  rfl,I.bare,Un.kept M,(_,a8,λi y v G A h3=>?_),λy c h=>?_,I.hok.fresh (zzs _),λy c h=>?_,λp B=>?_,I.hok.kept M,?_)
 .rcases eK G with a|⟨_,a⟩<;>rcases eK A with b|⟨_,b⟩
  .exact name_of_addr n.apart (zyd a) (zyd b)
  .exact absurd (zzA (old z c b) (zyC (w y c a).2)) (zyu _)
  .exact absurd (zzA (old y c a) (zyC (w z c b).2)) (zyu _)
  .exact I.ok.inj y z c (l y c a) (l z c b)
 .show ∃c,(nw++cl).lookup y\c;rcases sC hy with q|q
  .let(c,e):=gz J y (.inl q);exact(c,by rw[lS (nf y q)];exact e)
  .let(c,e):=nh y q;exact(c,lR e)
 .have z:(y,zan)∈scope.names:=zyd (zdI z);let(d,e):=nh y z;have h:(nw++cl).lookup y\c:=h;rw[lR e]at h;have h:d=c:=zzP h;rw[<-h];exact zyC (w y d e).2
 .let(o,e):=ho b L;exact zzH (zzy e)
 .rcases eK h with a|⟨_,a⟩
  .let(o,e):=ho b L;rintro rfl;exact absurd (zzA (zzy e) (zyC (w y c a).2)) (zyu _)
  .exact(Q b L).2.2.2.2.1 y c (l y c a)
 .have fb:=Q b L;rcases fb.2.2.2.1 with z|z
  .exact I.ok.noex b o e z
  .have G:b<X.base.objs.size:=zzy e;exact absurd (zzA G (zzk I.ok.bsz z)) (zyu _)
 .intro z;have:=I.stkSub b z;rcases zze.mp this with z|z
  .exact(Q b L).2.1 z
  .exact(Q b L).2.2.1 z
 .let(j,k1,k2,T,k4):=cap.at G A;walk;let(m,hm,hl):=I.loc;have a9:Vis X.env.scope y:=by
   rcases T with k|k
   .exact .inr (.inl k)
   .exact .inr (.inr k)
  let(u,r,lk):=hl j y v k1 k2 a9;x_go;refine(u,r,.inr (lQ k4,?_));have Y:(y,zaY)∈scope.names:=zyd k4;rcases lk with ⟨k5,_⟩|⟨_,c,e1,e2⟩
  .rcases T with k|k<;>(rw[k]at k5;cases k5)
  .let(c',N):=gz J y (.inl Y);have:=l y c' N;rw[e1]at this;cases this;refine(c,by show (nw++cl).lookup y\c;rw[lS (nf y Y)];exact N,?_);have(o,g,x):=e2;exact(o,M _ _ g,x)
 .rcases eK h with a|⟨_,a⟩
  .exact(_,(w y c a).1)
  .let(v,o,g,x):=I.cell y c (l y c a);exact(v,o,M _ _ g,x)
 .rcases eK h with a|⟨_,a⟩
  .exact I.hok.fresh (zyC (w y c a).2)
  .exact I.freeC y c (l y c a)
 .have B:p∈X.pn++pins:=by simpa[lP]using B
  have(g,x,q3,Y,q5):=I.pin p B;refine(M _ _ g,x,zzH (zzy g),λz=>?_,q5);have:=I.stkSub p.1 z;rcases zze.mp this with z|z
  .exact q3 z
  .exact Y z
 .simp[sub,cap.len];rfl
theorem IQ{fs:av ay}{H:Hp}{C:ay}(J:C∈fp)(hs:zam C h h'):Un fs fp H H h h' where
 keep:=λb o e _ _ c=>by rw[hs.2 b (by rintro rfl;exact c J)];exact e
 slot:=λb o e _ _ c=>(o.slots,by rw[hs.2 b (by rintro rfl;exact c J)];exact e)
 free:=λb o _ n _=>n
 there:=λb o e c=>(o,by rw[hs.2 b (by rintro rfl;exact c J)];exact e)
 tups:=λ_ _ h=>h
 frzs:=λ_ _ _ h=>h
 tbls:=λb ps h=>(#[],h)
theorem Inv.but{C:ay}(I:Inv X pins σ H s)(f:FpOk X pins H C)(hs:zam C s.heap h'):Inv X pins σ H {s with heap:=h' }:=by
 refine I.call' (s':={s with heap:=h' }) (ch:=[C]) rfl (IQ zzd hs) ?_ I.bare (λb J=>?_)
 .intro a o e;refine ObjOk.stay (I.hok a o e) (λb u J q=>?_) (λ_ h=>h) (λ_ _ h=>h);rw[hs.2 b]
  .exact q
  .rintro rfl;rcases J with rfl|J
   .rw[f.1]at e;cases e
   .rw[f.1]at J;cases J
 .have:b=C:=by simpa using J
  subst this;exact(f.2.2.2.1,f.2.1,f.2.2.2.2.1,f.2.2.2.2.2)
end
inductive DictAt(e:Addr)(dd:Option Addr)(h:Heap):Prop
 |mk o:h.get? e\o->o.dict=dd->DictAt e dd h
def Tame{α:Type}:Sem α->Prop
 |.pure _=>True|.raise _=>True|.unsupported _=>True|.finish _=>True|.rule _ k=>Tame (k ())|.at _ k=>Tame (k ())|.load _ _ k=>∀o,Tame (k o)|.update _ _ f k=>(∀o,(f o).dict=o.dict/\(f o).isFreed=o.isFreed)/\Tame (k ())|.alloc _ k=>∀a,Tame (k a)|.loadIfAlive _ k=>∀o,Tame (k o)|.point _ k=>Tame (k ())|.register _ _=>True|.fresh k=>∀t,Tame (k t)|.ask k=>∀x,Tame (k x)|.choose _ _ k=>∀x,Tame (k x)|.os _ _ k=>∀x,Tame (k x)|.call _ _ _ _ _=>False|.handled _ k=>∀x,Tame (k x)|.newGen _ k=>∀x,Tame (k x)|.genState _ k=>∀x,Tame (k x)|.resume _ _ _ _=>False|.yield _ _ _ _=>True|.stack k=>∀x,Tame (k x)|.fork _ _=>True|.thread k=>∀x,Tame (k x)|.await _ _ _ _ _=>True
theorem aW{m:Sem α}{f:α->Sem β}(h:Tame m)(L:∀a,Tame (f a)):Tame (m >>= f):=by
 induction m with
 |pure a=>exact L a|raise|unsupported|finish|register|yield|fork|await=>exact trivial|call|resume=>exact h.elim|rule _ k J|«at» _ k J|point _ k J=>exact J _ h|load _ _ k J|alloc _ k J|loadIfAlive _ k J|fresh k J|ask k J|choose _ _ k J|os _ _ k J|handled _ k J|newGen _ k J|genState _ k J|stack k J|thread k J=>exact λx=>J x (h x)|update a _ g k J=>exact(h.1,J _ h.2)
theorem DictAt.push{e:ay}{dd:aT ay}{h:cx}{o:Obj}(x:DictAt e dd h):DictAt e dd (h.push o):=let ⟨u,a,b⟩:=x;(u,zzf _ a,b)
theorem DictAt.upd{e:ay}{f:Obj->Obj}(x:DictAt e dd h)(J:∀o,(f o).dict=o.dict/\(f o).isFreed=o.isFreed):DictAt e dd (h.update a f):=by
 have(u,q,b):=x;by_cases z:a=e
 .subst z;exact(f u,zyO f q (by rw[(J u).2];exact(zwu.mp q).2),by rw[(J u).1];exact b)
 .exact(u,by rw[zxP _ _ z];exact q,b)
theorem Gp{M:Model}{Γ:PySem.Ctx}{t:Sem α}{e:ay}{Q:α->Pos->aM->Prop}{E:ax->Pos->aM->Prop}(L:Tame t):∀{p:Pos}{s:aM},DictAt e dd s.heap->Sem.wp M Γ t Q E p s ->
  Sem.wp M Γ t (λa c s'=>Q a c s'/\DictAt e dd s'.heap) (λv c s'=>E v c s'/\DictAt e dd s'.heap) p s:=by
 induction t with
 |pure|raise=>exact λhd h=>(h,hd)|unsupported|finish|yield|fork|await|register=>exact λ_ h=>h|call|resume=>exact L.elim|rule _ k J|«at» _ k J|point _ k J=>exact λhd h=>J _ L hd h|alloc _ k J=>exact λhd h=>J _ (L _) hd.push h|loadIfAlive _ k J|fresh k J|ask k J|os _ _ k J|handled _ k J|newGen _ k J|stack k J|thread k J=>exact λhd h=>J _ (L _) hd h|load a _ k J|genState a k J=>exact λhd ⟨o,ho,h⟩=>(o,ho,J _ (L _) hd h)|choose _ _ k J=>exact λhd ⟨a,h⟩=>(a,J _ (L _) hd h)|update a _ f k J=>exact λhd ⟨a,h⟩=>(a,J _ L.2 (hd.upd L.1) h)
theorem xW{M:Model}{t:Sem α}{e:ay}{Q:α->aM->Prop}(L:Tame t)(hd:DictAt e dd s.heap)(h:wpAny M A t Q E s) :
  wpAny M A t (λa s'=>Q a s'/\DictAt e dd s'.heap) (λv s'=>E v s'/\DictAt e dd s'.heap) s:=fun Γ p J=>Gp L hd (h Γ p J)
theorem bB{M:Model}{t:Sem α}{e:ay}{Q:α->aM->Prop}(J:Tame t)(hd:DictAt e dd s.heap)(h:wpAny M A t (λa s'=>DictAt e dd s'.heap->Q a s') E s):wpAny M A t Q E s :=
 zyg (xW J hd h) (λ_ _ q=>q.1 q.2) λ_ _ q=>q.1
section
theorem dN{c:Prop}[Decidable c]{a b:Sem α}(h1:Tame a)(h2:Tame b):Tame (if c then a else b):=by split<;>assumption
theorem gA{v:ax}{i:Nat}:Tame (field v i):=by
 refine aW ?_ λxs=>?_
 .unfold fieldsOf;split
  .exact λo=>by dsimp only[Bind.bind,Sem.bind];split<;>exact trivial
  .exact trivial
 .split<;>exact trivial
theorem jH(f:Array ax->Array ax)(o:Obj):(zbz f o).dict=o.dict/\(zbz f o).isFreed=o.isFreed:=by let(c,d,dt,sl):=o;cases dt<;>exact(rfl,rfl)
theorem ff{v x:ax}{i:Nat}:Tame (zdt v i x):=by
 unfold zdt;split
 .unfold updateField;refine aW (λo=>trivial) λo=>?_;split
  .exact dN (jH _,trivial) trivial
  .exact trivial
 .exact trivial
theorem bv{e:ax}{f:aT ay}:Tame (setFlight e f):=by exact aW gA λtb=>dN ff trivial
theorem nX{vs:av ax}:Tame (newFields ty vs):=by
 unfold newFields newObj;have h:Tame (newObjAsIs (.type ty) (.fields vs.toArray)):=by exact λa=>trivial
 exact dN trivial h
theorem qg{outer:av Env}:Tame (behindIsImport env outer):=by refine dN trivial (dN trivial (aW gA λ_=>trivial))
theorem zQ:∀l:av Env,Tame (keptBack env b l)
 |[]=>by unfold keptBack underTheClaimsCaller;exact dN trivial (λ_=>trivial)
 |c::_=>trivial
theorem oQ:∀l:av Env,Tame (readyFrames l)
 |[]=>trivial|env::g=>by
  have J:=oQ g;unfold readyFrames;split
  .refine aW (λo=>trivial) λo=>?_;refine dN trivial (aW qg λb=>aW (zQ _) λback=>?_);exact aW (m:=update _ _) (λo=>(rfl,by let(c,d,dt,sl):=o;cases dt<;>rfl),trivial) λ_=>J
  .exact trivial
theorem qi:∀l:av Env,Tame (frameObject l)
 |[]=>trivial|e::l=>by unfold frameObject;exact aW (oQ _) λ_=>trivial
theorem sD:Tame (zdH env):=by refine aW (aW (λx=>trivial) λx=>trivial) λr=>aW (qi _) λo=>?_;split<;>exact trivial
theorem lT{f:ay}:Tame (entryPlaceOf f b):=by refine aW (λx=>trivial) λacts=>?_;split<;>exact trivial
theorem dn{e:ax}:Tame (zcc e env):=by
 have c:∀(f:ay)(head:ax),Tame (do let a <-zdH env;let pl <-entryPlaceOf f (head != .none);let b <-EntryCells.newEntry head a .none (zcS f) .none pl;zdt e 1 b):=λf head =>
  aW sD λ_=>aW lT λ_=>aW nX λ_=>ff
 unfold zcc;split
 .rename_i f _;refine aW gA λhead=>?_;refine dN ?_ (c f head);refine aW gA λv=>dN trivial (aW ff λ_=>c f head)
 .exact trivial
theorem sE{e:ax}:Tame (leaving env e):=aW dn λ_=>bv
variable{P:cH}{w:World}{H:Hp}{h:cx}{o:HO}
theorem ObjOk.there(x:ObjOk P w H h a o):∃u,h.get? a\u:=by
 cases o with
 |lst d=>let(_,_,_,_,e):=x;exact(_,e)
 |tup d=>let(_,_,_,_,e,_):=x;exact(_,e)
 |dK c=>let(_,_,_,_,o,_,_,e,_):=x;exact(_,e)
 |dT c=>let(_,_,_,_,o,_,_,e,_):=x;exact(_,e)
 |set S n=>let(o,_,_,_,e,_):=x;exact(_,e)
 |ins C dx fs=>let(_,_,_,e,_):=x;exact(_,e)
 |own y=>exact x|xd fs=>let(_,(_,_,_,e,_),_):=x;exact(_,e)
 |rng lo hi=>let(_,_,_,e):=x;exact(_,e)
 |frz ob u=>let(e,_):=x;exact(_,e)
 |tbl ps=>exact(_,show h.get? a\_ from x)|met f y=>exact(_,show h.get? a\_ from x)|ext φ=>exact x.2.1
end
structure Cry(X:Cx)(H:Hp)(B:Heap):Prop where
 old:∀b o,X.s₀.heap.get? b\o->b∉X.fs->b∉X.ex->∃o',B.get? b\o'
 trk:∀b o,H b\o->∃o',B.get? b\o'
 pin:∀p∈X.pn,∃o',B.get? p.1\o'
section
variable{σ:St}{H:Hp}
theorem Inv.nopin(I:Inv X pins σ H s):Inv X [] σ H s :=
 (I.ok,I.os,I.bare,I.base,I.loc,I.cell,I.free,I.freeC,λp J=>I.pin p (by rw[zzB]at J;exact zzT _ J),I.hok,I.len)
theorem uM{b:ay}(k:B.StaysIn h)(c:B.StaysIn h')(J:∃o',B.get? b\o')(e:h.get? b\o):h'.get? b\o:=by let(o',q):=J;have:=k b o' q;rw[e]at this;cases this;exact c b _ q
theorem Inv.fly(I:Inv X [] σ H s)(c:Cry X H B)(k:B.StaysIn s.heap)(w:B.StaysIn h')(u:s.heap.UpToSlots h'):Inv X [] σ H {s with heap:=h' }:=by
 have L:∀c v,s.heap.IsCell c v->h'.IsCell c v:=λc v ⟨o,ho,hd⟩=>by
  let(sl,q):=u c o ho λvs q=>by rw[hd]at q;cases q
  exact(_,q,hd)
 have U:∀b o,X.s₀.heap.get? b\o->b∈X.fs->∃sl,h'.get? b=some {o with slots:=sl}:=λb o e J=>by let(_,Q,Y,hd):=I.ok.funs.mem J;rw[e]at Y;cases Y;let(sl,C):=I.base.slot b o e (I.ok.frf b J) J λz=>I.ok.exfs b z J;let(a,G):=u b _ C hd;exact(a,G)
 refine(I.ok,I.os,I.bare,(λb o e n J g=>?_,λb o e n J g=>U b o e J,I.base.free,λb o e g=>?_,I.base.tups,I.base.frzs,I.base.tbls),?_,λx c e=>?_,I.free,I.freeC,λp M=>?_,λb o e=>?_,I.len)
 .exact uM k w (c.old b o e J g) (I.base.keep b o e n J g)
 .by_cases J:b∈X.fs
  .let(sl,q):=U b o e J;exact(_,q)
  .let(Q,q):=c.old b o e J g;exact(Q,w b Q q)
 .let(m,A,j):=I.loc;refine(m,u.ns A,λi x v C G h=>?_);let(y,r,l):=j i x v C G h;refine(y,r,?_);rcases l with l|⟨E,c,e,z⟩
  .exact .inl l
  .exact .inr (E,c,e,L c _ z)
 .let(v,z):=I.cell x c e;exact(v,L c v z)
 .let(e,r):=I.pin p M;rw[zzB]at M;exact(uM k w (c.pin p M) e,r)
 .refine(I.hok b o e).stay (λd v hd q=>uM k w ?_ q) (λ_ q=>q) λ_ _ q=>q;rcases hd with rfl|hd
  .exact c.trk d _ e
  .exact c.trk d _ hd
end
def Ph(B:cx)(l:av Env)(L ea C:ay)(h:cx):Prop :=
 (∃a0,zbT B l ea (.ref C) a0 h)∨(∃a0,zbe B l ea (.ref C) a0 L h) ∨
 (B.StaysIn h/\B.get? ea=none/\h.FunFrames B l/\∃J c a0,h.get? ea\J/\J.cls=.ref C/\J.data=.fields c/\c[1]?\.none/\c[0]?\a0)
theorem Ph.stays{B:cx}{l:av Env}{C:ay}(x:Ph B l p ea C h):B.StaysIn h:=by
 rcases x with ⟨_,x⟩|⟨_,x⟩|x
 .exact x.1
 .exact x.1
 .exact x.1
inductive XF(X:Cx)(W:St->XK)(e:Value)(s':zbi):Prop
 |mk ea C dd B σ H:e=.ref ea->Ph B X.stack X.env.locals ea C s'.heap/\DictAt ea dd s'.heap->Cry X H B->Inv X [] σ H s'->W σ (.ref C) dd H->XF X W e s'
inductive XFl(X:Cx)(W:St->XK)(e:Value)(s':zbi):Prop
 |mk ea C dd B σ H a0:e=.ref ea->zbT B X.stack ea (.ref C) a0 s'.heap/\DictAt ea dd s'.heap->Cry X H B->Inv X [] σ H s'->W σ (.ref C) dd H->XFl X W e s'
def CXE(P:cH)(w:World):CXT:=λc H s E e s' =>
 ∃ea C dd B d a0,e=.ref ea/\(zbT B c ea (.ref C) a0 s'.heap/\DictAt ea dd s'.heap)/\Un (frs c) [] H d s.heap s'.heap/\HOk P w d s'.heap /\
  (∀b o,s.heap.get? b\o->b∉frs c->∃g,B.get? b\g)/\(∀b o,d b\o->∃g,B.get? b\g)/\s'.os=s.os/\zcd s'.gens/\E (.ref C) dd d
section
variable{σ:St}{H H':Hp}{e:ax}
theorem XF.mono{J:St->XK}(x:XF X W e s')(k:∀σ C dd H,W σ C dd H->J σ C dd H):XF X J e s':=by have(ea,C,dd,B,σ,H,a,b,c,d,f):=x;exact(ea,C,dd,B,σ,H,a,b,c,d,k _ _ _ _ f)
theorem Inv.offstack(I:Inv X pins σ H s){b:ay}(c:b≠X.env.locals)(d:b∉X.fs):b∉frs X.stack:=λz=>by
 rcases zze.mp (I.stkSub b z) with q|q
 .exact c q
 .exact d q
theorem Inv.oldNe(I:Inv X pins σ H s){b:ay}(e:X.s₀.heap.get? b\o):b≠X.env.locals:=zzH (zzA (zzy e) I.ok.above)
theorem wz{E:XK}(I:Inv X pins σ H s)(h:CXE X.prog X.w X.stack H s E e s')(Q:∀C dd H',E C dd H'->W σ C dd H'):XFl X W e s':=by
 walk;let(ea,C,dd,B,H',a0,rfl,(M,fd),un,c,J,L,os,bare,q):=h;let(a,g,d,t,U):=s';x_go;obtain rfl:U=s.os:=os;refine(ea,C,dd,B,σ,H',a0,rfl,(M,fd),(λb o e Y j=>?_,L,λp i=>?_),I.nopin.call (h':=a) (g':=g) (d':=d) (t':=t) (ch:=[]) un c bare (λb z=>absurd z 's'),Q _ _ _ q)
 .let(k,u):=I.base.there b o e j;exact J b k u (I.offstack (I.oldNe e) Y)
 .let(v,_,x,G,_):=I.pin p (zzT _ i);exact J p.1 p.2 v (I.offstack x G)
theorem zR{E:XK}(I:Inv X pins σ H s)(h:CXE X.prog X.w X.stack H s E e s')(J:∀C dd H',E C dd H'->W σ C dd H'):XF X W e s' :=
 have ⟨ea,C,dd,B,σ,H,a0,e1,⟨fl,fd⟩,x,y,z⟩:=wz I h J
 (ea,C,dd,B,σ,H,e1,(.inl (a0,fl),fd),x,y,z)
theorem Gq{C:ay}{vs:av ax}(I:Inv X pins σ H s)(c:zdc s.heap h' ea (.ref C) vs)(q:W σ (.ref C) none H):XF X W (.ref ea) {s with heap:=h' }:=by
 have v:∀env∈X.stack,∀b,env.frame\b->b∈frs X.stack:=λenv d b U=>zxK.mpr (env,d,U);have L:∀b o,s.heap.get? b\o->b∉frs X.stack->(zaq s.heap (frs X.stack)).get? b\o:=λb o e n=>zwi _ e n;have(t,d,_,_):=c.there;refine(ea,C,none,zaq s.heap (frs X.stack),σ,H,rfl,(.inr (.inr (λb o e=>c.keeps b o (zxI _ e),?_,?_,_,_,_,d,rfl,rfl,rfl,rfl)),_,d,rfl),(λb o e U c=>?_,λb o e=>?_,λp M=>?_),?_,q)
 .cases z:(zaq s.heap (frs X.stack)).get? ea with
  |none=>rfl|some o=>have:=zxI _ z;rw[c.new]at this;cases this
 .exact(zcx I.stack v).of_keeps λb o e _=>(o,c.keeps b o e,rfl)
 .let(l,J):=I.base.there b o e c;exact(l,L b l J (I.offstack (I.oldNe e) U))
 .let(u,J):=(I.hok b o e).there;exact(u,L b u J λz=>by rw[I.stkFree b z]at e;cases e)
 .let(w,_,x,G,_):=I.pin p (zzT _ M);exact(p.2,L p.1 p.2 w (I.offstack x G))
 .exact I.nopin.kept (t':=s.toks) λb o e=>c.keeps b o e
theorem qj{P:cH}{w:World}{K:zvu}{base:cx}{g:Str}{c:Scope}{f:ay}{outer:av Env}{E:XK}(x:XF (cxOf (CXE P w) P w K mA base N g c f cls A outer s H E) (λ_=>E) e s'):(cxOf (CXE P w) P w K mA base N g c f cls A outer s H E).xe e s':=by
 have(ea,C,dd,B,σ,H',rfl,(i,pd),G,I,q):=x;have fin:∀a0 L,zbT B outer ea (.ref C) a0 L->s'.heap.UpToSlots L->DictAt ea dd L->CXE P w outer H s E (.ref ea) {s' with heap:=L}:=λa0 L l u d=>by have J:=I.fly G i.stays l.1 u;exact(ea,C,dd,B,H',a0,rfl,(l,d),J.base,J.hok,λb o e n=>G.old b o e n (λz=>absurd (show b∈([]:av ay) from z) 's'),G.trk,J.os,J.bare,q)
 have Y:(A.deeper (zbh g c s⁻¹ f cls)).frames\(zbh g c s⁻¹ f cls::outer):=I.ok.frames;refine bB sE pd ?_;rcases i with ⟨a0,l⟩|⟨a0,a⟩|⟨M,v,Q,oe,vs,a0,j,p,r,y,T⟩
 .exact wpAny_leaves_onW Y rfl l λL k u d=>fin a0 L k u d
 .unfold leaving;refine zzb (zcA rfl a.2.2.2 ?_);refine wpAny_landsW a λL l u d=>?_;have(M,v,(_,_,Q),k4):=l;exact fin a0 L (M,v,Q,k4) u d
 .refine wpAny_leaving_firstW (a0:=a0) Y Q rfl j M v r y T λL hL d=>?_;have(l1,(_,_,l2),h,l4):=hL;rw[p]at h;exact fin a0 L (l1,v,l2,h) l4 d
theorem bX{M:Model}{l:av Env}{Q:Unit->aM->Prop}(i:B.StaysIn s.heap)(a:B.get? ea=none)(k:s.heap.FunFrames B l)(n:s.heap.TracedAtW B ea cls a0 e)(h:∀h',zbe B l ea cls a0 p h'->s.heap.UpToSlots h'->Q () {s with heap:=h' }):wpAny M A (setFlight (.ref ea) (some p)) Q E s:=by
 have(r,m,T,oT,G,z,Y,hd,x,w,v,g,c,j):=n;have u:3<G.size:=(zyX.mp j).1;have other:∀b,b≠T->(s.heap.update T (zbz (·.setIfInBounds 3 ((some p).elim zaI λf=>zcS f)))).get? b=s.heap.get? b :=
  λb L=>zxP _ _ (Ne.symm L)
 have J:∀b o,s.heap.get? b\o->(∀m,o.data ≠ .fields m)->b≠T:=λb o L U q=>by rw[q,g]at L;injection L with L;subst L;exact U G c
 refine zzb (zyQ z hd x ?_);refine zwC g c u (h _ (λb o d=>(other b λq=>by rw[q,w]at d;cases d).trans (i b o d),a,
  k.of_keeps λb o L U=>(o,(other b (J b o L U)).trans L,rfl),?_) λb o L U=>(o.slots,(other b (J b o L U)).trans L))
 exact(r,m,T,_,_,(other ea (Ne.symm v)).trans z,Y,hd,x,w,v,zyO _ g (zbs (zaR c _)),zaR c _,by simp[u])
theorem qk{M:Model}{env:Env}{outer:av Env}{C:ay}{Q:Unit->aM->Prop}(J:A.frames\(env::outer))(L:env.frame\p)(b:Ph B (env::outer) p ea C s.heap)(h:∀h' a0,zbe B (env::outer) ea (.ref C) a0 p h'->s.heap.UpToSlots h'->Q () {s with heap:=h' }):wpAny M A (zcc (.ref ea) env) Q E s:=by
 rcases b with ⟨a0,w⟩|⟨a0,g⟩|⟨z,l,G,oe,vs,a0,c,q,U,d,v⟩
 .exact wpAny_looks_onW J L w λh' k u=>h h' a0 k u
 .exact zcA L g.2.2.2 (h s.heap a0 g (.refl _))
 .unfold zcc;simp only[L];refine zzb (zyQ c U d ?_);refine wpAny_entryW J G L c z l U (zyX.mp d).1 v λh' x=>?_;let(I,Y,m,a):=x;rw[q]at m;exact h h' a0 (I,l,Y,m) a
theorem xX{M:Model}{l:av Env}(u:env.frame\p)(d:zbe B l ea cls a0 p s.heap)(hd:DictAt ea dd s.heap)(h:∀h',zbe B l ea cls a0 p h'->s.heap.UpToSlots h'->DictAt ea dd h'->E (.ref ea) {s with heap:=h' }):cameBackBy M A env E (.ref ea) s:=by
 have(f1,f2,L,oe,vs,T,oT,ts,q,hcls,J,m,hnT,hTe,hT,hdT,h3):=id d;refine zzb (zyQ q J m ?_);rw[zzn (show ¬((zac T==zaI)=true) from by simp),u]
 first
  |exact zzb (zzr (bB bv hd (bX f1 f2 L d.2.2.2 λh' a b c=>h h' a b c)))
  |exact bB bv hd (bX f1 f2 L d.2.2.2 λh' a b c=>h h' a b c)
theorem ET{M:Model}{A':zas}(L:A'.frames\X.stack)(hs:X.stack=X.env::X.outer)(l:X.env.frame\X.env.locals):PassesOwnAt M A' A X.env (XF X W):=by rintro e s' ⟨ea,C,dd,B,σ,H,rfl,⟨m,d⟩,J,I,q⟩;rw[hs]at L;have g:=m;rw[hs]at g;refine bB dn d (qk L l g λx a0 c u d=>?_);have v:=I.fly J m.stays c.1 u;refine xX (s:={s' with heap:=x}) l c d λh2 U z w=>?_;exact(ea,C,dd,B,σ,H,rfl,(.inr (.inl (a0,by rw[hs];exact U)),w),J,v.fly J c.1 U.1 z,q)
end
def EU(sp:Sp)(dvs:av V)(W:St->XK)(t:TA):TE:=λc H Q=>t c H λd H1=>sp (d++dvs) H1 Q (W c)
section
variable{k:Nat}{f:ay}{fd:bo}{ps:av Str}{sp:Sp}{dvs:av V}{ds:av ax}
theorem uN{pins:av (ay×Obj)}{c:St}{H:Hp}{Q:VK}{vs:av V}(F:FnOk X.prog X.w X.K X.mg X.base (CXE X.prog X.w) k f fd ps sp)(l:Room k X.A)(d:Binds X.K fd ps ds)(hd:Vals dvs ds)(m:∀e s',XF X W e s'->X.xe e s')(I:Inv X pins c H s)(r:Vals vs us)(h:sp (vs++dvs) H Q (W c)):wX X (call (.ref f) us) (EP X pins c Q) X.xe s:=by
 have L:Vals (vs++dvs) (us++ds):=r.append hd;have g:(us++ds).length=ps.length:=by rw[<-L.length];exact F.len _ _ _ _ h
 refine zxY (zyD (F.run X.A X.stack s H (us,[]) (us++ds) (vs++dvs) Q (W c) l I.env0 (d s us I.kIn g) L h) λr s' J=>?_);cases r with
 |error e=>exact m e s' (zR I J λ_ _ _ q=>q)
 |ok U =>
  cases U with
  |ret u=>exact I.after J|next=>exact False.elim J|brk=>exact False.elim J|cont=>exact False.elim J
end
def IR(P:ClassData->Bool):Data->Bool
 |.cls c=>P c|_=>false
theorem zS{P:ClassData->Bool}{d:Data}(h:IR P d=true):∃c,d=.cls c/\P c=true:=by cases d<;>first|cases h|exact(_,rfl,h)
theorem one_{P:av α->Prop}(k:∀a r,r.length=n->P (a::r)):∀l,l.length=n+1->P l
 |a::r,h=>k a r (ze7 h)
theorem six{P:av α->Prop}(k:∀a b c d x f,P [a,b,c,d,x,f]):∀l,l.length=6->P l :=
 one_ λa=>one_ λb=>one_ λc=>one_ λd=>one_ λx=>one_ λf r h=>by rw[zyc.mp h];exact k _ _ _ _ _ _
def excG(K:zvu)(C:ay)(v:aT ax):Bool:=match K.lookup C with
 |none=>false|some o=>o.cls==.type "type" && IR (λc=>c.mro.head?==some (.ref C) && !c.hasDel && PySem.W.tailIn K [.type "ValueError",.type "Exception",.type "BaseException",.type "object"] c.mro.tail && zeS K c.ns && zeg K c.ns "__init__"==some v) o.data && o.slots.toList.length==6 && o.slots.toList[4]?==some (some (.builtin "ValueError.__new__"))
inductive ExO(K:zvu)(h:Heap)(C:Addr)(v:Option Value):Prop
 | mk (bm:List Value) (N:Addr) (nm q:Str) (bs:List Value) (hdct:Bool) (sn:List Str) (sub:List Value) (ab:Bool) (col:Option Bool) (dd:Option Addr) (k0 k1 k2 k3 k5:Option Value):h.get? C\(excClassObj nm q C N bs bm hdct sn sub ab col dd k0 k1 k2 k3 k5 "ValueError.__new__")->OwnTail h [.type "ValueError",.type "Exception",.type "BaseException",.type "object"] bm->zeS K N=true->zeg K N "__init__" = some v->ExO K h C v
theorem lx{K:zvu}{C:ay}{v:aT ax}(k:K.In h)(q:excG K C v=true):ExO K h C v:=by
 unfold excG at q;cases ho:K.lookup C with
 |none=>rw[ho]at q;cases q
 |some o =>
  rw[ho]at q;let(cl,dd,da,⟨sl⟩):=o;simp only[zya,zxM]at q;let(((rfl,q),Q),U):=q;let(u,rfl,g):=zS q;simp only[zya,zxM,zdT]at g;let((((w,J),x),c),L):=g;let(nm,bs,d,ns,Y,hd,a,sub,m,col,del):=u;refine six (P:=λl=>K.lookup C\(_,_,_,⟨l⟩)->l[4]?\_->_) (λz G H I k4 M ho U=>?_) sl Q ho U;cases U;cases J;cases d<;>cases w
  exact(_,ns,nm,Y,bs,hd,a,sub,m,col,dd,z,G,H,I,M,k _ _ ho,PySem.W.tail_of_in k x,c,L)
structure Exc(K:zvu)(C:Addr):Prop where
 q:excG K C none=true
section
variable{C:ay}{x:Str}{np cpos:Pos}{es:av cy}{t:TA}
def IS(C:ay)(W:St->XK)(t:TA):TS:=λ_ c H=>t c H λd H1=>d.length<=zaa/\W c (.ref C) none H1
theorem CK(c:Exc X.K C)(M:X.calm=true)(Q:Gl X x)(g:X.mg x\(.ref C))(Y:∀e s',XF X W e s'->X.xe e s')(G:PA X (e::es) t)
  (he:SE X e es) (J:BA X cpos es)
  (hd:NoDb x):PS X (.Raise (some (.Call (.Name x np) (e::es) [] cpos)) none pos) (IS C W t):=by
 intro pins s a H D I h;walk;let(bm,N,nm,q,bs,hdct,sn,sub,ab,col,dd,k0,k1,k2,k3,k5,v,T,d,L):=lx I.mod.kin c.q;have w:=Heap.Ns.of_isNs (PySem.W.isNs_of_in I.mod.kin d);have L:=PySem.W.nsMap_none_of_in I.mod.kin d L;x_go;have FB:=zbQ;refine wpAny_Raise_call_subU (C:=C) (nm:=nm) (q:=q) (N:=N) (bs:=bs) (bm:=bm) (hdct:=hdct) (sn:=sn) (sub:=sub) (ab:=ab) (col:=col) (dd:=dd) (k0:=k0) (k1:=k1) (k2:=k2) (k3:=k3) (k5:=k5)
  FB 'd' FB (T.hasType FB.hasBase) (I.ok.hd M) (by rw[he];show (false || (zbH cpos (zaj es X.env)).any (·.1))=false;rw[J];rfl) L (eA I Q g (rfl,?_) hd)
 have l:=G cpos pins s a H _ I h;rw[he]at l⊢;refine zc4 (zyg l (λus s2 ⟨vs,H1,U,r,z,q⟩=>(rfl,by rw[<-r.length];exact z,U.bk _ _ v,w.keeps U.bk,T.keeps U.bk,λh' ea g=>Y _ _ (Gq U g q))) λ_ _ y=>y)
end
noncomputable abbrev Cx.pinned(X:Cx)(l:av (ay×Obj)):Cx:={X with pn:=l}
noncomputable abbrev Cx.caught(X:Cx)(ea:ay):Cx:={X with A:=X.A.mark (some (.ref ea)),calm:=false,xe:=λ_ _=>False}
noncomputable def excA(C:ay)(dd:aT ay)(ea:ay):HO:=.ext λh=>∃o,h.get? ea\o/\o.cls=.ref C/\o.dict=dd/\∃c,o.data=.fields c
abbrev excO(C ea:ay):HO:=excA C none ea
section
variable{σ:St}{H:Hp}{e:ax}
theorem Cx.Ok.pinned{l:av (ay×Obj)}(ok:X.Ok):(X.pinned l).Ok :=
 (ok.mod,ok.kind,ok.glob,ok.blt,ok.above,ok.inj,ok.has,ok.cab,ok.hd,ok.frames,ok.stk,ok.exf,ok.bs,ok.bsz,ok.noex,ok.exfs,ok.funs,ok.frf)
theorem Cx.Ok.unpinned{l:av (ay×Obj)}(ok:(X.pinned l).Ok):X.Ok :=
 (ok.mod,ok.kind,ok.glob,ok.blt,ok.above,ok.inj,ok.has,ok.cab,ok.hd,ok.frames,ok.stk,ok.exf,ok.bs,ok.bsz,ok.noex,ok.exfs,ok.funs,ok.frf)
theorem Inv.toPn(I:Inv X pins σ H s):Inv (X.pinned (X.pn++pins)) [] σ H s :=
 (I.ok.pinned,I.os,I.bare,I.base,I.loc,I.cell,I.free,I.freeC,λp J=>I.pin p (by rw[zzB]at J;exact J),I.hok,I.len)
theorem Inv.ofPn(I:Inv (X.pinned (X.pn++pins)) [] σ H s):Inv X pins σ H s :=
 (I.ok.unpinned,I.os,I.bare,I.base,I.loc,I.cell,I.free,I.freeC,λp J=>I.pin p (by rw[zzB];exact J),I.hok,I.len)
theorem Inv.caught{ea:ay}(I:Inv X pins σ H s):Inv (X.caught ea) pins σ H s :=
 ((I.ok.mod,I.ok.kind,I.ok.glob,I.ok.blt,I.ok.above,I.ok.inj,I.ok.has,I.ok.cab,λz=>(by cases z),I.ok.frames,I.ok.stk,I.ok.exf,I.ok.bs,I.ok.bsz,I.ok.noex,I.ok.exfs,I.ok.funs,I.ok.frf),I.os,I.bare,I.base,I.loc,I.cell,I.free,I.freeC,I.pin,I.hok,I.len)
theorem Inv.uncaught(ok:X.Ok)(I:Inv (X.caught ea) pins σ H s):Inv X pins σ H s :=
 (ok,I.os,I.bare,I.base,I.loc,I.cell,I.free,I.freeC,I.pin,I.hok,I.len)
theorem Inv.track{C:ay}{vs:Array ax}(I:Inv X [] σ H s)(c:Cry X H B)(w:B.get? ea=none)(he:s.heap.get? ea\ox)(h:ox.cls=.ref C)(hd:ox.data=.fields vs)(J:ox.dict=dd)(hex:X.ex=[]) :
  H ea=none/\Inv X [] σ (upd H ea (excA C dd ea)) s:=by
 have U:H ea=none:=by
  cases q:H ea with
  |none=>rfl|some o=>let(M,z):=c.trk ea o q;rw[w]at z;cases z
 have h0:∀b o,X.s₀.heap.get? b\o->b≠ea:=by
  rintro b o e rfl;by_cases L:b∈X.fs
  .let(_,M,Q,a):=I.ok.funs.mem L;rw[e]at Q;cases Q;let(sl,g):=I.base.slot b o e (I.ok.frf b L) L λz=>I.ok.exfs b z L;rw[he]at g;cases g;exact a _ hd
  .let(M,z):=c.old b o e L (by rw[hex];simp);rw[w]at z;cases z
 have tr:∀b o,H b\o->upd H ea (excA C dd ea) b\o:=λb o q=>by rw[ar (bW q U)];exact q
 refine(U,I.ok,I.os,I.bare,(I.base.keep,I.base.slot,λb o e n i=>?_,I.base.there,λb Y q=>tr _ _ (I.base.tups b Y q),λb o u q=>tr _ _ (I.base.frzs b o u q),λb ps q=>?_),I.loc,I.cell,?_,λx d q=>?_,λp G=>?_,λb o q=>?_,I.len)
 .rw[ar (h0 b o e)];exact I.base.free b o e n i
 .let(m,z):=I.base.tbls b ps q;exact(m,tr _ _ z)
 .have:X.env.locals≠ea:=by
   intro z;let(m,(o,es,ep,ho,J,_),_):=I.loc;rw[z,he]at ho;cases ho;rw[hd]at J;cases J
  rw[ar this];exact I.free
 .have:d≠ea:=by
   intro z;let(v,o,ho,J):=I.cell x d q;rw[z,he]at ho;cases ho;rw[hd]at J;cases J
  rw[ar this];exact I.freeC x d q
 .let(g,l,r):=I.pin p G;have:p.1≠ea:=by
   intro z;rw[zzB]at G;let(M,q):=c.pin p G;rw[z,w]at q;cases q
  exact(g,by rw[ar this];exact l,r)
 .by_cases z:b=ea
  .subst z;rw[ao]at q;cases q;exact((ox,he,h,J,_,hd),(ox,he),λh1 h2 ⟨o,g,l⟩ k=>(o,k o g,l))
  .rw[ar z]at q;exact(I.hok b o q).stay (λ_ _ _ q=>q) (λd q=>tr _ _ q) λd Y q=>tr _ _ q
theorem qm{M:Model}{i:Nat}{x:Str}{Q:Unit->aM->Prop}(I:Inv X pins σ H s)(T:X.N.Nodup)(hi:X.N[i]?\x)(hk:X.env.kindOf x\.local)(h:∀s',Inv X pins (σ.set i none) H s'->Q () s'):wpAny M A (do bindName X.env x .none;zc7 X.env x pos) Q E s:=by
 have(m,hn,hl):=id I.loc;have J:(X.env.scope.kind==.class || (X.env.scope.kind==.module && X.env.locals != X.env.globals))=false:=by rw[I.ok.kind];rfl
 have L:i<σ.length:=by rw[I.len];exact(zzC.mp hi).1
 have cne:=I.cne;refine wpAny_nameGoes_keeps hk hn J λh' v r g=>?_;have old:∀b o,X.s₀.heap.get? b\o->b≠X.env.locals:=λb o e=>I.oldNe e;refine h _ (I.ok,I.os,I.bare,(λb o e n G u=>?_,λb o e n G u=>?_,I.base.free,λb o e u=>?_,I.base.tups,I.base.frzs,I.base.tbls),(_,r,λj y v' l w B=>?_),λy c e=>?_,I.free,I.freeC,λp hp=>?_,λb ob e=>?_,by simpa using I.len)
 .exact(g.2 b (old b o e)).trans (I.base.keep b o e n G u)
 .let(sl,l):=I.base.slot b o e n G u;exact(sl,(g.2 b (old b o e)).trans l)
 .let(o',l):=I.base.there b o e u;exact(o',(g.2 b (old b o e)).trans l)
 .by_cases Y:j=i
  .subst Y;rw[zyL L]at w;cases w
  .rw[zzG (Ne.symm Y)]at w;have(u',r',q):=hl j y v' l w B;refine(u',r',?_);rcases q with ⟨k,e⟩|⟨k,c,e,z⟩
   .refine .inl (k,?_);have:y≠x:=λe=>Y (pR T l (e ▸ hi));simp[this,e]
   .exact .inr (k,c,e,z.sameBut g (cne y c e))
 .let(a,z):=I.cell y c e;exact(a,z.sameBut g (cne y c e))
 .let(e,n,ne,nf,d):=I.pin p hp;exact((g.2 p.1 ne).trans e,n,ne,nf,d)
 .refine(I.hok b ob e).stay (λc a hc q=>(g.2 c ?_).trans q) (λ_ q=>q) λ_ _ q=>q;rintro rfl;rcases hc with z|z
  .rw[<-z,I.free]at e;cases e
  .rw[I.free]at z;cases z
end
def tTry(X:Cx)(body suite:av Stmt)(C0:ay)(i:Nat)(Wo:St->XK):TS:=λD m H =>
 ∃W:St->XK,(∀pn,∃g,PSs ((X.pinned pn).wish (XF (X.pinned pn) W)) body g/\g D m H) /\
  ∀c C dd d,W c C dd d->(zar X.K C (.ref C0)\true/\∀ea L,C=.ref L->d ea=none->∃l,PSs (X.caught ea) suite l /\
   l (λJ H2=>D.nx (J.set i none) H2,D.rt,λJ H2=>D.bk (J.set i none) H2,λJ H2=>D.ct (J.set i none) H2) (c.set i (some (.ref ea))) (upd d ea (excA L dd ea))) ∨
  (zar X.K C (.ref C0)\false/\Wo c C dd d)
section
variable{body suite:av Stmt}{b0:Stmt}{n x:Str}{np hpos:Pos}{C0:ay}{i:Nat}{Wo:St->XK}
theorem EV(hs:X.stack=X.env::X.outer)(hf:X.env.frame\X.env.locals)(hex:X.ex=[])(o:X.N.Nodup)(hi:X.N[i]?\n)(b:X.env.kindOf n\.local)(hg:Gl X x)(hm:X.mg x\(.ref C0))
  (hx:∀e s',XF X Wo e s'->X.xe e s') (a9:NoDb x) :
  PS X (.Try body [.ExceptHandler (some (.Name x np)) (some n) (b0::suite) hpos] [] [] pos) (tTry X body (b0::suite) C0 i Wo):=by
 intro pins s σ H D I h;walk;let(W,hb,hW):=h;let(tb,pb,qb):=hb (X.pn++pins);x_go;refine wpAny_Try_except (zyg (pb [] s σ H D (I.toPn.wish _) qb) (λf E d=>?_) λe E d=>?_)
 .have d:=d.unwish;cases f with
  |next=>let(c,m,g,q):=d;exact lH pins E c m D g.ofPn q
  |brk=>let(c,m,g,q):=d;exact(c,m,g.ofPn,q)
  |cont=>let(c,m,g,q):=d;exact(c,m,g.ofPn,q)
  |ret u=>let(v,c,m,g,r,q):=d;exact(v,c,m,g.ofPn,r,q)
 .let(ea,C,dd,B,c,m,rfl,(ph,pd),J,g,q):=d;have b1:X.A.frames\(X.env::X.outer):=by rw[<-hs];exact g.ok.frames
  have b3:Ph B (X.env::X.outer) X.env.locals ea C E.heap:=by rw[<-hs];exact ph
  refine bB dn pd (qk b1 hf b3 λh1 a0 a6 u1 d1=>?_);refine bB bv d1 (wpAny_landsW a6 λh2 L u2 d2=>?_);have I1:=g.fly J ph.stays a6.1 u1;have j:=I1.fly J a6.1 L.1 u2;have(ob,b2,a8):=L.there;have LT:PySem.W.Looks (model X.prog X.w) h2 (zdJ (.ref ea)) (.ref C):=by rw[<-a8];exact(zet b2).andThen .now
  refine wpAny_handleBy_cons (codeAny_handlers_test (eA (j.caught (ea:=ea)) hg hm ?_ a9)) (by intro q;cases q);rcases hW _ _ _ _ q with ⟨ex,q⟩|⟨ex,q⟩
  .refine(zeI j.kIn LT ex).here ?_;refine codeAny_handlers_suite_as ?_;refine bB bv d2 (lands_againW L λh3 a5 u3 d3=>?_);have I3:=j.fly J L.1 a5.1 u3;walk;let(oe,vs,e1,e2,e3,_):=a5.first;let(od,e4,e5):=d3;x_go;rw[show h3.get? ea\oe from e1]at e4;cases e4;let(hn,I4):=I3.track J a5.2.1 e1 e2 e3 e5 hex;refine iH I4.ofPn o hi (.inl b) (v:=.ref ea) (u:=.ref ea) rfl (λs5 I5=>?_) (.inr b);have(th,b4,qh):=q ea C rfl hn;refine zyg (b4 pins s5 _ _ _ I5.caught qh) (λf s6 d=>?_) λ_ _ z=>z.elim;show wpAny _ _ (do bindName X.env n .none;zc7 X.env n hpos) _ _ s6;cases f with
   |next=>let(a7,H6,M,Y):=d;exact qm (M.uncaught I.ok) o hi b λs7 Q=>(_,_,Q,Y)
   |brk=>let(a7,H6,M,Y):=d;exact qm (M.uncaught I.ok) o hi b λs7 Q=>(_,_,Q,Y)|cont=>let(a7,H6,M,Y):=d;exact qm (M.uncaught I.ok) o hi b λs7 Q=>(_,_,Q,Y)|ret u=>let(v,a7,H6,M,r,Y):=d;exact qm (M.uncaught I.ok) o hi b λs7 Q=>(v,_,_,Q,r,Y)
  .refine(zeI j.kIn LT ex).here ?_;refine wpAny_handleBy_nil ?_;have(f1,f2,f3,oe,vs,T,oT,ts,he,hcls,hd,h1,hnT,hTe,hT,hdT,h3):=id L;unfold PySem.passOn;refine zzb (zyQ he hd h1 ?_);rw[zzn (show ¬((zac T==zaI)=true) from by simp),hf];have fin:∀G,zbe B (X.env::X.outer) ea (.ref C) a0 X.env.locals G->h2.UpToSlots G->DictAt ea dd G->X.xe (.ref ea) {E with heap:=G}:=λG a y k=>by
    have I4:=j.fly J L.1 a.1 y;exact hx _ _ (ea,C,dd,B,c,m,rfl,(.inr (.inl (a0,by rw[hs];exact a)),k),(J.old,J.trk,λp hp=>J.pin p (zzT _ hp)),I4.ofPn.nopin,q)
   first
    |exact zzb (zzr (zzb (bB bv d2 (bX f1 f2 f3 L.2.2.2.at λG a y k=>zwI (fin G a y k)))))
    |exact zzb (bB bv d2 (bX f1 f2 f3 L.2.2.2.at λG a y k=>zwI (fin G a y k)))
end
open PySem.W (Looks)
structure ExK(K:zvu)(D:Addr):Prop where
 ga:zah K (.ref D) "__getattribute__" = some (some (.builtin "BaseException.__getattribute__"))
 gt:zah K (.ref D) "__getattr__" = some none
 sub:PySem.W.subIn K (.ref D) (.type "BaseException")\true
 ha:zah K (.ref D) "__class__" = some (some (.builtin "object.__class__"))
 hn:PySem.W.specialIn K (.builtin "object.__class__") "__get__" = some (some (.builtin "getset_descriptor.__get__"))
 htk:PySem.W.takesIn K (.builtin "object.__class__")\true
 mro:PySem.W.mroIn K D (.type "object")\true
 cls:(zch K D).isSome=true
inductive IsOf(x D:Addr)(h:Heap):Prop
 |mk o:h.get? x\o->o.cls=.ref D->IsOf x D h
theorem IsOf.type{x:ay}{M:Model}(I:IsOf x ea h):Looks M h (zdJ (.ref x)) (.ref ea):=by have(o,e,c):=I;exact c ▸ (zet e).andThen .now
section
variable{w:World}{x D:ay}
open PySem.W PySem.Calls Builtin Builtin.ObjectAttr Builtin.Getset_descriptor in
theorem xY{R:zcv->aM->Prop}(X:K.In s.heap)(I:IsOf x D s.heap)(c:mroIn K D (.type "object")\true)(h:R (.ok (.ret (.ref D))) s):zaZ (model prog w) A (.call (.builtin "getset_descriptor.__get__") ([.builtin "object.__class__",.ref x,cls],[])) R s:=by
 have L0:=I.type (M:=model prog w);have L1:=looks_mroIn (M:=model prog w) X c;refine zxB KF.slot_gs.plain KF.entry_gs (KF.slot_gs.check _ _ _ _ _ _ _ _ KF.type_class (KF.args_gs _ _ _) ?_);unfold Builtin.«getset_descriptor.__get__» descrGet;refine zzb (zzr ?_);unfold descrGetter descrCheckInstance descrNameAndClass isInstance;simp only[KF.owner_class]
 repeat lk
 refine(zbg _ 'k',zwW KF.entry_class ?_)
 repeat lk
 exact h
theorem CO{M:Model}(c:ExK K D)(X:K.In h):Looks M h (ze4 (.ref x) (.ref D) "__class__") (.bind (.builtin "getset_descriptor.__get__") (.builtin "object.__class__")):=by have J:=zyS (M:=M) X c.ha;have L2:Looks M h (zeX (some (.builtin "object.__class__"))) (some (.builtin "getset_descriptor.__get__")):=PySem.W.looks_specialIn X c.hn;have L:=PySem.W.looks_takesIn (M:=M) X c.htk;exact J.andThen (L2.andThen ((show Looks M h (zdq (some (.builtin "object.__class__")) (some (.builtin "getset_descriptor.__get__"))) (some (.builtin "getset_descriptor.__get__",.builtin "object.__class__")) from L.andThen .now).andThen (PySem.W.Looks.tag .now)))
theorem kR{R:zcv->aM->Prop}(c:ExK K D)(X:K.In s.heap)(I:IsOf x D s.heap)(h:R (.ok (.ret (.ref D))) s) :
  zaZ (model prog w) A (.call (.builtin "BaseException.__getattribute__") ([.ref x,.str "__class__" tk],[])) R s:=by
 let(l,g,d,t,os):=s;have hk:builtinKind "BaseException.__getattribute__" = some .slot:='k'
 have hsplit:splitId "BaseException.__getattribute__" = some ("BaseException","__getattribute__"):='k'
 have J:=I.type (M:=model prog w);have L:=zdn (M:=model prog w) X c.sub;have L2:=CO (M:=model prog w) (x:=x) c X;refine zxB PySem.F.attr_ValueError.ga.plain F.entry_bexc_ga ?_;refine zzb ?_;refine zzb (J.at (L.at ?_));have U:Looks (model prog w) l (zdJ (.ref x)) (.ref D):=J
 repeat (any_goals (first|assumption|with_reducible refine U.at ?_|with_reducible refine L2.at ?_|wp_step))
 exact xY X I c.mro (zzr h)
theorem zT{Q:aT ax->aM->Prop}(c:ExK K D)(X:K.In s.heap)(I:IsOf x D s.heap)(h:Q (some (.ref D)) {s with toks:=s.toks+1}):wM prog w A (getAttr? (.ref x) "__class__") Q E s:=by
 let(l,g,d,t,os):=s;have J:=I.type (M:=model prog w);have L:=zyS (M:=model prog w) X c.ga;have L2:=zyS (M:=model prog w) X c.gt;have f3:=PySem.F.attr_ValueError.ga.bind (.ref x);refine zzb (wpAny_mkText (zzb (zwg (zzQ (zzb (J.at (zzb (L.at ?_))))))))
 repeat (any_goals (first|assumption|with_reducible refine L3.at ?_|with_reducible refine L2.at ?_|wp_step))
 exact kR (s:=(l,g,d,t+1,os)) c X I (zdU rfl (zzr h))
theorem ly(c:ExK K D):ze5 K (.ref x) (.ref D) (IsOf x D) where
 ty:=λ_ _ _ I=>I.type
 it:=λ_ _ X _=>by
  let(d,J):=zwr.mp c.cls;unfold zch at J;split at J
  .rename_i ho;intro A' Q' E' s' k q;exact zzb (zc9 (k _ _ (X _ _ ho)) (zzr q))
  .cases J
 ne:=λh tp dd its n sl X L=>by
  let(d,J):=zwr.mp c.cls;refine zdW.mpr λq=>?_;have e:D=tp:=zac.inj (zxM.mp q);subst e;unfold zch at J;split at J
  .rename_i ho;have z:=(X _ _ ho).symm.trans L;cases z
  .cases J
 ca:=λX I k=>zT c X I k
end
noncomputable def eC:av ax->Bool
 |.ref _::r=>eC r| l=>l==[.type "ValueError",.type "Exception",.type "BaseException",.type "object"]
theorem oR(self:ax):∀{l:av ax},eC l=true->refuseLoop self "__setattr__" l=pure ()
 |.ref c::r,e=>by rw[refuseLoop_ref];exact oR self (by simpa[eC]using e)
 |[],e=>by simp[eC]at e
 |.type n::r,e=>by
  have:zaW n::r=[.type "ValueError",.type "Exception",.type "BaseException",.type "object"]:=by simpa[eC]using e
  rw[this];exact PySem.F.store_ValueError.passes self
 |.none::r,e|.bool _::r,e|.int _ _::r,e|.str _ _::r,e|.float _ _::r,e|.bytes _ _::r,e|.builtin _::r,e|.ellipsis::r,e|.notImplemented::r,e=>by cases e
theorem zU:∀{l:av ax},eC l=true->l.contains (.type "object")=true
 |.ref c::r,e=>by rw[zdA,zU (l:=r) (by simpa[eC]using e),Bool.or_true]
 |[],e=>by simp[eC]at e
 |.type n::r,e=>by
  have:zaW n::r=[.type "ValueError",.type "Exception",.type "BaseException",.type "object"]:=by simpa[eC]using e
  rw[this];decide
 |.none::r,e|.bool _::r,e|.int _ _::r,e|.str _ _::r,e|.float _ _::r,e|.bytes _ _::r,e|.builtin _::r,e|.ellipsis::r,e|.notImplemented::r,e=>by cases e
def uO(K:zvu)(C:ay):Bool:=(zch K C).any λc=>eC c.mro
section
variable{w:World}{x C:ay}{name:Str}{v:ax}
open PySem.W in
theorem Gr{R:zcv->aM->Prop}{od:aT Obj}(X:K.In s.heap)(I:InstAt s.heap x ox C od)(l:uO K C=true)(d:findIn K (.ref C) name\none)(h:wpAny (model prog w) A.in1 (zdB (.ref x) (.ref C) (.str name tk) name v false)
   (λfin s'=>match fin with|.done f=>R (.ok f) s'|.again L=>L.quiet=true/\zaZ (model prog w) A L R s') (λe s'=>R (.error e) s') s) :
  zaZ (model prog w) A (.call (.builtin "object.__setattr__") ([.ref x,.str name tk,v],[])) R s:=by
 have J:=PySem.F.store_object;let(c,U,ho):=any_some l;have ne:c.mro.isEmpty=false:=by cases q:c.mro with|nil=>rw[q]at ho;cases ho|cons _ _=>rfl
 have sub:Looks (model prog w) s.heap (isInstance (.ref x) (.type "object")) true:=I.type.andThen (looks_mroIn X (by unfold mroIn;rw[U,Option.bind_some,zzn (by rw[ne];decide),zU ho]));refine zxB J.slot.plain J.entry (@check_slot (model prog w) _ _ s "object.__setattr__" "object" "__setattr__" (.ref x) [.str name tk,v] [] _ J.kind J.split sub (J.args (.ref x) (.str name tk) v) ?_);have g:Looks (model prog w) s.heap (mroOf (.ref C)) c.mro:=(looks_clsIn X U).andThen .now;rw[osa_eq,refuse_eq];refine zzb (zzb (I.type.here (zzb (g.here ?_))));rw[oR _ ho];refine zzr (zzb (I.type.here (zzb ((looks_findIn X d).here (zzb ?_)))));exact zzr h
noncomputable abbrev kT(C t:ay)(od:aT ay):Obj:={cls:=.ref C,dict:=od,data:=.fields #[.ref t,.none,.none,.none,.bool false,.none]}
theorem CP{t:ay}{Q:Unit->aM->Prop}(X:K.In s.heap)(d:s.heap.get? x\(kT C t none))
  (hs:zah K (.ref C) "__setattr__" = some (some (.builtin "object.__setattr__"))) (p:uO K C=true) (a:zah K (.ref C) name\none) (n:za4 K C=true)
  (h:∀h',h'.get? x\(kT C t (some s⁻¹))->h'.Ns1 s⁻¹ (λy=>if y=name then some v else none)->(∀b u,b≠x->s.heap.get? b\u->h'.get? b\u) ->
   Q () {s with heap:=h',toks:=s.toks+2}):wM prog w A (setAttr (.ref x) name v) Q E s:=by
 have I:zbm s.heap x (kT C t none) C none:=(d,rfl,rfl,trivial);refine zd0 X I hs (Gr (s:={s with toks:=s.toks+1}) X I p a ?_);have(cd,j,z):=zeq n;have l:x≠s⁻¹:=zzH (zzy d);have J:(s.heap.push {cls:=.type "dict",data:=.dict #[]}).get? x\(kT C t none):=zzf _ d;refine zzb (zzr (zzb (zzb (zc9 d (zzb (zdv (s:={s with toks:=s.toks+1}) (zdo X j) ?_))))));rw[z];refine zzb (wpAny_alloc' ?_);refine zzb (wpAny_update' J ?_);have H:((s.heap.push {cls:=.type "dict",data:=.dict #[]}).update x λo=>{o with dict:=some s⁻¹}).get? s⁻¹=some {cls:=.type "dict",data:=.dict #[]} :=
  (zvh _ _ _ _ l.symm).trans (zdY rfl rfl)
 have M:((s.heap.push {cls:=.type "dict",data:=.dict #[]}).update x λo=>{o with dict:=some s⁻¹}).Ns s⁻¹ (λ_=>none) :=
  (_,#[],_,H,rfl,λe k=>absurd k 's',λ_=>rfl)
 refine zzr ?_;refine zzb (zzr (zzb (wpAny_nsSet1 (zd6 M) λh' L U=>?_)));have(oD,esD,epD,Y,G,m):=L.count (Within.cons name v Within.nil);refine zzb (wpAny_lookBehind Y (by rw[G];exact pastItsLine_dict (zzk m (by rw[zzl,zzY,zxp];lia))) ?_);refine zzr (h h' ?_ L λb u i q=>?_)
 .exact(U.2 x l).trans (zyO _ J rfl)
 .exact(U.2 b (zzH (zzy q))).trans ((zvh _ _ _ _ i).trans (zzf _ q))
theorem uP{od:Obj}{R:zcv->aM->Prop}(c:ExK K C)(X:K.In s.heap)(I:zbm s.heap x ox C (some od))(l:zeH K C (some od) name\(.value v))(h:R (.ok (.ret v)) s) :
  zaZ (model prog w) A (.call (.builtin "BaseException.__getattribute__") ([.ref x,.str name tk],[])) R s:=by
 let(m,g,d,t,os):=s;have hk:builtinKind "BaseException.__getattribute__" = some .slot:='k'
 have hsplit:splitId "BaseException.__getattribute__" = some ("BaseException","__getattribute__"):='k'
 have J:=I.type (M:=model prog w);have L:=zdn (M:=model prog w) X c.sub;have L2:=PySem.W.looks_find (M:=model prog w) X I l;refine zxB PySem.F.attr_ValueError.ga.plain F.entry_bexc_ga ?_;refine zzb ?_;refine zzb (J.at (L.at ?_));have U:Looks (model prog w) m (zdJ (.ref x)) (.ref C):=J
 repeat (any_goals (first|assumption|with_reducible refine U.at ?_|with_reducible refine L2.at ?_|wp_step))
theorem Gs{od:Obj}{Q:ax->aM->Prop}(c:ExK K C)(X:K.In s.heap)(I:zbm s.heap x ox C (some od))(U:zeH K C (some od) name\(.value v))(m:zcs v=true)(h:Q v {s with toks:=s.toks+1}):wM prog w A (getAttr (.ref x) name true) Q E s:=by
 let(l,g,d,t,os):=s;have J:=I.type (M:=model prog w);have L:=zyS (M:=model prog w) X c.ga;have L2:=zyS (M:=model prog w) X c.gt;have f3:=PySem.F.attr_ValueError.ga.bind (.ref x);refine zzb (wpAny_mkText (zzQ (zzb (J.at (zzb (L.at ?_))))))
 repeat (any_goals (first|assumption|with_reducible refine L3.at ?_|with_reducible refine L2.at ?_|wp_step))
 exact uP (s:=(l,g,d,t+1,os)) c X I U (zdU m h)
end
structure ExA(K:zvu)(C:Addr):Prop extends ExK K C where
 sa:zah K (.ref C) "__setattr__" = some (some (.builtin "object.__setattr__"))
 ov:uO K C=true
 hd:za4 K C=true
def excN(C:ay)(od:aT ay)(ea:ay):HO:=.ext λh=>∃t,h.get? ea\(kT C t od)
noncomputable def exD(fs:av (Str×V))(dx:ay):HO:=.ext λh=>∃mA,h.Ns1 dx mA/\(∀f,RelO (fs.lookup f) (mA f))/\zbf mA (fs.map (·.1))/\fs.length<=1000
section
variable{σ:St}{H:Hp}{C dx:ay}{fs:av (Str×V)}{f:Str}{v:V}
theorem IT{P:cH}{w:World}(n:h.Ns1 dx mA)(r:∀f,RelO (fs.lookup f) (mA f))(g:zbf mA (fs.map (·.1)))(c:fs.length<=1000):ObjOk P w H h dx (exD fs dx):=by refine((mA,n,r,g,c),?_,λh1 h2 ⟨m,d,U⟩ k=>(m,d.at k,U));have(o,es,ep,e,_):=n;exact(o,e)
theorem zV{P:cH}{w:World}{t:ay}(e:h.get? a\(kT C t od)):ObjOk P w H h a (excN C od a) :=
 ((t,e),(_,e),λ_ _ ⟨t,q⟩ k=>(t,k _ q))
theorem CQ{y:V}{u:ax}(r:∀f,RelO (fs.lookup f) (mA f))(J:RelV y u)(g:Str):RelO ((putF f y fs).lookup g) (if g=f then some u else mA g):=by
 rw[hU];by_cases q:g=f
 .rw[zzu q,zzu q];exact J
 .rw[zzn q,zzn q];exact r g
theorem uQ{y:V}{u:ax}(c:zbf mA (fs.map (·.1))):zbf (λg=>if g=f then some u else mA g) ((putF f y fs).map (·.1)):=λg J=>by
 by_cases q:g=f
 .rw[q];exact(fX f y fs).1
 .refine(fX f y fs).2 g (c g λz=>J ?_);show (if g=f then some u else mA g)=none;rw[zzn q];exact z
theorem CS{y:V}{u:ax}{Q:Unit->aM->Prop}(I:Inv X pins σ H s)(e:H a\(excN C none a))(c:ExA X.K C)(n:NoAttr X.K C f)(N:RelV y u)
  (h:∀dx s',H dx=none->dx≠a->Inv X pins σ (upd (upd H dx (exD [(f,y)] dx)) a (excN C (some dx) a)) s'->Q () s'):wpAny (model X.prog X.w) A (setAttr (.ref a) f u) Q E s:=by
 let(t,d):=(show ObjOk X.prog X.w H s.heap a (excN C none a) from I.hok a _ e).1;refine CP I.kIn d c.sa c.ov n c.hd λh' l m k=>h s⁻¹ _ (I.hok.fresh (zzs _)) (zxr (zzy d)) ?_;obtain⟨od,L⟩:∃od,h'.get? s⁻¹\od:=let ⟨o,_,_,q,_⟩:=m;(o,q)
 have j:a≠s⁻¹:=zzH (zzy d);have p:od.isFreed=false:=(zwu.mp L).2;have g1:(s.heap.push od).get? s⁻¹\od:=zzx _ p;have B:(s.heap.push od).Ns1 s⁻¹ (λy=>if y=f then some u else none):=m.at λo q=>by rw[L]at q;cases q;exact g1
 have M:=I.laid (a:=s⁻¹) (o:=exD [(f,y)] s⁻¹) (h':=s.heap.push od) (t':=s.toks+2) (λb u q=>zzf _ q) (zzs _)
  (IT B (CQ (fs:=[]) (mA:=λ_=>none) (λ_=>trivial) N) (uQ (fs:=[]) (y:=y) (mA:=λ_=>none) λg v=>absurd rfl v) 's')
 refine M.write (x:=a) (e:=a) (o:=excN C (some s⁻¹) a) (h':=h') (t':=s.toks+2) (by rw[ar j,e];trivial) (.inl rfl) (λb q r z=>?_) (_,l) (zV l);by_cases J:b=s⁻¹
 .rw[J];rw[J,show ({s with heap:=s.heap.push od,toks:=s.toks+2}:aM).heap.get? s⁻¹\od from g1]at z;cases z;exact L
 .let(U,i):=zwu.mp z;refine k b q r (zwu.mpr (?_,i));have Y:b<s⁻¹:=by
   have G:b<(s.heap.push od).objs.size:=(zyX.mp U).1;rw[zyx]at G;exact zyy (zxQ G) J
  have:(s.heap.push od).objs[b]?=s.heap.objs[b]?:=by show (s.heap.objs.push od)[b]?=_;rw[Array.getElem?_push,zzn (zzH Y)]
  rw[<-this];exact U
theorem Gu{Q:ax->aM->Prop}(I:Inv X pins σ H s)(e:H a\(excA C (some dx) a))(m:H dx\(exD fs dx))(c:ExA X.K C)(n:NoAttr X.K C f)(l:fs.lookup f\v)
  (h:∀u s',Inv X pins σ H s'->RelV v u->Q u s'):wpAny (model X.prog X.w) A (getAttr (.ref a) f true) Q E s:=by
 walk;let(o,ho,q,hd,vs,G):=(show ObjOk X.prog X.w H s.heap a (excA C (some dx) a) from I.hok a _ e).1;let(mA,M,Y,w1,l1):=(show ObjOk X.prog X.w H s.heap dx (exD fs dx) from I.hok dx _ m).1;let(u,z,d):=RelO.some_of (v:=v) (o:=mA f) (by rw[<-l];exact Y f);let(od,L,x):=rT M;x_go;have J:zbm s.heap a o C (some od):=(ho,q,by unfold PySem.W.notCls;rw[G],by rw[hd];exact L);exact Gs c.toExK I.kIn J (zdm c.hd n rfl (by rw[x,z])) (rV d) (h u _ (I.tok _) d)
end
def Lg(K:zvu)(ta:TE)(f:Str):TE:=λc H Q=>ta c H λx H1=>∃a C dx fs v,x=.ref a/\H1 a\(excA C (some dx) a)/\H1 dx\(exD fs dx)/\ExA K C/\NoAttr K C f/\fs.lookup f\v/\Q v H1
def IU(K:zvu)(ta tv:TE)(f:Str):TS:=λD c H=>tv c H λy H1=>ta c H1 λx H2=>∃a C,x=.ref a/\H2 a\(excN C none a)/\ExA K C/\NoAttr K C f /\
 ∀dx,H2 dx=none->dx≠a->D.nx c (upd (upd H2 dx (exD [(f,y)] dx)) a (excN C (some dx) a))
section
variable{o value:cy}{f:Str}{pos':Pos}{ta tv:TE}
theorem Gv(he:PE X e ta)(m:zag e f X.env (eval e X.env)=eval e X.env):PE X (.Attribute e f pos) (Lg X.K ta f):=by intro pins s M H Q I h;refine zC m (thn (he pins s M H _ I h) λu s1 w=>?_);walk;let(x,H1,U,G,a,C,dx,fs,v,ex,ea,g,c,n,l,q):=w;subst ex;x_go;obtain rfl:u=zac a:=G;exact Gu U ea g c n l λu' s2 d z=>(v,H1,d,z,q)
theorem CU(w:PE X o ta)(z:PE X value tv)(hs:zap value (some (.Attribute o f pos')) pos.line X.env=pure false):PS X (.Assign [.Attribute o f pos'] value pos) (IU X.K ta tv f):=by intro pins s d H D I h;refine zbk (thnE (z pins s d H _ I h) λu e y H1 U b q=>thn (w pins e d H1 _ U q) λG s2 M=>?_) hs;walk;let(x,H2,g,Y,a,C,ex,ea,c,n,Q):=M;subst ex;x_go;obtain rfl:G=zac a:=Y;exact CS g ea c n b λdx s3 m v l=>(d,_,l,Q dx m v)
end
structure ExcI(K:zvu)(C fI:Addr):Prop extends ExA K C where
 q:excG K C (some (.ref fI))=true
 fi:zah K (.ref C) "__init__" = some (some (.ref fI))
 fn:zeU K (.ref fI)\(.type "function")
 kp:zau K (.ref C)=true
section
variable{C fI:ay}
section
variable{w:World}
theorem xZ{Q:Fin->aM->Prop}(X:K.In s.heap)(c:ExcI K C fI)(Y:∀h' e,s⁻¹<=e->zdc s.heap h' e (.ref C) us->wpAny (model prog w) A (call (.ref fI) (.ref e::us)) (λr s'=>r=.none/\Q (.done (.ret (.ref e))) s') E {s with heap:=h' })(z:us.length<=zaa) :
  wpAny (model prog w) A (Builtin.«type.__call__» (.ref C::us,[])) Q E s:=by
 walk;let(H,N,nm,q,bs,hdct,sn,sub,ab,col,dd,k0,k1,k2,k3,k5,l,T,_):=lx X c.q;have FB:=zbQ;let(h,g,d,t,os):=s;x_go
 repeat (first|with_reducible refine zxR l ?_|with_reducible refine wpAny_madeBy_exc l ?_|wp_step)
 refine codeAny_call_builtin_code (zbg _ FB.quiet) (wpAny_check_new_subU FB 'd' T l ?_);refine codeAny_exc_new_subU FB 'd' FB T l ?_ z;have m:∀b o,h.get? b\o->((h.push {cls:=.type "tuple",data:=.seq us.toArray}).push (kT C h.objs.size none)).get? b\o:=λb o e=>zzf _ (zzf _ e);have J:K.In ((h.push {cls:=.type "tuple",data:=.seq us.toArray}).push (kT C h.objs.size none)):=λb o e=>m b o (X b o e);have U:=m _ _ l;have L:((h.push {cls:=.type "tuple",data:=.seq us.toArray}).push (kT C h.objs.size none)).get? (h.objs.size+1)\(kT C h.objs.size none):=by heap_get
 have G:(zac C::H).contains (.ref C)=true:='s'
 repeat (first|with_reducible refine zxR L ?_|(with_reducible refine wpAny_isSubtype_exc U ?_;rw[G])|wp_step)
 refine(zyS (M:=model prog w) J c.fi).here ?_;refine zzQ (zzb ?_);refine(zeK J _ c.fn).here ?_;refine zzb (zyg (Y _ (h.objs.size+1) (zyW _) (m,zwT (zyW _),h.objs.size,L,zwT (zzs _),?_)) (λr s' a=>?_) λ_ _ x=>x)
 .exact zzf _ (zdY rfl rfl)
 .let(rfl,I):=a
  wp_walk
  exact I
theorem Lh{Q:ax->aM->Prop}(X:K.In s.heap)(c:ExcI K C fI)(u:∀h' e,s⁻¹<=e->zdc s.heap h' e (.ref C) us->wpAny (model prog w) (A.under (.builtin "type.__call__" (.ref C::us,[]))) (call (.ref fI) (.ref e::us)) (λr s'=>r=.none/\Q (.ref e) s') E {s with heap:=h' })(J:us.length<=zaa) :
  wM prog w A (call (.ref C) us) Q E s:=by
 walk;let(bm,N,nm,q,bs,hdct,sn,sub,ab,col,dd,k0,k1,k2,k3,k5,L,T,_):=lx X c.q;have f1:=tc_lookup;have f2:=tc_bind (.ref C);let(h,g,d,t,os):=s;x_go;refine zxY (codeAny_of_tree ?_)
 repeat (any_goals (first|assumption|with_reducible refine zxR L ?_|wp_step))
 refine(rfl,?_);refine codeAny_call_builtin_at (zbg _ 'k') entry_typeCall (wpAny_check_type_call_sub L (xZ (s:=(h,g,d,t,os)) X c (λh' e v m=>?_) J));exact u h' e v m
theorem ya{x:cy}{Q:Flow->aM->Prop}(G:A.handled=none)(h:wM prog w A (eval x env) (λv d=>∃e t od,v=.ref e/\K.In d.heap/\ExcI K C fI/\d.heap.get? e\(kT C t od)/\E (.ref e) d) E s) :
  wM prog w A (exec (.Raise (some x) none pos) env) Q E s:=by
 refine zzb (zxl ?_);refine zzb (zzb (zyg h (λv d J=>zzb (zxl (zzr ?_))) λ_ _ x=>x));walk;let(e,t,od,rfl,X,c,z,u):=J;let(m,N,nm,q,bs,hdct,sn,sub,ab,col,dd,k0,k1,k2,k3,k5,U,T,_):=lx X c.q;have L:(zac C::m).contains (.type "BaseException")=true:=by rw[zdA,T.hasType (X:="BaseException") (b:=true) 'd',Bool.or_true]
 x_go
 repeat (first|with_reducible refine zxR z ?_|with_reducible refine zxR U ?_|(with_reducible refine wpAny_isSubtype_exc U ?_;rw[L])|wp_step)
 exact wpAny_raiseNew_none G u
end
end
end Lake
namespace Lake
open PySem PySem.Spec PyProof.Rows
variable{T ea:ay}{t':Nat}
variable{X:Cx}{pins:av (ay×Obj)}{s:aM}
section
variable{σ:St}{H G:Hp}{s':aM}{a:ay}{W:St->XK}
theorem Inv.unlay{g:cx->Prop}(I:Inv X pins σ (upd G a (.ext g)) s)(i:G a=none):Inv X pins σ G s:=by
 have no:∀b,upd G a (.ext g) b=none->G b=none:=λb q=>by
  by_cases z:b=a
  .rw[z];exact i
  .rwa [ar z]at q
 have c:∀b o,upd G a (.ext g) b\o->(∀L,o ≠ .ext L)->G b\o:=λb o q h=>by
  by_cases z:b=a
  .subst z;rw[ao]at q;cases q;exact absurd rfl (h g)
  .rwa [ar z]at q
 have up:∀b o,G b\o->upd G a (.ext g) b\o:=λb o q=>by rw[ar (bW q i)];exact q
 refine(I.ok,I.os,I.bare,(I.base.keep,I.base.slot,λb o e n v=>no _ (I.base.free b o e n v),I.base.there,λb j q=>c _ _ (I.base.tups b j q) (λ_ z=>by cases z),λb o u q=>c _ _ (I.base.frzs b o u q) (λ_ z=>by cases z),λb w q=>?_),I.loc,I.cell,no _ I.free,λx d q=>no _ (I.freeC x d q),λp J=>?_,λb o q=>?_,I.len)
 .let(m,z):=I.base.tbls b w q;exact(m,c _ _ z (λ_ z=>by cases z))
 .let(k,l,r):=I.pin p J;exact(k,no _ l,r)
 .exact(I.hok b o (up b o q)).stay (λ_ _ _ q=>q) (λd q=>c _ _ q (λ_ z=>by cases z)) λd j q=>c _ _ q (λ_ z=>by cases z)
theorem CV{C t:ay}{dd:aT ay}(I:Inv X pins σ H s)(J:Inv X pins σ G s')(v:s.heap.get? ea=none)(r:G ea=none)(he:s'.heap.get? ea\(kT C t dd))(q:W σ (.ref C) dd G):XF X W (.ref ea) s':=by
 have k:∀c∈X.stack,∀b,c.frame\b->b∈ea::frs X.stack:=λc he b g=>zzc _ (zxK.mpr (c,he,g));have d:∀b o,s'.heap.get? b\o->b≠ea->b∉frs X.stack->(zaq s'.heap (ea::frs X.stack)).get? b\o:=λb o e w x=>zwi _ e (by simp[w,x]);have ne:∀b o,s.heap.get? b\o->b≠ea:=λb o e z=>by rw[z,v]at e;cases e
 refine(ea,C,dd,zaq s'.heap (ea::frs X.stack),σ,G,rfl,(.inr (.inr (λb o e=>zxI _ e,zwS _ 's',zcx J.stack k,_,_,_,he,rfl,rfl,rfl,rfl)),_,he,rfl),(λb o e g i=>?_,λb o e=>?_,λp h=>?_),J.nopin,q)
 .let(y,U):=I.base.there b o e i;let(j,L):=J.base.there b o e i;exact(j,d b j L (ne b y U) (J.offstack (J.oldNe e) g))
 .let(u,L):=(J.hok b o e).there;exact(u,d b u L (λz=>by rw[z,r]at e;cases e) λz=>by rw[J.stkFree b z]at e;cases e)
 .let(l,_,m,n,_):=J.pin p (zzT _ h);let(U,_):=I.pin p (zzT _ h);exact(p.2,d p.1 p.2 l (ne p.1 p.2 U) (J.offstack m n))
end
section
variable{tg:cy}
theorem CW(j:X.calm=true):df X (.builtin "sum") (λxs H Q=>∃(p:ay)(ns:av Int),xs=[.ref p]/\SqL X.K H p (ns.map V.int)/\Q (.int ns.sum) H):=by
 intro pins s σ H xs us Q I r h;walk;let(p,ns,rfl,l,q):=h;let(u,rfl,e):=fW r;x_go;cases e;walk;let(a,m,pl,_):=I.list l;have b:zaU a ns:=jD m;let(d,e):=b.allInts.items;x_go;have c:=pl.isList;rw[e]at c;refine sum_intListG (I.ok.hd j) c λh' tk t' k=>(.int ns.sum,H,I.kept k,(t',?_),q);have g:numsOf a=ns:=b.numsOf;have U:=nums_intItems d;rw[<-e]at U;have i:d.toList.map (·.1)=ns:=by rw[<-U,<-g]
 rw[preSum_eq,zwJ 's',i]
def iSeq(K:zvu)(tl:TE):TI:=λd H R=>tl d H λx b=>(∃a,x=.ref a/\(∃c,SqL K b a c)/\R (Itl K a) b)∨(∃a,x=.ref a/\(∃c,SqT K b a c)/\R (Itt K a) b)
theorem IV{l:cy}{m:TE}(n:PE X l m):PI X tg l (iSeq X.K m):=by
 intro pins s A H R I h;refine thn (n pins s A H _ I h) λv c u=>?_;have(x,j,J,k,w):=u;rcases w with ⟨a,rfl,⟨z,i⟩,q⟩|⟨a,rfl,⟨z,i⟩,q⟩
 .cases k;have(d,y,p,r):=J.list i;refine zxy p.isList (c⁻¹,[c⁻¹],_,_,j,rfl,J.kept (t':=c.toks) (λb o e=>zzf _ e),rQ a _,(_,zzx _ rfl,rfl,rfl),λb g=>?_,q);rw[show b=c⁻¹ by simpa using g];exact J.fpOk (zzs _) (J.hok.fresh (zzs _))
 .cases k;have(d,y,p,r):=J.tuple i;refine zxJ (show c.heap.IsTuple a d.toArray from p) (c⁻¹,[c⁻¹],_,_,j,rfl,J.kept (t':=c.toks) (λb o e=>zzf _ e),oK a _,(_,zzx _ rfl,rfl,rfl),λb g=>?_,q);rw[show b=c⁻¹ by simpa using g];exact J.fpOk (zzs _) (J.hok.fresh (zzs _))
end
section
variable{σ:St}{H:Hp}{h':cx}
theorem Inv.turnedN{ch:av ay}{o:HO}(I:Inv X pins σ H s)(L:∀b∈ch,FpOk X pins H b)(k:∀b u,b∉ch->s.heap.get? b\u->h'.get? b\u)(U:s⁻¹<=T)(new:ObjOk X.prog X.w (upd H T o) h' T o):Inv X pins σ (upd H T o) {s with heap:=h',toks:=t' }:=by
 have c:=I.hok.fresh U;refine I.call' (s':={s with heap:=h',toks:=t' }) (ch:=ch) rfl (λb u q _ _ d=>k b u d q,λb u q _ _ d=>(u.slots,k b u d q),λb u q n _=>?_,λb u q d=>(u,k b u d q),λb i e=>?_,λb p u e=>?_,λb ps e=>(#[],?_)) (λa q e=>?_) I.bare
  (λb J=>((L b J).2.2.2.1,(L b J).2.1,(L b J).2.2.2.2.1,(L b J).2.2.2.2.2))
 .rw[ar (zzH (zzA (zzy q) U))];exact n
 .rw[ar (by rintro rfl;rw[c]at e;cases e)];exact e
 .rw[ar (by rintro rfl;rw[c]at e;cases e)];exact e
 .rw[ar (by rintro rfl;rw[c]at e;cases e)];exact e
 .by_cases z:a=T
  .subst z;rw[ao]at e;cases e;exact new
  .rw[ar z]at e;refine ObjOk.stay (I.hok a q e) (λb u J h=>k b u (λg=>?_) h) (λb J=>?_) (λb i J=>?_)
   .have:=(L b g).1;rcases J with rfl|J
    .rw[this]at e;cases e
    .rw[this]at J;cases J
   .rw[ar (by rintro rfl;rw[c]at J;cases J)];exact J
   .rw[ar (by rintro rfl;rw[c]at J;cases J)];exact J
theorem Inv.turnedL{ch:av ay}(I:Inv X pins σ H s)(L:∀b∈ch,FpOk X pins H b)(k:∀b u,b∉ch->s.heap.get? b\u->h'.get? b\u):Inv X pins σ H {s with heap:=h',toks:=t' }:=by
 refine I.call' (s':={s with heap:=h',toks:=t' }) (ch:=ch) rfl (λb u q _ _ c=>k b u c q,λb u q _ _ c=>(u.slots,k b u c q),λb u q n _=>n,λb u q c=>(u,k b u c q),λb g e=>e,λb p u e=>e,λb ps e=>(#[],e)) (λa q e=>?_) I.bare
  (λb J=>((L b J).2.2.2.1,(L b J).2.1,(L b J).2.2.2.2.1,(L b J).2.2.2.2.2))
 refine ObjOk.stay (I.hok a q e) (λb u J d=>k b u (λU=>?_) d) (λb J=>J) (λb g J=>J);have:=(L b U).1;rcases J with rfl|J
 .rw[this]at e;cases e
 .rw[this]at J;cases J
end
theorem zW:zaG "enumerate" = some (.type "enumerate"):='k'
theorem CY:zaG "zip" = some (.type "zip"):='k'
theorem oS{x:V}:∀{xs:av V}{us:av ax},Vals xs us->xs.all fQ=true->us.countP (eqU x)=xs.countP λy=>eqV y x
 |_,_,.nil,_=>rfl|y::xs,u::us,.cons r t,f=>by rw[zwN,zya]at f;rw[zev,zev,wq r f.1,oS t f.2]
inductive rCount(x:V)(vs:List V)(H:Hp)(Q:VK):Prop
 |mk l xs y:x=.ref l->vs=[y]->H l\(.lst xs)->fQ y=true->xs.all fQ=true->Q (.int ((xs.countP λz=>eqV z y:Nat):Int)) H->rCount x vs H Q
theorem CZ:MtM X "list.count" rCount:=by intro pins s σ H x vs v us Q I i g h;have(l,xs,y,rfl,rfl,b,U,fs,q):=h;cases i;walk;let(u,rfl,d):=g.one;let(z,a,n,r,hl,e):=I.lstM b;x_go;refine zxN F.slot_list_count (_,e,rfl) F.entry_list_count (F.args_list_count_2 _ _) (SeqAt.list_countAt l a.toArray n none #[] u (eqU y)) (e,λw c=>gx d U r fs w (by simpa using c),?_);refine(.int _,H,I.tok _,(_,rfl),?_);rw[show a.toArray.toList.countP (eqU y)=a.countP (eqU y) from rfl,oS r fs];exact q
inductive rIndex(x:V)(vs:List V)(H:Hp)(Q:VK):Prop
 |mk l xs y j:x=.ref l->vs=[y]->H l\(.lst xs)->fQ y=true->xs.all fQ=true->(∃z,xs[j]? = some z/\eqV z y=true)->(∀m z,m<j->xs[m]? = some z->eqV z y=false)->Q (.int ((j:Nat):Int)) H->rIndex x vs H Q
theorem Da:MtM X "list.index" rIndex:=by
 intro pins s σ H x vs v us Q I rx rv h;have(l,b,y,j,rfl,rfl,T,Y,fs,(z0,L,M),E,q):=h;cases rx;walk;let(u,rfl,ru):=rv.one;let(z,a,n,r,p,e):=I.lstM T;x_go;have N:∀(m:Nat)(z:V),b[m]?\z->fQ z=true:=λm z hz=>zyA.mp fs z (zzK hz);have o:j<a.length:=by rw[<-p];exact(zzC.mp L).1
 have at_:∀(m:Nat)(c:m<a.toArray.size),∃z,b[m]?\z/\eqU y a.toArray[m]=eqV z y:=λm c=>by
  have J:m<b.length:=by rw[p];exact c
  let(w,k,G):=r.get (show b[m]?\b[m] by simp[J]);refine(b[m],by simp[J],?_);have:a.toArray[m]=w:=by
   have C:m<a.length:=c;have:a[m]?\a[m]:=by simp[C]
   rw[k]at this;cases this;simp
  rw[this];exact wq G (N m _ (by simp[J]))
 have sj:(j:Int)<2^63-1:=by
  have:(zaa:Int)<2^63-1:='d'
  lia
 refine zxN F.slot_list_index (_,e,rfl) F.entry_list_index (F.args_list_index_2 _ _) (SeqAt.list_indexAt l a.toArray n none #[] u (eqU y) j o sj ?_ (λm c B=>?_)) (e,λw k=>gx ru Y r fs w (by simpa using k),?_)
 .let(A,d,i):=at_ j o;rw[L]at d;cases d;rw[i];exact M
 .let(A,d,i):=at_ m c;rw[i];exact E m A B d
 .exact(.int _,H,I.tok _,(_,rfl),q)
theorem Li{a:Type}{l:av a}{j:Nat}{p:a}(h:l[j]?\p):j<l.length:=(zzC.mp h).1
noncomputable abbrev tuO(xs:av ax):Obj:={cls:=.type "tuple",data:=.seq xs.toArray}
noncomputable abbrev ziO(TI TO:ay):Obj:={cls:=.type "zip",data:=.fields #[.none,.bool false,.bool false,.ref TI,.ref TO]}
theorem zX(f:Bool->Bool):∀(bs:av Bool),(zav bs.length).all (λi=>f (bs.getD i false))=bs.all f:=by
 intro bs;rw[zxL];simp only[zyA,zyK];constructor
 .intro h b J;let(i,a,e):=zc1.mp J;have:=h i a;rw[zzw,zzp a]at this;subst e;exact this
 .intro h i a;have:=h bs[i] (zzS a);rw[zzw,zzp a];exact this
theorem zY:∀(bs:av Bool),(zav bs.length).any (λi=>bs.getD i false)=bs.any id:=by
 intro bs;rw[zxL];simp only[zwb,zyK];constructor
 .rintro⟨i,a,h⟩;rw[zzw,zzp a]at h;exact(bs[i],zzS a,h)
 .rintro⟨b,U,h⟩;have(i,a,e):=zc1.mp U;refine(i,a,?_);rw[zzw,zzp a];subst e;exact h
theorem lU{prog:cH}{w:World}{A:zas}{bs:av Bool}{its:av ax}(r:Vals (bs.map V.bl) its):TruthOf prog w A (λi v=>its.toArray[i]?\v) (λi=>bs.getD i false):=by
 intro i v s Q E h q;have h:its[i]?\v:=by simpa using h
 have a:i<bs.length:=by have:=r.length;have:=Li h;simp at *;lia
 have(u,J,b):=r.get (i:=i) (x:=.bl bs[i]) (by simp[a]);rw[h]at J;cases J;cases b;have q:Q (bs.getD i false) s:=q;rw[zzw,zzp a]at q;exact zyM q
theorem Db(i:X.calm=true):df X (.builtin "all") (λxs H Q=>∃(p:ay)(bs:av Bool),xs=[.ref p]/\SqL X.K H p (bs.map V.bl)/\Q (.bl (bs.all id)) H):=by
 intro pins s σ H xs us Q I r h;walk;let(p,bs,rfl,k,q):=h;let(u,rfl,e):=fW r;x_go;cases e;have(a,c,pl,_):=I.list k;have J:a.toArray.size=bs.length:=by have:=c.length;simpa using this.symm
 have d:p≠s⁻¹:=by let(o,ho,_):=pl.isList;exact zzH (zzy ho)
 refine call_all_walk (zxy pl.isList (s⁻¹,_,_,_,_,_,_,rfl,zeY (A:=X.A.in1) (I.ok.hd i) s⁻¹ p d a.toArray,((_,zzx _ rfl,rfl,rfl),pl.isList.push _),lU c,λh' tk j=>(.bl (bs.all id),H,I.kept λb o e=>j b o ?_ (zzf _ e),?_,q)))
 .intro g;have:b=s⁻¹:=by simpa using g
  exact absurd (zzy e) (by rw[this];exact zyu _)
 .show za3 _=za3 _;rw[J];have:=zX id bs;simp only[id]at this⊢;rw[this]
theorem Dc(i:X.calm=true):df X (.builtin "any") (λxs H Q=>∃(p:ay)(bs:av Bool),xs=[.ref p]/\SqL X.K H p (bs.map V.bl)/\Q (.bl (bs.any id)) H):=by
 intro pins s σ H xs us Q I r h;walk;let(p,bs,rfl,k,q):=h;let(u,rfl,e):=fW r;x_go;cases e;have(a,c,pl,_):=I.list k;have J:a.toArray.size=bs.length:=by have:=c.length;simpa using this.symm
 have d:p≠s⁻¹:=by let(o,ho,_):=pl.isList;exact zzH (zzy ho)
 refine call_any_walk (zxy pl.isList (s⁻¹,_,_,_,_,_,_,rfl,zeY (A:=X.A.in1) (I.ok.hd i) s⁻¹ p d a.toArray,((_,zzx _ rfl,rfl,rfl),pl.isList.push _),lU c,λh' tk j=>(.bl (bs.any id),H,I.kept λb o e=>j b o ?_ (zzf _ e),?_,q)))
 .intro g;have:b=s⁻¹:=by simpa using g
  exact absurd (zzy e) (by rw[this];exact zyu _)
 .show za3 _=za3 _;rw[J,zY]
end Lake
namespace PySem
section
variable{prog:cH}{w:World}{K:Type}[DecidableEq K]{knd:HeapKind prog w K}{A:zas}{E:ax->aM->Prop}{z:aM}
theorem De{c b:ay}{d:av (K×ay×ax)}{q:K}{x:ax}{R:ax->aM->Prop}(L:knd.room A)(isK:knd.is z.heap q b)(D:z.heap.DictOfH knd c d)(h:d.length<=zaa)
  (old:∀p,atKey d q\p->R p.2 {z with toks:=z.toks+knd.draws q})
  (new:atKey d q=none->∀k,k.DictOfH knd c (storedH d q b x)->zam c z.heap k->R x {z with heap:=k,toks:=z.toks+knd.draws q}) :
  wM prog w A (zda c (.ref b) x) R E z:=by
 have(ob,r,v,g1,g2,g3,g,m,i):=D;unfold zda
 try with_reducible refine zzQ ?_
 refine zzb (knd.pyHash L isK ?_);refine zzb (wpAny_dictFind_heap (s:={z with toks:=z.toks+knd.draws q}) L isK g1 g3 g m i (λJ=>?_) (λj p at_=>?_))
 .have U:r.size<=zaa:=by rw[size_of_entries g];exact h
  have l:=atKey_none_of_get J;refine zzb (zwB (zzb (wpAny_updateDictKeys (hz:=U) (s:={z with toks:=z.toks+knd.draws q}) g1 g3 (zzr (new l _ (_,_,v+1,zyO _ g1 (Obj.isFreed_of_dict (zcZ g3 _)),g2.mapDictKeys _,zcZ g3 _,?_,?_,?_) (zyB ..))))))
  all_goals rw[storedH_new l]
  .simp[g,entryOfKey]
  .intro y a;rcases zzg.mp a with a|a
   .exact knd.keeps (m y a) g1 g3 (zyB ..)
   .rw[zzt.mp a];exact knd.keeps isK g1 g3 (zyB ..)
  .rw[zzm,zvq];refine zyr.mpr (i,zye.mpr ('s',zxU),λy a u B e=>?_);have e:y=q:=by rw[zzt.mp B]at e;exact e
   subst e;exact not_mem_keys_of_get J a
 .refine zzb (zwF (s:={z with toks:=z.toks+knd.draws q}) g1 g3 ?_);rw[entry_at g j,at_];exact zzb (zwB (zzr (old p (atKey_of_get i at_))))
theorem nY(knd:HeapKind prog w K)(c b:ay)(x:ax)(plain:(c==zaJ)=false) :
  MeetsIn prog w (Builtin.«dict.setdefault» ([.ref c,.ref b,x],[])) (λA R z=>knd.room A.in1/\∃q a,knd.is z.heap q b/\z.heap.DictOfH knd c a/\a.length<=zaa /\
   (∀p,atKey a q\p->R (.ok (.ret p.2)) {z with toks:=z.toks+knd.draws q}) /\
   (atKey a q=none->∀d,d.DictOfH knd c (storedH a q b x)->zam c z.heap d->R (.ok (.ret x)) {z with heap:=d,toks:=z.toks+knd.draws q})) :=
 .of_wp λA R z h=>by have(J,q,a,isK,D,g,old,new):=h;refine zzb ?_;refine zzb (zcG D.typeIs ?_);refine zzr ?_;show wpAny _ _ (if (c==zaJ)=true then _ else(zda c (.ref b) x >>= _)) _ _ z;rw[zzn (by rw[plain];exact zzL)];exact zzb (De J isK D g (λp e=>zzr (p.2,rfl,old p e)) λe d U j=>zzr (x,rfl,new e d U j))
end
end PySem
namespace Lake
open PySem PySem.Spec PyProof.Rows
section
variable{X:Cx}
inductive rSetD(x:V)(vs:List V)(H:Hp)(Q:VK):Prop
 |mk a kvs k b y:x=.ref a->vs=[.ref b,y]->H a\(.dT kvs)->H b\(.tup (k.map kV))->kvs.length<zaa->(∀v,valV kvs k\v->Q v H)->(valV kvs k=none->Q y (upd H a (.dT (putK kvs k y))))->rSetD x vs H Q
theorem qo(hu:X.A.units+1<cLine):MtM X "dict.setdefault" rSetD:=by
 intro pins s σ H x vs v us Q I rx rv h;have(a,d,k,b,y,rfl,rfl,e,j,l,M,N):=h;cases rx;cases rv with
 |cons r1 rr =>
  have(u,rfl,o):=Vals.one rr;cases r1;have(z,plain,r,rel,i):=IH I.hok e;have hz:r.length<=zaa:=by rw[<-zwM rel];exact z
  have hl:(putK d k y).length<=zaa:=by have:=hV d k y;lia
  refine call_meetsIn F.slot_dict_setdefault i.typeIs F.entry_dict_setdefault (F.args_dict_setdefault_3 _ _ _) (nY (zcI (cG X.prog X.w)) a b u plain) (zvo hu,k,r,key_of I.hok j,i,hz,λp hp=>?_,λhn h' B hs=>?_)
  .have q:=rel.val k;rw[hp]at q;cases U:valV d k with
   |none=>rw[U]at q;exact q.elim|some g =>
    rw[U]at q;exact(g,H,I.tok _,q,M g U)
  .have q:=rel.val k;rw[hn]at q;cases U:valV d k with
   |some g=>rw[U]at q;exact q.elim|none =>
    have(q,G,E,n,C,T,Y,_,h5):=B;refine(y,_,uI (ob:=.dT (putK d k y)) I (by rw[e];exact zaP) hs (q,n) (hl,plain,_,(rel.put k j o).keeps λc ys m=>?_,q,G,E,n,C,T,Y,h5),o,N U);rw[ar (nW m e (λz=>nomatch z))];exact m
end
end Lake
namespace Lake
open PySem PySem.Spec PyProof.Rows PySem.W
variable{a:ay}{h h':cx}{k k1:av Key}{n:Nat}{v1 v2:ax}{α β:Type}
variable{prog:cH}{A:zas}{E:ax->aM->Prop}{s:aM}
noncomputable def kRun{α:Type}(c:Nat->Nat->Bool):KasT α->α
 |.ret a=>a|.ask i j k=>kRun c (k (c i j))
def KGood{α:Type}(N:Nat)(P:α->Prop):KasT α->Prop
 |.ret a=>P a|.ask i j k=>(i<N/\j<N)/\∀b,KGood N P (k b)
theorem KGood.bind{α β:Type}{N:Nat}{P:α->Prop}{R:β->Prop}{f:α->KasT β}(J:∀a,P a->KGood N R (f a)):∀(t:KasT α),KGood N P t->KGood N R (t.bind f)
 |.ret a,h=>J a h|.ask i j k,h=>(h.1,λb=>KGood.bind J (k b) (h.2 b))
theorem KGood.end{α:Type}{N:Nat}{P:α->Prop}(c:Nat->Nat->Bool):∀(t:KasT α),KGood N P t->P (kRun c t)
 |.ret a,h=>h|.ask i j k,h=>KGood.end c (k (c i j)) (h.2 _)
theorem KGood.wp{α:Type}{N:Nat}{P:α->Prop}{c:Nat->Nat->Bool}{cmp:Nat->Nat->(Bool->aM->Prop)->aM->Prop}{s:aM}
  (J:∀i j(C:Bool->aM->Prop),i<N->j<N->C (c i j) s->cmp i j C s):∀(t:KasT α)(Q:α->aM->Prop),KGood N P t->Q (kRun c t) s->t.kasWp cmp Q s
 |.ret a,Q,_,q=>q|.ask i j k,Q,h,q=>J i j _ h.1.1 h.1.2 (KGood.wp J (k (c i j)) Q (h.2 _) q)
def PmN(N:Nat)(p:Array Nat):Prop:=p.toList.Perm (zav N)
section
variable{N:Nat}{p:Array Nat}
theorem PmN.lt(h:PmN N p)(h0:0<N)(i:Nat):p.getD i 0<N:=by
 by_cases b:i<p.size
 .have e:p.getD i 0=p[i]:=by simp[zbG,b]
  have c:p[i]∈p.toList:=zyR.mpr (Array.getElem_mem b);rw[e];exact zyK.mp (h.mem_iff.mp c)
 .have e:p.getD i 0=0:=by simp[zbG,b]
  rw[e];exact h0
theorem PmN.rev(h:PmN N p)(i j:Nat):PmN N (zdX p i j):=(zbP.mp (mirror_perm _ _ _ _)).trans h
theorem PmN.bub(h:PmN N p)(i j:Nat):PmN N (bubble p i j):=(zbP.mp (bubble_perm _ _ _)).trans h
theorem qp(h0:0<N)(h:PmN N p):∀(f n:Nat),KGood N (λ_=>True) (zcm p f n)
 |0,n=>trivial| f+1,n=>((h.lt h0 _,h.lt h0 _),λb=>by
  dsimp only;split
  .trivial
  .exact qp h0 h f (n+1))
theorem iN(h0:0<N):∀(f:Nat)(p:Array Nat)(n q:Nat),PmN N p->KGood N (λr=>PmN N r.1) (zcg f p n q)
 |0,p,n,q,h=>h| f+1,p,n,q,h=>((h.lt h0 _,h.lt h0 _),λb=>by
  dsimp only;split
  .split
   .exact iN h0 f _ _ _ (h.rev _ _)
   .exact iN h0 f _ _ _ h
  .refine((h.lt h0 _,h.lt h0 _),λd=>?_);dsimp only;split
   .exact h
   .exact iN h0 f _ _ _ h)
theorem oU(h0:0<N)(h:PmN N p)(n m:Nat):KGood N (λr=>PmN N r.2) (kas_tail3 n m p):=by refine KGood.bind (N:=N) (P:=λ_=>True) (R:=λ(r:Nat×Array Nat)=>PmN N r.2) ?_ _ (qp h0 (h.rev 0 n) _ _);intro m _;exact h.rev 0 n
theorem iO(h0:0<N)(h:PmN N p)(n m:Nat):KGood N (λr=>PmN N r.2) (zcV n m p):=KGood.bind (λr b=>by
 split
 .exact oU h0 (b.rev _ _) _ _
 .exact oU h0 b _ _) _ (iN h0 _ _ _ _ h)
theorem oV(h0:0<N)(h:PmN N p)(m:Nat):KGood N (λr=>PmN N r.2) (zb0 m p):=KGood.bind (λn _=>by
 split
 .exact h
 .split
  .refine((h.lt h0 _,h.lt h0 _),λb=>?_);dsimp only;split
   .exact h
   .exact iO h0 (h.rev _ _) _ _
  .exact iO h0 h _ _) _ (qp h0 h _ _)
theorem jI(h0:0<N)(h:PmN N p)(k:Nat):∀(f l r:Nat),KGood N (λ_=>True) (zcL p k f l r)
 |0,l,r=>trivial|f+1,l,r=>by
  unfold zcL;split
  .trivial
  .refine((h.lt h0 _,h.lt h0 _),λb=>?_);dsimp only;split
   .exact jI h0 h k f _ _
   .exact jI h0 h k f _ _
theorem wA(h0:0<N):∀(f:Nat)(p:Array Nat)(k:Nat),PmN N p->KGood N (PmN N) (kas_bin f p k)
 |0,p,k,h=>h|f+1,p,k,h=>KGood.bind (λl _=>wA h0 f _ _ (h.bub _ _)) _ (jI h0 h k _ _ _)
theorem eL(h0:0<N):KGood N (PmN N) (zdD N):=by
 have J:PmN N (zbq (zav N)):=by unfold PmN;rw[zwj]
 exact KGood.bind (λr b=>by
  split
  .exact wA h0 _ _ _ b
  .exact b) _ (oV h0 J N)
end
noncomputable def lexI:av Key->av Key->Bool
 |[],[]=>false|[],_::_=>true|_::_,[]=>false|.inl a::r,.inl b::c=>if a=b then lexI r c else decide (a<b)
 |_,_=>false
def srtK(ks:av (av Key)):av (av Key):=if ks.length<2 then ks else(kRun (λi j=>lexI (ks.getD i []) (ks.getD j [])) (zdD ks.length)).toList.map λi=>ks.getD i []
theorem sF{xs:av α}{d:α}{is:av Nat}(h:is.Perm (zav xs.length)):(is.map λi=>xs.getD i d).Perm xs:=by
 refine(h.map _).trans ?_;have:(zav xs.length).map (λi=>xs.getD i d)=xs:=by
  apply zey
  .simp
  .intro i h1 b;simp[b]
 rw[this]
theorem sG(ks:av (av Key)):(srtK ks).Perm ks:=by
 unfold srtK;split
 .exact zeV _
 .exact sF (KGood.end _ _ (eL 'o'))
inductive isI(k:Key)(u:Value):Prop
 |mk i t:k=.inl i->u=zbt i t->isI k u
inductive TupI(h:Heap)(k:List Key)(v:Value):Prop
 |mk a o xs n:v=.ref a->h.get? a\o->o.cls=.type "tuple" -> o.data=.seq xs n->Paired isI k xs.toList->TupI h k v
theorem jJ{R:α->β->Prop}{xs:av α}{b:av β}(h:Paired R xs b):xs.length=b.length:=by
 induction h with
 |nil=>rfl|cons _ _ J=>simp[J]
section
variable{w:World}{b fin:Bool}{Q:Bool->aM->Prop}
theorem IW(o:Bool){x y:Int}{t u:Tok}{Q:Bool->aM->Prop}(h:Q (decide (x<y)) s):wM prog w A (oneLt' o (.int x t) (.int y u)) Q E s:=by
 cases o with
 |true=>exact oneLt_int h|false=>exact kat_one _ _ (wpAny_lt_int h)
theorem Dg:∀{k1 k2:av Key}{xs c:av ax}(i:Nat),Paired isI k1 xs->Paired isI k2 c->fin=decide (xs.length<c.length)->Q (lexI k1 k2) s->KatLex prog w A b fin Q (xs.zip c) i s
 := by
 intro k1 k2 xs c i a b e q
 induction a generalizing k2 c i with
 |nil=>cases b<;>(subst e;exact q)
 |cons g r1 J =>
  cases b with|nil=>subst e;exact q|cons j L=>?_
  let(x,t,rfl,rfl):=g;let(y,u,rfl,rfl):=j;refine kat_cons (wpAny_eqBool_int ?_);by_cases z:x=y
  .subst z;have d:(x==x)=true:='s'
   rw[d];refine kat_yes (J (i+1) L (by rw[e];simp) ?_);exact(congrArg (Q · s) (zzu rfl)).mp q
  .have d:(x==y)=false:=by simpa using z
   rw[d];refine kat_no (IW _ ?_);exact(congrArg (Q · s) (zzn z)).mp q
theorem Gw{k2:av Key}(d:TupI s.heap k1 v1)(e:TupI s.heap k2 v2)(q:Q (lexI k1 k2) s):wM prog w A (keyLt' (tuples' b) v1 v2) Q E s:=by let(x,ox,xs,n,rfl,g,_,dx,j):=d;let(y,oy,ys,m,rfl,i,_,c,py):=e;exact kat_lt g dx i c (Dg 0 j py 's' q)
end
inductive RawD(d:Addr)(es:Array zdK)(ep:Nat)(h:Heap):Prop
 |mk o:h.get? d\o->o.ExactDict->o.data=.dict es ep->RawD d es ep h
theorem RawD.type{d:ay}{b:Array zdK}{s:aM}(h:RawD d b n s.heap):s.TypeIs (.ref d) "dict":=let ⟨o,e,x,_⟩:=h;(o,e,x.1)
theorem RawD.keep{d:ay}{b:Array zdK}(r:RawD d b n h)(k:∀o,h.get? d\o->h'.get? d\o):RawD d b n h':=let ⟨o,e,x,y⟩:=r;(o,k o e,x,y)
section
variable{w:World}{d it:ay}{es:Array zdK}{ep i:Nat}
theorem Dh{Q:ax->aM->Prop}(lo:(d==zaJ)=false)(r:RawD d es ep s.heap)
  (q:Q (.ref s⁻¹) {s with heap:=s.heap.push {cls:=.type "dict_keyiterator",data:=.fields #[.ref d,.int 0 0,.int es.size 0,.int ep 0]} }):wM prog w A (zdx (.ref d)) Q E s:=by
 have ty:=r.type;have(o,g1,_,g2):=r;refine wpAny_pyIter_slot ty F.slot_dict_iter (zyZ F.slot_dict_iter ty F.entry_dict_iter ?_ (F.args_dict_iter_1 _));refine zzb (zzb (zcG ty (zzr ?_)));show wpAny _ _ ((if (d==zaJ)=true then unsupported "sys.modules:all-start-up-values-wanted" else pure ()) >>= _) _ _ s;rw[zzn (by rw[lo];exact zzL)];refine zzb (zzr (zzb (zwF g1 g2 (zzb (zcH g1 g2 ?_)))));exact zzb (zxx (zzr (_,rfl,"dict_keyiterator",_,(_,zzx _ rfl,rfl),zaL.lookup,q)))
theorem Di{Q:aT ax->aM->Prop}(hi:i<es.size)(U:es.size=n)(g:s.heap.IsKeyIter it d i n ep)(r:RawD d es ep s.heap)(q:∀h',h'.IsKeyIter it d (i+1) n ep->zam it s.heap h'->Q (some es[i].key) {s with heap:=h' }):wM prog w A (zeW (.ref it)) Q E s:=by
 subst U;have ty:=g.typeIs;let(o,g1,g2,g3):=g;let(od,J,_,L):=r;refine zzb (zwg (zaM (name:=zao "__next__") ty zaL (zyZ zaL ty zby ?_ (zbr _))));refine zzb (zzr (zzb (zzb (zzb (zxm ty (zzr (zzb (wpAny_fieldsOf g1 g3 ?_))))))));show wpAny _ _ (if (zac d==zaI)=true then _ else _) _ _ s;refine zzb (zzr (zzb (zwF J L ?_)));rw[zzn 's'];refine zzb (zzr (zzb (zcH J L ?_)));rw[zzn 's'];refine zzr ?_;dsimp only;rw[zzn (show ¬((i:Int)<0) from by lia),zzV,zbV hi];refine zzb (zzb (zxm ty (zzr (zzb (zcP ty ?_)))));show wpAny _ _ (zdt (.ref it) 1 (zcS ((i:Int)+1)) >>= _) _ _ s;refine zzb (zwC g1 g3 's' ?_);have b:(s.heap.update it (zbz (·.setIfInBounds 1 (zcS ((i:Int)+1))))).IsKeyIter it d (i+1) es.size ep :=
  (_,zyO _ g1 (zbs (zaR g3 _)),(zdZ ..).trans g2,by rw[zaR g3];simp[zcS])
 refine zzb (zzQ (zzb (zcP (s:={s with heap:=s.heap.update it (zbz (·.setIfInBounds 1 (zcS ((i:Int)+1))))}) b.typeIs ?_)));exact zzr (zzr (_,rfl,zzr (q _ b (zyB ..))))
theorem Gx{Q:aT ax->aM->Prop}(j:A.handled=none)(hi:es.size<=i)(e:es.size=n)(g:s.heap.IsKeyIter it d i n ep)(r:RawD d es ep s.heap)(q:∀h',zbK it s.heap h'->Q none {s with heap:=h' }):wM prog w A (zeW (.ref it)) Q E s:=by walk;subst e;have ty:=g.typeIs;let(o,g1,g2,g3):=g;let(od,L,_,U):=r;x_go;refine zzb (zwg (zaM (name:=zao "__next__") ty zaL (zyZ zaL ty zby ?_ (zbr _))));refine zzb (zzr (zzb (zzb (zzb (zxm ty (zzr (zzb (wpAny_fieldsOf g1 g3 ?_))))))));show wpAny _ _ (if (zac d==zaI)=true then _ else _) _ _ s;refine zzb (zzr (zzb (zwF L U ?_)));rw[zzn 's'];refine zzb (zzr (zzb (zcH L U ?_)));rw[zzn 's'];refine zzr ?_;dsimp only;rw[zzn (show ¬((i:Int)<0) from by lia),zzV,zcD hi];refine zzb (zzb (zxm ty (zzr ?_)));show wpAny _ _ (zdt (.ref it) 0 .none >>= _) _ _ s;refine zzb (zwC g1 g3 's' ?_);refine zzb ?_;refine zzb (m:=zdb _ _) (zdi (a:=zaI) (by first|rfl|(simp only[zdb];rfl)) ?_);refine zxx ?_ (by size_fits);refine zzb (wpAny_handled ?_);rw[show A.in1.handled=none from j];refine zzb (zzr (zwI ?_));refine zzb (wpAny_isInstance (T:="StopIteration") (b:=true) (_,zzx _ rfl,rfl) isSubtype_stop ?_);exact zzr (q _ (((zyB ..).extBut.push _).push _))
theorem Gy(lo:(d==zaJ)=false)(es:Array zdK)(ep:Nat):KdlSrc prog w "dict" d d es.size (λi v=>(es[i]?).map (·.key)\v) (RawD d es ep) where
 type:=λ_ r=>r.type
 there:=λ_ ⟨_,e,_,_⟩=>(zzy e,zzy e)
 keep:=λ_ _ r k=>r.keep λo e=>k d (.inl rfl) o e
 notList:='d'
 notTuple:='d'
 hint:=λ_ _ _ _ r q=>kdl_hint_dict r.type q
 iter:=λA s m r=>(_,λi h=>h.IsKeyIter s⁻¹ d i es.size ep/\RawD d es ep h,(λ_ _ q=>Dh lo r q),{
  sub:=λb J=>by simp at J;simp[J]
  frame:=λ_ _ _ st k=>(st.1.at λo e=>k _ 's' o e,st.2.keep λo e=>k d 's' o e)
  item:=λi c Q E g st q=>Di g rfl st.1 st.2 λh' l L=>by
   have ne:d≠s⁻¹:=by let(_,e,_,_):=r;exact zzH (zzy e)
   refine q es[i].key h' c.toks (by simp[g]) (l,st.2.keep λo e=>(L.2 d ne).trans e) λb o J e=>?_;have J:b≠s⁻¹:=by simpa using J
   exact(L.2 b J).trans e
  done:=λc Q E st q=>Gx m (zzs _) rfl st.1 st.2 λh' j=>q h' c.toks λb o J e=>j b o (by simpa using J) e
  self:=λ_ _ _ _ st q=>wpAny_pyIter_keyiter st.1 q},((_,zzx _ rfl,rfl,rfl),r.keep λo e=>zzf _ e))
end
section
variable{w:World}
theorem TupI.keep{v:ax}{xs:Array ax}(t:TupI h k v)(g:h.get? a\(zaS "list" xs n))(i:∀b o,b≠a->h.get? b\o->h'.get? b\o):TupI h' k v:=by have(b,o,j,m,rfl,e,c,d,p):=t;refine(b,o,j,m,rfl,i b o ?_ e,c,d,p);rintro rfl;rw[g]at e;cases e;simp[zaS]at c
theorem ie{R S:α->β->Prop}{xs:av α}{ys:av β}(h:Paired R xs ys)(f:∀a b,R a b->S a b):Paired S xs ys:=by
 induction h with
 |nil=>exact .nil|cons h _ J=>exact .cons (f _ _ h) J
theorem eM{R:α->β->Prop}{d:α}{e:β}{xs:av α}{c:av β}(h:Paired R xs c):∀i,i<xs.length->R (xs.getD i d) (c.getD i e):=by
 induction h with
 |nil=>intro i b;cases b
 |cons h _ J =>
  intro i b;cases i with
  |zero=>exact h|succ i=>simpa using J i (by simpa using b)
theorem lV{α β:Type}{R:α->β->Prop}{d:α}{e:β}{xs:av α}{c:av β}(h:Paired R xs c):∀(is:av Nat),(∀i∈is,i<xs.length)->Paired R (is.map λi=>xs.getD i d) (is.map λi=>c.getD i e)
 |[],_=>.nil|i::is,b=>.cons (eM h i (b i zzd)) (lV h is λj J=>b j (zzc _ J))
theorem IX:∀{ks:av (av Key)}{vs:av ax},Paired (TupI h) ks vs->(∀k∈ks,k≠[])->∃fs,KatTups h vs fs/\fs.length=vs.length/\∀v∈fs,Looks (model prog w) h (zdJ v) (.type "int")
 := by
 intro ks vs h ne
 induction h with
 |nil=>exact([],.nil,rfl,λv J=>nomatch J)
 |@cons k v ks vs b r y =>
  let(fs,g,j,m):=y λk L=>ne k (zzc _ L);let(a,o,z,n,rfl,e,c,d,p):=b;have L:=ne k zzd;generalize U:z.toList=l at p;cases p with
  |nil=>exact absurd rfl L|@cons x u ks' us q hr =>
   let(i,t,rfl,rfl):=q;refine(zbt i t::fs,.cons e c d ?_ g,by simp[j],λv J=>?_)
   .rw[<-zxe,U];rfl
   .rcases zze.mp J with rfl|J
    .exact Looks.of_pure rfl
    .exact m v J
set_option backward.match.sparseCases true in
theorem IY{T:String}{RK:cx->av Key->ax->Prop}{a:ay}{vs:av ax}{ks:av (av Key)}{n:Nat}{P:PySem.Fin->aM->Prop}
  (keep:∀{h h':cx}{k:av Key}{v:ax}{a:ay}{xs:Array ax}{n:Nat},RK h k v->h.get? a\(zaS "list" xs n)->(∀b o,b≠a->h.get? b\o->h'.get? b\o)->RK h' k v)
  (a8:∀h,Paired (RK h) ks vs->2<=ks.length->∃fs,KatTups h vs fs/\fs.length=vs.length/\∀v∈fs,Looks (model prog w) h (zdJ v) (.type T))
  (lt:∀(h:cx)(i j:Nat)(C:Bool->aM->Prop),i<ks.length->j<ks.length->Paired (RK h) ks vs->C (lexI (ks.getD i []) (ks.getD j [])) {s with heap:=h}->wM prog w A (keyLt' (tuples' (zaW T != zaW "tuple")) (vs.getD i zaI) (vs.getD j zaI)) C (λ_ _=>False) {s with heap:=h})
  (ho:s.heap.get? a\(zaS "list" vs.toArray n)) (hp:Paired (RK s.heap) ks vs) (H:vs.length<64)
  (q:∀(h':cx)(d:av ax)(c:Nat),(∀b o,b≠a->s.heap.get? b\o->h'.get? b\o)->h'.get? a\(zaS "list" d.toArray c)->(∀R:av Key->ax->Prop,Paired R ks vs->Paired R (srtK ks) d)->P (.done (.ret .none)) {s with heap:=h' }) :
  wM prog w A (Builtin.«list.sort» ([.ref a],[])) P E s:=by
 have hl:=jJ hp;have ha:a<s⁻¹:=zzy ho;have sb:=zyB s.heap a (zaD λ_=>(#[]:Array ax));obtain⟨y,Y⟩:∃y,(s.heap.update a (zaD λ_=>(#[]:Array ax))).get? a\(zaS "list" #[] y):=(_,get?_update_seq ho λ_=>#[]);rw[list_sort_plain];refine zzb (listItems_at ho rfl (zzb (listUpdate_at ho rfl ?_ (by rw[zzF,zxp];lia) (zyh _))));refine zzb (seqEpoch_at Y rfl (zzb (wpAny_newTuple ?_ (by show vs.length<=_;rw[zxp];lia))));refine zzb (zdr (zzQ ?_) (zyh _));show wM prog w A _ P E {s with heap:=((s.heap.update a (zaD λ_=>(#[]:Array ax))).push (zaS "tuple" vs.toArray 0)).push (zaS "list" #[] 0)};have M:∀b o,b≠a->s.heap.get? b\o->(((s.heap.update a (zaD λ_=>(#[]:Array ax))).push (zaS "tuple" vs.toArray 0)).push (zaS "list" #[] 0)).get? b\o:=λb o z e =>
  zzf _ (zzf _ ((sb.2 b z).trans e))
 have U:(((s.heap.update a (zaD λ_=>(#[]:Array ax))).push (zaS "tuple" vs.toArray 0)).push (zaS "list" #[] 0)).get? a\(zaS "list" #[] y):=zzf _ (zzf _ Y);generalize ((s.heap.update a (zaD λ_=>(#[]:Array ax))).push (zaS "tuple" vs.toArray 0)).push (zaS "list" #[] 0)=h3 at M U;have a7:Paired (RK h3) ks vs:=ie hp λk v t=>keep t ho M;dsimp only;have fin:∀(st:SortSt)(d:av ax),(arrOf st).map (·.2)=d.toArray->failedOf st=none->d.length<64->(∀R:av Key->ax->Prop,Paired R ks vs->Paired R (srtK ks) d) ->
   wM prog w A (do
    let L:=(<-seqEpoch a) != y
    Builtin.List.listUpdate (.ref a) λ_=>(arrOf st).map (·.2)
    if let some e:=failedOf st then rule "list.sort.comparison-raised";throw e
    if L then rule "list.sort.modified";raiseError "ValueError" "list modified during sort"
    ret .none) P E {s with heap:=h3}:=by
  intro st d e f g l;rw[e,f];refine zzb (seqEpoch_at U rfl ?_);refine zzb (listUpdate_at U rfl ?_ (zyh _) (by show d.toArray.size<=_;rw[zzF,zxp];lia));simp only[bne_self_eq_false,zdz,if_false];refine zzr (q _ d _ (λb o z e=>?_) (get?_update_seq U λ_=>d.toArray) l);exact((zyB h3 a (zaD λ_=>d.toArray)).2 b z).trans (M b o z e)
 by_cases h2:vs.length<2
 .have g:vs.toArray.size<2:=by rw[zzF];exact h2
  rw[zzu g,zzu g];refine zzb (zzr (zzb (zzr ?_)));refine fin _ vs ?_ rfl H λR l=>?_
  .show (vs.toArray.zip vs.toArray).map (·.2)=vs.toArray;apply zeu.mp;simp[zen]
  .unfold srtK;rw[zzu 'l'];exact l
 .have g:¬vs.toArray.size<2:=by rw[zzF];exact h2
  rw[zzn g,zzn g];have(fs,t1,t2,t3):=a8 h3 a7 'l';refine zzb (kat_kind (s:={s with heap:=h3}) t1 'l' t3 (beq_self_eq_true _) ?_)
  .refine zzb (zyg (kat_run (Q:=λJ u=>u={s with heap:=h3}/\(arrOf J).map (·.2)=zbq ((kRun (λi j=>lexI (ks.getD i []) (ks.getD j [])) (zdD ks.length)).toList.map λi=>vs.getD i zaI)/\failedOf J=none) (G:=λp u=>u={s with heap:=h3}/\p=kRun (λi j=>lexI (ks.getD i []) (ks.getD j [])) (zdD ks.length)) rfl 'l' H (λp J u a1 a2 a3 a4=>?_) ?_) (λr u hq=>?_) λ_ _ x=>x)
   .let(rfl,rfl):=a4;exact(rfl,kat_snds rfl a2,a3)
   .rw[<-hl];refine KGood.wp (N:=ks.length) (P:=PmN ks.length) (λi j C I hj hC=>?_) _ _ (eL 'l') (rfl,rfl);exact lt h3 i j C I hj a7 hC
   .let(⟨⟩,J):=r;have(rfl,e,f):=hq;refine fin J _ e f ?_ λR l=>?_
    .have:=(KGood.end (λi j=>lexI (ks.getD i []) (ks.getD j [])) _ (eL (N:=ks.length) 'l')).length_eq;rw[zxi]at this;rw[zza,this,hl];exact H
    .unfold srtK;rw[zzn 'l'];refine lV l _ λi I=>?_;have:=KGood.end (λi j=>lexI (ks.getD i []) (ks.getD j [])) _ (eL (N:=ks.length) 'l');exact zyK.mp (this.mem_iff.mp I)
end
section
variable{X:Cx}
inductive IsKey(H:Hp)(k:List Key)(v:V):Prop
 |mk b:v=.ref b->H b\(.tup (k.map kV))->IsKey H k v
def qq(k:av Key):Prop:=∀x∈k,∃i:Int,x=.inl i
theorem wB:∀{k:av Key}{us:av ax},qq k->Vals (k.map kV) us->Paired isI k us
 |[],us,_,h=>by cases h;exact .nil
 |x::k,us,b,h=>by
  let(i,rfl):=b _ zzd;cases h with
  |cons c d =>
   let(t,rfl):=(show ∃t,_=zbt i t from c);exact .cons (i,t,rfl,rfl) (wB (λy e=>b y (zzc _ e)) d)
theorem Inv.tupI{c:av (ay×Obj)}{l:St}{H:Hp}{s:aM}{b:ay}(I:Inv X c l H s)(hi:qq k)(e:H b\(.tup (k.map kV))):TupI s.heap k (.ref b):=by
 have(_,d,r,o,g,i,n,j):=(show ObjOk X.prog X.w H s.heap b (.tup (k.map kV)) from I.hok b _ e);refine(b,o,d.toArray,n,rfl,g,?_,j,?_)
 .exact i
 .rw[zwj];exact wB hi r
theorem Gz{H:Hp}:∀{ks:av (av Key)}{out:av ax},Paired (λk v=>∃b,v=zac b/\H b\(.tup (k.map kV))) ks out->∃bs,Paired (IsKey H) ks bs/\Vals bs out:=by
 intro ks out h
 induction h with
 |nil=>exact([],.nil,.nil)|cons h r J =>
  let(b,rfl,e):=h;let(bs,c,d):=J;exact(.ref b::bs,.cons (b,rfl,e) c,.cons rfl d)
theorem GA{H:Hp}{c:av (av Key×V)}{xs:av (av Key×ay×ax)}(r:KT H c xs):Paired (λk v=>∃b,v=zac b/\H b\(.tup (k.map kV))) (c.map (·.1)) (xs.map λx=>zac x.2.1):=by
 induction r with
 |nil=>exact .nil|@cons p q ps qs h t J=>exact .cons (q.2.1,rfl,h.2.1) J
theorem yb{R:α->β->Prop}{xs:av α}{ys:av β}(h:Paired R xs ys):Paired (λa b=>a∈xs/\R a b) xs ys:=by
 induction h with
 |nil=>exact .nil|cons h _ J=>exact .cons (zzd,h) (ie J λa b z=>(zzc _ z.1,z.2))
theorem yc(hc:X.calm=true):df X (.builtin "sorted") (λxs H Q=>∃a d,xs=[.ref a]/\Rd H a (.dT d)/\(∀k∈d.map (·.1),qq k)/\(2<=d.length->∀k∈d.map (·.1),k≠[])/\d.length<64 /\
  ∀l bs,H l=none->Paired (IsKey H) (srtK (d.map (·.1))) bs->Q (.ref l) (upd H l (.lst bs))):=by
 intro w s σ H xs us Q I r h;walk;let(a,d,rfl,e,n,a4,h64,q):=h;let(u,rfl,e2):=fW r;x_go;cases e2;have(z,lo,xs,rel,o,T,ep,g1,g2,g3,g4,g5,g6):=Cz I.hok e;have A:T.size=xs.length:=size_of_entries g4;have hxl:d.length=xs.length:=zwM rel;refine zbW kind_sorted plain_sorted entry_sorted (args_sorted1 _) ?_;refine zzb (m:=checkCount "sorted" 1 1 _) (zzr ?_);refine zzb (kdu_collect (Gy lo T ep) (I.ok.hd hc) (o,g1,g2,g3) (by rw[zxp];lia) λh' tk g hk B=>?_);have J:g.toList=xs.map λx=>zac x.2.1:=by
  apply zd3;intro i;rw[zxe];cases p:xs[i]? with
  |none =>
   have h1:xs.length<=i:=by simpa using p
   rw[zzz,p,zcD (by rw[B.1];lia)];rfl
  |some x =>
   have h1:i<xs.length:=(zzC.mp p).1;obtain⟨v,hv⟩:∃v,g[i]?\v:=(g[i]'(by rw[B.1];lia),by simp[B.1,A,h1]);have y:(T[i]?).map (·.key)\v:=B.2 i v hv;rw[entry_at g4 i,p]at y;rw[hv,zzz,p];exact y.symm
 rw[J];have N:Inv X w σ H {s with heap:=h',toks:=tk}:=I.kept hk;refine zzb (zdr ?_ (by rw[zza,zxp];lia));have L:(h'.push (zaS "list" (xs.map λx=>zac x.2.1).toArray 0)).get? h'.objs.size\(zaS "list" (xs.map λx=>zac x.2.1).toArray 0):=zzx _ rfl;refine zzb (zzQ (zyZ slot_list_sort (_,L,rfl) entry_list_sort ?body (args_list_sort _)))
 case body =>
  have kk:=GA rel;refine IY (RK:=TupI) (s:={s with heap:=h'.push (zaS "list" (xs.map λx=>zac x.2.1).toArray 0),toks:=tk}) TupI.keep (λh G y=>IX G (a4 (by simpa using y))) (λh i j C n hj G hC=>Gw (s:=(h,_,_,_,_)) (eM G i n) (eM G j hj) hC) L (ks:=d.map (·.1)) (ie (yb kk) (S:=TupI _) λk v z=>?_) (by rw[zza];lia) λh4 E c kp ho hR=>?_
  .let(hm,b,rfl,Y):=z;exact((N.kept (t':=tk) λb o e=>zzf _ e).tupI (n k hm) Y)
  .let(bs,p1,p2):=Gz (hR _ kk);have Y:bs.length<=zaa:=by
    rw[<-jJ p1,(sG _).length_eq,zza];exact z
   exact(_,rfl,zzr (_,rfl,.ref h'.objs.size,upd H h'.objs.size (.lst bs),N.laid (o:=.lst bs) (λb u e=>kp b u (zzH (zzy e)) (zzf _ e)) (zzs _) (Y,E,c,p2,ho),rfl,q _ bs (N.hok.fresh (zzs _)) p1))
end
end Lake
namespace PySem
variable{b:ay}{h:cx}{its:Array ax}{o:Obj}
section
variable{prog:cH}{w:World}{A:zas}{E:ax->aM->Prop}{s:aM}
theorem sH{a:Type}[DecidableEq a][BEq a][LawfulBEq a]{knd:KeyKind prog w a}{J:Bool}{P:a->Bool}{n:Nat}(e:∀k,false=P k)(L:0=n):((h.push (setO J)).push o).SetOf knd h.objs.size P n :=
 PyProof.Rows.SetOf_congr ((PyProof.Rows.setObjOf_fresh (knd:=knd) J).setOf (zzf _ (zzx _ rfl)) (by unfold za7;lia)) e L
theorem qr(a:b<h.objs.size):h.objs.size∉[(h.push o).objs.size,b]/\b≠(h.push o).objs.size:=by rw[zyx];simp only[zze,zzt,zyb,zxa,not_or];exact((zzH (zyY _),zxr a),zzH (zxz a))
theorem gC{T:String}(a:∃o,h.get? b\o/\o.cls=.type T/\∃n,o.data=.seq its n):∃x,(h.push o).get? b\x/\x.cls=.type T/\∃n,x.data=.seq its n :=
 a.imp λ_ z=>(zzf _ z.1,z.2)
set_option maxRecDepth 100000 in
set_option maxHeartbeats 3200000 in
theorem sI{T:String}{U:cx->Prop}{R:ax->aM->Prop}(B:∃o,s.heap.get? b\o/\o.cls=.type T/\∃n,o.data=.seq its n)(t1:isSubtype (.type T) (.type "set")=pure false)(t2:isSubtype (.type T) (.type "frozenset")=pure false)(t3:(zaW T==zaW "dict")=false)(go:∀(J:Bool)(m:zcv->aM->Prop)(C:ax->aM->Prop),b<s⁻¹->(∀(io:Obj)(z:aM),Moved [s⁻¹,(s.heap.push (setO J)).objs.size] (λa b=>b=a) {s with heap:=(s.heap.push (setO J)).push io} z->U z.heap->m (.ok (.ret .none)) z) ->
   wpAny (model prog w) A.in1.in1 (zdx (.ref b)) (λu z=>zaZ (model prog w) A.in1.in1 (Code.builtin "set.update.loop" {pos:=[.ref s⁻¹,u]}) m z) C {s with heap:=s.heap.push (setO J)})(q:∀(d:cx)(i:Nat),U d->(∀c o,c<s⁻¹->s.heap.get? c\o->d.get? c\o)->R (.ref s⁻¹) {s with heap:=d,toks:=i}):wM prog w A (call (.type "set") [.ref b]) R E s:=by
 let(c,tl,hmro):=F.called_set.mro;have hmade:=F.called_set.made;have hsub:=F.called_set.sub;refine zxY (codeAny_of_tree ?_);show wpAny _ _ (callAny (.type "set") _) _ _ _;refine zzr (zbg _ 'k',zwW F.entry_type_call ?_);rw[zas.under_plain (weight_type_call_type "set" [.ref b] []) rfl];have n1:=F.called_set.notType;have n2:=F.called_set.canCreate;have n3:=F.typeCall_set_1 (.ref b)
 repeat (any_goals (first|assumption|wp_step))
 refine zyD (code_set_new_1 (.ref b) (E:=E) (Q₁:=λobj z=>∃J:Bool,obj=.ref s⁻¹/\z={s with heap:=s.heap.push (setO J)}) λJ=>(J,rfl,rfl)) λr z l=>?_;cases r with
 |error e=>exact l|ok fl =>
  cases fl with
  |ret obj =>
   let(J,rfl,rfl):=l;have g1:(s.heap.push (setO J)).get? s⁻¹\(setO J):=zzx _ rfl;have ty:zbi.TypeIs {s with heap:=s.heap.push (setO J)} (.ref s⁻¹) "set":=(_,g1,rfl);have i1:=F.called_set.init.lookup;have i2:=F.called_set.init.bind (.ref s⁻¹)
   repeat (any_goals (first|assumption|wp_step))
   refine zyD (zxB (R:=wants (λr z=>r=.none/\∃d i,z={s with heap:=d,toks:=i} /\
     U d /\
     (∀c o,c<s⁻¹->s.heap.get? c\o->d.get? c\o)) E) F.called_set.init.plain F.entry_set_init (check_set_init_1 ty ?_)) λr2 z2 L=>?_
   .have j:b<s⁻¹:=zzy B.choose_spec.1;let(o,e,v,n,y):=B;have e:=zzf (setO J) e;let(ocls,odict,odata,oslots):=o;simp only at v y;subst v;subst y;unfold Builtin.«set.__init__» noKeywords zeA;generalize H:zdx=PI
    wp_walk
    subst H;refine zyg (go J _ _ j λio z g k=>?_) (λu z h=>zzb (wpAny_runValue h)) λ_ _ x=>x;let(d,g',Q,N,M):=z;have eg:g'=s.gens:=g.gens;have Y:Q=s.drawn:=g.drawn;have eo:M=s.os:=g.os;subst eg;subst Y;subst eo;show wpAny _ _ _ _ _ _;refine zzr ?_;show wpAny _ _ (ret zaI) _ _ _;refine zzr (rfl,d,N,rfl,k,λc o p e=>?_);have I:c≠(s.heap.push (setO J)).objs.size:=by rw[zyx];exact zzH (zxz p)
    exact g.heap c o (by simp only[zze,zzt,zyb,zxa,not_or];exact(zzH p,I)) (zzf _ (zzf _ e))
   .cases r2 with
    |error e=>exact L|ok G =>
     cases G with
     |ret r =>
      let(rfl,d,i,rfl,k,hk):=L
      repeat (any_goals (first|assumption|wp_step))
      exact q _ _ k hk
     |_=>exact L.elim
  |_=>exact l.elim
theorem sJ{ks:av Int}{R:ax->aM->Prop}(d:A.handled=none)(j:s.heap.IsTuple b its)(J:PyProof.Rows.IntsAre its.toList ks)(e:its.size+1<za7)(q:∀(g:cx)(m:Nat),g.SetOf (intKind prog w) s⁻¹ (λk=>(zcT (λi=>ks.getD i 0) its.size).any (·==k)) (zcT (λi=>ks.getD i 0) its.size).length ->
   (∀c o,c<s⁻¹->s.heap.get? c\o->g.get? c\o)->R (.ref s⁻¹) {s with heap:=g,toks:=m}):wM prog w A (call (.type "set") [.ref b]) R E s:=by
 refine sI j F.sub_tuple_set F.sub_tuple_frozenset 'd' (λled Q1 E1 a k=>zxJ (gC j) ?_) q;exact PyProof.Rows.codeAny_set_update_loopS ((Walks.tuple (by simp[d]) _ b (qr a).2 its).toS) s⁻¹ (qr a).1 (λi=>ks.getD i 0) (λi v U=>zeE J i v (by rw[zxe];exact U)) e (its.size-0) 0 _ 'l' (zyh _) ((_,zzx _ rfl,rfl,rfl),gC (gC j)) (sH (λ_=>rfl) rfl) (λz l L=>k _ z l L)
end
end PySem
namespace Lake
open PySem PySem.Spec PyProof.Rows
section
variable{X:Cx}
noncomputable def yd(ns:av Int):Nat:=(firstMet (λi=>ns.getD i 0) ns.length).length
theorem oW:∀{ns:av Int}{us:av ax},Vals (ns.map V.int) us->zaU us ns
 |[],us,h=>by cases h;exact .nil
 |n::r,us,h=>by
  cases h with
  |cons a b =>
   let(t,rfl):=(show ∃t,_=zbt n t from a);exact .cons _ _ (oW b)
theorem zZ(p:X.calm=true):df X (.type "set") (λxs H Q=>∃b ns,xs=[.ref b]/\H b\(.tup (ns.map V.int))/\ns.length<=1000/\∀l S,H l=none->Q (.ref l) (upd H l (.set S (yd ns)))):=by
 intro pins s σ H xs us Q I r h;walk;let(b,ns,rfl,e,hl,q):=h;let(u,rfl,d):=fW r;x_go;cases d;have(_,its,c,o,g,j,n,m):=(show ObjOk X.prog X.w H s.heap b (.tup (ns.map V.int)) from I.hok b _ e);have J:its.length=ns.length:=by have:=c.length;simpa using this.symm
 refine sJ (its:=its.toArray) (ks:=ns) (I.ok.hd p) (o,g,j,n,m) (by rw[zwj];exact oW c) (by rw[zzF,J];unfold za7;lia) λh' tk a v=>?_;have x:its.toArray.size=ns.length:=by rw[zzF,J]
 rw[x]at a;exact(.ref s⁻¹,_,I.laid (o:=.set (λk=>(firstMet (λi=>ns.getD i 0) ns.length).any (·==k)) (yd ns)) (λb o e=>v b o (zzy e) e) (zzs _) a,rfl,q _ _ (I.hok.fresh (zzs _)))
theorem Aa:df X (.builtin "len") (λxs H Q=>∃p S n,xs=[.ref p]/\H p\(.set S n)/\Q (.int n) H):=by intro pins s σ H xs us Q I r h;walk;let(p,S,n,rfl,e,q):=h;let(u,rfl,a):=fW r;x_go;cases a;have(o,es,ep,t,g1,g2,g3,_,_,U,b,c):=(show ObjOk X.prog X.w H s.heap p (.set S n) from I.hok p _ e);refine call_len_set g1 g2 g3 b (by unfold za7 at U;lia) ?_;rw[c];exact(.int n,H,I.tok _,(_,rfl),q)
theorem uR{ns:av Int}(h:ns.Nodup):yd ns=ns.length:=by
 have key:∀i,i<=ns.length->(firstMet (λi=>ns.getD i 0) i).length=i:=by
  intro i
  induction i with
  |zero=>intro _;rfl|succ i U =>
   intro hi;rw[firstMet_succ,step_length,firstMet_any,zzn,U 'l'];intro b;let(x,a,e):=zwb.mp b;let(j,L,rfl):=zzi.mp a;have L:=zyK.mp L;have J:j<ns.length:='l'
   have e:ns[j]=ns[i]:=by simpa[J,show i<ns.length by lia]using e
   have:=(zxE h).mp e;lia
 exact key _ (zzs _)
end
end Lake
namespace Lake
open PySem PySem.Spec PyProof.Rows PySem.W
variable{i n:Nat}
theorem eN{α a:Type}(c:Nat->Nat->Bool)(f:α->KasT a):∀t:KasT α,kRun c (t.bind f)=kRun c (f (kRun c t))
 |.ret _=>rfl|.ask i j k=>eN c f (k (c i j))
structure StrO(N:Nat)(c:Nat->Nat->Bool):Prop where
 tr:∀i j k,i<N->j<N->k<N->c i j=true->c j k=true->c i k=true
 as:∀i j,i<N->j<N->c i j=true->c j i=false
 to:∀i j,i<N->j<N->i≠j->c i j=false->c j i=true
section
variable{N:Nat}{c:Nat->Nat->Bool}{p:Array Nat}
theorem PmN.size(h:PmN N p):p.size=N:=by have:=h.length_eq;simpa using this
theorem PmN.ne(h:PmN N p){j:Nat}(hi:i<N)(J:j<N)(e:i≠j):p.getD i 0≠p.getD j 0:=by
 have d:p.toList.Nodup:=h.nodup_iff.mpr List.nodup_range;have s:=h.size;have a:p.getD i 0=p.toList[i]'(by simpa[s]using hi):=by simp[zbG,s,hi]
 have b:p.getD j 0=p.toList[j]'(by simpa[s]using J):=by simp[zbG,s,J]
 rw[a,b];intro z;exact e ((zxE d).mp z)
def Asc(c:Nat->Nat->Bool)(p:Array Nat)(n:Nat):Prop:=∀i j,i<j->j<n->c (p.getD i 0) (p.getD j 0)=true
def Dsc(c:Nat->Nat->Bool)(p:Array Nat)(n:Nat):Prop:=∀i j,i<j->j<n->c (p.getD j 0) (p.getD i 0)=true
theorem Asc.step(O:StrO N c)(h:PmN N p)(hn:1<=n)(L:n<N)(a:Asc c p n)(e:c (p.getD n 0) (p.getD (n-1) 0)=false):Asc c p (n+1):=by
 have h0:0<N:='l'
 have last:c (p.getD (n-1) 0) (p.getD n 0)=true:=O.to _ _ (h.lt h0 _) (h.lt h0 _) (h.ne L 'l' 'l') e;intro i j J hj;by_cases z:j=n
 .subst z;by_cases y:i=j-1
  .subst y;exact last
  .exact O.tr _ _ _ (h.lt h0 _) (h.lt h0 _) (h.lt h0 _) (a i (j-1) 'l' 'l') last
 .exact a i j J 'l'
theorem Dsc.step(O:StrO N c)(h:PmN N p)(hn:1<=n)(hN:n<N)(a:Dsc c p n)(last:c (p.getD n 0) (p.getD (n-1) 0)=true):Dsc c p (n+1):=by
 have h0:0<N:='l'
 intro i j J hj;by_cases z:j=n
 .subst z;by_cases y:i=j-1
  .subst y;exact last
  .exact O.tr _ _ _ (h.lt h0 _) (h.lt h0 _) (h.lt h0 _) last (a i (j-1) 'l' 'l')
 .exact a i j J 'l'
theorem uS(O:StrO N c)(h:PmN N p):∀(f n:Nat),1<=n->n+f<=N->Asc c p n->Asc c p (kRun c (zcm p f n))/\n<=kRun c (zcm p f n)/\kRun c (zcm p f n)<=n+f/\(kRun c (zcm p f n)=n+f∨c (p.getD (kRun c (zcm p f n)) 0) (p.getD (kRun c (zcm p f n)-1) 0)=true)
 |0,n,_,_,a=>(a,zzs _,zzs _,.inl rfl)|f+1,n,g,hN,a=>by
  have L:kRun c (zcm p (f+1) n)=kRun c (if c (p.getD n 0) (p.getD (n-1) 0)=true then .ret n else zcm p f (n+1)):=rfl;cases e:c (p.getD n 0) (p.getD (n-1) 0) with
  |true =>
   rw[L,zzu e];exact(a,zzs _,by show n<=_;lia,.inr e)
  |false =>
   rw[L,zzn (by rw[e];intro z;cases z)];have(d,b2,b3,J):=uS O h f (n+1) 'l' 'l' (a.step O h g 'l' e);refine(d,'l','l',?_);rcases J with J|J
   .exact .inl 'l'
   .exact .inr J
theorem wC(O:StrO N c)(h:PmN N p):∀(f n:Nat),1<=n->n+f<=N->Dsc c p n->∃m,kRun c (zcg f p n 0)=(p,m,0)/\Dsc c p m/\n<=m/\m<=n+f
 |0,n,_,_,a=>(n,rfl,a,zzs _,zzs _)|f+1,n,k,hN,a=>by
  have h0:0<N:='l'
  have g:kRun c (zcg (f+1) p n 0)=kRun c (if c (p.getD n 0) (p.getD (n-1) 0)=true then(if 0>0 then zcg f (zdX p (n-(0+1)) n) (n+1) 0 else zcg f p (n+1) 0)
   else .ask (p.getD (n-1) 0) (p.getD n 0) λd=>if d=true then .ret (p,n,0) else zcg f p (n+1) (0+1)):=rfl
  rw[g];cases e:c (p.getD n 0) (p.getD (n-1) 0) with
  |true =>
   have(m,U,b,b3,b4):=wC O h f (n+1) 'l' 'l' (a.step O h k 'l' e);exact(m,U,b,'l','l')
  |false =>
   rw[zzn (by intro z;cases z)];have last:c (p.getD (n-1) 0) (p.getD n 0)=true:=O.to _ _ (h.lt h0 _) (h.lt h0 _) (h.ne 'l' 'l' 'l') e;have j:kRun c (.ask (p.getD (n-1) 0) (p.getD n 0) λd=>if d=true then .ret (p,n,0) else zcg f p (n+1) (0+1))=kRun c (if c (p.getD (n-1) 0) (p.getD n 0)=true then .ret (p,n,0) else zcg f p (n+1) (0+1)):=rfl;rw[j,zzu last];exact(n,rfl,a,zzs _,'l')
theorem Ab{p:Array Nat}{a b:Nat}(k:a<p.size)(J:b<p.size)(i:Nat):(p.swapIfInBounds a b).getD i 0=if i=a then p.getD b 0 else if i=b then p.getD a 0 else p.getD i 0:=by
 have e:∀(q:Array Nat)(j:Nat),q.getD j 0=(q[j]?).getD 0:=λq j=>by by_cases h:j<q.size<;>simp[zbG,h]
 rw[e,e,e,e,Array.swapIfInBounds_def,dif_pos k,dif_pos J,Array.getElem?_swap];by_cases g:i=a
 .subst g;by_cases d:i=b
  .subst d;simp[J]
  .simp[d,J,Ne.symm d]
 .by_cases d:i=b
  .subst d;simp[g,k,J]
  .simp[g,d,Ne.symm g,Ne.symm d]
theorem EW{p:Array Nat}{k:Nat}(J:k<p.size):∀(d l:Nat),l+d=k->∀i,(bubble p k d).getD i 0=if i=l then p.getD k 0 else if l<i/\i<=k then p.getD (i-1) 0 else p.getD i 0
 |0,l,b,i=>by
  obtain rfl:l=k:=b;show p.getD i 0=_;by_cases h:i=l
  .rw[zzu h,h]
  .rw[zzn h,zzn λz=>h (zwX z.2 (zxh z.1))]
 |d+1,l,b,i=>by
  have h0:l+1+d=k:=(zwv l 1 d).trans b;have e:l+1<=k:=h0 ▸ zct ..;have g:k-d=l+1:=by rw[<-h0,zxs]
  have sz:=bubble_size p k d;have L:=EW J d (l+1) h0;have U:(bubble p k d).getD l 0=p.getD l 0:=by rw[L,zzn (zzH (zyY l)),zzn (λz=>absurd z.1 (zec.mpr (zyW l)))]
  have j:(bubble p k d).getD (l+1) 0=p.getD k 0:=by rw[L,zzu rfl]
  rw[bubble_succ,g,zxs,Ab (by rw[sz];exact zzE e J) (by rw[sz];exact zxT e J),U,j,L i];by_cases a:i=l+1
  .subst a;rw[zzu rfl,zzn (Nat.succ_ne_self l),zzu (zyY l,e)];rfl
  .rw[zzn a,zzn a];exact ite_congr rfl (λ_=>rfl) λ_=>ite_congr (propext (and_congr_left λ_=>(Nat.lt_of_succ_lt,λz=>zyy z (Ne.symm a)))) (λ_=>rfl) λ_=>rfl
theorem EX{p:Array Nat}{n:Nat}(g:n<=p.size):∀(d m:Nat),m+d=n->d<=m->∀i,(mirror p 0 n d).getD i 0=if i<d∨(m<=i/\i<n) then p.getD (n-1-i) 0 else p.getD i 0
 |0,m,a,_,i=>by obtain rfl:m=n:=a;show p.getD i 0=_;rw[zzn λz=>z.elim (zwY i) λz=>absurd z.2 (zec.mpr z.1)]
 |d+1,m,a,hd,i=>by
  have J:=EX g d (m+1) ((zwv m 1 d).trans a) (zzk (zyC hd) (zyW m));have j:n-1-d=m:=by subst a;exact zxs ..
  have h:m<n:=by rw[<-a];exact zce (Nat.succ_pos d)
  have sz:=mirror_size p 0 n d;have L:(mirror p 0 n d).getD m 0=p.getD m 0:=by rw[J,zzn λz=>z.elim (λz=>absurd z (zec.mpr (zyC hd))) λz=>absurd z.1 (Nat.not_succ_le_self m)]
  have U:(mirror p 0 n d).getD d 0=p.getD d 0:=by rw[J,zzn λz=>z.elim (zyu d) λz=>absurd z.1 (Nat.not_le.mpr (zxz hd))]
  rw[mirror_succ,zwZ,j,Ab (by rw[sz];exact zzA (zxT hd h) g) (by rw[sz];exact zzA h g),L,U,J i];by_cases b:i=d
  .subst b;rw[zzu rfl,zzu (.inl (zyY i)),j]
  .rw[zzn b];by_cases e:i=m
   .subst e;rw[zzu rfl,zzu (.inr (zzs i,h)),show n-1-i=d by subst a;exact Nat.add_sub_cancel_left ..]
   .rw[zzn e];exact ite_congr (propext (or_congr (zxz,λz=>zyy (zxQ z) b) (and_congr_left λ_=>(zyC,λz=>zyy z (Ne.symm e))))) (λ_=>rfl) λ_=>rfl
theorem EY{p:Array Nat}(d:n<=p.size)(i:Nat):(zdX p 0 n).getD i 0=if i<n then p.getD (n-1-i) 0 else p.getD i 0:=by
 unfold zdX;rw[zei];let(m,b):=Nat.exists_eq_add_of_le (Nat.div_le_self n 2);rw[EX d (n / 2) m (by rw[Nat.add_comm];exact b.symm) 'l'];by_cases h:i<n / 2∨(m<=i/\i<n)
 .rw[zzu h,zzu (h.elim (λz=>zzA z (Nat.div_le_self n 2)) (·.2))]
 .rw[zzn h];by_cases a:i<n
  .have:i+(i+1)=n:='l'
   rw[zzu a,show n-1-i=i by subst this;exact zxs ..]
  .rw[zzn a]
theorem Dsc.rev(h:PmN N p)(d:n<=N)(a:Dsc c p n):Asc c (zdX p 0 n) n:=by
 intro i j J L;have s:=h.size;have b:n<=p.size:=by rw[s];exact d
 rw[EY b,EY b,zzu (zxT J L),zzu L];exact a _ _ (zdf (zzA J (zva L)) J) (zzE (ze0 _ _) (Nat.sub_one_lt (zdV L)))
theorem Ac(O:StrO N c)(h:PmN N p)(h2:2<=N):Asc c (kRun c (zb0 N p)).2 (kRun c (zb0 N p)).1/\1<=(kRun c (zb0 N p)).1/\(kRun c (zb0 N p)).1<=N:=by
 have(a1,a2,a3,L):=uS O h (N-1) 1 (zzs _) 'l' (λi j e r=>'l');unfold zb0;rw[eN];generalize kRun c (zcm p (N-1) 1)=n at a1 a2 a3 L;by_cases a:(n==N)=true
 .rw[zzu a];exact(a1,a2,by show n<=N;lia)
 .rw[zzn a];by_cases d:n>1
  .rw[zzu d];have q:kRun c (.ask (p.getD 0 0) (p.getD (n-1) 0) λb=>if b=true then .ret (n,p) else zcV n N (zdX p 0 n))=kRun c (if c (p.getD 0 0) (p.getD (n-1) 0)=true then .ret (n,p) else zcV n N (zdX p 0 n)):=rfl;rw[q,zzu (a1 0 (n-1) 'l' 'l')];exact(a1,a2,by show n<=N;lia)
  .rw[zzn d];have u:n=1:='l'
   subst u;have last:c (p.getD 1 0) (p.getD (1-1) 0)=true:=by
    rcases L with L|L
    .exact absurd L 'l'
    .exact L
   have o:Dsc c p (1+1):=Dsc.step O h (zzs _) 'l' (λi j e r=>'l') last;unfold zcV;rw[eN];have(m,g,k,b3,b4):=wC O h (N-(1+1)) (1+1) 'l' 'l' o;rw[g];rw[zzn 'l'];have s:m<=N:='l'
   unfold kas_tail3;rw[eN];have(l,c2,c3,_):=uS O (h.rev 0 m) (N-m) m 'l' 'l' (k.rev h s);exact(l,by show 1<=kRun c _;lia,by show kRun c _<=N;lia)
theorem lW(O:StrO N c)(h:PmN N p){k:Nat}(L:k<N)(a:Asc c p k):∀(f l r:Nat),r<=l+f->l<=r->r<=k->(∀i,i<l->c (p.getD i 0) (p.getD k 0)=true)->(∀i,r<=i->i<k->c (p.getD k 0) (p.getD i 0)=true) ->
  (kRun c (zcL p k f l r)<=k/\(∀i,i<kRun c (zcL p k f l r)->c (p.getD i 0) (p.getD k 0)=true)/\∀i,kRun c (zcL p k f l r)<=i->i<k->c (p.getD k 0) (p.getD i 0)=true)
 |0,l,r,U,J,d,g,j=>by show l<=k/\_;obtain rfl:l=r:=zwX J U;exact(d,g,j)
 |f+1,l,r,U,J,d,g,j=>by
  have h0:0<N:=zcb L;unfold zcL;by_cases e:l ≥ r
  .rw[zzu e];obtain rfl:l=r:=zwX J e;exact(d,g,j)
  .rw[zzn e];have q:l<=(l+r) / 2:='l'
   have o:(l+r) / 2<r:='l'
   have mk:=zzA o d;have w:∀(t u:KasT Nat),kRun c (.ask (p.getD k 0) (p.getD ((l+r) / 2) 0) λb=>if b=true then t else u)=kRun c (if c (p.getD k 0) (p.getD ((l+r) / 2) 0)=true then t else u):=λ_ _=>rfl;rw[w];cases z:c (p.getD k 0) (p.getD ((l+r) / 2) 0) with
   |true =>
    refine lW O h L a f l ((l+r) / 2) (zxQ (zzA o U)) q (zxh mk) g λi m v=>?_;by_cases y:i=(l+r) / 2
    .rw[y];exact z
    .exact O.tr _ _ _ (h.lt h0 _) (h.lt h0 _) (h.lt h0 _) z (a _ _ (zyy m (Ne.symm y)) v)
   |false =>
    have s:c (p.getD ((l+r) / 2) 0) (p.getD k 0)=true:=O.to _ _ (h.lt h0 _) (h.lt h0 _) (h.ne L (zxT mk L) (zxr mk)) z;refine lW O h L a f ((l+r) / 2+1) r (by rw[zwv];exact zzk U (zcp (zvb q f))) o d (λi m=>?_) j;by_cases y:i=(l+r) / 2
    .rw[y];exact s
    .exact O.tr _ _ _ (h.lt h0 _) (h.lt h0 _) (h.lt h0 _) (a i _ (zyy (zxQ m) y) mk) s
theorem Asc.bub(h:PmN N p){k l:Nat}(s:k<N)(a:Asc c p k)(m:l<=k)(o:∀i,i<l->c (p.getD i 0) (p.getD k 0)=true)(q:∀i,l<=i->i<k->c (p.getD k 0) (p.getD i 0)=true):Asc c (bubble p k (k-l)) (k+1):=by
 intro i j J r;have L:=zxQ r;have g:j-1<k:=zzA (Nat.sub_one_lt (zdV J)) L;have e:=EW (p:=p) (k:=k) (by rw[h.size];exact s) (k-l) l (zvi m);rw[e i,e j];by_cases b:i=l
 .rw[zzu b,zzn (zxr (b ▸ J)),zzu (b ▸ J,L)];exact q (j-1) (zva (b ▸ J)) g
 .rw[zzn b];by_cases U:j=l
  .rw[zzu U,zzn λz=>absurd z.1 (Nat.lt_asymm (U ▸ J))];exact o i (U ▸ J)
  .rw[zzn U];by_cases i2:l<i/\i<=k
   .rw[zzu i2,zzu (zxT i2.1 J,L)];exact a _ _ (Nat.sub_lt_sub_right (Nat.one_le_of_lt i2.1) J) g
   .rw[zzn i2];have u:i<l:=zyy (zwO λz=>i2 (z,zxh (zzA J L))) b;by_cases d:l<j/\j<=k
    .rw[zzu d];exact a _ _ (zzA u (zva d.1)) g
    .rw[zzn d];exact a _ _ J (zzA (zyy (zwO λz=>d (z,L)) U) m)
theorem Ad(O:StrO N c):∀(f:Nat)(p:Array Nat)(k:Nat),PmN N p->1<=k->k+f=N->Asc c p k->Asc c (kRun c (kas_bin f p k)) N
 |0,p,k,h,_,e,a=>by
  have:k=N:='l'
  subst this;exact a
 |f+1,p,k,h,hk,e,a=>by unfold kas_bin;rw[eN];let(L,U,d):=lW O h (k:=k) 'l' a k 0 k (by rw[zwZ];exact zzs k) (zyh k) (zzs _) (λi b=>absurd b (zwY i)) (λi b J=>absurd J (zec.mpr b));exact Ad O f _ (k+1) (h.bub _ _) 'l' 'l' (a.bub h 'l' L U d)
theorem Dj(O:StrO N c)(a:2<=N):Asc c (kRun c (zdD N)) N:=by
 have J:PmN N (zbq (zav N)):=by unfold PmN;rw[zwj]
 unfold zdD;rw[eN];have(a1,a2,a3):=Ac O J a;have pm:=KGood.end c _ (oV (N:=N) 'l' J N);generalize kRun c (zb0 N (zbq (zav N)))=r at a1 a2 a3 pm;by_cases e:r.1<N
 .rw[zzu e];have em:max r.1 1=r.1:='l'
  rw[em];exact Ad O _ _ _ pm a2 'l' a1
 .rw[zzn e];have:r.1=N:='l'
  rw[this]at a1;exact a1
end
end Lake
namespace Lake
open PySem PySem.Spec PyProof.Rows
variable{E:ax->aM->Prop}{a b i it:ay}{h:cx}{its ys:Array ax}{k:Nat}{l':cy}{p pos tp:Pos}{s:aM}
variable{prog:cH}{A:zas}{E:ax->aM->Prop}{s:aM}{X:Cx}
def IterX:Bool->cx->ay->ay->Nat->Prop
 |true,h,i,a,k=>h.IsTupleIter i a k|false,h,i,a,k=>h.IsListIter i a k
def SeqX:Bool->cx->ay->Array ax->Prop
 |true,h,a,c=>h.IsTuple a c|false,h,a,c=>h.IsList a c
theorem IterX.extBut{t:Bool}{h h':cx}{i a b:ay}{k:Nat}(x:IterX t h i a k)(hs:zbK b h h')(e:i≠b):IterX t h' i a k:=by
 cases t with
 |true=>exact ze3 x hs e|false=>exact Heap.IsListIter.extBut x hs e
theorem IterX.at{t:Bool}{h h':cx}{i a:ay}{k:Nat}(x:IterX t h i a k)(e:∀o,h.get? i\o->h'.get? i\o):IterX t h' i a k:=by
 cases t with
 |true=>exact Heap.IsTupleIter.at x e|false=>exact Heap.IsListIter.at x e
theorem IterX.cell{t:Bool}{h:cx}{i a:ay}{k:Nat}(x:IterX t h i a k):∃o,h.get? i\o/\∀v,o.data ≠ .cell v:=by
 cases t with
 |true=>let(o,e,_,d):=(show h.IsTupleIter i a k from x);exact(o,e,λv z=>by rw[d]at z;cases z)
 |false=>let(o,e,_,d):=(show h.IsListIter i a k from x);exact(o,e,λv z=>by rw[d]at z;cases z)
theorem SeqX.extBut{t:Bool}{h h':cx}{a b:ay}{xs:Array ax}(x:SeqX t h a xs)(hs:zbK b h h')(e:a≠b):SeqX t h' a xs:=by
 cases t with
 |true=>exact Heap.IsTuple.extBut x hs e|false=>exact Heap.IsList.extBut x hs e
theorem SeqX.at{t:Bool}{h h':cx}{a:ay}{xs:Array ax}(x:SeqX t h a xs)(e:∀o,h.get? a\o->h'.get? a\o):SeqX t h' a xs:=by
 cases t with
 |true=>let(o,ho,r):=(show h.IsTuple a xs from x);exact(o,e o ho,r)
 |false=>exact Heap.IsList.at x e
theorem SeqX.lt{t:Bool}{xs:Array ax}(x:SeqX t h a xs):a<h.objs.size:=by
 cases t with
 |true=>let(o,ho,_):=(show h.IsTuple a xs from x);exact zzy ho
 |false=>let(o,ho,_):=(show h.IsList a xs from x);exact zzy ho
section
variable{w:World}
theorem fZ{t:ay}{i:Nat}{xs:Array ax}{v:ax}{Q:ax->aM->Prop}(d:s.heap.IsTupleIter it t i)(g:s.heap.IsTuple t xs)(j:xs[i]?\v)(q:∀h',h'.IsTupleIter it t (i+1)->zam it s.heap h'->Q v {s with heap:=h' }):wM prog w A (zay (.ref it)) Q E s:=by walk;let(ob,ho,l,c):=id d;let(ot,J,_,nt,L):=g;x_go;refine zzb (zaM (name:=zao "__next__") d.typeIs zaO (zyZ zaO d.typeIs zbN ?_ (zbC _)));refine(show wpAny _ _ (field (.ref it) 0 >>= _) _ _ s from zzb (zyQ ho c (x:=.ref t) rfl ?_));refine(show wpAny _ _ (field (.ref it) 1 >>= _) _ _ s from zzb (zyQ ho c (x:=.int i 0) rfl ?_));refine(show wpAny _ _ (seqItems? (.ref t) >>= _) _ _ s from zzb (zxV J L ?_));simp only[zzV,j];refine zzb (zwC ho c 's' (zzr (v,rfl,zzr (q _ (_,zyO _ ho (zbs (zaR c _)),(zdZ ..).trans l,by rw[zaR c];simp[zcS]) (zyB ..)))))
theorem eD{t:ay}{i:Nat}{xs:Array ax}{Q:ax->aM->Prop}(g:A.handled=none)(c:s.heap.IsTupleIter it t i)(l:s.heap.IsTuple t xs)(n:xs[i]?=none)(q:∀h' e,zbK it s.heap h'->(∃o,h'.get? e\o/\o.cls=.type "StopIteration")->E (.ref e) {s with heap:=h' }):wM prog w A (zay (.ref it)) Q E s:=by walk;let(ob,ho,oc,d):=id c;let(ot,J,_,nt,L):=l;x_go;refine zzb (zaM (name:=zao "__next__") c.typeIs zaO (zyZ zaO c.typeIs zbN ?_ (zbC _)));refine(show wpAny _ _ (field (.ref it) 0 >>= _) _ _ s from zzb (zyQ ho d (x:=.ref t) rfl ?_));refine(show wpAny _ _ (field (.ref it) 1 >>= _) _ _ s from zzb (zyQ ho d (x:=.int i 0) rfl ?_));refine(show wpAny _ _ (seqItems? (.ref t) >>= _) _ _ s from zzb (zxV J L ?_));simp only[zzV,n];refine zzb (zwB (zzb (zwC ho d 's' ?_)));refine(show wpAny _ _ (newExc (.type "StopIteration") [] >>= _) _ _ _ from zzb ?_);refine zzb (zxx (zzb (m:=zdb _ _) (zdi (a:=zaI) (by first|rfl|(rfl;rfl)) (zxx ?_ (by size_fits)))) (by size_fits));simp only[raiseNew];refine zzb (wpAny_handled ?_);(first|rw[show A.in1.handled=none from g]|rw[g]);refine zzb (zzr (zwI ?_));exact q _ _ (((zyB ..).extBut.push _).push _) (_,zzx _ rfl,rfl)
theorem ky{b:Bool}{t:ay}{i:Nat}{xs:Array ax}{Q:ax->aM->Prop}(j:A.handled=none)(c:IterX b s.heap it t i)(d:SeqX b s.heap t xs)(g:xs[i]?=none)(q:∀h' e,zbK it s.heap h'->(∃o,h'.get? e\o/\o.cls=.type "StopIteration")->E (.ref e) {s with heap:=h' }):wM prog w A (zay (.ref it)) Q E s:=by
 cases b with
 |true=>exact eD j c d g q|false=>exact wpAny_nextOf_list_end j c d g q
end
section
noncomputable abbrev itO(t:Bool)(l:ay):Obj:={cls:=.type (match t with|true=>"tuple_iterator" |false=>"list_iterator"),data:=.fields #[.ref l,.int 0 0]}
abbrev m2H(t u:Bool)(h:cx)(l1 J:ay):cx:=(h.push (itO t l1)).push (itO u J)
abbrev m2T(t u:Bool)(h:cx)(l1 J:ay):cx:=(m2H t u h l1 J).push (tuO [.ref h.objs.size,.ref (h.push (itO t l1)).objs.size])
abbrev m2U(t u:Bool)(h:cx)(l1 J:ay):cx:=(m2T t u h l1 J).push (tuO [.none,.none])
abbrev m2Z(t u:Bool)(h:cx)(l1 J:ay):cx:=(m2U t u h l1 J).push (ziO (m2H t u h l1 J).objs.size (m2T t u h l1 J).objs.size)
theorem SeqX.push{t:Bool}{h:cx}{a:ay}{xs:Array ax}(x:SeqX t h a xs)(o:Obj):SeqX t (h.push o) a xs:=x.at λo e=>zzf _ e
theorem EZ{prog:cH}{w:World}{A:zas}{s:aM}{t:Bool}{l:ay}{xs:Array ax}{Q:ax->aM->Prop}(h:SeqX t s.heap l xs)(q:Q (.ref s⁻¹) {s with heap:=s.heap.push (itO t l)}):wM prog w A (zdx (.ref l)) Q E s:=by
 cases t with
 |true=>exact zxJ h q|false=>exact zxy h q
set_option maxHeartbeats 0 in
theorem nZ(t u:Bool)(l1 J:ay)(xs ys:Array ax) :
  Meets (Builtin.«zip.__new__» ([.type "zip",.ref l1,.ref J],[])) (λ_ R s=>SeqX t s.heap l1 xs/\SeqX u s.heap J ys /\
   R (.ok (.ret (.ref (m2U t u s.heap l1 J).objs.size))) {s with heap:=m2Z t u s.heap l1 J}) :=
 .of_wp λprog w A R s h=>by
  let(c,g,d,tok,os):=s;let(e,j,h):=h;have hsub:=sub_zip;have L:SeqX t (zbi.heap (c,g,d,tok,os)) l1 xs:=e;have U:SeqX u (zbi.heap (c.push (itO t l1),g,d,tok,os)) J ys:=j.push _
  wp_walk using EZ L,EZ U
  exact(_,rfl,h)
theorem IterX.new{t:Bool}(e:h.get? i\(itO t a)):IterX t h i a 0:=by
 cases t with
 |true=>exact(_,e,rfl,rfl)|false=>exact(_,e,rfl,rfl)
variable{w:World}
theorem iP{b:Bool}{t:ay}{i:Nat}{xs:Array ax}{v:ax}{Q:ax->aM->Prop}(c:IterX b s.heap it t i)(d:SeqX b s.heap t xs)(e:xs[i]?\v)(q:∀h',IterX b h' it t (i+1)->zam it s.heap h'->Q v {s with heap:=h' }):wM prog w A (zay (.ref it)) Q E s:=by
 cases b with
 |true=>exact fZ c d e q|false=>exact wpAny_nextOf_list_item c d e q
structure ZS(t u:Bool)(z TI TO i1 i2 a b:Addr)(k:Nat)(h:Heap):Prop where
 z:IsZip h z TI TO .none
 ti:zeh h TI (.ref i1) (.ref i2)
 to:∃p q,zeh h TO p q
 a1:IterX t h i1 a k
 a2:IterX u h i2 b k
def ZK(z TO i1 i2:ay)(h h':cx):Prop:=∀c o,c≠z->c≠TO->c≠i1->c≠i2->h.get? c\o->h'.get? c\o
theorem Fa{t u:Bool}{z TO j i2:ay}{xs:Array ax}{Q:aT ax->aM->Prop}(hh:A.handled=none)(D:ZipApart z it TO j i2 a b)(st:ZS t u z it TO j i2 a b k s.heap)(h1:SeqX t s.heap a xs)(h2:SeqX u s.heap b ys)(hQ:∀x y h',xs[k]?\x->ys[k]?\y->IsZip h' z it TO (zcS s⁻¹)->zeh h' TO x y->IterX t h' j a (k+1)->IterX u h' i2 b (k+1)->zeh h' s⁻¹ x y->ZK z TO j i2 s.heap h'->Q (some (.ref s⁻¹)) {s with heap:=h' })(hE:xs[k]?=none∨ys[k]?=none->∀h',ZK z TO j i2 s.heap h'->Q none {s with heap:=h' }) :
  wM prog w A (zeW (.ref z)) Q E s:=by
 have(n,a4,(p,q,a5),j1,j2):=st;have hT:s.TypeIs (.ref z) "zip":=(_,n,rfl);unfold zeW;refine zzb (zwg (zaM (name:=zao "__next__") hT F.slot_zip_next (zyZ F.slot_zip_next hT F.entry_zip_next ?_ (F.args_zip_next_1 _))));show wpAny _ _ (field (.ref z) 2 >>= _) _ _ _;refine zzb (zyQ n rfl (x:=.bool false) rfl ?_);show wpAny _ _ (field (.ref z) 3 >>= _) _ _ _;refine zzb (zyQ n rfl (x:=.ref it) rfl (zzb (zxV a4 rfl ?_)));show wpAny _ _ (zbc (.ref z) >>= _) _ _ _;refine zzb ?_;unfold zbc;refine zzb (zyQ n rfl (x:=.none) rfl (zzr ?_));simp only[if_true];refine zzb (zwB (zzb (zyQ n rfl (x:=.ref TO) rfl (zzb (zww n 's' λg1 Y l=>?_)))))
 replace Y:IsZip g1 z it TO .ellipsis:=Y
 have k1:ZK z TO j i2 s.heap g1:=λc o d _ _ _ e=>l.extBut _ _ d e;have fin:∀{i:ay}{g h':cx}{e:ay}{E':ax->aM->Prop},i≠z->(i=j∨i=i2)->(xs[k]?=none∨ys[k]?=none)->IsZip g z it TO .ellipsis->ZK z TO j i2 s.heap g->zbK i g h'->(∃o,h'.get? e\o/\o.cls=.type "StopIteration") ->
   wpAny (model prog w) A.in1 (zdt (.ref z) 0 .none) (λ_ s'=>wM prog w A (do let b <-isInstance (.ref e) (.type "StopIteration");if b then pure none else throw (.ref e)) Q E s') E' {s with heap:=h' }:=λ{i g h' e _} iz ii no n kk hs C=>by
  let(o,ho,hc):=C;have z2:IsZip h' z it TO .ellipsis:=hs _ _ iz.symm n;have ez:e≠z:=λx=>by subst x;rw[z2]at ho;cases ho;simp at hc
  refine zww z2 's' λh3 _ m=>zzb (wpAny_isInstance (T:="StopIteration") (b:=true) (o,m.extBut _ _ ez ho,hc) isSubtype_stop (zzr (hE no h3 λc o d v L U x=>m.extBut _ _ d (hs _ _ ?_ (kk c o d v L U x)))));rcases ii with rfl|rfl
  .exact L
  .exact U
 refine zzb ?_;simp only[List.zipIdx_cons,List.zipIdx_nil,zeQ,List.forIn_nil];refine zzb (zzb (wpAny_onRaise ?_));show wpAny _ _ (zay (.ref j) >>= _) _ _ _;cases I:xs[k]? with
 |none =>
  refine zzb (ky hh (j1.extBut l.extBut D.i1z) (h1.extBut l.extBut D.l1z) I λg2 e r C=>fin D.i1z (.inl rfl) (.inl I) Y k1 r C)
 |some x =>
  refine zzb (iP (j1.extBut l.extBut D.i1z) (h1.extBut l.extBut D.l1z) I λg2 j3 r=>zzr ?_);dsimp only;have o2:zeh g2 TO p q:=r.extBut _ _ D.TOi1 (l.extBut _ _ D.TOz a5);refine zzb (zxV o2 rfl (zzb (zc0 o2 λg3 o3 m=>zzb (wpAny_letGo (zzr (zzb (zzb (wpAny_onRaise ?_))))))));dsimp only
  replace o3:zeh g3 TO x q:=o3
  show wpAny _ _ (zay (.ref i2) >>= _) _ _ _;have z3:IsZip g3 z it TO .ellipsis:=m.extBut _ _ D.TOz.symm (r.extBut _ _ D.i1z.symm Y);have k3:ZK z TO j i2 s.heap g3:=λc o d v L U e=>m.extBut _ _ v (r.extBut _ _ L (k1 c o d v L U e));have j4:=((j2.extBut l.extBut D.i2z).extBut r.extBut D.i12.symm).extBut m.extBut D.TOi2.symm;have h4:=((h2.extBut l.extBut D.l2z).extBut r.extBut D.l2i1).extBut m.extBut D.l2TO;cases M:ys[k]? with
  |none=>exact zzb (ky hh j4 h4 M λg4 e B C=>fin D.i2z (.inr rfl) (.inr M) z3 k3 B C)
  |some y =>
   refine zzb (iP j4 h4 M λg4 j5 B=>zzr ?_);dsimp only;have o4:zeh g4 TO x q:=B.extBut _ _ D.TOi2 o3;refine zzb (zxV o4 rfl (zzb (zc0 o4 λJ N G=>zzb (wpAny_letGo (zzr (zzr ?_))))));dsimp only
   replace N:zeh J TO x y:=N
   refine zzb (zxV N rfl (zzb (wpAny_newTuple ?_)));have sz:J.objs.size=s⁻¹:=by rw[G.1,B.1,m.1,r.1,l.1]
   have z5:IsZip J z it TO .ellipsis:=G.extBut _ _ D.TOz.symm (B.extBut _ _ D.i2z.symm z3);have lz:z<J.objs.size:=zzy z5;show wpAny _ _ (za9 (.ref z) (.ref J.objs.size) >>= _) _ _ _;refine zzb ?_;unfold za9;refine zzb (zww (zzf _ z5) 's' λg7 z7 s7=>?_);dsimp only
   replace z7:IsZip g7 z it TO (zcS J.objs.size):=z7
   refine zww z7 's' λH h s8=>?_;have up:∀c o,c≠z->J.get? c\o->H.get? c\o:=λc o d e=>s8.extBut _ _ d (s7.extBut _ _ d (zzf _ e));have t8:zeh H J.objs.size x y:=s8.extBut _ _ (zxr lz) (s7.extBut _ _ (zxr lz) (zzx _ rfl))
   replace h:IsZip H z it TO (zcS J.objs.size):=h
   rw[sz]at h t8;refine zzr (_,rfl,?_);rw[sz];exact zzr (hQ x y H I M h (up _ _ D.TOz N) ((((j3.extBut m.extBut D.TOi1.symm).extBut B.extBut D.i12).extBut G.extBut D.TOi1.symm).at λo e=>up _ o D.i1z e) ((j5.extBut G.extBut D.TOi2.symm).at λo e=>up _ o D.i2z e) t8 λc o d v L U e=>up c o d (G.extBut _ _ v (B.extBut _ _ U (k3 c o d v L U e))))
theorem GB{t u:Bool}{xs:Array ax}{Q:ax->aM->Prop}(l:SeqX t s.heap a xs)(m:SeqX u s.heap b ys)(h:∀h',ZS t u (s⁻¹+4) (s⁻¹+2) (s⁻¹+3) s⁻¹ (s⁻¹+1) a b 0 h'->(∀c o,s.heap.get? c\o->h'.get? c\o)->Q (.ref (s⁻¹+4)) {s with heap:=h' }) :
  wM prog w A (call (.type "zip") [.ref a,.ref b]) Q E s:=by
 refine callType_new F.called_zip 'd' (F.typeCall_zip_2 _ _) (F.newCall_zip_2 _ _) (λobj=>F.args_object_init_3 obj _ _) F.entry_zip_new (nZ t u a b xs ys) (l,m,?_);have L:(s.heap.push (itO t a)).objs.size=s⁻¹+1:=zyx ..;have U:(m2H t u s.heap a b).objs.size=s⁻¹+2:=by rw[zyx,L]
 have d:(m2T t u s.heap a b).objs.size=s⁻¹+3:=by rw[zyx,U]
 have j:(m2U t u s.heap a b).objs.size=s⁻¹+4:=by rw[zyx,d]
 have up:∀c o,(m2H t u s.heap a b).get? c\o->(m2Z t u s.heap a b).get? c\o:=λc o e=>zzf _ (zzf _ (zzf _ e));have J:(m2Z t u s.heap a b).get? (m2U t u s.heap a b).objs.size\_:=zzx _ rfl;have g:(m2Z t u s.heap a b).get? (m2T t u s.heap a b).objs.size\_:=zzf _ (zzx _ rfl);have g3:(m2Z t u s.heap a b).get? (m2H t u s.heap a b).objs.size\_:=zzf _ (zzf _ (zzx _ rfl));have g2:=up _ _ (zzx (s.heap.push (itO t a)) (o:=itO u b) rfl);rw[U,d,j]at J;rw[L,U]at g3;rw[d]at g;rw[L]at g2;rw[j];exact((_,J,rfl),h _ (J,g3,(_,_,g),.new (up _ _ (zzf _ (zzx _ rfl))),.new g2) λc o x=>up _ _ (zzf _ (zzf _ x)))
end
def SqB:Bool->zvu->Hp->ay->av V->Prop
 |true,K,H,a,c=>SqT K H a c|false,K,H,a,c=>SqL K H a c
theorem SqB.inj{X:Cx}{c:av (ay×Obj)}{g:St}{H:Hp}(I:Inv X c g H s){t:Bool}{xs ys:av V}(d:SqB t X.K H a xs)(e:SqB t X.K H a ys):xs=ys:=by
 cases t with
 |true=>exact I.tuple_inj d e|false=>exact I.list_inj d e
theorem SqB.at{X:Cx}{c:av (ay×Obj)}{d:St}{H:Hp}(I:Inv X c d H s){t:Bool}{xs:av V}(h:SqB t X.K H a xs):∃its:av ax,Vals xs its/\SeqX t s.heap a its.toArray:=by
 cases t with
 |true=>let(its,J,p,_):=I.tuple h;exact(its,J,p)
 |false=>let(its,J,p,_):=I.list h;exact(its,J,p.isList)
def ItzX(t u:Bool)(K:zvu)(a b:ay):It :=
 (λi H=>∃c ys x y,SqB t K H a c/\SqB u K H b ys/\c[i]?\x/\ys[i]?\y,
  λi H v d=>∃T x y,H T=none/\v=.ref T/\(∀c,SqB t K H a c->c[i]?\x)/\(∀ys,SqB u K H b ys->ys[i]?\y)/\d=upd H T (.tup [x,y]),
  λi H=>∃c ys,SqB t K H a c/\SqB u K H b ys/\(c.length<=i∨ys.length<=i))
theorem GC{P:cH}{w:World}{K:zvu}{a5:av cy}(t u:Bool){n:ay}(ha:a<n)(L:b<n) :
  Turn P w K (.Tuple a5 k tp) (ItzX t u K a b) [n+4,n+3,n+2,n,n+1] (n+4) (ZS t u (n+4) (n+2) (n+3) n (n+1) a b) where
 mem:=zzd
 obj:=λi h st c J=>by
  have(l,hI,(_,_,hO),h1,h2):=st;simp only[zze,zyb,zxa]at J;rcases J with rfl|rfl|rfl|rfl|rfl
  .exact(_,l,λv z=>by have C:zeM _=zdC v:=z;cases C)
  .exact(_,hO,λv z=>by have C:Data.seq _ _=zdC v:=z;cases C)
  .exact(_,hI,λv z=>by have C:Data.seq _ _=zdC v:=z;cases C)
  .exact h1.cell
  .exact h2.cell
 keep:=λi h Y st r=>(r _ 's' _ st.z,r _ 's' _ st.ti,by let(p,q,e):=st.to;exact(p,q,r _ 's' _ e),st.a1.at λo e=>r _ 's' o e,st.a2.at λo e=>r _ 's' o e)
 item:=by
  intro X hP hw A J i B s σ H E I G st hg;walk;subst hP hw A;let(xs,ys,x,y,M,U,hx,hy):=hg;let(its,rv,p):=M.at I;let(m,Q,p'):=U.at I;let(v,hv,ru):=rv.get hx;let(v',a6,a7):=Q.get hy;x_go;refine Fa (I.ok.hd J) (zem ha L) st p p' (λw w' Y e T z5 t5 j1 j2 pT N=>?_) (λe=>absurd e (by simp[hv,a6]));obtain rfl:w=v:=by simpa[hv,eq_comm]using e
  obtain rfl:w'=v':=by simpa[a6,eq_comm]using T
  have lz:n+4<s⁻¹:=zzy st.z;refine(_,rfl,wpAny_letOwnedTupleGo_zip z5 λh4 z4 g=>?_);have D:=zem ha L;have up:∀c o,c∉[n+4,n+3,n+2,n,n+1]->s.heap.get? c\o->h4.get? c\o:=λc o J e=>by simp only[zze,zyb,zxa,not_or]at J;exact g.extBut _ _ J.1 (N c o J.1 J.2.1 J.2.2.2.1 J.2.2.2.2 e)
  have tT:=g.extBut _ _ (zxr lz) pT;refine(.ref s⁻¹,_,I.turnedN (o:=.tup [x,y]) (t':=s.toks) G up (zzs _) ((show 2<=zaa by decide,.inl (_,tT,rfl)),[w,w'],.cons ru (.cons a7 .nil),_,tT,rfl,_,rfl),rfl,(_,x,y,I.hok.fresh (zzs _),rfl,λzs l=>by rw[l.inj I M];exact hx,λzs l=>by rw[l.inj I U];exact hy,rfl),(z4,g.extBut _ _ D.TIz (N _ _ D.TIz D.TITO D.TIi1 D.TIi2 st.ti),(_,_,g.extBut _ _ D.TOz t5),j1.extBut g.extBut D.i1z,j2.extBut g.extBut D.i2z),λc J=>?_);rw[ar (zzH (zzE ?_ lz))]
  .exact(G c J).1
  .simp only[zze,zyb,zxa]at J;rcases J with rfl|rfl|rfl|rfl|rfl<;>first|exact zzs _|exact zct _ _|exact Nat.add_le_add_left 'd' _
 done:=by
  intro X hP hw A J i B s σ H E I G st hg;walk;subst hP hw A;let(xs,ys,M,U,hl):=hg;let(its,rv,p):=M.at I;let(m,Q,p'):=U.at I;x_go;have l1:=rv.length;have l2:=Q.length;refine Fa (I.ok.hd J) (zem ha L) st p p' (λw w' Y e T _ _ _ _ _ _=>?_) (λ_ Y N=>(rfl,I.turnedL (t':=s.toks) G λc o L q=>?_))
  .have:=(zyX.mp e).1;have:=(zyX.mp T).1;simp at *;lia
  .simp only[zze,zyb,zxa,not_or]at L;exact N c o L.1 L.2.1 L.2.2.2.1 L.2.2.2.2 q
 self:=λ_ _ _ _ _ st h=>wpAny_pyIter_zip st.z h
def iZX(K:zvu)(ta:TA):TI:=λg H R=>ta g H λe c=>∃(t u:Bool)(a b:ay),e=[.ref a,.ref b]/\(∃d,SqB t K c a d)/\(∃d,SqB u K c b d)/\R (ItzX t u K a b) c
theorem Lj{l:cy}{o:TA}{L:av cy}(y:Gl X "zip")(B:X.mg "zip" = none)(x:PA X [l,l'] o)(he:SE X l [l'])(hpl:BA X pos [l']) :
  PI X (.Tuple L k tp) (.Call (.Name "zip" p) [l,l'] [] pos) (iZX X.K o):=by
 intro d s Y H R I h;refine Call_ (lG I y B CY (zaC (thn (x pos d s Y H _ I h) λus n M=>?_) he hpl));walk;let(vs,r,J,Q,N):=M;let(t,u,a,b,e,(xs,C),(ys,v),q):=N;subst e;let(_,_,rfl,T,w):=Q.two;x_go;cases T;cases w;walk;let(its,rv,pl):=C.at J;let(its',rv',j):=v.at J;x_go;refine GB pl j λh' z G=>wpAny_pyIter_zip z.z (_,_,_,ItzX t u X.K a b,r,rfl,J.kept (t':=n.toks) G,GC t u pl.lt j.lt,z,λc m=>?_,q);have this:n⁻¹<=c:=by simp only[zze,zyb,zxa]at m;rcases m with rfl|rfl|rfl|rfl|rfl<;>first|exact zzs _|exact zct _ _
 exact J.fpOk this (J.hok.fresh this)
section
variable{w:World}
theorem Dk{t:ay}{vs ws:av ax}{Q:ax->aM->Prop}(o:IsTup s.heap t vs.toArray)(l:IsTup s.heap b ws.toArray)(q:vs=[])(h:Q (.ref b) s):wM prog w A (zaA .Add (.ref t) (.ref b)) Q E s:=by
 walk;let((cls,j,data,sl),ho,m,n,hd):=id o;let((cls2,L,data2,g),J,U,r,e):=id l;subst m hd U e;x_go;exact zed (_,ho,rfl) (_,J,rfl) zcw zdy zwG zwE (zws _ _)
   (tuple_addW0 t b vs.toArray ws.toArray n r j L sl g (by simp[q])) (ho,J,h)
end
inductive rCatT0(K:zvu)(x:V)(y:V)(H:Hp)(Q:VK):Prop
 |mk a b ys:x=.ref a->y=.ref b->SqT K H a []->SqT K H b ys->Q (.ref b) H->rCatT0 K x y H Q
theorem GD:OpR X (zaA .Add) (λx y H Q=>rCatT X.K x y H Q∨rCatT0 X.K x y H Q):=by
 intro c s n H x y v u Q I L U h;rcases h with h|h
 .exact FZ c s n H x y v u Q I L U h
 .let(a,b,ys,rfl,rfl,e,g,q):=h;cases L;cases U;walk;let(its,m,j,_):=I.tuple e;let(its2,r2,l,_):=I.tuple g;x_go;exact Dk j l (m.nil_iff.mpr rfl) (.ref b,H,I,rfl,q)
open AutoSeq1 (wpAny_loadPart')
noncomputable abbrev Ae(t:ay):Obj:={cls:=.type "tuple_iterator",data:=.fields #[.ref t,.int 0 0]}
noncomputable abbrev GE(it:ay):Obj:={cls:=.type "enumerate",data:=.fields #[.none,.bool false,.ref it,zcS 0,.none,.none]}
theorem Dm{c:Type}{M:Model}{A:zas}{v:c}{Q:c->aM->Prop}(h:∀v,Q v s):wpAny M A (pure v) Q E s:=zzr (h v)
set_option maxHeartbeats 1000000 in
theorem Af(t:ay)(xs:Array ax)(n:Nat)(dd:aT ay)(sl:Array (aT ax)) :
  Meets (Builtin.«enumerate.__new__» ([.type "enumerate",.ref t],[])) (λ_ R s=>s.heap.get? t\(.type "tuple",dd,.seq xs n,sl)/\R (.ok (.ret (.ref (s.heap.push (Ae t)).objs.size))) {s with heap:=(s.heap.push (Ae t)).push (GE s⁻¹)}):=by
 refine .of_wp λprog w A R s ⟨J,q⟩=>?_;let(L,g,d,c,os):=s;have hs:=sub_enumerate;have it:Heap.IsTuple (zbi.heap (L,g,d,c,os)) t xs:=(_,J,rfl,n,rfl)
 wp_walk using wpAny_loadPart' J
 refine wpAny_stack_any (λσs=>Dm λb=>?_);cases b<;>(wp_walk using wpAny_loadPart' J,zxJ it;exact(_,rfl,q))
section
variable{w:World}
theorem Dn{t:ay}{xs:Array ax}{Q:ax->aM->Prop}(U:IsTup s.heap t xs)
  (q:∀h',IsEnum h' (s⁻¹+1) s⁻¹ 0 .none->h'.IsTupleIter s⁻¹ t 0->(∀b o,s.heap.get? b\o->h'.get? b\o)->Q (.ref (s⁻¹+1)) {s with heap:=h' }) :
  wM prog w A (call (.type "enumerate") [.ref t]) Q E s:=by
 walk;let((cl,c,da,sl),ho,d,n,g):=U;subst d g;x_go;have z:(s.heap.push (Ae t)).objs.size=s⁻¹+1:=zyx ..;refine callType_new F.called_enumerate 'd' (F.typeCall_enumerate_1 _) (F.newCall_enumerate_1 _) (λo=>F.args_object_init_2 o _) F.entry_enumerate_new (Af t xs n c sl) (ho,?_);have e:IsEnum ((s.heap.push (Ae t)).push (GE s⁻¹)) (s⁻¹+1) s⁻¹ 0 .none:=by have:=zzx (s.heap.push (Ae t)) (o:=GE s⁻¹) rfl;rwa [z]at this
 rw[z];exact((_,e,rfl),q _ e (_,zzf _ (zzx _ rfl),rfl,rfl) λb o x=>zzf _ (zzf _ x))
theorem Ag(j:A.handled=none)(it t:ay)(ne:t≠it)(xs:Array ax):Draws prog w A it [it,t] xs.size (λi v=>xs[i]?\v) (λi h=>h.IsTupleIter it t i/\h.IsTuple t xs):=by
 refine(λi h x=>?_,λi h c x k=>?_,λi s Q E d x q=>?_,λs Q E x q=>eD j x.1 x.2 's' q)
 .let((o,e,_),_):=x;exact(o,e)
 .let((o,e,r),L,g,l):=x;exact((o,k it 's' o e,r),L,k t 's' L g,l)
 .refine fZ x.1 x.2 (v:=xs[i]) (by simp[d]) λc J U=>?_;exact q _ c s.toks (by simp[d]) (J,x.2.extBut U.extBut ne) U
theorem Ah(d:A.handled=none)(it t:ay){i:Nat}{xs:Array ax}(g:xs[i]?=none):Draws prog w A it [it,t] 0 (λ_ _=>False) (λ_ h=>h.IsTupleIter it t i/\h.IsTuple t xs):=by
 refine(λj h x=>?_,λj h h' x k=>?_,λj s Q E L _ _=>absurd L (zwY _),λs Q E x q=>eD d x.1 x.2 g q)
 .let((o,e,_),_):=x;exact(o,e)
 .let((o,e,r),J,c,U):=x;exact((o,k it 's' o e,r),J,k t 's' J c,U)
end
def IteT(K:zvu)(a:ay):It :=
 (λi H=>∃c x,SqT K H a c/\c[i]?\x,λi H x d=>∃T y,H T=none/\x=.ref T/\(∀c,SqT K H a c->c[i]?\y)/\d=upd H T (.tup [.int i,y]),λi H=>∃c,SqT K H a c/\c.length<=i)
theorem Ai{o:Obj}{n:String}(d:IsTup h a its)(ho:h.get? b\o)(U:o.cls=.type n)(g:n ≠ "tuple"):a≠b:=by rintro rfl;have(o',e,c,_):=d;rw[ho]at e;cases e;rw[U]at c;cases c;exact g rfl
theorem ye{P:cH}{w:World}{K:zvu}{a4:av cy}(a e it:ay)(a6:e≠it):Turn P w K (.Tuple a4 k tp) (IteT K a) [e,it] e (λi h=>(∃old,IsEnum h e it i old)/\h.IsTupleIter it a i) where
 mem:='s'
 obj:=λi h st b U=>by
  have((old,g),ho):=st;rcases zze.mp U with rfl|U
  .exact(_,g,λv z=>by have z':zeM _=zdC v:=z;cases z')
  .have:b=it:=by simpa using U
   walk;subst this;let(o,l,c,d):=ho;x_go;exact(o,l,λv z=>by rw[d]at z;cases z)
 keep:=λi h h' st k=>by have((old,g),o,l,r):=st;exact((old,k e 's' _ g),o,k it 's' o l,r)
 item:=by
  intro X m N C G i j s σ H E I n st M;walk;subst m N C;let(xs,x,y,Q):=M;let(its,Y,p,hz):=I.tuple y;let(u,hu,ru):=Y.get Q;let((old,g),hit):=st;x_go;have b4:a≠e:=Ai p g rfl 'd';have b5:a≠it:=by let(o,l,c,d):=id hit;exact Ai p l c 'd'
  have W:=WalksT.enumerateD (prog:=X.prog) (w:=X.w) (A:=X.A) (Ag (A:=X.A.in1) (I.ok.hd G) it a b5 its.toArray) e a6 (by simp[a6,Ne.symm b4]) 's';have hi:i<its.toArray.size:=by have:=(zzC.mp hu).1;exact this
  refine W.item i s _ _ hi ((old,g),hit,p) λT vals B tk m hT b3 a5 hk=>?_;walk;let(t,z,a8,rfl):=m;have b2:z=u:=by
   have:its.toArray[i]?\u:=by simpa using hu
   rw[this]at a8;cases a8;rfl
  subst b2;x_go;have ap:=W.apart i T B a5;refine(_,rfl,W.go a4 k tp i T {s with heap:=B,toks:=tk} _ _ a5 λh2 b7 a7=>?_);have(a9,b1,_):=b7;have I2:Inv X j σ (upd H T (.tup [.int i,x])) {s with heap:=h2,toks:=tk}:=by
   refine I.turnedN (ch:=[e,it]) n (λb o U q=>a7 b o U (hk b o U q)) hT (?_,[.int i t,z],.cons (t,rfl) (.cons ru .nil),?_)
   .exact(by show 2<=zaa;decide,.inr (_,_,rfl))
   .let(o,l,r):=b3;exact(o,a7 T o ap l,r)
  refine(.ref T,_,I2,rfl,(T,x,I.hok.fresh hT,rfl,λys hy=>by rw[I.tuple_inj hy y];exact Q,rfl),(a9,b1),λb U=>?_);have fb:=n b U;rw[ar]
  .exact fb.1
  .rintro rfl;exact ap U
 done:=by intro X m N C G i j s σ H E I n st M;walk;subst m N C;let(xs,y,Q):=M;let(its,Y,p,hz):=I.tuple y;let((old,g),hit):=st;x_go;have hl:=Y.length;refine wpAny_pyNext_enum_endD (Ah (A:=X.A.in1) (I.ok.hd G) it a (i:=i) (xs:=its.toArray) (by simp;lia)) g (hit,p) λB b6=>(rfl,?_);exact I.turnedL (t':=s.toks) (ch:=[e,it]) n λb o U q=>b6 b o (λz=>U (by simp[z])) q
 self:=λ_ _ _ _ _ st h=>let ⟨_,g⟩:=st.1;wpAny_pyIter_enum g h
def IZ(K:zvu)(ta:TA):TI:=λg H R=>ta g H λd c=>∃a,d=[.ref a]/\(∃e,SqT K c a e)/\R (IteT K a) c
theorem Do{l:cy}{n:TA}{L:av cy}(v:Gl X "enumerate")(x:X.mg "enumerate" = none)(r:PA X [l] n)(he:SE X l [])(hpl:BA X pos []) :
  PI X (.Tuple L k tp) (.Call (.Name "enumerate" p) [l] [] pos) (IZ X.K n):=by
 intro d s M H R I h;refine Call_ (lG I v x zW (zaC (thn (r pos d s M H _ I h) λus c z=>?_) he hpl));walk;let(vs,o,J,C,B):=z;let(a,e,(xs,y),q):=B;subst e;let(u,rfl,G):=C.one;x_go;cases G;have(its,rv,pl,hz):=J.tuple y;refine Dn pl λh1 m hit w=>?_;refine wpAny_pyIter_enum m ?_;have ne:c⁻¹+1≠c⁻¹:='l'
 refine(_,[c⁻¹+1,c⁻¹],_,IteT X.K a,o,rfl,J.kept (t':=c.toks) w,ye a _ _ ne,((_,m),hit),λb j=>?_,q);rcases zze.mp j with rfl|j
 .exact J.fpOk (zyW _) (J.hok.fresh (zyW _))
 .have:b=c⁻¹:=by simpa using j
  subst this;exact J.fpOk (zzs _) (J.hok.fresh (zzs _))
end Lake
namespace Lake
open PySem PySem.Spec PyProof.Rows
variable{B h h':cx}{E:ax->aM->Prop}{Wb Wo:St->XK}{a ea fa:ay}{a0 cls:ax}{e it0 tg:cy}{e1 e2:Env}{fp:av ay}{k m0:Nat}{mb mg:Str->aT ax}{pos ps:Pos}{s3 s₁:aM}{sc:Scope}{us:av ax}
variable{A:zas}{E:ax->aM->Prop}{s:aM}{env:Env}{X:Cx}{pins:av (ay×Obj)}{scope:Scope}{N':av Str}{js:av (aT Nat)}{elt iter:cy}{pos:Pos}{ifs:av cy}{wi:TI}{gB:Blk->TG}{tcB:Blk->TT}
noncomputable def isK(k:Int):ax->Bool
 |.int a _=>a==k|_=>false
class Bm(mg:Str->Option Value)(base:Heap):Prop where
 out:∃bm ob,mg "__builtins__" = some (.ref bm)/\bm≠zb9/\base.get? bm\ob/\ob.cls=.type "module" /\ ob.dict\zb9/\ob.data=.plain
theorem Aj{P:cH}{w:World}{K:zvu}{Q:CXT}{fd:bo}{x:Str}{sp:Sp}{vs:av ax}{ns:av Int}{tabs:av ay}(KX:K.In s₁.heap)(A:s₁.heap.Ns zaX mg)(J:s₁.heap.Ns zb9 mb)(c4:∀x:Str,x ≠ "__name__" -> mb x=zaG x)(a8:s₁.heap.NoLimit)(c5:Bm mg s₁.heap)(hg:s₁.gens = #[])(j:s₁.heap.get? a=some {cls:=.type "list",data:=.seq vs.toArray})(hi:zaU vs ns)(hl:ns.length<=zaa)(hr:Room k zd7)(y:∀P∈tabs,s₁.heap.get? P\(zdd #[]))(hC:∀P∈tabs,∃c,PySem.W.CodeHd s₁.heap c P)(c2:∀P∈tabs,K.lookup P=none)(F:∀base:cx,K.In base->base.Ns zaX mg->Bm mg base->FnOk P w K mg base Q k fa fd [x] sp)(a6:∀(s:aM)(u:ax),BindsTo s fd ([u],[]) [(x,u)])(c6:∀H:Hp,(∀b,H b=none∨(∃o xs,H b\(.frz o (.lst xs)))∨H b\(.tbl #[]))->(∀P∈tabs,H P\(.tbl #[]))->SqL K H a (ns.map V.int)->sp [.ref a] H (λv _=>v=.bl true) λ_ _ _=>False)(c1:∀H e s',Q [] H s₁ (λ_ _ _=>False) e s'->False) :
  zaZ (model P w) zd7 (.call (.ref fa) ([.ref a],[])) (λr s'=>r=.ok (.ret (.bool true))/\OldK s₁.heap s'.heap/\s'.os=s₁.os/\zcd s'.gens) s₁:=by
 have rv:=zN hi;have b7:=hi.length;have B:a∉tabs:=λz=>by have e:=y a z;rw[j]at e;cases e
 have core:∀H:Hp,(∀b,H b=none∨(∃o xs,H b\(.frz o (.lst xs)))∨(H b\(.tbl #[])/\b∈tabs))->(∀P∈tabs,H P\(.tbl #[]))->SqL K H a (ns.map V.int)->HOk P w H s₁.heap->(∀b,H b≠none->b=a∨b∈tabs)->(H a≠none->K.lookup a=none) ->
   zaZ (model P w) zd7 (.call (.ref fa) ([.ref a],[])) (λr s'=>r=.ok (.ret (.bool true))/\OldK s₁.heap s'.heap/\s'.os=s₁.os/\zcd s'.gens) s₁:=by
  intro H hO c3 hS l hA hK;have L:∀{b:ay}{o:Obj},s₁.heap.get? b\o->H b=none->(hidT s₁.heap H).get? b\o:=λe n=>Ck e n;have b8:∀{b:ay}{o:Obj},s₁.heap.get? b\o->(∀it n,o.data ≠ .seq it n)->(∀vs,o.data ≠ .fields vs)->H b=none:=λ{b o} e d d2=>by
   cases q:H b with
   |none=>rfl|some u =>
    rcases hA b (by rw[q];simp) with i|i
    .subst i;rw[j]at e;cases e;exact absurd rfl (d _ _)
    .rw[y b i]at e;cases e;exact absurd rfl (d2 _)
  have p:∀{b:ay}{m:Str->aT ax},s₁.heap.Ns b m->(hidT s₁.heap H).Ns b m:=λ{b m} ⟨o,es,ep,e,d,r⟩=>(o,es,ep,L e (b8 e (λ_ _ z=>by rw[d]at z;cases z) λ_ z=>by rw[d]at z;cases z),d,r);have Y:K.In (hidT s₁.heap H):=λb o e=>L (KX b o e) (by
   cases q:H b with
   |none=>rfl|some u =>
    rcases hA b (by rw[q];simp) with i|i
    .subst i;rw[hK (by rw[q];simp)]at e;cases e
    .rw[c2 b i]at e;cases e)
  have c0:Bm mg (hidT s₁.heap H):=by let(bm,M,b1,b2,E,b4,b5,G):=c5.out;exact(bm,M,b1,b2,L E (b8 E (λ_ _ z=>by rw[G]at z;cases z) λ_ z=>by rw[G]at z;cases z),b4,b5,G)
  have hM:Mod K mg (hidT s₁.heap H):=(Y,p A,(mb,p J,c4),let ⟨mc,h1,h2⟩:=a8;(mc,p h1,h2));have e0:Env0 P w K mg (hidT s₁.heap H) zd7 [] s₁ H:=(rfl,hM,λb o e=>FJ e,zcU (zm _ _),trivial,λb J=>absurd (show b∈([]:av ay) from J) 's',l,.of_eq hg);refine zyD ((F _ Y (p A) c0).run zd7 [] s₁ H ([.ref a],[]) [.ref a] [.ref a] _ _ hr e0 (a6 s₁ (.ref a)) (.cons rfl .nil) (c6 H (λb=>(hO b).imp id λz=>z.imp id And.left) c3 hS)) λr s' h=>?_;cases r with
  |error e=>exact(c1 H e s' h).elim|ok fl =>
   cases fl with
   |next=>exact False.elim h
   |brk=>exact False.elim h|cont=>exact False.elim h|ret u =>
    let(v,H',os,bare,un,T,r',q):=h;have q':v=.bl true:=q;subst q';obtain rfl:u=za3 true:=r';have key:∀b o,s₁.heap.get? b\o->s'.heap.get? b\o∨(b∈tabs/\∃more,s'.heap.get? b\(zdd more)):=λb o e=>by
     cases q:H b with
     |none=>exact .inl (un.keep b o e q (by intro z;exact absurd (show b∈([]:av ay) from z) 's') 's')|some u =>
      rcases hO b with z|⟨M,xs,z⟩|⟨z,C⟩
      .rw[q]at z;cases z
      .have N:=un.frzs b M _ z;let(e1,_):=l b _ z;let(e2,_):=T b _ N;rw[e]at e1;cases e1;exact .inl e2
      .let(more,N):=un.tbls b _ z;exact .inr (C,_,T b _ N)
    refine(rfl,(λb o e=>?_,λb o e=>?_),os,bare)
    .rcases key b o e with z|⟨C,more,z⟩
     .exact .inl z
     .have e1:=y b C;rw[e]at e1;cases e1;let(c,hc):=hC b C;exact .inr (.inl ((hc.tab e).isCodeTable,rfl,#[],more,rfl,by simpa using z))
    .rcases key b o e with z|⟨_,more,z⟩
     .exact(_,z)
     .exact(_,z)
 have b9:∀b,b∈tabs->∀H:Hp,ObjOk P w H s₁.heap b (.tbl #[]):=λb J H=>y b J;cases I:K.lookup a with
 |some o =>
  have e:=KX a o I;rw[j]at e;cases e;refine core (λb=>if b∈tabs then some (.tbl #[]) else none) (λb=>?_) (λb J=>zzu J) (.inr (_,vs.toArray,_,I,rfl,rfl,rfl,by rw[zzF,b7];exact hl,rv)) (λb u z=>?_) (λb z=>?_) λz=>?_
  .by_cases J:b∈tabs
   .exact .inr (.inr (zzu J,J))
   .exact .inl (zzn J)
  .by_cases J:b∈tabs
   .have g:=(zzu J).symm.trans z;cases g;exact b9 b J _
   .have g:=(zzn J).symm.trans z;cases g
  .by_cases J:b∈tabs
   .exact .inr J
   .exact absurd (zzn J) z
  .exact absurd (zzn B) z
 |none =>
  have ea:∀b,b∈tabs->b≠a:=λb J e=>B (e ▸ J);refine core (λb=>if b=a then some (.frz {cls:=.type "list",data:=.seq vs.toArray} (.lst (ns.map V.int))) else if b∈tabs then some (.tbl #[]) else none) (λb=>?_) (λb J=>by show (if b=a then _ else _)=_;rw[zzn (ea b J),zzu J]) (.inl (.inr ({cls:=.type "list",data:=.seq vs.toArray},zzu rfl))) (λb u z=>?_) (λb z=>?_) λ_=>I
  .show (if b=a then _ else _)=_∨_;by_cases J:b=a
   .exact .inr (.inl (_,_,zzu J))
   .by_cases U:b∈tabs
    .exact .inr (.inr (by rw[zzn J,zzu U],U))
    .exact .inl (by rw[zzn J,zzn U])
  .have g:(if b=a then some (HO.frz {cls:=.type "list",data:=.seq vs.toArray} (.lst (ns.map V.int))) else if b∈tabs then some (.tbl #[]) else none)\u:=z;by_cases J:b=a
   .rw[zzu J]at g;cases g;subst J;exact(j,by rw[zza];exact hl,vs,_,rv,j)
   .rw[zzn J]at g;by_cases U:b∈tabs
    .rw[zzu U]at g;cases g;exact b9 b U _
    .rw[zzn U]at g;cases g
  .by_cases J:b=a
   .exact .inl J
   .by_cases U:b∈tabs
    .exact .inr U
    .exact absurd (show (if b=a then _ else if b∈tabs then _ else _)=_ by rw[zzn J,zzn U]) z
section
variable{M:Model}
def Ak(M:Model)(A:zas)(E:ax->aM->Prop)(use:ax->Sem Unit)(Q:ax->aM->Prop)(acc:ax)(J:Env)(r:zcv)(z:aM):Prop :=
 match r with
 |.ok _=>wpAny M A (use acc) (λ_ L=>∃m,L.heap.Ns J.locals m/\∀b,zam J.locals L.heap b->Q .none {L with heap:=b}) E z
 | .error x=>∃m,z.heap.Ns J.locals m/\∀b,zam J.locals z.heap b->wpAny M A (passOn "comprehension.variables-let-go" x J:Sem ax) (λ_ _=>False) E {z with heap:=b}
theorem uT{nw first:Sem ax}{g:zcf}{w:av zcf}{cl:av (Str×ay)}{use:ax->Sem Unit}{Q:ax->aM->Prop}(C:clausesOf e=g::w)(G:∀v,zaw g.iter env v=pure v)(H:zdQ sc env=pure cl)(j:sc.kind=.function)(I:∀y∈sc.names,y.2=.local->sc.names.lookup y.1\.local)(h:wpAny M A first (λv n=>wpAny M A (zdx v) (λl o=>wpAny M A nw (λacc p=>wpAny M A (zbn sc env.globals cl [] env.qual none .none (some env)) (λJ u =>
   zaZ M A (.compStart e 0 l acc {J with scope:=za6 sc env}) (Ak M A E use Q acc {J with scope:=za6 sc env}) u) E p) E o) E n) E s) :
  wpAny M A (zci e sc env pos nw false first (some use)) Q E s:=by
 unfold zci;rw[H,C];refine zzb (thn h λv n N=>?_);refine zzb (zxl (zzb (zdi (G v) ?_)));refine zzb (zzQ (thn N λl o T=>?_));refine wpAny_standIf (zzb (thn T λacc p Y=>?_));refine zzb (zzr (zzb (thn Y λJ u a=>?_)));have U:∀y∈(sc.names.filter λy=>(y.2==.local || y.2==.cell) && y.1 != (".0" : Str)),y.2=.local->Env.kindOf {J with scope:=za6 sc env} y.1\.local :=
  λy c b=>zc3 (I y (zzM.mp c).1 b)
 refine zzQ (zzb (zwg (zzQ (wpAny_run (zyD a λr z q=>?_)))));cases r with
 |ok f =>
  refine zzb (zwB (zzb (zzQ (thn q λ_ k i=>?_))));let(m,d,i):=i;refine zzb (zwP (cenv:={J with scope:=za6 sc env}) j _ k m (λy c b=>?_) d λh' _ _ L=>zzr (i h' L));rcases zzg.mp c with z|z
  .exact U y (zwc.mp (zc5 z)) b
  .exact U y (zwc.mp (zcY z)) b
 |error x =>
  let(m,d,q):=q;refine zzb (zzQ (zwP (cenv:={J with scope:=za6 sc env}) j _ z m (λy c b=>U y (zwc.mp c) b) d λh' _ _ L=>?_));exact zyg (q h' L) (λ_ _ z=>z.elim) λ_ _ z=>z
end
section
variable{σ:St}{H:Hp}{s':aM}{B:cx}{W:St->XK}{e:ax}
theorem yf(h:XFl (X.wish E) W e s'):XFl X W e s' :=
 let ⟨ea,C,dd,B,σ,H,a0,a,b,c,d,f⟩:=h
 (ea,C,dd,B,σ,H,a0,a,b,(c.old,c.trk,c.pin),d.unwish,f)
theorem GF{f:ay}{fd:bo}{ps:av Str}{sp:Sp}{b:av V}{ds:av ax}{Q:VK}{vs:av V}(F:FnOk X.prog X.w X.K X.mg X.base (CXE X.prog X.w) k f fd ps sp)(g:Room k X.A)(c:Binds X.K fd ps ds)(hd:Vals b ds)(i:∀e s',XFl X W e s'->X.xe e s')(I:Inv X pins σ H s)(r:Vals vs us)(h:sp (vs++b) H Q (W σ)):wX X (call (.ref f) us) (EP X pins σ Q) X.xe s:=by
 have L:Vals (vs++b) (us++ds):=r.append hd;have d:(us++ds).length=ps.length:=by rw[<-L.length];exact F.len _ _ _ _ h
 refine zxY (zyD (F.run X.A X.stack s H (us,[]) (us++ds) (vs++b) Q (W σ) g I.env0 (c s us I.kIn d) L h) λr s' J=>?_);cases r with
 |error e=>exact i e s' (wz I J λ_ _ _ q=>q)
 |ok U =>
  cases U with
  |ret u=>exact I.after J|next=>exact False.elim J|brk=>exact False.elim J|cont=>exact False.elim J
end
theorem sK{x:ax}(h:e1.frame=e2.frame):zcc x e1=zcc x e2:=by unfold zcc zdH;rw[h]
theorem iQ{h h' B B':cx}{C:ay}(U:zam C h h')(J:∀b,B.get? b=none->B'.get? b=none):∀{l:av Env},h.FunFrames B l->(∀env∈l,∀L,env.frame\L->L≠C)->h'.FunFrames B' l
 |[],_,_=>trivial|env::r,(a,(L,o,e1,e2,d,g),b),c=>(a,(L,o,e1,J _ e2,by rw[U.2 L (c env zzd L e1)];exact d,g),iQ U J b λenv i=>c env (zzc _ i))
theorem Dp{C:ay}{l:av Env}{m:Str->aT ax}(g:zam C h h')(s:h.Ns C m)(a:zbe B l ea cls a0 fa h)(k:∀env∈l,∀fa,env.frame\fa->fa≠C) :
  zbe (zaq B [C]) l ea cls a0 fa h'/\ea≠C:=by
 walk;let(on,es,ep,H,y,_):=s;have p:∀b o c,h.get? b\o->o.data=.fields c->b≠C:=λb o c e d z=>by subst z;rw[H]at e;cases e;rw[y]at d;cases d
 have sub:∀b o,(zaq B [C]).get? b\o->B.get? b\o:=λb o e=>zxI _ e;have J:∀b,B.get? b=none->(zaq B [C]).get? b=none:=λb e=>by
  cases q:(zaq B [C]).get? b with
  |none=>rfl|some o=>rw[sub b o q]at e;cases e
 let(f1,f2,M,u,c,T,r,v,j,Y,hd,N,G,x,i,L,Q):=a;x_go;have U:=p ea u c j hd;have I:=p T r v i L;refine((λb o e=>?_,J _ f2,iQ g J M k,u,c,T,r,v,by rw[g.2 ea U];exact j,Y,hd,N,J _ G,x,by rw[g.2 T I];exact i,L,Q),U);have A:b≠C:=λz=>by subst z;rw[zwS [b] (zzt.mpr rfl)]at e;cases e
 rw[g.2 b A];exact f1 b o (sub b o e)
section
variable{σ:St}{H:Hp}{cl:av (Str×ay)}
variable{g:TG}{tc:TT}{te:TE}{Q:VK}
def Ho(X:Cx)(W:St->XK):Prop:=(X.stack=X.env::X.outer/\X.env.frame\X.env.locals/\∀e b,XF X W e b->X.xe e b)∨∀σ C d H,¬W σ C d H
theorem Al{cT:av (Str×ay)}{I:Hp}{W:St->XK}{use:ax->Sem Unit}{QQ:ax->aM->Prop}{acc:ax}(ho:Ho X W)(hW:∀g C dd c,Wb g C dd c->W σ C dd c)(l:Inv X pins σ I s3)(f3:∀b∈fp,FpOk X pins I b)(h:XFl (lP X scope cT s3⁻¹ N' s3 I fp pins) Wb cls s₁) :
  notedBy (model X.prog X.w) X.A (zbR scope cT s3⁻¹ X.env) (λv z=>Ak (model X.prog X.w) X.A X.xe use QQ acc (zbR scope cT s3⁻¹ X.env) (.error v) z) cls s₁:=by
 let(ea,C,dd,B,g,c,a0,rfl,(fl,d),Q,G,w):=h;obtain⟨H,hf,hx⟩|no:=ho
 case inr=>exact(no _ _ _ _ (hW _ _ _ _ w)).elim
 have i:FpOk X pins I s3⁻¹:=l.fpOk (zzs _) (l.hok.fresh (zzs _));have u:Un (frs X.stack) fp I c s3.heap s₁.heap:=G.base;have free:c s3⁻¹=none:=G.free;have M:Inv X pins σ c s₁:=by
  refine l.call' (s':=s₁) (ch:=s3⁻¹::fp) G.os (u.mono (λ_ h=>h) λb h=>zzc _ h) G.hok G.bare (λb x=>?_);rcases zze.mp x with rfl|x
  .exact(i.2.2.2.1,i.2.1,i.2.2.2.2.1,i.2.2.2.2.2)
  .have:=f3 b x;exact(this.2.2.2.1,this.2.1,this.2.2.2.2.1,this.2.2.2.2.2)
 have J:Cry X c B:=(λb o e x E=>by
  let(j,r):=l.base.there b o e E;refine Q.old b j r (λz=>?_) λz=>?_
  .have z:b∈frs X.stack:=z;exact l.offstack (l.oldNe e) x z
  .rcases (f3 b z).2.2.2.1 with k|k
   .exact E k
   .exact absurd (zzA (zzy e) k) (zyu _),Q.trk,λp y=>Q.pin p (zzT _ y))
 unfold notedBy;rw[sK (e1:=zbR scope cT s3⁻¹ X.env) (e2:=X.env) rfl];have b2:X.A.frames\(X.env::X.outer):=by rw[<-H];exact l.ok.frames
 have a9:zbT B (X.env::X.outer) ea (.ref C) a0 s₁.heap:=by rw[<-H];exact fl
 refine bB dn d (qk b2 hf (.inl (a0,a9)) λh1 a1 hh u1 d1=>?_);let(m,hm,_):=G.loc;refine(m,u1.ns hm,λh2 Y=>?_);have Y:zam s3⁻¹ h1 h2:=Y;have nl:∀env∈X.env::X.outer,∀L,env.frame\L->L≠s3⁻¹:=λenv he L e z=>by
  have:L∈frs X.stack:=by rw[H];exact zxK.mpr (env,he,e)
  rcases zze.mp (l.stkSub L this) with k|k
  .exact i.2.1 (by rw[<-z];exact k)
  .exact i.2.2.1 (by rw[<-z];exact k)
 have b3:h1.Ns s3⁻¹ m:=u1.ns hm;let(s,ne):=Dp Y b3 hh nl;have a6:Cry X c (zaq B [s3⁻¹]):=by
  have kp:∀b o,B.get? b\o->b≠s3⁻¹->(zaq B [s3⁻¹]).get? b\o:=λb o e n=>zwi _ e (by simpa using n);refine(λb o e x E=>?_,λb o e=>?_,λp y=>?_)
  .let(j,r):=J.old b o e x E;exact(j,kp b j r λz=>absurd (zzA (zzy e) l.sz) (by rw[z];exact zyu _))
  .let(j,r):=J.trk b o e;exact(j,kp b j r λz=>by rw[z,free]at e;cases e)
  .let(j,r):=J.pin p y;exact(j,kp _ j r (i.2.2.2.2.2 p (zzT _ y)))
 have I1:Inv X [] σ c {s₁ with heap:=h1}:=M.nopin.fly J fl.1 hh.1 u1;have fC:FpOk X [] c s3⁻¹:=(free,i.2.1,i.2.2.1,i.2.2.2.1,i.2.2.2.2.1,λp y=>i.2.2.2.2.2 p (by rw[zzB]at y;exact zzT _ y));have I2:Inv X [] σ c {s₁ with heap:=h2}:=I1.but fC Y;have d2:DictAt ea dd h2:=by let(o,e1,e2):=d1;exact(o,by rw[Y.2 ea ne];exact e1,e2)
 let(f1,f2,a8,oe,vs,T,oT,ts,he,hcls,hd,b1,hnT,hTe,hT,hdT,h3):=id s;unfold PySem.passOn;refine zzb (zyQ he hd b1 ?_);rw[zzn (show ¬((zac T==zaI)=true) from by simp),show (zbR scope cT s3⁻¹ X.env).frame\X.env.locals from hf];have fin:∀q,zbe (zaq B [s3⁻¹]) (X.env::X.outer) ea (.ref C) a1 X.env.locals q->h2.UpToSlots q->DictAt ea dd q->X.xe (.ref ea) {s₁ with heap:=q}:=λq U a N =>
  hx _ _ (ea,C,dd,_,σ,c,rfl,(.inr (.inl (a1,by rw[H];exact U)),N),a6,I2.fly a6 s.1 U.1 a,hW _ _ _ _ w)
 first
  |exact zzb (zzr (zzb (bB bv d2 (bX f1 f2 a8 s.2.2.2 λq U a N=>zwI (fin q U a N)))))
  |exact zzb (bB bv d2 (bX f1 f2 a8 s.2.2.2 λq U a N=>zwI (fin q U a N)))
theorem yg{prog:cH}{w:World}{A:zas}{R:zcv->aM->Prop}{cs:av cy}{cenv:Env}{z:aM}(J:Nat->aM->Prop)(Er:ax->aM->Prop)(herr:∀v L,Er v L->notedBy (model prog w) A cenv (λv z=>R (.error v) z) v L)(turn:∀k z,J k z->wM prog w A (zeW cls) (λr U=>match r with
   |none=>R (.ok .next) U| some u=>wM prog w A (zbL tg cls u) (λ_ l=>wM prog w A (zds tg cenv u) (λ_ n =>
     wM prog w A (forIn cs true λc r=>if r=true then do let ok <-isTrue c cenv (eval c cenv);pure (zbJ ok) else pure (zbJ r)) (λb d =>
      if b=true then wM prog w A (eval e cenv) (λy L =>
       wM prog w A (call (.builtin "list.append") [a0,y]) (λ_ o=>∃m,m<k/\J m o) (λ_ _=>False) L) Er d
      else ∃m,m<k/\J m d) (λ_ _=>False) n) (λ_ _=>False) l) (λ_ _=>False) U) (λ_ _=>False) z)(k:Nat)(h:J k z):zaZ (model prog w) A (.compLoop (.ListComp e [(tg,it0,cs,0)] sc ps) 0 cls a0 cenv) R z:=by
 have no:∀{p:Type}{m:Sem p}{P:p->aM->Prop}{E:ax->aM->Prop}{z:aM},wM prog w A m P (λ_ _=>False) z->wM prog w A m P E z:=λh=>zyg h (λ_ _ q=>q) λ_ _ q=>q.elim;refine codeAny_loop rfl J (λk z x=>?_) k h;refine wpAny_noted ?_;refine zzb (zxl (zzb (no (thn (turn k z x) λr U i=>?_))));cases r with
 |none=>exact zzr i|some u =>
  refine zzb (no (thn i λ_ l C=>zzb (no (thn C λ_ n G=>zzb (no (thn G λb d j=>?_))))));cases b with
  |false=>exact zzr (rfl,j)|true=>exact zzb (zzb (zyg j (λy L I=>zzb (no (thn I λ_ o M=>zzr (zzr (rfl,M))))) herr))
theorem uU{RR:ax->Env->zcv->aM->Prop}{s3:aM}{j:Hp}{tn:Nat->cx->Prop}{J:It}{W:Nat->Nat->St->Hp->Prop}{t':Nat}(hc:X.calm=true)(b2:dz X.env.cells scope.names []\cl)(b3:∀y∈scope.names,y.2=.free->(y.1,zan)∉scope.names)(a8:scope.kind=.function)(cap:Cap X scope N' js)(L:PG (cxN X scope cl N' s3 j fp pins) tg g/\PTs (cxN X scope cl N' s3 j fp pins) ifs tc/\PE ((cxN X scope cl N' s3 j fp pins).wish (XFl (cxN X scope cl N' s3 j fp pins) Wb)) elt te)(hE:∀v z5,XFl (cxN X scope cl N' s3 j fp pins) Wb v z5->notedBy (model X.prog X.w) X.A (ceN X scope cl s3) (λv z=>RR (.ref fa) (ceN X scope cl s3) (.error v) z) v z5)(s:Inv X pins σ j s3)(T:Turn X.prog X.w X.K tg J fp a tn)(b5:tn 0 s3.heap)(H:∀b∈fp,FpOk X pins j b)(w0:W 0 m0 (sub js σ) j)(turn:∀i m l H',W i m l H'->(J.stop i H'/\Q (.ref fa) H')∨(J.go i H'/\∃N:St->Hp->Prop,(∀b8 I,N b8 I->∃m',m'<m/\W (i+1) m' b8 I)/\∀y I,J.yld i H' y I->g y l I λB j=>tc B j λb x =>
   if b=true then te B x λv H5=>∃G,H5 fa\(.lst G)/\G.length<zaa/\N B (upd H5 fa (.lst (G++[v]))) else N B x))(c5:h'.Ns s3⁻¹ (λ_=>none))(hk:∀b o,s3.heap.get? b\o->h'.get? b\o)(c2:CellsOk h' (s3⁻¹+1) (zaB (s3⁻¹+1) scope.names []))(hR:∀s' H' m,Inv X pins σ H' s'->FpOk X pins H' s3⁻¹->s'.heap.Ns s3⁻¹ m->Q (.ref fa) H'->RR (.ref fa) (ceN X scope cl s3) (.ok .next) s') :
  zaZ (model X.prog X.w) X.A (.compStart (.ListComp elt [(tg,iter,ifs,0)] scope pos) 0 (.ref a) (.ref fa) (ceN X scope cl s3)) (RR (.ref fa) (ceN X scope cl s3)) {s3 with heap:=h',toks:=t' }:=by
 have b4:∀b∈fp,∃o,s3.heap.get? b\o:=λb L=>let ⟨o,e,_⟩:=T.obj _ _ b5 b L;(o,e)
 have I0:Inv (cxN X scope cl N' s3 j fp pins) [] (sub js σ) j {s3 with heap:=h',toks:=t' }:=CJ s b2 b3 a8 cap H b4 c5 hk c2;have b7:tn 0 h':=T.keep _ _ _ b5 λb _ o e=>hk b o e;have k:FpOk X pins j s3⁻¹:=s.fpOk (zzs _) (s.hok.fresh (zzs _));let(bg,bt,be):=L;have a4:∀{H':Hp},(∀b∈fp,H' b=none)->∀b∈fp,FpOk (cxN X scope cl N' s3 j fp pins) [] H' b:=λ{H'} hn b L=>by let(o,e):=b4 b L;refine(hn b L,zzH (zzy e),I0.ok.exfs b L,.inl L,λy c h=>(I0.ok.exf b L).2 y c h,λp hp=>?_);exact(H b L).2.2.2.2.2 p (by simpa[lP]using hp)
 have a7:zaZ (model X.prog X.w) X.A (.compLoop (.ListComp elt [(tg,iter,ifs,0)] scope pos) 0 (.ref a) (.ref fa) (ceN X scope cl s3)) (RR (.ref fa) (ceN X scope cl s3)) {s3 with heap:=h',toks:=t' }:=by
  refine yg (Er:=XFl (cxN X scope cl N' s3 j fp pins) Wb) (herr:=hE) (λn s'=>∃i l H',Inv (cxN X scope cl N' s3 j fp pins) [] l H' s'/\tn i s'.heap/\(∀b∈fp,H' b=none)/\W i n l H') (λn s4 hJ=>?_) m0 (0,sub js σ,j,I0,b7,λb L=>(H b L).1,w0);let(i,E,x,I4,b6,b1,w4):=hJ;rcases turn i n E x w4 with ⟨stop,q⟩|⟨go,N,hN,step⟩
  .refine thn (T.done (cxN X scope cl N' s3 j fp pins) rfl rfl rfl hc i [] s4 E x _ I4 (a4 b1) b6 stop) λr s5 q=>?_;let(rfl,C):=q;have u:Un (frs X.stack) fp j x s3.heap s5.heap:=C.base;have free:x s3⁻¹=none:=C.free;have Y:Inv X pins σ x s5:=by
    refine s.call' (s':=s5) (ch:=s3⁻¹::fp) C.os (u.mono (λ_ h=>h) λb h=>zzc _ h) C.hok C.bare (λb L=>?_);rcases zze.mp L with rfl|L
    .exact(k.2.2.2.1,k.2.1,k.2.2.2.2.1,k.2.2.2.2.2)
    .have:=H b L;exact(this.2.2.2.1,this.2.1,this.2.2.2.2.1,this.2.2.2.2.2)
   let(m,hm,_):=C.loc;exact hR s5 x m Y (free,k.2) hm q
  .refine thnG (T.item (cxN X scope cl N' s3 j fp pins) rfl rfl rfl hc i [] s4 E x _ I4 (a4 b1) b6 go) λr s5 u hr h5=>?_;subst hr;refine thn h5 λ_ s6 q0=>?_;let(y,H6,I6,r6,y6,a9,c4):=q0;have c0:=I6.pinned (a4 c4) (T.obj _ _ a9);refine thnF (bg _ s6 E H6 y u _ c0 r6 (step y H6 y6)) λ_ s7 U H7 I7 q7=>?_;refine thnG (bt _ s7 U H7 _ I7 q7) λb s8 H8 I8 q8=>?_;have again:∀{H':Hp}{s':aM},Inv (cxN X scope cl N' s3 j fp pins) ([]++rR fp s6.heap) U H' s'->N U H'->∃m,m<n/\∃i l H',Inv (cxN X scope cl N' s3 j fp pins) [] l H' s'/\tn i s'.heap/\(∀b∈fp,H' b=none)/\W i m l H':=λ{H' s'} M n9=>by
    let(m',hm,w9):=hN U H' n9;refine(m',hm,i+1,U,H',M.unpinned,T.keep _ _ _ a9 λb L o e=>(M.pin (b,o) (zzN _ (zzN _ (gw L e)))).1,λb L=>?_,w9);let(o,e,d):=T.obj _ _ a9 b L;exact(M.pin (b,o) (zzN _ (zzN _ (gw L e)))).2.1
   cases b with
   |false=>exact iteF (again I8 q8)|true =>
    refine iteT (thn (be _ s8 U H8 _ (I8.wish _) q8) λyv s9 q0=>?_);let(v9,H9,c1,r9,G,hD,hl,n9):=q0;have M:=c1.unwish;exact thnE (iJ _ s9 U H9 (.ref fa) [v9] (.ref fa) [yv] (λ_ H'=>H'=upd H9 fa (.lst (G++[v9]))) M rfl (.cons r9 .nil) (fa,G,v9,rfl,rfl,hD,hl,rfl)) λ_ s10 _ H10 b9 _ c3=>by subst c3;exact again b9 n9
 exact codeAny_compStart_list a7 (T.self _ 0 _ _ _ b7 a7)
def Am(X:Cx)(scope:Scope)(cl:av (Str×ay))(N':av Str)(elt:cy)(Wo:St->XK)(wi:TI)(js:av (aT Nat))(g:Blk->TG)(tc:Blk->TT):TE:=λσ H Q=>wi σ H λJ n=>∀(B:Blk)D,n D=none ->
 ∃(Wb:St->XK)(te:TE),PE ((cxB X scope cl N' B).wish (XFl (cxB X scope cl N' B) Wb)) elt te/\(∀c C q d,Wb c C q d->Wo σ C q d)/\∃W:Nat->Nat->St->Hp->Prop,(∃m,W 0 m (sub js σ) (upd n D (.lst [])))/\∀i m c d,W i m c d ->
 (J.stop i d/\Q (.ref D) d)∨(J.go i d/\∃N:St->Hp->Prop,(∀U j,N U j->∃r,r<m/\W (i+1) r U j)/\∀y j,J.yld i d y j->g B y c j λL u=>tc B L u λb o =>
  if b=true then te L o λv p=>∃l,p D\(.lst l)/\l.length<zaa/\N L (upd p D (.lst (l++[v]))) else N L o)
theorem sL{RR:ax->Env->zcv->aM->Prop}(hc:X.calm=true)(a7:dz X.env.cells scope.names []\cl)(a8:∀y∈scope.names,y.2=.free->(y.1,zan)∉scope.names)(a4:scope.kind=.function)(cap:Cap X scope N' js)(hi:PI X tg iter wi)(q:∀(B:Blk),PG (cxB X scope cl N' B) tg (gB B)/\PTs (cxB X scope cl N' B) ifs (tcB B))(I:Inv X pins σ H s)(h:Am X scope cl N' elt Wo wi js gB tcB σ H Q)(hE:∀(cT:av (Str×ay))(s3:aM)(u:Hp)(fp:av ay)(Wb:St->XK)(D:ay)(v:ax)(r:aM),Inv X pins σ u s3->(∀b∈fp,FpOk X pins u b)->(∀G C dd j,Wb G C dd j->Wo σ C dd j)->XFl (lP X scope cT s3⁻¹ N' s3 u fp pins) Wb v r ->
   notedBy (model X.prog X.w) X.A (zbR scope cT s3⁻¹ X.env) (λv z=>RR (.ref D) (zbR scope cT s3⁻¹ X.env) (.error v) z) v r)(hR:∀D n s' j m,Inv X pins σ j s'->FpOk X pins j n.locals->s'.heap.Ns n.locals m->Q (.ref D) j->RR (.ref D) n (.ok .next) s') :
  wX X (eval iter X.env) (λv s1=>wX X (zdx v) (λE i=>wX X (newList []) (λacc s3 =>
   wX X (zbn scope X.env.globals cl [] X.env.qual none .none (some X.env)) (λn s4 =>
    zaZ (model X.prog X.w) X.A (.compStart (.ListComp elt [(tg,iter,ifs,0)] scope pos) 0 E acc {n with scope:=za6 scope X.env}) (RR acc {n with scope:=za6 scope X.env}) s4) X.xe s3) X.xe i) X.xe s1) X.xe s:=by
 refine thn (hi pins s σ H _ I h) λv s1 h1=>thn h1 λitv i x=>?_;walk;let(E,fp,tn,J,l,e,M,T,g,f2,x):=x;subst e;have b1:l i⁻¹=none:=M.hok.fresh (zzs _);let(Wb,te,pe,b2,W,(m0,w0),p):=x ((i.heap.push {cls:=.type "list",data:=.seq ([]:av ax).toArray}).objs.size,{i with heap:=i.heap.push {cls:=.type "list",data:=.seq ([]:av ax).toArray} },upd l i⁻¹ (.lst []),fp,pins) i⁻¹ b1;x_go;refine zxx (kQ (λh₁ U a5 L=>?_));have N:Inv X pins σ (upd l i⁻¹ (.lst [])) {i with heap:=i.heap.push {cls:=.type "list",data:=.seq ([]:av ax).toArray} }:=M.lnew .nil (zyh _);have Y:=q ((i.heap.push {cls:=.type "list",data:=.seq ([]:av ax).toArray}).objs.size,{i with heap:=i.heap.push {cls:=.type "list",data:=.seq ([]:av ax).toArray} },upd l i⁻¹ (.lst []),fp,pins);have k:∀b∈fp,FpOk X pins (upd l i⁻¹ (.lst [])) b:=λb q=>by have:=f2 b q;let(o,e,_):=T.obj _ _ g b q;exact(by show upd l i⁻¹ (.lst []) b=none;rw[ar (zzH (zzy e))];exact this.1,this.2)
 refine uU (s3:={i with heap:=i.heap.push {cls:=.type "list",data:=.seq ([]:av ax).toArray} }) (cl:=cl) (fp:=fp) hc a7 a8 a4 cap (Y.1,Y.2,pe) (λv r hv=>hE _ _ _ _ _ _ v r N k b2 hv) N T ?_ k w0 p U a5 L (λs' j m a b c d=>hR _ (zbR scope (zaB ((i.heap.push {cls:=.type "list",data:=.seq ([]:av ax).toArray}).objs.size+1) scope.names cl) (i.heap.push {cls:=.type "list",data:=.seq ([]:av ax).toArray}).objs.size X.env) s' j m a b c d);exact T.keep _ _ _ g λb _ o e=>zzf _ e
theorem wD{i:Nat}{y:Str}{n:Pos}(ho:Ho X Wo)(hN:X.N.Nodup)(hy:X.N[i]?\y)(o:X.env.scope.names.lookup y\.local)(hc:X.calm=true)(U:dz X.env.cells scope.names []\cl)(C:∀y∈scope.names,y.2=.free->(y.1,zan)∉scope.names)(J:scope.kind=.function)(cap:Cap X scope N' js)(L:∀y∈scope.names,y.2=.local->scope.names.lookup y.1\.local)(hi:PI X tg iter wi)(hb:∀B:Blk,PG (cxB X scope cl N' B) tg (gB B)/\PTs (cxB X scope cl N' B) ifs (tcB B))(k:zap (.ListComp elt [(tg,iter,ifs,0)] scope pos) (some (.Name y ps)) n.line X.env=pure true)(Y:∀v,zaw iter X.env v=pure v):PS X (.Assign [.Name y ps] (.ListComp elt [(tg,iter,ifs,0)] scope pos) n) (tAsg (Am X scope cl N' elt Wo wi js gB tcB) (pU i)):=by
 intro pins s σ H D I h;rw[exec_Assign_Name_used _ _ _ _ k];refine zzb (zxl (zzb ?_));refine zzb (thn (uT (use:=zds (.Name y ps) X.env) (Q:=λ_ b=>SP X pins D .next b) rfl Y (iL U) J L
  (sL (RR:=λc d=>Ak (model X.prog X.w) X.A X.xe (zds (.Name y ps) X.env) (λ_ b=>SP X pins D .next b) c d) hc U C J cap hi hb I h (λcells s3 H3 fp Wb l v z5 x E M hv=>Al ho M x E hv) ?_)) λ_ b q=>zzr (zzr q))
 intro l d b p m r f hm q;refine wpAny_assign_Name (rN r hN hy (.inl o) (v:=.ref l) rfl (λs2 u T=>?_) (.inr o));let(a,g,j):=T;have G:d.locals≠a:=by
  rcases j with rfl|j
  .exact f.2.1
  .exact λz=>f.2.2.2.2.1 y a j z.symm
 refine(m,hm.sameBut g G,λh' e=>(_,p,u.but f e,q))
end
section
variable{M:Model}
def An(M:Model)(A:zas)(E:ax->aM->Prop)(Q:ax->aM->Prop)(acc:ax)(J:Env)(r:zcv)(z:aM):Prop :=
 match r with
 |.ok _=>∃m,z.heap.Ns J.locals m/\∀b,zam J.locals z.heap b->Q acc {z with heap:=b}| .error x=>∃m,z.heap.Ns J.locals m/\∀b,zam J.locals z.heap b->wpAny M A (passOn "comprehension.variables-let-go" x J:Sem ax) (λ_ _=>False) E {z with heap:=b}
theorem uV{nw first:Sem ax}{g:zcf}{u:av zcf}{cl:av (Str×ay)}{Q:ax->aM->Prop}(w:clausesOf e=g::u)(C:∀v,zaw g.iter env v=pure v)(G:zdQ sc env=pure cl)(U:sc.kind=.function)(H:∀y∈sc.names,y.2=.local->sc.names.lookup y.1\.local)(h:wpAny M A first (λv l=>wpAny M A (zdx v) (λi n=>wpAny M A nw (λacc o=>wpAny M A (zbn sc env.globals cl [] env.qual none .none (some env)) (λJ p =>
   zaZ M A (.compStart e 0 i acc {J with scope:=za6 sc env}) (An M A E Q acc {J with scope:=za6 sc env}) p) E o) E n) E l) E s) :
  wpAny M A (zci e sc env pos nw false first none) Q E s:=by
 unfold zci;rw[G,w];refine zzb (thn h λv l I=>?_);refine zzb (zxl (zzb (zdi (C v) ?_)));refine zzb (zzQ (thn I λi n N=>?_));refine zzb (thn N λacc o T=>?_);refine zzb (zzr (zzb (thn T λJ p Y=>?_)));have j:∀y∈(sc.names.filter λy=>(y.2==.local || y.2==.cell) && y.1 != (".0" : Str)),y.2=.local->Env.kindOf {J with scope:=za6 sc env} y.1\.local :=
  λy c b=>zc3 (H y (zzM.mp c).1 b)
 refine zzQ (zzb (zwg (zzQ (wpAny_run (zyD Y λr z q=>?_)))));cases r with
 |ok f =>
  let(m,d,q):=q;exact zzb (zzQ (zwP (cenv:={J with scope:=za6 sc env}) U _ z m (λy c b=>j y (zwc.mp c) b) d λh' _ _ L=>zzr (q h' L)))
 |error x =>
  let(m,d,q):=q;refine zzb (zzQ (zwP (cenv:={J with scope:=za6 sc env}) U _ z m (λy c b=>j y (zwc.mp c) b) d λh' _ _ L=>?_));exact zyg (q h' L) (λ_ _ z=>z.elim) λ_ _ z=>z
end
section
variable{cl:av (Str×ay)}
theorem wE(ho:Ho X Wo)(u:X.calm=true)(U:dz X.env.cells scope.names []\cl)(j:∀y∈scope.names,y.2=.free->(zak y.1 zan)∉scope.names)(J:scope.kind=.function)(cap:Cap X scope N' js)(L:∀y∈scope.names,y.2=.local->scope.names.lookup y.1\.local)(hi:PI X tg iter wi)(r:∀B:Blk,PG (cxB X scope cl N' B) tg (gB B)/\PTs (cxB X scope cl N' B) ifs (tcB B))(n:∀v,zaw iter X.env v=pure v):PE X (.ListComp elt [(tg,iter,ifs,0)] scope pos) (Am X scope cl N' elt Wo wi js gB tcB):=by
 intro pins s C H Q I h;refine uV rfl n (iL U) J L
  (sL (RR:=λacc c=>An (model X.prog X.w) X.A X.xe (EP X pins C Q) acc c) u U j J cap hi r I h (λcells s3 H3 fp Wb b v z5 i p l z=>Al (use:=λ_=>pure ()) (QQ:=λ_ _=>True) (acc:=.none) ho l i p z) ?_)
 intro b c s' d m g f x q;exact(m,x,λh' o=>(.ref b,d,g.but f o,rfl,q))
end
end Lake
namespace TS
open PySem PyProof.Rows
noncomputable def mlo:Array Keyed->Array Keyed->StateT SortSt Sem (Array Keyed):=sortPriv% PySem.Builtin.mergeLo
section
variable{r:Keyed->Nat}
abbrev Up(r:Keyed->Nat)(l:av Keyed):Prop:=l.Pairwise λx y=>r x<=r y
def Gd(r:Keyed->Nat)(T l:av Keyed):Prop:=l.Perm T/\Up r l
noncomputable abbrev ap(st:SortSt)(arr:Array Keyed)(p:Array (Nat×Nat×Nat))(g:Nat):SortSt:=SortSt.mk' (kindOf st) arr p g (failedOf st)
noncomputable def rk(r:Keyed->Nat)(arr:Array Keyed)(i:Nat):Nat:=(arr[i]?.map r).getD 0
end
end TS
namespace Lake
open PySem PySem.Spec PyProof.Rows PySem.W
variable{k1 k2:av Key}{v1 v2:ax}
theorem wF(a b:Int)(r c:av Key):lexI (.inl a::r) (.inl b::c)=if a=b then lexI r c else decide (a<b):=rfl
theorem Ao:∀k:av Key,lexI k k=false
 |[]=>rfl|.inl a::r=>by rw[wF,zzu rfl];exact Ao r
 |.inr a::r=>rfl
theorem Dq{prog:cH}{w:World}:∀{k:av Key}{xs:av ax},Paired isI k xs->ItemsAre (cG prog w) k xs:=by
 intro k xs h
 induction h with
 |nil=>exact .nil|cons h r J =>
  let(i,t,rfl,rfl):=h;exact .cons (lF prog w i t) J
theorem TupI.key{prog:cH}{w:World}{h:cx}{k:av Key}{v:ax}(t:TupI h k v):∃a,v=.ref a/\IsTupleKey (cG prog w) h k a:=by have(a,o,b,n,rfl,e,c,d,p):=t;exact(a,rfl,o,b,n,e,c,d,Dq p)
theorem uW:∀{k:av Key}{xs:av ax},Paired isI k xs->∃ns:av Int,k=ns.map .inl/\zaU xs ns
 |_,_,.nil=>([],rfl,.nil)|_,_,.cons h r=>by let(i,t,rfl,rfl):=h;let(ns,rfl,a):=uW r;exact(i::ns,rfl,.cons i t a)
theorem wG:∀ns ms:av Int,HT.lexLt ns ms=lexI (ns.map .inl) (ms.map .inl)
 |[],[]=>HT.lexLt_nil_nil|[],_::_=>HT.lexLt_nil_cons ..|_::_,[]=>HT.lexLt_cons_nil ..|a::r,b::t=>by rw[HT.lexLt_cons,zzq,zzq,wF,wG r t]
section
variable{prog:cH}{w:World}{A:zas}{E:ax->aM->Prop}{s:aM}{Q:Bool->aM->Prop}
theorem GG(e:A.units<cLine)(c:TupI s.heap k1 v1)(d:TupI s.heap k2 v2){Q:ax->aM->Prop}(q:Q (.bool (lexI k1 k2)) s):wM prog w A (zae .Lt v1 v2) Q E s:=by walk;let(x,j,o,n,rfl,g,U,dx,l):=c;let(y,k,p,m,rfl,h,a,b,py):=d;let(ns,rfl,i):=uW l;let(ms,rfl,i2):=uW py;x_go;refine HT.lt_tupInts (items:=o) (items2:=p) (j,g,U,n,dx) (k,h,a,m,b) i i2 e ?_;rw[wG];exact q
theorem uX(J:A.units<cLine)(b:TupI s.heap k1 v1)(d:TupI s.heap k2 v2)(q:Q (decide (k1=k2)) s):wM prog w A (eqBool v1 v2) Q E s:=by let(a,rfl,e):=b.key (prog:=prog) (w:=w);let(c,rfl,i2):=d.key (prog:=prog) (w:=w);exact wpAny_eqBool_tuple J e i2 q
end
end Lake
namespace SS
open PySem PySem.SetTable PyProof.Rows Lake
set_option maxRecDepth 100000
end SS
namespace SS
open PySem PySem.SetTable PyProof.Rows Lake PySem.W
set_option maxRecDepth 100000
end SS
namespace Lake
open PySem PySem.Spec PyProof.Rows PySem.W
inductive KeyC(h:Heap)(k:List Key)(v:Value):Prop
 |mk a o xs m u c:v=.ref a->h.get? a\o->o.cls=.type "tuple" -> o.data=.seq xs m->xs.toList=[u,zac c]->TupI h k u->KeyC h k v
theorem KeyC.keep{h h':cx}{k:av Key}{v:ax}{a:ay}{xs:Array ax}{n:Nat}(t:KeyC h k v)(g:h.get? a\(zaS "list" xs n))(i:∀b o,b≠a->h.get? b\o->h'.get? b\o):KeyC h' k v:=by let(b,o,j,m,u,c,rfl,e,cl,d,p,t):=t;refine(b,o,j,m,u,c,rfl,i b o ?_ e,cl,d,p,t.keep g i);rintro rfl;rw[g]at e;cases e;simp[zaS]at cl
theorem wH{h:cx}:∀{ks:av (av Key)}{vs:av ax},Paired (KeyC h) ks vs->∃fs,KatTups h vs fs/\fs.length=vs.length/\∀v∈fs,Looks (model prog w) h (zdJ v) (.type "tuple")
 |_,_,.nil=>([],.nil,rfl,λv J=>by simp at J)
 |k::ks,v::vs,.cons j r=>by
  walk;let(fs,l,p,x):=wH (prog:=prog) (w:=w) r;let(a,o,xs,n,u,c,rfl,e,cl,d,ex,b,ob,ys,m,rfl,i,g,_):=j;x_go;refine(.ref b::fs,KatTups.cons e cl d ?_ l,by simp[p],λv J=>?_)
  .rw[<-zxe,ex];rfl
  .rcases zze.mp J with rfl|J
   .exact λA Q E s k q=>wpAny_typeOf (_,k _ _ i,g) q
   .exact x v J
section
variable{prog:cH}{w:World}{A:zas}{E:ax->aM->Prop}{s:aM}{Q:Bool->aM->Prop}
theorem GH{c:ay}(q:Q true s):wM prog w A (eqBool (.ref c) (.ref c)) Q E s:=by refine zzQ ?_;rw[zzu 's'];exact zzb (zwB (zzr q))
theorem GI(J:A.units<cLine){k1 k2:av Key}{v1 d:ax}(g:KeyC s.heap k1 v1)(h:KeyC s.heap k2 d)(same:k1=k2->v1=d)(q:Q (lexI k1 k2) s):wM prog w A (keyLt' (tuples' false) v1 d) Q E s:=by
 let(x,ox,xs,n,u1,c1,rfl,e,_,dx,ex,a):=g;let(y,oy,ys,m,u2,c2,rfl,c,_,b,L,U):=h;refine kat_lt e dx c b ?_;by_cases z:k1=k2
 .have i:=same z;cases i;rw[e]at c;cases c;rw[dx]at b;cases b;rw[ex]at L;rw[ex];refine kat_cons (uX J a a ?_);rw[zzj rfl];refine kat_yes (kat_cons (GH ?_));subst z;rw[Ao]at q;rw[zzo (zyu _)];exact q
 .rw[ex,L];refine kat_cons (uX J a U ?_);rw[zzo z];exact kat_no (kat_one _ _ (GG J a U q))
end
abbrev og:=av Key×ay×ay×ay
section
variable{X:Cx}
theorem oX{c:av og}:∀{ks:av (av Key)}{b:av ax},Paired (λk v=>∃q∈c,q.1=k/\v=zac q.2.2.2) ks b->∃ws:av og,(∀w∈ws,w∈c)/\ws.map (·.1)=ks/\b=ws.map λw=>zac w.2.2.2
 |_,_,.nil=>([],λw a=>by simp at a,rfl,rfl)
 |_,_,.cons ⟨q,J,d,e⟩ r=>by
  let(ws,g,h,i):=oX r;refine(q::ws,λw a=>?_,by rw[zzq,d,h],by rw[zzq,e,i]);rcases zze.mp a with rfl|a
  .exact J
  .exact g w a
theorem oY{b:Type}{f:b->ay}:∀{a:av b}{us:av ax},Vals (a.map λq=>V.ref (f q)) us->us=a.map λq=>zac (f q)
 |[],us,h=>by cases h;rfl
 |q::a,_,h=>by
  cases h with
  |cons r J=>cases r;rw[oY J];rfl
theorem oZ{b:Type}(f:b->ay):∀(a:av b),Vals (a.map λq=>V.ref (f q)) (a.map λq=>zac (f q))
 |[]=>.nil|_::a=>.cons rfl (oZ f a)
theorem Ap{a:av (ay×Obj)}{p:St}{H:Hp}{s:aM}(I:Inv X a p H s):∀(b:av og),(∀q∈b,H q.2.2.2\(.tup [.ref q.2.1,.ref q.2.2.1])/\H q.2.1\(.tup (q.1.map kV))/\qq q.1)->Paired (KeyC s.heap) (b.map (·.1)) (b.map λq=>zac q.2.2.2)
 |[],_=>.nil|q::b,U=>by refine .cons ?_ (Ap I b λq J=>U q (zzc _ J));walk;let(i,j,k):=U q zzd;let(_,its,m,o,e,c,n,d):=(show ObjOk X.prog X.w H s.heap q.2.2.2 (.tup [.ref q.2.1,.ref q.2.2.1]) from I.hok _ _ i);let(u,u',rfl,l,L):=m.two;x_go;cases l;cases L;exact(q.2.2.2,o,_,n,_,_,rfl,e,c,d,rfl,I.tupI k j)
theorem yh(hu:X.A.units+16<cLine):df X (.builtin "sorted") (λvs H Q=>∃(l:ay)(a:av og),vs=[.ref l]/\H l\(.lst (a.map λq=>.ref q.2.2.2))/\(∀q∈a,H q.2.2.2\(.tup [.ref q.2.1,.ref q.2.2.1])/\H q.2.1\(.tup (q.1.map kV))/\qq q.1)/\(a.map (·.1)).Nodup/\a.length<64 /\
  ∀(D:ay)(ws:av og),H D=none->(∀w∈ws,w∈a)->ws.map (·.1)=srtK (a.map (·.1))->Q (.ref D) (upd H D (.lst (ws.map λw=>.ref w.2.2.2)))):=by
 intro p s σ H vs us Q I r h;walk;let(l,a,rfl,e,G,nd,h64,q):=h;let(u,rfl,e2):=fW r;x_go;cases e2;have(z,its,n,rv,el):=I.hok l _ e;have hit:=oY (f:=λq:og=>q.2.2.2) rv;have Y:s.heap.IsList l its.toArray:=(_,el,rfl,n,rfl);have hlv:its.length=a.length:=by rw[hit,zza]
 refine zbW kind_sorted plain_sorted entry_sorted (args_sorted1 _) ?_;unfold Builtin.«sorted»;refine zzb (m:=checkCount "sorted" 1 1 _) (zzr ?_);refine zzb (collect_list Y ?_ (by rw[zxp];lia));refine zzb (zdr ?_ (by rw[zxp];lia));have d:((s.heap.push (zaS "list" #[] 0)).update s⁻¹ (zaD (· ++ its.toArray))).objs.size=s⁻¹+1:=by rw[Heap.size_update,size_push']
 have U:(((s.heap.push (zaS "list" #[] 0)).update s⁻¹ (zaD (· ++ its.toArray))).push (zaS "list" its.toArray 0)).get? (s⁻¹+1)\(zaS "list" its.toArray 0):=by rw[<-d];exact zzx _ rfl
 have keep:∀b o,s.heap.get? b\o->(((s.heap.push (zaS "list" #[] 0)).update s⁻¹ (zaD (· ++ its.toArray))).push (zaS "list" its.toArray 0)).get? b\o:=λb o q=>by have L:b<s⁻¹:=zzy q;rw[zd8 _ _ _ (by rw[d];exact zzH (zxz L)),zvh _ _ _ _ (zzH L),zd8 _ _ _ (zzH L)];exact q
 show wpAny _ _ _ _ _ {s with heap:=((s.heap.push (zaS "list" #[] 0)).update s⁻¹ (zaD (· ++ its.toArray))).push (zaS "list" its.toArray 0)};rw[d];generalize ((s.heap.push (zaS "list" #[] 0)).update s⁻¹ (zaD (· ++ its.toArray))).push (zaS "list" its.toArray 0)=hB at U keep⊢;have T:Inv X p σ H {s with heap:=hB}:=I.kept (t':=s.toks) keep;refine zzb (zzQ (zyZ slot_list_sort (_,U,rfl) entry_list_sort ?body (args_list_sort _)))
 case body =>
  have same:∀i j,i<(a.map (·.1)).length->j<(a.map (·.1)).length->(a.map (·.1)).getD i []=(a.map (·.1)).getD j []->i=j:=λi j y B z=>by rw[zzw,zzw,zzp y,zzp B]at z;exact(zxE nd).mp z
  refine IY (RK:=KeyC) (s:={s with heap:=hB}) KeyC.keep (λh E _=>wH E) (λh i j C y B E hC=>GI (s:=(h,_,_,_,_)) (by show X.A.units+1+1<cLine;lia) (eM E i y) (eM E j B) (λz=>by rw[same i j y B z]) hC) U (ks:=a.map (·.1)) (by rw[hit];exact Ap T a G) 'l' λh4 out c kp ho hR=>?_;have base:Paired (λk v=>∃q∈a,q.1=k/\v=zac q.2.2.2) (a.map (·.1)) its:=by
   rw[hit];have:∀l:av og,(∀q∈l,q∈a)->Paired (λk v=>∃q∈a,q.1=k/\v=zac q.2.2.2) (l.map (·.1)) (l.map λq=>zac q.2.2.2):=λl=>by
    induction l with
    |nil=>intro _;exact .nil|cons q l ih=>intro M;exact .cons (q,M q zzd,rfl,rfl) (ih λx hx=>M x (zzc _ hx))
   exact this a λq G=>G
  have(ws,w1,N,rfl):=oX (hR _ base);have wl:ws.length=a.length:=by have:=congrArg zai N;rwa [zza,(sG _).length_eq,zza]at this
  have fr:H (s⁻¹+1)=none:=I.hok.fresh (zyW _);exact(_,rfl,zzr (_,rfl,.ref (s⁻¹+1),upd H (s⁻¹+1) (.lst (ws.map λw=>.ref w.2.2.2)),I.laid (o:=.lst (ws.map λw=>.ref w.2.2.2)) (λb u e=>kp b u (zzH (zxz (zzy e))) (keep b u e)) (zyW _) (by rw[zza,wl,zxp];lia,_,c,oZ (λw:og=>w.2.2.2) ws,ho),rfl,q _ ws fr w1 N))
end
end Lake
namespace Lake
open PySem PySem.Spec PyProof.Rows
variable{N:av Str}{a b:Prop}{tg:cy}
section
variable{K:zvu}{x:Str}{st:Stmt}{f:ay}{mg:Str->aT ax}{h:cx}
theorem len0{p:av ax->Prop}(h:p [])(us:av ax)(e:us.length=0):p us:=by cases us with
 |nil=>exact h|cons=>cases e
theorem lenS{p:av ax->Prop}{n:Nat}(h:∀a us,us.length=n->p (a::us))(us:av ax)(e:us.length=n+1):p us:=by cases us with
 |nil=>cases e
 |cons a r=>exact h a r (ze7 e)
noncomputable def ddk{ps:av Str}{oc kV doc pm cdv ct:ax}{od an:aT ay}{osl:Array (aT ax)}(X:K.In h)(G:h.Ns zaX mg)(a:zeg K zaX x\(some (.ref f)))(l:K.lookup f\(oc,od,.func (zaT x x (fY st) (cj st) (aj st) .none kV doc pm an cdv ct),osl))(c:zbo K cdv x=true)(k:zau K (.ref f)=true)
  (b:∀us:av ax,us.length=ps.length->∀(kV doc pm:ax)(an:aT ay)(cdv ct:ax),bindArgs (zaT x x (fY st) (cj st) (aj st) .none kV doc pm an cdv ct) (us,[])=pure (ps.zip us):=by repeat first|exact Lake.len0 λ_ _ _ _ _ _=>rfl|refine Lake.lenS λ_=>?_):Dd K mg x st ps :=
 (f,_,wu l c k,PySem.W.mg_of X G a,(wu l c k).binds λa i c d e g us j=>b us j a i c d e g)
end
theorem cR{P:av Str}{sc:Scope}(a:sc.kind=.function:=by rfl)(b:sc.isCoroutine=false:=by rfl)(c:sc.isGenerator=false:=by rfl)(d:N.Nodup:=by decide +kernel)(e:N.take P.length=P:=by rfl)(g:∀x∈P,sc.names.lookup x\.local∨sc.names.lookup x\.cell:=by decide +kernel)(i:∀y∈sc.names,y.2 ≠ .free:=by decide +kernel):er N P sc:=(a,b,c,d,e,g,i)
theorem oo(h:a∨b):a∨b:=h
theorem lk1{a:ay}{t:Str}:([(a,t)]:av (ay×Str)).lookup a\t:=by rw[List.lookup_cons_self]
theorem dk{p:Prop}(h:p):p:=h
section
variable{X:Cx}
theorem Aq:OpR X (zae .LtE) (λx y H Q=>∃i j,x=.str i/\y=.str j/\Q (.bl (!decide (j.cps.toList<i.cps.toList))) H):=by intro pins s σ H x y v u Q I U c h;walk;let(i,j,rfl,rfl,q):=h;let(t,rfl):=U;let(t',rfl):=c;x_go;exact PySem.P.le_str (cS I q rfl)
theorem sM:∀(l:av (Str×Tok)),Vals (l.map λp=>V.str p.1) (strValues l)
 |[]=>.nil|p::r=>.cons (p.2,rfl) (sM r)
inductive rSplit(x:V)(vs:List V)(H:Hp)(Q:VK):Prop
 |mk z y:x=.str z->vs=[.str y]->(y.length == 0)=false->z.length+2 <= zaa->(∀l,H l=none->Q (.ref l) (upd H l (.lst ((zab z y).map V.str))))->rSplit x vs H Q
theorem split_len(x y:Str)(hz:x.length+2<=zaa):(zab x y).length<=zaa:=by
 have e1:=zcJ x y 0 x.length (x.length+1);unfold zab;split
 .simp;lia
 .split
  .simp;lia
  .rw[length_partsBetween];lia
theorem Dr:MtR X "str.split" rSplit:=by
 intro d s r H x vs v us Q I o n h;walk;let(z,y,rfl,rfl,g,m,q):=h;let(t,rfl):=o;let(u,rfl,t',rfl):=n.one;x_go;have fin:∀(l:av (Str×Tok))(k:Nat),l.map (·.1)=zab z y->EP X d r Q (.ref s⁻¹) {s with heap:=s.heap.push {cls:=.type "list",data:=.seq (strValues l).toArray},toks:=k}:=λl k e=>by
  have i:l.map (λp=>V.str p.1)=(zab z y).map V.str:=by rw[<-e,zzv];rfl
  refine(.ref _,_,I.lnew (t':=k) (i ▸ sM l) ?_,rfl,q _ I.fresh);rw[zza];exact split_len z y m
 have j:(Builtin.Str.partsBetween z (zcl z y 0 z.length (z.length+1)) y.length).length<=zaa:=by have e1:=zcJ z y 0 z.length (z.length+1);rw[length_partsBetween];lia
 cases c:(decide (z.length<y.length) || decide (zdl z<zdl y))
 .cases J:(zcl z y 0 z.length (z.length+1)).isEmpty
  .refine zxN zcu (zwU _ _ _) zb5 (zbS _ _) (meets_str_split_sep z y t t' c g J 'l' j) ?_;rw[strsFrom_eq];exact fin (numbered s.toks _) _ ((numbered_texts _ _).trans ((zzn (zvj c)).trans (zzn (zvj J))).symm)
  .exact zxN zcu (zwU _ _ _) zb5 (zbS _ _) (meets_str_split_not_found z y t t' c g J)
    (fin [(z,t)] s.toks ((zzn (zvj c)).trans (zzu J)).symm)
 .exact zxN zcu (zwU _ _ _) zb5 (zbS _ _) (meets_str_split_cannot_occur z y t t' c)
   (fin [(z,t)] s.toks (zzu c).symm)
inductive rJoin(K:zvu)(x:V)(vs:List V)(H:Hp)(Q:VK):Prop
 |mk z p ws:x=.str z->vs=[.ref p]->SqL K H p (ws.map V.str)->JoinOk z ws=true->Q (.str (zaf z ws)) H->rJoin K x vs H Q
theorem sN:∀{ws:av Str}{us:av ax},Vals (ws.map V.str) us->∃l:av (Str×Tok),us=strValues l/\l.map (·.1)=ws
 |[],_,h=>by cases h;exact([],rfl,rfl)
 |w::ws,_,.cons ⟨t,e⟩ r=>by let(l,c,d):=sN r;exact((w,t)::l,by rw[e,c];rfl,by rw[zzq,d])
theorem GJ:MtR X "str.join" (rJoin X.K):=by intro pins s σ H x vs v us Q I i g h;walk;let(z,p,ws,rfl,rfl,d,c,q):=h;let(t,rfl):=i;let(u,rfl,U):=g.one;x_go;cases U;walk;let(its,r,pl,_):=I.list d;let(l,rfl,e):=sN r;x_go;exact SC.join pl.isList e c λt' k=>(.str _,H,I.tok _,(_,rfl),q)
theorem sO:df X (.type "int") (λxs H Q=>∃z n,xs=[.str z]/\intText? z\n/\z.length<=640/\Q (.int n) H):=by intro pins s σ H xs us Q I r h;walk;let(z,n,rfl,c,d,q):=h;let(u,rfl,t,rfl):=fW r;x_go;exact PySem.W.KIN.call_text c d (.int _,H,I.tok _,(_,rfl),q)
inductive rSlS(x:V)(lo:Option Int)(hi:Option Int)(H:Hp)(Q:VK):Prop
 |mk z:x=.str z->z.length <= zaa->Q (.str (zcR z lo hi)) H->rSlS x lo hi H Q
theorem wI{v:ax}{o:aT Int}(h:IsPart v o):∃l:aT (Int×Tok),v=partValue l/\l.map (·.1)=o:=by
 cases h with
 |none=>exact(none,rfl,rfl)|int i t=>exact(some (i,t),rfl,rfl)
theorem Ja:SlR X rSlS:=by intro pins s σ H x v vl vu lo hi sl Q I e c pl U h;walk;let(z,rfl,d,q):=h;let(t,rfl):=e;let(l,rfl,rfl):=wI pl;let(u,rfl,rfl):=wI U;x_go;refine("str",_,F.slot_str_getitem.lookup,zwU _ _ _,wpAny_getItem_str_slice (l:=l) (u:=u) (st:=none) c rfl ?_);exact post_val_or_str (zzk (Txt.slice_le z _ _) d,λt' k=>(.str _,H,I.tok _,(_,rfl),q))
noncomputable def Its(z:Str):It:=(λi _=>i<z.cps.size,λi H x d=>d=H/\∃c,z.cps[i]?\c/\x=.str ⟨#[c]⟩,λi _=>z.cps.size<=i)
theorem wJ{P:cH}{w:World}{K:zvu}{it:ay}{z:Str}{t:Tok}{n:String}(B:n = "str_ascii_iterator" ∨ n = "str_iterator"):Turn P w K tg (Its z) [it] it (λi h=>h.IsStrIter it n z t i) where
 mem:='s'
 obj:=λi h st b L=>by
  have e:b=it:=by simpa using L
  walk;subst e;let(o,e,c,d):=st;x_go;exact(o,e,λv z=>by rw[d]at z;cases z)
 keep:=λi h j st k=>let ⟨o,e,r⟩:=st;(o,k it 's' o e,r)
 item:=by
  intro X a N Y M i g s Q H E I A st J;walk;subst a N Y;have J:i<z.cps.size:=J;let(m,f1,f2,p,q,y):=A it 's';x_go;have fin:∀j:cx,j.IsStrIter it n z t (i+1)->zam it s.heap j->∃u,some (zcF ⟨#[z.cps[i]]⟩ s.toks)\u/\wX X (zbL tg (.ref it) u) (λ_ s'=>∃x C,Inv X g Q C s'/\RelV x u/\(Its z).yld i H x C/\s'.heap.IsStrIter it n z t (i+1)/\∀b∈[it],C b=none) E {s with heap:=j,toks:=s.toks+1}:=λj T sb=>by have I1:Inv X g Q H {s with heap:=j,toks:=s.toks+1}:=I.turned (t':=s.toks+1) (λb o L e=>(sb.2 b L).trans e) m f1 p q y;let(oo,e,c,dd):=id T;exact(_,rfl,Cn (s:={s with heap:=j,toks:=s.toks+1}) e c dd (by rcases B with rfl|rfl<;>decide) (.str ⟨#[z.cps[i]]⟩,H,I1,(_,rfl),(rfl,_,zbV J,rfl),T,λb L=>(A b L).1))
  rcases B with rfl|rfl
  .exact wpAny_pyNext_ascii_item st (c:=z.cps[i]) (by simp[J]) fin
  .exact wpAny_pyNext_wide_item st (c:=z.cps[i]) (by simp[J]) fin
 done:=by
  intro X a N Y M i g s Q H E I A st J;walk;have J:z.cps.size<=i:=J;let(m,f1,f2,p,q,y):=A it 's';x_go;rcases B with rfl|rfl
  .exact wpAny_pyNext_ascii_end (I.ok.hd M) st (by simp[J]) λj G=>(rfl,I.turned (t':=s.toks) (λb o L e=>G b o L e) m f1 p q y)
  .exact wpAny_pyNext_wide_end (I.ok.hd M) st (by simp[J]) λj G=>(rfl,I.turned (t':=s.toks) (λb o L e=>G b o L e) m f1 p q y)
 self:=λ_ _ _ _ _ st h=>by
  rcases B with rfl|rfl
  .exact wpAny_pyIter_striter_ascii st h
  .exact wpAny_pyIter_striter_wide st h
def iStr(tl:TE):TI:=λd H R=>tl d H λx c=>∃z,x=.str z/\R (Its z) c
theorem Jb{l:cy}{k:TE}(n:PE X l k):PI X tg l (iStr k):=by
 intro c s w H R I h;refine thn (n c s w H _ I h) λv d p=>?_;walk;let(x,g,J,u,r):=p;let(z,rfl,q):=r;let(t,rfl):=u;x_go;have i:∀b∈[d⁻¹],FpOk X c g b:=λb m=>by
  have e:b=d⁻¹:=by simpa using m
  subst e;exact J.fpOk (zzs _) (J.hok.fresh (zzs _))
 cases j:z.cps.all (· < 128)
 .exact wpAny_pyIter_wide j (d⁻¹,[d⁻¹],_,_,g,rfl,J.kept (t':=d.toks) λb o e=>zzf _ e,wJ (.inr rfl),(_,zzx _ rfl,rfl,rfl),i,q)
 .exact wpAny_pyIter_ascii j (d⁻¹,[d⁻¹],_,_,g,rfl,J.kept (t':=d.toks) λb o e=>zzf _ e,wJ (.inl rfl),(_,zzx _ rfl,rfl,rfl),i,q)
end
noncomputable def addS(a:av Str)(x:Str):av Str:=if x∈a then a else a++[x]
def metS(xs:av Str):av Str:=xs.foldl addS []
theorem sP(xs:av Str)(x:Str):metS (xs++[x])=addS (metS xs) x:=by unfold metS;rw[zd9];rfl
theorem Ds(a:av Str)(x k:Str):k∈addS a x↔k∈a∨k=x:=by
 unfold addS;split
 .exact(.inl,λh=>h.elim id λe=>by subst e;assumption)
 .simp
theorem lX(a:av Str)(x:Str):(addS a x).length=if x∈a then a.length else a.length+1:=by unfold addS;split<;>simp
theorem gM(xs:av Str):(metS xs).length<=xs.length:=by
 have key:∀(c:av Str)(a:av Str),(c.foldl addS a).length<=a.length+c.length:=λc=>by
  induction c with
  |nil=>intro a;simp|cons y c J =>
   intro a;have:=J (addS a y);have e:=lX a y;rw[zwo,zzl];split at e<;>lia
 have:=key xs [];simpa[metS]using this
section
variable{prog:cH}{w:World}{A:zas}{R:zcv->aM->Prop}{I:ay}{fp wr:av ay}{G:Array GenState->Array GenState->Prop}{P:Nat->ax->Prop}{St:Nat->aM->Prop}
theorem set_loopT{xs:av Str}(W:WalksS prog w A.in1 I fp wr G xs.length P St)(S:ay)(u:S∉fp)
  (Q:∀i v,P i v->∃x t,xs[i]?\x/\v=.str x t) (d:xs.length+1<za7) :
  ∀(k i:Nat)(s:aM),i+k=xs.length->i<=xs.length->St i s ->
   s.heap.SetOf (za5 prog w) S (λc=>decide (c∈metS (xs.take i))) (metS (xs.take i)).length ->
   (∀s',Moved (S::wr) G s s'->s'.heap.SetOf (za5 prog w) S (λc=>decide (c∈metS xs)) (metS xs).length->R (.ok (.ret .none)) s') ->
   zaZ (model prog w) A (.builtin "set.update.loop" ([.ref S,.ref I],[])) R s:=by
 have y:S∉wr:=λh=>u (W.sub _ h);have J:∀b∈wr,b∈S::wr:=λb d=>zzc _ d;intro k
 induction k with
 |zero =>
  intro i s m hi U l r;obtain rfl:i=xs.length:=m;rw[zcq]at l;refine zwW za8 ?_;refine zzb (W.done s _ _ U λs' g=>?_);exact zzr (r s' (g.mono J) (by have(o,q,p,t,ho,rest):=l;exact(o,q,p,t,g.heap S _ y ho,rest)))
 |succ k ih =>
  intro i s m hi U l r;have z:i<xs.length:=by rw[<-m];exact zce (Nat.succ_pos k)
  refine zwW za8 ?_;refine zzb (W.item i s _ _ z U λv s' hP M g=>?_);have(x,t,hx,rfl):=Q i v hP;have T:s'.heap.SetOf (za5 prog w) S (λc=>decide (c∈metS (xs.take i))) (metS (xs.take i)).length:=by let(o,q,p,tb,ho,rest):=l;exact(o,q,p,tb,g.heap S _ y ho,rest)
  have C:xs.take (i+1)=xs.take i++[x]:=by rw[List.take_add_one,hx];rfl
  refine zzb (zzQ ?_);refine zzb ((za5 prog w).pyHash (k:=x) (strKind_is _ _ _ _) ?_);have L:(metS (xs.take i)).length+1<za7:=by have:=gM (xs.take i);rw[zyv]at this;lia
  refine wpAny_setAddHashed_of (knd:=za5 prog w) (s:={s' with toks:=s'.toks+1}) (strKind_is _ _ _ _) rfl T L λh' B Y=>?_;have a:h'.SetOf (za5 prog w) S (λc=>decide (c∈metS (xs.take (i+1)))) (metS (xs.take (i+1))).length :=
   SetOf_congr Y (λc=>by rw[C,sP];simp[Ds]) (by rw[C,sP,lX];simp)
  refine zzr (plainId_quiet PyProof.Rows.F.plain_set_update_loop _,ih (i+1) _ ((zwv i 1 k).trans m) z (W.frame _ s' _ _ M (zyW _) λb d o e=>?_) a λN H E=>?_)
  .rw[B.2 b (λh:b=S=>u (by rw[<-h];exact d))];exact e
  .refine r N (Moved.trans W.gtrans ((g.mono J).then_heap (zyW _) λb o d e=>?_) H) E;rw[B.2 b (λh:b=S=>d (by rw[h];exact zzd))];exact e
end
end Lake
namespace PySem
section
variable{prog:cH}{w:World}{A:zas}{E:ax->aM->Prop}{s:aM}
set_option maxRecDepth 100000 in
set_option maxHeartbeats 3200000 in
theorem qt{b:ay}{its:Array ax}{ks:av Str}{R:ax->aM->Prop}(d:A.handled=none)(h:s.heap.IsList b its)(L:∀(i:Nat)(v:ax),its[i]?\v->∃x t,ks[i]?\x/\v=.str x t)(J:its.size=ks.length)(e:ks.length+1<za7)
  (q:∀(g:cx)(m:Nat),g.SetOf (za5 prog w) s⁻¹ (λk=>decide (k∈Lake.metS ks)) (Lake.metS ks).length ->
   (∀c o,c<s⁻¹->s.heap.get? c\o->g.get? c\o)->R (.ref s⁻¹) {s with heap:=g,toks:=m}):wM prog w A (call (.type "set") [.ref b]) R E s:=by
 refine sI h F.sub_list_set F.sub_list_frozenset 'd' (λU Q1 E1 a k=>zxy (gC h) ?_) q;have W:=(zeY (prog:=prog) (w:=w) (A:=A.in1.in1.in1) (by simp[d]) _ b (qr (o:=setO U) a).2 its).toS;rw[J]at W;exact Lake.set_loopT (xs:=ks) W s⁻¹ (qr a).1 L e ks.length 0 _ (zwZ _) (zyh _) ((_,zzx _ rfl,rfl,rfl),gC (gC h)) (sH (λ_=>rfl) rfl) (λz l j=>k _ z l j)
end
end PySem
namespace Lake
open PySem PySem.Spec PyProof.Rows
variable{b:ay}{ps:av Str}{sp':Sp}
variable{X:Cx}{W:St->XK}{k:Nat}{fd:bo}{ps:av Str}{pos:Pos}{e:cy}
noncomputable def SetN(a:ay)(n:Nat):HO:=.ext λh=>∃o c d t,h.get? a\o/\o.ExactSet/\o.data=.set c d t/\t.fits c.size=true/\c.size=n/\n<za7
theorem Ar(A:X.calm=true):df X (.type "set") (λxs H Q=>∃p ws,xs=[.ref p]/\SqL X.K H p (ws.map V.str)/\ws.length<=1000/\∀l,H l=none->Q (.ref l) (upd H l (SetN l (metS ws).length))):=by
 intro pins s σ H xs us Q I r h;walk;let(p,ws,rfl,e,hl,q):=h;let(u,rfl,n):=fW r;x_go;cases n;have(its,j,pl,_):=I.list e;have J:its.length=ws.length:=by have:=j.length;simpa using this.symm
 have hf:=gM ws;refine qt (its:=its.toArray) (ks:=ws) (I.ok.hd A) pl.isList (λi v d=>?_) (by rw[zzF,J]) (by unfold za7;lia) λh' tk z B=>?_
 .have g:i<ws.length:=by
   rw[<-J];have:=zzC.mp (show its[i]?\v by simpa using d);exact this.1
  have(v',m,t,rfl):=j.get (i:=i) (x:=.str ws[i]) (by rw[zzz,zzp g];rfl);rw[show its.toArray[i]?=its[i]? by simp,m]at d;cases d;exact(_,_,zzp g,rfl)
 .let(o,c,a,t,g1,g2,g3,_,_,g4,w,y):=z;refine(.ref s⁻¹,_,I.laid (o:=SetN s⁻¹ (metS ws).length) (λb o e=>B b o (zzy e) e) (zzs _) ((o,c,a,t,g1,g2,g3,w,y,by unfold za7;lia),(o,g1),λh1 h2 q k=>by let(o,c,a,t,f1,f2):=q;exact(o,c,a,t,k _ f1,f2)),rfl,q _ (I.hok.fresh (zzs _)))
theorem At:df X (.builtin "len") (λxs H Q=>∃p n,xs=[.ref p]/\H p\(SetN p n)/\Q (.int n) H):=by intro pins s σ H xs us Q I r h;walk;let(p,n,rfl,e,q):=h;let(u,rfl,a):=fW r;x_go;cases a;have((o,es,ep,t,g1,g2,g3,U,c,d),_):=(show ObjOk X.prog X.w H s.heap p (SetN p n) from I.hok p _ e);refine call_len_set g1 g2 g3 U (by unfold za7 at d;lia) ?_;rw[c];exact(.int n,H,I.tok _,(_,rfl),q)
theorem yi{ws:av Str}(h:ws.Nodup):metS ws=ws:=by
 have key:∀(ys a:av Str),(a++ys).Nodup->ys.foldl addS a=a++ys:=λys=>by
  induction ys with
  |nil=>intro a _;simp|cons y ys J =>
   intro a h;have c:y∉a:=λz=>by have:=(zyr.mp h).2.2 y z y zzd;exact this rfl
   rw[zwo,show addS a y=a++[y] by unfold addS;rw[zzn c],J _ (by simpa using h)];simp
 simpa[metS]using key ws [] h
def GtA(A:zas)(s:aM)(v w:ax)(b:Bool):Prop:=∀(a:cH)(c:World)(E:ax->aM->Prop)(Q:ax->aM->Prop),Q (.bool b) s->wpAny (model a c) A (richCompare .Gt v w) Q E s
inductive LexW(A:zas)(s:zbi):List Value->List Value->Bool->Prop
 |nn:LexW A s [] [] false
 |nc {w:Value} {ws:List Value}:LexW A s [] (w::ws) false
 |cn {v:Value} {vs:List Value}:LexW A s (v::vs) [] true
 |same {v w:Value} {vs ws:List Value} {b:Bool}:zb8 A s v w true->LexW A s vs ws b->LexW A s (v::vs) (w::ws) b
 |diff {v w:Value} {vs ws:List Value} {b:Bool}:zb8 A s v w false->GtA A s v w b->LexW A s (v::vs) (w::ws) b
section
open PySem.SeqAt
open PySem.AutoSeq1 (wpAny_loadPart')
open PySem.MeetsSeq PySem.MeetsSeq2 PySem.MeetsSeq3
theorem sQ(l b:ay)(items items2:Array ax)(n Q:Nat)(dd C:aT ay)(sl G:Array (aT ax))(r:Bool) :
  Meets (Builtin.«tuple.__gt__» ([.ref l,.ref b],[]))
   (λA R s=>s.heap.get? l=some {cls:=.type "tuple",dict:=dd,data:=.seq items n,slots:=sl}/\s.heap.get? b=some {cls:=.type "tuple",dict:=C,data:=.seq items2 Q,slots:=G} /\
    LexW A.in1 s items.toList items2.toList r/\R (.ok (.ret (.bool r))) s) :=
 .of_wp λc w A R s h=>by
  let(z,g,d,B,os):=s;let(M,H,i,h):=h;have f2:=zb7
  wp_walk using wpAny_loadPart' M,wpAny_loadPart' H,wpAny_forIn_list _ (λrest b u=>b.1=none/\u=(z,g,d,B,os)/\∃(j m:av ax),rest=j.zip m /\
   LexW A.in1 (z,g,d,B,os) j m r/\j.length+items2.size=m.length+items.size) _
  case turn =>
   rintro⟨y,x⟩ rest b u ⟨v,rfl,j,m,a,i,J⟩;cases i with
   |nn=>rw[zbY]at a;cases a
   |nc=>rw[zbY]at a;cases a
   |cn=>rw[zxc]at a;cases a
   |same p i =>
    injection a with o L;injection o with q U;subst q U;simp only[zzl]at J;refine zzb (p c w _ _ ?_)
    wp_walk
    exact(rfl,rfl,_,_,L,i,'l')
   |diff p I =>
    injection a with o L;injection o with q U;subst q U;refine zzb (p c w _ _ ?_);have E:=I c w
    wp_walk using E
    exact(_,rfl,h)
  case fin =>
   rintro⟨b1,b2⟩ u ⟨v,rfl,j,m,a,i,J⟩;subst v;have N:r=decide (items2.size<items.size):=by
    cases i with
    |nn=>simp only[zzY]at J;exact(zzo 'l').symm|nc=>simp only[zzY,zzl]at J;exact(zzo 'l').symm|cn=>simp only[zzY,zzl]at J;exact(zzj 'l').symm|same _ _=>rw[zxf]at a;cases a
    |diff _ _=>rw[zxf]at a;cases a
   rw[N]at h
   wp_walk
   exact(_,rfl,h)
  case h =>
   exact(rfl,rfl,items.toList,items2.toList,rfl,i,by simp;lia)
end
section
variable{A:zas}{s:aM}
theorem Fb{l:ay}{items items2:Array ax}{r:Bool}(o:IsTup s.heap l items)(j:IsTup s.heap b items2)(q:LexW A.in1 s items.toList items2.toList r)(p:A.units<cLine):GtA A s (.ref l) (.ref b) r:=λprog w E Q h=>by
 walk;let((cls,i,data,sl),ho,m,n,hd):=id o;let((cls2,L,data2,g),J,U,u,d):=id j;subst m hd U d;x_go;exact zcC (op:=.Gt) (_,ho,rfl) (_,J,rfl) PySem.F.slot_tuple_gt PySem.F.entry_tuple_gt (PySem.F.args_tuple_gt_2 _ _) (sQ l b items items2 n u i L sl g r)
  (ho,J,q,show za3 r≠zcX/\Q (.bool r) s from((λx=>nomatch x),h)) p
theorem Au(a:Int)(t:Tok)(c:Int)(u:Tok):GtA A s (.int a t) (.int c u) (decide (c<a)):=λd w E Q h=>(PyProof.Rows.gt_int h:wM d w A (zae .Gt (.int a t) (.int c u)) Q E s)
theorem Av:∀{vs ws:av ax}{ns ms:av Int},zaU vs ns->zaU ws ms->LexW A s vs ws (HT.lexLt ms ns)
 := by
 intro vs ws ns ms p q
 induction p generalizing ws ms with
 |nil=>(cases q with|nil=>exact .nn|cons=>exact .nc)
 |cons a t h1 J =>
  cases q with|nil=>exact .cn|cons c u d=>?_
  rw[HT.lexLt_cons];by_cases e:a=c
  .subst e;rw[zzu rfl];exact .same (by have:=zaQ (A:=A) (s:=s) a t a u;simpa using this) (J d)
  .rw[zzn (Ne.symm e)];exact .diff ((show (a==c)=false by simpa using e) ▸ zaQ a t c u) (Au a t c u)
end
def gtP(ns:av Int)(i:Int)(ms:av Int)(j:Int):Bool:=if ns=ms then decide (j<i) else HT.lexLt ms ns
inductive rGtP(K:zvu)(x:V)(y:V)(H:Hp)(Q:VK):Prop
 |mk a b p q ns ms i j:x=.ref a->y=.ref b->SqT K H a [.ref p,.int i]->SqT K H b [.ref q,.int j]->SqT K H p (ns.map V.int)->SqT K H q (ms.map V.int)->Q (.bl (gtP ns i ms j)) H->rGtP K x y H Q
theorem jK:∀{vs:av ax}{ns:av Int},zaU vs ns->Paired isI (ns.map zbI) vs
 |_,_,.nil=>.nil|_,_,.cons n t h=>.cons (n,t,rfl,rfl) (jK h)
theorem Aw{A:zas}{s:aM}{l:ay}{items items2:Array ax}{ns ms:av Int}(j:IsTup s.heap l items)(d:IsTup s.heap b items2)(hi:zaU items.toList ns)(i:zaU items2.toList ms)(m:A.units<cLine):zb8 A s (.ref l) (.ref b) (decide (ns=ms)):=λprog w E Q h=>by
 walk;let(o,ho,g,n,hd):=j;let(q,U,J,p,L):=d;x_go;refine uX m (k1:=ns.map zbI) (k2:=ms.map zbI) (l,o,items,n,rfl,ho,g,hd,jK hi) (b,q,items2,p,rfl,U,J,L,jK i) ?_;have e:(decide (ns.map zbI=(ms.map zbI:av Key)))=decide (ns=ms):=by
  by_cases z:ns=ms
  .rw[zzj z,zzj (by rw[z])]
  .rw[zzo z,zzo (λw=>z ((zwx (λ_ _ h=>zbI.inj h)).mp w))]
 rw[e];exact h
theorem Jc(m:X.A.units+1<cLine):OpR X (zae .Gt) (rGtP X.K):=by
 intro pins s σ H x y v u Q I rx ry h;have(a,b,p,q,ns,ms,i,j,rfl,rfl,E,G,M,N,k):=h;cases rx;cases ry;walk;let(its,r1,T,_):=I.tuple E;let(its2,r2,Y,_):=I.tuple G;let(J,r3,o,_):=I.tuple M;let(L,r4,z,_):=I.tuple N;let(u1,v1,rfl,B,d,rfl):=r1.two;let(u2,v2,rfl,C,g,rfl):=r2.two;x_go;cases B;cases C;have n:zaU J.toArray.toList ns:=jD r3;have i2:zaU L.toArray.toList ms:=jD r4;refine Fb (A:=X.A) (s:=s) (r:=gtP ns i ms j) T Y ?_ 'l' X.prog X.w _ _ (.bl _,H,I,rfl,k);have eq:=Aw (A:=X.A.in1) o z n i2 m;unfold gtP;split
 .rename_i e;rw[zzj e]at eq;refine .same eq ?_;by_cases l:i=j
  .subst l;rw[zzo (Int.lt_irrefl _)];exact .same (by have:=zaQ (A:=X.A.in1) (s:=s) i d i g;simpa using this) .nn
  .exact .diff ((show (i==j)=false by simpa using l) ▸ zaQ (A:=X.A.in1) (s:=s) i d j g) (Au i d j g)
 .rename_i e;rw[zzo e]at eq;exact .diff eq (Fb o z (Av n i2) m)
inductive spInit1(C:Addr)(a1:Str)(vs:List V)(H:Hp)(Q:VK)(x3:XK):Prop
 |mk e p:vs=[.ref e,p]->H e\(excN C none e)->(∀dx,H dx=none->dx≠e->Q .non (upd (upd H dx (exD [(a1,p)] dx)) e (excN C (some dx) e)))->spInit1 C a1 vs H Q x3
def GK(C:ay)(a1:Str)(W:St->XK)(t:TA):TS:=λ_ c H=>t c H λd a=>∃p,d=[p]/\∀dx,a dx=none->W c (.ref C) (some dx) (upd a dx (exD [(a1,p)] dx))
section
variable{C f:ay}{a1 x:Str}{np cpos:Pos}{es:av cy}{t:TA}
theorem Ax(c:ExcI X.K C f)(F:FnOk X.prog X.w X.K X.mg X.base CX0 k f fd ps (spInit1 C a1))(hr:Room (k+1) X.A)(hb:Binds X.K fd ps [])(hc:X.calm=true)(hg:Gl X x)(l:X.mg x\(.ref C))(hx:∀e s',XF X W e s'->X.xe e s')(ha:PA X (e::es) t)
  (he:SE X e es) (hpl:BA X cpos es)
  (hd:NoDb x):PS X (.Raise (some (.Call (.Name x np) (e::es) [] cpos)) none pos) (GK C a1 W t):=by
 intro m s σ H D I h;refine ya (K:=X.K) (C:=C) (fI:=f) (I.ok.hd hc) ?_;refine zyP (eA I hg l ?_ hd);refine zxb (h₀:=X.base) I.ok.mod.kin c.kp (thnE (ha cpos m s σ H _ I h) λi s1 vs g j r q=>(j.kIn,?_)) he hpl;have(p,rfl,q):=q;refine Lh j.kIn c (λh' d T l=>?_) (by rw[zwp,<-r.length];exact(by decide:1<=zaa));have(t0,b1,_,_):=l.there;have a8:g d=none:=j.hok.fresh T;have n:=j.laid (a:=d) (o:=excN C none d) (h':=h') (t':=s1.toks) (λb u q=>l.keeps b u q) T (zV (C:=C) (t:=t0) (od:=none) b1);have Y:Vals [V.ref d,p] (zac d::i):=.cons rfl r;have M:spInit1 C a1 [V.ref d,p] (upd g d (excN C none d)) (λv H2=>v=.non/\∃dx,g dx=none/\dx≠d/\H2=upd (upd (upd g d (excN C none d)) dx (exD [(a1,p)] dx)) d (excN C (some dx) d)) E0 :=
  (d,p,rfl,ao,λdx h1 Q=>(rfl,dx,by rwa [ar Q]at h1,Q,rfl))
 have hl:(zac d::i++[]).length=ps.length:=by rw[zzB,<-Y.length];exact F.len _ _ _ _ M
 refine zxY (zyD (F.run _ X.stack _ _ (zac d::i,[]) (zac d::i++[]) _ _ E0 (hr.make C i []) (n.env0.make C i []) (hb _ (zac d::i) n.kIn hl) (by rw[zzB];exact Y) M) λr' s' J=>?_);cases r' with
 |error e=>exact J.elim|ok fl =>
  cases fl with
  |ret u =>
   walk;let(v,H',y,rv,ev,dx,a7,a9,rfl):=n.after J;subst ev;have ee:upd (upd (upd g d (excN C none d)) dx (exD [(a1,p)] dx)) d (excN C (some dx) d)=upd (upd g dx (exD [(a1,p)] dx)) d (excN C (some dx) d):=by
    funext b;by_cases z:b=d
    .rw[z,ao,ao]
    .rw[ar z,ar z];by_cases B:b=dx
     .rw[B,ao,ao]
     .rw[ar B,ar B,ar z]
   rw[ee]at y;let(t3,N):=(show ObjOk X.prog X.w _ s'.heap d (excN C (some dx) d) from y.hok d _ ao).1;x_go;have G:upd g dx (exD [(a1,p)] dx) d=none:=by rw[ar (Ne.symm a9)];exact a8
   have E:=Inv.unlay y G;exact(rv,d,t3,some dx,rfl,E.kIn,c,N,hx _ _ (CV j E l.new G N (q dx a7)))
  |next=>exact False.elim J
  |brk=>exact False.elim J|cont=>exact False.elim J
def Jd(C:ay)(sp:Sp)(W:St->XK)(t:TA):TE:=λc H _=>t c H λd a=>∀x dx,a x=none->a dx=none->dx≠x->sp (.ref x::d) (upd (upd a dx (.own x)) x (.ins C dx [])) (λ_ _=>False) (W c)
theorem Dt{p:Pos}(M:Mk X.K C f)(F:FnOk X.prog X.w X.K X.mg X.base (CXE X.prog X.w) k f fd ps sp')(E:Room (k+1) X.A)(y:Gl X x)(B:X.mg x\(.ref C))(o:Binds X.K fd ps [])(G:∀e s',XF X W e s'->X.xe e s')(n:PA X (e::es) t)(l:NoDb x)(he:SE X e es)(hpl:BA X pos es) :
  PE X (.Call (.Name x p) (e::es) [] pos) (Jd C sp' W t):=by
 intro d s j H Q I h;refine zyP (eA I y B ?_ l);refine zxb (h₀:=X.base) I.ok.mod.kin M.kp (thnE (n pos d s j H _ I h) λc a T H1 L r q=>(L.kIn,?_)) he hpl;have g:=q (a⁻¹+1) a⁻¹ (L.hok.fresh (zyW _)) (L.hok.fresh (zzs _)) (zzH (zyY _));have U:=Inv.made (C:=C) L;have i:Vals (V.ref (a⁻¹+1)::T) (zac (a⁻¹+1)::c):=.cons rfl r;have z:(zac (a⁻¹+1)::c++[]).length=ps.length:=by rw[zzB,<-i.length];exact F.len _ _ _ _ g
 refine zxY (wg (f:=f) L.kIn M.makes M.init (zxM.mp M.fn) (zyD (F.run _ X.stack _ _ (zac (a⁻¹+1)::c,[]) (zac (a⁻¹+1)::c++[]) _ _ (W j) (E.make C c [])
  (U.env0.make C c []) (o _ (zac (a⁻¹+1)::c) U.kIn z) (by rw[zzB];exact i) g) λr s' J=>?_))
 cases r with
 |error e=>exact G e s' (zR U J λ_ _ _ q=>q)
 |ok m =>
  cases m with
  |ret u =>
   let(v,H',I3,rv,N):=U.after J;exact N.elim
  |next=>exact False.elim J
  |brk=>exact False.elim J|cont=>exact False.elim J
end
theorem yj:OpR X (zaA .Mult) (λx y H Q=>∃i n,x=.str i/\y=.int n/\MulOk i n/\Q (.str (zdN i n)) H):=by intro pins s σ H x y v u Q I U c h;walk;let(i,n,rfl,rfl,a,q):=h;let(t,rfl):=U;let(d,rfl):=c;x_go;exact PySem.SB.mul a (λd tk=>(.str (zdN i n),H,I.tok _,(_,rfl),q))
theorem FnOk.down{P:cH}{w:World}{K:zvu}{c:Str->aT ax}{base:cx}{k:Nat}{f:ay}{fd:bo}{sp:Sp}(F:FnOk P w K c base (CXE P w) k f fd ps sp)(h:∀vs H Q E,sp' vs H Q E->sp vs H Q λ_ _ _=>False):FnOk P w K c base CX0 k f fd ps sp':=by
 refine(λvs H Q E q=>F.len _ _ _ _ (h _ _ _ _ q),λA a s H args j vs Q E g d U i q=>zyD (F.run A a s H args j vs Q _ g d U i (h _ _ _ _ q)) λr s' q=>?_);cases r with
 |ok v=>cases v<;>exact q
 |error e =>
  have(_,_,_,_,_,_,_,_,_,_,_,_,_,_,q):=q;exact q.elim
theorem FnOk.lift{P:cH}{w:World}{K:zvu}{c:Str->aT ax}{base:cx}{k:Nat}{f:ay}{fd:bo}{sp:Sp}(F:FnOk P w K c base CX0 k f fd ps sp)(h:∀vs H Q E,sp' vs H Q E->sp vs H Q E):FnOk P w K c base (CXE P w) k f fd ps sp':=by
 refine(λvs H Q E q=>F.len _ _ _ _ (h _ _ _ _ q),λA a s H args i vs Q E g d J L q=>zyD (F.run A a s H args i vs Q E g d J L (h _ _ _ _ q)) λr s' q=>?_);cases r with
 |ok v=>cases v<;>exact q
 |error e=>exact False.elim q
def Fc(C:ay)(m:Str)(sp:Sp)(W:St->XK)(ta:TE)(t:TA):TE:=λc H Q=>ta c H λx d=>∃a dx fs,x=.ref a/\d a\(.ins C dx fs)/\fs.lookup m=none/\t c d λh g=>sp (.ref a::h) g Q (W c)
section
variable{f C:ay}{sp:Sp}{m:Str}{apos:Pos}{o:cy}{es:av cy}{ta:TE}{t:TA}
theorem Dv{pl:Sem Bool}(he:PE X o ta)(c:Cls X.K C)(g:Meth X.K C m f)(F:FnOk X.prog X.w X.K X.mg X.base (CXE X.prog X.w) k f fd ps sp)(E:Room k X.A)(B:Binds X.K fd ps [])(M:∀e s',XF X W e s'->X.xe e s')(z:PA X (e::es) t)
  (J:SE X e es) (hpl:BA X pos es)
  (G:eval (.Call (.Attribute o m apos) (e::es) [] pos) X.env=(do
   let j <-eval o X.env
   zdk apos.atName
   let (f,first) <-zbM [j] (zcO j m pl)
   callWith pos f first (zbH pos (zaj (e::es) X.env)) (zbU pos (za1 [] X.env)))) :
  PE X (.Call (.Attribute o m apos) (e::es) [] pos) (Fc C m sp W ta t):=by
 intro d s n H Q I h;refine zcK (pl:=pl) (thn (he d s n H _ I h) λu b N=>?_) G;walk;let(x,v,L,Y,a,dx,fs,ex,y,l,q):=N;subst ex;x_go;obtain rfl:u=zac a:=Y;refine oO L y c g l ?_;refine zxb (first:=[.ref a]) (h₀:=X.base) I.ok.mod.kin g.kp (thnE (z pos d b n v _ L q) λus s2 vs H2 U r T=>(U.kIn,?_)) J hpl;exact uN (us:=.ref a::us) (vs:=.ref a::vs) F E B .nil M U (.cons rfl r) (by rw[zzB];exact T)
theorem Ay{pl:Sem Bool}(he:PE X o ta)(c:Cls X.K C)(g:Meth X.K C m f)(F:FnOk X.prog X.w X.K X.mg X.base (CXE X.prog X.w) k f fd ps sp)(p:Room k X.A)(n:Binds X.K fd ps [])(v:∀e s',XF X W e s'->X.xe e s')
  (r:eval (.Call (.Attribute o m apos) [] [] pos) X.env=(do
   let i <-eval o X.env
   zdk apos.atName
   let (f,first) <-zbM [i] (zcO i m pl)
   callWith pos f first (zbH pos (zaj [] X.env)) (zbU pos (za1 [] X.env)))) :
  PE X (.Call (.Attribute o m apos) [] [] pos) (Fc C m sp W ta tNil):=by
 intro d s B H Q I h;refine zcK (pl:=pl) (thn (he d s B H _ I h) λu s1 y=>?_) r;walk;let(x,H1,J,z,a,dx,fs,ex,j,l,q):=y;subst ex;x_go;obtain rfl:u=zac a:=z;refine oO J j c g l ?_;exact PySem.W.callWith_K0 (first:=[.ref a]) J.kIn g.kp (uN (us:=[.ref a]) (vs:=[.ref a]) F p n .nil v J (.cons rfl .nil) q)
end
inductive rCountS(x:V)(vs:List V)(H:Hp)(Q:VK):Prop
 |mk z y:x=.str z->vs=[.str y]->Q (.int (Txt.count z y)) H->rCountS x vs H Q
theorem Az:MtR X "str.count" rCountS:=by intro pins s σ H x vs v us Q I L J h;let(z,y,rfl,rfl,q):=h;let(t,rfl):=L;let(u,rfl,t',rfl):=J.one;exact SC.count (.int _,H,I.tok _,(_,rfl),q)
end Lake
namespace Tactic
open PySem PySem.Spec Lake
open PyProof.Rows hiding St
variable{A B:av ay}{H1:Hp}{N ps:av Str}{T:String}{Tb:TE}{a e tg:cy}{b:ay}{fd:bo}{i k m n:Nat}{ifs:av cy}{j r:Int}{mg:Str->aT ax}{o o':HO}{op op':CmpOp}{p p2 pos py:Pos}{us:av V}{y:Str}{α β:Type}
variable{K:zvu}{X:Cx}{pos p:Pos}{e:cy}{st:Stmt}{k i:Nat}
section
inductive D where
 |non|bl (b:Bool)|int (i:Int)|str (x:Str)|ty (n:String)|tup (ds:List D)|lst (ds:List D)
 |dK (ks:List Key) (ds:List D)|dT (ks:List (List Key)) (ds:List D)|pen|exc (C:Addr)|cls (C:Addr)|exa (C:Addr) (fs:List (Str×V))|ins (C:Addr) (ns:List Str) (ds:List D)
inductive O where
 |val (d:D)|lst (os:List O)|dct (ks:List (List Key)) (os:List O)|tup (os:List O)|dck (ks:List Key) (os:List O)|ins (a C:Addr) (ns:List Str) (os:List O)
inductive Sl where
 |nil|val (d:D)|own (ds:List D)|obj (o:O)|pin (v:V) (d:D)
variable{s:Sl}
section
variable(K:zvu)(pp:aT ay)(M:av ay)(H:Hp)
mutual
def Rep:D->V->Prop
 |.non,v=>v=.non|.bl b,v=>v=.bl b|.int i,v=>v=.int i|.str x,v=>v=.str x|.ty n,v=>v=.ty n|.tup d,v=>∃a g,v=.ref a/\H a\(.tup g)/\ei d g|.lst d,v=>∃a g,v=.ref a/\a∉M/\pp≠some a/\H a\(.lst g)/\ei d g|.dK h d,v=>∃a c,v=.ref a/\a∉M/\pp≠some a/\H a\(.dK c)/\c.map (·.1)=h/\ei d (c.map (·.2))|.dT h d,v=>∃a c,v=.ref a/\a∉M/\pp≠some a/\Rd H a (.dT c)/\c.map (·.1)=h/\ei d (c.map (·.2))|.pen,v=>∃p,v=.ref p/\pp\p/\∃a q t l,Pen K H p a q t l|.exc C,v=>∃a,v=.ref a/\a∉M/\pp≠some a/\H a\(excO C a)|.cls C,v=>v=.ref C|.exa C fs,v=>∃a dx,v=.ref a/\a∉M/\pp≠some a/\H a\(excA C (some dx) a)/\dx∉M/\pp≠some dx/\H dx\(exD fs dx)|.ins C q d,v=>∃a dx fs,v=.ref a/\a∉M/\pp≠some a/\H a\(.ins C dx fs)/\fs.map (·.1)=q/\ei d (fs.map (·.2))
def ei:av D->av V->Prop
 |[],c=>c=[]|d::g,c=>∃x r,c=x::r/\Rep d x/\ei g r
end
end
section
variable{pp:aT ay}{M M' M'':av ay}{H H' H'':Hp}
class TB where
 tb:List (Addr×Str)
instance(priority:=low) TB.none:TB:=⟨[]⟩
def Tabs[TB](H:Hp):Prop:=∀P L,TB.tb.lookup P\L->∃ps,H P\(.tbl ps)/\TriplesOk ps.toList /\
 ∀pos J,codeAmong pos ps.toList\J->∃c d u g t,J=.ref c/\H c\(.frz d u)/\d.data=.fields g/\g[1]?\(.str L t)
def TF(o:HO):Prop:=(∃ps,o=.tbl ps)∨∃c u,o=.frz c u
theorem Tabs.of[TB]{H:Hp}(h:Tabs H)(k:∀b o,H b\o->TF o->H1 b\o):Tabs H1:=λP x v=>by have(ps,d,g,l):=h P x v;refine(ps,k _ _ d (.inl (_,rfl)),g,λpos U e=>?_);have(c,w,u,z,t,f1,f2,q):=l pos U e;exact(c,w,u,z,t,f1,k _ _ f2 (.inr (_,_,rfl)),q)
theorem Tabs.upd[TB]{H:Hp}{l:ay}{o o':HO}(h:Tabs H)(c:H l\o)(J:¬TF o):Tabs (upd H l o') :=
 h.of λb x e L=>by
  rw[ar]
  .exact e
  .rintro rfl;rw[c]at e;cases e;exact J L
theorem Tabs.new[TB]{H:Hp}{l:ay}(h:Tabs H)(c:H l=none):Tabs (Lake.upd H l o') :=
 h.of λb x e _=>fc c e
theorem qu{xs:av V}:¬TF (.lst xs):=by rintro(⟨_,e⟩|⟨_,_,e⟩)<;>cases e
def NT(o:HO):Prop:=∀ps,o ≠ .tbl ps
def NP(pp:aT ay)(a:ay)(o:HO):Prop:=pp≠some a/\NT o
theorem np{pp:aT ay}{a:ay}(h:pp≠some a)(t:NT o:=by intro _ z;cases z):NP pp a o:=(h,t)
structure Mv[TB](K:zvu)(pp:Option Addr)(M:List Addr)(H:Hp)(M':List Addr)(H':Hp):Prop where
 tup:∀a xs,H a\(.tup xs)->H' a\(.tup xs)
 oth:∀a o,H a\o->a∉M->NP pp a o->H' a\o/\a∉M'
 pen:∀p,pp\p->(∃a ns t l,Pen K H p a ns t l)->∃a ns t l,Pen K H' p a ns t l
 tb:Tabs H->Tabs H'
variable[TB]
theorem Mv.lst(m:Mv K pp M H M' H')(a:ay)(xs:av V)(h:H a\(.lst xs))(n:a∉M)(q:pp≠some a):H' a\(.lst xs)/\a∉M':=m.oth a _ h n (np q)
theorem Mv.refl:Mv K pp M H M H:=(λ_ _ h=>h,λ_ _ h n _=>(h,n),λ_ _ h=>h,λh=>h)
theorem Mv.trans(x:Mv K pp M H M' H')(y:Mv K pp M' H' M'' H''):Mv K pp M H M'' H'' :=
 (λa c h=>y.tup a c (x.tup a c h),λa c h n q=>y.oth a c (x.oth a c h n q).1 (x.oth a c h n q).2 q,λp e h=>y.pen p e (x.pen p e h),λh=>y.tb (x.tb h))
mutual
theorem Rep.mv(m:Mv K pp M H M' H'):∀(d:D)(v:V),Rep K pp M H d v->Rep K pp M' H' d v
 |.non,_,h=>h|.bl _,_,h=>h|.int _,_,h=>h|.str _,_,h=>h|.ty _,_,h=>h|.tup q,_,h=>by simp only[Rep]at h⊢;let(a,g,e,c,l):=h;exact(a,g,e,m.tup a g c,ei.mv m q g l)
 |.lst q,_,h=>by simp only[Rep]at h⊢;let(a,g,e,h0,J,c,l):=h;exact(a,g,e,(m.lst a g c h0 J).2,J,(m.lst a g c h0 J).1,ei.mv m q g l)
 |.dK x q,_,h=>by simp only[Rep]at h⊢;let(a,g,e,h0,J,c,l,u):=h;exact(a,g,e,(m.oth a _ c h0 (np J)).2,J,(m.oth a _ c h0 (np J)).1,l,ei.mv m q _ u)
 |.dT x q,_,h=>by
  simp only[Rep]at h⊢;let(a,g,e,h0,J,c,l,u):=h;rcases c with c|⟨o,c⟩
  .exact(a,g,e,(m.oth a _ c h0 (np J)).2,J,.inl (m.oth a _ c h0 (np J)).1,l,ei.mv m q _ u)
  .exact(a,g,e,(m.oth a _ c h0 (np J)).2,J,.inr (o,(m.oth a _ c h0 (np J)).1),l,ei.mv m q _ u)
 |.pen,_,h=>by simp only[Rep]at h⊢;let(p,e,w,h):=h;exact(p,e,w,m.pen p w h)
 |.exc C,_,h=>by simp only[Rep]at h⊢;let(a,e,h0,J,c):=h;exact(a,e,(m.oth a _ c h0 (np J)).2,J,(m.oth a _ c h0 (np J)).1)
 |.cls _,_,h=>h|.exa C fs,_,h=>by simp only[Rep]at h⊢;let(a,dx,e,h0,J,c,l,u,L):=h;exact(a,dx,e,(m.oth a _ c h0 (np J)).2,J,(m.oth a _ c h0 (np J)).1,(m.oth dx _ L l (np u)).2,u,(m.oth dx _ L l (np u)).1)
 |.ins C ns q,_,h=>by simp only[Rep]at h⊢;let(a,dx,g,e,h0,J,c,l,u):=h;exact(a,dx,g,e,(m.oth a _ c h0 (np J)).2,J,(m.oth a _ c h0 (np J)).1,l,ei.mv m q _ u)
theorem ei.mv(m:Mv K pp M H M' H'):∀(ds:av D)(xs:av V),ei K pp M H ds xs->ei K pp M' H' ds xs
 |[],_,h=>by simp only[ei]at h⊢;exact h
 |d::ds,_,h=>by simp only[ei]at h⊢;let(x,r,e,c,g):=h;exact(x,r,e,Rep.mv m d x c,ei.mv m ds r g)
end
theorem ei.length:∀{ds:av D}{xs:av V},ei K pp M H ds xs->ds.length=xs.length
 |[],_,h=>by simp only[ei]at h;subst h;rfl
 |_::_,_,h=>by let(x,r,rfl,_,c):=h;simp[ei.length c]
theorem ei.get':∀{ds:av D}{xs:av V}{i:Nat}{d:D},ei K pp M H ds xs->ds[i]?\d->∃x,xs[i]?\x/\Rep K pp M H d x
 |[],_,_,_,h,e=>by simp at e
 |d::ds,_,0,x,h,e=>by simp only[ei]at h;have(y,r,rfl,c,g):=h;simp at e;subst e;exact(y,rfl,c)
 |d::ds,_,i+1,x,h,e=>by walk;let(y,r,rfl,c,g):=h;let(l,q,u):=ei.get' (i:=i) g e;x_go;exact(l,q,u)
theorem ei.append:∀{ds c:av D}{xs g:av V},ei K pp M H ds xs->ei K pp M H c g->ei K pp M H (ds++c) (xs++g)
 |[],_,_,_,h,q=>by simp only[ei]at h;subst h;exact q
 |d::ds,_,_,_,h,q=>by let(y,r,rfl,l,u):=h;exact(y,_,rfl,l,ei.append u q)
theorem ei.drop:∀{ds:av D}{xs:av V}(n:Nat),ei K pp M H ds xs->ei K pp M H (ds.drop n) (xs.drop n)
 |_,_,0,h=>h|[],_,n+1,h=>by simp only[ei]at h;subst h;simp[ei]
 |d::ds,_,n+1,h=>by let(y,r,rfl,h1,c):=h;exact ei.drop n c
theorem ei.take:∀{ds:av D}{xs:av V}(n:Nat),ei K pp M H ds xs->ei K pp M H (ds.take n) (xs.take n)
 |_,_,0,h=>by simp[ei]
 |[],_,n+1,h=>by simp only[ei]at h;subst h;simp[ei]
 |d::ds,_,n+1,h=>by simp only[ei]at h;have(y,r,rfl,c,g):=h;simp only[List.take_succ_cons,ei];exact(y,_,rfl,c,ei.take n g)
theorem ei.set{d:D}{x:V}(hd:Rep K pp M H d x):∀{ds:av D}{xs:av V}(n:Nat),ei K pp M H ds xs->ei K pp M H (ds.set n d) (xs.set n x)
 |[],_,n,h=>by simp only[ei]at h;subst h;simp[ei]
 |e::ds,_,0,h=>by simp only[ei]at h;let(y,r,rfl,g,c):=h;exact(x,r,rfl,hd,c)
 |e::ds,_,n+1,h=>by let(y,r,rfl,g,c):=h;exact(y,_,rfl,g,ei.set hd n c)
theorem ei.one{d:D}{x:V}(h:Rep K pp M H d x):ei K pp M H [d] [x]:=by  exact(x,[],rfl,h,rfl)
theorem ei.nil:ei K pp M H [] []:=by simp only[ei]
theorem ei.cons{d:D}{x:V}{ds:av D}{xs:av V}(h:Rep K pp M H d x)(q:ei K pp M H ds xs):ei K pp M H (d::ds) (x::xs):=by  exact(x,xs,rfl,h,q)
def NW(pp:aT ay)(b:ay)(o:HO):Prop:=(pp\b->∀c,o ≠ .lst c)/\NT o
theorem nw{pp:aT ay}(h:pp≠some b)(t:NT o:=by intro _ z;cases z):NW pp b o:=(λz=>absurd z h,t)
structure SameQ(K:zvu)(pp:Option Addr)(H H':Hp):Prop where
 keep:∀b o,H b\o->NW pp b o->H' b\o
 pen:∀p,pp\p->(∃a ns t l,Pen K H p a ns t l)->∃a ns t l,Pen K H' p a ns t l
 live:∀b,H b≠none->H' b≠none
structure SameP(K:zvu)(pp:Option Addr)(H H':Hp):Prop extends SameQ K pp H H' where
 tb:Tabs H->Tabs H'
theorem SameQ.refl:SameQ K pp H H:=(λ_ _ h _=>h,λ_ _ h=>h,λ_ h=>h)
theorem SameP.refl:SameP K pp H H:=(.refl,λh=>h)
theorem SameQ.trans(x:SameQ K pp H H')(y:SameQ K pp H' H''):SameQ K pp H H'' :=
 (λb o h n=>y.keep b o (x.keep b o h n) n,λp e h=>y.pen p e (x.pen p e h),λb h=>y.live b (x.live b h))
theorem SameP.trans(x:SameP K pp H H')(y:SameP K pp H' H''):SameP K pp H H'':=(x.toSameQ.trans y.toSameQ,λh=>y.tb (x.tb h))
theorem SameP.of(s:Same H H'):SameP K pp H H':=((λb o h _=>s b o h,λ_ _ ⟨a,c,t,l,h⟩=>(a,c,t,l,h.same s),λb h e=>by
 cases q:H b with
 |none=>exact h q|some o=>rw[s b o q]at e;cases e),λh=>h.of λb o e _=>s b o e)
theorem SameP.new{l:ay}(h:H l=none):SameP K pp H (upd H l o):=.of (wy h)
theorem SameP.mv(s:SameP K pp H H'):Mv K pp M H M H' :=
 (λa c h=>s.keep a _ h (λ_ _ z=>(by cases z),λ_ z=>(by cases z)),λa c h n q=>(s.keep a _ h (λz=>absurd z q.1,q.2),n),s.pen,s.tb)
theorem Mv.new{l:ay}{o:HO}(h:H l=none):Mv K pp M H M (upd H l o):=(SameP.new h).mv
theorem Mv.newOwn{l:ay}(h:H l=none):Mv K pp M H (l::M) (upd H l o) :=
 (λa c e=>fc h e,λa c e n q=>(fc h e,by
  intro z;rcases zze.mp z with rfl|z
  .rw[h]at e;cases e
  .exact n z),(SameP.new h).pen,λt=>t.new h)
theorem Mv.less{l:av ay}(h:∀a∈l,a∈M):Mv K pp M H l H:=(λ_ _ h=>h,λa xs e n _=>(e,λz=>n (h a z)),λ_ _ h=>h,λh=>h)
theorem GL{p l:ay}{xs:av V}(c:H l\(.lst xs))(J:p≠l):(∃a ns t k,Pen K H p a ns t k)->∃a ns t k,Pen K (upd H l (.lst us)) p a ns t k:=by
 rintro⟨a,ns,t,k,h⟩;refine(a,ns,t,k,?_,?_,h.t0)
 .rw[ar J];exact h.lst
 .rcases h.scr with ⟨o,e⟩|e
  .refine .inl (o,?_);rw[ar (nW e c (by intro z;cases z))];exact e
  .exact .inr e
theorem Mv.write{l:ay}{xs:av V}(c:H l\(.lst xs))(d:l∈M)(J:pp≠some l):Mv K pp M H M (upd H l (.lst us)) :=
 (λa g e=>by rw[ar (nW e c (by intro z;cases z))];exact e,
  λa g e n q=>(by rw[ar (by rintro rfl;exact n d)];exact e,n),
  λp e h=>GL c (by rintro rfl;exact J e) h,λt=>t.upd c qu)
end
section
variable(K:zvu)(pp:aT ay)(M:av ay)(H:Hp)
mutual
def RO:O->V->av ay->Prop
 |.val d,v,A=>A=[]/\Rep K pp M H d v|.lst os,v,A=>∃a g B,v=.ref a/\H a\(.lst g)/\A=a::B/\ROs os g B|.dct h os,v,A=>∃a c B,v=.ref a/\H a\(.dT c)/\c.map (·.1)=h/\A=a::B/\ROs os (c.map (·.2)) B|.tup os,v,A=>∃a g,v=.ref a/\H a\(.tup g)/\ROs os g A|.dck h os,v,A=>∃a c B,v=.ref a/\H a\(.dK c)/\c.map (·.1)=h/\A=a::B/\ROs os (c.map (·.2)) B|.ins a C l os,v,A=>∃dx fs B,v=.ref a/\H a\(.ins C dx fs)/\fs.map (·.1)=l/\A=a::B/\ROs os (fs.map (·.2)) B
def ROs:av O->av V->av ay->Prop
 |[],c,A=>c=[]/\A=[]|o::os,c,A=>∃x r B C,c=x::r/\A=B++C/\RO o x B/\ROs os r C
end
end
section
variable{pp:aT ay}{M M':av ay}{H H':Hp}[TB]
mutual
theorem RO.mv(m:Mv K pp M H M' H'):∀(q:O)(v:V)(A:av ay),(∀a∈A,∀o,H a\o->NT o->H' a\o)->RO K pp M H q v A->RO K pp M' H' q v A
 |.val d,v,A,_,h=>by simp only[RO]at h⊢;exact(h.1,Rep.mv m d v h.2)
 |.lst os,v,A,k,h=>by simp only[RO]at h⊢;let(a,l,B,e,g,rfl,r):=h;exact(a,l,B,e,k a zzd _ g (by intro _ z;cases z),rfl,ROs.mv m os l B (λb J=>k b (zzc _ J)) r)
 |.dct w os,v,A,k,h=>by simp only[RO]at h⊢;let(a,c,B,e,g,u,rfl,r):=h;exact(a,c,B,e,k a zzd _ g (by intro _ z;cases z),u,rfl,ROs.mv m os _ B (λb J=>k b (zzc _ J)) r)
 |.tup os,v,A,k,h=>by simp only[RO]at h⊢;let(a,l,e,g,r):=h;exact(a,l,e,m.tup a l g,ROs.mv m os l A k r)
 |.dck w os,v,A,k,h=>by simp only[RO]at h⊢;let(a,c,B,e,g,u,rfl,r):=h;exact(a,c,B,e,k a zzd _ g (by intro _ z;cases z),u,rfl,ROs.mv m os _ B (λb J=>k b (zzc _ J)) r)
 |.ins a C w os,v,A,k,h=>by simp only[RO]at h⊢;let(dx,c,B,e,g,u,rfl,r):=h;exact(dx,c,B,e,k a zzd _ g (by intro _ z;cases z),u,rfl,ROs.mv m os _ B (λb J=>k b (zzc _ J)) r)
theorem ROs.mv(m:Mv K pp M H M' H'):∀(os:av O)(xs:av V)(A:av ay),(∀a∈A,∀o,H a\o->NT o->H' a\o)->ROs K pp M H os xs A->ROs K pp M' H' os xs A
 |[],xs,A,_,h=>by simp only[ROs]at h⊢;exact h
 |o::os,xs,A,k,h=>by simp only[ROs]at h⊢;let(x,r,B,C,e,rfl,c,d):=h;exact(x,r,B,C,e,rfl,RO.mv m o x B (λb J=>k b (zzg.mpr (.inl J))) c,ROs.mv m os r C (λb J=>k b (zzg.mpr (.inr J))) d)
end
mutual
def fzO:O->D
 |.val d=>d|.lst os=>.lst (fzOs os)|.dct c os=>.dT c (fzOs os)|.tup os=>.tup (fzOs os)|.dck c os=>.dK c (fzOs os)|.ins _ C g os=>.ins C g (fzOs os)
def fzOs:av O->av D
 |[]=>[]|o::os=>fzO o::fzOs os
end
mutual
theorem RO.fz(m:Mv K pp M H M' H):∀(q:O)(v:V)(A:av ay),(∀a∈A,a∉M'/\pp≠some a)->RO K pp M H q v A->Rep K pp M' H (fzO q) v
 |.val d,v,A,_,h=>by simp only[RO]at h;simp only[fzO];exact Rep.mv m d v h.2
 |.lst os,v,A,k,h=>by simp only[RO]at h;simp only[fzO,Rep];let(a,u,B,e,g,rfl,r):=h;exact(a,u,e,(k a zzd).1,(k a zzd).2,g,ROs.fz m os u B (λb J=>k b (zzc _ J)) r)
 |.dct w os,v,A,k,h=>by simp only[RO]at h;simp only[fzO,Rep];let(a,c,B,e,g,l,rfl,r):=h;exact(a,c,e,(k a zzd).1,(k a zzd).2,.inl g,l,ROs.fz m os _ B (λb J=>k b (zzc _ J)) r)
 |.tup os,v,A,k,h=>by simp only[RO]at h;simp only[fzO,Rep];let(a,u,e,g,r):=h;exact(a,u,e,g,ROs.fz m os u A k r)
 |.dck w os,v,A,k,h=>by simp only[RO]at h;simp only[fzO,Rep];let(a,c,B,e,g,l,rfl,r):=h;exact(a,c,e,(k a zzd).1,(k a zzd).2,g,l,ROs.fz m os _ B (λb J=>k b (zzc _ J)) r)
 |.ins a C w os,v,A,k,h=>by simp only[RO]at h;simp only[fzO,Rep];let(dx,c,B,e,g,l,rfl,r):=h;exact(a,dx,c,e,(k a zzd).1,(k a zzd).2,g,l,ROs.fz m os _ B (λb J=>k b (zzc _ J)) r)
theorem ROs.fz(m:Mv K pp M H M' H):∀(os:av O)(xs:av V)(A:av ay),(∀a∈A,a∉M'/\pp≠some a)->ROs K pp M H os xs A->ei K pp M' H (fzOs os) xs
 |[],xs,A,_,h=>by simp only[ROs]at h;simp only[fzOs,ei];exact h.1
 |o::os,xs,A,k,h=>by simp only[ROs]at h;simp only[fzOs,ei];let(x,r,B,C,e,rfl,c,d):=h;exact(x,r,e,RO.fz m o x B (λb J=>k b (zzg.mpr (.inl J))) c,ROs.fz m os r C (λb J=>k b (zzg.mpr (.inr J))) d)
end
theorem qv:∀os:av O,fzOs os=os.map fzO
 |[]=>rfl|o::os=>by simp only[fzOs,zzq,qv os]
end
structure Fx where
 pp:Option Addr
 M0:List Addr
 H0:Hp
abbrev DS:=av Sl
variable[TB]
class Frm where
 L:zvu->Fx->List Addr->Hp->Prop
 W:DS->Addr->Prop
 cl:∀K(F:Fx)M H M' H',L K F M H->Mv K F.pp M H M' H'->L K F M' H'
instance(priority:=low) Frm.free:Frm:=(λ_ _ _ _=>True,λ_ _=>False,λ_ _ _ _ _ _ h _=>h)
variable[Frm]
structure Lv0(pp:Option Addr)(M:List Addr)(H:Hp):Prop where
 m:∀a∈M,H a≠none
 p:∀p,pp\p->H p≠none
structure Lv(pp:Option Addr)(M:List Addr)(H:Hp):Prop extends Lv0 pp M H where
 t:Tabs H
theorem Lv0.sameQ{K:zvu}{pp:aT ay}{M:av ay}{H:Hp}(l:Lv0 pp M H)(s:SameQ K pp H H1):Lv0 pp M H1 :=
 (λa c=>s.live a (l.m a c),λp e=>s.live p (l.p p e))
theorem Lv0.fresh{pp:aT ay}{M:av ay}{H:Hp}{a:ay}(l:Lv0 pp M H)(h:H a=none):a∉M/\pp≠some a:=(λz=>l.m a z h,λz=>l.p a z h)
structure Lk(K:zvu)(F:Fx)(M:List Addr)(H:Hp):Prop where
 l:Frm.L K F M H
 t:Tabs H
theorem Lk.cl{K:zvu}{F:Fx}{M c:av ay}{H H':Hp}(h:Lk K F M H)(m:Mv K F.pp M H c H'):Lk K F c H':=(Frm.cl _ _ _ _ _ _ h.l m,m.tb h.t)
section
variable(K:zvu)(F:Fx)(M:av ay)(H:Hp)
def RSl:Sl->aT V->Prop
 |.nil,_=>True|.val d,o=>∃v,o\v/\Rep K F.pp M H d v|.own g,o=>∃l c,o\(.ref l)/\l∈M/\F.H0 l=none/\F.pp≠some l/\H l\(.lst c)/\ei K F.pp M H g c|.obj _,o=>∃v,o\v|.pin w d,o=>∃v,o\v/\v=w/\Rep K F.pp M H d v
def Ow:Sl->aT V->av ay->Prop
 |.own _,o,A=>∃l,o\(.ref l)/\A=[l]|.obj q,o,A=>A.Nodup/\∃v,o\v/\RO K F.pp M H q v A|_,_,_=>True
inductive OwF(σ:St)(ρ:DS):Prop
 |mk (As:Nat->List Addr):(∀(i:Nat)s o,ρ[i]? = some s->σ[i]? = some o->Ow K F M H s o (As i))->(∀i,∀a∈As i,a∈M/\F.H0 a=none/\F.pp≠some a)->(∀i j,i≠j->∀a∈As i,a∉As j)->OwF σ ρ
structure RSt(σ:St)(ρ:DS):Prop where
 len:σ.length=ρ.length
 sl:∀(i:Nat)s o,ρ[i]? = some s->σ[i]? = some o->RSl K F M H s o
 ow:OwF K F M H σ ρ
 sub:∀a∈F.M0,a∈M
 same:SameQ K F.pp F.H0 H
 old:∀a∈F.M0,F.H0 a≠none
 liv0:Lv0 F.pp M H
 lk:Lk K F M H
end
section
variable{F:Fx}{M M':av ay}{H H':Hp}{σ:St}{ρ:DS}
theorem RSt.liv(r:RSt K F M H σ ρ):Lv F.pp M H:=(r.liv0,r.lk.t)
omit [Frm] in
theorem RSt.sameT{fr:Frm}(r : @RSt _ fr K F M H σ ρ):SameP K F.pp F.H0 H:=(r.same,λ_=>r.lk.t)
theorem RSt.h0(r:RSt K F M H σ ρ){l:ay}(c:H l=none):F.H0 l=none:=by
 cases e:F.H0 l with
 |none=>rfl|some o=>exact absurd c (r.same.live l (by rw[e];intro z;cases z))
omit [Frm] in
theorem Ow.mv{s:Sl}{o:aT V}{A:av ay}(m:Mv K F.pp M H M' H')(k:∀a∈A,∀x,H a\x->NT x->H' a\x)(h:Ow K F M H s o A):Ow K F M' H' s o A:=by
 cases s with
 |nil=>trivial|val d=>trivial|pin w d=>trivial|own ds=>exact h|obj q =>
  have(c,v,e,h):=h;exact(c,v,e,RO.mv m q v A k h)
omit [Frm] in
theorem OwF.keep(h:OwF K F M H σ ρ)(m:Mv K F.pp M H M' H')(k:∀a,a∈M->F.pp≠some a->F.H0 a=none->a∈M'/\∀x,H a\x->NT x->H' a\x):OwF K F M' H' σ ρ:=by let(g,u,d,v):=h;refine(g,λi s o l q=>(u i s o l q).mv m λa c=>(k a (d i a c).1 (d i a c).2.2 (d i a c).2.1).2,λi a c=>((k a (d i a c).1 (d i a c).2.2 (d i a c).2.1).1,(d i a c).2),v)
omit [Frm] in
theorem OwF.step{q:St}{ρ':DS}(h:OwF K F M H σ ρ)(m:Mv K F.pp M H M' H')(i:Nat)(U:∀j,j≠i->q[j]?=σ[j]?)(L:∀j,j≠i->ρ'[j]?=ρ[j]?)
  (k:∀A,(∀s o,ρ[i]?\s->σ[i]?\o->Ow K F M H s o A)->(∀a∈A,a∈M/\F.H0 a=none/\F.pp≠some a)->∃B,(∀s o,ρ'[i]?\s->q[i]?\o->Ow K F M' H' s o B) /\
   (∀b∈B,b∈M'/\F.H0 b=none/\F.pp≠some b/\(b∈A∨b∉M))/\∀a,a∈M->F.pp≠some a->F.H0 a=none->a∉A->a∈M'/\∀x,H a\x->NT x->H' a\x):OwF K F M' H' q ρ':=by
 let(d,E,g,C):=h;let(B,G,w,I):=k (d i) (E i) (g i);have old:∀j,j≠i->∀a∈d j,a∈M'/\∀x,H a\x->NT x->H' a\x:=λj e a c=>I a (g j a c).1 (g j a c).2.2 (g j a c).2.1 (C j i e a c);refine(λj=>if j=i then B else d j,λj s o u v=>?_,λj a c=>?_,λj l e a c J=>?_)
 .show Ow K F M' H' s o (if j=i then B else d j);by_cases e:j=i
  .subst e;rw[zzu rfl];exact G s o u v
  .rw[zzn e];rw[L j e]at u;rw[U j e]at v;exact(E j s o u v).mv m λa c=>(old j e a c).2
 .replace c:a∈(if j=i then B else d j):=c
  by_cases e:j=i
  .subst e;rw[zzu rfl]at c;exact((w a c).1,(w a c).2.1,(w a c).2.2.1)
  .rw[zzn e]at c;exact((old j e a c).1,(g j a c).2)
 .replace c:a∈(if j=i then B else d j):=c
  replace J:a∈(if l=i then B else d l):=J
  by_cases u:j=i
  .subst u;rw[zzu rfl]at c;rw[zzn (Ne.symm e)]at J;rcases (w a c).2.2.2 with z|z
   .exact C j l e a z J
   .exact z (g l a J).1
  .rw[zzn u]at c;by_cases v:l=i
   .subst v;rw[zzu rfl]at J;rcases (w a J).2.2.2 with z|z
    .exact C j l e a c z
    .exact z (g j a c).1
   .rw[zzn v]at J;exact C j l e a c J
omit [Frm] in
theorem OwF.none(h:∀(i:Nat)s,ρ[i]?\s->(∀ds,s ≠ .own ds)/\∀q,s ≠ .obj q):OwF K F M H σ ρ:=by
 refine(λ_=>[],λi s o c _=>?_,λ_ _ h=>(by cases h),λ_ _ _ _ h=>(by cases h));cases s with
 |nil=>trivial|val d=>trivial|pin w d=>trivial|own ds=>exact absurd rfl ((h i _ c).1 ds)|obj q=>exact absurd rfl ((h i _ c).2 q)
theorem RSt.own(r:RSt K F M H σ ρ)(i j:Nat)(ds g:av D)(a:ay)(h:ρ[i]?\(.own ds))(q:ρ[j]?\(.own g))(u:σ[i]?\(some (.ref a)))(v:σ[j]?\(some (.ref a))):i=j:=by
 walk;let(As,c,k2,w):=r.ow;let(l,e,d):=c i _ _ h u;x_go;cases e;have(l,e,U):=c j _ _ q v;cases e;by_cases z:i=j
 .exact z
 .exact absurd (by rw[U];simp) (w i j z a (by rw[d];simp))
omit [Frm] in
theorem SameP.ow(s:SameP K F.pp H H')(a:ay)(_:a∈M)(p:F.pp≠some a)(_:F.H0 a=none):a∈M/\∀x,H a\x->NT x->H' a\x:=(‹_›,λx e n=>s.keep a x e (nw p n))
omit [Frm] in
theorem RSt.sameP{fr:Frm}(r : @RSt _ fr K F M H σ ρ)(s:SameP K F.pp H H') : @RSt _ fr K F M H' σ ρ:=by
 refine(r.len,λi q o c g=>?_,r.ow.keep s.mv λa c g u=>s.ow a c g u,r.sub,r.same.trans s.toSameQ,r.old,r.liv0.sameQ s.toSameQ,r.lk.cl s.mv);have:=r.sl i q o c g;cases q with
 |nil=>trivial|val d=>let(v,e,h):=this;exact(v,e,h.mv s.mv)
 |pin w d=>let(v,e,L,h):=this;exact(v,e,L,h.mv s.mv)
 |own ds =>
  let(l,E,e,z,h0,J,x,C):=this;exact(l,E,e,z,h0,J,s.keep l _ x (nw J),C.mv s.mv)
 |obj q=>exact this
theorem RSt.at(r:RSt K F M H σ ρ)(h:ρ[i]?\s):∃o,σ[i]?\o/\RSl K F M H s o:=by
 have c:i<σ.length:=by rw[r.len];exact(zzC.mp h).1
 exact(σ[i],by simp[c],r.sl i s _ h (by simp[c]))
omit [Frm] in
theorem OwF.drop{c:St}{ρ':DS}(h:OwF K F M H σ ρ)(i:Nat)(L:∀j,j≠i->c[j]?=σ[j]?)(J:∀j,j≠i->ρ'[j]?=ρ[j]?)(g:∀s,ρ'[i]?\s->(∀ds,s ≠ .own ds)/\∀q,s ≠ .obj q):OwF K F M H c ρ' :=
 h.step .refl i L J λA _ _=>([],λs o e _=>(by
  cases s with
  |nil=>trivial|val d=>trivial|pin w d=>trivial|own ds=>exact absurd rfl ((g _ e).1 ds)|obj q=>exact absurd rfl ((g _ e).2 q)),λ_ h=>(by cases h),λa l _ _ _=>(l,λ_ e _=>e))
omit [Frm] in
theorem bb{l:av α}{x y:α}(h:(l.set i x)[i]?\y):y=x:=by
 have c:i<l.length:=by have:=(zzC.mp h).1;simpa using this
 simp[c]at h;exact h.symm
theorem RSt.set(r:RSt K F M H σ ρ){d:D}{v:V}(h:Rep K F.pp M H d v)(i:Nat):RSt K F M H (σ.set i (some v)) (ρ.set i (.val d)):=by
 refine(by simp[r.len],λj s o c g=>?_,r.ow.drop i (λj e=>zzG (Ne.symm e)) (λj e=>zzG (Ne.symm e)) (λs e=>?_),r.sub,r.same,r.old,r.liv0,r.lk)
 .by_cases e:i=j
  .subst e;rw[bb c,bb g];exact(v,rfl,h)
  .rw[zzG e]at c g;exact r.sl j s o c g
 .rw[bb e];exact(λds z=>(by cases z),λq z=>(by cases z))
end
end
variable[TB]
section
variable[Frm]
abbrev DE:=DS->(D->DS->Prop)->Prop
variable{ta te:DE}
abbrev DT:=DS->(Bool->DS->Prop)->Prop
abbrev DA:=DS->(av D->DS->Prop)->Prop
structure DEnds where
 nx:DS->Prop
 rt:D->DS->Prop
 bk:DS->Prop:=λ_=>False
 ct:DS->Prop:=λ_=>False
variable{E:DEnds}
abbrev DTS:=DEnds->DS->Prop
variable{tb:DTS}
noncomputable def slot:DS->Nat->Sl
 |[],_=>.nil|s::_,0=>s|_::r,n+1=>slot r n
theorem aQ{ρ:DS}{s:Sl}(h:slot ρ i=s)(n:s ≠ .nil:=by intro z;cases z):ρ[i]?\s:=by
 induction ρ generalizing i with
 |nil=>exact absurd h.symm n|cons x r J=>cases i with
  |zero=>subst h;rfl|succ i=>simpa using J h
section
variable{F:Fx}
def RT(K:zvu){α β:Type}(R:aT ay->av ay->Hp->α->β->Prop)(T:St->Hp->(β->Hp->Prop)->Prop)(t:DS->(α->DS->Prop)->Prop):Prop :=
 ∀{F:Fx}{M H l ρ Q P},RSt K F M H l ρ->t ρ P->(∀{d c h g v},P d c->Mv K F.pp M H h g->RSt K F h g l c->R F.pp h g d v->Q v g)->T l H Q
def RU(K:zvu){α:Type}(T:St->Hp->(α->Hp->Prop)->Prop)(t:DS->(α->DS->Prop)->Prop):Prop :=
 ∀{F:Fx}{M H h ρ Q P},RSt K F M H h ρ->t ρ P->(∀{d c l g},P d c->Mv K F.pp M H l g->RSt K F l g h c->Q d g)->T h H Q
inductive PED(X:Cx)(e:Expr)(t:DE):Prop
 |mk (T:TE):PE X e T->RT X.K (Rep X.K) T t->PED X e t
theorem PED.ex{fr:Frm}(h : @PED _ fr X e t):∃T:TE,PE X e T/\RT X.K (Rep X.K) T t:=by let(T,p,r):=h;exact(T,p,r)
inductive PTD(X:Cx)(e:Expr)(t:DT):Prop
 |mk (T:TT):PT X e T->RU X.K T t->PTD X e t
inductive PWD(X:Cx)(e:Expr)(t:DT):Prop
 |mk (T:TT):PW X e T->RU X.K T t->PWD X e t
inductive PAD(X:Cx)(es:List Expr)(t:DA):Prop
 |mk (T:TA):PA X es T->RT X.K (ei X.K) T t->PAD X es t
abbrev dC(d:D):DE:=λc Q=>Q d c
theorem PED.con{d:D}{v:V}(h:PE X e (tC v))(r:∀pp M H,Rep X.K pp M H d v):PED X e (dC d) :=
 (_,h,λJ q k=>k q .refl J (r _ _ _))
theorem ai{i j pos}:PED X (.Constant (.int i) j pos) (dC (.int i)):=.con cE λ_ _ _=>by simp only[Rep]
theorem fR{i j pos}:PED X (.Constant (.bool i) j pos) (dC (.bl i)):=.con KH λ_ _ _=>by simp only[Rep]
theorem fG{j pos}:PED X (.Constant .none j pos) (dC .non):=.con HY λ_ _ _=>by simp only[Rep]
theorem ag{i j pos}:PED X (.Constant (.str i) j pos) (dC (.str i)):=.con HZ λ_ _ _=>by simp only[Rep]
theorem gL{x:Str}{n:String}(c:X.mg x=none)(J:Gl X x:=by rfl)(L:zaG x\(.type n):=by rfl)(d:x ≠ "__name__":=by decide)(hd:NoDb x:=by decide):PED X (.Name x pos) (dC (.ty n)) :=
 .con (FL (v:=.ty n) J c L rfl d hd) λ_ _ _=>by simp only[Rep]
def Lm(i:Nat)(ρ:DS)(Q:D->DS->Prop):Sl->Prop
 |.val d=>Q d ρ|.own c=>Q (.lst c) (ρ.set i (.val (.lst c)))|.obj q=>Q (fzO q) (ρ.set i (.val (fzO q)))|.pin _ d=>Q d ρ|.nil=>False
abbrev dVar(i:Nat):DE:=λc Q=>Lm i c Q (slot c i)
theorem RSt.freeze{K:zvu}{M:av ay}{H:Hp}{C:St}{ρ:DS}{ds:av D}(r:RSt K F M H C ρ)(h:ρ[i]?\(.own ds)) :
  ∃x v,C[i]?\(some v)/\Mv K F.pp M H x H/\RSt K F x H C (ρ.set i (.val (.lst ds)))/\Rep K F.pp x H (.lst ds) v:=by
 have(o,ho,l,xs,rfl,hm,h0,hp,N,hr):=r.at h;have m:Mv K F.pp M H (M.filter λa=>decide (a≠l)) H:=.less λa c=>(zzM.mp c).1;have I:Rep K F.pp (M.filter λa=>decide (a≠l)) H (.lst ds) (.ref l):=by exact(l,xs,rfl,'s',hp,N,hr.mv m)
 refine(_,_,ho,m,(by simp[r.len],λj s o g u=>?_,r.ow.step m i (λ_ _=>rfl) (λj e=>zzG (Ne.symm e)) (λA E _=>([],λs o e _=>?_,λ_ h=>(by cases h),λa c _ _ T=>(?_,λ_ e _=>e))),λa c=>?_,r.same,r.old,?_,r.lk.cl m),I)
 .by_cases e:i=j
  .subst e;rw[ho]at u;rw[bb g];cases u;exact(_,rfl,I)
  .rw[zzG e]at g;have q:=r.sl j s o g u;cases s with
   |nil=>trivial|val d=>let(v,e,q):=q;exact(v,e,q.mv m)
   |pin w d=>let(v,e,B,q):=q;exact(v,e,B,q.mv m)
   |own es =>
    have(G,ys,rfl,Y,U,b,Q,k):=q;refine(G,ys,rfl,zzM.mpr (Y,?_),U,b,Q,k.mv m);by_cases z:G=l
    .subst z;exact absurd (r.own i j _ _ _ h g ho u) e
    .simpa using z
   |obj q=>exact ‹_›
 .rw[bb e];trivial
 .let(l2,n,y):=E _ _ h ho;cases n;refine zzM.mpr (c,?_);by_cases z:a=l
  .subst z;exact absurd (by rw[y];simp) T
  .simpa using z
 .refine zzM.mpr (r.sub a c,?_);by_cases z:a=l
  .subst z;exact absurd h0 (r.old a c)
  .simpa using z
 .exact(λa c=>r.liv.m a (zzM.mp c).1,r.liv.p)
theorem RSt.objAt{K:zvu}{M:av ay}{H:Hp}{c:St}{ρ:DS}{q:O}(r:RSt K F M H c ρ)(h:ρ[i]?\(.obj q)) :
  ∃v A,c[i]?\(some v)/\A.Nodup/\RO K F.pp M H q v A/\(∀a∈A,a∈M/\F.H0 a=none/\F.pp≠some a)/\∀(j:Nat)s o,j≠i->ρ[j]?\s->c[j]?\o->∀l,(∃ds,s=.own ds)->o\(.ref l)->l∉A:=by
 walk;let(o,ho,_):=r.at h;let(g,d,Q,Y):=r.ow;let(b,v,rfl,G):=d i _ _ h ho;x_go;refine(v,g i,ho,b,G,Q i,λj s o e x z l I U C=>?_);walk;let(ds,rfl):=I;subst U;let(l2,u,w):=d j _ _ x z;x_go;cases u;exact Y j i e l (by rw[w];simp) C
theorem RSt.freezeO{K:zvu}{M:av ay}{H:Hp}{y:St}{ρ:DS}{q:O}(r:RSt K F M H y ρ)(h:ρ[i]?\(.obj q)) :
  ∃Y v,y[i]?\(some v)/\Mv K F.pp M H Y H/\RSt K F Y H y (ρ.set i (.val (fzO q)))/\Rep K F.pp Y H (fzO q) v:=by
 walk;let(g,b,Q,k):=r.ow;let(o,ho,_):=r.at h;let(nd,v,rfl,hq):=b i _ _ h ho;x_go;have m:Mv K F.pp M H (M.filter λa=>decide (a∉g i)) H:=.less λa c=>(zzM.mp c).1;have B:Rep K F.pp (M.filter λa=>decide (a∉g i)) H (fzO q) v:=RO.fz m q v (g i) (λa c=>(λz=>absurd c (by simpa using(zzM.mp z).2),(Q i a c).2.2)) hq;refine(_,_,ho,m,(by simp[r.len],λj s o G I=>?_,(λj=>if j=i then[] else g j,λj s o u C=>?_,λj a c=>?_,λj l e a c U=>?_),λa c=>?_,r.same,r.old,?_,r.lk.cl m),B)
 .by_cases e:i=j
  .subst e;rw[ho]at I;rw[bb G];cases I;exact(_,rfl,B)
  .rw[zzG e]at G;have n:=r.sl j s o G I;cases s with
   |nil=>trivial|val d=>let(v,e,q):=n;exact(v,e,q.mv m)
   |pin w d=>let(v,e,ew,q):=n;exact(v,e,ew,q.mv m)
   |own es =>
    have(A,ys,rfl,T,E,a7,N,a8):=n;refine(A,ys,rfl,zzM.mpr (T,?_),E,a7,N,a8.mv m);have(l2,C,e3):=b j _ _ G I;cases C;simpa using k j i (Ne.symm e) A (by rw[e3];simp)
   |obj q=>exact ‹_›
 .show Ow K F _ H s o (if j=i then[] else g j);by_cases e:j=i
  .subst e;rw[bb u];trivial
  .rw[zzn e];rw[zzG (Ne.symm e)]at u;exact(b j s o u C).mv m λa _ x z _=>z
 .replace c:a∈(if j=i then[] else g j):=c
  by_cases e:j=i
  .rw[zzu e]at c;cases c
  .rw[zzn e]at c;exact(zzM.mpr ((Q j a c).1,by simpa using k j i e a c),(Q j a c).2)
 .replace c:a∈(if j=i then[] else g j):=c
  by_cases u:j=i
  .rw[zzu u]at c;cases c
  .by_cases C:l=i
   .rw[zzu C]at U;cases U
   .rw[zzn u]at c;rw[zzn C]at U;exact k j l e a c U
 .refine zzM.mpr (r.sub a c,?_);have:a∉g i:=λz=>r.old a c (Q i a z).2.1;simpa using this
 .exact(λa c=>r.liv.m a (zzM.mp c).1,r.liv.p)
theorem Je(i:Nat)(h:PE X e (tVar i)):PED X e (dVar i):=by
 refine(_,h,λ{F M H σ g Q P} L q k=>?_);unfold dVar at q;cases e:slot g i with
 |nil=>rw[e]at q;exact q.elim|val d=>rw[e]at q;let(o,ho,v,rfl,r):=L.at (aQ e);exact(v,ho,k q .refl L r)
 |pin w d=>rw[e]at q;let(o,ho,v,rfl,_,r):=L.at (aQ e);exact(v,ho,k q .refl L r)
 |own ds=>rw[e]at q;let(c,v,ho,m,J,r):=L.freeze (aQ e);exact(v,ho,k q m J r)
 |obj z=>rw[e]at q;let(c,v,ho,m,J,r):=L.freezeO (aQ e);exact(v,ho,k q m J r)
def OpT(K:zvu)(r:R2)(g:D->D->(D->Prop)->Prop):Prop:=∀{pp M H x y v u Q P},Lv pp M H->Rep K pp M H x v->Rep K pp M H y u->g x y P->(∀{d c w},P d->SameP K pp H c->Rep K pp M c d w->Q w c)->r v u H Q
inductive OpD(X:Cx)(f:Value->Value->Sem Value)(g:D->D->(D->Prop)->Prop):Prop
 |mk (r:R2):OpR X f r->OpT X.K r g->OpD X f g
abbrev dOp(g:D->D->(D->Prop)->Prop)(ta tb:DE):DE:=λh Q=>ta h λx c=>tb c λy J=>g x y λd=>Q d J
variable{a b c:cy}{ta tb tc:DE}{g g':D->D->(D->Prop)->Prop}
theorem jL{g:D->D->(D->Prop)->Prop}{r:R2}{Ta:TE}(U:OpT X.K r g)(v:RT X.K (Rep X.K) Ta ta)(w:RT X.K (Rep X.K) Tb tb):RT X.K (Rep X.K) (tOp r Ta Tb) (dOp g ta tb):=λx h k =>
 v x h λh l L q=>w L h λh d J u=>U J.liv (q.mv d) u h λh s r=>k h ((l.trans d).trans s.mv) (J.sameP s) r
theorem ak{op:Operator}(ho:OpD X (zaA op) g)(d:PED X a ta)(U:PED X b tb):PED X (.BinOp a op b pos) (dOp g ta tb):=by walk;let(r,l,h):=ho;let(Ta,q,u):=d;let(Tb,s,v):=U;x_go;exact(_,dM l q s,jL h u v)
theorem dc(ho:OpD X (zae op) g)(d:PED X a ta)(U:PED X b tb)(l:zbA op b=false:=by exact oM _):PED X (.Compare a [op] [b] pos) (dOp g ta tb):=by walk;let(r,q,h):=ho;let(Ta,s,v):=d;let(Tb,u,w):=U;x_go;exact(_,FR q s u l,jL h v w)
def blD:D->(Bool->Prop)->Prop
 |.bl b,P=>P b|_,_=>False
abbrev dB(t:DE):DT:=λl Q=>t l λd h=>blD d λb=>Q b h
theorem lY{K:zvu}{pp:aT ay}{M:av ay}{H:Hp}{d:D}{v:V}{P:Bool->Prop}(r:Rep K pp M H d v)(h:blD d P):∃k,v=.bl k/\P k:=by cases d<;>first|exact h.elim|(simp only[Rep]at r;exact(_,r,h))
theorem rtb{T:TE}(r:RT X.K (Rep X.K) T ta):RU X.K (tB T) (dB ta):=λd h k=>r d h λh m J r=>by have(c,e,h):=lY r h;exact(c,e,k h m J)
theorem aE(ho:OpD X (zae op) g)(d:PED X a ta)(U:PED X b tb)(l:zbA op b=false:=by exact oM _):PTD X (.Compare a [op] [b] pos) (dB (dOp g ta tb)):=by walk;let(r,q,h):=ho;let(Ta,s,v):=d;let(Tb,u,w):=U;x_go;exact(_,lJ q s u l,rtb (jL h v w))
theorem bc{t:DE}(h:PED X e t)(he:∀whole,isTrue e X.env whole=(do let v <-whole;zdk e.pos;zbM [v] (truthy v)):=by intro _;rfl):PTD X e (dB t):=by have(T,p,r):=h;exact(_,Ia p he,rtb r)
structure Br(b:Bool)(A B:Prop):Prop where
 yes:b=true->A
 no:b=false->B
theorem Br.t{A B:Prop}(h:A):Br true A B:=(λ_=>h,λe=>nomatch e)
theorem Br.f{A B:Prop}(h:B):Br false A B:=((λe=>nomatch e),λ_=>h)
abbrev dNot(t:DT):DT:=λh Q=>t h λb d=>Q (!b) d
abbrev dAnd(t u:DT):DT:=λh Q=>t h λb d=>Br b (u d Q) (Q false d)
abbrev dOr(t u:DT):DT:=λh Q=>t h λb d=>Br b (Q true d) (u d Q)
variable{tA tB:DT}{rest:av cy}
theorem bu(h:PTD X a tA):PTD X (.UnaryOp .Not a pos) (dNot tA):=by have(T,p,r):=h;exact(_,Id p,λU q k=>r U q λq=>k q)
theorem PWD.pt{e:cy}{t:DT}(h:PWD X e t):PTD X e t:=by have(T,p,r):=h;exact(T,p.pt,r)
theorem jM(h:PTD X a tA):PWD X (.BoolOp .And [a] pos) tA:=by have(T,p,r):=h;exact(T,FM p,r)
theorem ck(h:PTD X a tA):PWD X (.BoolOp .Or [a] pos) tA:=by have(T,p,r):=h;exact(T,EG p,r)
theorem lZ(l:PTD X a tA)(u:PWD X (.BoolOp .And (b::rest) pos) tB):PWD X (.BoolOp .And (a::b::rest) pos) (dAnd tA tB):=by
 walk;let(T,p,r):=l;let(U,q,s):=u;x_go;refine(_,Ib p q,λw h k=>r w h λ{c _ _ _} h m J=>?_);cases c with
 |true=>exact iteT (s J (h.yes rfl) λh v=>k h (m.trans v))
 |false=>exact iteF (k (h.no rfl) m J)
theorem dA(l:PTD X a tA)(u:PWD X (.BoolOp .Or (b::rest) pos) tB):PWD X (.BoolOp .Or (a::b::rest) pos) (dOr tA tB):=by
 walk;let(T,p,r):=l;let(U,q,s):=u;x_go;refine(_,Ic p q,λw h k=>r w h λ{c _ _ _} h m J=>?_);cases c with
 |true=>exact iteT (k (h.yes rfl) m J)|false=>exact iteF (s J (h.no rfl) λh v=>k h (m.trans v))
abbrev Ln(t:DE):DE:=λl Q=>t l λd h=>blD d λb=>Q (.bl (!b)) h
abbrev Lo(t u:DE):DE:=λl Q=>t l λd h=>blD d λb=>Br b (u h Q) (Q (.bl false) h)
abbrev dOrV(t u:DE):DE:=λl Q=>t l λd h=>blD d λb=>Br b (Q (.bl true) h) (u h Q)
theorem cF{K:zvu}{pp:aT ay}{M:av ay}{H:Hp}{b:Bool}:Rep K pp M H (.bl b) (.bl b):=by simp only[Rep]
theorem bK{K:zvu}{pp:aT ay}{M:av ay}{H:Hp}{b:Int}:Rep K pp M H (.int b) (.int b):=by simp only[Rep]
theorem gb{K:zvu}{pp:aT ay}{M:av ay}{H:Hp}{b:Str}:Rep K pp M H (.str b) (.str b):=by simp only[Rep]
theorem fH{op}{t:DE}(h:PED X a t):PED X (.BoolOp op [a] pos) t:=by have(T,p,r):=h;exact(T,Ie p,r)
theorem AA(h:PED X a ta):PED X (.UnaryOp .Not a pos) (Ln ta):=by have(T,p,r):=h;refine(_,Ih p,λd q k=>r d q λq m U r=>?_);have(b,e,q):=lY r q;exact(b,e,k q m U cF)
theorem eO(l:PED X a ta)(u:PED X (.BoolOp .And (b::rest) pos) tb):PED X (.BoolOp .And (a::b::rest) pos) (Lo ta tb):=by
 walk;let(T,p,r):=l;let(U,q,s):=u;x_go;refine(_,Ig p q,λx h k=>r x h λh m L w=>?_);have(c,e,h):=lY w h;refine(c,e,?_);cases c with
 |true=>exact iteT (s L (h.yes rfl) λh v=>k h (m.trans v))
 |false=>exact iteF (k (h.no rfl) m L cF)
theorem Jf(l:PED X a ta)(u:PED X (.BoolOp .Or (b::rest) pos) tb):PED X (.BoolOp .Or (a::b::rest) pos) (dOrV ta tb):=by
 walk;let(T,p,r):=l;let(U,q,s):=u;x_go;refine(_,KK p q,λx h k=>r x h λh m L w=>?_);have(c,e,h):=lY w h;refine(c,e,?_);cases c with
 |true=>exact iteT (k (h.yes rfl) m L cF)|false=>exact iteF (s L (h.no rfl) λh v=>k h (m.trans v))
abbrev wK(g g':D->D->(D->Prop)->Prop)(ta tb tc:DE):DE:=λl Q=>ta l λx h=>tb h λy J=>g x y λd=>blD d λk=>Br k (tc J λz L=>g' y z λd=>Q d L) (Q (.bl false) J)
theorem pf(ho:OpD X (zae op) g)(C:OpD X (zae op') g')(I:PED X a ta)(M:PED X b tb)(Q:PED X c tc) :
  ∃(r l:R2)(Ta Tb d:TE),OpR X (zae op) r/\OpR X (zae op') l/\PE X a Ta/\PE X b Tb/\PE X c d/\RT X.K (Rep X.K) (zA r l Ta Tb d) (wK g g' ta tb tc):=by
 walk;let(r,i,Y):=ho;let(l,G,z):=C;let(Ta,m,A):=I;let(Tb,n,B):=M;let(d,o,E):=Q;x_go;refine(r,l,Ta,Tb,d,i,G,m,n,o,λN h k=>A N h λh j H p=>B H h λh u J x=>Y J.liv (p.mv u) x h λh s r=>?_);have(b,e,h):=lY r h;refine(b,e,?_);have v:=(j.trans u).trans s.mv;cases b with
 |false=>exact iteF (k (h.no rfl) v (J.sameP s) cF)|true=>exact iteT (E (J.sameP s) (h.yes rfl) λh w U y=>z U.liv ((x.mv s.mv).mv w) y h λh s r=>k h ((v.trans w).trans s.mv) (U.sameP s) r)
theorem gD(ho:OpD X (zae op) g)(J:OpD X (zae op') g')(l:PED X a ta)(q:PED X b tb)(s:PED X c tc)(u:zeD [op,op'] [b,c]=false:=by with_unfolding_all rfl):PED X (.Compare a [op,op'] [b,c] pos) (wK g g' ta tb tc):=by have(r,r',Ta,Tb,Tc,v,L,w,x,z,h):=pf ho J l q s;exact(_,Co v L w x z u,h)
theorem wL(ho:OpD X (zae op) g)(J:OpD X (zae op') g')(l:PED X a ta)(q:PED X b tb)(s:PED X c tc)(u:zeD [op,op'] [b,c]=false:=by with_unfolding_all rfl):PTD X (.Compare a [op,op'] [b,c] pos) (dB (wK g g' ta tb tc)):=by have(r,r',Ta,Tb,Tc,v,L,w,x,z,h):=pf ho J l q s;exact(_,Cp v L w x z u,rtb h)
variable{tL:DA}{es:av cy}
abbrev qw:DA:=λd Q=>Q [] d
abbrev eP(t:DE)(u:DA):DA:=λl Q=>t l λx d=>u d λh J=>Q (x::h) J
theorem fJ:PAD X [] qw :=
 (_,ci,λJ h k=>k h .refl J .nil)
theorem ae(v:PED X e ta)(w:PAD X es tL)(hs:SE X e es:=by rfl):PAD X (e::es) (eP ta tL):=by walk;let(T,p,r):=v;let(U,q,s):=w;x_go;exact(_,bj p q hs,λz h k=>r z h λh m J r=>s J h λh l L x=>k h (m.trans l) L (.cons (r.mv l) x))
abbrev dTup(t:DA):DE:=λl Q=>t l λh d=>h.length<=zaa/\Q (.tup h) d
theorem aC{x1}(h:PAD X es tL):PED X (.Tuple es x1 pos) (dTup tL):=by let(T,p,r):=h;refine(_,EL p,λU q k=>r U q λq m J L=>(by rw[<-L.length];exact q.1,λl d=>k q.2 (m.trans (.new d)) (J.sameP (.new d)) ?_));exact(l,_,rfl,ao,L.mv (.new d))
def RL(K:zvu)(T:TE)(t:DA):Prop:=∀{F:Fx}{M H s ρ Q P},RSt K F M H s ρ->t ρ P->(∀{u h q d l v},P u h->Mv K F.pp M H q d->RSt K F q d s h->d l=none->ei K F.pp q d u v->Q (.ref l) (upd d l (.lst v)))->T s H Q
inductive PLD(X:Cx)(e:Expr)(t:DA):Prop
 |mk (T:TE):PE X e T->RL X.K T t->PLD X e t
abbrev dLst(t:DA):DA:=λl Q=>t l λh d=>h.length<=zaa/\Q h d
theorem aK(h:PAD X es tL):PLD X (.List es pos) (dLst tL):=by have(T,p,r):=h;exact(_,zD p,λu q k=>r u q λq m J U=>(by rw[<-U.length];exact q.1,λl s=>k q.2 m J s U))
abbrev dFrz(t:DA):DE:=λl Q=>t l λh d=>Q (.lst h) d
theorem aq(h:PLD X e tL):PED X e (dFrz tL):=by have(T,p,r):=h;refine(T,p,λs q k=>r s q λq m J d l=>k q (m.trans (.new d)) (J.sameP (.new d)) ?_);exact(_,_,rfl,(J.liv.fresh d).1,(J.liv.fresh d).2,ao,l.mv (.new d))
end
abbrev DSp:=av D->(D->Prop)->Prop
variable{g':DSp}
inductive spD(K:zvu)(n:Nat)(g:DSp)(vs:List V)(H:Hp)(Q:VK)(x3:XK):Prop
 |mk pp M ds P:Lv pp M H->ei K pp M H ds vs->ds.length=n->g ds P->(∀{d H' v},P d->SameP K pp H H'->Rep K pp M H' d v->Q v H')->spD K n g vs H Q x3
inductive CallD(X:Cx)(f:Value)(g:DSp):Prop
 |mk (r:List V->Hp->VK->Prop):df X f r->(∀{pp M H ds vs Q P},Lv pp M H->ei X.K pp M H ds vs->g ds P->(∀{d H' w},P d->SameP X.K pp H H'->Rep X.K pp M H' d w->Q w H')->r vs H Q)->CallD X f g
abbrev dCB(g:DSp)(t:DA):DE:=λl Q=>t l λh c=>g h λd=>Q d c
abbrev Lp(n:Nat)(g:DSp)(t:DA):DE:=λl Q=>t l λh c=>h.length=n/\g h λd=>Q d c
section
variable{x:Str}{es:av cy}{t:DA}{id T:String}{g:DSp}
theorem aR(l:CallD X (.builtin id) g)(v:X.mg x=none)(C:zaG x\(.builtin id))(d:PAD X (e::es) t)(u:Gl X x:=by rfl)(w:x ≠ "__name__":=by decide)(L:NoDb x:=by decide)
  (he:SE X e es:=by rfl) (hpl:BA X pos es:=by rfl):PED X (.Call (.Name x p) (e::es) [] pos) (dCB g t):=by
 walk;let(r,z,h):=l;let(T,G,I):=d;x_go;exact(_,eZ z u v C G w L he hpl,λM q k=>I M q λq m J H=>h J.liv H q λq s r=>k q (m.trans s.mv) (J.sameP s) r)
theorem aN(U:CallD X (.type T) g)(l:X.mg x=none)(c:PAD X (e::es) t)(d:Gl X x:=by rfl)(w:zaG x\(.type T):=by rfl)(u:x ≠ "__name__":=by decide)(L:NoDb x:=by decide)
  (he:SE X e es:=by rfl) (hpl:BA X pos es:=by rfl):PED X (.Call (.Name x p) (e::es) [] pos) (dCB g t):=by
 let(r,v,h):=U;let(T,z,G):=c;exact(_,iI v d l w z u L he hpl,λH q k=>G H q λq m J C=>h J.liv C q λq s r=>k q (m.trans s.mv) (J.sameP s) r)
end
structure EO(K:zvu)(F:Fx)(M:List Addr)(H:Hp)(E:DEnds)(D:Ends):Prop where
 nx:∀{M' H' σ' ρ'},Mv K F.pp M H M' H'->RSt K F M' H' σ' ρ'->E.nx ρ'->D.nx σ' H'
 bk:∀{M' H' σ' ρ'},Mv K F.pp M H M' H'->RSt K F M' H' σ' ρ'->E.bk ρ'->D.bk σ' H'
 ct:∀{M' H' σ' ρ'},Mv K F.pp M H M' H'->RSt K F M' H' σ' ρ'->E.ct ρ'->D.ct σ' H'
 rt:∀{M' H' σ' ρ' d v},Mv K F.pp M H M' H'->RSt K F M' H' σ' ρ'->Rep K F.pp M' H' d v->E.rt d ρ'->D.rt v H'
theorem EO.mv{K:zvu}{F:Fx}{M:av ay}{H:Hp}{D:Ends}(o:EO K F M H E D)(m:Mv K F.pp M H A H1):EO K F A H1 E D :=
 (λJ=>o.nx (m.trans J),λJ=>o.bk (m.trans J),λJ=>o.ct (m.trans J),λJ=>o.rt (m.trans J))
def RS(K:zvu)(T:TS)(t:DTS):Prop:=∀{F:Fx}{M H σ ρ E D},RSt K F M H σ ρ->t E ρ->EO K F M H E D->T D σ H
inductive PSD(X:Cx)(st:Stmt)(t:DTS):Prop
 |mk (T:TS):PS X st T->RS X.K T t->PSD X st t
inductive PSsD(X:Cx)(st:List Stmt)(t:DTS):Prop
 |mk (T:TS):PSs X st T->RS X.K T t->PSsD X st t
section
variable{F:Fx}{rest a b:av Stmt}{t u:DTS}{c:cy}{te:DE}{tc:DT}{tl:DA}
abbrev GM:DTS:=λE d=>E.nx d
abbrev dSeq(t u:DTS):DTS:=λE d=>t {E with nx:=u E} d
inductive dMid(t u:DTS)(E:DEnds)(ρ:DS):Prop
 |mk (N:DS->Prop):t { E with nx:=N } ρ->(∀ρ',N ρ'->u E ρ')->dMid t u E ρ
theorem GN:PSsD X [] GM :=
 (_,lH,λJ h o=>o.nx .refl J h)
theorem az(h:PSD X st t):PSsD X [st] t:=by have(T,p,r):=h;exact(T,fU p,r)
theorem af(g:PSD X st t)(l:PSsD X rest u):PSsD X (st::rest) (dSeq t u):=by walk;let(T,p,r):=g;let(U,q,s):=l;x_go;exact(_,cg p q,λv h o=>r v h (λm J h=>s J h (o.mv m),o.bk,o.ct,o.rt))
theorem bf(g:PSD X st t)(l:PSsD X rest u):PSsD X (st::rest) (dMid t u):=by walk;let(T,p,r):=g;let(U,q,s):=l;x_go;refine(_,cg p q,λw h o=>?_);have(N,h,v):=h;exact r w h (λm d h=>s d (v _ h) (o.mv m),o.bk,o.ct,o.rt)
abbrev AB:DTS:=λ_ _=>False
theorem bx:PSD X st AB :=
 (_,Cm,λ_ h _=>h)
theorem ma:PSsD X rest AB:=(_,zq,λ_ h _=>h)
abbrev dRet(te:DE):DTS:=λE h=>te h λd g=>E.rt d g
theorem Jg(h:PED X e te):PSD X (.Return (some e) pos) (dRet te):=by have(T,p,r):=h;exact(_,rO p,λg q o=>r g q λq m J d=>o.rt m J d q)
abbrev Lq(te:DE):DTS:=λE g=>te g λ_ d=>E.nx d
theorem dE(h:PED X e te)(hs:zap e none pos.line X.env=pure false:=by rfl):PSD X (.Expr e pos) (Lq te):=by have(T,p,r):=h;exact(_,pS p hs,λd q o=>r d q λq m J r'=>o.nx m J q)
abbrev dIfS(c:DT)(t u:DTS):DTS:=λE g=>c g λb d=>Br b (t E d) (u E d)
theorem Lr(g:PTD X c tc)(d:PSsD X a t)(L:PSsD X b u):PSD X (.If c a b pos) (dIfS tc t u):=by
 let(T,p,r):=g;let(U,q,s):=d;let(U',l,w):=L;refine(_,Cl p q l,λv h o=>r v h λ{k _ _ _} h m J=>?_);cases k with
 |true=>exact iteT (s J (h.yes rfl) (o.mv m))|false=>exact iteF (w J (h.no rfl) (o.mv m))
abbrev dSet(i:Nat)(te:DE):DTS:=λE h=>te h λd g=>E.nx (g.set i (.val d))
theorem Jh{x:Str}(d:X.N.Nodup)(hi:X.N[i]?\x)(l:Loc X.env.scope x)(h:PED X e te)(hs:zap e (some (.Name x py)) pos.line X.env=pure false)(g:X.fn x=true∨X.env.scope.names.lookup x\.local) :
  PSD X (.Assign [.Name x py] e pos) (dSet i te):=by
 have(T,p,r):=h;exact(_,fV d hi l p hs g,λv q o=>r v q λq m J s=>o.nx m (J.set s i) q)
abbrev dOwn(i:Nat)(t:DA):DTS:=λE h=>t h λg d=>E.nx (d.set i (.own g))
theorem RSt.newOwn{K:zvu}{M:av ay}{H:Hp}{Q:St}{ρ:DS}{l:ay}{xs:av V}{ds:av D}(r:RSt K F M H Q ρ)(g:H l=none)(hd:ei K F.pp M H ds xs)(i:Nat) :
  RSt K F (l::M) (upd H l (.lst xs)) (Q.set i (some (.ref l))) (ρ.set i (.own ds)):=by
 have m:Mv K F.pp M H (l::M) (upd H l (.lst xs)):=.newOwn g;have s:SameP K F.pp H (upd H l (.lst xs)):=.new g;have h0:F.H0 l=none:=by
  cases e:F.H0 l with
  |none=>rfl|some o=>exact absurd g (r.same.live l (by rw[e];intro z;cases z))
 refine(by simp[r.len],λj q o G I=>?_,r.ow.step m i (λj e=>zzG (Ne.symm e)) (λj e=>zzG (Ne.symm e)) (λA _ _=>([l],λs o k n=>?_,λb y=>?_,λa h hp J _=>(zzc _ h,λx e _=>fc g e))),λa h=>zzc _ (r.sub a h),r.same.trans s.toSameQ,r.old,?_,r.lk.cl m)
 .by_cases e:i=j
  .subst e;rw[bb G,bb I];exact(l,xs,rfl,zzd,h0,(r.liv.fresh g).2,ao,hd.mv m)
  .rw[zzG e]at G I;have C:=r.sl j q o G I;cases q with
   |nil=>trivial|val d=>let(v,e,q):=C;exact(v,e,q.mv m)
   |pin w d=>let(v,e,u,q):=C;exact(v,e,u,q.mv m)
   |own es =>
    let(B,E,rfl,U,J,Y,L,c):=C;exact(B,E,rfl,zzc _ U,J,Y,fc g L,c.mv m)
   |obj q=>exact C
 .rw[bb k,bb n];exact(l,rfl,rfl)
 .rw[zzt.mp y];exact(zzd,h0,(r.liv.fresh g).2,.inr (r.liv.fresh g).1)
 .refine(λa h=>?_,λp e=>s.live p (r.liv.p p e));rcases zze.mp h with rfl|h
  .rw[ao];intro z;cases z
  .exact s.live a (r.liv.m a h)
theorem Ji{x:Str}(L:X.N.Nodup)(hi:X.N[i]?\x)(g:Loc X.env.scope x)(h:PLD X e tl)(hs:zap e (some (.Name x py)) pos.line X.env=pure false)(U:X.fn x=true∨X.env.scope.names.lookup x\.local) :
  PSD X (.Assign [.Name x py] e pos) (dOwn i tl):=by
 let(T,p,r):=h;exact(_,fV L hi g p hs U,λs q o=>r s q λq m J d l=>o.nx (m.trans (.newOwn d)) (J.newOwn d l i) q)
abbrev DG:=D->DS->(DS->Prop)->Prop
variable{g:DG}
inductive PGD(X:Cx)(tg:Expr)(g:DG):Prop
 |mk (G:TG):PG X tg G->(∀{F:Fx}{M H σ ρ d v Q P},RSt X.K F M H σ ρ->Rep X.K F.pp M H d v->g d ρ P->(∀{ρ' M' H' σ'},P ρ'->Mv X.K F.pp M H M' H'->RSt X.K F M' H' σ' ρ'->Q σ' H')->G v σ H Q)->PGD X tg g
theorem PGD.ex{fr:Frm}(h : @PGD _ fr X tg g):∃G:TG,PG X tg G/\∀{F:Fx}{M H x ρ d v Q P},RSt X.K F M H x ρ->Rep X.K F.pp M H d v->g d ρ P->(∀{l w s q},P l->Mv X.K F.pp M H w s->RSt X.K F w s q l->Q q s)->G v x H Q:=by let(T,p,r):=h;exact(T,p,r)
abbrev bO(i:Nat):DG:=λd h Q=>Q (h.set i (.val d))
theorem AC{x:Str}(J:X.N.Nodup)(hi:X.N[i]?\x)(d:Loc X.env.scope x)(L:X.fn x=true∨X.env.scope.names.lookup x\.local):PGD X (.Name x pos) (bO i) :=
 (_,pV J hi d L,λU r h k=>k h .refl (U.set r i))
abbrev DGs:=av D->DS->(DS->Prop)->Prop
inductive PGsD(X:Cx)(tg:List Expr)(g:DGs):Prop
 |mk (G:TGs):PGs X tg G->(∀{F:Fx}{M H σ ρ ds vs Q P},RSt X.K F M H σ ρ->ei X.K F.pp M H ds vs->g ds ρ P->(∀{ρ' M' H' σ'},P ρ'->Mv X.K F.pp M H M' H'->RSt X.K F M' H' σ' ρ'->Q σ' H')->G vs σ H Q)->PGsD X tg g
def sR:DGs:=λd h Q=>match d with
 |[]=>Q h|_=>False
def dQ(g:DG)(u:DGs):DGs:=λl q Q=>match l with
 |d::r=>g d q λh=>u r h Q|[]=>False
theorem GO:PGsD X [] sR:=by
 refine(_,zu,λ{F M H σ ρ d vs Q P} J r h k=>?_);cases d with
 |nil=>simp only[ei]at r;exact(r,k h .refl J)|cons=>exact h.elim
theorem wN{e:cy}{u:DGs}(s:PGD X e g)(w:PGsD X ifs u)(hs:(zax (e::ifs) X.env).map (·.2)=zds e X.env::(zax ifs X.env).map (·.2):=by rfl):PGsD X (e::ifs) (dQ g u):=by
 walk;let(G,p,r):=s;let(G',z,C):=w;x_go;refine(_,lr p z hs,λ{F M H σ ρ l vs Q P} Y U h k=>?_);cases l with
 |nil=>exact h.elim|cons d l =>
  have(v,a,rfl,U,I):=U;exact(v,a,rfl,r Y U h λh m q=>C q (I.mv m) h λh x=>k h (m.trans x))
noncomputable def qx(n:Nat)(g:DGs):DG:=λd l Q=>match d with
 |.tup h=>h.length=n/\g h l Q|_=>False
theorem Jj{g:DGs}(w:X.calm=true)(h:PGsD X ifs g)(x:(zax ifs X.env).length=n)(l:(zax ifs X.env).findIdx? (·.1)=none):PGD X (.Tuple ifs k pos) (qx n g):=by
 have(G,p,r):=h;refine(_,Gk w p x l,λ{F M H σ ρ d v Q P} z L q k=>?_);cases d with
 |tup ds =>
  have(a,C,rfl,s,L):=L;exact(a,C,rfl,s,by rw[<-L.length];exact q.1,r z L q.2 k)
 |_=>exact q.elim
abbrev dAsg(te:DE)(g:DG):DTS:=λE l=>te l λd h=>g d h E.nx
theorem Jk(he:PED X e te)(J:PGD X tg g)(hs:zbF [tg] e pos.line X.env=pure false)(hw:zbE [tg] e X.env=pure none)(d:PS X (.Assign [tg] e pos) (tAsg (zbv he.ex) (zbv J.ex)):=by exact rP (zym he.ex).1 (zym J.ex).1):PSD X (.Assign [tg] e pos) (dAsg te g) :=
 (_,d,λs q o=>(zym he.ex).2 s q λq m L l=>(zym J.ex).2 L l q λq h U=>o.nx (m.trans h) U q)
def iR(g:DG)(b:DTS):av D->DEnds->DS->Prop
 |[],E,l=>E.nx l|d::r,E,l=>g d l λq=>b {E with nx:=λh=>iR g b r E h,ct:=λh=>iR g b r E h,bk:=E.nx} q
structure ItOkV(K:zvu)(pp:Option Addr)(J:It)(M:List Addr)(H:Hp)(vs:List V):Prop where
 yld:∀M2 H2,Mv K pp M H M2 H2->∀i x H3,i<vs.length->J.yld i H2 x H3->H3=H2/\vs[i]? = some x
 go:∀M2 H2,Mv K pp M H M2 H2->∀i,i<vs.length->J.go i H2
 stop:∀M2 H2,Mv K pp M H M2 H2->∀i,vs.length <= i->J.stop i H2
structure ItOk(K:zvu)(pp:Option Addr)(J:It)(M:List Addr)(H:Hp)(ds:List D):Prop where
 yld:∀M2 H2,Mv K pp M H M2 H2->∀i d x H3,ds[i]? = some d->J.yld i H2 x H3->SameP K pp H2 H3/\Rep K pp M2 H3 d x
 go:∀M2 H2,Mv K pp M H M2 H2->∀i,i<ds.length->J.go i H2
 stop:∀M2 H2,Mv K pp M H M2 H2->∀i,ds.length <= i->J.stop i H2
theorem ItOkV.of{K:zvu}{pp:aT ay}{J:It}{M:av ay}{H:Hp}{vs:av V}{ds:av D}(o:ItOkV K pp J M H vs)(L:ei K pp M H ds vs):ItOk K pp J M H ds where
 yld:=λM2 l m i d x w e y=>by let(v,q,r):=L.get' e;let(rfl,s):=o.yld M2 l m i x w (zzC.mp q).1 y;rw[q]at s;cases s;exact(.refl,r.mv m)
 go:=λM2 l m i h=>o.go M2 l m i (by rw[<-L.length];exact h)
 stop:=λM2 l m i h=>o.stop M2 l m i (by rw[<-L.length];exact h)
inductive PID(X:Cx)(tg iter:Expr)(t:DA):Prop
 |mk (wi:TI):PI X tg iter wi->RT X.K (λpp M H ds J=>ItOk X.K pp J M H ds) wi t->PID X tg iter t
abbrev dFor(t:DA)(g:DG)(b:DTS):DTS:=λE l=>t l λh d=>iR g b h E d
theorem dL{iter:cy}{body:av Stmt}{t:DA}(hi:PID X tg iter t)(hg:PGD X tg g)(hb:PSsD X body tb)(hp:zeF (model X.prog X.w) X.A X.env X.xe:=by exact zeF.never)(hc:X.calm=true:=by rfl)(hs:∀x,zaw iter X.env x=pure x:=by intro _;rfl):PSD X (.For tg iter body [] pos) (dFor t g tb):=by
 walk;let(wi,pi,ri):=hi;let(G,pg,rg):=hg;let(T,p,r):=hb;x_go;refine(_,Il hp hc pi pg p hs,λ{F M H σ ρ E D} rs h o=>ri rs h λ{d j M1 H1 J} h c a9 ok=>?_);refine(λi m n z=>∃M2 b,m=d.length-i/\i<=d.length/\Mv X.K F.pp M1 H1 M2 z/\RSt X.K F M2 z n b/\iR g tb (d.drop i) E b,(d.length,M1,j,rfl,zyh _,.refl,a9,h),?_);rintro i m n z ⟨M2,b,rfl,a7,q,k,Q⟩;by_cases U:i<d.length
 .have e1:d[i]?\d[i]:=by simp[U]
  rw[zyN U]at Q;refine .inr (ok.go M2 z q i U,λC a=>∃I l,Mv X.K F.pp M1 H1 I a/\RSt X.K F I a C l/\iR g tb (d.drop (i+1)) E l,λC a ⟨I,l,mm,a8,h'⟩=>(d.length-(i+1),zdf U (zyY i),I,l,rfl,U,mm,a8,h'),λx N y=>?_);let(sp,rx):=ok.yld M2 z q i _ x N e1 y;exact rg (k.sameP sp) rx Q λh3 Y b1=>r b1 h3 (λv L s=>(_,_,(((q.trans sp.mv).trans Y).trans v),L,s),λv L s=>o.nx (((c.trans (q.trans sp.mv)).trans Y).trans v) L s,λv L s=>(_,_,((q.trans sp.mv).trans Y).trans v,L,s),λv L r4 s=>o.rt (((c.trans (q.trans sp.mv)).trans Y).trans v) L r4 s)
 .have e:i=d.length:=zwX a7 (zwO U);have hd:d.drop i=[]:=by rw[zc8];exact zcU e.symm
  rw[hd]at Q;exact .inl (ok.stop M2 z q i (zcU e.symm),o.nx (c.trans q) k Q)
abbrev Ls(te:DE):DA:=λq Q=>te q λd h=>match d with
 |.lst l=>Q l h|_=>False
abbrev Lu(te:DE):DA:=λq Q=>te q λd h=>match d with
 |.tup l=>Q l h|_=>False
theorem bq{l:cy}(z:PED X l te):PID X tg l (Ls te):=by
 let(T,p,r):=z;refine(_,FN p,λC h k=>r C h λ{d _ _ _ _} h m U L=>?_);cases d<;>first|exact h.elim|skip
 let(a,q,rfl,x,J,v,L):=L;exact(a,rfl,(q,SqL.of v),k h m U (ItOkV.of (vs:=q) (λ_ _ s _ _ _ _ y=>(y.1,y.2 q (SqL.of (s.lst a q v x J).1)),λ_ _ s i w=>(q,q[i],SqL.of (s.lst a q v x J).1,by simp[w]),λ_ _ s _ w=>(q,SqL.of (s.lst a q v x J).1,w)) L))
theorem eQ{l:cy}(x:PED X l te):PID X tg l (Lu te):=by
 let(T,p,r):=x;refine(_,Ik p,λU h k=>r U h λ{d _ _ _ _} h m L J=>?_);cases d<;>first|exact h.elim|skip
 let(a,q,rfl,v,J):=J;exact(a,rfl,(q,SqT.of v),k h m L (ItOkV.of (vs:=q) (λ_ _ s _ _ _ _ y=>(y.1,y.2 q (SqT.of (s.tup a q v))),λ_ _ s i w=>(q,q[i],SqT.of (s.tup a q v),by simp[w]),λ_ _ s _ w=>(q,SqT.of (s.tup a q v),w)) J))
noncomputable def iS(lo:Int):Nat->av D
 |0=>[]|n+1=>.int lo::iS (lo+1) n
theorem jN{K:zvu}{pp:aT ay}{M:av ay}{H:Hp}:∀(n:Nat)(lo:Int),ei K pp M H (iS lo n) ((zav n).map λ(i:Nat)=>V.int (lo+i))
 |0,_=>by simp[iS,ei]
 |n+1,lo=>by rw[zcE,zzq,iS];refine .cons (by simp[Rep]) ?_;have:=jN (K:=K) (pp:=pp) (M:=M) (H:=H) n (lo+1);rw[zzv];refine(congrArg (ei K pp M H (iS (lo+1) n)) (zzJ λi _=>?_)).mp this;lia
abbrev diR1(t:DA):DA:=λl Q=>t l λh d=>match h with
 |[.int j]=>(-(2^62)<=j/\j<2^62)/\Q (iS 0 j.toNat) d|_=>False
abbrev diR2(t:DA):DA:=λl Q=>t l λh d=>match h with
 |[.int i,.int j]=>(-(2^62)<=i/\i<2^62/\-(2^62)<=j/\j<2^62)/\Q (iS i (j-i).toNat) d|_=>False
theorem itOk_range{K:zvu}{pp:aT ay}{M:av ay}{H:Hp}{lo:Int}:ItOkV K pp (Itr lo n) M H ((zav n).map λ(i:Nat)=>V.int (lo+i)) where
 yld:=λM2 H2 _ i x H3 d y=>by
  let(h,l):=y;refine(h,?_);have J:i<n:=by simpa using d
  simp[J,l]
 go:=λ_ _ _ i d=>by show i<n;simpa using d
 stop:=λ_ _ _ i d=>by show n<=i;simpa using d
variable{ea eb:cy}
theorem cU(l:X.mg "range" = none)(d:PAD X [ea] tl)(hs:zaj [ea] X.env=[(false,eval ea X.env)]:=by rfl)(L:Gl X "range":=by rfl):PID X tg (.Call (.Name "range" p) [ea] [] pos) (diR1 tl):=by
 let(T,U,r):=d;refine(_,zw L l U hs,λs h k=>r s h λh m J q=>?_);split at h
 .let(x,r,rfl,rfl,rfl):=q;exact(_,rfl,h.1.1,h.1.2,k h.2 m J (itOk_range.of (jN _ _)))
 .exact h.elim
theorem AD(l:X.mg "range" = none)(d:PAD X [ea,eb] tl)(hs:zaj [ea,eb] X.env=[(false,eval ea X.env),(false,eval eb X.env)]:=by rfl)(J:zaj [eb] X.env=[(false,eval eb X.env)]:=by rfl)(U:Gl X "range":=by rfl):PID X tg (.Call (.Name "range" p) [ea,eb] [] pos) (diR2 tl):=by
 let(T,q,r):=d;refine(_,zx U l q hs J,λv h k=>r v h λh m L s=>?_);split at h
 .let(x,r,rfl,rfl,y,r',rfl,rfl,rfl):=s;exact(_,_,rfl,h.1,k h.2 m L (itOk_range.of (jN _ _)))
 .exact h.elim
end
noncomputable def fK(n:Nat)(ds:av D):DS:=ds.map .val++zad (n-ds.length) .nil
theorem jO{K:zvu}{F:Fx}{M:av ay}{H:Hp}:∀{ds:av D}{vs:av V},ei K F.pp M H ds vs->∀(i:Nat)s o,(ds.map Sl.val)[i]?\s->(vs.map some)[i]?\o->RSl K F M H s o
 |[],_,_,_,_,_,c,_=>by simp at c
 |d::ds,_,h,0,s,o,c,g=>by simp only[ei]at h;let(x,r,rfl,h,_):=h;simp at c g;subst c g;exact(x,rfl,h)
 |d::ds,_,h,i+1,s,o,c,g=>by let(x,r,rfl,_,h):=h;exact jO h i s o c g
theorem mf{ds:av D}{c:av D}(h:(ds.map Sl.val++zad n Sl.nil)[i]?\(.own c)):False:=by
 have:=zzK h;rcases zzg.mp this with h|h
 .let(d,_,e):=zzi.mp h;cases e
 .have:=zyE h;cases this
theorem mh{ds:av D}{q:O}(h:(ds.map Sl.val++zad n Sl.nil)[i]?\(.obj q)):False:=by
 have:=zzK h;rcases zzg.mp this with h|h
 .let(d,_,e):=zzi.mp h;cases e
 .have:=zyE h;cases this
theorem iT{K:zvu}{pp:aT ay}{M:av ay}{H:Hp}{ds:av D}{vs:av V}(J:Lv pp M H)(r:ei K pp M H ds vs)(u:Frm.L K (pp,M,H) M H):RSt K (pp,M,H) M H (Lake.start N vs) (fK N.length ds):=by
 have l:=r.length;refine(by simp[Lake.start,fK,l],λi s o c d=>?_,OwF.none (λi s e=>(λds z=>(mf (z ▸ e)).elim,λq z=>(mh (z ▸ e)).elim)),λa h=>h,.refl,J.m,J.toLv0,(u,J.t));unfold fK at c;unfold Lake.start at d;by_cases g:i<ds.length
 .rw[zys (by simpa using g)]at c;rw[zys (by simpa[<-l]using g)]at d;exact jO r i s o c d
 .rw[zzR (by simp;lia)]at c;have:=zyE (zzK c);subst this;trivial
omit [Frm] in
theorem fnD{P:cH}{w:World}{K:zvu}{base:cx}{x:Str}{st:Stmt}{f:ay}{t:DTS}(L:Fun K x y st f fd)(S:er N ps (aj st))(U:∀{c:ax}{A:zas}{outer:av Env}{s:aM}{H:Hp}{E:XK},Room k (A.deeper (zbh y (aj st) s⁻¹ f c))->N.Nodup -> @PSsD _ Frm.free (cxOf CX0 P w K mg base N y (aj st) f c A outer s H E).nox (cj st) t)(g:∀ds Q,ds.length=ps.length->g' ds Q->t {nx:=λ_=>Q .non,rt:=λd _=>Q d} (fK N.length ds)):FnOk P w K mg base CX0 (k+1) f fd ps (spD K ps.length g'):=by
 refine L.ok S (λz H Q E h=>?_) (λc A outer s H z Q E l h=>?_)
 .let(pp,M,ds,P,_,r,e,_):=h;rw[<-r.length,e]
 .let(pp,M,ds,P,u,r,e,h,k):=h;let(T,p,run):=U (outer:=outer) (E:=E) (H:=H) l S.nd;exact(T,p,run (iT u r trivial) (g ds _ e h) (λm J q=>k q J.sameT (by simp only[Rep]),λ_ _ q=>q,λ_ _ q=>q,λm J v q=>k q J.sameT (v.mv (.less J.sub))))
section
variable{pp:aT ay}
def g2I(C:Int->Int->Prop)(f:Int->Int->D):D->D->(D->Prop)->Prop
 |.int i,.int j,P=>C i j/\P (f i j)|_,_,_=>False
def g2I0(f:Int->Int->D):D->D->(D->Prop)->Prop
 |.int i,.int j,P=>P (f i j)|_,_,_=>False
theorem OpD.ofI{f:ax->ax->Sem ax}{C:Int->Int->Prop}{h:Int->Int->V}{h':Int->Int->D}(o:OpR X f (rI C h))(e:∀pp M H i j,Rep X.K pp M H (h' i j) (h i j)):OpD X f (g2I C h'):=by
 refine(_,o,λ{pp M H x y v u Q P} _ J L h k=>?_);cases x<;>first|exact h.elim|skip
 cases y<;>first|exact h.elim|skip
 exact(_,_,J,L,h.1,k h.2 .refl (e _ M H _ _))
theorem OpD.ofI0{f:ax->ax->Sem ax}{h:Int->Int->V}{h':Int->Int->D}(o:OpR X f (rI0 h))(e:∀pp M H i j,Rep X.K pp M H (h' i j) (h i j)):OpD X f (g2I0 h'):=by
 refine(_,o,λ{pp M H x y v u Q P} _ J L h k=>?_);cases x<;>first|exact h.elim|skip
 cases y<;>first|exact h.elim|skip
 exact(_,_,J,L,k h .refl (e _ M H _ _))
theorem de:OpD X (zaA .Add) (g2I0 λi j=>.int (i+j)):=.ofI0 lI λ_ _ _ _ _=>bK
theorem kA:OpD X (zaA .Sub) (g2I0 λi j=>.int (i-j)):=.ofI0 Im λ_ _ _ _ _=>bK
theorem AE:OpD X (zaA .Mult) (g2I CMulB λi j=>.int (i*j)):=.ofI jF λ_ _ _ _ _=>bK
theorem wO:OpD X (zaA .Mod) (g2I (λ_ j=>0<j) λi j=>.int (i % j)):=.ofI ku λ_ _ _ _ _=>bK
theorem Fd:OpD X (zaA .Pow) (g2I CPow λi j=>.int (i^j.toNat)):=.ofI EI λ_ _ _ _ _=>bK
theorem Jl:OpD X (zae .Lt) (g2I0 λi j=>.bl (decide (i<j))):=.ofI0 Iq λ_ _ _ _ _=>cF
theorem ij:OpD X (zae .LtE) (g2I0 λi j=>.bl (decide (i<=j))):=.ofI0 KW λ_ _ _ _ _=>cF
theorem qy:OpD X (zae .Gt) (g2I0 λi j=>.bl (decide (j<i))):=.ofI0 Ir λ_ _ _ _ _=>cF
noncomputable def GP:D->Bool
 |.non=>true|_=>false
theorem AF{K:zvu}{M:av ay}{H:Hp}{d:D}{v:V}(r:Rep K pp M H d v):decide (v=.non)=GP d:=by
 cases d<;>simp only[Rep]at r
 case non=>subst r;rfl
 case bl=>subst r;rfl
 case int=>subst r;rfl
 case str=>subst r;rfl
 case ty=>subst r;rfl
 case tup=>let(a,c,rfl,_):=r;rfl
 case lst=>let(a,c,rfl,_):=r;rfl
 case dK=>let(a,c,rfl,_):=r;rfl
 case dT=>let(a,c,rfl,_):=r;rfl
 case pen=>let(a,rfl,_):=r;rfl
 case exc=>let(a,rfl,_):=r;rfl
 case exa=>let(a,dx,rfl,_):=r;rfl
 case ins=>let(a,dx,fs,rfl,_):=r;rfl
 case cls=>subst r;rfl
def gIsN(n:Bool):D->D->(D->Prop)->Prop
 |x,.non,P=>P (.bl (if n then !GP x else GP x))|_,_,_=>False
theorem AG:OpD X (zae .Is) (gIsN false):=by
 refine(_,Iu,λ{pp M H x y v u Q P} _ J L h k=>?_);cases y<;>first|exact h.elim|skip
 exact(L,k h .refl (by rw[AF J];exact cF))
inductive UnD(X:Cx)(f:Value->Sem Value)(g:D->(D->Prop)->Prop):Prop
 |mk r:UnR X f r->(∀{pp M H x v Q P},Lv pp M H->Rep X.K pp M H x v->g x P->(∀{d H' w},P d->SameP X.K pp H H'->Rep X.K pp M H' d w->Q w H')->r v H Q)->UnD X f g
abbrev dUn(g:D->(D->Prop)->Prop)(ta:DE):DE:=λh Q=>ta h λx c=>g x λd=>Q d c
theorem kU{op:UnaryOp}{g:D->(D->Prop)->Prop}(ho:UnD X (unaryOp op) g)(c:PED X a ta):PED X (.UnaryOp op a pos) (dUn g ta):=by walk;let(r,l,d):=ho;let(Ta,q,v):=c;x_go;exact(_,KS l q,λw h k=>v w h λh m J u=>d J.liv u h λh s r=>k h (m.trans s.mv) (J.sameP s) r)
def gNeg:D->(D->Prop)->Prop
 |.int i,P=>P (.int (-i))|_,_=>False
theorem fL:UnD X (unaryOp .USub) gNeg:=by
 refine(_,Io,λ{pp M H x v Q P} _ J h k=>?_);cases x<;>first|exact h.elim|skip
 exact(_,J,k h .refl bK)
noncomputable def Jm:D->Bool
 |.int _=>true|.bl _=>true|_=>false
noncomputable def GQ:D->Bool
 |.bl _=>true|_=>false
noncomputable def kC:D->Bool
 |.str _=>true|_=>false
noncomputable def wP:D->Bool
 |.tup _=>true|_=>false
noncomputable def Jn:D->Bool
 |.lst _=>true|_=>false
noncomputable def mi:D->Bool
 |.pen=>false|.exc _=>false|.exa _ _=>false|.ins _ _ _=>false|.cls _=>false|.ty _=>false|.dT _ _=>false|_=>true
theorem Fe{K:zvu}{M:av ay}{H:Hp}{d:D}{v:V}(r:Rep K pp M H d v)(f:mi d=true):knV H v:=by
 cases d<;>first|cases f|skip
 case non=>subst r;trivial
 case bl=>subst r;trivial
 case int=>subst r;trivial
 case str=>subst r;trivial
 case tup=>let(a,c,rfl,h,_):=r;exact .inr (.inr (.inl (c,h)))
 case lst=>let(a,c,rfl,_,_,h,_):=r;exact .inl (c,h)
 case dK=>let(a,c,rfl,_,_,h,_):=r;exact .inr (.inr (.inr (.inl (c,h))))
def gIs(T:String)(f:D->Bool):DSp:=λc P=>match c with
 |[d,.ty J]=>J=T/\mi d=true/\P (.bl (f d))|_=>False
theorem CallD.isOf{f:Hp->V->Bool}{J:D->Bool}(U:df X (.builtin "isinstance") (λxs H Q=>∃x,xs=[x,.ty T]/\knV H x/\Q (.bl (f H x)) H))(e:∀pp M H d v,Rep X.K pp M H d v->mi d=true->f H v=J d):CallD X (.builtin "isinstance") (gIs T J):=by
 refine(_,U,λ{pp M H l vs Q P} _ r h k=>?_);rcases l with _|⟨d,c⟩<;>try exact h.elim
 rcases c with _|⟨u,c⟩<;>try exact h.elim
 cases u<;>try exact h.elim
 cases c<;>try exact h.elim
 let(q,g,h):=h;let(x,r,rfl,L,y,r',rfl,s,rfl):=r;subst s q;exact(x,rfl,Fe L g,k h .refl (by rw[e _ M H _ x L g];exact cF))
theorem AH:CallD X (.builtin "isinstance") (gIs "int" Jm) :=
 .isOf uK λpp M H d v r _=>by
 cases d<;>simp only[Rep]at r<;>first|(subst r;rfl)|(let(a,rfl,_):=r;rfl)|(let(a,b,rfl,_):=r;rfl)|(let(a,b,c,rfl,_):=r;rfl)
theorem pj:CallD X (.builtin "isinstance") (gIs "bool" GQ) :=
 .isOf sx λpp M H d v r _=>by
 cases d<;>simp only[Rep]at r<;>first|(subst r;rfl)|(let(a,rfl,_):=r;rfl)|(let(a,b,rfl,_):=r;rfl)|(let(a,b,c,rfl,_):=r;rfl)
theorem mj:CallD X (.builtin "isinstance") (gIs "str" kC) :=
 .isOf uL λpp M H d v r _=>by
 cases d<;>simp only[Rep]at r<;>first|(subst r;rfl)|(let(a,rfl,_):=r;rfl)|(let(a,b,rfl,_):=r;rfl)|(let(a,b,c,rfl,_):=r;rfl)
theorem fg:CallD X (.builtin "isinstance") (gIs "tuple" wP) :=
 .isOf qe λpp M H d v r f=>by
 cases d<;>first|cases f|skip
 case tup=>let(a,c,rfl,h,_):=r;simp[fF,h,wv,wP]
 all_goals first|(subst r;rfl)|(let(a,c,rfl,_,_,h,_):=r;simp[fF,h,wv,wP])
noncomputable def gLen:DSp:=λd P=>match d with
 |[.tup c]=>P (.int c.length)|[.lst c]=>P (.int c.length)|_=>False
theorem bz:CallD X (.builtin "len") gLen:=by
 refine(_,sy,λ{pp M H l vs Q P} _ r h k=>?_);rcases l with _|⟨d,q⟩<;>try exact h.elim
 cases d<;>try exact h.elim
 all_goals cases q<;>try exact h.elim
 .let(x,r,rfl,(a,g,rfl,c,J),rfl):=r;exact(a,g.length,rfl,by rw[c];rfl,k h .refl (by rw[<-J.length];exact bK))
 .let(x,r,rfl,(a,g,rfl,_,_,c,J),rfl):=r;exact(a,g.length,rfl,by rw[c];rfl,k h .refl (by rw[<-J.length];exact bK))
noncomputable def Lx:DSp:=λc P=>match c with
 |[.int i]=>P (.int i)|[.bl b]=>P (.int (if b then 1 else 0))|_=>False
theorem Ff:CallD X (.type "int") Lx:=by
 refine(_,zB,λ{pp M H c vs Q P} _ r h k=>?_);rcases c with _|⟨d,g⟩<;>try exact h.elim
 cases d<;>try exact h.elim
 all_goals cases g<;>try exact h.elim
 all_goals
  let(x,r,rfl,rfl,rfl):=r
 .exact .inr (_,rfl,k h .refl bK)
 .exact .inl (_,rfl,k h .refl bK)
def Fg:DSp:=λd P=>match d with
 |[.tup c]=>P (.tup c)|[.lst c]=>P (.tup c)|_=>False
theorem bN:CallD X (.type "tuple") Fg:=by
 refine(_,qc,λ{pp M H v vs Q P} _ r h k=>?_);rcases v with _|⟨d,w⟩<;>try exact h.elim
 cases d<;>try exact h.elim
 all_goals cases w<;>try exact h.elim
 .simp only[ei]at r;walk;let(x,r,rfl,s,rfl):=r;have U:=s;let(a,c,rfl,g,u):=s;x_go;exact(a,c,rfl,.inr (SqT.of g,k h .refl U))
 .simp only[ei,Rep]at r;have(x,r,rfl,(a,c,rfl,_,_,g,u),rfl):=r;refine(a,c,rfl,.inl (SqL.of g,λl q=>k h (.new q) ?_));exact(l,c,rfl,ao,u.mv (.new q))
abbrev GR(te:DE):DA:=λh Q=>te h λd c=>match d with
 |.tup g=>Q g c|.lst g=>Q g c|_=>False
theorem AI{x:Str}(w:Gl X x)(z:X.mg x=none)(G:zaG x\(.type "list"))(he:PED X e te)(C:x ≠ "__name__":=by decide)(v:NoDb x:=by decide)(hs:SE X e []:=by rfl)(hpl:BA X pos []:=by rfl):PLD X (.Call (.Name x p) [e] [] pos) (GR te):=by
 have(T,H,I):=he;refine(_,iI sr w z G (bj H ci hs) C v hs hpl,λM h k=>I M h λ{d _ _ _ _} h m U u=>?_);cases d<;>first|exact h.elim|skip
 case tup xs =>
  have(a,s,rfl,c,q):=u;exact(a,s,rfl,.inr (SqT.of c),λl g=>k h m U g q)
 case lst xs =>
  have(a,s,rfl,_,_,c,q):=u;exact(a,s,rfl,.inl (SqL.of c),λl g=>k h m U g q)
def opt(o:aT D)(P:D->Prop):Prop:=match o with
 |some d=>P d|none=>False
theorem Dw{o:aT D}{P:D->Prop}(h:opt o P):∃d,o\d/\P d:=by cases o<;>first|exact h.elim|exact(_,rfl,h)
def gIx:D->D->(D->Prop)->Prop
 |.tup c,.int i,P=>opt (atI c i) P|.lst c,.int i,P=>opt (atI c i) P|_,_,_=>False
theorem AJ{K:zvu}{M:av ay}{H:Hp}{ds:av D}{xs:av V}{i:Int}{d:D}(r:ei K pp M H ds xs)(h:atI ds i\d):∃v,atI xs i\v/\Rep K pp M H d v:=by
 unfold atI at h⊢;rw[r.length]at h;cases q:ixN xs.length i with
 |none=>rw[q]at h;cases h
 |some j =>
  rw[q]at h;let(v,c,g):=r.get' h;exact(v,c,g)
theorem Ly{b:cy}(q:PED X a ta)(s:PED X b te)(hs:jE b):PED X (.Subscript a b pos) (dOp gIx ta te):=by
 let(Ta,w,G):=q;let(Tb,C,I):=s;refine(_,xT (IxR.or Gj CG) w C hs,jL (λ{pp M H x y v u Q P} _ U l h k=>?_) G I);cases x<;>first|exact h.elim|skip
 all_goals cases y<;>first|exact h.elim|skip
 all_goals
  let(d,e,h):=Dw h
 .let(p,g,rfl,J,r):=U;let(z,c,L):=AJ r e;exact .inl (p,g,_,z,rfl,l,J,c,k h .refl L)
 .let(p,g,rfl,_,_,J,r):=U;let(z,c,L):=AJ r e;exact .inr (p,g,_,z,rfl,l,J,c,k h .refl L)
end
section
variable{F:Fx}
noncomputable abbrev dPar(i j:Nat)(t:DA):DTS:=λE g=>t g λd c=>match d with
 |[x,y]=>E.nx ((c.set i (.val x)).set j (.val y))|_=>False
theorem AK{j:Nat}{x:Str}{b:cy}{t:DA}{pt:Pos}{kt k2 pt2}(q:X.calm=true)(g:X.N.Nodup)(hi:X.N[i]?\x)(s:X.N[j]?\y)(U:i≠j)(z:X.env.scope.names.lookup x\.local)(C:X.env.scope.names.lookup y\.local)(l:PAD X [a,b] t)(u:zbE [.Tuple [.Name x p2,.Name y py] kt pt] (.Tuple [a,b] k2 pt2) X.env=pure (some [x,y]))(hs:zbF [.Tuple [.Name x p2,.Name y py] kt pt] (.Tuple [a,b] k2 pt2) pos.line X.env=pure false:=by rfl) :
  PSD X (.Assign [.Tuple [.Name x p2,.Name y py] kt pt] (.Tuple [a,b] k2 pt2) pos) (dPar i j t):=by
 have(T,p,r):=l;refine(_,Ij q g hi s U z C p u hs,λI h o=>r I h λh m d c=>?_);split at h
 case h_2=>exact h.elim
 .simp only[ei]at c;have(v,_,rfl,G,w,_,rfl,H,rfl):=c;exact(v,w,rfl,o.nx m ((d.set G i).set H j) h)
def Lz(i:Nat)(E:DEnds)(ρ:DS)(d:D):Sl->Prop
 |.own c=>c.length<zaa/\E.nx (ρ.set i (.own (c++[d])))|_=>False
def GS:Sl->Prop
 |.own _=>True|_=>False
theorem wQ{s:Sl}(h:GS s):∃ds,s=.own ds:=by cases s<;>first|exact(_,rfl)|exact h.elim
abbrev dApp(i:Nat)(te:DE):DTS:=λE g=>GS (slot g i)/\te g λd c=>Lz i E c d (slot c i)
theorem RSt.write{K:zvu}{M:av ay}{H:Hp}{B:St}{ρ:DS}{l:ay}{c:av V}{ds Y:av D}{i:Nat}(r:RSt K F M H B ρ)(h:ρ[i]?\(.own ds))(C:B[i]?\(some (.ref l)))(hd:ei K F.pp M H Y c) :
  Mv K F.pp M H M (upd H l (.lst c))/\RSt K F M (upd H l (.lst c)) B (ρ.set i (.own Y)):=by
 have(l',xs,e,N,h0,T,a5,hr):=r.sl i _ _ h C;cases e;have m:Mv K F.pp M H M (upd H l (.lst c)):=.write a5 N T;refine(m,(by simp[r.len],λj q o g u=>?_,r.ow.step m i (λ_ _=>rfl) (λj e=>zzG (Ne.symm e)) (λA E k=>(A,λs o e1 Q=>?_,λb U=>((k b U).1,(k b U).2.1,(k b U).2.2,.inl U),λa y _ _ hn=>(y,λx e _=>?_))),r.sub,?_,r.old,?_,r.lk.cl m))
 .by_cases e:i=j
  .subst e;rw[C]at u;rw[bb g];cases u;exact(l,c,rfl,N,h0,T,ao,hd.mv m)
  .rw[zzG e]at g;have G:=r.sl j q o g u;cases q with
   |nil=>trivial|val d=>let(v,e,q):=G;exact(v,e,q.mv m)
   |pin w d=>let(v,e,ew,q):=G;exact(v,e,ew,q.mv m)
   |own Y =>
    have(l',zs,rfl,a6,a4,a7,J,a8):=G;refine(l',zs,rfl,a6,a4,a7,?_,a8.mv m);rw[ar]
    .exact J
    .rintro rfl;exact e (r.own i j _ _ _ h g C u)
   |obj q=>exact G
 .rw[bb e1];exact E _ _ h Q
 .let(l2,Q,e3):=E _ _ h C;cases Q;rw[ar (by rintro rfl;exact hn (by rw[e3];simp))];exact e
 .refine(λb o e n=>?_,λp e h=>m.pen p e (r.same.pen p e h),λb e=>?_)
  .rw[ar (by rintro rfl;rw[h0]at e;cases e)];exact r.same.keep b o e n
  .by_cases z:b=l
   .subst z;rw[ao];intro z;cases z
   .rw[ar z];exact r.same.live b e
 .refine(λa y=>?_,λp e=>?_)
  .by_cases z:a=l
   .subst z;rw[ao];intro z;cases z
   .rw[ar z];exact r.liv.m a y
  .by_cases z:p=l
   .subst z;rw[ao];intro z;cases z
   .rw[ar z];exact r.liv.p p e
theorem iU{o:cy}(ho:PE X o (tVar i))(he:PED X e te)(L:zag o "append" X.env (eval o X.env)=eval o X.env:=by rfl)(C:HF X p2 [e]:=by rfl)(U:(py.endLine==p2.line)=true:=by rfl)(v:SE X e []:=by rfl)(hpl:BA X p2 []:=by rfl)(hs:zap (.Call (.Attribute o "append" py) [e] [] p2) none pos.line X.env=pure false:=by rfl):PSD X (.Expr (.Call (.Attribute o "append" py) [e] [] p2) pos) (dApp i te):=by
 have(T,p,r):=he;refine(_,pS (ss zxn zwy zwz iJ ho (bj p ci v) L C U v hpl) hs,λ{F M H σ ρ E D} z h oo=>?_);walk;let(h0,h):=h;let(ds,q):=wQ h0;let(_,g,l,k,rfl,_,_,_,I,_):=z.at (aQ q);x_go;refine(.ref l,g,.inl (rfl,k,SqL.of I),r z h λ{d s _ _ _} h m w j=>?_);cases x:slot s i<;>rw[x]at h<;>first|exact h.elim|skip
 have g1:=aQ x;have(_,Y,a,_,_,_,G,u):=w.sl i _ _ g1 g;cases a;let(b,Q):=w.write g1 g (u.append (.one j));exact(l,Y,_,rfl,rfl,G,by rw[<-u.length];exact h.1,oo.nx (m.trans b) Q h.2)
end
noncomputable def Jo:DSp:=λc P=>match c with
 |[.pen,.int m]=>(1<=m/\m<=10^60)/\∀r,0<=r->r<m->P (.int r)|_=>False
theorem GT{P:cH}{w:World}{K:zvu}{base:cx}{f:ay}(h:FnOk P w K mg base CX0 k f fd ps (sp_next K)):FnOk P w K mg base CX0 k f fd ps (spD K 2 Jo) :=
 h.imp λvs H Q E h=>by
  let(pp,M,g,P,lv,r,e,h,k):=h;obtain⟨m,rfl⟩:∃m,g=[.pen,.int m]:=by
   rcases g with _|⟨d,c⟩<;>try exact h.elim
   cases d<;>try exact h.elim
   rcases c with _|⟨i,c⟩<;>try exact h.elim
   cases i<;>try exact h.elim
   cases c<;>try exact h.elim
   exact(_,rfl)
  let((C,G),h):=h;let(x,_,rfl,(p,rfl,s,a,u,t,l,pen),y,_,rfl,rfl,rfl):=r;refine(p,a,u,t,l,_,rfl,pen,C,G,λr I c H' h0 v J U=>k (h r h0 v) ((λb o L n=>?_,λq e _=>?_,λb L=>?_),λtb=>tb.of λb o e Y=>U b o (by rintro rfl;rw[pen.lst]at e;cases e;exact qu Y) e) bK)
  .by_cases z:b=p
   .subst z;rw[pen.lst]at L;cases L;exact absurd rfl (n.1 s _)
   .exact U b o z L
  .rw[s]at e;cases e;exact(a,u,I,c,J)
  .by_cases z:b=p
   .subst z;rw[J.lst];intro z;cases z
   .cases q:H b with
    |none=>exact absurd q L|some o=>rw[U b o z q];intro z;cases z
def spLaw(K:zvu):Sp:=λg H Q _=>∃a d,g=[.ref a]/\Scr K H a d/\Tabs H/\∀c,Q (.bl true) c
mutual
def toPy:D->zdE
 |.non=>.none|.bl b=>.bool b|.int i=>.int i|.str x=>.str x|.tup c=>.tuple (sT c)|.lst c=>.list (sT c)|.ty _=>.none|.dK _ _=>.none|.dT _ _=>.none|.pen=>.none|.exc _=>.none|.exa _ _=>.none|.ins _ _ _=>.none|.cls _=>.none
def sT:av D->av zdE
 |[]=>[]|d::c=>toPy d::sT c
def pln:D->Bool
 |.pen=>false|.exc _=>false|.exa _ _=>false|.ins _ _ _=>false|.cls _=>false|.ty _=>false|.dK _ _=>false|.dT _ _=>false|.tup c=>plns c|.lst c=>plns c|.non=>true|.bl _=>true|.int _=>true|.str _=>true
def plns:av D->Bool
 |[]=>true|d::c=>pln d && plns c
end
noncomputable def eqD(x y:D):Bool:=zdE.eqv (toPy x) (toPy y)
noncomputable def shp(d:D):Bool:=pln d && SeqAt.shaped (toPy d)
mutual
theorem iV{P:cH}{w:World}{K:zvu}{pp:aT ay}{M:av ay}{H:Hp}{h:cx}(ok:HOk P w H h):∀(d:D)(v:V)(u:ax),pln d=true->Rep K pp M H d v->RelV v u->∃as,Reads h u (toPy d) as
 |.non,_,_,_,r,q=>by simp only[Rep]at r;subst r;cases q;exact(_,.none)
 |.bl b,_,_,_,r,q=>by simp only[Rep]at r;subst r;cases q;exact(_,.bool b)
 |.int i,_,_,_,r,q=>by simp only[Rep]at r;subst r;let(t,rfl):=q;exact(_,.int i t)
 |.str x,_,_,_,r,q=>by simp only[Rep]at r;subst r;let(t,rfl):=q;exact(_,.str x t)
 |.tup g,_,_,p,r,q=>by simp only[Rep]at r;let(a,C,rfl,l,r):=r;cases q;let(_,c,s,o,ho,J,n,hd):=ok a _ l;let(as,z):=mq ok g C c p r s;exact(_,.tuple ho J hd (by simpa using z))
 |.lst g,_,_,p,r,q=>by simp only[Rep]at r;let(a,C,rfl,_,_,l,r):=r;cases q;let(_,c,n,s,ho):=ok a _ l;let(as,z):=mq ok g C c p r s;exact(_,.list ho rfl rfl (by simpa using z))
 |.ty _,_,_,p,_,_=>nomatch p
 |.dK _ _,_,_,p,_,_=>nomatch p
 |.dT _ _,_,_,p,_,_=>nomatch p
 |.pen,_,_,p,_,_=>nomatch p
 |.exc _,_,_,p,_,_=>nomatch p
 |.exa _ _,_,_,p,_,_=>nomatch p
 |.ins _ _ _,_,_,p,_,_=>nomatch p
 |.cls _,_,_,p,_,_=>nomatch p
theorem mq{P:cH}{w:World}{K:zvu}{pp:aT ay}{M:av ay}{H:Hp}{h:cx}(ok:HOk P w H h):∀(ds:av D)(vs:av V)(us:av ax),plns ds=true->ei K pp M H ds vs->Vals vs us->∃as,ReadsAll h us (sT ds) as
 |[],_,_,_,r,q=>by simp only[ei]at r;subst r;cases q;exact(_,.nil)
 |d::ds,_,_,p,r,q=>by
  simp only[ei]at r;let(x,r',rfl,U,c):=r;simp only[plns,zya]at p;cases q with
  |cons J L =>
   let(as,g):=iV ok d _ _ p.1 U J;let(bs,l):=mq ok ds _ _ p.2 c L;exact(_,by rw[sT];exact .cons g l)
end
section
variable{pp:aT ay}
inductive rEqD(K:zvu)(n:Bool)(x:V)(y:V)(H:Hp)(Q:VK):Prop
 |mk pp M dx dy:Rep K pp M H dx x->Rep K pp M H dy y->shp dx=true->shp dy=true->Q (.bl (if n then !eqD dx dy else eqD dx dy)) H->rEqD K n x y H Q
theorem Jp(l:Room k X.A):OpR X (zae .Eq) (rEqD X.K false):=by intro pins s σ H x y v u Q I z C h;walk;let(pp,M,dx,g,U,w,c,d,q):=h;unfold shp at c d;rw[zya]at c d;let(as,G):=iV I.hok dx x v c.1 U z;let(bs,Y):=iV I.hok g y u d.1 w C;x_go;exact SeqAt.compareEq_shaped G Y c.2 d.2 (by have:=l.un;lia) (cS I q rfl)
theorem Jq(l:Room k X.A):OpR X (zae .NotEq) (rEqD X.K true):=by intro pins s σ H x y v u Q I z C h;walk;let(pp,M,dx,g,U,w,c,d,q):=h;unfold shp at c d;rw[zya]at c d;let(as,G):=iV I.hok dx x v c.1 U z;let(bs,Y):=iV I.hok g y u d.1 w C;x_go;exact SeqAt.compareNe_shaped G Y c.2 d.2 (by have:=l.un;lia) (cS I q rfl)
def gEq(n:Bool):D->D->(D->Prop)->Prop:=λx y P=>(shp x=true/\shp y=true)/\P (.bl (if n then !eqD x y else eqD x y))
theorem cc(c:Room k X.A):OpD X (zae .Eq) (gEq false) :=
 (_,Jp c,λ_ J L h k=>(_,_,_,_,J,L,h.1.1,h.1.2,k h.2 .refl cF))
theorem gc(c:Room k X.A):OpD X (zae .NotEq) (gEq true) :=
 (_,Jq c,λ_ J L h k=>(_,_,_,_,J,L,h.1.1,h.1.2,k h.2 .refl cF))
end
section
variable{F:Fx}{pp:aT ay}
theorem GU:PED X (.Dict [] [] pos) (dC (.dK [] [])):=(_,CD,λ{F M H σ ρ Q P} J h k l c=>k h (.new c) (J.sameP (.new c)) (by exact(l,[],rfl,(J.liv.fresh c).1,(J.liv.fresh c).2,ao,rfl,.nil)))
abbrev DO:=DS->(aT Int->DS->Prop)->Prop
inductive POD(X:Cx)(e:Option Expr)(t:DO):Prop
 |mk (T:TO):PO X e T->RU X.K T t->POD X e t
abbrev Jr:DO:=λc Q=>Q none c
abbrev Js(te:DE):DO:=λg Q=>te g λd c=>match d with
 |.int i=>Q (some i) c|_=>False
theorem dF:POD X none Jr :=
 (_,FX,λJ h k=>k h .refl J)
theorem cI(he:PED X e te):POD X (some e) (Js te):=by
 have(T,p,r):=he;refine(_,FY p,λg h k=>r g h λ{d _ _ _ _} h m J c=>?_);cases d<;>first|exact h.elim|skip
 exact(_,c,k h m J)
def cutD(xs:av D)(lo hi:aT Int):av D:=(xs.drop (HT.sIx xs.length 0 lo)).take (HT.sIx xs.length xs.length hi-HT.sIx xs.length 0 lo)
theorem ei.cut{K:zvu}{M:av ay}{H:Hp}{ds:av D}{xs:av V}(lo hi:aT Int)(r:ei K pp M H ds xs):ei K pp M H (cutD ds lo hi) (cutV xs lo hi):=by unfold cutD cutV;rw[r.length];exact(r.drop _).take _
end
theorem AL{g:DG}{b:DTS}{E:DEnds}{ds:av D}(N:DS->Prop)(q:∀ρ,N ρ->E.nx ρ)
  (hs:∀d∈ds,∀(ρ:DS)(X:DS->Prop),N ρ->(∀c,N c->X c)->g d ρ λl=>b {E with nx:=X,ct:=X,bk:=E.nx} l):∀ρ,N ρ->iR g b ds E ρ:=by
 induction ds with
 |nil=>exact q|cons d r J=>exact λρ h=>hs d zzd ρ _ h (J λd hd=>hs d (zzc _ hd))
theorem dP{g:DG}{b:DTS}{E:DEnds}{xs:av α}{em:α->D}(N:av α->DS->Prop)(q:∀ρ,N xs ρ->E.nx ρ)(hs:∀(pre:av α)(x:α)(post:av α)(ρ:DS)(X:DS->Prop),xs=pre++x::post->N pre ρ->(∀c,N (pre++[x]) c->X c)->g (em x) ρ λl=>b {E with nx:=X,ct:=X,bk:=E.nx} l)(ρ:DS)(h:N [] ρ):iR g b (xs.map em) E ρ:=by
 have key:∀(post pre:av α),xs=pre++post->∀ρ,N pre ρ->iR g b (post.map em) E ρ:=by
  intro post
  induction post with
  |nil=>intro pre e ρ h;rw[zzB]at e;subst e;exact q ρ h|cons d r J=>intro pre e ρ h;exact hs pre d r ρ _ e h (J (pre++[d]) (by rw[e,zzI];rfl))
 exact key xs [] rfl ρ h
theorem AM{g:DG}{b:DTS}{E:DEnds}{ds:av D}(N:av D->DS->Prop)(q:∀ρ,N ds ρ->E.nx ρ)
  (hs:∀(pre:av D)(d:D)(post:av D)(ρ:DS)(X:DS->Prop),ds=pre++d::post->N pre ρ->(∀c,N (pre++[d]) c->X c)->g d ρ λl=>b {E with nx:=X,ct:=X,bk:=E.nx} l) (ρ:DS) (h:N [] ρ):iR g b ds E ρ:=zwh ds ▸ dP (em:=id) N q hs ρ h
theorem AN{xs:av α}(h0:0<=r)(h1:r<xs.length):∃d,atI xs r\d/\xs[r.toNat]?\d:=by
 let(j,rfl):=zyq h0;have J:j<xs.length:='l'
 exact(xs[j],uH (by simp[J]),by simp[J])
theorem gd{xs:av D}{Q:D->Prop}(h0:0<=r)(g:r<xs.length)(h:∀d∈xs,Q d):opt (atI xs r) Q:=by have(d,e,c):=AN h0 g;rw[e];exact h d (zzK c)
theorem aX{xs:av D}{d:D}{Q:D->Prop}(h0:0<=r)(e:xs[r.toNat]?\d)(h:Q d):opt (atI xs r) Q:=by let(j,rfl):=zyq h0;rw[uH (show xs[j]?\d from e)];exact h
theorem cpow{i:Int}(h:0<=j/\j<=1000000/\i.natAbs<2^64:=by decide):CPow i j:=h
theorem sz(h:Nat.ble n 1000=true:=by rfl):n<=zaa:=zzk (Nat.le_of_ble_eq_true h) 'd'
theorem cJ{i:Int}:eqD (.int i) (.int j)=decide (i=j):=by show (i==j)=_;by_cases h:i=j<;>simp[h]
def Bd(n:Nat)(i:Int):Prop:=i.natAbs<2^n
theorem Bd.mono{i:Int}(h:Bd m i)(l:m<=n):Bd n i:=zzA h (zwa 'd' l)
theorem Bd.add{i:Int}(h:Bd m i)(q:Bd n j):Bd (max m n+1) (i+j):=by have c:=h.mono (Nat.le_max_left m n);have d:=q.mono (Nat.le_max_right m n);exact zzE (Int.natAbs_add_le i j) (by rw[Nat.pow_succ,Nat.mul_two];exact Nat.add_lt_add c d)
theorem Bd.le{i:Int}(h:Bd m j)(l:i.natAbs<=j.natAbs):Bd m i:=zzE l h
end
noncomputable def sU:Sl->Sl
 |.own _=>.nil|.obj _=>.nil|s=>s
theorem ip(s:Sl):(∀ds,sU s ≠ .own ds)/\∀q,sU s ≠ .obj q:=by cases s<;>exact(λds z=>(by cases z),λq z=>(by cases z))
def dg(ρ:DS):DS:=ρ.map sU
def Jt(ρ:DS):aT Nat->Sl
 |none=>.nil|some j=>sU (slot ρ j)
def subD(js:av (aT Nat))(ρ:DS):DS:=js.map (Jt ρ)
def cZ(g:DG)(tc:DT)(te:DE):av D->av D->DS->(av D->Prop)->Prop
 |[],c,_,Q=>Q c|d::r,c,l,Q=>g d l λh=>tc h λb J=>Br b (te J λy L=>c.length<zaa/\cZ g tc te r (c++[y]) (dg L) Q) (cZ g tc te r c (dg J) Q)
abbrev LA(t:DA)(js:av (aT Nat))(g:DG)(tc:DT)(te:DE):DA:=λl Q=>t l λd c=>cZ g tc te d [] (subD js c) λh=>Q h c
noncomputable def delH(H:Hp)(a:ay):Hp:=λb=>if b=a then none else H b
theorem AO{H:Hp}{a:ay}:delH H a a=none:=by simp[delH]
theorem eE{H:Hp}{a:ay}(h:b≠a):delH H a b=H b:=by simp[delH,h]
theorem Tabs.del{H:Hp}{l:ay}(h:Tabs H)(c:H l\o)(J:¬TF o):Tabs (delH H l) :=
 h.of λb x e L=>by
  rw[eE]
  .exact e
  .rintro rfl;rw[c]at e;cases e;exact J L
theorem Dx{H:Hp}{a:ay}(h:H a\o):upd (delH H a) a o=H:=by
 funext b;by_cases e:b=a
 .subst e;rw[ao,h]
 .rw[ar e,eE e]
section
variable{F:Fx}{pp:aT ay}
theorem RSt.rebase{M:av ay}{H:Hp}{l:St}{ρ:DS}(r:RSt K F M H l ρ):RSt K (F.pp,M,H) M H l (dg ρ):=by
 refine(by simp[dg,r.len],λi s o c u=>?_,OwF.none (λi s c=>?_),λa h=>h,.refl,r.liv.m,r.liv0,(trivial,r.lk.t))
 .simp only[dg,zzz]at c;cases q:ρ[i]? with
  |none=>rw[q]at c;cases c
  |some g =>
   rw[q]at c;cases c;have:=r.sl i g o q u;cases g with
   |nil=>trivial|val d=>exact this|pin w d=>exact this|own ds=>trivial|obj q=>trivial
 .simp only[dg,zzz]at c;cases q:ρ[i]? with
  |none=>rw[q]at c;cases c
  |some g =>
   rw[q]at c;cases c;exact ip g
theorem RSt.writeFree{M:av ay}{H:Hp}{l:St}{ρ:DS}{xs:av V}(r:RSt K (F.pp,M,H) M H l (dg ρ))(U:b∈M)(C:F.pp≠some b)(h:H b\(.lst xs)) :
  RSt K (F.pp,M,upd H b (.lst us)) M (upd H b (.lst us)) l (dg ρ):=by
 have m:Mv K F.pp M H M (upd H b (.lst us)):=.write h U C;have J:Lv0 F.pp M (upd H b (.lst us)):=by
  refine(λa x=>?_,λp e=>?_)
  .by_cases z:a=b
   .subst z;rw[ao];intro z;cases z
   .rw[ar z];exact r.liv.m a x
  .by_cases z:p=b
   .subst z;rw[ao];intro z;cases z
   .rw[ar z];exact r.liv.p p e
 refine(r.len,λi s o c u=>?_,OwF.none (λi s c=>?_),λa h=>h,.refl,J.m,J,(trivial,m.tb r.lk.t))
 rotate_left
 .simp only[dg,zzz]at c;cases q:ρ[i]? with
  |none=>rw[q]at c;cases c
  |some g =>
   rw[q]at c;cases c;exact ip g
 have q:=r.sl i s o c u;cases s with
 |nil=>trivial|val d=>let(v,e,q):=q;exact(v,e,q.mv m)
 |pin w d=>let(v,e,L,q):=q;exact(v,e,L,q.mv m)
 |obj z=>exact q|own ds =>
  simp only[dg,zzz]at c;cases q:ρ[i]? with
  |none=>rw[q]at c;cases c
  |some g=>rw[q]at c;cases g<;>cases c
theorem uY(ρ:DS):dg (dg ρ)=dg ρ:=by simp only[dg,zzv];refine zzJ λs _=>?_;cases s<;>rfl
theorem pq(c:av (aT Nat))(ρ:DS):dg (subD c ρ)=subD c ρ:=by
 simp only[dg,subD,zzv];refine zzJ λo _=>?_;cases o with
 |none=>rfl|some j=>simp only[zcn,Jt];cases slot ρ j<;>rfl
theorem RSt.block{M:av ay}{H:Hp}{G:St}{ρ:DS}{D:ay}(r:RSt K F M H G ρ)(g:av (aT Nat))(U:H D=none) :
  RSt K (F.pp,D::M,upd H D (.lst [])) (D::M) (upd H D (.lst [])) (Lake.sub g G) (subD g ρ):=by
 have m:Mv K F.pp M H (D::M) (upd H D (.lst [])):=.newOwn U;have E:Lv0 F.pp (D::M) (upd H D (.lst [])):=by
  refine(λa u=>?_,λp e=>(SameP.new (K:=K) (pp:=F.pp) U).live p (r.liv.p p e));rcases zze.mp u with rfl|u
  .rw[ao];intro z;cases z
  .exact(SameP.new (K:=K) (pp:=F.pp) U).live a (r.liv.m a u)
 refine(by simp[Lake.sub,subD],λi s o c l=>?_,OwF.none (λi s c=>?_),λa h=>h,.refl,E.m,E,(trivial,m.tb r.lk.t))
 .simp only[subD,zzz]at c;simp only[Lake.sub,zzz]at l;cases q:g[i]? with
  |none=>rw[q]at c;cases c
  |some C =>
   rw[q]at c l;cases c;cases l;cases C with
   |none=>trivial|some j =>
    show RSl K _ _ _ (sU (slot ρ j)) _;cases e:slot ρ j with
    |nil=>trivial|own I=>trivial|obj q=>trivial|val d =>
     have(o,ho,v,rfl,x):=r.at (aQ e (by intro z;cases z));exact(v,by simp[sub1,ho],x.mv m)
    |pin w d =>
     have(o,ho,v,rfl,Q,x):=r.at (aQ e (by intro z;cases z));exact(v,by simp[sub1,ho],Q,x.mv m)
 .simp only[subD,zzz]at c;cases q:g[i]? with
  |none=>rw[q]at c;cases c
  |some C =>
   rw[q]at c;cases C with
   |none=>cases c;exact(λI z=>(by cases z),λq z=>(by cases z))
   |some j =>
    cases c;exact ip (slot ρ j)
inductive PTsD(X:Cx)(ifs:List Expr)(t:DT):Prop
 |mk (T:TT):PTs X ifs T->RU X.K T t->PTsD X ifs t
theorem PTsD.ex{t:DT}(h:PTsD X ifs t):∃T:TT,PTs X ifs T/\RU X.K T t:=by let(T,p,r):=h;exact(T,p,r)
abbrev cf:DT:=λc Q=>Q true c
theorem aG:PTsD X [] cf :=
 (_,Gn,λJ h k=>k h .refl J)
theorem AQ{c:cy}{t:DT}(h:PTD X c t):PTsD X [c] t:=by have(T,p,r):=h;exact(T,Go p,r)
def PCD(X:Cx)(e:cy)(t:DA):Prop:=∃T:TE,PE X e T/\(∀(i:Nat)(y:Str)(py J:Pos),X.N.Nodup->X.N[i]?\y->X.env.scope.names.lookup y\.local->zap e (some (.Name y py)) J.line X.env=pure true->PS X (.Assign [.Name y py] e J) (tAsg T (pU i)))/\RL X.K T t
theorem PCD.pld{t:DA}(h:PCD X e t):PLD X e t:=by let(T,p,_,r):=h;exact(T,p,r)
theorem dfc{t:DA}(h:PCD X e t):PED X e (dFrz t):=aq h.pld
theorem jP{t:DA}(i:Nat)(h:PCD X e t)(g:X.N.Nodup:=by assumption)(l:X.N[i]?\y:=by rfl)(c:X.env.scope.names.lookup y\.local:=by rfl)(L:zap e (some (.Name y py)) pos.line X.env=pure true:=by rfl):PSD X (.Assign [.Name y py] e pos) (dSet i (dFrz t)):=by have(T,_,p,r):=h;refine(_,p i y py pos g l c L,λu q o=>r u q λq m J c s=>o.nx (m.trans (.new c)) ((J.sameP (.new c)).set ?_ i) q);exact(_,_,rfl,(J.liv.fresh c).1,(J.liv.fresh c).2,ao,s.mv (.new c))
end
section
variable[Frm]
noncomputable def mx:av D->aT (av Int)
 |[]=>some []|.int i::r=>(mx r).map (i :: ·)|_=>none
theorem pr:∀ns:av Int,mx (ns.map D.int)\ns
 |[]=>rfl|n::r=>by simp[mx,pr r]
theorem AR:∀{ds:av D}{ns:av Int},mx ds\ns->ds=ns.map D.int:=by
 intro ds
 induction ds with
 |nil=>intro _ h;cases h;rfl
 |cons d r J =>
  intro ns h;cases d<;>try cases h
  simp only[mx,zyi]at h;let(ms,h,rfl):=h;rw[J h];rfl
theorem sV{K:zvu}{pp:aT ay}{M:av ay}{H:Hp}:∀{ns:av Int}{xs:av V},ei K pp M H (ns.map D.int) xs->xs=ns.map V.int
 |[],xs,h=>by simpa only[zzW,ei]using h
 |n::r,xs,h=>by let(x,t,rfl,rfl,h):=h;rw[sV h];rfl
def gSum:DSp:=λc P=>match c with
 |[.lst g]=>match mx g with
  |some d=>P (.int d.sum)|none=>False
 |_=>False
theorem uZ{ns:av Int}{P:D->Prop}(h:P (.int ns.sum)):gSum [.lst (ns.map D.int)] P:=by unfold gSum;simp only[pr];exact h
theorem Dy{ds:av D}{P:D->Prop}(h:gSum ds P):∃ns:av Int,ds=[.lst (ns.map D.int)]/\P (.int ns.sum):=by
 rcases ds with _|⟨d,c⟩<;>try exact h.elim
 cases d<;>try exact h.elim
 cases c<;>try exact h.elim
 rename_i g;unfold gSum at h;dsimp only at h;cases e:mx g with
 |none=>rw[e]at h;exact h.elim|some ns =>
  rw[e]at h;exact(ns,by rw[AR e],h)
theorem AS(U:X.calm=true:=by rfl):CallD X (.builtin "sum") gSum:=by refine(_,CW U,λ{pp M H ds vs Q P} _ r h k=>?_);walk;let(g,rfl,c):=Dy h;let(x,_,rfl,(a,ys,rfl,_,_,d,l),rfl):=r;x_go;exact(a,g,rfl,SqL.of (by rw[d,sV l]),k c .refl bK)
noncomputable abbrev Ju(te:DE):DA:=λh Q=>te h λd c=>match d with
 |.lst g=>Q g c|.tup g=>Q g c|_=>False
theorem AT{l:cy}{te:DE}(x:PED X l te):PID X tg l (Ju te):=by
 have(T,p,r):=x;refine(_,IV p,λz h k=>r z h λ{d _ _ _ _} h m w L=>?_);cases d<;>first|exact h.elim|skip
 case tup ds =>
  have(a,c,rfl,q,L):=L;exact .inr (a,rfl,(c,SqT.of q),k h m w (ItOkV.of (vs:=c) (λ_ _ g _ _ _ _ y=>(y.1,y.2 c (SqT.of (g.tup a c q))),λ_ _ g i s=>(c,c[i],SqT.of (g.tup a c q),by simp[s]),λ_ _ g _ s=>(c,SqT.of (g.tup a c q),s)) L))
 case lst ds =>
  have(a,c,rfl,u,v,q,L):=L;exact .inl (a,rfl,(c,SqL.of q),k h m w (ItOkV.of (vs:=c) (λ_ _ g _ _ _ _ y=>(y.1,y.2 c (SqL.of (g.lst a c q u v).1)),λ_ _ g i s=>(c,c[i],SqL.of (g.lst a c q u v).1,by simp[s]),λ_ _ g _ s=>(c,SqL.of (g.lst a c q u v).1,s)) L))
theorem bY{g:DG}{l:DT}{te:DE}{xs:av α}{em:α->D}{Q:av D->Prop}(N:av α->av D->DS->Prop)(u:∀acc ρ,N xs acc ρ->Q acc)(hs:∀(pre:av α)(x:α)(post:av α)(acc:av D)(ρ:DS)(Y:av D->DS->Prop),xs=pre++x::post->N pre acc ρ->(∀J c,N (pre++[x]) J (dg c)->Y J c) ->
   g (em x) ρ λq=>l q λb L=>Br b (te L λy U=>acc.length<zaa/\Y (acc++[y]) U) (Y acc L))(ρ:DS)(h:N [] [] ρ):cZ g l te (xs.map em) [] ρ Q:=by
 have key:∀(post pre:av α)(acc:av D),xs=pre++post->∀ρ,N pre acc ρ->cZ g l te (post.map em) acc ρ Q:=by
  intro post
  induction post with
  |nil=>intro pre acc e ρ h;rw[zzB]at e;subst e;exact u acc ρ h|cons d r v=>intro pre acc e ρ h;exact hs pre d r acc ρ (λJ c=>cZ g l te (r.map em) J (dg c) Q) e h (λJ c s=>v (pre++[d]) J (by rw[e,zzI];rfl) _ s)
 exact key xs [] [] rfl ρ h
theorem ge{g:DG}{q:DT}{te:DE}{ds:av D}{Q:av D->Prop}(N:av D->av D->DS->Prop)(s:∀acc ρ,N ds acc ρ->Q acc)
  (hs:∀(pre:av D)(d:D)(post acc:av D)(ρ:DS)(Y:av D->DS->Prop),ds=pre++d::post->N pre acc ρ->(∀J c,N (pre++[d]) J (dg c)->Y J c) ->
   g d ρ λl=>q l λb L=>Br b (te L λy U=>acc.length<zaa/\Y (acc++[y]) U) (Y acc L)) (ρ:DS) (h:N [] [] ρ):cZ g q te ds [] ρ Q:=zwh ds ▸ bY (em:=id) N s hs ρ h
theorem bG{g:DG}{te:DE}{xs:av α}{em:α->D}{Q:av D->Prop}(f:α->D)(N:DS->Prop)(s:xs.length<=zaa)(hs:∀x∈xs,∀(ρ:DS)(Y:D->DS->Prop)(Z:DS->Prop),N ρ->(∀c,N (dg c)->Y (f x) c)->g (em x) ρ λl=>cf l λb J=>Br b (te J Y) (Z J))(ρ:DS)(h:N ρ)(u:Q (xs.map f)):cZ g cf te (xs.map em) [] ρ Q:=by refine bY (λpre d ρ=>d=pre.map f/\N ρ) (λd ρ h=>by rw[h.1];exact u) (λpre x post d ρ Y e L U=>?_) ρ (rfl,h);let(rfl,L):=L;subst e;refine hs x 's' ρ _ (λJ=>Y (pre.map f) J) L λc q=>(?_,U _ c ('s',q));rw[zzh,zzl]at s;rw[zza];lia
theorem cm{g:DG}{te:DE}{ds:av D}{Q:av D->Prop}(f:D->D)(N:DS->Prop)(q:ds.length<=zaa)
  (hs:∀d∈ds,∀(ρ:DS)(Y:D->DS->Prop)(Z:DS->Prop),N ρ->(∀c,N (dg c)->Y (f d) c)->g d ρ λl=>cf l λb J=>Br b (te J Y) (Z J)) (ρ:DS) (h:N ρ) (L:Q (ds.map f)):cZ g cf te ds [] ρ Q:=zwh ds ▸ bG (em:=id) f N q hs ρ h L
structure Shp(n:Nat)(d:D):Prop where
 p:pln d=true
 c:(toPy d).canLay0=true
 d:(toPy d).depth <= n
theorem Shp.shp{n:Nat}{d:D}(h:Shp n d)(l:n<=64:=by decide):shp d=true:=by unfold Tactic.shp SeqAt.shaped;rw[h.p,h.c,zzj (zzk h.d l)];rfl
theorem Shp.int{i:Int}{n:Nat}:Shp n (.int i):=(rfl,rfl,zyh _)
theorem AU{n:Nat}:∀{ds:av D},(∀d∈ds,Shp n d)->plns ds=true/\zdE.canLayAll0 (sT ds)=true/\zdE.depthAll (sT ds)<=n
 |[],_=>(rfl,rfl,zyh _)|d::ds,h=>by let(a,b,c):=AU (ds:=ds) λx g=>h x (zzc _ g);have q:=h d zzd;refine(by simp only[plns,q.p,a,Bool.and_self],by simp only[sT,zdE.canLayAll0,q.c,b,Bool.and_self],?_);exact Nat.max_le.mpr (q.d,c)
theorem Shp.tup{n:Nat}{ds:av D}(h:∀d∈ds,Shp n d):Shp (n+1) (.tup ds):=by have(a,b,c):=AU h;exact(a,b,zcp c)
theorem dZ{d:D}(h:shp d=true):eqD d d=true:=by unfold shp at h;rw[zya]at h;exact SeqAt.eqv_refl _ (SeqAt.canLay_of_shaped h.2)
theorem Shp.pair{i:Int}:Shp (n+1) (.tup [.int i,.int j]):=.tup λd hd=>by simp only[zze,zyb,zxa]at hd;rcases hd with rfl|rfl<;>exact .int
end
def WL[Frm](K:zvu):St->XK:=λg C d H=>∃F M c J,(C=.ref J/\d=none)/\RSt K F M H g c/\Frm.W c J
def Xk[Frm](X:Cx):Prop:=∀e c,XF X (WL X.K) e c->X.xe e c
theorem vb{X:Cx}:Ho X (@WL _ Frm.free X.K):=.inr λ_ _ _ _ z=>by let(_,_,_,_,_,_,w):=z;exact w
theorem iq{X:Cx} : @Xk _ Frm.free X:=by rintro _ _ ⟨_,_,_,_,_,_,_,_,_,_,_,_,_,_,_,_,w⟩;exact w.elim
theorem sW{X:Cx}{E:ax->aM->Prop}{W:St->XK}{e:ax}{s':aM}(h:XF (X.wish E) W e s'):XF X W e s':=by have(l,C,g,B,q,H,a,b,c,d,f):=h;exact(l,C,g,B,q,H,a,b,(c.old,c.trk,c.pin),d.unwish,f)
theorem eF[Frm]{X:Cx}:Xk (X.wish (XF X (WL X.K))):=λ_ _ h=>sW h
theorem qz[Frm]{X:Cx}(hs:X.stack=X.env::X.outer)(J:X.env.frame\X.env.locals):zeF (model X.prog X.w) X.A X.env (XF X (WL X.K)):=λe d h=>by let(ea,C,dd,B,σ,H,a,b,c,I,f):=id h;exact ET (M:=model X.prog X.w) (A':=X.A) (A:=X.A) I.ok.frames hs J e d h
abbrev DSpE:=av D->(D->Prop)->(ay->Prop)->Prop
variable{g1 g2:DSpE}
inductive spDE(K:zvu)(n:Nat)(g:DSpE)(vs:List V)(H:Hp)(Q:VK)(E:XK):Prop
 |mk pp M ds P W:Lv pp M H->ei K pp M H ds vs->ds.length=n->g ds P W->(∀{d H' v},P d->SameP K pp H H'->Rep K pp M H' d v->Q v H')->(∀{C H'},W C->SameP K pp H H'->E (.ref C) none H')->spDE K n g vs H Q E
abbrev wR(n:Nat)(g:DSpE)(W:DS->ay->Prop)(t:DA):DE:=λl Q=>t l λh c=>h.length=n/\g h (λd=>Q d c) (W c)
theorem GV{X:Cx}{x:Str}{e:cy}{sp:Sp}{W:St->XK}{T:TA}{f:ay}(U:FnOk X.prog X.w X.K X.mg X.base (CXE X.prog X.w) k f fd ps sp)(z:∀e s',XF X W e s'->X.xe e s')(v:Room k X.A)(g:Gl X x)(u:X.mg x\(.ref f))(l:zau X.K (.ref f)=true)(d:Binds X.K fd ps [])(C:PA X (e::ifs) T)(J:NoDb x)(he:SE X e ifs)(hpl:BA X pos ifs):PE X (.Call (.Name x p) (e::ifs) [] pos) (EU sp [] W T):=λc s E H Q I h=>by refine zyP (eA I g u ?_ J);refine zxb (h₀:=X.base) I.ok.mod.kin l (thnE (C pos c s E H _ I h) λus s1 vs H1 L r q=>(L.kIn,?_)) he hpl;exact uN U v d .nil z L r q
abbrev Fh(C:ay)(W:DS->ay->Prop)(t:DA):DTS:=λ_ g=>t g λd c=>d.length<=1000/\W c C
section
variable[Frm]{x:Str}{np cpos:Pos}{es:av cy}{t:DA}{g:DSpE}{W:DS->ay->Prop}
theorem Dz{f:ay}(U:FnOk X.prog X.w X.K X.mg X.base (CXE X.prog X.w) k f fd ps (spDE X.K n g))(G:Xk X)(h:W=Frm.W)(E:Room k X.A)(v:Gl X x)(C:X.mg x\(.ref f))(z:zau X.K (.ref f)=true)(u:Binds X.K fd ps [])(l:PAD X (e::es) t)(L:NoDb x)(he:SE X e es)(hpl:BA X pos es) :
  PED X (.Call (.Name x p) (e::es) [] pos) (wR n g W t):=by
 subst h;let(T,Y,b):=l;refine(_,GV U G E v C z u Y L he hpl,λ{F M H σ ρ Q P} i q k=>b i q λ{d c M1 H1 vs} q I J a=>?_);rw[zzB];exact(F.pp,M1,d,_,_,J.liv,a,q.1,q.2,λp s r=>k p (I.trans s.mv) (J.sameP s) r,λw s=>(F,M1,c,_,(rfl,rfl),J.sameP s,w))
theorem DB{C:ay}(c:Exc X.K C)(l:X.calm=true)(s:Gl X x)(u:X.mg x\(.ref C))(v:Xk X)(U:W=Frm.W)(h:PAD X (e::es) t)
  (he:SE X e es) (J:BA X cpos es)
  (hd:NoDb x):PSD X (.Raise (some (.Call (.Name x np) (e::es) [] cpos)) none pos) (Fh C W t):=by
 subst U;let(T,w,G):=h;refine(_,CK c l s u v w he J hd,λ{F M H σ ρ E D} I q o=>G I q λ{ds d M1 H1 vs} q m1 L z=>(?_,F,M1,d,C,(rfl,rfl),L,q.2));rw[<-z.length];exact zzk q.1 'd'
end
theorem fnDE{P:cH}{w:World}{K:zvu}{base:cx}{x:Str}{st:Stmt}{f:ay}{t:(DS->ay->Prop)->DTS}(v:Fun K x y st f fd)(S:er N ps (aj st))(a:∀{fr:Frm}{W:DS->ay->Prop}{c:ax}{A:zas}{outer:av Env}{s:aM}{H:Hp}{E:XK}(hW:W=fr.W),Room k (A.deeper (zbh y (aj st) s⁻¹ f c))->N.Nodup ->
   PSsD ((cxOf (CXE P w) P w K mg base N y (aj st) f c A outer s H E).wish (XF (cxOf (CXE P w) P w K mg base N y (aj st) f c A outer s H E) (WL K))) (cj st) (t W))(b:∀ds Q W,ds.length=ps.length->g1 ds Q W->t (λ_ C=>W C) {nx:=λ_=>Q .non,rt:=λd _=>Q d} (fK N.length ds)):FnOk P w K mg base (CXE P w) (k+1) f fd ps (spDE K ps.length g1):=by
 have(oc,od,kV,doc,pm,an,c,ct,osl,rfl,n,G):=v.ex;refine zG n G S (λvs H Q E h=>?_) λA outer s H vs Q E i h=>?_<;>let(pp,M,ds,P,W,o,r,e,h,u,j):=h
 .rw[<-r.length,e]
 .let fr:Frm:=(λ_ F _ _=>F=(pp,M,H),λ_=>W,λ_ _ _ _ _ _ h _=>h)
  have(T,p,run):=a (fr:=fr) (outer:=outer) (E:=E) (H:=H) rfl i S.nd;refine(T,λg s1 Y H1 D I q=>zyg (p g s1 Y H1 D (I.wish _) q) (λ_ _ q=>q.unwish) λe s' z=>qj (z.mono λσ' C dd H' q=>?_),run (iT o r rfl) (b ds _ _ e h) (λm L q=>u q L.sameT (by simp only[Rep]),λ_ _ q=>q,λ_ _ q=>q,λm L B q=>u q L.sameT (B.mv (.less L.sub))));have(F,M',ρ,Ca,(rfl,rfl),L,w):=q;obtain rfl:F=(pp,M,H):=L.lk.l;exact j w L.sameT
section
variable[fr0:Frm]{body suite:av Stmt}{b0:Stmt}{n x:Str}{np hpos:Pos}{C0:ay}{tb:(DS->ay->Prop)->DTS}{th:DTS}
theorem RSt.setNil{K:zvu}{F:Fx}{M:av ay}{H:Hp}{g:St}{ρ:DS}{o:aT V}(r:RSt K F M H g ρ)(i:Nat):RSt K F M H (g.set i o) (ρ.set i .nil):=by
 refine(by simp[r.len],λj s o c d=>?_,r.ow.drop i (λj e=>zzG (Ne.symm e)) (λj e=>zzG (Ne.symm e)) (λs e=>?_),r.sub,r.same,r.old,r.liv0,r.lk)
 .by_cases e:i=j
  .subst e;rw[bb c];trivial
  .rw[zzG e]at c d;exact r.sl j s o c d
 .rw[bb e];exact(λds z=>(by cases z),λq z=>(by cases z))
theorem eR{fr1 fr2:Frm}{K:zvu}{F:Fx}{M:av ay}{H:Hp}{h:St}{ρ:DS}(r : @RSt _ fr1 K F M H h ρ)(l:fr2.L K F M H) : @RSt _ fr2 K F M H h ρ:=by have(a,b,c,d,e,f,g,lt):=r;exact @RSt.mk _ fr2 K F M H h ρ a b c d e f g (@Lk.mk _ fr2 K F M H l (@Lk.t _ fr1 K F M H lt))
theorem fh{J:Frm}{K:zvu}{F:Fx}{M:av ay}{H:Hp}{d:St}{ρ:DS}(r : @RSt _ J K F M H d ρ):J.L K F M H:=by have(_,_,_,_,_,_,_,l):=r;exact @Lk.l _ J K F M H l
theorem Jv{J fr2:Frm}{K:zvu}{F:Fx}{M:av ay}{H:Hp}{E:DEnds}{D:Ends}(o : @EO _ J K F M H E D)(h:∀{l g d c},@RSt _ fr2 K F l g d c -> @RSt _ J K F l g d c) : @EO _ fr2 K F M H E D:=by have(s,bk,q,rt):=o;exact @EO.mk _ fr2 K F M H E D (λm r=>s m (h r)) (λm r=>bk m (h r)) (λm r=>q m (h r)) λm r=>rt m (h r)
@[reducible] def vc (F:Fx) (M:av ay) (H:Hp) (W:DS->ay->Prop):Frm :=
 (λL J d c=>J=F/\Mv L F.pp M H d c,W,λL J M1 H1 M2 H2 h m=>(h.1,h.2.trans (by rw[h.1]at m;exact m)))
noncomputable abbrev DC(i:Nat)(E:DEnds):DEnds:={nx:=λc=>E.nx (c.set i .nil),rt:=E.rt,bk:=λc=>E.bk (c.set i .nil),ct:=λc=>E.ct (c.set i .nil)}
abbrev dTry(K:zvu)(C0:ay)(i:Nat)(tb:(DS->ay->Prop)->DTS)(th:DTS)(Wo:DS->ay->Prop):DTS:=λE d =>
 tb (λc C=>(zar K (.ref C) (.ref C0)\true/\th (DC i E) (c.set i (.val (.exc C))))∨(zar K (.ref C) (.ref C0)\false/\Wo c C)) E d
theorem Jw(Q:K=X.K)(hs:X.stack=X.env::X.outer)(b:X.env.frame\X.env.locals)(hex:X.ex=[])(Y:X.N.Nodup)(hi:X.N[i]?\n)(y:X.env.kindOf n\.local)(j:Gl X x)(A:X.mg x\(.ref C0))(hx:Xk X)
  (a:∀(fr:Frm)(W:DS->ay->Prop)(hW:W=fr.W)pn,@PSsD _ fr ((X.pinned pn).wish (XF (X.pinned pn) (@WL _ fr X.K))) body (tb W)) (k:∀ea,PSsD (X.caught ea) (b0::suite) th) (I:NoDb x:=by decide) :
  PSD X (.Try body [.ExceptHandler (some (.Name x np)) (some n) (b0::suite) hpos] [] [] pos) (dTry K C0 i tb th Frm.W):=by
 subst Q;refine(_,EV hs b hex Y hi y j A hx I,λ{F M H σ ρ E D} G q o=>?_);have g:∀{Wd d h c ρ'},@RSt _ (vc F M H Wd) X.K F d h c ρ'->Mv X.K F.pp M H d h/\@RSt _ fr0 X.K F d h c ρ':=λ{Wd d h c ρ'} r=>((fh r).2,eR r (G.lk.cl (fh r).2).l);refine(@WL _ (vc F M H λu C=>(zar X.K (.ref C) (.ref C0)\true/\th (DC i E) (u.set i (.val (.exc C))))∨(zar X.K (.ref C) (.ref C0)\false/\fr0.W u C)) X.K,λpn=>?_,λc C dd h B=>?_)
 .let(T,p,run):=a (vc F M H _) _ rfl pn;exact(T,p,run (eR G (rfl,.refl)) q (Jv o λr=>(g r).2))
 .let(U,d,ρ',L,(rfl,rfl),r,w):=B;have e:U=F:=(fh r).1;subst e;let(m,r):=g r;rcases w with ⟨ex,w⟩|⟨ex,w⟩
  .refine .inl (ex,λea Ca' e v=>?_);cases e;let(T,p,run):=k ea;have z:Mv X.K U.pp M H d (upd h ea (excO L ea)):=m.trans (.new v);have r2:RSt X.K U d (upd h ea (excO L ea)) (c.set i (some (.ref ea))) (ρ'.set i (.val (.exc L))) :=
    (r.sameP (.new v)).set (by simp only[Rep];exact(ea,rfl,(r.liv.fresh v).1,(r.liv.fresh v).2,ao)) i
   exact(T,p,run r2 w (λs J=>o.nx (z.trans s) (J.setNil (o:=none) i),λs J=>o.bk (z.trans s) (J.setNil (o:=none) i),λs J=>o.ct (z.trans s) (J.setNil (o:=none) i),λs J=>o.rt (z.trans s) J))
  .exact .inr (ex,U,d,ρ',L,(rfl,rfl),r,w)
end
section
variable[Frm]{x:Str}
theorem bP{C:ay}(c:X.mg x\(.ref C))(J:Gl X x:=by rfl)(hd:NoDb x:=by decide):PED X (.Name x pos) (dC (.cls C)) :=
 .con (zp (v:=.ref C) J c rfl hd) λ_ _ _=>by simp only[Rep]
noncomputable def clD:D->aT ax
 |.cls C=>some (.ref C)|.ty T=>some (.type T)|_=>none
def clsD:av D->aT (av ax)
 |[]=>some []|d::g=>match clD d,clsD g with|some c,some r=>some (c::r)|_,_=>none
theorem AV{K:zvu}{pp:aT ay}{M:av ay}{H:Hp}{d:D}{x:V}{v u:ax}(e:clD d\v)(r:Rep K pp M H d x)(q:RelV x u):u=v:=by
 cases d<;>cases e
 .subst r;exact q
 .subst r;exact q
theorem wS{K:zvu}{pp:aT ay}{M:av ay}{H:Hp}:∀{ds:av D}{xs:av V}{vs us:av ax},clsD ds\vs->ei K pp M H ds xs->Vals xs us->us=vs
 |[],_,_,_,e,r,q=>by simp only[ei]at r;subst r;cases q;simp only[clsD]at e;cases e;rfl
 |d::ds,_,_,_,e,r,q=>by
  simp only[ei]at r;let(y,r',rfl,l,s):=r;cases q with
  |cons J L =>
   simp only[clsD]at e;split at e
   .rename_i c rr g h;cases e;rw[AV g l J,wS h s L]
   .cases e
theorem gf{te:DE}{g:DG}(he:PED X e te)(J:PGD X tg g)(hs:zbF [tg] e pos.line X.env=pure false:=by rfl)(c:zbE [tg] e X.env=pure none:=by rfl)(d:(zax [tg] X.env).map (·.2)=[zds tg X.env]:=by rfl):PSD X (.Assign [tg] e pos) (dAsg te g) :=
 Jk he J hs c (rP (zym he.ex).1 (zym J.ex).1 hs c d)
end
section
variable[Frm]
omit [Frm] in
theorem Br.dt{p:Prop}[Decidable p]{A B:Prop}(h:p)(a:A):Br (decide p) A B:=(λ_=>a,λz=>absurd h (zyl z))
omit [Frm] in
theorem Br.di{p:Prop}[Decidable p]{A B:Prop}(a:p->A)(b:¬p->B):Br (decide p) A B:=(λz=>a (zzX z),λz=>b (zyl z))
theorem fj{g:DG}{b:DTS}{E:DEnds}(N:Int->DS->Prop):∀(n:Nat)(lo:Int),(∀ρ,N (lo+n) ρ->E.nx ρ) ->
  (∀(k:Int)(ρ:DS)(X:DS->Prop),lo<=k->k<lo+n->N k ρ->(∀c,N (k+1) c->X c)->g (.int k) ρ λl=>b {E with nx:=X,ct:=X,bk:=E.nx} l)->∀ρ,N lo ρ->iR g b (iS lo n) E ρ
 |0,lo,d,_,ρ,h=>d ρ (by simpa using h)|n+1,lo,d,q,ρ,h=>q lo ρ _ (zyH _) 'l' h λc s=>fj N n (lo+1) (λρ h=>d ρ (by rw[show lo+((n+1:Nat):Int)=lo+1+(n:Int) by lia];exact h)) (λk ρ X h1 h2=>q k ρ X 'l' 'l') c s
section
variable{F:Fx}
noncomputable def fS(k:Nat):av D->av D
 |[]=>[]|d::r=>.tup [.int k,d]::fS (k+1) r
omit [Frm] in
theorem yk[Frm]{g:DG}{b:DTS}{E:DEnds}{xs:av α}{em:α->D}(N:av α->DS->Prop)(s:∀ρ,N xs ρ->E.nx ρ)(hs:∀(pre:av α)(x:α)(post:av α)(ρ:DS)(X:DS->Prop),xs=pre++x::post->N pre ρ->(∀c,N (pre++[x]) c->X c)->g (.tup [.int pre.length,em x]) ρ λl=>b {E with nx:=X,ct:=X,bk:=E.nx} l)(ρ:DS)(h:N [] ρ):iR g b (fS 0 (xs.map em)) E ρ:=by
 have key:∀(post pre:av α),xs=pre++post->∀ρ,N pre ρ->iR g b (fS pre.length (post.map em)) E ρ:=by
  intro post
  induction post with
  |nil=>intro pre e ρ h;rw[zzB]at e;subst e;exact s ρ h|cons d r J=>intro pre e ρ h;exact hs pre d r ρ _ e h (λc q=>by have:=J (pre++[d]) (by rw[e,zzI];rfl) c q;rw[zzh]at this;exact this)
 exact key xs [] rfl ρ h
theorem dD:∀(ds:av D)(k:Nat),(fS k ds).length=ds.length
 |[],_=>rfl|_::r,k=>by simp[fS,dD r]
omit [Frm] in
theorem sX:∀(ds:av D)(k i:Nat)(d:D),(fS k ds)[i]?\d->∃e,ds[i]?\e/\d=.tup [.int ((k+i:Nat):Int),e]
 |[],_,i,d,h=>by simp[fS]at h
 |e::r,k,0,d,h=>by simp[fS]at h;exact(e,rfl,h.symm)
 |e::r,k,i+1,d,h=>by simp only[fS,zck]at h⊢;have(U,c,g):=sX r (k+1) i d h;exact(U,c,by rw[g];congr 3;congr 1;lia)
noncomputable def zipD:av D->av D->av D
 |x::c,y::d=>.tup [x,y]::zipD c d|_,_=>[]
omit [Frm] in
theorem my:∀(xs c:av D),(zipD xs c).length=min xs.length c.length
 |[],_=>by simp[zipD]
 |_::_,[]=>by simp[zipD]
 |_::xs,_::c=>by simp[zipD,my xs c]
omit [Frm] in
theorem wT:∀(xs c:av D)(i:Nat)(d:D),(zipD xs c)[i]?\d->∃x y,xs[i]?\x/\c[i]?\y/\d=.tup [x,y]
 |[],_,i,d,h=>by simp[zipD]at h
 |_::_,[],i,d,h=>by simp[zipD]at h
 |x::xs,y::c,0,d,h=>by simp[zipD]at h;exact(x,y,rfl,rfl,h.symm)
 |x::xs,y::c,i+1,d,h=>by exact wT xs c i d h
theorem iW(f:α->D)(g:β->D):∀(xs:av α)(c:av β),zipD (xs.map f) (c.map g)=(xs.zip c).map λp=>D.tup [f p.1,g p.2]:=λxs=>by
 induction xs with
 |nil=>intro c;rfl|cons x xs J =>
  intro c;cases c with
  |nil=>rfl|cons y c=>rw[zzq,zzq,zipD,J,zxf,zzq]
def Jx(k:Nat)(d:D)(ρ:DS)(Q:DS->Prop)(j:D):Sl->Prop
 |.own c=>match j with
  |.int i=>∃n,ixN c.length i\n/\Q (ρ.set k (.own (c.set n d)))|_=>False
 |_=>False
abbrev LB(k:Nat)(ti:DE):DG:=λd g Q=>GS (slot g k)/\ti g λj c=>Jx k d c Q j (slot c k)
theorem Fi{o i:cy}{C:DE}(ho:PE X o (tVar k))(hi:PED X i C)(a:∀v,zds (.Subscript o i pos) X.env v=(do
   let c <-zbM [v] (eval o X.env)
   let g <-zbM [v,c] (eval i X.env)
   zdk pos
   zbM [v,c,g] (setItem c g v)
   release [v,c,g] []):=by intro _;rfl):PGD X (.Subscript o i pos) (LB k C):=by
 have(T,p,r):=hi;refine(_,zv ho p pY a,λ{F M H σ ρ d v Q P} z A h b=>?_);walk;let(h0,h):=h;let(ds,q):=wQ h0;let(_,U,l,xs,rfl,_):=z.at (aQ q);x_go;refine(.ref l,U,r z h λ{j s _ _ _} h m w B=>?_);cases x:slot s k<;>rw[x]at h<;>first|exact h.elim|skip
 cases j<;>first|exact h.elim|skip
 walk;let(n,e,h):=h;have g1:=aQ x;let(l',I,Y,_,_,_,E,u):=w.sl k _ _ g1 U;x_go;cases Y;walk;subst B;let(y,G):=w.write g1 U (u.set (A.mv m) n);x_go;exact(l,I,_,n,rfl,rfl,E,by rw[<-u.length];exact e,b h (m.trans y) G)
omit [Frm] in
theorem Jy{i:Int}(h0:0<=i)(h:i<n):ixN n i\i.toNat:=by unfold ixN;rw[zzu h0,zzu h]
end
end
abbrev DTN:=(D->Prop)->(av D->Prop)->DS->Prop
section
variable[Frm]
structure EN(K:zvu)(F:Fx)(M:List Addr)(H:Hp)(Q:D->Prop)(L:List D->Prop)(D:Ends):Prop where
 rt:∀{M' H' σ' ρ' d v},Mv K F.pp M H M' H'->RSt K F M' H' σ' ρ'->Rep K F.pp M' H' d v->Q d->D.rt v H'
 nx:∀{M' H' σ' ρ'},Mv K F.pp M H M' H'->RSt K F M' H' σ' ρ'->Q .non->D.nx σ' H'
 nw:∀{M' H' ds l xs},SameP K F.pp F.H0 H'->(∀a∈F.M0,a∈M')->F.H0 l=none->F.pp≠some l->l∈M'->H' l\(.lst xs)->ei K F.pp M' H' ds xs->L ds->D.rt (.ref l) H'
theorem EN.mv{K:zvu}{F:Fx}{M:av ay}{H:Hp}{Q:Tactic.D->Prop}{L:av Tactic.D->Prop}{D:Ends}(o:EN K F M H Q L D)(m:Mv K F.pp M H A H1):EN K F A H1 Q L D :=
 (λJ=>o.rt (m.trans J),λJ=>o.nx (m.trans J),o.nw)
inductive PSsN(X:Cx)(st:List Stmt)(t:DTN):Prop
 |mk (T:TS):PSs X st T->(∀{F:Fx}{M H σ ρ Q L D},RSt X.K F M H σ ρ->t Q L ρ->EN X.K F M H Q L D->T D σ H)->PSsN X st t
variable{rest:av Stmt}{t:DTS}{u:DTN}{tl:DA}
theorem GW(h:PLD X e tl):PSsN X [.Return (some e) pos] (λ_ L ρ=>tl ρ λds _=>L ds):=by let(T,p,r):=h;refine(_,fU (rO p),λl q U=>r l q λq m J c g=>?_);exact U.nw (J.sameT.trans (.new c)) (λa d=>zzc _ (J.sub a d)) (J.h0 c) (J.liv.fresh c).2 zzd ao (g.mv (.newOwn c)) q
theorem wU(v:PSD X st t)(w:PSsN X rest u):PSsN X (st::rest) (λQ L ρ=>t {nx:=u Q L,rt:=λd _=>Q d} ρ):=by walk;let(T,p,r):=v;let(U,q,s):=w;x_go;exact(_,cg p q,λx h c=>r x h (λm J h=>s J h (c.mv m),λ_ _ q=>q.elim,λ_ _ q=>q.elim,c.rt))
theorem GX(w:PSD X st t)(x:PSsN X rest u):PSsN X (st::rest) (λQ L ρ=>∃N:DS->Prop,t {nx:=N,rt:=λd _=>Q d} ρ/\∀c,N c->u Q L c):=by walk;let(T,p,r):=w;let(U,q,s):=x;x_go;refine(_,cg p q,λC h l=>?_);have(N,h,z):=h;exact r C h (λm v h=>s v (z _ h) (l.mv m),λ_ _ q=>q.elim,λ_ _ q=>q.elim,l.rt)
end
abbrev DSpN:=av D->(D->Prop)->(av D->Prop)->Prop
inductive spDN(K:zvu)(n:Nat)(g:DSpN)(vs:List V)(H:Hp)(Q:VK)(x3:XK):Prop
 |mk pp M ds P L:Lv pp M H->ei K pp M H ds vs->ds.length=n->g ds P L->(∀{d H' v},P d->SameP K pp H H'->Rep K pp M H' d v->Q v H')->(∀{es M' H' l xs},L es->SameP K pp H H'->(∀a∈M,a∈M')->H l=none->pp≠some l->l∈M'->H' l\(.lst xs)->ei K pp M' H' es xs->Q (.ref l) H')->spDN K n g vs H Q x3
theorem fnDN{P:cH}{w:World}{K:zvu}{base:cx}{x:Str}{st:Stmt}{f:ay}{g:DSpN}{t:DTN}(U:Fun K x y st f fd)(S:er N ps (aj st))(d:∀{c:ax}{A:zas}{outer:av Env}{s:aM}{H:Hp}{E:XK},Room k (A.deeper (zbh y (aj st) s⁻¹ f c))->N.Nodup -> @PSsN _ Frm.free (cxOf CX0 P w K mg base N y (aj st) f c A outer s H E).nox (cj st) t)(l:∀ds Q L,ds.length=ps.length->g ds Q L->t Q L (fK N.length ds)):FnOk P w K mg base CX0 (k+1) f fd ps (spDN K ps.length g):=by
 refine U.ok S (λb H Q E h=>?_) (λc A outer s H b Q E C h=>?_)
 .let(pp,M,ds,P,L,_,r,e,_):=h;rw[<-r.length,e]
 .let(pp,M,ds,P,L,I,r,e,h,k,G):=h;let(T,p,run):=d C S.nd;exact(T,p,run (iT I r trivial) (l ds _ _ e h) (λm J Y q=>k q J.sameT (Y.mv (.less J.sub)),λm J q=>k q J.sameT (by simp only[Rep]),λs sub h0 z v u a q=>G q s sub h0 z v u a))
theorem FnOk.asD{P:cH}{w:World}{K:zvu}{base:cx}{f:ay}{g:DSpN}{g':DSp}(h:FnOk P w K mg base CX0 k f fd ps (spDN K n g))(U:∀ds Q,g' ds Q->g ds Q (λc=>Q (.lst c))):FnOk P w K mg base CX0 k f fd ps (spD K n g') :=
 h.imp λvs H Q E h=>by let(pp,M,ds,P,J,r,e,h,k):=h;refine(pp,M,ds,P,_,J,r,e,U _ _ h,k,λq s sub d l hm L u=>k q s ?_);exact(_,_,rfl,(J.fresh d).1,l,L,u.mv (.less sub))
section
variable[Frm]
noncomputable def oh:DS->Bool
 |[]=>true|.own _::_=>false|.obj _::_=>false|_::r=>oh r
def cV:Nat->DS->Bool
 |_,[]=>true|0,_::r=>oh r|_+1,.own _::_=>false|_+1,.obj _::_=>false|k+1,_::r=>cV k r
omit [Frm] in
theorem mB:∀{ρ:DS}{j:Nat}{ds:av D},oh ρ=true->ρ[j]?\(.own ds)->False
 |[],j,ds,_,h=>by simp at h
 |s::r,0,ds,h,e=>by simp at e;subst e;simp[oh]at h
 |s::r,j+1,ds,h,e=>by cases s<;>first|(simp[oh]at h;done)|exact mB (by simpa[oh]using h) (by simpa using e)
omit [Frm] in
theorem jQ:∀{ρ:DS}{k j:Nat}{ds:av D},cV k ρ=true->ρ[j]?\(.own ds)->j=k
 |[],k,j,ds,_,h=>by simp at h
 |s::r,0,0,ds,h,e=>rfl|s::r,0,j+1,ds,h,e=>(mB (by simpa[cV]using h) (by simpa using e)).elim|s::r,k+1,0,ds,h,e=>by simp at e;subst e;simp[cV]at h
 |s::r,k+1,j+1,ds,h,e=>by cases s<;>first|(simp[cV]at h;done)|exact congrArg Nat.succ (jQ (by simpa[cV]using h) (by simpa using e))
omit [Frm] in
theorem mC:∀{ρ:DS}{j:Nat}{q:O},oh ρ=true->ρ[j]?\(.obj q)->False
 |[],j,c,_,h=>by simp at h
 |s::r,0,c,h,e=>by simp at e;subst e;simp[oh]at h
 |s::r,j+1,c,h,e=>by cases s<;>first|(simp[oh]at h;done)|exact mC (by simpa[oh]using h) (by simpa using e)
omit [Frm] in
theorem pw:∀{ρ:DS}{k j:Nat}{q:O},cV k ρ=true->ρ[j]?\(.obj q)->j=k
 |[],k,j,c,_,h=>by simp at h
 |s::r,0,0,c,h,e=>rfl|s::r,0,j+1,c,h,e=>(mC (by simpa[cV]using h) (by simpa using e)).elim|s::r,k+1,0,c,h,e=>by simp at e;subst e;simp[cV]at h
 |s::r,k+1,j+1,c,h,e=>by cases s<;>first|(simp[cV]at h;done)|exact congrArg Nat.succ (pw (by simpa[cV]using h) (by simpa using e))
section
variable{F:Fx}{M M0 M':av ay}{H H':Hp}{σ:St}{ρ:DS}{ds:av D}{v:V}
theorem RSt.thaw(r:RSt K F M H σ ρ)(h:ρ[i]?\(.own ds))(oo:cV i ρ=true)(ho:σ[i]?\(some v))(m0:Mv K F.pp M H M0 H)(rl:Rep K F.pp M0 H (.lst ds) v)(m:Mv K F.pp M0 H M' H')(I:RSt K F M' H' σ (ρ.set i (.val (.lst ds)))) :
  ∃x,(Mv K F.pp M H x H'/\RSt K F x H' σ ρ)/\∀b∈x,v=.ref b∨b∈M':=by
 have(o,J,l,B,rfl,hm,h0,A,y,hr):=r.at h;rw[J]at ho;cases ho;have(l2,xs2,e,n2,p2,u,r2):=rl;cases e;rw[y]at u;let(L,hn'):=m.lst l B y n2 p2;have G:=m0.trans m;have C:Mv K F.pp M H (l::M') H':=by
  refine(G.tup,λa o e n p=>?_,G.pen,G.tb);let(q1,q2):=G.oth a o e n p;refine(q1,λz=>?_);rcases zze.mp z with rfl|z
  .exact n hm
  .exact q2 z
 refine(l::M',(C,(r.len,λj s o g u=>?_,(λj=>if j=i then[l] else[],λj s o g u=>?_,λj a c=>?_,λj k e a c E=>?_),λa c=>zzc _ (I.sub a c),I.same,r.old,(λa c=>?_,I.liv.p),r.lk.cl C)),λb E=>(zze.mp E).imp (λz=>by rw[z]) id)
 .have q:=r.sl j s o g u;cases s with
  |nil=>trivial|val d=>let(v,e,q):=q;exact(v,e,q.mv C)
  |pin w d=>let(v,e,T,q):=q;exact(v,e,T,q.mv C)
  |own N =>
   have e:=jQ oo g;subst e;rw[h]at g;cases g;rw[J]at u;cases u;exact(l,B,rfl,zzd,h0,A,L,hr.mv C)
  |obj z=>exact q
 .show Ow K F _ H' s o (if j=i then[l] else[]);cases s with
  |nil=>trivial|val d=>trivial|pin w d=>trivial|own N =>
   have e:=jQ oo g;subst e;rw[J]at u;cases u;rw[zzu rfl];exact(l,rfl,rfl)
  |obj z =>
   have e:=pw oo g;subst e;rw[h]at g;cases g
 .replace c:a∈(if j=i then[l] else[]):=c
  by_cases e:j=i
  .rw[zzu e]at c;rw[zzt.mp c];exact(zzd,h0,A)
  .rw[zzn e]at c;cases c
 .replace c:a∈(if j=i then[l] else[]):=c
  by_cases Y:j=i
  .subst Y;rw[zzn (Ne.symm e)]at E;cases E
  .rw[zzn Y]at c;cases c
 .rcases zze.mp c with rfl|c
  .rw[L];intro z;cases z
  .exact I.liv.m a c
end
inductive dPeekT(k:Nat)(t:DT)(ρ:DS)(Q:Bool->DS->Prop):Prop
 |mk ds:slot ρ k=.own ds->cV k ρ=true->(t (ρ.set k (.val (.lst ds))) λb ρ'=>ρ'=ρ.set k (.val (.lst ds))/\Q b ρ)->dPeekT k t ρ Q
theorem qA{t:DT}(k:Nat)(h:PTD X e t):PTD X e (dPeekT k t):=by have(T,p,r):=h;refine(T,p,λc q l=>?_);walk;let(ds,e,o,q):=q;let(M0,v,ho,s,d,w):=c.freeze (aQ e);x_go;refine r d q λq m U=>?_;walk;let(rfl,q):=q;let(M2,(u,g),_):=c.thaw (aQ e) o ho s w m U;x_go;exact l q u g
end
section
noncomputable def fT:D->Bool
 |.non=>true|.bl _=>true|.int _=>true|.str _=>true|_=>false
noncomputable def toV:D->V
 |.bl b=>.bl b|.int i=>.int i|.str s=>.str s|_=>.non
def eqF(x y:D):Bool:=eqV (toV x) (toV y)
section
variable{pp:aT ay}{M:av ay}{H:Hp}
theorem lA{d:D}{v:V}(f:fT d=true)(r:Rep K pp M H d v):v=toV d/\fQ v=true:=by
 cases d<;>first|exact absurd (show false=true from f) zzL|skip
 all_goals
  subst r;exact(rfl,rfl)
theorem iX:∀{ds:av D}{xs:av V},ds.all fT=true->ei K pp M H ds xs->xs=ds.map toV/\xs.all fQ=true
 |[],xs,_,r=>by subst r;exact(rfl,rfl)
 |d::ds,xs,f,r=>by let(x,r',rfl,hd,h):=r;rw[zwN,zya]at f;let(c,g):=lA f.1 hd;let(J,L):=iX f.2 h;subst c J;exact(rfl,by rw[zwN,g,L];rfl)
end
variable[Frm]
def gIn(x y:D)(P:D->Prop):Prop:=match y with
 |.tup c=>(fT x=true/\c.all fT=true)/\P (.bl (c.any λy=>eqF y x))
 |.lst c=>(fT x=true/\c.all fT=true)/\P (.bl (c.any λy=>eqF y x))
 |_=>False
theorem DD{K:zvu}{pp:aT ay}{M:av ay}{H:Hp}{x:D}{v:V}{c:av D}(q:Rep K pp M H x v)(h:fT x=true/\c.all fT=true)(r:ei K pp M H c us):fQ v=true/\us.all fQ=true/\inV v us=c.any λy=>eqF y x:=by walk;let(d,g):=lA h.1 q;let(U,l):=iX h.2 r;x_go;refine(g,l,?_);unfold inV;rw[U,d,zef];rfl
theorem LC:OpD X (zae .In) gIn:=by
 refine(_,zI,λ{pp M H x y v u Q P} _ J L h k=>?_);cases y<;>first|exact False.elim h|skip
 .let(a,us,rfl,c,r):=L;let(g1,g2,g3):=DD J h.1 r;refine(a,us,rfl,.inr (SqT.of c),g1,g2,?_);rw[zzn zzL,g3];exact k h.2 .refl cF
 .let(a,us,rfl,hm,hp,c,r):=L;let(g1,g2,g3):=DD J h.1 r;refine(a,us,rfl,.inl (SqL.of c),g1,g2,?_);rw[zzn zzL,g3];exact k h.2 .refl cF
structure M1D(X:Cx)(name:Str)(id:String)(g:D->D->(D->Prop)->Prop):Prop where
 slot:Slot "list" name id
 ty:zdJ (.builtin id)=pure (.type "method_descriptor")
 run:∃r,MtR X id r/\∀{pp M H x y v u Q P},Rep X.K pp M H x v->Rep X.K pp M H y u->g x y P->(∀{d w},P d->Rep X.K pp M H d w->Q w H)->r v [u] H Q
def LD:D->Prop
 |.lst _=>True|_=>False
abbrev dM1(g:D->D->(D->Prop)->Prop)(to te:DE):DE:=λh Q=>to h λx c=>LD x/\te c λy J=>g x y λd=>Q d J
theorem AW{name:Str}{g:D->D->(D->Prop)->Prop}{o:cy}{to te:DE}(l:M1D X name T g)(ho:PED X o to)(he:PED X e te)(J:zag o name X.env (eval o X.env)=eval o X.env:=by rfl)(U:HF X p [e]:=by rfl)(L:(pos.endLine==p.line)=true:=by rfl)(s:SE X e []:=by rfl)(hpl:BA X p []:=by rfl) :
  PED X (.Call (.Attribute o name pos) [e] [] p) (dM1 g to te):=by
 walk;let(r,I,E):=l.run;let(To,po,b):=ho;let(Te,M,Y):=he;x_go;refine(_,ss zxn l.slot l.ty I po (bj M ci s) J U L s hpl,λi h k=>b i h λ{x _ _ _ _} h H w v=>?_);let(G,h):=h;refine(?_,Y w h λh u z Q=>E (v.mv u) Q h λq rw=>k q (H.trans u) z rw);cases x<;>first|exact G.elim|skip
 have(a,j,rfl,_,_,C,_):=v;exact .inl (rfl,j,SqL.of C)
def LE:D->D->(D->Prop)->Prop
 |.lst c,y,P=>(fT y=true/\c.all fT=true)/\P (.int ((c.countP λz=>eqF z y:Nat):Int))
 |_,_,_=>False
theorem DF:M1D X "count" "list.count" LE:=by
 refine(PySem.F.slot_list_count,PySem.F.type_list_count,_,CZ,λ{pp M H x y v u Q P} q s h k=>?_);cases x<;>first|exact h.elim|skip
 walk;let(a,w,rfl,hm,hp,l,r):=q;let((f1,f2),h):=h;let(c,d):=lA f1 s;let(U,g):=iX f2 r;x_go;refine(a,w,u,rfl,rfl,l,d,g,?_);subst c U;rw[zeJ];exact k h bK
def LF:D->D->(D->Prop)->Prop
 |.lst c,y,P=>(fT y=true/\c.all fT=true)/\∃j:Nat,((∃z,c[j]?\z/\eqF z y=true)/\∀m z,m<j->c[m]?\z->eqF z y=false)/\P (.int (j:Int))|_,_,_=>False
theorem lB:M1D X "index" "list.index" LF:=by
 refine(PySem.F.slot_list_index,PySem.F.type_list_index,_,Da,λ{pp M H x y v u Q P} e i h k=>?_);cases x<;>first|exact h.elim|skip
 rename_i C;walk;let(a,n,rfl,l,hp,Y,r):=e;let((f1,f2),j,((z,b,I),J),h):=h;let(g,E):=lA f1 i;let(L,G):=iX f2 r;x_go;refine(a,n,u,j,rfl,rfl,Y,E,G,(toV z,?_,?_),λm w l c=>?_,k h bK)
 .rw[L,zzz,b];rfl
 .rw[g];exact I
 .rw[L,zzz]at c;cases q:C[m]? with
  |none=>rw[q]at c;cases c
  |some d =>
   rw[q]at c;cases c;rw[g];exact J m d l q
variable{pp:aT ay}
abbrev dSlL(te:DE)(tl th:DO):DA:=λh Q=>te h λx c=>tl c λlo J=>th J λd L=>match x with
 |.lst g=>Q (cutD g lo d) L|_=>False
theorem eS{lo hi:aT cy}{te:DE}{tl q:DO}(he:PED X e te)(c:POD X lo tl)(w:POD X hi q):PLD X (.Subscript e (.Slice lo hi none p2) pos) (dSlL te tl q):=by
 walk;let(T,p,r):=he;let(Tl,pl,I):=c;let(Th,C,H):=w;x_go;refine(_,wm Ga p pl C,λM h k=>r M h λ{x _ _ _ _} h z U E=>I U h λh d s=>H s h λh g u=>?_);have G:=(E.mv d).mv g;cases x<;>first|exact h.elim|skip
 have(a,Y,rfl,_,_,v,Q):=G;exact(a,Y,rfl,SqL.of v,λl c=>k h ((z.trans d).trans g) u c (Q.cut _ _))
abbrev LG(ta tb:DE):DA:=λh Q=>ta h λx c=>tb c λy J=>match x,y with
 |.lst d,.lst g=>d.length+g.length<=zaa/\Q (d++g) J|_,_=>False
theorem bA{b:cy}{ta s:DE}(w:PED X a ta)(z:PED X b s):PLD X (.BinOp a .Add b pos) (LG ta s):=by
 walk;let(Ta,I,Y):=w;let(Tb,M,e):=z;x_go;refine(_,dM IE I M,λi h k=>Y i h λ{x _ _ _ _} h H u c=>e u h λ{y _ _ _ _} h d v Q=>?_);have c:=c.mv d;cases x<;>first|exact h.elim|skip
 cases y<;>first|exact h.elim|skip
 walk;let(l,j,rfl,_,_,C,g):=c;let(G,m,rfl,_,_,U,q):=Q;x_go;exact(l,G,j,m,rfl,rfl,C,U,by rw[<-g.length,<-q.length];exact h.1,λp E=>k h.2 (H.trans d) v E (g.append q))
abbrev LH(ta tb:DE):DA:=λg Q=>ta g λx c=>tb c λy J=>match x,y with
 |.lst d,.int k=>((-(2^63)<=k/\k<2^63)/\d.length*k.toNat<=zaa)/\Q (zad k.toNat d).flatten J|_,_=>False
theorem ei.reps{K:zvu}{M:av ay}{H:Hp}{ds:av D}{xs:av V}(r:ei K pp M H ds xs):∀k:Nat,ei K pp M H (zad k ds).flatten (zad k xs).flatten
 |0=>by simp[ei]
 |k+1=>by exact r.append (ei.reps r k)
theorem Fj{b:cy}{ta g:DE}(u:PED X a ta)(v:PED X b g):PLD X (.BinOp a .Mult b pos) (LH ta g):=by
 walk;let(Ta,E,I):=u;let(Tb,G,M):=v;x_go;refine(_,dM IF E G,λQ h k=>I Q h λ{x _ _ _ _} h C q U=>M q h λ{y _ _ _ _} h c s H=>?_);have U:=U.mv c;cases x<;>first|exact h.elim|skip
 cases y<;>first|exact h.elim|skip
 walk;let(l,Y,rfl,_,_,w,d):=U;subst H;x_go;exact(l,_,Y,rfl,rfl,w,h.1.1.1,h.1.1.2,by rw[<-d.length];exact h.1.2,λp z=>k h.2 (C.trans c) s z (ei.reps d _))
end
section
variable[Frm]
noncomputable def vd:av D->aT (av Bool)
 |[]=>some []|.bl b::r=>(vd r).map (b :: ·)|_=>none
theorem sY:∀bs:av Bool,vd (bs.map D.bl)\bs
 |[]=>rfl|n::r=>by simp[vd,sY r]
theorem DH:∀{ds:av D}{bs:av Bool},vd ds\bs->ds=bs.map D.bl:=by
 intro ds
 induction ds with
 |nil=>intro _ h;cases h;rfl
 |cons d r J =>
  intro ns h;cases d<;>try cases h
  simp only[vd,zyi]at h;let(ms,h,rfl):=h;rw[J h];rfl
theorem qB{K:zvu}{pp:aT ay}{M:av ay}{H:Hp}:∀{ns:av Bool}{xs:av V},ei K pp M H (ns.map D.bl) xs->xs=ns.map V.bl
 |[],xs,h=>by simpa only[zzW,ei]using h
 |n::r,xs,h=>by let(x,t,rfl,rfl,h):=h;rw[qB h];rfl
def gTru(f:av Bool->Bool):DSp:=λc P=>match c with
 |[.lst d]=>match vd d with
  |some bs=>P (.bl (f bs))|none=>False
 |_=>False
theorem mD{f:av Bool->Bool}{bs:av Bool}{P:D->Prop}(h:P (.bl (f bs))):gTru f [.lst (bs.map D.bl)] P:=by unfold gTru;simp only[sY];exact h
theorem wV{f:av Bool->Bool}{ds:av D}{P:D->Prop}(h:gTru f ds P):∃bs:av Bool,ds=[.lst (bs.map D.bl)]/\P (.bl (f bs)):=by
 unfold gTru at h;split at h
 .rename_i d;cases e:vd d with
  |none=>rw[e]at h;exact h.elim|some c =>
   rw[e]at h;exact(c,by rw[DH e],h)
 .exact h.elim
theorem pz(U:X.calm=true:=by rfl):CallD X (.builtin "all") (gTru λbs=>bs.all id):=by refine(_,Db U,λ{pp M H ds vs Q P} _ r h k=>?_);walk;let(g,rfl,c):=wV h;let(x,_,rfl,(a,ys,rfl,_,_,d,l),rfl):=r;x_go;exact(a,g,rfl,SqL.of (by rw[d,qB l]),k c .refl cF)
theorem Jz(U:X.calm=true:=by rfl):CallD X (.builtin "any") (gTru λbs=>bs.any id):=by refine(_,Dc U,λ{pp M H ds vs Q P} _ r h k=>?_);walk;let(g,rfl,c):=wV h;let(x,_,rfl,(a,ys,rfl,_,_,d,l),rfl):=r;x_go;exact(a,g,rfl,SqL.of (by rw[d,qB l]),k c .refl cF)
theorem cL{x:Str}{i:Int}{t:Tok}(J:Gl X x)(c:X.mg x\(.int i t))(hd:NoDb x:=by decide):PED X (.Name x pos) (dC (.int i)) :=
 .con (zp (v:=.int i) J c (t,rfl) hd) λ_ _ _=>by simp only[Rep]
mutual
def flD:D->Prop
 |.non=>True|.bl _=>True|.int _=>True|.str _=>True|.ty _=>True|.cls _=>True|.tup c=>flDs c|.lst _=>False|.dK _ _=>False|.dT _ _=>False|.pen=>False|.exc _=>False|.exa _ _=>False|.ins _ _ _=>False
def flDs:av D->Prop
 |[]=>True|d::r=>flD d/\flDs r
end
omit [Frm] in
mutual
theorem Rep.flat{K:zvu}{pp:aT ay}{M g:av ay}{H:Hp}:∀(d:D)(v:V),flD d->Rep K pp M H d v->Rep K pp g H d v
 |.non,_,_,h=>h|.bl _,_,_,h=>h|.int _,_,_,h=>h|.str _,_,_,h=>h|.ty _,_,_,h=>h|.cls _,_,_,h=>h|.tup l,_,f,h=>by simp only[Rep]at h⊢;let(a,c,e,q,r):=h;exact(a,c,e,q,ei.flat l c f r)
 |.lst _,_,f,_=>f.elim|.dK _ _,_,f,_=>f.elim|.dT _ _,_,f,_=>f.elim|.pen,_,f,_=>f.elim|.exc _,_,f,_=>f.elim|.exa _ _,_,f,_=>f.elim|.ins _ _ _,_,f,_=>f.elim
theorem ei.flat{K:zvu}{pp:aT ay}{M c:av ay}{H:Hp}:∀(ds:av D)(xs:av V),flDs ds->ei K pp M H ds xs->ei K pp c H ds xs
 |[],xs,_,h=>by simp only[ei]at h⊢;exact h
 |d::ds,xs,f,h=>by simp only[ei]at h⊢;simp only[flDs]at f;let(x,r,e,g,l):=h;exact(x,r,e,Rep.flat d x f.1 g,ei.flat ds r f.2 l)
end
section
variable{M:av ay}{H:Hp}
omit [TB] [Frm] in
mutual
theorem RO.nt{pp:aT ay}:∀(q:O)(v:V)(A:av ay),RO K pp M H q v A->∀a∈A,∀ps,H a≠some (.tbl ps)
 |.val d,v,A,h,a,c=>by simp only[RO]at h;rw[h.1]at c;simp at c
 |.lst os,v,A,h,a,c=>by
  simp only[RO]at h;let(b,l,B,e,J,rfl,r):=h;rcases zze.mp c with rfl|c
  .rw[J];intro _ z;cases z
  .exact ROs.nt os l B r a c
 |.dct u os,v,A,h,a,c=>by
  simp only[RO]at h;let(b,g,B,e,J,s,rfl,r):=h;rcases zze.mp c with rfl|c
  .rw[J];intro _ z;cases z
  .exact ROs.nt os _ B r a c
 |.tup os,v,A,h,a,c=>by simp only[RO]at h;let(b,l,e,J,r):=h;exact ROs.nt os l A r a c
 |.dck u os,v,A,h,a,c=>by
  simp only[RO]at h;let(b,g,B,e,J,s,rfl,r):=h;rcases zze.mp c with rfl|c
  .rw[J];intro _ z;cases z
  .exact ROs.nt os _ B r a c
 |.ins b C u os,v,A,h,a,c=>by
  simp only[RO]at h;let(dx,g,B,e,J,s,rfl,r):=h;rcases zze.mp c with rfl|c
  .rw[J];intro _ z;cases z
  .exact ROs.nt os _ B r a c
theorem ROs.nt{pp:aT ay}:∀(os:av O)(xs:av V)(A:av ay),ROs K pp M H os xs A->∀a∈A,∀ps,H a≠some (.tbl ps)
 |[],xs,A,h,a,c=>by simp only[ROs]at h;rw[h.2]at c;simp at c
 |o::os,xs,A,h,a,c=>by
  simp only[ROs]at h;let(x,r,B,C,e,rfl,d,g):=h;rcases zzg.mp c with c|c
  .exact RO.nt o x B d a c
  .exact ROs.nt os r C g a c
end
end
section
variable{pp:aT ay}{M:av ay}{H:Hp}
omit [Frm] in
mutual
theorem RO.live:∀(q:O)(v:V)(A:av ay),RO K pp M H q v A->∀a∈A,H a≠none
 |.val d,v,A,h,a,c=>by simp only[RO]at h;rw[h.1]at c;simp at c
 |.lst os,v,A,h,a,c=>by
  simp only[RO]at h;let(b,l,B,e,J,rfl,r):=h;rcases zze.mp c with rfl|c
  .rw[J];intro z;cases z
  .exact ROs.live os l B r a c
 |.dct u os,v,A,h,a,c=>by
  simp only[RO]at h;let(b,g,B,e,J,s,rfl,r):=h;rcases zze.mp c with rfl|c
  .rw[J];intro z;cases z
  .exact ROs.live os _ B r a c
 |.tup os,v,A,h,a,c=>by simp only[RO]at h;let(b,l,e,J,r):=h;exact ROs.live os l A r a c
 |.dck u os,v,A,h,a,c=>by
  simp only[RO]at h;let(b,g,B,e,J,s,rfl,r):=h;rcases zze.mp c with rfl|c
  .rw[J];intro z;cases z
  .exact ROs.live os _ B r a c
 |.ins b C u os,v,A,h,a,c=>by
  simp only[RO]at h;let(dx,g,B,e,J,s,rfl,r):=h;rcases zze.mp c with rfl|c
  .rw[J];intro z;cases z
  .exact ROs.live os _ B r a c
theorem ROs.live:∀(os:av O)(xs:av V)(A:av ay),ROs K pp M H os xs A->∀a∈A,H a≠none
 |[],xs,A,h,a,c=>by simp only[ROs]at h;rw[h.2]at c;simp at c
 |o::os,xs,A,h,a,c=>by
  simp only[ROs]at h;let(x,r,B,C,e,rfl,d,g):=h;rcases zzg.mp c with c|c
  .exact RO.live o x B d a c
  .exact ROs.live os r C g a c
end
omit [Frm] in
theorem ROs.vals:∀{ds:av D}{xs:av V},ei K pp M H ds xs->ROs K pp M H (ds.map O.val) xs []
 |[],xs,h=>by simp only[ei]at h;simp only[zzW,ROs];exact(h,trivial)
 |d::ds,xs,h=>by let(x,r,rfl,c,g):=h;exact(x,r,[],[],rfl,rfl,(rfl,c),ROs.vals g)
omit [Frm] in
theorem ROs.put{o:O}:∀{os:av O}{xs:av V}{A:av ay}(n:Nat),ROs K pp M H os xs A->A.Nodup->os[n]?\o ->
  ∃x B,xs[n]?\x/\RO K pp M H o x B/\B.Nodup/\(∀a∈B,a∈A)/\∀{l:av ay}{d:Hp}o' U B',Mv K pp M H l d->(∀a∈A,a∉B->∀z,H a\z->d a\z) ->
   RO K pp l d o' U B'->B'.Nodup->(∀b∈B',b∈B∨b∉A)->∃A',A'.Nodup/\(∀a∈A',a∈A∨a∈B')/\ROs K pp l d (os.set n o') (xs.set n U) A'
 |[],xs,A,n,h,u,e=>by simp at e
 |N::os,xs,A,0,h,u,e=>by
  simp only[ROs]at h;walk;let(x,r,B,C,rfl,rfl,w,E):=h;simp at e;subst e;let(G,I,L):=zyr.mp u;x_go;refine(x,B,rfl,w,G,λa c=>zzg.mpr (.inl c),λ{l d} o' U B' m k Y Q q=>(B'++C,?_,λa c=>?_,?_))
  .refine zyr.mpr (Q,I,λa c b s z=>?_);subst z;rcases q a c with z|z
   .exact L a z a s rfl
   .exact z (zzg.mpr (.inr s))
  .rcases zzg.mp c with c|c
   .exact .inr c
   .exact .inl (zzg.mpr (.inr c))
  .simp only[List.set_cons_zero,ROs];exact(U,r,B',C,rfl,rfl,Y,ROs.mv m os r C (λa c z e _=>k a (zzg.mpr (.inr c)) (λy=>L a y a c rfl) z e) E)
 |N::os,xs,A,n+1,h,u,e=>by
  walk;let(T,r,v,C,rfl,rfl,w,E):=h;let(G,I,L):=zyr.mp u;let(x,B,ex,hB,nB,i,f):=ROs.put n E I e;x_go;refine(x,B,ex,hB,nB,λa c=>zzg.mpr (.inr (i a c)),λ{l d} o' U B' m k Y Q q=>?_);have(j,c1,p,c3):=f o' U B' m (λa c hn z e=>k a (zzg.mpr (.inr c)) hn z e) Y Q (λb a4=>(q b a4).imp id λz y=>z (zzg.mpr (.inr y)));refine(v++j,?_,λa c=>?_,?_)
  .refine zyr.mpr (G,c1,λa c b s z=>?_);subst z;rcases p a s with z|z
   .exact L a c a z rfl
   .rcases q a z with y|y
    .exact L a c a (i a y) rfl
    .exact y (zzg.mpr (.inl c))
  .rcases zzg.mp c with c|c
   .exact .inl (zzg.mpr (.inl c))
   .exact(p a c).imp (λz=>zzg.mpr (.inr z)) id
  .simp only[List.set_cons_succ,ROs];exact(T,_,v,j,rfl,rfl,RO.mv m N T v (λa c z e _=>k a (zzg.mpr (.inl c)) (λy=>L a c a (i a y) rfl) z e) w,c3)
end
section
variable{F:Fx}{σ:St}{ρ:DS}{q q':O}
theorem RSt.newObj{H':Hp}{v:V}(r:RSt K F B H1 σ ρ)(s:SameP K F.pp H1 H')(k:A.Nodup)(g:∀a∈A,H1 a=none/\F.pp≠some a)(G:RO K F.pp (A++B) H' q v A)(i:Nat) :
  Mv K F.pp B H1 (A++B) H'/\RSt K F (A++B) H' (σ.set i (some v)) (ρ.set i (.obj q)):=by
 have l:Mv K F.pp B H1 B H':=s.mv;have m:Mv K F.pp B H1 (A++B) H':=by
  refine(l.tup,λa o e n p=>((l.oth a o e n p).1,λz=>?_),l.pen,l.tb);rcases zzg.mp z with z|z
  .rw[(g a z).1]at e;cases e
  .exact n z
 have Y:∀a∈A,F.H0 a=none:=λa c=>by
  cases e:F.H0 a with
  |none=>rfl|some o=>exact absurd (g a c).1 (r.same.live a (by rw[e];intro z;cases z))
 refine(m,(by simp[r.len],λj t o u x=>?_,r.ow.step m i (λj e=>zzG (Ne.symm e)) (λj e=>zzG (Ne.symm e)) (λA0 _ _=>(A,λt o I M=>?_,λb h=>(zzg.mpr (.inl h),Y b h,(g b h).2,.inr λz=>r.liv.m b z (g b h).1),λa c y N _=>(zzg.mpr (.inr c),(s.ow a c y N).2))),λa c=>zzg.mpr (.inr (r.sub a c)),r.same.trans s.toSameQ,r.old,(λa c=>?_,λp e=>s.live p (r.liv.p p e)),r.lk.cl m))
 .by_cases e:i=j
  .subst e;rw[bb u,bb x];exact(v,rfl)
  .rw[zzG e]at u x;have q':=r.sl j t o u x;cases t with
   |nil=>trivial|val d=>let(v,e,q):=q';exact(v,e,q.mv m)
   |pin w d=>let(v,e,Q,q):=q';exact(v,e,Q,q.mv m)
   |own es =>
    let(E,T,rfl,U,J,C,L,H):=q';exact(E,T,rfl,zzg.mpr (.inr U),J,C,(s.ow E U C J).2 _ L (by intro _ z;cases z),H.mv m)
   |obj q=>exact q'
 .rw[bb I,bb M];exact(k,v,rfl,G)
 .rcases zzg.mp c with c|c
  .exact RO.live q v A G a c
  .exact s.live a (r.liv.m a c)
end
abbrev DTB:=(D->Prop)->(O->Prop)->DS->Prop
end
def JA:HO->Prop
 |.lst _=>True|.dT _=>True|_=>False
section
variable{pp:aT ay}{M:av ay}{H:Hp}
theorem Mv.writeX{l:ay}{u:HO}(c:H l\o)(ho:JA o)(d:l∈M)(U:pp≠some l):Mv K pp M H M (upd H l u):=by
 refine(λa v e=>by rw[ar (nW e c (by rintro rfl;exact ho))];exact e,λa v e n q=>(by rw[ar (by rintro rfl;exact n d)];exact e,n),λp e h=>?_,λs=>s.upd c (by rintro(⟨_,rfl⟩|⟨_,_,rfl⟩)<;>exact ho));have(a,g,t,k,h):=h;refine(a,g,t,k,?_,?_,h.t0)
 .rw[ar (by rintro rfl;exact U e)];exact h.lst
 .rcases h.scr with ⟨o',e⟩|e
  .refine .inl (o',?_);rw[ar (nW e c (by rintro rfl;exact ho))];exact e
  .exact .inr e
end
noncomputable def k1D:Key->D
 |.inl i=>.int i|.inr x=>.str x
def keyD(k:av Key):D:=.tup (k.map k1D)
theorem lC{K:zvu}{pp:aT ay}{M:av ay}{H:Hp}:∀{k:av Key}{xs:av V},ei K pp M H (k.map k1D) xs->xs=k.map kV
 |[],xs,h=>by simpa only[zzW,ei]using h
 |.inl i::r,xs,h=>by simp only[zzq,k1D,ei,Rep]at h;let(x,t,rfl,rfl,h):=h;rw[lC h];rfl
 |.inr i::r,xs,h=>by let(x,t,rfl,rfl,h):=h;rw[lC h];rfl
theorem qC{K:zvu}{pp:aT ay}{M:av ay}{H:Hp}:∀(k:av Key),ei K pp M H (k.map k1D) (k.map kV)
 |[]=>by simp only[zzW,ei]
 |.inl i::r=>by exact(_,_,rfl,rfl,qC r)
 |.inr i::r=>by exact(_,_,rfl,rfl,qC r)
theorem qD{K:zvu}{pp:aT ay}{M:av ay}{H:Hp}{k:av Key}{v:V}(h:Rep K pp M H (keyD k) v):∃b,v=.ref b/\H b\(.tup (k.map kV)):=by have(b,xs,rfl,J,h):=h;rw[lC h]at J;exact(b,rfl,J)
theorem DI{K:zvu}{pp:aT ay}{M:av ay}{H:Hp}{k:av Key}(h:H b\(.tup (k.map kV))):Rep K pp M H (keyD k) (.ref b):=by exact(b,_,rfl,h,qC k)
section
variable{α β:Type}
noncomputable def jR(ps:av (av Key×α))(k:av Key):aT α:=(ps.find? λp=>decide (p.1=k)).map (·.2)
noncomputable def putA(ps:av (av Key×α))(k:av Key)(x:α):av (av Key×α) :=
 if (ps.any λp=>decide (p.1=k))=true then ps.map (λp=>if p.1=k then(p.1,x) else p) else ps++[(k,x)]
abbrev PK(R:α->β->Prop):av (av Key×α)->av (av Key×β)->Prop:=Paired λp q=>p.1=q.1/\R p.2 q.2
theorem PK.find{R:α->β->Prop}{ps:av (av Key×α)}{c:av (av Key×β)}(h:PK R ps c)(k:av Key):(jR ps k=none/\jR c k=none)∨∃x y,jR ps k\x/\jR c k\y/\R x y:=by
 induction h with
 |nil=>exact .inl (rfl,rfl)|@cons p q ps c h _ L =>
  unfold jR at L⊢;by_cases e:p.1=k
  .have J:q.1=k:=h.1.symm.trans e;refine .inr (p.2,q.2,?_,?_,h.2)
   .rw[zyj (by simpa using e)];rfl
   .rw[zyj (by simpa using J)];rfl
  .have J:¬q.1=k:=λz=>e (h.1.trans z);rw[zyk (by simpa using e),zyk (by simpa using J)];exact L
theorem PK.any{R:α->β->Prop}{ps:av (av Key×α)}{c:av (av Key×β)}(h:PK R ps c)(k:av Key):(ps.any λp=>decide (p.1=k))=c.any λp=>decide (p.1=k):=by
 induction h with
 |nil=>rfl|@cons p q ps c h _ J=>simp only[zwf,J,h.1]
theorem PK.put{R:α->β->Prop}{ps:av (av Key×α)}{c:av (av Key×β)}(h:PK R ps c)(k:av Key){x:α}{y:β}(r:R x y):PK R (putA ps k x) (putA c k y):=by
 unfold putA;rw[h.any k];by_cases e:(c.any λp=>decide (p.1=k))=true
 .rw[zzu e,zzu e];clear e
  induction h with
  |nil=>exact .nil|@cons p q ps c h _ J =>
   rw[zzq,zzq];refine .cons ?_ J;by_cases e:p.1=k
   .rw[zzu e,zzu (h.1.symm.trans e)];exact(h.1,r)
   .rw[zzn e,zzn (λz=>e (h.1.trans z))];exact h
 .rw[zzn e,zzn e];exact zeN h (rfl,r)
theorem PK.keys{R:α->β->Prop}{ps:av (av Key×α)}{c:av (av Key×β)}(h:PK R ps c):ps.map (·.1)=c.map (·.1):=by
 induction h with
 |nil=>rfl|cons h _ J=>simp only[zzq,J,h.1]
end
theorem KG(c:av (av Key×V))(k:av Key):jR c k=valV c k:=rfl
section
variable{pp:aT ay}{M:av ay}{H:Hp}
theorem GY:∀{kds:av (av Key×D)}{c:av (av Key×V)},c.map (·.1)=kds.map (·.1)->ei K pp M H (kds.map (·.2)) (c.map (·.2))->PK (Rep K pp M H) kds c
 |[],[],_,_=>.nil|[],_::_,h,_=>by simp at h
 |_::_,[],h,_=>by simp at h
 |p::ps,q::qs,h,r=>by simp only[zzq,zyV]at h;let(x,t,e,J,L):=r;injection e with d g;subst d g;exact .cons (h.1.symm,J) (GY h.2 L)
theorem GZ{kds:av (av Key×D)}{c:av (av Key×V)}(h:PK (Rep K pp M H) kds c):ei K pp M H (kds.map (·.2)) (c.map (·.2)):=by
 induction h with
 |nil=>simp only[zzW,ei]|cons h _ J=>exact .cons h.2 J
theorem PK.imp{R S:α->β->Prop}{ps:av (av Key×α)}{qs:av (av Key×β)}(h:PK R ps qs)(f:∀a b,R a b->S a b):PK S ps qs:=by
 induction h with
 |nil=>exact .nil|cons h _ J=>exact .cons (h.1,f _ _ h.2) J
noncomputable def dvO(kds:av (av Key×D)):O:=.dct (kds.map (·.1)) (kds.map λp=>.val p.2)
theorem ro_dv{kds:av (av Key×D)}{v:V}:RO K pp M H (dvO kds) v A↔∃a kvs,v=.ref a/\H a\(.dT kvs)/\A=[a]/\PK (Rep K pp M H) kds kvs:=by
 have vals:∀{kds:av (av Key×D)}{xs:av V}{B:av ay},ROs K pp M H (kds.map λp=>O.val p.2) xs B->B=[]/\ei K pp M H (kds.map (·.2)) xs:=by
  intro kds
  induction kds with
  |nil=>intro xs B h;exact(h.2,by simp only[zzW,ei];exact h.1)|cons p ps J =>
   intro xs B h;let(x,r,B1,C,rfl,rfl,(rfl,g),l):=h;let(rfl,q):=J l;exact(rfl,.cons g q)
 constructor
 .intro h;let(a,kvs,B,rfl,c,d,rfl,r):=h;let(rfl,L):=vals r;exact(a,kvs,rfl,c,rfl,GY d L)
 .rintro⟨a,kvs,rfl,c,rfl,r⟩;refine(a,kvs,[],rfl,c,r.keys.symm,rfl,?_);have:=ROs.vals (GZ r);rw[zzv]at this;exact this
noncomputable def dlO(kls:av (av Key×av D)):O:=.dct (kls.map (·.1)) (kls.map λp=>.lst (p.2.map .val))
def PL(K:zvu)(pp:aT ay)(M:av ay)(H:Hp):av (av Key×av D)->av (av Key×V)->av ay->Prop
 |[],c,J=>c=[]/\J=[]|p::ps,c,J=>∃l d r t,c=(p.1,.ref l)::r/\J=l::t/\H l\(.lst d)/\ei K pp M H p.2 d/\PL K pp M H ps r t
theorem DJ{ds:av D}{xs:av V}(h:ROs K pp M H (ds.map O.val) xs B):B=[]/\ei K pp M H ds xs:=by
 induction ds generalizing xs B with
 |nil=>simp only[zzW,ROs]at h;exact(h.2,by simp only[ei];exact h.1)|cons d ds J =>
  let(x,r,B1,C,rfl,rfl,(rfl,c),g):=h;let(rfl,l):=J g;exact(rfl,.cons c l)
theorem JB:∀{c:av (av Key×av D)}{d:av (av Key×V)}{B:av ay},d.map (·.1)=c.map (·.1)->ROs K pp M H (c.map λp=>O.lst (p.2.map .val)) (d.map (·.2)) B->PL K pp M H c d B
 |[],[],B,_,h=>by simp only[zzW,ROs]at h;exact(rfl,h.2)
 |[],_::_,_,h,_=>by simp at h
 |_::_,[],_,h,_=>by simp at h
 |p::ps,q::E,B,e,h=>by simp only[zzq,zyV]at e;let(x,r,B1,C,g,rfl,(l,G,B2,rfl,z,rfl,u),v):=h;injection g with s J;subst J;let(rfl,w):=DJ u;exact(l,G,E,C,by rw[<-e.1,<-s],rfl,z,w,JB e.2 v)
theorem JC:∀{d:av (av Key×av D)}{c:av (av Key×V)}{B:av ay},PL K pp M H d c B->c.map (·.1)=d.map (·.1)/\ROs K pp M H (d.map λp=>O.lst (p.2.map .val)) (c.map (·.2)) B
 |[],c,B,h=>by have(rfl,rfl):=h;simp only[zzW,ROs];exact(trivial,trivial,trivial)
 |p::ps,c,B,h=>by walk;let(l,v,r,t,rfl,rfl,u,g,q):=h;let(e,s):=JC q;x_go;refine(by simp only[zzq,e],?_);exact(.ref l,_,[l],t,rfl,rfl,(l,v,[],rfl,u,rfl,ROs.vals g),s)
theorem ro_dl{d:av (av Key×av D)}{v:V}:RO K pp M H (dlO d) v A↔∃a c J,v=.ref a/\H a\(.dT c)/\A=a::J/\PL K pp M H d c J:=by
 constructor
 .intro h;let(a,c,B,rfl,g,l,rfl,r):=h;exact(a,c,B,rfl,g,rfl,JB l r)
 .rintro⟨a,c,J,rfl,g,rfl,r⟩;let(e,r):=JC r;exact(a,c,J,rfl,g,e,rfl,r)
end
section
variable[Frm]
section
variable{F:Fx}{M M':av ay}{H H':Hp}{σ:St}{ρ:DS}{q q':O}
theorem RSt.objStep(r:RSt K F M H σ ρ)(h:ρ[i]?\(.obj q))(m:Mv K F.pp M H M' H')
  (k:∀v A,σ[i]?\(some v)->A.Nodup->RO K F.pp M H q v A->(∀a∈A,a∈M/\F.H0 a=none/\F.pp≠some a)->∃A',A'.Nodup/\RO K F.pp M' H' q' v A'/\(∀b∈A',b∈M'/\F.H0 b=none/\F.pp≠some b/\(b∈A∨b∉M)) /\
   ∀a,a∈M->F.pp≠some a->F.H0 a=none->a∉A->a∈M'/\∀x,H a\x->NT x->H' a\x)
  (sub:∀a∈F.M0,a∈M') (same:SameQ K F.pp F.H0 H') (liv:Lv0 F.pp M' H'):RSt K F M' H' σ (ρ.set i (.obj q')):=by
 walk;let(v,A,ho,nd,hq,hA,Q):=r.objAt h;let(_,_,_,_,ke):=k v A ho nd hq hA;x_go;refine(by simp[r.len],λj s o c g=>?_,r.ow.step m i (λ_ _=>rfl) (λj e=>zzG (Ne.symm e)) (λG Y n=>?_),sub,same,r.old,liv,r.lk.cl m)
 .by_cases e:i=j
  .subst e;rw[ho]at g;rw[bb c];cases g;exact(v,rfl)
  .rw[zzG e]at c;have q':=r.sl j s o c g;cases s with
   |nil=>trivial|val d=>let(v,e,q):=q';exact(v,e,q.mv m)
   |pin w d=>let(v,e,ew,q):=q';exact(v,e,ew,q.mv m)
   |own es =>
    walk;let(u,zs,rfl,p,U,C,I,B):=q';have nl:u∉A:=Q j _ _ (Ne.symm e) c g _ (es,rfl) rfl;let(k1,k2):=ke u p C U nl;x_go;exact(u,zs,rfl,k1,U,C,k2 _ I (by intro _ z;cases z),B.mv m)
   |obj q=>exact q'
 .let(T,v1,l,y):=Y _ _ h ho;cases l;have(A',N,ro,hb,ha):=k v G ho T y n;refine(A',λs o l E=>?_,hb,ha);rw[ho]at E;cases E;rw[bb l];exact(N,v,rfl,ro)
theorem Lv0.upd{pp:aT ay}{l:ay}{o:HO}(h:Lv0 pp M H):Lv0 pp M (Lake.upd H l o):=by
 refine(λa c=>?_,λp e=>?_)
 .by_cases z:a=l
  .subst z;rw[ao];intro z;cases z
  .rw[ar z];exact h.m a c
 .by_cases z:p=l
  .subst z;rw[ao];intro z;cases z
  .rw[ar z];exact h.p p e
theorem RSt.sameW{l:ay}(r:RSt K F M H σ ρ)(h0:F.H0 l=none)(m:Mv K F.pp M H M' (Lake.upd H l o)):SameQ K F.pp F.H0 (Lake.upd H l o):=by
 refine(λb o e n=>?_,λp e h=>m.pen p e (r.same.pen p e h),λb e=>?_)
 .rw[ar (by rintro rfl;rw[h0]at e;cases e)];exact r.same.keep b o e n
 .by_cases z:b=l
  .subst z;rw[ao];intro z;cases z
  .rw[ar z];exact r.same.live b e
end
def JD:Sl->Prop
 |.obj _=>True|_=>False
omit [Frm] in
theorem DK{s:Sl}(h:JD s):∃q,s=.obj q:=by cases s<;>first|exact(_,rfl)|exact h.elim
abbrev LI(i:Nat):DTS:=λE c=>E.nx (c.set i (.obj (.dct [] [])))
theorem AX(i:Nat)(c:X.N.Nodup:=by assumption)(hi:X.N[i]?\y:=by rfl)(h:Loc X.env.scope y:=by room)(hs:zap (.Dict [] [] p2) (some (.Name y py)) pos.line X.env=pure false:=by rfl)(g:X.fn y=true∨X.env.scope.names.lookup y\.local:=by room):PSD X (.Assign [.Name y py] (.Dict [] [] p2) pos) (LI i):=by refine(_,fV c hi h CF hs g,λ{F M H σ ρ E D} U q o p J=>?_);have lf:=U.liv.fresh J;let(m,L):=U.newObj (q:=.dct [] []) (A:=[p]) (v:=.ref p) (.new J) 's' (λa d=>by rw[zzt.mp d];exact(J,lf.2)) (by simp only[RO,ROs];exact(p,[],[],rfl,ao,rfl,rfl,rfl,rfl)) i;exact o.nx m L q
abbrev LJ(i:Nat)(tk te:DE):DTS:=λE h=>te h λd g=>JD (slot g i)/\tk g λdk J=>∃c k,slot J i=.obj (dvO c)/\dk=keyD k/\c.length<zaa/\E.nx (J.set i (.obj (dvO (putA c k d))))
omit [Frm] in
theorem JE{R:α->β->Prop}{ps:av (av Key×α)}{c:av (av Key×β)}(h:PK R ps c):ps.length=c.length:=jJ h
theorem Ha{r:Nat}{o:cy}{tk te:DE}(hr:Room r X.A)(ho:PE X o (tVar i))(hk:PED X tg tk)(he:PED X e te)(hs:zap e (some (.Subscript o tg p)) pos.line X.env=pure false:=by rfl) :
  PSD X (.Assign [.Subscript o tg p] e pos) (LJ i tk te):=by
 walk;let(Tk,C,rk):=hk;let(Te,pe,re):=he;x_go;refine(_,Gh (by have:=hr.units;lia) ho C pe hs,λ{F M H σ ρ E D} rs h oo=>re rs h λ{d ρ1 M1 H1 v} h m1 m r1=>?_);walk;let(q0,T):=DK h.1;let(v0,_,q,_):=m.objAt (aQ T);x_go;refine(v0,q,rk m h.2 λ{dk ρ2 M2 G y} h n L r2=>?_);walk;let(kds,k,es,rfl,hl,h):=h;let(b,rfl,hb):=qD r2;have g:=aQ es;let(v1,A,j,nd,hq,hA,_):=L.objAt g;x_go;rw[q]at j;cases j;walk;let(a,w,rfl,s,rfl,C):=ro_dv.mp hq;let(am,I,ap):=hA a 's';x_go;have l:Mv X.K F.pp M2 G M2 (upd G a (.dT (putK w k v))):=.writeX s trivial am ap;refine(a,_,rfl,DPut.t s hb (by rw[<-JE C];exact hl),oo.nx ((m1.trans n).trans l) (L.objStep g l (λv' A' Y _ B hA'=>?_) L.sub (L.sameW I l) L.liv.upd) h);rw[q]at Y;cases Y;have(a',kvs',e,Q,rfl,N):=ro_dv.mp B;cases e;rw[s]at Q;cases Q;refine([a],'s',ro_dv.mpr (a,_,rfl,ao,rfl,(N.imp λx y z=>z.mv l).put k ((r1.mv n).mv l)),λc u=>?_,λc u _ _ hn=>(u,λx e _=>?_))
 .rw[zzt.mp u];exact(am,I,ap,.inl 's')
 .rw[ar (by rintro rfl;exact hn 's')];exact e
inductive gIxT(x:D)(y:D)(P:(D->Prop)):Prop
 |mk (kds:List (List Key×D)) (k:List Key) (d:D):x=.dT (kds.map (·.1)) (kds.map (·.2))->y=keyD k->jR kds k\d->P d->gIxT x y P
theorem Fk{r:Nat}{b:cy}{ta w:DE}(Q:Room r X.A)(H:PED X a ta)(U:PED X b w)(hs:NoSl b):PED X (.Subscript a b pos) (dOp gIxT ta w):=by
 walk;let(Ta,i,n):=H;let(Tb,j,o):=U;x_go;refine(_,Gg (by have:=Q.units;lia) i j hs,λB h Y=>n B h λh e z q=>o z h λh v C m=>?_);walk;let(kds,k,d,rfl,rfl,u,M):=h;let(b,rfl,U):=qD m;have q:=q.mv v;let(c,l,rfl,_,_,I,G,p):=q;x_go;rcases (GY G p).find k with ⟨g,s⟩|⟨x,y,g,s,E⟩
 .rw[u]at g;cases g
 .rw[u]at g;cases g;exact(c,y,rfl,s ▸ .inr (l,k,b,I,rfl,U,rfl),Y M (e.trans v) C E)
def JF:DSp:=λd P=>match d with
 |[.dT c _]=>((∀k∈c,qq k)/\(2<=c.length->∀k∈c,k≠[])/\c.length<64)/\P (.lst ((srtK c).map keyD))|_=>False
omit [Frm] in
theorem AY{K:zvu}{pp:aT ay}{M:av ay}{H:Hp}{ks:av (av Key)}{bs:av V}(h:Paired (IsKey H) ks bs):ei K pp M H (ks.map keyD) bs:=by
 induction h with
 |nil=>simp only[zzW,ei]|cons h _ L =>
  let(b,rfl,J):=h;exact .cons (DI J) L
theorem wW(z:X.calm=true:=by rfl):CallD X (.builtin "sorted") JF:=by
 refine(_,yc z,λ{pp M H u vs Q P} L r h k=>?_);rcases u with _|⟨d,E⟩<;>try exact h.elim
 cases d<;>try exact h.elim
 all_goals cases E<;>try exact h.elim
 walk;let((v,q,s),h):=h;let(x,t,rfl,(a,g,rfl,_,_,w,rfl,_),rfl):=r;x_go;rw[zza]at q s;refine(a,g,rfl,w,v,q,s,λl bs c C=>k h (.new c) ?_);exact(l,bs,rfl,(L.fresh c).1,(L.fresh c).2,ao,(AY C).mv (.new c))
omit [Frm] in
theorem eU{K:zvu}{pp:aT ay}{M:av ay}{H:Hp}:∀{ns:av Int}{xs:av V},ei K pp M H (ns.map D.int) xs->xs=ns.map V.int
 |[],xs,h=>by simpa only[zzW,ei]using h
 |n::r,xs,h=>by let(x,t,rfl,rfl,h):=h;rw[eU h];rfl
abbrev Hb(te:DE):DE:=λh Q=>te h λd g=>∃c:av Int,d=.tup (c.map .int)/\c.length<=1000/\Q (.int (yd c)) g
theorem AZ{te:DE}(E:X.calm=true)(U:Gl X "len")(v:X.mg "len" = none)(u:Gl X "set")(w:X.mg "set" = none)(he:PED X e te)(c:SE X e []:=by rfl)(d:zaj [.Call (.Name "set" py) [e] [] p2] X.env=(false,eval (.Call (.Name "set" py) [e] [] p2) X.env)::zaj [] X.env:=by rfl)(H:BA X pos []:=by rfl)(x:BA X p2 []:=by rfl) :
  PED X (.Call (.Name "len" p) [.Call (.Name "set" py) [e] [] p2] [] pos) (Hb te):=by
 have(T,M,Y):=he;refine(_,eZ (he:=d) (hpl:=H) Aa U v zxD (bj (iI (he:=c) (hpl:=x) (zZ E) u w rfl (bj M ci c)) ci d),λi h k=>Y i h λh I z Q=>?_);walk;let(s,rfl,G,C):=h;let(a,xs,rfl,g,b):=Q;x_go;rw[eU b]at g;exact(a,s,rfl,g,G,λl S q=>(l,S,yd s,rfl,ao,k C (I.trans (.new q)) (z.sameP (.new q)) bK))
section
variable{pp:aT ay}{M M':av ay}{H H':Hp}
omit [Frm] in
theorem PL.mv(m:Mv K pp M H M' H'):∀{d:av (av Key×av D)}{c:av (av Key×V)}{J:av ay},(∀b∈J,∀o,H b\o->H' b\o)->PL K pp M H d c J->PL K pp M' H' d c J
 |[],c,J,_,h=>h|p::ps,c,J,g,h=>by let(l,v,r,t,rfl,rfl,u,q,s):=h;exact(l,v,r,t,rfl,rfl,g l zzd _ u,q.mv m,PL.mv m (λb L=>g b (zzc _ L)) s)
omit [Frm] in
theorem PL.snoc{k:av Key}{g:av D}{l:ay}{xs:av V}(q:H l\(.lst xs))(s:ei K pp M H g xs):∀{d:av (av Key×av D)}{c:av (av Key×V)}{J:av ay},PL K pp M H d c J->PL K pp M H (d++[(k,g)]) (c++[(k,.ref l)]) (J++[l])
 |[],c,J,h=>by let(rfl,rfl):=h;exact(l,xs,[],[],rfl,rfl,q,s,rfl,rfl)
 |p::ps,c,J,h=>by let(w,U,r,t,rfl,rfl,L,u,v):=h;exact(w,U,r++[(k,.ref l)],t++[l],rfl,rfl,L,u,PL.snoc q s v)
noncomputable def oi(k:av Key)(d:D):av (av Key×av D)->av (av Key×av D)
 |[]=>[(k,[d])]|p::r=>if p.1=k then(p.1,p.2++[d])::r else p::oi k d r
omit [Frm] in
theorem PL.add(k:av Key)(d:D):∀{g:av (av Key×av D)}{c:av (av Key×V)}{J:av ay},PL K pp M H g c J->J.Nodup ->
  (valV c k=none/\oi k d g=g++[(k,[d])])∨∃q xs,valV c k\(.ref q)/\q∈J/\H q\(.lst xs)/\(∃p∈g,p.1=k/\p.2.length=xs.length) /\
   ∀{M':av ay}{H':Hp}{v:V},Mv K pp M H M' H'->Rep K pp M' H' d v->H' q\(.lst (xs++[v]))->(∀b∈J,b≠q->∀o,H b\o->H' b\o)->PL K pp M' H' (oi k d g) c J
 |[],c,J,h,_=>by let(rfl,rfl):=h;exact .inl (rfl,rfl)
 |p::ps,c,J,h,Q=>by
  let(l,xs,r,t,rfl,rfl,z,u,x):=h;let(C,I):=zye.mp Q;by_cases e:p.1=k
  .refine .inr (l,xs,lu e,zzd,z,(p,zzd,e,u.length),λ{M' H' v} m w U s=>?_);unfold oi;rw[zzu e];exact(l,_,r,t,rfl,rfl,U,(u.mv m).append (.one w),PL.mv m (λb L=>s b (zzc _ L) (by rintro rfl;exact C L)) x)
  .rcases PL.add k d x I with ⟨a1,a2⟩|⟨q,a,a1,a2,a3,⟨Y,E,G⟩,f⟩
   .refine .inl (by rw[iK e];exact a1,?_);unfold oi;rw[zzn e,a2];rfl
   .refine .inr (q,a,by rw[iK e];exact a1,zzc _ a2,a3,(Y,zzc _ E,G),λ{M' H' v} m w U s=>?_);unfold oi;rw[zzn e];exact(l,xs,r,t,rfl,rfl,s l zzd (by rintro rfl;exact C a2) _ z,u.mv m,f m w U λb L=>s b (zzc _ L))
end
inductive dSda(i jk ja:Nat)(E:DEnds)(ρ:DS):Prop
 |mk (kls:List (List Key×List D)) (k:List Key) (d:D):slot ρ i=.obj (dlO kls)->slot ρ jk=.val (keyD k)->slot ρ ja=.val d->kls.length<zaa->(∀p∈kls,p.2.length<zaa)->E.nx (ρ.set i (.obj (dlO (oi k d kls))))->dSda i jk ja E ρ
omit [Frm] in
theorem PL.len{K:zvu}{pp:aT ay}{M:av ay}{H:Hp}:∀{d:av (av Key×av D)}{c:av (av Key×V)}{J:av ay},PL K pp M H d c J->d.length=c.length
 |[],c,J,h=>by rw[h.1];rfl
 |p::ps,c,J,h=>by let(l,xs,r,t,rfl,rfl,hl,h1,g):=h;simp[PL.len g]
theorem JG{jk ja r:Nat}{o ea:cy}{lp p3 N:Pos}(hr:Room r X.A)(ho:PE X o (tVar i))(hk:PE X tg (tVar jk))(ha:PE X ea (tVar ja))(b1:zag o "setdefault" X.env (eval o X.env)=eval o X.env:=by rfl)(f1:((zbH p2 (zaj [tg,.List [] lp] X.env)).all (λx=>!x.1) && (zbU p2 (za1 [] X.env)).all (λx=>x.1.isSome)
   && decide ([tg,.List [] lp].length+([]:av zco).length+(if ([]:av zco).isEmpty then 0 else 1)<30))=true:=by rfl)(l1:(py.endLine==p2.line)=true:=by rfl)(s1:zaj [tg,.List [] lp] X.env=(false,eval tg X.env)::zaj [.List [] lp] X.env:=by rfl)(d8:zaj [.List [] lp] X.env=(false,eval (.List [] lp) X.env)::zaj [] X.env:=by rfl)(q1:(zbH p2 (zaj [.List [] lp] X.env)).any (·.1)=false:=by rfl)(b2:zag (.Call (.Attribute o "setdefault" py) [tg,.List [] lp] [] p2) "append" X.env (eval (.Call (.Attribute o "setdefault" py) [tg,.List [] lp] [] p2) X.env)=eval (.Call (.Attribute o "setdefault" py) [tg,.List [] lp] [] p2) X.env:=by rfl)(f2:HF X N [ea]:=by rfl)(l2:(p3.endLine==N.line)=true:=by rfl)(s2:SE X ea []:=by rfl)(q2:BA X N []:=by rfl)(hs:zap (.Call (.Attribute (.Call (.Attribute o "setdefault" py) [tg,.List [] lp] [] p2) "append" p3) [ea] [] N) none pos.line X.env=pure false:=by rfl) :
  PSD X (.Expr (.Call (.Attribute (.Call (.Attribute o "setdefault" py) [tg,.List [] lp] [] p2) "append" p3) [ea] [] N) pos) (dSda i jk ja):=by
 have hm:=ss zxn zwy zwz iJ (ss PySem.F.plainAttrs_dict PySem.F.slot_dict_setdefault PySem.F.type_dict_setdefault (qo (X:=X) (by have:=hr.units;lia)) ho (bj hk (bj (zD (pos:=lp) ci) ci d8) s1) b1 f1 l1 s1 q1) (bj ha ci s2) b2 f2 l2 s2 q2;refine(_,pS hm hs,λ{F M H σ ρ E D} w h oo=>?_);walk;let(kls,k,d,e1,e2,e3,c6,b8,h9):=h;have g1:=aQ e1;let(v0,A,c0,nd,hq,hA,_):=w.objAt g1;let(a,g,ls,rfl,hd,rfl,pl):=ro_dl.mp hq;let(_,d2,vk,rfl,rk):=w.at (aQ e2);let(_,c5,u,rfl,ra):=w.at (aQ e3);let(b,rfl,hb):=qD rk;let(am,a0,ap):=hA a zzd;let(nd1,d7):=zye.mp nd;x_go;refine(.ref a,c0,.inr (.inr (.inl (rfl,.inr (g,hd)))),.ref b,d2,zyh _,λl q=>?_);have la:a≠l:=by rintro rfl;rw[hd]at q;cases q
 have lb:b≠l:=by rintro rfl;rw[hb]at q;cases q
 have lf:=w.liv.fresh q;have b5:upd H l (.lst []) a\(.dT g):=by rw[ar la];exact hd
 have mn:Mv X.K F.pp M H M (upd H l (.lst [])):=.new q;have b4:RSt X.K F M (upd H l (.lst [])) σ ρ:=w.sameP (.new q);have f0:=w.h0 q;refine(a,g,k,b,.ref l,rfl,rfl,b5,by rw[ar lb];exact hb,by rw[<-pl.len];exact c6,λv hv=>?_,λQ=>?_)
 .rcases pl.add k d d7 with ⟨a1,_⟩|⟨l0,T,a1,a2,a3,⟨p',c1,c2,c3⟩,_⟩
  .rw[hv]at a1;cases a1
  rw[hv]at a1;cases a1;have(lm,d4,d5):=hA l0 (zzc _ a2);have n0:l0≠l:=by rintro rfl;rw[q]at a3;cases a3
  have b6:upd H l (.lst []) l0\(.lst T):=by rw[ar n0];exact a3
  have mw:Mv X.K F.pp M (upd H l (.lst [])) M (upd (upd H l (.lst [])) l0 (.lst (T++[u]))):=.writeX b6 trivial lm d5;have m:=mn.trans mw;refine(.inl (rfl,T,SqL.of b6),u,c5,l0,T,u,rfl,rfl,b6,by rw[<-c3];exact b8 p' c1,oo.nx m ?_ h9);refine w.objStep g1 m (λv' A' j a9 b9 I=>?_) w.sub (b4.sameW d4 mw) b4.liv.upd;rw[c0]at j;cases j;have(a',c8,a6,e,Y,rfl,b3):=ro_dl.mp b9;cases e;rw[hd]at Y;cases Y;let(U,a4):=zye.mp a9;rcases b3.add k d a4 with ⟨z,_⟩|⟨d3,d9,z1,z2,z3,_,f⟩
  .rw[hv]at z;cases z
  rw[hv]at z1;cases z1;rw[a3]at z3;cases z3;have na:a≠l0:=by rintro rfl;exact U z2
  have keep:∀c x,c≠l0->H c\x->upd (upd H l (.lst [])) l0 (.lst (T++[u])) c\x:=λc x B C=>by rw[ar B,ar (by rintro rfl;rw[q]at C;cases C)];exact C
  refine(a::a6,a9,ro_dl.mpr (a,g,a6,rfl,keep a _ na hd,rfl,f m (ra.mv m) ao λc _ B x C=>keep c x B C),λc J=>((I c J).1,(I c J).2.1,(I c J).2.2,.inl J),λc J _ _ Q=>(J,λx e _=>keep c x (by rintro rfl;exact Q (zzc _ z2)) e))
 .have c7:putK g k (.ref l)=g++[(k,.ref l)]:=by
   unfold putK;rw[qd,Q];rfl
  rw[c7];have m1:Mv X.K F.pp M H (l::M) (upd H l (.lst [])):=.newOwn q;have m2:Mv X.K F.pp (l::M) (upd H l (.lst [])) (l::M) (upd (upd H l (.lst [])) a (.dT (g++[(k,.ref l)]))):=.writeX b5 trivial (zzc _ am) ap;have d6:Mv X.K F.pp M (upd H l (.lst [])) M (upd (upd H l (.lst [])) a (.dT (g++[(k,.ref l)]))):=.writeX b5 trivial am ap;have b7:upd (upd H l (.lst [])) a (.dT (g++[(k,.ref l)])) l\(.lst []):=by rw[ar (Ne.symm la),ao]
  have m3:Mv X.K F.pp (l::M) (upd (upd H l (.lst [])) a (.dT (g++[(k,.ref l)]))) (l::M) (upd (upd (upd H l (.lst [])) a (.dT (g++[(k,.ref l)]))) l (.lst ([]++[u]))):=.writeX b7 trivial zzd lf.2;have m:=(m1.trans m2).trans m3;have L:=b4.sameW a0 d6;have c4:SameQ X.K F.pp F.H0 (upd (upd (upd H l (.lst [])) a (.dT (g++[(k,.ref l)]))) l (.lst ([]++[u]))):=by
   refine(λc x e n=>?_,λp e h=>m3.pen p e (L.pen p e h),λc e=>?_)
   .rw[ar (by rintro rfl;rw[f0]at e;cases e)];exact L.keep c x e n
   .by_cases z:c=l
    .subst z;rw[ao];intro z;cases z
    .rw[ar z];exact L.live c e
  have d0:=(b4.liv.upd (l:=a) (o:=.dT (g++[(k,.ref l)]))).upd (l:=l) (o:=.lst ([]++[u]));refine(.inl (rfl,[],SqL.of b7),u,c5,l,[],u,rfl,rfl,b7,'d',oo.nx m ?_ h9);refine w.objStep g1 m (λv' A' j a9 b9 I=>?_) (λc J=>zzc _ (w.sub c J)) c4 (λc J=>?_,d0.p)
  .rw[c0]at j;cases j;have(a',c8,a6,e,Y,rfl,b3):=ro_dl.mp b9;cases e;rw[hd]at Y;cases Y;let(U,a4):=zye.mp a9;have c9:l∉a6:=λz=>lf.1 (I l (zzc _ z)).1;rcases b3.add k d a4 with ⟨_,z⟩|⟨d3,d9,z1,_⟩
   .have keep:∀c x,c≠a->c≠l->H c\x->upd (upd (upd H l (.lst [])) a (.dT (g++[(k,.ref l)]))) l (.lst ([]++[u])) c\x:=λc x B C h3=>by
     rw[ar C,ar B,ar C];exact h3
    have d1:upd (upd (upd H l (.lst [])) a (.dT (g++[(k,.ref l)]))) l (.lst ([]++[u])) a\(.dT (g++[(k,.ref l)])):=by rw[ar la,ao]
    refine(a::(a6++[l]),?_,ro_dl.mpr (a,_,a6++[l],rfl,d1,rfl,?_),λc J=>?_,λc J _ _ Q=>(zzc _ J,λx e _=>keep c x (by rintro rfl;exact Q zzd) (by rintro rfl;exact lf.1 J) e))
    .refine zye.mpr (λz=>?_,zyr.mpr (a4,'s',λx hx y hy e=>?_))
     .rcases zzg.mp z with z|z
      .exact U z
      .exact la (zzt.mp z)
     .rw[zzt.mp hy]at e;subst e;exact c9 hx
    .rw[z];exact PL.snoc ao (.one (ra.mv m)) (b3.mv m λc J x e=>keep c x (by rintro rfl;exact U J) (by rintro rfl;exact c9 J) e)
    .rcases zze.mp J with rfl|J
     .exact(zzc _ am,a0,ap,.inl zzd)
     rcases zzg.mp J with J|J
     .have:=I c (zzc _ J);exact(zzc _ this.1,this.2.1,this.2.2,.inl (zzc _ J))
     .rw[zzt.mp J];exact(zzd,f0,lf.2,.inr lf.1)
   .rw[Q]at z1;cases z1
  .rcases zze.mp J with rfl|J
   .rw[ao];intro z;cases z
   .exact d0.m c J
end
section
variable{P:cH}{w:World}{mg:Str->aT ax}{base:cx}{f:ay}{fd:bo}{ps:av Str}{n:Nat}
theorem FnOk.asE{g:DSp}(F:FnOk P w K mg base CX0 k f fd ps (spD K n g)):FnOk P w K mg base (CXE P w) k f fd ps (spDE K n λds Q _=>g ds Q) :=
 F.lift λvs H Q E q=>by let(pp,M,ds,P,_,J,r,e,h,k,_):=q;exact(pp,M,ds,P,J,r,e,h,k)
theorem FnOk.orE(F:FnOk P w K mg base (CXE P w) k f fd ps (spDE K n g1))(G:FnOk P w K mg base (CXE P w) k f fd ps (spDE K n g2)):FnOk P w K mg base (CXE P w) k f fd ps (spDE K n λds Q W=>g1 ds Q W∨g2 ds Q W):=by
 refine(λd H Q E q=>?_,λA c s H args us d Q E u l L U q=>?_)<;>obtain⟨pp,M,ds,P,W,J,r,e,h|h,k,g⟩:=q
 .exact F.len d H Q E (pp,M,ds,P,W,J,r,e,h,k,g)
 .exact G.len d H Q E (pp,M,ds,P,W,J,r,e,h,k,g)
 .exact F.run A c s H args us d Q E u l L U (pp,M,ds,P,W,J,r,e,h,k,g)
 .exact G.run A c s H args us d Q E u l L U (pp,M,ds,P,W,J,r,e,h,k,g)
end
theorem ka2{K:zvu}{t:ax}{a b:Bool}(c:zaz K t (.type "list")\a)(d:zaz K t (.type "tuple")\b):zaV K t [.type "list",.type "tuple"]\(a || b):=by
 unfold zaV;rw[c];cases a with
 |true=>rfl|false =>
  unfold zaV;rw[d];cases b<;>rfl
theorem ym:df X (.builtin "isinstance") (λxs H Q=>∃x p,xs=[x,.ref p]/\H p\(.tup [.ty "list",.ty "tuple"])/\knV H x/\Q (.bl (lO H x || fF H x)) H):=by
 intro pins s σ H xs us Q I r h;walk;let(x,p,rfl,u,kn,q):=h;let(u1,u2,rfl,z,C):=Cq r;x_go;cases C;walk;let(_,d,G,w,ho,U,n,hd):=I.hok p _ u;have g:d=[.type "list",.type "tuple"]:=by
  cases G with
  |cons a b =>
   cases b with
   |cons b c =>
    cases c;cases (show _=zaW "list" from a);cases (show _=zaW "tuple" from b);rfl
 subst g;let(oc,od,odt,osl):=w;dsimp only at U hd;subst U hd;x_go;walk;let(t,ty):=IN (K:=X.K) kn;let(v,pp,l):=EK I z ty;x_go;refine zvc v I.kIn pp ho ?_ l λE=>(.bl (lO H x || fF H x),H,I.tok E,rfl,q);cases ty<;>first|exact ka2 (dw (b:=false) 'k') (dw (b:=false) 'k')|(rename_i e;simp only[lO,fF,e];first|exact ka2 (dw (b:=false) 'k') (dw (b:=false) 'k')|exact ka2 (dw (b:=true) 'k') (dw (b:=false) 'k')|exact ka2 (dw (b:=false) 'k') (dw (b:=true) 'k'))
def JH(d:D):Bool:=Jn d || wP d
inductive gIsLT(ds:List D)(P:D->Prop):Prop
 | mk d:ds=[d,.tup [.ty "list",.ty "tuple"]]->mi d=true->P (.bl (JH d))->gIsLT ds P
theorem Ba:CallD X (.builtin "isinstance") gIsLT:=by
 refine(_,ym,λ{pp M H ds vs Q P} _ r h k=>?_);walk;let(d,rfl,fd,h):=h;let(c,_,rfl,J,x2,_,rfl,s,rfl):=r;let(a,v,rfl,q,u):=s;have l:v=[.ty "list",.ty "tuple"]:=by let(_,_,rfl,rfl,_,_,rfl,rfl,rfl):=u;rfl
 subst l;x_go;have kn:=Fe J fd;have e:(lO H c || fF H c)=JH d:=by
  cases d<;>first|cases fd|skip
  case non=>subst J;rfl
  case bl=>subst J;rfl
  case int=>subst J;rfl
  case str=>subst J;rfl
  case tup=>let(a,g,rfl,h,_):=J;simp only[lO,fF,h];rfl
  case lst=>let(a,g,rfl,_,_,h,_):=J;simp only[lO,fF,h];rfl
  case dK=>let(a,g,rfl,_,_,h,_):=J;simp only[lO,fF,h];rfl
 exact(c,a,rfl,q,kn,by rw[e];exact k h .refl cF)
end Tactic
namespace Tactic
open PySem PySem.Spec PyProof.Rows Lake
variable[TB]
variable{p pos tp:Pos}
section
variable[Frm]
noncomputable def seqD:D->aT (av D)
 |.lst a=>some a|.tup a=>some a|_=>none
section
variable{X:Cx}
abbrev JI(t:DA):DA:=λh Q=>t h λg c=>match g with
 |[a,b]=>∃d e,seqD a\d/\seqD b\e/\Q (zipD d e) c|_=>False
omit [Frm] in
theorem Fl{K:zvu}{pp:aT ay}{M:av ay}{H:Hp}{d:D}{v:V}{ds:av D}(r:Rep K pp M H d v)(e:seqD d\ds) :
  ∃t a xs,v=.ref a/\ei K pp M H ds xs/\∀M2 b,Mv K pp M H M2 b->SqB t K b a xs:=by
 cases d<;>cases e
 .let(a,xs,rfl,c,J):=r;exact(true,a,xs,rfl,J,λM2 b g=>SqT.of (g.tup a xs c))
 .let(a,xs,rfl,h,L,c,J):=r;exact(false,a,xs,rfl,J,λM2 b g=>SqL.of (g.lst a xs c h L).1)
theorem mE{l q:cy}{B:DA}{U:av cy}{k:Nat}(hm:X.mg "zip" = none)(ha:PAD X [l,q] B)(he:SE X l [q]:=by rfl)(hpl:BA X pos [q]:=by rfl)(hg:Gl X "zip":=by rfl) :
  PID X (.Tuple U k tp) (.Call (.Name "zip" p) [l,q] [] pos) (JI B):=by
 let(T,pa,r):=ha;refine(_,Lj hg hm pa he hpl,λrs h k=>r rs h λ{d _ _ H' _} h m M s=>?_);split at h
 case h_2=>exact h.elim
 let(A,J,Y,e2,h):=h;let(x,_,rfl,hx,x',_,rfl,I,rfl):=s;let(t,a,g,rfl,s,n):=Fl hx Y;let(u,b,j,rfl,z,o):=Fl I e2;have L:=my A J;rw[s.length,z.length]at L;refine(t,u,a,b,rfl,(g,n _ _ .refl),(j,o _ _ .refl),k h m M (λM2 w c i d y H3 e yl=>?_,λM2 w c i hi=>?_,λM2 w c i hi=>?_))
 .let(T,x,y,v,rfl,z1,z2,rfl):=yl;let(d1,d2,C,E,rfl):=wT A J i d e;let(v1,G,N):=s.get' C;let(v2,H,Q):=z.get' E;cases (z1 g (n _ _ c)).symm.trans G;cases (z2 j (o _ _ c)).symm.trans H;refine(.new v,?_);exact(T,_,rfl,ao,.cons ((N.mv c).mv (.new v)) (.one ((Q.mv c).mv (.new v))))
 .exact(g,j,g[i]''l',j[i]''l',n _ _ c,o _ _ c,'s','s')
 .exact(g,j,n _ _ c,o _ _ c,'l')
end
end
end Tactic
namespace Tactic
open PySem PySem.Spec Lake
open PyProof.Rows hiding St
variable[TB]
variable{N ps:av Str}{e elt tg:cy}{g g1:DSpE}{ifs:av cy}{k n:Nat}{p pos tp:Pos}
variable{X:Cx}{pos:Pos}{K:zvu}
section
variable[Frm]
omit [Frm] in
theorem Hc{n m:Nat}(h:n<m):ixN m (n:Int)\n:=by unfold ixN;rw[zzu 'l',zzu 'l'];simp
end
abbrev XI:=ay->ay×av (Str×V)
variable{xi:XI}
def WLA[Frm](xi:XI)(K:zvu):St->XK:=λc C b H=>∃F M a n dx,(C=.ref (xi n).1/\b\dx)/\(dx∉M/\F.pp≠some dx/\H dx\(exD (xi n).2 dx))/\RSt K F M H c a/\Frm.W a n
def XkA[Frm](xi:XI)(X:Cx):Prop:=∀e a,XF X (WLA xi X.K) e a->X.xe e a
theorem DM{X:Cx} : @XkA _ Frm.free xi X:=by rintro _ _ ⟨_,_,_,_,_,_,_,_,_,_,_,_,_,_,_,_,_,_,w⟩;exact w.elim
theorem gE[Frm]{X:Cx}:XkA xi (X.wish (XF X (WLA xi X.K))):=λ_ _ h=>sW h
inductive spDA(xi:XI)(K:zvu)(n:Nat)(g:DSpE)(vs:List V)(H:Hp)(Q:VK)(E:XK):Prop
 |mk pp M ds P W:Lv pp M H->ei K pp M H ds vs->ds.length=n->g ds P W->(∀{d H' v},P d->SameP K pp H H'->Rep K pp M H' d v->Q v H')->(∀{c H' dx},W c->SameP K pp H H'->dx∉M->pp≠some dx->H' dx\(exD (xi c).2 dx)->E (.ref (xi c).1) (some dx) H')->spDA xi K n g vs H Q E
section
variable[Frm]{xi:XI}{x:Str}{p:Pos}{e:cy}{es:av cy}{t:DA}{g:DSpE}{W:DS->ay->Prop}
theorem wY{f:ay}{fd:bo}(U:FnOk X.prog X.w X.K X.mg X.base (CXE X.prog X.w) k f fd ps (spDA xi X.K n g))(y:XkA xi X)(i:W=Frm.W)(v:Room k X.A)(m:Gl X x)(u:X.mg x\(.ref f))(o:zau X.K (.ref f)=true)(l:Binds X.K fd ps [])(j:PAD X (e::es) t)(L:NoDb x:=by decide)(he:SE X e es:=by rfl)(hpl:BA X pos es:=by rfl) :
  PED X (.Call (.Name x p) (e::es) [] pos) (wR n g W t):=by
 subst i;let(T,B,E):=j;refine(_,GV U y v m u o l B L he hpl,λ{F M H σ ρ Q P} G q k=>E G q λ{b a M1 H1 vs} q z J C=>?_);rw[zzB];exact(F.pp,M1,b,_,_,J.liv,C,q.1,q.2,λp s r=>k p (z.trans s.mv) (J.sameP s) r,λw s c d h=>(F,M1,a,_,_,(rfl,rfl),(c,d,h),J.sameP s,w))
noncomputable def vD:D->V->Prop
 |.non,v=>v=.non|.int i,v=>v=.int i|_,_=>False
theorem JJ{K:zvu}{pp:aT ay}{M:av ay}{H:Hp}{d:D}{v x:V}(h:vD d v)(r:Rep K pp M H d x):x=v:=by
 cases d<;>simp only[vD]at h
 · rw[h,r]
 · rw[h,r]
end
theorem fnDA{P:cH}{w:World}{K:zvu}{j:Str->aT ax}{base:cx}{x a:Str}{st:Stmt}{f:ay}{fd:bo}{t:(DS->ay->Prop)->DTS}(u:Fun K x a st f fd)(S:er N ps (aj st))(hb:∀{fr:Frm}{W:DS->ay->Prop}{b:ax}{A:zas}{outer:av Env}{s:aM}{H:Hp}{E:XK}(hW:W=fr.W),Room k (A.deeper (zbh a (aj st) s⁻¹ f b))->N.Nodup ->
   PSsD ((cxOf (CXE P w) P w K j base N a (aj st) f b A outer s H E).wish (XF (cxOf (CXE P w) P w K j base N a (aj st) f b A outer s H E) (WLA xi K))) (cj st) (t W))(hg:∀ds Q W,ds.length=ps.length->g ds Q W->t (λ_ C=>W C) {nx:=λ_=>Q .non,rt:=λd _=>Q d} (fK N.length ds)):FnOk P w K j base (CXE P w) (k+1) f fd ps (spDA xi K ps.length g):=by
 have(oc,od,kV,doc,pm,an,b,ct,osl,rfl,lk,y):=u.ex;refine zG lk y S (λvs H Q E h=>?_) λA outer s H vs Q E hr h=>?_<;>let(pp,M,ds,P,W,lv,r,e,h,o,k2):=h
 .rw[<-r.length,e]
 .let fr:Frm:=(λ_ F _ _=>F=(pp,M,H),λ_=>W,λ_ _ _ _ _ _ h _=>h)
  have(T,p,run):=hb (fr:=fr) (outer:=outer) (E:=E) (H:=H) rfl hr S.nd;refine(T,λi s1 B v D I q=>zyg (p i s1 B v D (I.wish _) q) (λ_ _ q=>q.unwish) λe s' z=>qj (z.mono λσ' C dd H' q=>?_),run (iT lv r rfl) (hg ds _ _ e h) (λm L q=>o q L.sameT (by simp only[Rep]),λ_ _ q=>q,λ_ _ q=>q,λm L rd q=>o q L.sameT (rd.mv (.less L.sub))));have(F,M',ρ,c,dx,(rfl,rfl),(G,Y,n),L,w):=q;obtain rfl:F=(pp,M,H):=L.lk.l;exact k2 w L.sameT (λz=>G (L.sub dx z)) Y n
section
variable{xi:XI}{P:cH}{w:World}{mg:Str->aT ax}{base:cx}{k:Nat}{f:ay}{fd:bo}{ps:av Str}{n:Nat}
theorem FnOk.asA{g:DSp}(F:FnOk P w K mg base CX0 k f fd ps (spD K n g)):FnOk P w K mg base (CXE P w) k f fd ps (spDA xi K n λds Q _=>g ds Q) :=
 F.lift λvs H Q E q=>by let(pp,M,ds,P,_,J,r,e,h,k,_):=q;exact(pp,M,ds,P,J,r,e,h,k)
theorem FnOk.orA(F:FnOk P w K mg base (CXE P w) k f fd ps (spDA xi K n g1))(G:FnOk P w K mg base (CXE P w) k f fd ps (spDA xi K n g)):FnOk P w K mg base (CXE P w) k f fd ps (spDA xi K n λds Q W=>g1 ds Q W∨g ds Q W):=by
 refine(λb H Q E q=>?_,λA a s H args j b Q E i d L U q=>?_)<;>obtain⟨pp,M,ds,P,W,J,r,e,h|h,k,c⟩:=q
 .exact F.len b H Q E (pp,M,ds,P,W,J,r,e,h,k,c)
 .exact G.len b H Q E (pp,M,ds,P,W,J,r,e,h,k,c)
 .exact F.run A a s H args j b Q E i d L U (pp,M,ds,P,W,J,r,e,h,k,c)
 .exact G.run A a s H args j b Q E i d L U (pp,M,ds,P,W,J,r,e,h,k,c)
end
section
variable[fr0:Frm]{xi:XI}{body suite:av Stmt}{b0:Stmt}{n x:Str}{np hpos:Pos}{C0:ay}{i:Nat}{tb:(DS->ay->Prop)->DTS}{th:DTS}
abbrev LK(xi:XI)(K:zvu)(C0:ay)(i:Nat)(tb:(DS->ay->Prop)->DTS)(th:DTS)(Wo:DS->ay->Prop):DTS:=λE b =>
 tb (λa c=>(zar K (.ref (xi c).1) (.ref C0)\true/\th (DC i E) (a.set i (.val (.exa (xi c).1 (xi c).2))))∨(zar K (.ref (xi c).1) (.ref C0)\false/\Wo a c)) E b
theorem Hd(Q:K=X.K)(hs:X.stack=X.env::X.outer)(k:X.env.frame\X.env.locals)(hex:X.ex=[])(Y:X.N.Nodup)(hi:X.N[i]?\n)(hl:X.env.kindOf n\.local)(hg:Gl X x)(hm:X.mg x\(.ref C0))(hx:XkA xi X)
  (g:∀(fr:Frm)(W:DS->ay->Prop)(hW:W=fr.W)pn,@PSsD _ fr ((X.pinned pn).wish (XF (X.pinned pn) (@WLA _ fr xi X.K))) body (tb W)) (hh:∀ea,PSsD (X.caught ea) (b0::suite) th) (G:NoDb x:=by decide) :
  PSD X (.Try body [.ExceptHandler (some (.Name x np)) (some n) (b0::suite) hpos] [] [] pos) (LK xi K C0 i tb th Frm.W):=by
 subst Q;refine(_,EV hs k hex Y hi hl hg hm hx G,λ{F M H σ ρ E D} B q o=>?_);have d:∀{Wd b h a ρ'},@RSt _ (vc F M H Wd) X.K F b h a ρ'->Mv X.K F.pp M H b h/\@RSt _ fr0 X.K F b h a ρ':=λ{Wd b h a ρ'} r=>((fh r).2,eR r (B.lk.cl (fh r).2).l);refine(@WLA _ (vc F M H λu c=>(zar X.K (.ref (xi c).1) (.ref C0)\true/\th (DC i E) (u.set i (.val (.exa (xi c).1 (xi c).2))))∨(zar X.K (.ref (xi c).1) (.ref C0)\false/\fr0.W u c)) xi X.K,λpn=>?_,λa C dd h hw=>?_)
 .let(T,p,run):=g (vc F M H _) _ rfl pn;exact(T,p,run (eR B (rfl,.refl)) q (Jv o λr=>(d r).2))
 .let(L,b,ρ',c,dx,(rfl,rfl),(z,A,y),r,w):=hw;have e:L=F:=(fh r).1;subst e;let(m,r):=d r;rcases w with ⟨ex,w⟩|⟨ex,w⟩
  .refine .inl (ex,λea U e s=>?_);obtain rfl:(xi c).1=U:=zac.inj e;let(T,p,run):=hh ea;have v:Mv X.K L.pp M H b (upd h ea (excA (xi c).1 (some dx) ea)):=m.trans (.new s);have I:dx≠ea:=bW y s;have r2:RSt X.K L b (upd h ea (excA (xi c).1 (some dx) ea)) (a.set i (some (.ref ea))) (ρ'.set i (.val (.exa (xi c).1 (xi c).2))) :=
    (r.sameP (.new s)).set (by simp only[Rep];exact(ea,dx,rfl,(r.liv.fresh s).1,(r.liv.fresh s).2,ao,z,A,by rw[ar I];exact y)) i
   exact(T,p,run r2 w (λj J=>o.nx (v.trans j) (J.setNil (o:=none) i),λj J=>o.bk (v.trans j) (J.setNil (o:=none) i),λj J=>o.ct (v.trans j) (J.setNil (o:=none) i),λj J=>o.rt (v.trans j) J))
  .exact .inr (ex,L,b,ρ',c,dx,(rfl,rfl),(z,A,y),r,w)
end
section
variable[Frm]
abbrev LL(K:zvu)(te:DE)(f:Str):DE:=λc Q=>te c λd a=>∃C fs b v,d=.exa C fs/\ExA K C/\NoAttr K C f/\fs.lookup f\v/\vD b v/\Q b a
theorem Bb{K:zvu}{f:Str}{te:DE}(j:K=X.K)(he:PED X e te)(l:zag e f X.env (eval e X.env)=eval e X.env):PED X (.Attribute e f pos) (LL K te f):=by
 walk;subst j;let(T,s,w):=he;x_go;refine(_,Gv s l,λx q k=>w x q λq r U u=>?_);walk;let(C,fs,c,v,rfl,i,o,m,b,q):=q;let(a,dx,rfl,h1,h2,d,h4,h5,h):=u;x_go;refine(a,C,dx,fs,v,rfl,d,h,i,o,m,k q r U ?_);cases c<;>simp only[vD]at b
 all_goals
  exact b
end
def LM:D->D->(D->Prop)->Prop
 |.tup a,.tup b,P=>(a.length+b.length<=zaa)/\P (.tup (a++b))|_,_,_=>False
theorem ve:OpD X (zaA .Add) LM:=by
 refine(_,GD,λ{pp M H x y v u Q P} lv j m h k=>?_);cases x<;>first|exact h.elim|skip
 cases y<;>first|exact h.elim|skip
 rename_i A B;have U:=j;have r:=m;let(a,o,rfl,c,J):=j;let(b,q,rfl,d,L):=m;by_cases z:A=[]
 .subst z;have e:o=[]:=zyc.mp J.length.symm;subst e;exact .inr (a,b,q,rfl,rfl,SqT.of c,SqT.of d,k h.2 .refl r)
 .let(w,h):=h;refine .inl (a,b,o,q,rfl,rfl,SqT.of c,SqT.of d,?_,by rw[<-J.length,<-L.length];exact w,λe=>?_,λe l i=>k h (.new i) ?_)
  .rintro rfl;exact z (zyc.mp J.length)
  .subst e;have s:B=[]:=zyc.mp L.length;subst s;rw[zzB]at h;exact k h .refl U
  .simp only[Rep];exact(l,_,rfl,ao,(J.append L).mv (.new i))
section
variable[Frm]
theorem wZ:PG X e (λ_ _ _ _=>False):=λ_ _ _ _ _ _ _ _ _ h=>h.elim
theorem sZ:PTs X ifs (λ_ _ _=>False):=λ_ _ _ _ _ _ h=>h.elim
theorem xa{a:Scope}{cl:av (Str×ay)}{N':av Str}{j:av (aT Nat)}{t:DA}(i:X.calm=true)(U:dz X.env.cells a.names []\cl)(d:∀y∈a.names,y.2=.free->(y.1,zan)∉a.names)(L:a.kind=.function)(cap:Cap X a N' j)(J:∀y∈a.names,y.2=.local->a.names.lookup y.1\.local)(hi:PID X tg e t)(hs:∀v,zaw e X.env v=pure v:=by intro _;rfl):PLD X (.ListComp elt [(tg,e,ifs,0)] a pos) (λρ _=>t ρ λ_ _=>False):=by have(wi,pi,l):=hi;exact(_,wE vb i U d L cap J pi (λB=>(wZ,sZ)) hs,λm h _=>l m h λh=>h.elim)
abbrev He(t:DA):DA:=λd Q=>t d λb a=>match b with
 |[.tup c]=>Q (fS 0 c) a|_=>False
theorem xb{l:cy}{v:DA}(E:X.mg "enumerate" = none)(c:PAD X [l] v)(he:SE X l []:=by rfl)(hpl:BA X pos []:=by rfl)(C:Gl X "enumerate":=by rfl) :
  PID X (.Tuple ifs k tp) (.Call (.Name "enumerate" p) [l] [] pos) (He v):=by
 let(T,H,r):=c;refine(_,Do C E H he hpl,λI h k=>r I h λh m A J=>?_);split at h
 case h_2=>exact h.elim
 rename_i o;let(x,r0,rfl,(a,b,rfl,c,J),rfl):=J;refine(a,rfl,(b,SqT.of c),k h m A (λM2 s j i d y H3 e M=>?_,λM2 s j i q=>?_,λM2 s j i q=>?_))
 .let(T,z,u,rfl,G,rfl):=M;let(d',L,rfl):=sX o 0 i d e;let(v',w,B):=J.get' L;have:=G b (SqT.of (j.tup a b c));rw[w]at this;cases this;refine(.new u,?_);exact(T,_,rfl,ao,.cons (by rw[zwZ];exact bK) (.one ((B.mv j).mv (.new u))))
 .have U:i<b.length:=by rw[<-J.length,<-dD o 0];exact q
  exact(b,b[i],SqT.of (j.tup a b c),by simp[U])
 .exact(b,SqT.of (j.tup a b c),by rw[<-J.length,<-dD o 0];exact q)
end
def Fm(x y:D)(P:D->Prop):Prop:=match y with
 |.tup a=>(fT x=true/\a.all fT=true)/\P (.bl (!(a.any λy=>eqF y x)))
 |.lst a=>(fT x=true/\a.all fT=true)/\P (.bl (!(a.any λy=>eqF y x)))
 |_=>False
theorem iY:OpD X (zae .NotIn) Fm:=by
 refine(_,sg,λ{pp M H x y v u Q P} _ J L h k=>?_);cases y<;>first|exact False.elim h|skip
 .let(a,c,rfl,b,r):=L;let(g1,g2,g3):=DD J h.1 r;refine(a,c,rfl,.inr (SqT.of b),g1,g2,?_);rw[zzu rfl,g3];exact k h.2 .refl cF
 .let(a,c,rfl,hm,hp,b,r):=L;let(g1,g2,g3):=DD J h.1 r;refine(a,c,rfl,.inl (SqL.of b),g1,g2,?_);rw[zzu rfl,g3];exact k h.2 .refl cF
end Tactic
namespace Tactic
open PySem PySem.Spec Lake
open PyProof.Rows hiding St
theorem mF{c:Type}:∀{l:av (ay×c)}{a:ay}{o:c},l.lookup a\o->(a,o)∈l
 |[],_,_,e=>by cases e
 |(b,x)::r,a,o,e=>by
  rw[zyf]at e;cases J:a==b with
  |true=>rw[J]at e;cases e;rw[zdI J];exact .head _
  |false=>rw[J]at e;exact .tail _ (mF e)
theorem Hf{c:av (ay×Str)}(K:zvu)(H:Hp)(a:ay)(ns:av Int)(d:∀b,H b=none∨(∃o xs,H b\(.frz o (.lst xs)))∨H b\(.tbl #[]))(J:∀P∈c.map (·.1),H P\(.tbl #[]))(h:SqL K H a (ns.map V.int)) :
  @spLaw ⟨c⟩ K [.ref a] H (λv _=>v=.bl true) λ_ _ _=>False:=by
 refine(a,ns,rfl,?_,λP L e=>(#[],J P (zzi.mpr ((P,L),mF e,rfl)),trivial,λpos cv z=>by cases z),λ_=>rfl);rcases h with (h|⟨o,h⟩)|h
 .rcases d a with z|⟨o,xs,z⟩|z
  .rw[z]at h;cases h
  .rw[z]at h;cases h
  .rw[z]at h;cases h
 .exact .inl (o,h)
 .exact .inr λH'=>.inr h
theorem walk_ofT{l:zeB}{n k:Nat}{q:cH}{U:av Str}{B:(Str->aT ax)->cx->Prop}{p:World->cx->Prop}{d:DefRec}{K:Params->zvu}{x:Str}{v:av ay}
  (hn:l.most\n) (Q:n<=zaa) (M:d.params.defaults=[]) (hr:Room k zd7)
  (hY:∀(w:World)(h:cx),p w h->(K w.params).In h) (I:∀(w:World)(h:cx),p w h->∀P∈v,h.get? P\(zdd #[]))
  (F:∀(w:World)(i:Str->aT ax)(m:ay)(h:cx),(K w.params).In h->h.Ns zaX i->i d.name\(.ref m) ->
   ∃(fd:bo)(j:av (ay×Str)),(∀(s:aM)(u:ax),BindsTo s fd ([u],[]) [(x,u)])/\(∀q∈j,(∃c,zba (K w.params) c q.1=true)/\q.1∈v/\(K w.params).lookup q.1=none) /\
    ∀base:cx,(K w.params).In base->base.Ns zaX i->Bm i base->FnOk l.prog w (K w.params) i base CX0 k m fd [x] (@spLaw ⟨j⟩ (K w.params))) :
  PySem.W.WalkO q U B p l.row.toRowW d [] (λf vs=>PySem.call f vs):=by
 refine Att.attach_call hn M λw s₀ s₁ i mb m o pm cd doc a vs ns G Y ho hd hcd N E L C hg=>?_;have KX:=hY w _ Y;have(fd,j,hb,ht,hF):=F w i m _ KX G.T.g N;have r:∀P∈j.map (·.1),(∃c,zba (K w.params) c P=true)/\P∈v/\(K w.params).lookup P=none:=λP J=>by let(q,hq,rfl):=zzi.mp J;exact ht q hq
 exact Aj (tabs:=j.map (·.1)) KX G.T.g G.T.b G.T.builtins G.T.nolimit ⟨G.T.bmain⟩ hg E L (zzk C Q) hr (λP J=>I w _ Y P (r P J).2.1) (λP J=>let ⟨c,e⟩:=(r P J).1;(c,PySem.W.codeHd_of_K KX e)) (λP J=>(r P J).2.2) hF hb
  (λH hO hT hS=>Hf (K w.params) H a ns hO hT hS) λH e s' z=>z
variable[TB]
theorem PCD.pldE[fr:Frm]{X:Cx}{e:cy}{t:DA}(h:PCD X e t):PLD X e t:=by have(T,p,_,r):=h;exact(T,p,λU q k=>r (eR U trivial) q λq m J b c=>k q m (eR J (U.lk.cl m).l) b c)
end Tactic
namespace Tactic
open PySem PySem.Spec Lake
open PyProof.Rows hiding St
variable{N:av Str}{e elt tg:cy}{k n:Nat}{p pos:Pos}{y:Str}
variable{X:Cx}
section
variable[TB]
theorem LN{P:cH}{w:World}{K:zvu}{m:Str->aT ax}{base:cx}{st:Stmt}{f:ay}{fd:bo}{x:Str}{t:DTS}{M:Stmt}{rest:av Stmt}(n:Fun K "law" "law" st f fd)(S:er N [x] (aj st))(hs:cj st=M::rest)(hN:2<=N.length)(y:∀(c:ax)(A:zas)(outer:av Env)(s:aM)(H:Hp)(E:XK),Room k (A.deeper (zbh "law" (aj st) s⁻¹ f c))->PS (cxOf CX0 P w K m base N "law" (aj st) f c A outer s H E).nox M (tAsg (Ix (sp_pen K) [] E0 (Iw (tVar 0) tNil)) (pU 1)))(hb:∀{c:ax}(_:c=fd.code){A:zas}{outer:av Env}{s:aM}{H:Hp}{E:XK},Room k (A.deeper (zbh "law" (aj st) s⁻¹ f c))->N.Nodup -> @PSsD _ Frm.free (cxOf CX0 P w K m base N "law" (aj st) f c A outer s H E).nox rest t)(hg:t {nx:=λ_=>False,rt:=λd _=>d=.bl true} (.nil :: .val .pen::zad (N.length-2) .nil)):FnOk P w K m base CX0 (k+1) f fd [x] (spLaw K):=by
 let(oc,od,kV,doc,pm,an,c,ct,osl,e,lk,J):=n.ex;have L:c=fd.code:=by rw[e]
 subst e;refine zG lk J S (λY H Q E h=>?_) (λA outer s H Y Q E G h=>?_)
 .let(a,v,rfl,_):=h;rfl
 .suffices hh:∃t,PSs (cxOf CX0 P w K m base N "law" (aj st) f c A outer s H E).nox (cj st) t/\t {nx:=λ_ j=>Q .non j,rt:=Q} (Lake.start N Y) H by
   let(t,a,b):=hh;exact(t,a.nox,b)
  let(a,v,rfl,U,hT,h):=h;rw[hs];refine(_,cg (u:=λD B j=>∃p:ay,@RSt _ Frm.free K (some p,[],j) [] j B (.nil :: .val .pen::zad (N.length-2) .nil)/\∀r,D.rt (.bl true) r) (y c A outer s H E G) ?_,?_)
  .intro l s' B j D I (p,rs,q);let(T,pT,run):=hb L (outer:=outer) (E:=E) (H:=H) G S.nd;refine pT l s' B j D I (run rs hg (λ_ _ q=>q.elim,λ_ _ q=>q.elim,λ_ _ q=>q.elim,λ_ _ rd e=>?_));subst e;subst rd;exact q _
  .refine(.ref a,?_,a,v,rfl,U,λp j hp pen sm=>(p,(?_,λi s o g C=>?_,OwF.none (λi s g=>?_),λa z=>by simp at z,.refl,λa z=>by simp at z,(λa z=>by simp at z,λq e=>?_),(trivial,hT.of λb o e _=>sm b o e)),h))
   .rfl
   .simp[Lake.start];lia
   .match i,g with
    |0,g=>simp at g;subst g;trivial|1,g =>
     simp at g;subst g;have hi:1<(Lake.start N [V.ref a]).length:=by simp[Lake.start];lia
     simp[hi]at C;subst C;refine(_,rfl,?_);exact(p,rfl,rfl,a,v,0,0,pen)
    |i+2,g =>
     have:=zyE (zzK g);subst this;trivial
   .have:=zzK g;simp at this;rcases this with rfl|rfl|⟨_,rfl⟩<;>exact(λds z=>(by cases z),λq z=>(by cases z))
   .cases e;rw[pen.lst];intro z;cases z
end
variable[TB]
section
variable[Frm]
noncomputable def tyY:D->aT ax
 | .non=>some (.type "NoneType")|.exc C=>some (.ref C)|.exa C _=>some (.ref C)|_=>none
inductive gIsM(K:zvu)(d:D)(cs:List D)(P:D->Prop):Prop
 |mk (t:Value) (vs:List Value) (b:Bool):tyY d\t->(∀C,t=.ref C->ExK K C)->clsD cs\vs->zaV K t vs\b->P (.bl b)->gIsM K d cs P
inductive gIs1(K:zvu)(d c:D)(P:D->Prop):Prop
 |mk (t v:Value) (b:Bool):tyY d\t->(∀C,t=.ref C->ExK K C)->clD c\v->zaz K t v\b->P (.bl b)->gIs1 K d c P
noncomputable def gIsY(K:zvu):DSp:=λa P=>match a with
 |[d,.tup cs]=>gIsM K d cs P|[d,c]=>gIs1 K d c P|_=>False
theorem JK:CallD X (.builtin "isinstance") (gIsY X.K):=by
 refine(λxs H Q=>∃pp M x P,ei X.K pp M H x xs/\gIsY X.K x P/\∀{d E w},P d->SameP X.K pp H E->Rep X.K pp M E d w->Q w E,?_,λ{pp M H x vs Q P} _ r h k=>(pp,M,x,P,r,h,k));intro B s σ H xs us Q I r h;have(pp,M,x,P,rp,h,k):=h;have fin:∀{b:Bool},P (.bl b)->∀y,EP X B σ Q (.bool b) {s with toks:=y}:=λ{b} q y=>(.bl b,H,I.tok y,rfl,k q .refl cF);have U:∀{g C:ay}{N:aT ay},H g\(excA C N g)->IsOf g C s.heap:=λ{g C N} e=>by have:=I.hok g _ e;let(o,A,i,_):=this.1;exact(o,A,i)
 unfold gIsY at h;split at h
 .rename_i d cs;walk;let(t,vs,b,A,i,G,j,q):=h;let(x1,_,rfl,u,x2,_,rfl,p,rfl):=rp;let(a,zs,rfl,ha,rz):=p;let(u1,u2,rfl,m,Y):=Cq r;x_go;cases Y;walk;let(_,its,vz,o,ho,hc,n,hd):=I.hok a _ ha;have T:=wS G rz vz;subst T;let(oc,od,odt,osl):=o;subst hc hd;x_go;cases d<;>cases A
  .subst u;cases m;exact zvc zbZ I.kIn zaP ho j (λz=>nomatch z) (fin q)
  .rename_i C;have(g,rfl,_,_,l):=u;cases m;exact zvc (ly (i C rfl)) I.kIn (U l) ho j (λz=>nomatch z) (fin q)
  .rename_i C fs;have(g,dx,rfl,_,_,l,_):=u;cases m;exact zvc (ly (i C rfl)) I.kIn (U l) ho j (λz=>nomatch z) (fin q)
 .rename_i d c _;walk;let(t,v,b,A,i,G,j,q):=h;let(x1,_,rfl,u,x2,_,rfl,p,rfl):=rp;let(u1,u2,rfl,m,Y):=Cq r;have T:=AV G p Y;subst T;x_go;cases d<;>cases A
  .subst u;cases m;exact zwV zbZ I.kIn zaP j (λz=>nomatch z) (fin q)
  .rename_i C;have(g,rfl,_,_,l):=u;cases m;exact zwV (ly (i C rfl)) I.kIn (U l) j (λz=>nomatch z) (fin q)
  .rename_i C fs;have(g,dx,rfl,_,_,l,_):=u;cases m;exact zwV (ly (i C rfl)) I.kIn (U l) j (λz=>nomatch z) (fin q)
 .exact h.elim
end
section
variable{K:zvu}{pp:aT ay}{M:av ay}{H H':Hp}
theorem Mv.more{A:av ay}(m:Mv K pp M H M H')(J:∀a∈A,H a=none):Mv K pp M H (A++M) H' :=
 (m.tup,λa o e n q=>((m.oth a o e n q).1,λz=>(zzg.mp z).elim (λz=>by rw[J a z]at e;cases e) (λz=>n z)),m.pen,m.tb)
end
def XkF[Frm](X:Cx):Prop:=∀e a,XFl X (WL X.K) e a->X.xe e a
theorem xc[Frm]{X:Cx}:XkF (X.wish (XFl X (WL X.K))):=λ_ _ h=>yf h
theorem xf[Frm]{X:Cx}{x:Str}{e:cy}{es:av cy}{t:DA}{g:DSpE}{W:DS->ay->Prop}{f:ay}{fd:bo}(d:FnOk X.prog X.w X.K X.mg X.base (CXE X.prog X.w) k f fd N (spDE X.K n g))(C:XkF X)(l:W=Frm.W)(B:Room k X.A)(u:Gl X x)(z:X.mg x\(.ref f))(v:zau X.K (.ref f)=true)(o:Binds X.K fd N [])(m:PAD X (e::es) t)(L:NoDb x:=by decide)(he:SE X e es:=by rfl)(hpl:BA X pos es:=by rfl) :
  PED X (.Call (.Name x p) (e::es) [] pos) (wR n g W t):=by
 subst l;let(T,G,y):=m;refine(EU (spDE X.K n g) [] (WL X.K) T,λa s c H Q I h=>?_,λ{F M H c ρ Q P} rs q k=>y rs q λ{j b M1 i vs} q E J Y=>?_)
 .refine zyP (eA I u z ?_ L);refine zxb (h₀:=X.base) I.ok.mod.kin v (thnE (G pos a s c H _ I h) λus s1 vs i U r q=>(U.kIn,?_)) he hpl;exact GF d B o .nil C U r q
 .rw[zzB];exact(F.pp,M1,j,_,_,J.liv,Y,q.1,q.2,λp s r=>k p (E.trans s.mv) (J.sameP s) r,λw s=>(F,M1,b,_,(rfl,rfl),J.sameP s,w))
@[reducible] def JL (L:zvu) (pp:aT ay) (H1:Hp) (W:ay->Prop):Frm:=(λU J _ _=>U=L/\J.pp=pp/\SameP L pp H1 J.H0,λ_ C=>W C,λ_ _ _ _ _ _ h _=>h)
abbrev JM(W:DS->ay->Prop)(t:DA)(js:av (aT Nat))(g:DG)(tc:DT)(te:(DS->ay->Prop)->DE):DA:=λd Q=>t d λb a=>cZ g tc (te λ_ C=>W a C) b [] (subD js a) λc=>Q c a
section
variable[fr0:Frm]
def PCE(X:Cx)(e:cy)(t:DA):Prop:=∃T:TE,PE X e T/\(∀(i:Nat)(y:Str)(py J:Pos),X.N.Nodup->X.N[i]?\y->X.env.scope.names.lookup y\.local->zap e (some (.Name y py)) J.line X.env=pure true->PS X (.Assign [.Name y py] e J) (tAsg T (pU i)))/\RL X.K T t
theorem qE{iter:cy}{ifs:av cy}{c:Scope}{cl:av (Str×ay)}{N':av Str}{js:av (aT Nat)}{t:DA}{g:DG}{tc:DT}{te:(DS->ay->Prop)->DE}{W:DS->ay->Prop}(ho:Ho X (WL X.K))(hW:W=Frm.W)(hc:X.calm=true)(b6:dz X.env.cells c.names []\cl)(b7:∀y∈c.names,y.2=.free->(y.1,zan)∉c.names)(b1:c.kind=.function)(cap:Cap X c N' js)(a9:∀y∈c.names,y.2=.local->c.names.lookup y.1\.local)(hi:PID X tg iter t)(hg:∀B:Blk,@PGD _ Frm.free (cxB X c cl N' B) tg g)(ht:∀B:Blk,PTsD (cxB X c cl N' B) ifs tc)(he:∀(fr:Frm)(W:DS->ay->Prop)(hW:W=fr.W)(B:Blk),@PED _ fr ((cxB X c cl N' B).wish (XFl (cxB X c cl N' B) (@WL _ fr X.K))) elt (te W))(hs:∀v,zaw iter X.env v=pure v:=by intro _;rfl):PCE X (.ListComp elt [(tg,iter,ifs,0)] c pos) (JM W t js g tc te):=by
 walk;subst hW;let(wi,pi,ri):=hi;x_go;have hb:∀B:Blk,PG (cxB X c cl N' B) tg (zbv (hg B).ex)/\PTs (cxB X c cl N' B) ifs (zbv (ht B).ex):=λB =>
  ((zym (hg B).ex).1,(zym (ht B).ex).1)
 refine(_,wE ho hc b6 b7 b1 cap a9 pi hb hs,λi y py spos hN hy hl c7=>wD ho hN hy hl hc b6 b7 b1 cap a9 pi hb c7 hs,λ{F M H σ ρ Q P} rs h k=>ri rs h λ{I ρ1 M1 A J} h m1 b3 ok=>?_);intro B U hD;walk;let(_,rg):=zym (hg B).ex;let(_,rt):=zym (ht B).ex;let(d4,c9,re):=he (JL X.K F.pp A λC=>fr0.W ρ1 C) _ rfl B;x_go;have fr:=b3.liv.fresh hD;have rf : @RSt _ Frm.free X.K F M1 A σ ρ1:=eR b3 trivial;refine(@WL _ (JL X.K F.pp A λC=>fr0.W ρ1 C) X.K,d4,c9,λN C dd s hw=>?_,?_)
 .let(F',j,T,Ca,e,r,w):=hw;have(_,e2,sp):=fh r;have st:=RSt.sameT r;rw[e2]at st;exact(F,M1,ρ1,Ca,e,b3.sameP (sp.trans st),w)
 have m3:Mv X.K F.pp M1 A (U::M1) (upd A U (.lst [])):=.newOwn hD;refine(λi m N s=>∃j T d ys,m=I.length-i/\i<=I.length/\Mv X.K F.pp M1 A j s/\SameP X.K F.pp A s/\@RSt _ Frm.free X.K (F.pp,j,s) j s N (dg T)/\U∈j/\(∀a∈M1,a∈j)/\s U\(.lst ys)/\ei X.K F.pp j s d ys /\
  cZ g tc (te λ_ C=>fr0.W ρ1 C) (I.drop i) d (dg T) (P · ρ1),
  (I.length,U::M1,subD js ρ1,[],[],rfl,zyh _,m3,.new hD,by rw[pq];exact RSt.block rf js hD,zzd,λa ha=>zzc _ ha,ao,.nil,by rw[pq];exact h),?_)
 rintro i m N s ⟨j,T,d,ys,rfl,hil,mv,sm,d1,c0,b8,a8,ra,L⟩;by_cases b2:i<I.length
 .have e1:I[i]?\I[i]:=by simp[b2]
  rw[zyN b2]at L;refine .inr (ok.go j s mv i b2,λc5 u=>∃M2 b4 d ys,Mv X.K F.pp M1 A M2 u/\SameP X.K F.pp A u/\@RSt _ Frm.free X.K (F.pp,M2,u) M2 u c5 (dg b4)/\U∈M2/\(∀a∈M1,a∈M2)/\u U\(.lst ys)/\ei X.K F.pp M2 u d ys /\
   cZ g tc (te λ_ C=>fr0.W ρ1 C) (I.drop (i+1)) d (dg b4) (P · ρ1),
   λc5 u q=>by let(M2,b4,d,ys,a):=q;exact(I.length-(i+1),'o',M2,b4,d,ys,rfl,b2,a),λy u yl=>?_)
  let(sp,rx):=ok.yld j s mv i _ y u e1 yl;have c1 : @RSt _ Frm.free X.K (F.pp,j,u) j u N (dg T):=by have:=(RSt.sameP d1 sp).rebase;rw[uY]at this;exact this
  have c8:=mv.trans (sp.mv (M:=j));have c4:=sm.trans sp;have d0:=ra.mv (sp.mv (M:=j));have b9:u U\(.lst ys):=sp.keep U _ a8 (nw fr.2);refine rg c1 rx L λh3 m3 d2=>rt d2 h3 λ{b d5 M4 H4} h4 m4 c2=>?_;have keep:∀{E:av ay}{G:Hp}{c6:St}{b5:DS},Mv X.K F.pp j u E G -> @RSt _ Frm.free X.K (F.pp,j,u) E G c6 b5->Mv X.K F.pp M1 A E G/\SameP X.K F.pp A G/\@RSt _ Frm.free X.K (F.pp,E,G) E G c6 (dg b5)/\U∈E/\(∀a∈M1,a∈E)/\G U\(.lst ys)/\ei X.K F.pp E G d ys:=λmm rr =>
   (c8.trans mm,c4.trans (RSt.sameT rr),rr.rebase,@RSt.sub _ Frm.free _ _ _ _ _ _ rr _ c0,λa ha=>@RSt.sub _ Frm.free _ _ _ _ _ _ rr _ (b8 a ha),(@RSt.same _ Frm.free _ _ _ _ _ _ rr).keep U _ b9 (nw fr.2),d0.mv mm)
  cases b with
  |false =>
   refine iteF ?_;have(a1,a2,a3,a4,a5,a6,a7):=keep (m3.trans m4) c2;exact(M4,d5,d,ys,a1,a2,a3,a4,a5,a6,a7,h4.no rfl)
  |true =>
   refine iteT (re (eR c2 (rfl,rfl,c4)) (h4.yes rfl) λ{y b5 E G v} h5 m5 c3 r5=>?_);have d3:=eR (fr2:=Frm.free) c3 trivial;have(a1,a2,a3,a4,a5,a6,a7):=keep ((m3.trans m4).trans m5) d3;have mw:Mv X.K F.pp E G E (upd G U (.lst (ys++[v]))):=.write a6 a4 fr.2;refine(ys,a6,by rw[<-a7.length];exact h5.1,E,b5,d++[y],ys++[v],a1.trans mw,?_,a3.writeFree a4 fr.2 a6,a4,a5,ao,(a7.append (.one r5)).mv mw,h5.2);refine((λb o e n=>?_,λp e hp=>mw.pen p e (a2.pen p e hp),λb hb=>?_),λtb=>mw.tb (a2.tb tb))
   .rw[ar (by rintro rfl;rw[hD]at e;cases e)];exact a2.keep b o e n
   .by_cases z:b=U
    .subst z;rw[ao];intro z;cases z
    .rw[ar z];exact a2.live b hb
 .have e:i=I.length:='o'
  refine .inl (ok.stop j s mv i 'o',?_);have hd:I.drop i=[]:=by rw[zc8];omega
  rw[hd]at L;have sd:SameP X.K F.pp A (delH s U):=by
   refine((λb o e n=>?_,λp e hp=>?_,λb hb=>?_),λtb=>(sm.tb tb).del a8 qu)
   .rw[eE (by rintro rfl;rw[hD]at e;cases e)];exact sm.keep b o e n
   .let(a,ns,t,l,pn):=sm.pen p e hp;have np:p≠U:=by rintro rfl;exact fr.2 e
    refine(a,ns,t,l,by rw[eE np];exact pn.lst,?_,pn.t0);rcases pn.scr with ⟨o,q⟩|q
    .exact .inl (o,by rw[eE (nW q a8 (by intro z;cases z))];exact q)
    .exact .inr q
   .rw[eE (by rintro rfl;exact hb hD)];exact sm.live b hb
  have md:Mv X.K F.pp j s M1 (delH s U):=by
   refine(λa xs q=>by rw[eE (nW q a8 (by intro z;cases z))];exact q,λa o q n p=>(by rw[eE (by rintro rfl;exact n c0)];exact q,λz=>n (b8 a z)),λp e hp=>?_,λtb=>tb.del a8 qu);let(a,ns,t,l,pn):=hp;have np:p≠U:=by rintro rfl;exact fr.2 e
   refine(a,ns,t,l,by rw[eE np];exact pn.lst,?_,pn.t0);rcases pn.scr with ⟨o,q⟩|q
   .exact .inl (o,by rw[eE (nW q a8 (by intro z;cases z))];exact q)
   .exact .inr q
  have:=k L (m1.trans sd.mv) (b3.sameP sd) AO (ra.mv md);rw[Dx a8]at this;exact this
theorem PCE.pl{t:DA}(h:PCE X e t):PLD X e t:=let ⟨T,p,_,r⟩:=h;(T,p,r)
theorem DN{t:DA}{i:Nat}{py:Pos}(c:X.N.Nodup)(d:X.N[i]?\y)(a:X.env.scope.names.lookup y\.local)(h:PCE X e t)(L:zap e (some (.Name y py)) pos.line X.env=pure true:=by rfl):PSD X (.Assign [.Name y py] e pos) (dSet i (dFrz t)):=by have(T,_,p,r):=h;refine(_,p i y py pos c d a L,λj q o=>r j q λq m J a g=>o.nx (m.trans (.new a)) ((J.sameP (.new a)).set ?_ i) q);exact(_,_,rfl,(J.liv.fresh a).1,(J.liv.fresh a).2,ao,g.mv (.new a))
end
section
abbrev celD(p:av Key×av D):D:=.tup [keyD p.1,.tup p.2]
theorem tj{K:zvu}{pp:aT ay}{M:av ay}{H:Hp}:∀{kds:av (av Key×av D)}{vs:av V},ei K pp M H (kds.map celD) vs->∃a:av og,a.map (·.1)=kds.map (·.1)/\vs=a.map (λq=>V.ref q.2.2.2)/\(∀q∈a,(H q.2.2.2\(.tup [.ref q.2.1,.ref q.2.2.1])/\H q.2.1\(.tup (q.1.map kV)))/\∃p∈kds,p.1=q.1/\Rep K pp M H (celD p) (.ref q.2.2.2))
 |[],vs,h=>by simp only[zzW,ei]at h;exact([],rfl,h,λq J=>by simp at J)
 |p::kds,vs,h=>by
  simp only[zzq,ei]at h;walk;let(v,r,rfl,g,u):=h;let(a,o,rfl,s):=tj u;have h0:=g;let(b,ys,rfl,z,B):=g;let(x1,r1,rfl,U,x2,r2,rfl,m,rfl):=B;let(c,zs,rfl,i,C):=U;rw[lC C]at i;let(d,us,rfl,hd,ru):=m;x_go;refine((p.1,c,d,b)::a,by rw[zzq,zzq,o],rfl,λq J=>?_);rcases zze.mp J with rfl|J
  .exact((z,i),p,zzd,rfl,h0)
  .let(w,A,L,x):=s q J;exact(w,A,zzc _ L,x)
theorem tm{K:zvu}{pp:aT ay}{M:av ay}{H:Hp}{kds:av (av Key×av D)}:∀(ws:av og),(∀q∈ws,∃p∈kds,p.1=q.1/\Rep K pp M H (celD p) (.ref q.2.2.2))->∃a:av (av Key×av D),(∀p∈a,p∈kds)/\a.map (·.1)=ws.map (·.1)/\ei K pp M H (a.map celD) (ws.map λw=>V.ref w.2.2.2)
 |[],_=>([],λp J=>by simp at J,rfl,by simp only[zzW,ei])
 |w::ws,h=>by
  walk;let(j,c,d,g):=tm ws λq i=>h q (zzc _ i);let(p,J,e,r):=h w zzd;x_go;refine(p::j,λx b=>?_,by rw[zzq,zzq,e,d],?_)
  .rcases zze.mp b with rfl|b
   .exact J
   .exact c x b
  .simp only[zzq,ei];exact(_,_,rfl,r,g)
variable[Frm]
inductive gSortC(ds:List D)(P:D->Prop):Prop
 |mk (kds:List (List Key×List D)):ds=[.lst (kds.map celD)]->(∀p∈kds,qq p.1)->(kds.map (·.1)).Nodup->kds.length<64->(∀kds':List (List Key×List D),(∀p∈kds',p∈kds)->kds'.map (·.1)=srtK (kds.map (·.1))->P (.lst (kds'.map celD)))->gSortC ds P
theorem DP(w:Room n X.A):CallD X (.builtin "sorted") gSortC:=by
 have z:X.A.units+16<cLine:=by have:=w.units;lia
 refine(_,yh z,λ{pp M H ds vs Q P} g r h k=>?_)
 .let(kds,rfl,I,G,l64,h):=h;walk;let(x,t,rfl,T,rfl):=r;let(a,ys,rfl,_,_,u,Y):=T;let(i,d,rfl,L):=tj Y;x_go;have el:i.length=kds.length:=by have:=congrArg zai d;rwa [zza,zza]at this
  refine(a,i,rfl,u,λq J=>?_,by rw[d];exact G,'l',λl N c e y=>?_)
  .let((m,o),p,v,s,_):=L q J;exact(m,o,by rw[<-s];exact I p v)
  .let(b,B,C,E):=tm (kds:=kds) N λq J=>(L q (e q J)).2;refine k (h b B (by rw[C,y,d])) (.new c) ?_;exact(l,_,rfl,(g.fresh c).1,(g.fresh c).2,ao,E.mv (SameP.new c).mv)
end
end Tactic
namespace Tactic
open PySem PySem.Spec Lake
variable{e o:cy}{fs':av (Str×V)}{p p' p2 pos:Pos}{te to:DE}
theorem ndB{X:Cx}{a:Scope}{cl:av (Str×ay)}{N:av Str}{B:Blk}(h:N.Nodup):(cxB X a cl N B).N.Nodup:=h
open PyProof.Rows hiding St
variable[TB]
section
variable[Frm]
section
variable{X:Cx}
def g2S(C:Str->Str->Prop)(f:Str->Str->D):D->D->(D->Prop)->Prop
 |.str i,.str j,P=>C i j/\P (f i j)|_,_,_=>False
theorem xg:OpD X (zae .LtE) (g2S (λ_ _=>True) λi j=>.bl (!decide (j.cps.toList<i.cps.toList))):=by
 refine(_,Aq,λ{pp M H x y v u Q P} _ J L h k=>?_);cases x<;>first|exact h.elim|skip
 cases y<;>first|exact h.elim|skip
 exact(_,_,J,L,k h.2 .refl cF)
theorem ah:OpD X (zaA .Add) (g2S (λi j=>i.length+j.length<=zaa) λi j=>.str (i++j)):=by
 refine(_,xO,λ{pp M H x y v u Q P} _ J L h k=>?_);cases x<;>first|exact h.elim|skip
 cases y<;>first|exact h.elim|skip
 exact(_,_,J,L,h.1,k h.2 .refl gb)
def gIxS:D->D->(D->Prop)->Prop
 |.str z,.int i,P=>z.length<=zaa/\∃c,atI z.cps.toList i\c/\P (.str ⟨#[c]⟩)|_,_,_=>False
theorem Fo{a b:cy}(j:PED X a te)(U:PED X b to)(hs:jE b):PED X (.Subscript a b pos) (dOp gIxS te to):=by
 walk;let(Ta,l,n):=j;let(Tb,m,q):=U;x_go;refine(_,xT IA l m hs,jL (λ{pp M H x y v u Q P} _ r s h k=>?_) n q);cases x<;>first|exact h.elim|skip
 cases y<;>first|exact h.elim|skip
 have(d,c,g,i):=h;exact(_,_,c,r,s,d,g,k i .refl gb)
abbrev dSlS(te:DE)(tl th:DO):DE:=λc Q=>te c λx a=>tl a λlo J=>th J λb L=>∃z,x=.str z/\z.length<=zaa/\Q (.str (zcR z lo b)) L
theorem JN{lo hi:aT cy}{tl a:DO}(he:PED X e te)(g:POD X lo tl)(d:POD X hi a):PED X (.Subscript e (.Slice lo hi none p2) pos) (dSlS te tl a):=by walk;let(T,p,r):=he;let(Tl,pl,u):=g;let(Th,n,s):=d;x_go;refine(_,wm Ja p pl n,λv h k=>r v h λh j U q=>u U h λh l b=>s b h λh m c=>?_);have(z,rfl,i,h):=h;exact(z,q,i,k h ((j.trans l).trans m) c gb)
noncomputable def LO:DSp:=λa P=>match a with
 |[.str z]=>z.length<=zaa/\P (.int z.length)|_=>False
theorem vf:CallD X (.builtin "len") LO:=by
 refine(_,si,λ{pp M H a vs Q P} _ r h k=>?_);rcases a with _|⟨d,b⟩<;>try exact h.elim
 cases d<;>try exact h.elim
 all_goals cases b<;>try exact h.elim
 have(x,r,rfl,rfl,rfl):=r;exact(_,rfl,h.1,k h.2 .refl bK)
def JO:DSp:=λa P=>match a with
 |[.int i]=>i.natAbs.log2<1920/\P (.str (toString i))|_=>False
theorem vg:CallD X (.type "str") JO:=by
 refine(_,rS,λ{pp M H a vs Q P} _ r h k=>?_);rcases a with _|⟨d,b⟩<;>try exact h.elim
 cases d<;>try exact h.elim
 all_goals cases b<;>try exact h.elim
 let(x,r,rfl,rfl,rfl):=r;exact(_,rfl,h.1,k h.2 .refl gb)
def LP:DSp:=λa P=>match a with
 |[.str z]=>z.length<=640/\∃n,intText? z\n/\P (.int n)|_=>False
theorem qF:CallD X (.type "int") LP:=by
 refine(_,sO,λ{pp M H a vs Q P} _ r h k=>?_);rcases a with _|⟨d,i⟩<;>try exact h.elim
 cases d<;>try exact h.elim
 all_goals cases i<;>try exact h.elim
 walk;let(x,r,rfl,rfl,rfl):=r;let(b,n,c,g):=h;x_go;exact(_,n,rfl,c,b,k g .refl bK)
omit [Frm] in
theorem mG{K:zvu}{pp:aT ay}{M:av ay}{H:Hp}:∀{ns:av Str}{xs:av V},ei K pp M H (ns.map D.str) xs->xs=ns.map V.str
 |[],xs,h=>by simpa only[zzW,ei]using h
 |n::ns,xs,h=>by let(x,r,rfl,rfl,a):=h;rw[mG a,zzq]
abbrev LR(to te:DE):DE:=λc Q=>to c λx b=>∃z,x=.str z/\te b λy J=>∃a:av Str,(y=.lst (a.map .str)/\JoinOk z a=true)/\Q (.str (zaf z a)) J
theorem gg(ho:PED X o to)(he:PED X e te)(L:zag o "join" X.env (eval o X.env)=eval o X.env:=by rfl)(i:HF X p2 [e]:=by rfl)(U:(pos.endLine==p2.line)=true:=by rfl)(d:SE X e []:=by rfl)(hpl:BA X p2 []:=by rfl) :
  PED X (.Call (.Attribute o "join" pos) [e] [] p2) (LR to te):=by
 walk;let(To,po,v):=ho;let(Te,q,u):=he;x_go;refine(_,ss zwK PySem.F.slot_str_join PySem.F.type_str_join GJ po (bj q ci d) L i U d hpl,λw h k=>v w h λh m j r=>?_);walk;let(z,rfl,h):=h;subst r;x_go;refine(rfl,u j h λh n l s=>?_);walk;let(y,(rfl,c),h):=h;let(a,xs,rfl,_,_,g,x):=s;x_go;rw[mG x]at g;exact(z,a,y,rfl,rfl,SqL.of g,c,k h (m.trans n) l gb)
abbrev Fp(to te:DE):DA:=λb Q=>to b λx a=>∃z,x=.str z/\te a λy J=>∃w,(y=.str w/\(w.length==0)=false/\z.length+2<=zaa)/\Q ((zab z w).map .str) J
omit [Frm] in
theorem tq{K:zvu}{pp:aT ay}{M:av ay}{H:Hp}:∀{ns:av Str},ei K pp M H (ns.map D.str) (ns.map V.str)
 |[]=>by simp only[zzW,ei]
 |n::ns=>by exact(_,_,rfl,gb,tq)
theorem gF(ho:PED X o to)(he:PED X e te)(L:zag o "split" X.env (eval o X.env)=eval o X.env:=by rfl)(c:HF X p2 [e]:=by rfl)(U:(pos.endLine==p2.line)=true:=by rfl)(b:SE X e []:=by rfl)(hpl:BA X p2 []:=by rfl) :
  PLD X (.Call (.Attribute o "split" pos) [e] [] p2) (Fp to te):=by
 walk;let(To,po,x):=ho;let(Te,r,v):=he;x_go;refine(_,ss zwK PySem.F.slot_str_split PySem.F.type_str_split Dr po (bj r ci b) L c U b hpl,λy h k=>x y h λh n d s=>?_);walk;let(z,rfl,h):=h;subst s;x_go;refine(rfl,v d h λh q g u=>?_);walk;let(w,(rfl,j,m),h):=h;subst u;x_go;exact(z,w,rfl,rfl,j,m,λl i=>k h (n.trans q) g i tq)
noncomputable def qG(z:Str):av D:=z.cps.toList.map λc=>.str ⟨#[c]⟩
abbrev LS(te:DE):DA:=λb Q=>te b λd a=>∃z,d=.str z/\Q (qG z) a
theorem Fq{l:cy}(n:PED X l te):PID X e l (LS te):=by
 have(T,p,r):=n;refine(_,Jb p,λ{F M H σ ρ Q P} u h k=>r u h λ{d ρ' M' H' v} h m U s=>?_);have(z,rfl,h):=h;refine(z,s,k h m U (ItOkV.of (vs:=z.cps.toList.map λc=>V.str ⟨#[c]⟩) (λM2 b g i x H3 e1 y=>?_,λM2 b g i a=>?_,λM2 b g i a=>?_) ?_))
 .let(rfl,c,j,rfl):=y;exact(rfl,by rw[zzz,zxe,j];rfl)
 .show i<z.cps.size;simpa using a
 .show z.cps.size<=i;simpa using a
 .unfold qG
  induction z.cps.toList with
  |nil=>simp only[zzW,ei]|cons c cs q =>
   exact(_,_,rfl,gb,q)
abbrev DQ(te:DE):DE:=λc Q=>te c λd b=>∃a:av Str,d=.lst (a.map .str)/\a.length<=1000/\Q (.int (metS a).length) b
theorem yn(s:X.calm=true)(U:Gl X "len")(j:X.mg "len" = none)(i:Gl X "set")(m:X.mg "set" = none)(he:PED X e te)(b:SE X e []:=by rfl)(c:zaj [.Call (.Name "set" p') [e] [] p2] X.env=(false,eval (.Call (.Name "set" p') [e] [] p2) X.env)::zaj [] X.env:=by rfl)(v:BA X pos []:=by rfl)(n:BA X p2 []:=by rfl) :
  PED X (.Call (.Name "len" p) [.Call (.Name "set" p') [e] [] p2] [] pos) (DQ te):=by
 have(T,x,z):=he;refine(_,eZ (he:=c) (hpl:=v) At U j zxD (bj (iI (he:=b) (hpl:=n) (Ar s) i m rfl (bj x ci b)) ci c),λB h k=>z B h λh w q y=>?_);walk;let(C,rfl,u,r):=h;let(a,xs,rfl,_,_,d,A):=y;x_go;rw[mG A]at d;exact(a,C,rfl,SqL.of d,u,λl g=>(l,_,rfl,ao,k r (w.trans (.new g)) (q.sameP (.new g)) bK))
inductive gGtP(x:D)(y:D)(P:(D->Prop)):Prop
 |mk ns i ms j:x=.tup [.tup (ns.map .int),.int i]/\y=.tup [.tup (ms.map .int),.int j]->P (.bl (gtP ns i ms j))->gGtP x y P
theorem JP{k:Nat}(n:Room k X.A):OpD X (zae .Gt) gGtP:=by refine(_,Jc (by have:=n.units;lia),λ_ u v h k=>?_);walk;let(s,i,r,j,(rfl,rfl),h):=h;let(a,xs,rfl,l,x1,r1,rfl,(p,ys,rfl,U,J),x2,r2,rfl,rfl,rfl):=u;let(b,us,rfl,m,y1,s1,rfl,(q,zs,rfl,c,L),y2,s2,rfl,rfl,rfl):=v;x_go;rw[eU J]at U;rw[eU L]at c;exact(a,b,p,q,s,r,i,j,rfl,rfl,SqT.of l,SqT.of m,SqT.of U,SqT.of c,k h .refl cF)
end
end
theorem tt{m:Str}:∀{fs:av (Str×V)},m∉fs.map (·.1)->fs.lookup m=none
 |[],_=>rfl|p::fs,h=>by
  rw[zyf];have:(m==p.1)=false:=by have:m≠p.1:=λz=>h (by rw[z];simp);simpa using this
  rw[this];exact tt λz=>h (zzc _ z)
section
variable[Frm]
omit [Frm] in
theorem Hg{K:zvu}{H:Hp}{p x C dx:ay}{fs:av (Str×V)}(b:H x\(.ins C dx fs)):(∃a ns t k,Pen K H p a ns t k)->∃a ns t k,Pen K (upd H x (.ins C dx fs')) p a ns t k:=by
 rintro⟨a,ns,t,k,h⟩;refine(a,ns,t,k,?_,?_,h.t0)
 .rw[ar (by rintro rfl;have:=h.lst;rw[b]at this;cases this)];exact h.lst
 .rcases h.scr with ⟨o,e⟩|e
  .refine .inl (o,?_);rw[ar (by rintro rfl;rw[b]at e;cases e)];exact e
  .exact .inr e
omit [Frm] in
theorem Hh{C dx:ay}{fs:av (Str×V)}:¬TF (.ins C dx fs):=by rintro(⟨_,e⟩|⟨_,_,e⟩)<;>cases e
omit [Frm] in
theorem Mv.ins{K:zvu}{pp:aT ay}{M:av ay}{H:Hp}{x C dx:ay}{fs fs':av (Str×V)}(b:H x\(.ins C dx fs))(c:x∈M):Mv K pp M H M (upd H x (.ins C dx fs')) :=
 (λa d e=>by rw[ar (by rintro rfl;rw[b]at e;cases e)];exact e,λa d e n _=>(by rw[ar (by rintro rfl;exact n c)];exact e,n),λ_ _ h=>Hg b h,λt=>t.upd b Hh)
end
end Tactic
namespace Tactic
open PySem PySem.Spec Lake
open PyProof.Rows hiding St
open PyProof.Rows.KTD
variable[TB]
variable{a e:cy}{h:cx}{p pos:Pos}{ta te:DE}
def TabK(K:zvu)(a:ay)(D:av (Str×Dat)):Prop:=tabLook (datLooks λb=>zaK b K) (λb=>zaK b K) a D=true
inductive BT(base:Heap)(t:Addr)(ds:List zdE):Prop
 |mk vs:IsTup base t (zbq vs)->Flats vs ds->ds.length <= 1000->BT base t ds
theorem TabK.here{K:zvu}{a:ay}{D:av (Str×Dat)}(k:TabK K a D)(hi:K.In h):TextTab h a D:=text_of_look (λb o e=>hi b o e) k
noncomputable def ofPy:zdE->aT D
 |.int i=>some (.int i)|.none=>some .non|_=>none
noncomputable def DR:zdE->V
 |.int i=>.int i|_=>.non
theorem Fr{v:ax}{d:zdE}{x:D}(f:zeR v d)(e:ofPy d\x):RelV (DR d) v/\∀(K:zvu)(pp:aT ay)(M:av ay)(H:Hp),Rep K pp M H x (DR d):=by
 cases d<;>simp only[ofPy,zd4,reduceCtorEq]at e
 .subst e;have:=f default;cases this;exact(rfl,λ_ _ _ _=>rfl)
 .subst e;have:=f default;cases this;exact((_,rfl),λ_ _ _ _=>rfl)
theorem qH:∀{vs:av ax}{ds:av zdE}{i:Nat}{d:zdE},Flats vs ds->ds[i]?\d->∃v,vs[i]?\v/\zeR v d
 |_,_,_,_,.nil,h=>by simp at h
 |v::vs,d::ds,0,_,.cons f _,h=>by simp at h;subst h;exact(v,rfl,f)
 |v::vs,d::ds,i+1,_,.cons _ r,h=>by let(u,e,q):=qH r h;exact(u,e,q)
theorem Bc:∀{vs:av ax}{ds:av zdE},Flats vs ds->vs.length=ds.length:=by
 intro vs ds h
 induction h with
 |nil=>rfl|cons _ r J=>simp[J]
theorem xh{h₀:cx}{k:Str}{P:ax->Prop}{d:Dat}:∀{D:av (Str×Dat)},datumAt k D\d->Opened h₀ P d->EachL h₀ k P D
 |[],_,_=>trivial|[(x,e)],h,o=>λz=>by simp only[datumAt]at h;rw[zzu (zzj z)]at h;cases h;exact o
 |(x,e)::p::D,h,o=>by
  by_cases z:k=x
  .simp only[datumAt]at h;rw[zzu (zzj z)]at h;cases h;exact eachL_hit z o
  .simp only[datumAt]at h;rw[zzn (by simpa using z)]at h;exact eachL_miss z (xh h o)
section
variable[Frm]{X:Cx}
def Hi(K:zvu):D->D->(D->Prop)->Prop
 |.str k,.cls a,P=>∃D,TabK K a D/\P (.bl (!inKeys k D))|_,_,_=>False
theorem vh{K:zvu}(c:K=X.K):OpD X (zae .NotIn) (Hi K):=by
 subst c;refine(λx y H Q=>∃k a D,x=.str k/\y=.ref a/\TabK X.K a D/\Q (.bl (!inKeys k D)) H,λpins s σ H x y v u Q I J L h=>?_,λ{pp M H x y v u Q P} _ J L h k=>?_)
 .let(k,a,D,rfl,rfl,U,q):=h;let(t,rfl):=J;cases L;exact notin_text (h₀:=X.base) (U.here I.mod.kin,I.bk) (.bl _,H,I.tok _,rfl,q)
 .cases x<;>first|exact h.elim|skip
  cases y<;>first|exact h.elim|skip
  let(D,a,b):=h;exact(_,_,D,J,L,a,k b .refl cF)
abbrev JQ(K:zvu)(base:cx)(a:ay)(te:DE):DE:=λd Q=>te d λx c=>∃k D b,x=.str k/\TabK K a D/\inKeys k D=true/\datumAt k D\(.tup b)/\b.length<=1000/\∀t,BT base t b->Q (.cls t) c
theorem DU{K:zvu}{base:cx}{a:ay}{x:Str}(z:K=X.K)(v:base=X.base)(C:Gl X x)(G:X.mg x\(.ref a))(he:PED X e te)(hs:jE e)(hd:NoDb x:=by decide) :
  PED X (.Subscript (.Name x p) e pos) (JQ K base a te):=by
 walk;subst z v;let(T,Y,re):=he;x_go;refine(λg H Q=>T g H λy i=>∃k D c,y=.str k/\TabK X.K a D/\inKeys k D=true/\datumAt k D\(.tup c)/\c.length<=1000/\∀t,BT X.base t c->Q (.ref t) i,λd s g H Q I h=>?_,λrs q M=>re rs q λq N r r1=>?_)
 .refine zd5 (eA I C G ?_ hd);refine thn (Y d s g H _ I h) λu s2 q0=>?_;walk;let(y,j,U,ry,q):=q0;let(k,D,c,rfl,w,o,n,E,q):=q;let(t,rfl):=ry;x_go;refine item_text (h₀:=X.base) (w.here U.mod.kin,U.bk) o (xh n λb vs A B=>?_) (hs _ _);exact(.ref b,j,U.tok _,rfl,q b (vs,A,B,E))
 .let(k,D,c,rfl,a2,a3,l,m,q):=q;exact(k,D,c,r1,a2,a3,l,m,λt h=>M (q t h) N r (by simp only[Rep]))
def gIxB(base:cx):D->D->(D->Prop)->Prop
 |.cls t,.int i,P=>∃b d x,BT base t b/\atI b i\d/\ofPy d\x/\P x|_,_,_=>False
theorem Hj:IxR X (λx y H Q=>∃t i ds d e,x=.ref t/\y=.int i/\BT X.base t ds/\atI ds i\d/\ofPy d\e/\Q (DR d) H):=by
 intro value slice b s k H x y v u Q I C E h B;have(t,i,ds,d,e,rfl,rfl,(M,pl,g,hl),A,ho,q):=h;cases C;walk;let(tk,rfl):=E;let(j,n,z,h3,h4,h5):=lL A;let(w,l,m):=qH g z;x_go;have J:=Bc g;have U:IsTup s.heap t (zbq M):=by let(o,ho,r):=pl;exact(o,I.bk _ _ ho,r)
 have fin:EP X b k Q w s:=(DR d,H,I,(Fr m ho).1,q);exact zwH (x:=w) U.typeIs slot_tuple_getitem.lookup
  (getItem_tuple (j:=j) (Q:=λr G=>r=w/\EP X b k Q r G) U 'l' 'l' (by rw[zzF,J];exact n) (by simpa using l) (rfl,fin)) B
theorem Be{base:cx}{b:cy}(o:base=X.base)(q:PED X a ta)(r:PED X b te)(hs:jE b):PED X (.Subscript a b pos) (dOp (gIxB base) ta te):=by
 walk;subst o;let(Ta,z,B):=q;let(Tb,A,C):=r;x_go;refine(_,xT Hj z A hs,jL (λ{pp M H x y v u Q P} _ E G h k=>?_) B C);cases x<;>first|exact h.elim|skip
 cases y<;>first|exact h.elim|skip
 walk;let(l,d,e,c,g,i,n):=h;have U:=c;let(vs,_,s,_):=U;let(j,g1,g2,g3,g4,g5):=lL g;let(w,ew,m):=qH s g2;x_go;exact(_,_,l,d,e,E,G,c,g,i,k n .refl ((Fr m i).2 _ _ _ _))
end
end Tactic
namespace Tactic
open PySem PySem.Spec Lake
open PyProof.Rows hiding St
variable[TB]
variable{B:av ay}{N' ps:av Str}{a b:ay}{e elt tg:cy}{fd:bo}{g:DSpE}{i k n:Nat}{ifs:av cy}{mg:Str->aT ax}{p pos py q:Pos}{ta te:DE}{tc:DT}{y z:Str}
variable{X:Cx}{p pos cpos apos:Pos}{e o:cy}{te:DE}{xi:XI}{W:DS->ay->Prop}{k n i:Nat}{fd:bo}{ps:av Str}{K:zvu}{a:ay}{F:Fx}
section
variable[Frm]
section
variable{x:Str}{es:av cy}{t:DA}{g:DSp}
theorem dv(i:Nat)(L:X.N[i]?\x:=by rfl)(U:Vis X.env.scope x:=by room)(hd:NoDb x:=by decide)(J:(x==("__classdict__" : Str))=false:=by decide):PED X (.Name x pos) (dVar i):=Je i (pv i L U hd J)
theorem dcl{k0:Nat}{st:Stmt}{D:Dd X.K X.mg x st ps}(U:D.Ok X.prog X.w X.base CX0 k (spD X.K n g))(l:Room k0 X.A)(c:PAD X (e::es) t)(j:k<=k0:=by decide)(h:Gl X x:=by rfl)(L:NoDb x:=by decide)(he:SE X e es:=by rfl)(hpl:BA X pos es:=by rfl) :
  PED X (.Call (.Name x p) (e::es) [] pos) (Lp n g t):=by
 let(T,u,C):=c;refine(_,zE U (l.mono j) h D.d.m D.d.F.kp D.d.b .nil Gi u L he hpl,λE q k=>C E q λq m J v=>?_);rw[zzB];exact(_,_,_,_,J.liv,v,q.1,q.2,λq s r=>k q (m.trans s.mv) (J.sameP s) r)
theorem dse(i:Nat)(h:PED X e te)(J:X.N.Nodup:=by assumption)(hi:X.N[i]?\x:=by rfl)(c:Loc X.env.scope x:=by room)(hs:zap e (some (.Name x py)) pos.line X.env=pure false:=by rfl)(L:X.fn x=true∨X.env.scope.names.lookup x\.local:=by room) :
  PSD X (.Assign [.Name x py] e pos) (dSet i te):=Jh J hi c h hs L
theorem dow(i:Nat)(h:PLD X e t)(J:X.N.Nodup:=by assumption)(hi:X.N[i]?\x:=by rfl)(c:Loc X.env.scope x:=by room)(hs:zap e (some (.Name x py)) pos.line X.env=pure false:=by rfl)(L:X.fn x=true∨X.env.scope.names.lookup x\.local:=by room) :
  PSD X (.Assign [.Name x py] e pos) (dOwn i t):=Ji J hi c h hs L
theorem dgn(i:Nat)(J:X.N.Nodup:=by assumption)(hi:X.N[i]?\x:=by rfl)(c:Loc X.env.scope x:=by room)(L:X.fn x=true∨X.env.scope.names.lookup x\.local:=by room):PGD X (.Name x pos) (bO i):=AC J hi c L
theorem dgb{c:Scope}{cl:av (Str×ay)}{B:Blk}(i:Nat)(J:N'.Nodup:=by decide +kernel)(hi:N'[i]?\x:=by rfl)(d:Loc (cxB X c cl N' B).env.scope x:=by room)(L:(cxB X c cl N' B).fn x=true∨(cxB X c cl N' B).env.scope.names.lookup x\.local:=by room):PGD (cxB X c cl N' B) (.Name x pos) (bO i):=AC (X:=cxB X c cl N' B) J hi d L
theorem dix{a b:cy}(c:PED X a ta)(J:PED X b te)(hs:jE b:=by exact λ_ _=>rfl):PED X (.Subscript a b pos) (dOp gIx ta te):=Ly c J hs
theorem fnd{P:cH}{w:World}{K:zvu}{base:cx}{st:Stmt}{D:Dd K mg x st ps}{t:DTS}(N:av Str)(J:∀{c:ax}{A:zas}{outer:av Env}{s:aM}{H:Hp}{E:XK},Room k (A.deeper (zbh x (aj st) s⁻¹ D.f c))->N.Nodup -> @PSsD _ Frm.free (cxOf CX0 P w K mg base N x (aj st) D.f c A outer s H E).nox (cj st) t)(L:∀ds Q,ds.length=ps.length->g ds Q->t {nx:=λ_=>Q .non,rt:=λd _=>Q d} (fK N.length ds))(S:er N ps (aj st):=by exact cR):D.Ok P w base CX0 (k+1) (spD K ps.length g):=fnD D.d.F S J L
theorem a1(i:Nat)(h:PED X (.Name x p) (dVar i):=by exact dv _):PAD X [.Name x p] (eP (dVar i) qw):=ae h fJ
theorem a2(i j:Nat)(h:PED X (.Name x p) (dVar i):=by exact dv _)(c:PAD X [.Name y q] (eP (dVar j) qw):=by exact a1 _):PAD X [.Name x p,.Name y q] (eP (dVar i) (eP (dVar j) qw)):=ae h c
theorem a3(i j k:Nat){r:Pos}(h:PED X (.Name x p) (dVar i):=by exact dv _)(c:PAD X [.Name y q,.Name z r] (eP (dVar j) (eP (dVar k) qw)):=by exact a2 _ _):PAD X [.Name x p,.Name y q,.Name z r] (eP (dVar i) (eP (dVar j) (eP (dVar k) qw))):=ae h c
theorem da1(h:PED X e te)(hs:SE X e []:=by rfl):PAD X [e] (eP te qw):=ae h fJ hs
theorem dx(i:Nat){n j q}(h:PED X (.Name x p) (dVar i):=by exact dv _):PED X (.Subscript (.Name x p) (.Constant (.int n) j q) pos) (dOp gIx (dVar i) (dC (.int n))):=dix h ai
theorem dr(h:PED X e te):PSsD X [.Return (some e) pos] (dRet te):=az (Jg h)
theorem dif{c:cy}{a:av Stmt}{u:DTS}(J:PTD X c tc)(d:PSsD X a u):PSD X (.If c a [] pos) (dIfS tc u GM):=Lr J d GN
theorem dir{c:cy}(J:PTD X c tc)(h:PED X e te):PSD X (.If c [.Return (some e) p] [] pos) (dIfS tc (dRet te) GM):=dif J (dr h)
theorem dnv{st:Stmt}:PSsD X [st] AB:=az bx
theorem dln{g:DSp}(J:CallD X (.builtin "len") g)(c:X.mg "len" = none)(h:PED X e te)(he:SE X e []:=by rfl)(L:Gl X "len":=by rfl):PED X (.Call (.Name "len" p) [e] [] pos) (dCB g (eP te qw)):=aR J c zxD (ae h fJ he) L (he:=he)
theorem dgt{g:DGs}(n:Nat)(h:PGsD X ifs g)(L:X.calm=true:=by rfl)(c:(zax ifs X.env).length=n:=by rfl)(J:(zax ifs X.env).findIdx? (·.1)=none:=by rfl):PGD X (.Tuple ifs k pos) (qx n g):=Jj L h c J
theorem dg2(i j:Nat)(c:PGD X (.Name x p) (bO i):=by first|exact dgn _|exact dgb _)(d:PGD X (.Name y q) (bO j):=by first|exact dgn _|exact dgb _)(J:X.calm=true:=by rfl):PGD X (.Tuple [.Name x p,.Name y q] k pos) (qx 2 (dQ (bO i) (dQ (bO j) sR))):=dgt 2 (wN c (wN d GO)) J
end
end
section
variable[Frm]{x:Str}{np:Pos}{es:av cy}{t:DA}{C f:ay}
abbrev Hk(xi:XI)(C:ay)(a1:Str)(W:DS->ay->Prop)(t:DA):DTS:=λ_ l=>t l λj d=>∃h v1 c,j=[h]/\vD h v1/\xi c=(C,[(a1,v1)])/\W d c
theorem mH{a1:Str}(c:ExcI X.K C f)(F:FnOk X.prog X.w X.K X.mg X.base CX0 k f fd ps (spInit1 C a1))(Q:Room (k+1) X.A)(v:Binds X.K fd ps [])(G:X.calm=true)(I:Gl X x)(N:X.mg x\(.ref C))(Y:XkA xi X)(s:W=Frm.W)(u:PAD X (e::es) t)
  (he:SE X e es:=by rfl) (J:BA X cpos es:=by rfl)
  (hd:NoDb x:=by decide):PSD X (.Raise (some (.Call (.Name x np) (e::es) [] cpos)) none pos) (Hk xi C a1 W t):=by
 walk;subst s;let(T,a,i):=u;x_go;refine(_,Ax c F Q v G I N Y a he J hd,λ{F M H σ ρ E D} n q o=>i n q λ{ds j M1 H1 vs} q m1 U g=>?_);walk;let(d1,v1,m,rfl,r,l,w):=q;let(p,_,rfl,b,rfl):=g;x_go;refine(p,rfl,λdx L=>(F,M1,j,m,dx,(by rw[l],rfl),((U.liv.fresh L).1,(U.liv.fresh L).2,?_),U.sameP (.new L),w));rw[ao,l,JJ r b]
abbrev JR(C:ay)(g:DSpE)(W:DS->ay->Prop)(te:DE):DE:=λj _=>te j λd h=>g [.ins C [] [],d] (λ_=>False) λc=>W h c
theorem DV(M:Mk X.K C f)(m:FnOk X.prog X.w X.K X.mg X.base (CXE X.prog X.w) k f fd ps (spDA xi X.K 2 g))(c:XkA xi X)(Y:W=Frm.W)(n:Room (k+1) X.A)(b:Gl X x)(i:X.mg x\(.ref C))(a:Binds X.K fd ps [])(he:PED X e te)(u:NoDb x:=by decide)(J:SE X e []:=by rfl)(hpl:BA X pos []:=by rfl) :
  PED X (.Call (.Name x p) [e] [] pos) (JR C g W te):=by
 subst Y;let(T,o,B):=he;refine(_,Dt (W:=WLA xi X.K) M m n b i a c (bj o ci J) u J hpl,λ{F M H σ ρ Q P} rs q k=>B rs q λ{d j M1 h v} q m1 L y=>?_);intro x dx c E ne;have l:=L.liv.fresh c;have r:(upd h dx (.own x)) x=none:=by rw[ar (Ne.symm ne)];exact c
 have s0:SameP X.K F.pp h (upd (upd h dx (.own x)) x (.ins C dx [])):=(SameP.new E).trans (.new r);have U:=L.sameP s0;refine(F.pp,M1,[.ins C [] [],d],_,_,U.liv,.cons ?_ (.cons (y.mv s0.mv) .nil),rfl,q,λz=>z.elim,λw s G I N=>(F,M1,j,_,_,(rfl,rfl),(G,I,N),U.sameP s,w));exact(x,dx,[],rfl,l.1,l.2,ao,rfl,rfl)
end
section
variable[Frm]
def LU:D->D->(D->Prop)->Prop
 |.str i,.int n,P=>MulOk i n/\P (.str (zdN i n))|_,_,_=>False
theorem qI:OpD X (zaA .Mult) LU:=by
 refine(_,yj,λ{pp M H x y v u Q P} _ J L h k=>?_);cases x<;>first|exact h.elim|skip
 cases y<;>first|exact h.elim|skip
 exact(_,_,J,L,h.1,k h.2 .refl gb)
omit [Frm] in
theorem xj{K:zvu}{pp:aT ay}{M:av ay}{H:Hp}:∀ns:av Int,ei K pp M H (ns.map D.int) (ns.map V.int)
 |[]=>by simp only[zzW,ei]
 |n::r=>by simp only[zzq,ei,Rep];exact(_,_,rfl,rfl,xj r)
def scL(n:Nat):D->Prop
 |.int _=>True|.bl _=>True|.non=>True|.str _=>True|.lst c=>c.length≠n/\∃d:av Int,c=d.map .int|_=>False
inductive dPeekL(k:Nat)(t:DE)(ρ:DS)(Q:D->DS->Prop):Prop
 |mk ds:slot ρ k=.own ds->cV k ρ=true->(t (ρ.set k (.val (.lst ds))) λd ρ'=>(scL ds.length d/\ρ'=ρ.set k (.val (.lst ds)))/\Q d ρ)->dPeekL k t ρ Q
theorem xk{t:DE}(k:Nat)(h:PED X e t):PED X e (dPeekL k t):=by
 have(T,p,r):=h;refine(T,p,λ{F M H σ ρ Q P} A q y=>?_);walk;let(N,e,o,q):=q;have g:=aQ e;let(M0,v,ho,B,E,rl):=A.freeze g;x_go;refine r E q λ{d ρ' M' H' u} q m l c=>?_;walk;let((C,rfl),q):=q;let(M2,(m2,G),n):=A.thaw g o ho B rl m l;x_go;refine y q m2 G ?_;cases d<;>first|exact C.elim|(simp only[Rep]at c⊢;exact c)|skip
 walk;let(ne,ns,rfl):=C;let(ov,U,v1,Y,r1):=l.at (i:=k) (s:=.val (.lst N)) (zyL (zzC.mp g).1);x_go;rw[ho]at U;cases U;cases Y;have(a,xs,rfl,a1,a2,a3,j):=c;refine(a,xs,rfl,λz=>?_,a2,a3,by rw[eU j];exact xj ns);rcases n a z with z|z
 .let(b,ys,x,b1,b2,w,I):=r1;rw[z]at x;cases x;rw[a3]at w;cases w;exact ne (j.length.trans I.length.symm)
 .exact a1 z
end
section
variable{P:cH}{w:World}{mg:Str->aT ax}{base:cx}{f:ay}
theorem FnOk.noX(F:FnOk P w K mg base (CXE P w) k f fd ps (spDA xi K n g)):FnOk P w K mg base CX0 k f fd ps (spD K n λds Q=>g ds Q λ_=>False) :=
 F.down λvs H Q E q=>by let(pp,M,ds,P,J,r,e,h,k):=q;exact(pp,M,ds,P,_,J,r,e,h,k,λz=>z.elim)
end
theorem xm[fr:Frm]{t:DA}(s:X.N.Nodup)(u:X.N[i]?\y)(c:X.env.scope.names.lookup y\.local)(h:PCD X e t)(L:zap e (some (.Name y py)) pos.line X.env=pure true:=by rfl):PSD X (.Assign [.Name y py] e pos) (dSet i (dFrz t)):=by have(T,_,p,r):=h;refine(_,p i y py pos s u c L,λ{F M H σ ρ E D} j q o=>r (eR j trivial) q λq d J c v=>?_);have J:=eR J (j.lk.cl d).l;refine o.nx (d.trans (.new c)) ((J.sameP (.new c)).set ?_ i) q;exact(_,_,rfl,(J.liv.fresh c).1,(J.liv.fresh c).2,ao,v.mv (.new c))
theorem xo[Frm]{c:Scope}{cl:av (Str×ay)}{u:av (aT Nat)}{t:DA}(l:X.N.Nodup)(s:X.N[i]?\y)(r:X.env.scope.names.lookup y\.local)(m:X.calm=true)(U:dz X.env.cells c.names []\cl)(d:∀y∈c.names,y.2=.free->(y.1,zan)∉c.names)(L:c.kind=.function)(cap:Cap X c N' u)(J:∀y∈c.names,y.2=.local->c.names.lookup y.1\.local)(hi:PID X tg e t)(j:zap (.ListComp elt [(tg,e,ifs,0)] c pos) (some (.Name y py)) p.line X.env=pure true:=by rfl)(hs:∀v,zaw e X.env v=pure v:=by intro _;rfl):PSD X (.Assign [.Name y py] (.ListComp elt [(tg,e,ifs,0)] c pos) p) (λ_ ρ=>t ρ λ_ _=>False):=by let(wi,pi,w):=hi;exact(_,wD vb l s r m U d L cap J pi (λB=>(wZ,sZ)) j hs,λx h _=>w x h λh=>h.elim)
section
variable{pp:aT ay}{M A A':av ay}{H H':Hp}{S S':O}{v:V}
mutual
theorem RO.nu:∀(q:O)(v:V)(A:av ay),RO K pp M H q v A->∀a∈A,∀xs,H a≠some (.tup xs)
 |.val d,v,A,h,a,c=>by simp only[RO]at h;rw[h.1]at c;simp at c
 |.lst os,v,A,h,a,c=>by
  simp only[RO]at h;let(b,xs,B,e,J,rfl,r):=h;rcases zze.mp c with rfl|c
  .rw[J];intro _ z;cases z
  .exact ROs.nu os xs B r a c
 |.dct m os,v,A,h,a,c=>by
  simp only[RO]at h;let(b,j,B,e,J,l,rfl,r):=h;rcases zze.mp c with rfl|c
  .rw[J];intro _ z;cases z
  .exact ROs.nu os _ B r a c
 |.tup os,v,A,h,a,c=>by simp only[RO]at h;let(b,xs,e,J,r):=h;exact ROs.nu os xs A r a c
 |.dck m os,v,A,h,a,c=>by
  simp only[RO]at h;let(b,j,B,e,J,l,rfl,r):=h;rcases zze.mp c with rfl|c
  .rw[J];intro _ z;cases z
  .exact ROs.nu os _ B r a c
 |.ins b C m os,v,A,h,a,c=>by
  simp only[RO]at h;let(dx,j,B,e,J,l,rfl,r):=h;rcases zze.mp c with rfl|c
  .rw[J];intro _ z;cases z
  .exact ROs.nu os _ B r a c
theorem ROs.nu:∀(os:av O)(xs:av V)(A:av ay),ROs K pp M H os xs A->∀a∈A,∀xs,H a≠some (.tup xs)
 |[],xs,A,h,a,c=>by simp only[ROs]at h;rw[h.2]at c;simp at c
 |o::os,xs,A,h,a,c=>by
  simp only[ROs]at h;let(x,r,B,C,e,rfl,d,j):=h;rcases zzg.mp c with c|c
  .exact RO.nu o x B d a c
  .exact ROs.nu os r C j a c
end
noncomputable def idO:O->aT ay
 |.ins a _ _ _=>some a|_=>none
theorem JS(h:idO S\a)(r:RO K pp M H S v A):v=.ref a:=by
 cases S<;>cases h
 have(_,_,_,e,_):=r;exact e
noncomputable def lft(A M:av ay):av ay:=M.filter λb=>decide (b∉A)
theorem mem_lft:b∈lft A M↔b∈M/\b∉A:=by unfold lft;simp
noncomputable def cutH(A:av ay)(H:Hp):Hp:=λb=>if b∈A then none else H b
theorem DW{o:HO}(h:cutH A H b\o):b∉A/\H b\o:=by
 unfold cutH at h;by_cases z:b∈A
 .rw[zzu z]at h;cases h
 .rw[zzn z]at h;exact(z,h)
theorem qJ(h:b∉A):cutH A H b=H b:=zzn h
theorem JT(h:b∈A):cutH A H b=none:=zzu h
structure Lent(K:zvu)(pp:Option Addr)(M:List Addr)(H:Hp)(S:O)(v:V)(A:List Addr):Prop where
 nd:A.Nodup
 sub:∀a∈A,a∈M/\pp≠some a
 ro:RO K pp M H S v A
structure Back(K:zvu)(pp:Option Addr)(M A:List Addr)(H:Hp)(S':O)(v:V)(A':List Addr)(H':Hp):Prop where
 keep:∀b o,b∉A->H b\o->NW pp b o->H' b\o
 pen:∀p,pp\p->(∃a ns t l,Pen K H p a ns t l)->∃a ns t l,Pen K H' p a ns t l
 live:∀b,b∉A->H b≠none->H' b≠none
 tb:Tabs H->Tabs H'
 nd:A'.Nodup
 new:∀a∈A',(a∈A∨H a=none)/\pp≠some a
 ro:RO K pp (A'++lft A M) H' S' v A'
abbrev DSpM:=O->av D->(D->O->Prop)->(ay->O->Prop)->Prop
inductive spDM(K:zvu)(n:Nat)(g:DSpM)(vs:List V)(H:Hp)(Q:VK)(E:XK):Prop
 |mk pp M A S v ds us P W:vs=v::us->Lv pp M H->Lent K pp M H S v A->(∃a,idO S\a)->ei K pp M H ds us->ds.length+1=n->g S ds P W->(∀{d S' A' H' u},P d S'->Back K pp M A H S' v A' H'->Rep K pp (A'++lft A M) H' d u->Q u H')->(∀{C S' A' H'},W C S'->Back K pp M A H S' v A' H'->E (.ref C) none H')->spDM K n g vs H Q E
section
variable[Frm]{σ:St}{ρ:DS}
theorem RSt.lend(r:RSt K F M H σ ρ)(h:ρ[i]?\(.obj S)):∃v A,σ[i]?\(some v)/\Lent K F.pp M H S v A/\∀{S' A' H'},Back K F.pp M A H S' v A' H'->Mv K F.pp M H (A'++lft A M) H'/\RSt K F (A'++lft A M) H' σ (ρ.set i (.obj S')):=by
 walk;let(o,ho,_):=r.at h;let(u,k,E,y):=r.ow;let(nd,v,rfl,hq):=k i _ _ h ho;x_go;refine(v,u i,ho,(nd,λa ha=>((E i a ha).1,(E i a ha).2.2),hq),λ{S' A' H'} b=>?_);have nA:∀{c:ay},c∈A'->c∉u i->H c=none:=λ{c} J n=>((b.new c J).1).resolve_left n;have m:Mv K F.pp M H (A'++lft (u i) M) H':=by
  refine(λc xs e=>b.keep c _ (λz=>RO.nu S v _ hq c z xs e) e (λ_ _ z=>(by cases z),λ_ z=>(by cases z)),λc o e n p=>?_,b.pen,b.tb);have nc:c∉u i:=λz=>n (E i c z).1;refine(b.keep c o nc e (λz=>absurd z p.1,p.2),λz=>?_);rcases zzg.mp z with z|z
  .rw[nA z nc]at e;cases e
  .exact n (mem_lft.mp z).1
 have g:∀j,j≠i->∀c∈u j,c∈lft (u i) M/\∀x,H c\x->NT x->H' c\x:=λj e c J=>by have nc:=y j i e c J;exact(mem_lft.mpr ((E j c J).1,nc),λx ex nt=>b.keep c x nc ex (nw (E j c J).2.2 nt))
 have h0:∀c,F.H0 c≠none->c∉u i:=λc J z=>J (E i c z).2.1;refine(m,by simp[r.len],λj s o I N=>?_,(λj=>if j=i then A' else u j,λj s o G C=>?_,λj c J=>?_,λj l e c J hd=>?_),λc J=>zzg.mpr (.inr (mem_lft.mpr (r.sub c J,h0 c (r.old c J)))),(λc o e n=>?_,λp e hp=>b.pen p e (r.same.pen p e hp),λc J=>b.live c (h0 c J) (r.same.live c J)),r.old,(λc J=>?_,λp e=>b.live p (λz=>(E i p z).2.2 e) (r.liv.p p e)),r.lk.cl m)
 .by_cases e:i=j
  .subst e;rw[ho]at N;rw[bb I];cases N;exact(v,rfl)
  .rw[zzG e]at I;have Q:=r.sl j s o I N;cases s with
   |nil=>trivial|val d=>let(v,e,q):=Q;exact(v,e,q.mv m)
   |pin w d=>let(v,e,ew,q):=Q;exact(v,e,ew,q.mv m)
   |own es =>
    walk;let(l',zs,rfl,hm',a4,a5,L,a6):=Q;let(l2,C,e3):=k j _ _ I N;x_go;cases C;let(B,T):=g j (Ne.symm e) l' (by rw[e3];simp);exact(l',zs,rfl,zzg.mpr (.inr B),a4,a5,T _ L (by intro _ z;cases z),a6.mv m)
   |obj q=>exact Q
 .show Ow K F _ H' s o (if j=i then A' else u j);by_cases e:j=i
  .subst e;rw[zzu rfl];rw[ho]at C;cases C;rw[bb G];exact(b.nd,v,rfl,b.ro)
  .rw[zzn e];rw[zzG (Ne.symm e)]at G;exact(k j s o G C).mv m λc J=>(g j e c J).2
 .replace J:c∈(if j=i then A' else u j):=J
  by_cases e:j=i
  .rw[zzu e]at J;refine(zzg.mpr (.inl J),?_,(b.new c J).2);rcases (b.new c J).1 with z|z
   .exact(E i c z).2.1
   .cases q:F.H0 c with
    |none=>rfl|some o=>exact absurd z (r.same.live c (by rw[q];intro z;cases z))
  .rw[zzn e]at J;exact(zzg.mpr (.inr (g j e c J).1),(E j c J).2)
 .replace J:c∈(if j=i then A' else u j):=J
  replace hd:c∈(if l=i then A' else u l):=hd
  have x:∀j,j≠i->c∈A'->c∉u j:=λj e B T=>by
   rcases (b.new c B).1 with z|z
   .exact y j i e c T z
   .exact r.liv.m c (E j c T).1 z
  by_cases G:j=i
  .rw[zzu G]at J;have C:l≠i:=λz=>e (G.trans z.symm);rw[zzn C]at hd;exact x l C J hd
  .rw[zzn G]at J;by_cases C:l=i
   .rw[zzu C]at hd;exact x j G hd J
   .rw[zzn C]at hd;exact y j l e c J hd
 .exact b.keep c o (h0 c (by rw[e];intro z;cases z)) (r.same.keep c o e n) n
 .rcases zzg.mp J with J|J
  .exact RO.live S' v A' b.ro c J
  .exact b.live c (mem_lft.mp J).2 (r.liv.m c (mem_lft.mp J).1)
end
theorem DX[Frm]{ds:av D}{us:av V}{N:av Str}(U:Lv pp M H)(l:Lent K pp M H S v A)(r:ei K pp M H ds us)(I:Frm.L K (pp,lft A M,cutH A H) M H):RSt K (pp,lft A M,cutH A H) M H (Lake.start N (v::us)) (.obj S::fK (N.length-1) ds):=by
 have G:=r.length;have Q:Same (cutH A H) H:=λb o e=>(DW e).2;refine(by simp[Lake.start,fK,G];lia,λi s o h u=>?_,(λj=>if j=0 then A else[],λi s o h u=>?_,λj a c=>?_,λj k e a c C=>?_),λa c=>(mem_lft.mp c).1,(SameP.of Q).toSameQ,λa c=>?_,U.toLv0,(I,U.t))
 .cases i with
  |zero =>
   simp at h;subst h;simp[Lake.start]at u;exact(v,u.symm)
  |succ i =>
   rw[zck]at h;have J:(us.map some++zad (N.length-1-ds.length) (none:aT V))[i]?\o:=by
    have e:N.length-(us.length+1)=N.length-1-ds.length:='l'
    simpa[Lake.start,e]using u
   unfold fK at h;by_cases E:i<ds.length
   .rw[zys (by simpa using E)]at h;rw[zys (by simpa[<-G]using E)]at J;exact jO (F:=(pp,lft A M,cutH A H)) r i s o h J
   .rw[zzR (by simp;lia)]at h;have:=zyE (zzK h);subst this;trivial
 .show Ow K _ M H s o (if i=0 then A else[]);cases i with
  |zero =>
   simp at h;subst h;simp[Lake.start]at u;exact(l.nd,v,u.symm,l.ro)
  |succ i =>
   cases s with
   |nil=>trivial|val d=>trivial|pin w d=>trivial|own es=>exact(mf h).elim|obj q=>exact(mh h).elim
 .replace c:a∈(if j=0 then A else[]):=c
  by_cases e:j=0
  .rw[zzu e]at c;exact((l.sub a c).1,JT c,(l.sub a c).2)
  .rw[zzn e]at c;cases c
 .replace c:a∈(if j=0 then A else[]):=c
  by_cases x:j=0
  .rw[zzn (λz=>e (x.trans z.symm))]at C;cases C
  .rw[zzn x]at c;cases c
 .have:=mem_lft.mp c;show cutH A H a≠none;rw[qJ this.2];exact U.m a this.1
theorem RSt.give[Frm]{j:St}{d:DS}(lv:Lv pp M H)(l:Lent K pp M H S v A)(r:idO S\a)(m:Mv K pp M H B H')(L:RSt K (pp,lft A M,cutH A H) B H' j d)(h:slot d 0=.obj S')(hi:idO S'=idO S) :
  ∃A',Back K pp M A H S' v A' H'/\Mv K pp B H' (A'++lft A M) H':=by
 walk;let(v',A',_,I,s,U,_):=L.objAt (aQ h (by intro z;cases z));have E:=JS r l.ro;have G:=JS (hi.trans r) s;subst E G;x_go;have x:Mv K pp B H' (A'++lft A M) H':=.less λc J=>(zzg.mp J).elim (λz=>(U c z).1) (L.sub c);refine(A',(λb o n e w=>L.same.keep b o ((qJ n).trans e) w,m.pen,λb n e=>L.same.live b λz=>e ((qJ n).symm.trans z),m.tb,I,λc J=>(?_,(U c J).2.2),RO.mv x S' _ A' (λ_ _ _ e _=>e) s),x);by_cases z:c∈A
 .exact .inl z
 .exact .inr ((qJ z).symm.trans (U c J).2.1)
end
theorem fnDM{P:cH}{w:World}{K:zvu}{base:cx}{x:Str}{st:Stmt}{f:ay}{N:av Str}{g:DSpM}{t:(DS->ay->Prop)->DTS}(Fn:Fun K x y st f fd)(S:er N ps (aj st))(hb:∀{fr:Frm}{W:DS->ay->Prop}{j:ax}{A:zas}{outer:av Env}{s:aM}{H:Hp}{E:XK}(hW:W=fr.W),Room k (A.deeper (zbh y (aj st) s⁻¹ f j))->N.Nodup ->
   PSsD ((cxOf (CXE P w) P w K mg base N y (aj st) f j A outer s H E).wish (XF (cxOf (CXE P w) P w K mg base N y (aj st) f j A outer s H E) (WL K))) (cj st) (t W))(hg:∀S ds Q W,ds.length+1=ps.length->(∃a,idO S\a)->g S ds Q W->t (λρ C=>∃c,slot ρ 0=.obj c/\idO c=idO S/\W C c) {nx:=λρ=>∃c,slot ρ 0=.obj c/\idO c=idO S/\Q .non c,rt:=λd ρ=>∃c,slot ρ 0=.obj c/\idO c=idO S/\Q d c} (.obj S::fK (N.length-1) ds)) :
  FnOk P w K mg base (CXE P w) (k+1) f fd ps (spDM K ps.length g):=by
 have(oc,od,kV,doc,pm,an,j,ct,osl,rfl,o,a4):=Fn.ex;refine zG o a4 S (λvs H Q E h=>?_) λA outer s H vs Q E hr h=>?_<;>let(pp,M,i,S,v,ds,us,P,W,rfl,B,l,(a,n),r,e,h,k1,k2):=h
 .rw[zzl,<-r.length,e]
 .let fr:Frm:=vc (pp,lft i M,cutH i H) M H λρ C=>∃c,slot ρ 0=.obj c/\idO c=idO S/\W C c
  have(T,p,run):=hb (fr:=fr) (outer:=outer) (E:=E) (H:=H) rfl hr (er.nd (by assumption));refine(T,λY s1 a5 H1 D I q=>zyg (p Y s1 a5 H1 D (I.wish _) q) (λ_ _ q=>q.unwish) λe s' z=>qj (z.mono λσ' C dd H' q=>?_),run (DX B l r (rfl,.refl)) (hg S ds _ _ e (a,n) h) (λm U q=>?_,λ_ _ q=>q,λ_ _ q=>q,λm U rd q=>?_))
  .let(F,M',ρ,Ca,(rfl,rfl),U,c,u,G,w):=q;have o:=fh U;obtain rfl:F=(pp,lft i M,cutH i H):=o.1;have(A',b,_):=RSt.give B l n o.2 U u G;exact k2 w b
  .let(c,u,G,q):=q;have(A',b,_):=RSt.give B l n m U u G;exact k1 q b (by simp only[Rep])
  .let(c,u,G,q):=q;have(A',b,ml):=RSt.give B l n m U u G;exact k1 q b (rd.mv ml)
section
variable[Frm]{x m:Str}{es:av cy}{t:DA}{g:DSpM}{C f:ay}
inductive dLend(i n:Nat)(g:DSpM)(W:DS->Addr->Prop)(ds:List D)(ρ:DS)(Q:D->DS->Prop):Prop
 |mk S:slot ρ i=.obj S->(∃a,idO S\a)->ds.length+1=n->g S ds (λd S'=>Q d (ρ.set i (.obj S'))) (λC S'=>W (ρ.set i (.obj S')) C)->dLend i n g W ds ρ Q
theorem qK{F:Fx}{M:av ay}{H:Hp}{s:St}{ρ:DS}{ds:av D}{vs:av V}{Q:VK}{P:D->DS->Prop}(U:RSt X.K F M H s ρ)(r:ei X.K F.pp M H ds vs)
  (q:dLend i n g Frm.W ds ρ P) (k:∀{d h u j v},P d h->Mv X.K F.pp M H u j->RSt X.K F u j s h->Rep X.K F.pp u j d v->Q v j):∃v,s[i]?\(some v)/\spDM X.K n g (v::vs) H Q (WL X.K s):=by
 walk;let(S,N,G,I,q):=q;let(v,A,T,l,c):=U.lend (aQ N);x_go;refine(v,T,F.pp,M,A,S,v,ds,vs,_,_,rfl,U.liv,l,G,r,I,q,λq b Y=>?_,λw b=>?_)
 .let(m,J):=c b;exact k q m J Y
 .let(m,J):=c b;exact(F,_,_,_,(rfl,rfl),J,w)
inductive dMethM(C:Addr)(m:Str)(i n:Nat)(g:DSpM)(W:DS->Addr->Prop)(t:DA)(ρ:DS)(Q:D->DS->Prop):Prop
 |mk a ns os:slot ρ i=.obj (.ins a C ns os)->m∉ns->(t ρ λds ρ1=>dLend i n g W ds ρ1 Q)->dMethM C m i n g W t ρ Q
theorem JU{K:zvu}{F:Fx}{M:av ay}{H:Hp}{c:St}{ρ:DS}{C:ay}{ns:av Str}{os:av O}(r:RSt K F M H c ρ)(h:slot ρ i=.obj (.ins a C ns os))(j:m∉ns):c[i]?\(some (.ref a))/\∃dx fs,H a\(.ins C dx fs)/\fs.lookup m=none:=by walk;let(v,A,l,_,U,_):=r.objAt (aQ h (by intro z;cases z));let(dx,fs,B,rfl,d,rfl,_):=U;x_go;exact(l,dx,fs,d,tt j)
theorem dO{pl:Sem Bool}(l:FnOk X.prog X.w X.K X.mg X.base (CXE X.prog X.w) k f fd ps (spDM X.K n g))(B:Xk X)(Y:W=Frm.W)(y:Room k X.A)(c:Cls X.K C)(x:Meth X.K C m f)(p:Binds X.K fd ps [])(ho:PE X o (tVar i))(b:PAD X (e::es) t)
  (r:SE X e es:=by rfl) (hpl:BA X pos es:=by rfl)
  (z:eval (.Call (.Attribute o m apos) (e::es) [] pos) X.env=(do
   let h <-eval o X.env
   zdk apos.atName
   let (f,first) <-zbM [h] (zcO h m pl)
   callWith pos f first (zbH pos (zaj (e::es) X.env)) (zbU pos (za1 [] X.env))):=by rfl) :
  PED X (.Call (.Attribute o m apos) (e::es) [] pos) (dMethM C m i n g W t):=by
 walk;subst Y;let(T,pa,ra):=b;x_go;refine(_,Dv (pl:=pl) ho c x l y p B pa r hpl z,λ{F M H σ ρ Q P} j q k=>?_);walk;let(a,ns,os,I,N,q):=q;let(d,dx,fs,E,G):=JU j I N;x_go;refine(.ref a,d,a,dx,fs,rfl,E,G,ra j q λq m1 u r1=>?_);have(v,U,sp):=qK u r1 q λq m s r'=>k q (m1.trans m) s r';rw[d]at U;cases U;exact sp
theorem Bf{pl:Sem Bool}(l:FnOk X.prog X.w X.K X.mg X.base (CXE X.prog X.w) k f fd ps (spDM X.K n g))(b:Xk X)(G:W=Frm.W)(T:Room k X.A)(c:Cls X.K C)(N:Meth X.K C m f)(I:Binds X.K fd ps [])(ho:PE X o (tVar i))
  (Y:eval (.Call (.Attribute o m apos) [] [] pos) X.env=(do
   let h <-eval o X.env
   zdk apos.atName
   let (f,first) <-zbM [h] (zcO h m pl)
   callWith pos f first (zbH pos (zaj [] X.env)) (zbU pos (za1 [] X.env))):=by rfl) :
  PED X (.Call (.Attribute o m apos) [] [] pos) (dMethM C m i n g W λρ Q=>Q [] ρ):=by
 subst G;refine(_,Ay (pl:=pl) ho c N l T I b Y,λ{F M H σ ρ Q P} j q k=>?_);walk;let(a,ns,os,u,E,q):=q;let(d,dx,fs,r,s):=JU j u E;x_go;refine(.ref a,d,a,dx,fs,rfl,r,s,?_);have(v,J,sp):=qK j .nil q k;rw[d]at J;cases J;exact sp
inductive dCallM(i n:Nat)(g:DSpM)(W:DS->Addr->Prop)(t:DA)(ρ:DS)(Q:D->DS->Prop):Prop
 |mk S0:slot ρ i=.obj S0->(t ρ λds ρ1=>dLend i n g W ds ρ1 Q)->dCallM i n g W t ρ Q
theorem xp(h:FnOk X.prog X.w X.K X.mg X.base (CXE X.prog X.w) k f fd ps (spDM X.K n g))(a:Xk X)(s:W=Frm.W)(Y:Room k X.A)(G:Gl X x)(N:X.mg x\(.ref f))(I:zau X.K (.ref f)=true)(E:Binds X.K fd ps [])(ho:PE X o (tVar i))
  (u:PAD X es t) (j:NoDb x:=by decide) (he:SE X o es:=by rfl) (hpl:BA X pos es:=by rfl) :
  PED X (.Call (.Name x p) (o::es) [] pos) (dCallM i n g W t):=by
 walk;subst s;let(T,e,B):=u;x_go;refine(_,GV h a Y G N I E (bj ho e he) j he hpl,λ{F M H σ ρ Q P} d q k=>?_);walk;let(S0,h0,q):=q;let(v,_,c,_):=d.objAt (aQ h0);x_go;refine(v,c,B d q λq b r z=>?_);simp only[zzB];have(v,U,sp):=qK r z q λq m l y=>k q (b.trans m) l y;rw[c]at U;cases U;exact sp
end
noncomputable def fldN:av Str->Str->aT Nat
 |[],_=>none|n::c,f=>if f=n then some 0 else(fldN c f).map (· + 1)
theorem mI{f:Str}:∀{fs:av (Str×V)},fldN (fs.map (·.1)) f\n->∃x,(fs.map (·.2))[n]?\x/\fs.lookup f\x/\∀y,(putF f y fs).map (·.1)=fs.map (·.1)/\(putF f y fs).map (·.2)=(fs.map (·.2)).set n y:=by
 intro fs
 induction fs generalizing n with
 |nil=>intro h;cases h
 |cons p fs U =>
  intro h;simp only[zzq,fldN]at h;by_cases z:f=p.1
  .rw[zzu z]at h;cases h;exact(p.2,rfl,by rw[zyf,z];simp,λy=>by simp[putF,z])
  .rw[zzn z]at h;let(k,L,rfl):=zyi.mp h;let(x,c,d,J):=U L;have j:(f==p.1)=false:=by simpa using z
   refine(x,c,by rw[zyf,j];exact d,λy=>?_);have l:¬p.1=f:=λq=>z q.symm;have:=J y;simp[putF,l,this.1,this.2]
theorem Hl{f:Str}{y:V}:∀{fs:av (Str×V)},fldN (fs.map (·.1)) f=none->putF f y fs=fs++[(f,y)]:=by
 intro fs
 induction fs with
 |nil=>intro _;rfl|cons p fs J =>
  intro h;simp only[zzq,fldN]at h;by_cases z:f=p.1
  .rw[zzu z]at h;cases h
  .rw[zzn z]at h;have L:¬p.1=f:=λq=>z q.symm;simp[putF,L,J (by simpa using h)]
def putO(ns:av Str)(os:av O)(f:Str)(o:O):av Str×av O:=match fldN ns f with
 |some n=>(ns,os.set n o)|none=>(ns++[f],os++[o])
section
variable{pp:aT ay}{M:av ay}{H H1:Hp}
theorem Hm:∀{os:av O}{xs:av V}{B:av ay},ROs K pp M H os xs B->xs.length=os.length:=by
 intro os
 induction os with
 |nil=>intro xs B h;rw[h.1];rfl|cons o os J=>intro xs B h;let(x,r,_,_,rfl,_,_,h):=h;rw[zzl,zzl,J h]
theorem DY{o:O}{x:V}(ho:RO K pp M H o x B):∀{os:av O}{xs:av V}{A:av ay},ROs K pp M H os xs A->ROs K pp M H (os++[o]) (xs++[x]) (A++B):=by
 intro os
 induction os with
 |nil=>intro xs A h;let(rfl,rfl):=h;exact(x,[],B,[],rfl,'s',ho,rfl,rfl)
 |cons o' os L =>
  intro xs A h;let(y,r,J,C,rfl,rfl,c,d):=h;exact(y,_,J,C++B,rfl,'s',c,L d)
theorem xq:∀{ds:av D}{xs:av V}{A:av ay},ROs K pp M H (ds.map O.val) xs A->A=[]/\ei K pp M H ds xs:=by
 intro ds
 induction ds with
 |nil=>intro xs A h;exact(h.2,h.1)|cons d ds J =>
  intro xs A h;let(y,r,B1,C,rfl,rfl,(rfl,c),j):=h;let(rfl,l):=J j;exact(rfl,y,r,rfl,c,l)
variable[Frm]{σ:St}{ρ:DS}{C:ay}{ns:av Str}{os:av O}{f:Str}
theorem RSt.insA(l:RSt K F M H σ ρ)(h:ρ[i]?\(.obj (.ins a C ns os))):∃dx fs B,σ[i]?\(some (.ref a))/\H a\(.ins C dx fs)/\fs.map (·.1)=ns/\ROs K F.pp M H os (fs.map (·.2)) B/\(a::B).Nodup/\∀b∈a::B,b∈M/\F.H0 b=none/\F.pp≠some b:=by walk;let(v,A,ho,j,d,U,_):=l.objAt h;let(dx,fs,B,rfl,c,rfl,rfl,m):=d;x_go;exact(dx,fs,B,ho,c,rfl,m,j,U)
theorem RSt.fldAt{o:O}(A:RSt K F M H σ ρ)(h:ρ[i]?\(.obj (.ins a C ns os)))(v:fldN ns f\n)(e:os[n]?\o):σ[i]?\(some (.ref a))/\∃dx fs x B,H a\(.ins C dx fs)/\fs.lookup f\x/\RO K F.pp M H o x B/\∀b∈B,b≠a/\b∈M/\F.H0 b=none/\F.pp≠some b:=by walk;let(dx,fs,B,ho,u,rfl,E,w,m):=A.insA h;let(x,j,l,_):=mI v;have ndB:=zye.mp w;let(x',c,J,r,_,s,_):=ROs.put n E ndB.2 e;x_go;rw[j]at J;cases J;exact(ho,dx,fs,x,c,u,l,r,λb L=>(by rintro rfl;exact ndB.1 (s _ L),m b (zzc _ (s b L))))
theorem RSt.putFld{o':O}{y:V}{B':av ay}(j:RSt K F M H σ ρ)(h:ρ[i]?\(.obj (.ins a C ns os)))(r:SameP K F.pp H H1)(ro:RO K F.pp (B'++M) H1 o' y B')(nb:B'.Nodup)(N:∀b∈B',H b=none/\F.pp≠some b) :
  ∃dx fs,σ[i]?\(some (.ref a))/\H1 a\(.ins C dx fs)/\fs.length=ns.length/\Mv K F.pp M H (B'++M) (upd H1 a (.ins C dx (putF f y fs))) /\
   RSt K F (B'++M) (upd H1 a (.ins C dx (putF f y fs))) σ (ρ.set i (.obj (.ins a C (putO ns os f o').1 (putO ns os f o').2))):=by
 walk;let(dx,fs,B,ho,ha,rfl,rx,nd,hA):=j.insA h;let(I,a0,ap):=hA a zzd;x_go;have k:H1 a\(.ins C dx fs):=r.keep a _ ha (nw ap);have T:∀b∈B',b∉M:=λb J z=>j.liv.m b z (N b J).1;have Q:Mv K F.pp M H (B'++M) H1:=(r.mv (M:=M)).more λb J=>(N b J).1;have v:Mv K F.pp (B'++M) H1 (B'++M) (upd H1 a (.ins C dx (putF f y fs))):=.ins k (zzg.mpr (.inr I));have aB:a∉B':=λz=>T a z I;have b3:RO K F.pp (B'++M) (upd H1 a (.ins C dx (putF f y fs))) o' y B':=RO.mv v o' y B' (λb J o e _=>by rw[ar (by rintro rfl;exact aB J)];exact e) ro;have b4:Lv0 F.pp (B'++M) H1:=(λb J=>(zzg.mp J).elim (RO.live o' y B' ro b) λz=>r.live b (j.liv.m b z),λp e=>r.live p (j.liv.p p e));refine(dx,fs,ho,k,'s',Q.trans v,j.objStep h (Q.trans v) (λv1 A1 ho1 b5 a6 G=>?_) (λb J=>zzg.mpr (.inr (j.sub b J))) ((j.sameP r).sameW a0 (.ins (K:=K) (pp:=F.pp) (M:=M) k I)) b4.upd);have nt:=RO.nt _ _ _ a6;simp only[RO]at a6;have(dx',fs',l,e',b2,e2,rfl,a9):=a6;rw[ha]at b2;cases b2;have U:=zye.mp b5;have kp:∀b,b∈M->F.pp≠some b->b≠a->∀z,H b\z->NT z->upd H1 a (.ins C dx (putF f y fs)) b\z:=λb bM bp ba z e q=>by rw[ar ba];exact r.keep b z e (nw bp q)
 have kB:∀b∈l,∀z,H b\z->upd H1 a (.ins C dx (putF f y fs)) b\z:=λb L z e=>by let(A,Y,E):=G b (zzc _ L);refine kp b A E (by rintro rfl;exact U.1 L) z e λps w=>?_;subst w;exact nt b (zzc _ L) ps e
 have fin:∀{A'':av ay}{a8:av O}{a7:av Str},A''.Nodup->(∀b∈A'',b∈l∨b∈B')->(putF f y fs).map (·.1)=a7->ROs K F.pp (B'++M) (upd H1 a (.ins C dx (putF f y fs))) a8 ((putF f y fs).map (·.2)) A'' ->
   ∃g,g.Nodup/\RO K F.pp (B'++M) (upd H1 a (.ins C dx (putF f y fs))) (.ins a C a7 a8) v1 g/\(∀b∈g,b∈B'++M/\F.H0 b=none/\F.pp≠some b/\(b∈a::l∨b∉M)) /\
   ∀c,c∈M->F.pp≠some c->F.H0 c=none->c∉a::l->c∈B'++M/\∀x,H c\x->NT x->upd H1 a (.ins C dx (putF f y fs)) c\x:=by
  intro A'' a8 a7 b6 b1 en rr;refine(a::A'',zye.mpr (λz=>(b1 a z).elim U.1 aB,b6),?_,λb J=>?_,λc cM cp _ cA=>(zzg.mpr (.inr cM),λx e q=>kp c cM cp (λz=>cA (by rw[z];simp)) x e q))
  .simp only[RO];exact(dx,_,A'',e',ao,en,rfl,rr)
  .rcases zze.mp J with rfl|J
   .exact(zzg.mpr (.inr I),a0,ap,.inl zzd)
   .rcases b1 b J with z|z
    .let(A,Y,E):=G b (zzc _ z);exact(zzg.mpr (.inr A),Y,E,.inl (zzc _ z))
    .refine(zzg.mpr (.inl z),?_,(N b z).2,.inr (T b z));cases q:F.H0 b with
     |none=>rfl|some o=>exact absurd (N b z).1 (j.same.live b (by rw[q];intro z;cases z))
 unfold putO;cases hf:fldN (fs.map (·.1)) f with
 |some n =>
  walk;let(x,e1,_,u):=mI hf;obtain⟨o0,e0⟩:∃o0,os[n]?\o0:=by have:n<(fs.map (·.2)).length:=(zzC.mp e1).1;rw[Hm a9]at this;exact(_,zzp this)
  let(x0,B0,_,_,_,s0,f0):=ROs.put n a9 U.2 e0;let(A'',A,Y,E):=f0 o' y B' (Q.trans v) (λb L _ z e=>kB b L z e) b3 nb λb J=>.inr λz=>T b J (G b (zzc _ z)).1;x_go;exact fin A Y (u y).1 (by rw[(u y).2];exact E)
 |none =>
  have u:=Hl (y:=y) hf;have b7:=ROs.mv (Q.trans v) os _ l (λb L z e _=>kB b L z e) a9;refine fin (A'':=l++B') (zyr.mpr (U.2,nb,λb L c hc z=>?_)) (λb J=>zzg.mp J) (by rw[u,zzm];rfl) (by have:=DY b3 b7;rw[show (putF f y fs).map (·.2)=fs.map (·.2)++[y] by rw[u,zzm];rfl];exact this);subst z;exact T b hc (G b (zzc _ L)).1
theorem RSt.putLst{ds:av D}(u:RSt K F M H σ ρ)(h:ρ[i]?\(.obj (.ins a C ns os)))(p:fldN ns f\n)(e:os[n]?\(.lst (ds.map .val))) :
  ∃dx fs l E,σ[i]?\(some (.ref a))/\H a\(.ins C dx fs)/\fs.lookup f\(.ref l)/\H l\(.lst E)/\ei K F.pp M H ds E/\∀{v:av D}{U:av V},ei K F.pp M H v U->Mv K F.pp M H M (upd H l (.lst U))/\RSt K F M (upd H l (.lst U)) σ (ρ.set i (.obj (.ins a C ns (os.set n (.lst (v.map .val)))))):=by
 walk;let(ho,dx,fs,x,B,I,q,r,hB):=u.fldAt h p e;let(l,E,B2,rfl,g,rfl,rv):=r;let(rfl,b3):=xq rv;let(la,lM,l0,lp):=hB l zzd;x_go;refine(dx,fs,l,E,ho,I,q,g,b3,λ{v U} r'=>?_);have m:Mv K F.pp M H M (upd H l (.lst U)):=.write g lM lp;refine(m,u.objStep h m (λv1 A1 ho1 b1 a9 y=>?_) u.sub (u.sameW l0 m) u.liv0.upd);have(dx',fs',B1,rfl,Y,rfl,rfl,b4):=a9;rw[I]at Y;cases Y;have T:=zye.mp b1;have(x,G,o,_):=mI p;rw[q]at o;cases o;have(x0,B0,k,r0,_,s0,f0):=ROs.put n b4 T.2 e;rw[G]at k;cases k;have(l',ys1,B3,e4,hl3,rfl,b2):=r0;cases e4;have(rfl,_):=xq b2;let(s,N,Q,A):=f0 (.lst (v.map .val)) (.ref l) [l] m (λb _ nb z e=>by rw[ar (λw=>nb (by rw[w];simp))];exact e) (by simp only[RO];exact(l,U,[],rfl,ao,rfl,ROs.vals (r'.mv m))) 's' (λb d=>.inl d);have sub:∀b∈s,b∈B1:=λb d=>(Q b d).elim id λz=>s0 b z;have es:(fs.map (·.2)).set n (.ref l)=fs.map (·.2):=by
  apply zd3;intro j;by_cases z:n=j
  .subst z;rw[G,zyL (zzC.mp G).1]
  .rw[zzG z]
 refine(a::s,zye.mpr (λz=>T.1 (sub a z),N),?_,λb d=>?_,λc cM cp _ cA=>(cM,λx e _=>by rw[ar (λw=>cA (by rw[w];exact zzc _ (s0 l 's')))];exact e))
 .simp only[RO];refine(dx,fs,s,trivial,by rw[ar (Ne.symm la)];exact I,rfl,rfl,by rw[es]at A;exact A)
 .have d:b∈a::B1:=(zze.mp d).elim (λz=>by rw[z];simp) λz=>zzc _ (sub b z);have(N,Q,A):=y b d;exact(N,Q,A,.inl d)
end
section
variable[Frm]{f:Str}{pos' fpos:Pos}
inductive dFldO(K:zvu)(i:Nat)(f:Str)(ρ:DS)(Q:D->DS->Prop):Prop
 |mk a C ns os n d:slot ρ i=.obj (.ins a C ns os)->Cls K C->NoAttr K C f->fldN ns f\n->os[n]? = some (.val d)->Q d ρ->dFldO K i f ρ Q
theorem dR(l:K=X.K)(ho:PE X o (tVar i))(s:zag o f X.env (eval o X.env)=eval o X.env:=by rfl):PED X (.Attribute o f pos) (dFldO K i f):=by subst l;refine(_,oP ho s,λ{F M H σ ρ Q P} J q k=>?_);let(a,C,ns,os,n,d,c,h,j,L,U,q):=q;let(v,dx,fs,x,B,m,u,r,_):=J.fldAt (aQ c) L U;exact(.ref a,v,a,C,dx,fs,x,rfl,m,h,j,u,k q .refl J r.2)
abbrev LV(K:zvu)(i:Nat)(f:Str)(te:DE):DTS:=λE j=>te j λd c=>∃a C h os,slot c i=.obj (.ins a C h os)/\Cls K C/\NoAttr K C f/\h.length<1000/\E.nx (c.set i (.obj (.ins a C (putO h os f (.val d)).1 (putO h os f (.val d)).2)))
theorem jS(s:K=X.K)(ho:PE X o (tVar i))(he:PED X e te)(hs:zap e (some (.Attribute o f pos')) pos.line X.env=pure false:=by rfl):PSD X (.Assign [.Attribute o f pos'] e pos) (LV K i f te):=by walk;subst s;let(T,I,Q):=he;x_go;refine(_,EJ ho I hs,λ{F M H σ ρ E D} Y q oo=>Q Y q λ{d ρ1 M1 H1 v} q G U N=>?_);walk;let(a,C,ns,os,h,j,l,r,q):=q;let(dx,fs,A,u,x,m,c):=U.putFld (f:=f) (o':=.val d) (B':=[]) (aQ h) .refl (by simp only[RO];exact(trivial,N)) zxU (λb w=>by cases w);x_go;exact(.ref a,A,a,C,dx,fs,rfl,u,j,l,by rw[x];exact r,oo.nx (G.trans m) c q)
abbrev JV(K:zvu)(i:Nat)(f:Str)(t:DA):DTS:=λE j=>t j λh c=>∃a C d os,slot c i=.obj (.ins a C d os)/\Cls K C/\NoAttr K C f/\d.length<1000/\E.nx (c.set i (.obj (.ins a C (putO d os f (.lst (h.map .val))).1 (putO d os f (.lst (h.map .val))).2)))
theorem DZ{t:DA}(x:K=X.K)(ho:PE X o (tVar i))(he:PLD X e t)(hs:zap e (some (.Attribute o f pos')) pos.line X.env=pure false:=by rfl):PSD X (.Assign [.Attribute o f pos'] e pos) (JV K i f t):=by walk;subst x;let(T,g,n):=he;x_go;refine(_,EJ ho g hs,λ{F M H σ ρ E D} p q oo=>n p q λ{r ρ1 M1 d l h} q Q L c k=>?_);have(a,C,ns,os,s,u,v,w,q):=q;have Y:Mv X.K F.pp M1 d ([l]++M1) (upd d l (.lst h)):=.newOwn c;let(dx,fs,N,A,I,m,j):=L.putFld (f:=f) (o':=.lst (r.map .val)) (y:=.ref l) (B':=[l]) (aQ s) (.new c) (by simp only[RO];exact(l,h,[],rfl,ao,rfl,ROs.vals (k.mv Y))) 's' (λb G=>by rw[zzt.mp G];exact(c,(L.liv.fresh c).2));exact(.ref a,N,a,C,dx,fs,rfl,A,u,v,by rw[I];exact w,oo.nx (Q.trans m) j q)
inductive dAppF(K:zvu)(i:Nat)(f g h:Str)(E:DEnds)(ρ:DS):Prop
 |mk a C ns os n n1 n2 ds d1 d2:slot ρ i=.obj (.ins a C ns os)->Cls K C->NoAttr K C f/\NoAttr K C g/\NoAttr K C h->fldN ns f\n/\os[n]? = some (.lst (ds.map .val))->fldN ns g\n1/\os[n1]? = some (.val d1)->fldN ns h\n2/\os[n2]? = some (.val d2)->ds.length<zaa->E.nx (ρ.set i (.obj (.ins a C ns (os.set n (.lst ((ds++[.tup [d1,d2]]).map .val))))))->dAppF K i f g h E ρ
theorem Hn{h:Str}{j:Pos}{c}(hK:K=X.K)(ho:PE X o (tVar i))(b5:PE X e (tVar i))(b6:PE X tg (tVar i))(b1:zag e y X.env (eval e X.env)=eval e X.env:=by rfl)(b2:zag tg h X.env (eval tg X.env)=eval tg X.env:=by rfl)(hb:zag o f X.env (eval o X.env)=eval o X.env:=by rfl)(b8:zaj [.Attribute e y py,.Attribute tg h p] X.env=(false,eval (.Attribute e y py) X.env)::zaj [.Attribute tg h p] X.env:=by rfl)(b9:zaj [.Attribute tg h p] X.env=(false,eval (.Attribute tg h p) X.env)::zaj [] X.env:=by rfl)(L:zag (.Attribute o f fpos) "append" X.env (eval (.Attribute o f fpos) X.env)=eval (.Attribute o f fpos) X.env:=by rfl)(B:((zbH cpos (zaj [.Tuple [.Attribute e y py,.Attribute tg h p] c j] X.env)).all (λx=>!x.1) && (zbU cpos (za1 [] X.env)).all (λx=>x.1.isSome)
   && decide ([Expr.Tuple [.Attribute e y py,.Attribute tg h p] c j].length+([]:av zco).length+(if ([]:av zco).isEmpty then 0 else 1)<30))=true:=by rfl)(z:(apos.endLine==cpos.line)=true:=by rfl)(b:zaj [.Tuple [.Attribute e y py,.Attribute tg h p] c j] X.env=(false,eval (.Tuple [.Attribute e y py,.Attribute tg h p] c j) X.env)::zaj [] X.env:=by rfl)(hpl:BA X cpos []:=by rfl)(hs:zap (.Call (.Attribute (.Attribute o f fpos) "append" apos) [.Tuple [.Attribute e y py,.Attribute tg h p] c j] [] cpos) none pos.line X.env=pure false:=by rfl) :
  PSD X (.Expr (.Call (.Attribute (.Attribute o f fpos) "append" apos) [.Tuple [.Attribute e y py,.Attribute tg h p] c j] [] cpos) pos) (dAppF K i f y h):=by
 subst hK;refine(_,pS (ss zxn zwy zwz iJ (oP ho hb) (bj (EL (bj (oP b5 b1) (bj (oP b6 b2) ci b9) b8)) ci b) L B z b hpl) hs,λ{F M H σ ρ E D} v q oo=>?_);walk;let(a,C,ns,os,n,n1,n2,ds,d1,d2,b7,A,(c2,c3,c4),(f1,f2),(g1,g2),(k1,k2),b3,q):=q;have u:=aQ b7;let(dx,fs,l,k,G,m,g,U,rv,_):=v.putLst u f1 f2;let(_,_,_,c,_,Q,c0,r1,_):=v.fldAt u g1 g2;let(_,_,_,I,_,T,c1,r2,_):=v.fldAt u k1 k2;x_go;rw[m]at Q T;cases Q;cases T;refine(.ref a,G,a,C,dx,fs,.ref l,rfl,m,A,c2,g,.inl (rfl,k,SqL.of U),.ref a,G,a,C,dx,fs,c,rfl,m,A,c3,c0,.ref a,G,a,C,dx,fs,I,rfl,m,A,c4,c1,by show 2<=zaa;decide,λt r=>?_);have c5:=v.sameP (SameP.new (K:=X.K) (pp:=F.pp) (o:=.tup [c,I]) r);have mt:Mv X.K F.pp M H M (upd H t (.tup [c,I])):=.new r;have(dx',fs',l',ys',hv',N,Y,J,c7,wr):=c5.putLst u f1 f2;rw[fc r m]at N;cases N;rw[g]at Y;cases Y;rw[fc r U]at J;cases J;let(m2,c6):=wr (c7.append (.one (d:=.tup [d1,d2]) (x:=.ref t) (by simp only[Rep];exact(t,_,rfl,ao,.cons (r1.2.mv mt) (.cons (r2.2.mv mt) .nil)))));exact(l,k,.ref t,rfl,rfl,fc r U,by rw[<-rv.length];exact b3,oo.nx (mt.trans m2) c6 q)
inductive dPopF(K:zvu)(i j:Nat)(f:Str)(E:DEnds)(ρ:DS):Prop
 |mk a C ns os n ds d:slot ρ i=.obj (.ins a C ns os)->Cls K C->NoAttr K C f->fldN ns f\n->os[n]? = some (.lst ((ds++[d]).map .val))->E.nx ((ρ.set i (.obj (.ins a C ns (os.set n (.lst (ds.map .val)))))).set j (.val d))->dPopF K i j f E ρ
theorem Hq{j:Nat}(Y:K=X.K)(ho:PE X o (tVar i))(b:X.N.Nodup)(hi:X.N[j]?\y)(hx:Loc X.env.scope y)(g:zag o f X.env (eval o X.env)=eval o X.env:=by rfl)(J:zag (.Attribute o f fpos) "pop" X.env (eval (.Attribute o f fpos) X.env)=eval (.Attribute o f fpos) X.env:=by rfl)(L:(apos.endLine==cpos.line)=true:=by rfl)(hs:zap (.Call (.Attribute (.Attribute o f fpos) "pop" apos) [] [] cpos) (some (.Name y py)) pos.line X.env=pure false:=by rfl)(p:X.fn y=true∨X.env.scope.names.lookup y\.local:=by room) :
  PSD X (.Assign [.Name y py] (.Call (.Attribute (.Attribute o f fpos) "pop" apos) [] [] cpos) pos) (dPopF K i j f):=by
 subst Y;refine(_,fV b hi hx (IC zxn PySem.F.slot_list_pop PySem.F.type_list_pop ID (oP ho g) J L) hs p,λ{F M H σ ρ E D} rs q oo=>?_);walk;let(a,C,ns,os,n,c,d,A,k,na,f1,f2,q):=q;have T:=aQ A;let(dx,fs,l,h,B,e,z,U,r,wr):=rs.putLst T f1 f2;let(x,I,Q):=r.get' (i:=c.length) (d:=d) 's';have w:=r.length;have s:h.length-1=c.length:=by rw[<-w];simp
 have rd:ei X.K F.pp M H c h.dropLast:=by have:=r.take c.length;rw[List.take_left]at this;rw[List.dropLast_eq_take,s];exact this
 let(m,G):=wr rd;x_go;exact(.ref a,B,a,C,dx,fs,.ref l,rfl,e,k,na,z,.inl (rfl,h,SqL.of U),l,h,x,rfl,rfl,U,by rw[s];exact I,oo.nx m (G.set (Q.mv m) j) q)
inductive dLenF(K:zvu)(i:Nat)(f:Str)(ρ:DS)(Q:D->DS->Prop):Prop
 |mk a C ns os n (ds:List D):slot ρ i=.obj (.ins a C ns os)->Cls K C->NoAttr K C f->fldN ns f\n->os[n]? = some (.lst (ds.map .val))->Q (.int ds.length) ρ->dLenF K i f ρ Q
theorem Hr{fp:Pos}(s:K=X.K)(ho:PE X o (tVar i))(w:Gl X "len")(A:X.mg "len" = none)(v:zag o f X.env (eval o X.env)=eval o X.env:=by rfl)(he:zaj [.Attribute o f fp] X.env=(false,eval (.Attribute o f fp) X.env)::zaj [] X.env:=by rfl)(hpl:BA X pos []:=by rfl) :
  PED X (.Call (.Name "len" p) [.Attribute o f fp] [] pos) (dLenF K i f):=by
 subst s;refine(_,eZ sy w A zxD (bj (oP ho v) ci he) 'd' 'd' he hpl,λ{F M H σ ρ Q P} U q k=>?_);walk;let(a,C,ns,os,n,ds,d,h,j,m,r,q):=q;let(dx,fs,l,I,E,u,x,J,G,_):=U.putLst (aQ d) m r;x_go;exact(.ref a,E,a,C,dx,fs,.ref l,rfl,u,h,j,x,l,I.length,rfl,by rw[J];rfl,k q .refl U (by rw[<-G.length];exact bK))
end
theorem FnOk.noM{P:cH}{w:World}{K:zvu}{base:cx}{f:ay}{g:DSpM}(F:FnOk P w K mg base (CXE P w) k f fd ps (spDM K n g)):FnOk P w K mg base CX0 k f fd ps (spDM K n λS ds Q _=>g S ds Q λ_ _=>False) :=
 F.down λvs H Q E q=>by let(pp,M,A,S,v,ds,d,P,_,c,J,l,i,r,e,h,k,_):=q;exact(pp,M,A,S,v,ds,d,P,_,c,J,l,i,r,e,h,k,λz=>z.elim)
section
variable[Frm]
abbrev JW(i:Nat)(C:ay)(g:DSpM)(te:DE):DTS:=λE l=>te l λd c=>∀a,g (.ins a C [] []) [d] (λj h=>j=.non/\E.nx (c.set i (.obj h))) λ_ _=>False
theorem Ea{C f:ay}{g:DSpM}{x:Str}{cpos:Pos}(Mm:Mk X.K C f)(Fn:FnOk X.prog X.w X.K X.mg X.base (CXE X.prog X.w) k f fd ps (spDM X.K 2 g))(hr:Room (k+1) X.A)(hg:Gl X x)(hm:X.mg x\(.ref C))(I:Binds X.K fd ps [])(he:PED X e te)(hN:X.N.Nodup)(hi:X.N[i]?\y)(r:Loc X.env.scope y)(a5:NoDb x:=by decide)(L:SE X e []:=by rfl)(hpl:BA X cpos []:=by rfl)(hs:zap (.Call (.Name x p) [e] [] cpos) (some (.Name y py)) pos.line X.env=pure false:=by rfl)(hf:X.fn y=true∨X.env.scope.names.lookup y\.local:=by room) :
  PSD X (.Assign [.Name y py] (.Call (.Name x p) [e] [] cpos) pos) (JW i C g te):=by
 have(T,pe,re):=he;refine(_,fV hN hi r (FV (E:=λ_ _ _=>False) Mm (Tactic.FnOk.noM Fn) hr hg hm I .nil Gi (bj pe ci L) a5 L hpl) hs hf,λ{F M H σ ρ E D} rs q o=>re rs q λ{d ρ1 M1 j v} q m1 J r1=>?_);intro x dx r a6 ne;have Y:=J.liv.fresh r;have a4:(upd j dx (.own x)) x=none:=by rw[ar (Ne.symm ne)];exact r
 have s0:SameP X.K F.pp j (upd (upd j dx (.own x)) x (.ins C dx [])):=(SameP.new a6).trans (.new a4);have mm:Mv X.K F.pp M1 j (x::M1) (upd (upd j dx (.own x)) x (.ins C dx [])):=(s0.mv (M:=M1)).more (A:=[x]) λb I=>by rw[zzt.mp I];exact r
 have lv:Lv F.pp (x::M1) (upd (upd j dx (.own x)) x (.ins C dx [])):=by
  refine((λa s=>?_,λp e=>s0.live p (J.liv.p p e)),s0.tb J.lk.t);rcases zze.mp s with rfl|s
  .rw[ao];intro z;cases z
  .exact s0.live a (J.liv.m a s)
 refine(F.pp,x::M1,[x],.ins x C [] [],.ref x,[d],[v],_,λ_ _=>False,rfl,lv,('s',λa s=>by rw[zzt.mp s];exact(zzd,Y.2),?_),(x,rfl),.one (r1.mv mm),rfl,q x,λ{d' Q G H' u} q l rd=>?_,λz=>z.elim)
 .simp only[RO,ROs];exact(dx,[],[],trivial,ao,rfl,rfl,rfl,rfl)
 .let(rfl,q):=q;refine(rd,?_);have nx:∀{b:ay},j b≠none->b∉[x]:=λ{b} h z=>h (by rw[zzt.mp z];exact r);have s1:SameP X.K F.pp j H':=((λb o e n=>l.keep b o (nx (by rw[e];intro z;cases z)) (s0.keep b o e n) n,λp e h=>l.pen p e (s0.pen p e h),λb h=>l.live b (nx h) (s0.live b h)),λh=>l.tb (s0.tb h));have hn:∀c∈G,j c=none/\F.pp≠some c:=λc U=>by
   refine(?_,(l.new c U).2);rcases (l.new c U).1 with z|z
   .rw[zzt.mp z];exact r
   .cases e:j c with
    |none=>rfl|some o=>exact absurd z (s0.live c (by rw[e];intro z;cases z))
  have hl:∀c∈G++M1,c∈G++lft [x] (x::M1):=λc U=>by
   rcases zzg.mp U with z|z
   .exact zzg.mpr (.inl z)
   .exact zzg.mpr (.inr (mem_lft.mpr (zzc _ z,λw=>Y.1 (by rw[<-zzt.mp w];exact z))))
  let(m2,a7):=J.newObj (q:=Q) (v:=.ref x) s1 l.nd hn (RO.mv (.less hl) Q _ G (λ_ _ _ e _=>e) l.ro) i;exact o.nx (m1.trans m2) a7 q
abbrev Hs(to te:DE):DE:=λd Q=>to d λx c=>∃z,x=.str z/\te c λy J=>∃w,y=.str w/\Q (.int (Txt.count z w)) J
theorem Bg{o:cy}(ho:PED X o ta)(he:PED X e te)(L:zag o "count" X.env (eval o X.env)=eval o X.env:=by rfl)(j:HF X py [e]:=by rfl)(U:(pos.endLine==py.line)=true:=by rfl)(d:SE X e []:=by rfl)(hpl:BA X py []:=by rfl) :
  PED X (.Call (.Attribute o "count" pos) [e] [] py) (Hs ta te):=by
 walk;let(To,po,C):=ho;let(Te,u,A):=he;x_go;refine(_,ss zwK PySem.F.slot_str_count PySem.F.type_str_count Az po (bj u ci d) L j U d hpl,λE h k=>C E h λh r l v=>?_);walk;let(z,rfl,h):=h;subst v;x_go;refine(rfl,A l h λh s m x=>?_);walk;let(w,rfl,h):=h;subst x;x_go;exact(z,w,rfl,rfl,k h (r.trans s) m bK)
theorem dcE{x:Str}{e:cy}{t:DA}{W:DS->ay->Prop}{k0:Nat}{st:Stmt}{D:Dd X.K X.mg x st ps}(L:D.Ok X.prog X.w X.base (CXE X.prog X.w) k (spDE X.K n g))(U:W=Frm.W)(l:Room k0 X.A)(c:PAD X (e::ifs) t)(j:k<=k0:=by decide)(r:Xk X:=by exact eF)(h:Gl X x:=by rfl)(J:NoDb x:=by decide)(he:SE X e ifs:=by rfl)(hpl:BA X pos ifs:=by rfl):PED X (.Call (.Name x p) (e::ifs) [] pos) (wR n g W t):=Dz L r U (l.mono j) h D.d.m D.d.F.kp D.d.b c J he hpl
theorem drs{x:Str}{e:cy}{t:DA}{W:DS->ay->Prop}{C:ay}(c:Exc X.K C)(j:X.mg x\(.ref C))(L:W=Frm.W)(d:PAD X (e::ifs) t)(U:X.calm=true:=by rfl)(h:Gl X x:=by rfl)(l:Xk X:=by exact eF)(he:SE X e ifs:=by rfl)(J:BA X p ifs:=by rfl)(hd:NoDb x:=by decide):PSD X (.Raise (some (.Call (.Name x py) (e::ifs) [] p)) none pos) (Fh C W t):=DB c U h j l L d he J hd
theorem dis{e:cy}{t:DA}(K:zvu)(d:X.mg "isinstance" = none)(c:PAD X (e::ifs) t)(J:K=X.K:=by rfl)(L:Gl X "isinstance":=by rfl)(he:SE X e ifs:=by rfl)(hpl:BA X pos ifs:=by rfl):PED X (.Call (.Name "isinstance" p) (e::ifs) [] pos) (dCB (gIsY K) t):=by subst J;exact aR JK d rfl c L (he:=he) (hpl:=hpl)
end
theorem JX[fr:Frm]{X:Cx}{E:ax->aM->Prop}{t:DE}(h : @PED _ Frm.free X.nox e t):PED (X.wish E) e t:=by let(T,p,r):=h;refine(T,λc s d H Q I l=>zyg (p c s d H Q (I.unwish.wish _) l) (λ_ _ ⟨v,j,U,q⟩=>(v,j,U.unwish.wish _,q)) λ_ _ z=>False.elim z,λ{F M H d w Q P} L q k=>@r F M H d w Q P (eR L trivial) q λp m J u=>k p m (eR J (fr.cl _ _ _ _ _ _ (fh L) m)) u)
theorem aH{c:Scope}{cl:av (Str×ay)}{t:DA}{g:DG}(N':av Str)(js:av (aT Nat))(U:dz X.env.cells c.names []\cl)(hi:PID X tg e t)(j:∀{B:Blk},PGD (cxB X c cl N' B) tg g)(l:∀{B:Blk},PTsD (cxB X c cl N' B) ifs tc)(he:∀{fr:Frm}{B:Blk},PED ((cxB X c cl N' B).wish (XFl (cxB X c cl N' B) (@WL _ fr X.K))) elt te)(cap:Cap X c N' js:=by repeat first|exact .nil|apply Cap.own|refine .cap rfl (by room) rfl ?_)(h:X.calm=true:=by rfl)(d:∀y∈c.names,y.2=.free->(y.1,zan)∉c.names:=by decide +kernel)(L:c.kind=.function:=by rfl)(J:∀y∈c.names,y.2=.local->c.names.lookup y.1\.local:=by decide +kernel)(hs:∀v,zaw e X.env v=pure v:=by intro _;rfl):PCD X (.ListComp elt [(tg,e,ifs,0)] c pos) (LA t js g tc te) :=
 qE (te:=λ_=>te) vb rfl h U d L cap J hi (λ_=>j) (λ_=>l) (λfr _ _ B=>he (fr:=fr)) hs
end Tactic
namespace Internal
open PySem Lake
variable{A Y:Prop}{C0 fa:ay}{a b y z:Str}{cs:av (Int×Int)}{h k m n:Nat}{hi i r:Int}{hs ws:av Str}{ks ns:av Int}{s s':Sl}{wd:String}{ys:av (av Int)}{α β:Type}
variable{hs:av Str}{db:av D}
noncomputable def top(i:Nat):Stmt:=PySem.Challenge.pw_othersum_k54_desk_refuses.main.body.getD i (.Pass (0,0,0,0))
abbrev tu:Stmt:=top 42
theorem yo:er ["many","marks","rows","pairs"] ["many","marks","rows"] (aj tu):=cR
abbrev pA:Stmt:=top 44
theorem vi:er ["many","pairs","found","kinds","counts","cells"] ["many","pairs"] (aj pA):=cR
abbrev kD:Stmt:=top 53
theorem qL:er ["many","a","b"] ["many","a","b"] (aj kD):=cR
abbrev xr:Stmt:=top 74
theorem Bi:er ["one","other"] ["one","other"] (aj xr):=cR
abbrev tz:Stmt:=top 75
theorem yp:er ["one","other"] ["one","other"] (aj tz):=cR
abbrev fM:Stmt:=top 76
theorem jT:er ["one","other","due","many","p","spare"] ["one","other","due"] (aj fM):=cR
abbrev pB:Stmt:=top 87
theorem vj:er ["book","some"] ["book","some"] (aj pB):=cR
abbrev pC:Stmt:=top 89
theorem vm:er ["book","some"] ["book","some"] (aj pC):=cR
abbrev mJ:Stmt:=top 90
theorem tD:er ["kinds","some"] ["kinds","some"] (aj mJ):=cR
abbrev iZ:Stmt:=top 92
theorem oj:er ["book","some","mark"] ["book","some"] (aj iZ):=cR
abbrev xt:Stmt:=top 94
theorem Bj:er ["book","a","b","many","whole","table","ones","others","pairs","place","cell","kind","counts"] ["book","a","b","many"] (aj xt):=cR
abbrev Fs:Stmt:=top 112
theorem Ht:er ["text","lines","marks","names","many","pairs","book"] ["text"] (aj Fs):=cR
abbrev tE:Stmt:=top 116
theorem yq:er ["lines","names","rows","line","row"] ["lines","names"] (aj tE):=cR
abbrev Bl:Stmt:=top 123
theorem Eb:er ["book","order","told","length"] ["book","order"] (aj Bl):=cR
abbrev gN:Stmt:=top 124
theorem mK:er ["book","order","a","b","found","kids","told","values","counts","numbers","number","all_say"] ["book","order","a","b"] (aj gN):=cR
abbrev mL:Stmt:=top 127
theorem tF:er ["book","a","b"] ["book","a","b"] (aj mL):=cR
abbrev pD:Stmt:=top 136
theorem vn:er ["word","words"] ["word","words"] (aj pD):=cR
abbrev tG:Stmt:=top 137
theorem yr:er ["names","words","house","kinds"] ["names","words"] (aj tG):=cR
abbrev xu:Stmt:=top 138
theorem Bn:er ["names","book","words","found","a","b","some"] ["names","book","words"] (aj xu):=cR
abbrev kE:Stmt:=top 139
theorem qM:er ["names","words"] ["names","words"] (aj kE):=cR
abbrev gO:Stmt:=top 140
theorem mM:er ["names","book","some","found","values","counts"] ["names","book","some"] (aj gO):=cR
abbrev gP:Stmt:=top 141
theorem mO:er ["names","book","order","a","b","found","values","number"] ["names","book","order","a","b"] (aj gP):=cR
abbrev kF:Stmt:=top 142
theorem qN:er ["book","a","b","whole"] ["book","a","b"] (aj kF):=cR
abbrev mP:Stmt:=top 143
theorem tH:er ["book","some","a","b","table"] ["book","some","a","b"] (aj mP):=cR
abbrev gQ:Stmt:=top 144
theorem mQ:er ["names","word","table","a","b","told"] ["names","word","table","a","b"] (aj gQ):=cR
abbrev pE:Stmt:=top 152
theorem vo:er ["_law_script"] ["_law_script"] (aj pE):=cR
abbrev mR:Stmt:=top 153
theorem sc__law_next:er ["_law_pen_here","_law_many","_law_script","_law_turn","_law_left","_law_cell","_law_number"] ["_law_pen_here","_law_many"] (aj mR):=cR
abbrev fk:Stmt:=top 161
theorem tI:er ["_law_desk","_law_row","_law_caught","error"] ["_law_desk","_law_row"] (aj fk):=cR
abbrev gR:Stmt:=top 168
abbrev JY:Stmt:=top 169
theorem sc_law:er ["_law_script","_law_pen_here","_law_book_here","_law_names_here","_law_a","_law_b","_law_one","_law_two_here","_law_marks","_law_mark","_law_fresh","_law_case","_law_text_here","_law_bad","_law_line","_law_desk","_law_begun","_law_now","_law_k","_law_way","_law_row","_law_due"] ["_law_script"] (aj JY):=cR
abbrev tJ:Stmt:=hZ (top 11) 0
theorem yt:er ["self","line"] ["self","line"] (aj tJ):=(rfl,rfl,rfl,'k',rfl,'k','k')
abbrev mS:Stmt:=hZ (top 133) 0
theorem kG:er ["self","text","told"] ["self","text"] (aj mS):=(rfl,rfl,rfl,'k',rfl,'k','k')
abbrev pF:Stmt:=hZ (top 133) 1
theorem vp:er ["self","row","words"] ["self","row"] (aj pF):=(rfl,rfl,rfl,'k',rfl,'k','k')
abbrev gh:Stmt:=hZ (top 133) 2
theorem kW:er ["self","words","row","book"] ["self","words"] (aj gh):=(rfl,rfl,rfl,'k',rfl,'k','k')
abbrev mT:Stmt:=hZ (top 133) 3
theorem tK:er ["self","words","a","b","kinds","book"] ["self","words"] (aj mT):=(rfl,rfl,rfl,'k',rfl,'k','k')
abbrev jc:Stmt:=hZ (top 133) 4
theorem om:er ["self","names","book"] ["self","names","book"] (aj jc):=(rfl,rfl,rfl,'k',rfl,'k','k')
abbrev fN:Stmt:=hZ (top 133) 5
theorem jU:er ["self","told"] ["self"] (aj fN):=(rfl,rfl,rfl,'k',rfl,'k','k')
noncomputable def bU:av (Str×ze8):=[("show",.tup [.int 1,.int 1]),("whole",.tup [.int 1,.int 1]),("ranks",.tup [.int 1,.int 1]),("back",.tup [.int 1,.int 1]),("parts",.tup [.int 1,.none]),("turn",.tup [.int 3,.none]),("push",.tup [.int 3,.none]),("gap",.tup [.int 3,.none]),("level",.tup [.int 3,.none]),("knots",.tup [.int 3,.none]),("marks",.tup [.int 3,.int 3]),("few",.tup [.int 3,.int 3]),("hide",.tup [.int 6,.int 10])]
set_option genInjectivity false in
set_option genSizeOf false in
structure Ta(K:zvu)(mg:Str->Option Value) where
 yZ:Dd K mg "is_whole" (top 28) ["thing"]
 vV:Dd K mg "is_within" (top 29) ["thing","least","most"]
 yP:Dd K mg "is_count" (top 30) ["thing"]
 zd:Dd K mg "together" (top 31) ["counts"]
 iD:Dd K mg "together_by_house" (top 32) ["many","rows"]
 KE:Dd K mg "said" (top 34) ["one","other"]
 uD:Dd K mg "book_of" tu ["many","marks","rows"]
 EF:Dd K mg "beside" (top 43) ["one","other"]
 ki:Dd K mg "gathered" pA ["many","pairs"]
 yQ:Dd K mg "is_tried" (top 45) ["counts"]
 nE:Dd K mg "counts_of_row" (top 46) ["row","many"]
 vZ:Dd K mg "are_marks" (top 47) ["marks"]
 zi:Dd K mg "are_rows" (top 48) ["rows","many","marks"]
 EC:Dd K mg "is_row" (top 49) ["row","many","marks"]
 vS:Dd K mg "are_kinds" (top 50) ["kinds","marks"]
 rF:Dd K mg "check_house" (top 52) ["many","house"]
 kM:Dd K mg "check_pair" kD ["many","a","b"]
 xK:Dd K mg "fewest" xr ["one","other"]
 uB:Dd K mg "lead_of" tz ["one","other"]
 fP:Dd K mg "fewest_changes" fM ["one","other","due"]
 KA:Dd K mg "over_up" (top 77) ["top","bottom"]
 kr:Dd K mg "parts_by" pB ["book","some"]
 yX:Dd K mg "whole_of" (top 88) ["book"]
 gK:Dd K mg "table_by" pC ["book","some"]
 nI:Dd K mg "values_by" mJ ["kinds","some"]
 ux:Dd K mg "check_mark" (top 91) ["book","mark"]
 jC:Dd K mg "check_marks" iZ ["book","some"]
 xI:Dd K mg "hidden" xt ["book","a","b","many"]
 EB:Dd K mg "rising" (top 106) ["shares"]
 KD:Dd K mg "show" (top 111) ["names","book"]
 nQ:Dd K mg "read" Fs ["text"]
 li:Dd K mg "is_houses_line" (top 113) ["words"]
 yW:Dd K mg "marks_of" (top 114) ["lines"]
 oG:Dd K mg "is_mark_line" (top 115) ["words","taken"]
 eX:Dd K mg "rows_of" tE ["lines","names"]
 vT:Dd K mg "is_behind" (top 117) ["row","other"]
 ED:Dd K mg "row_of" (top 118) ["words","names"]
 vO:Dd K mg "are_names" (top 119) ["words"]
 Ci:Dd K mg "is_name" (top 120) ["word"]
 vW:Dd K mg "is_number" (top 121) ["word"]
 Cc:Dd K mg "knots" Bl ["book","order"]
 gU:Dd K mg "turned_knots" gN ["book","order","a","b"]
 nP:Dd K mg "turned_by" mL ["book","a","b"]
 jA:Dd K mg "has_right_length" (top 134) ["words"]
 rG:Dd K mg "marks_named" (top 135) ["names"]
 cO:Dd K mg "place_of" pD ["word","words"]
 ur:Dd K mg "case_of" tG ["names","words"]
 xJ:Dd K mg "answer" xu ["names","book","words"]
 kK:Dd K mg "some_marks" kE ["names","words"]
 gY:Dd K mg "parts_answer" gO ["names","book","some"]
 gT:Dd K mg "knots_answer" gP ["names","book","order","a","b"]
 kL:Dd K mg "few_answer" kF ["book","a","b"]
 nM:Dd K mg "table_for" mP ["book","some","a","b"]
 gZ:Dd K mg "table_answer" gQ ["names","word","table","a","b"]
 eY:Dd K mg "_law_pen" pE ["_law_script"]
 iE:Dd K mg "_law_next" mR ["_law_pen_here","_law_many"]
 uC:Dd K mg "_law_count" (top 154) ["_law_pen_here"]
 vR:Dd K mg "_law_book" (top 155) ["_law_pen_here","_law_most"]
 zh:Dd K mg "_law_two" (top 156) ["_law_pen_here","_law_many"]
 uz:Dd K mg "_law_names" (top 157) ["_law_pen_here","_law_many"]
 uk:Dd K mg "_law_named" (top 158) ["_law_pen_here","_law_book_here"]
 vP:Dd K mg "_law_text" (top 159) ["_law_names_here","_law_book_here"]
 oJ:Dd K mg "_law_refusal" (top 160) ["_law_caught"]
 bL:Dd K mg "_law_word" fk ["_law_desk","_law_row"]
 rK:Dd K mg "_law_no_row" (top 162) ["_law_pen_here","_law_one","_law_two_here","_law_mark","_law_case"]
 oI:Dd K mg "_law_no_name" (top 163) ["_law_pen_here","_law_one","_law_two_here","_law_mark","_law_case"]
 lq:Dd K mg "_law_of_stages" (top 164) ["_law_pen_here","_law_one","_law_two_here","_law_mark","_law_case","_law_fresh"]
 uo:Dd K mg "_law_empty" (top 165) ["_law_pen_here","_law_two_here"]
 vQ:Dd K mg "_law_wide" (top 166) ["_law_book_here"]
 nF:Dd K mg "_law_bad_text" (top 167) ["_law_pen_here","_law_text_here"]
 gX:Dd K mg "_law_no_desk" gR ["_law_text_here","_law_line"]
 Cg:Dd K mg "law" JY ["_law_script"]
 kO:mg "ValueError" = none
 z_abs:mg "abs" = none
 HR:mg "sum" = none
 bF:mg "tuple" = none
 Mj:mg "any" = none
 yU:mg "all" = none
 bJ:mg "len" = none
 nU:mg "enumerate" = none
 Cd:mg "zip" = none
 z_min:mg "min" = none
 xL:mg "list" = none
 rJ:mg "sorted" = none
 eI:mg "range" = none
 vX:mg "int" = none
 au:mg "isinstance" = none
 z_max:mg "max" = none
 yR:mg "str" = none
 FI:mg "bool" = none
 KB:mg "set" = none
structure Kq(K:zvu)(L R:List Addr)(S C:Addr)(i:Nat):Prop where
 q:(zak (L.map λy=>zaz K (.ref C) (.ref y)) (zak (zaV K (.ref C) (R.map .ref)) (zak (zaz K (.ref C) (.type "ValueError")) (zar K (.ref C) (.ref S)))))=(zak ([0,1,2,3,4,5,6,7,8].map λj=>some (decide (j=i))) (zak (some false) (zak (some true) (some true))))
structure Md(K:zvu)(x qual:Str)(st:Stmt)(ps:List Str)(f:Addr) where
 fd:zez
 F:Fun K x qual st f fd
 b:Binds K fd ps []
noncomputable def mdk{K:zvu}{x qual:Str}{st:Stmt}{f:ay}{ps:av Str}{oc kV doc pm cdv ct:ax}{od an:aT ay}{osl:Array (aT ax)}(l:K.lookup f\(oc,od,.func (zaT x qual (fY st) (cj st) (aj st) .none kV doc pm an cdv ct),osl))(c:zbo K cdv qual=true)(k:zau K (.ref f)=true)
  (b:∀us:av ax,us.length=ps.length->∀(kV doc pm:ax)(an:aT ay)(cdv ct:ax),bindArgs (zaT x qual (fY st) (cj st) (aj st) .none kV doc pm an cdv ct) (us,[])=pure (ps.zip us):=by repeat first|exact Lake.len0 λ_ _ _ _ _ _=>rfl|refine Lake.lenS λ_=>?_):Md K x qual st ps f :=
 (_,wu l c k,(wu l c k).binds λa j c d e g us o=>b us o a j c d e g)
set_option genInjectivity false in
set_option genSizeOf false in
structure Tx[Tactic.TB](K:zvu)(mg:Str->Option Value) extends Ta K mg where
 bh:Addr
 BW:mg "Desk" = some (.ref bh)
 uv:Addr
 pQ:mg "LENGTHS" = some (.ref uv)
 bH:Addr
 nL:mg "SumError" = some (.ref bH)
 aD:Addr
 gu:mg "NoText" = some (.ref aD)
 bC:Addr
 nN:mg "NoBack" = some (.ref bC)
 br:Addr
 gv:mg "NoBook" = some (.ref br)
 aO:Addr
 kh:mg "NoHouse" = some (.ref aO)
 bD:Addr
 nJ:mg "NoLead" = some (.ref bD)
 aP:Addr
 jx:mg "NoMark" = some (.ref aP)
 aV:Addr
 jw:mg "NoName" = some (.ref aV)
 cq:Addr
 pO:mg "NoRatio" = some (.ref cq)
 aZ:Addr
 jv:mg "NoRow" = some (.ref aZ)
 cr:Addr
 pP:mg "NoShare" = some (.ref cr)
 bi:Addr
 kq:mg "NoTable" = some (.ref bi)
 bE:Addr
 kP:mg "NoWeights" = some (.ref bE)
 bS:Addr
 nO:mg "TooGreat" = some (.ref bS)
 nG:Tok
 gr:mg "LEAST_HOUSES" = some (.int 2 nG)
 oF:Tok
 gW:mg "MOST_HOUSES" = some (.int 6 oF)
 rD:Tok
 jz:mg "MOST_MARKS" = some (.int 5 rD)
 rL:Tok
 jB:mg "MOST_KINDS" = some (.int 6 rL)
 nV:Tok
 nT:mg "LONGEST_NAME" = some (.int 8 nV)
 nS:Tok
 nR:mg "MOST_FIGURES" = some (.int 30 nS)
 uw:Tok
 uu:mg "MOST_ROWS" = some (.int 60 uw)
 rE:Tok
 rH:mg "MOST_TRIED" = some (.int 1000000000000 rE)
 rM:Exc K aZ
 uy:Exc K aV
 yY:Exc K aO
 uq:Exc K aP
 yS:Exc K bi
 nK:Exc K br
 Cf:Exc K bC
 BX:Exc K bD
 KC:ExK K aD
 EE:ExK K aZ
 BZ:ExK K aV
 zf:ExK K aO
 BY:ExK K aP
 za:ExK K bi
 Cb:ExK K br
 BV:ExK K bC
 Ch:ExK K bD
 nH:Addr
 dY:ExcI K aD nH
 jy:Md K "__init__" "NoText.__init__" tJ ["self","line"] nH
 eJ:zah K (.ref aD) "line" = some none
 aJ:Cls K bh
 aF:zah K (.ref bh) "names" = some none
 aY:zah K (.ref bh) "book" = some none
 eu:zah K (.ref bh) "past" = some none
 fE:Addr
 kN:Lake.Mk K bh fE
 dm:Md K "__init__" "Desk.__init__" mS ["self","text"] fE
 kj:Addr
 dl:Meth K bh "say" kj
 cP:Md K "say" "Desk.say" pF ["self","row"] kj
 dW:Addr
 lg:Meth K bh "put_case" dW
 dX:Md K "put_case" "Desk.put_case" gh ["self","words"] dW
 iG:Addr
 uA:Meth K bh "hide" iG
 iF:Md K "hide" "Desk.hide" mT ["self","words"] iG
 fA:Addr
 oH:Meth K bh "change" fA
 fB:Md K "change" "Desk.change" jc ["self","names","book"] fA
 dJ:Addr
 km:Meth K bh "take_back" dJ
 dI:Md K "take_back" "Desk.take_back" fN ["self"] dJ
 cQ:zeZ (zeT λb=>zaK b K) (λb=>zaK b K) uv bU=true
 Ml:zar K (.ref aD) (.ref bH)\true
 k_k1:zaz K (.ref aD) (.ref aD)\true
 k_k2:zaz K (.ref aD) (.type "ValueError")\true
 k_k3:zaV K (.ref aD) [.ref bC,.ref br,.ref aO,.ref bD,.ref aP,.ref aV,.ref cq,.ref aZ,.ref cr,.ref bi]\false
 k_k4:zaV K (.ref aD) [.ref bE,.ref bS]\false
 Cj:Kq K [aO,bi,bS,aP,bD,aZ,aV,br,bC] [cq,cr,aD,bE] bH aZ 5
 yT:Kq K [aO,bi,bS,aP,bD,aZ,aV,br,bC] [cq,cr,aD,bE] bH aV 6
 vY:Kq K [aO,bi,bS,aP,bD,aZ,aV,br,bC] [cq,cr,aD,bE] bH aO 0
 yV:Kq K [aO,bi,bS,aP,bD,aZ,aV,br,bC] [cq,cr,aD,bE] bH aP 3
 vU:Kq K [aO,bi,bS,aP,bD,aZ,aV,br,bC] [cq,cr,aD,bE] bH bi 1
 zc:Kq K [aO,bi,bS,aP,bD,aZ,aV,br,bC] [cq,cr,aD,bE] bH br 7
 yO:Kq K [aO,bi,bS,aP,bD,aZ,aV,br,bC] [cq,cr,aD,bE] bH bC 8
 zg:Kq K [aO,bi,bS,aP,bD,aZ,aV,br,bC] [cq,cr,aD,bE] bH bD 4
 lcA:Addr
 lp:Addr
 lc1:EB.fd.code=.ref lcA
 lc2:zba K lcA lp=true
 lc3:Tactic.TB.tb.lookup lp\("rising.<locals>.<lambda>" : Str)
open Tactic
section
variable{P:cH}{w:World}{K:zvu}{mg:Str->aT ax}{base:cx}[Tactic.TB]
theorem vq(T:Tx K mg):T.eY.Ok P w base CX0 1 (sp_pen K):=by
 refine T.eY.d.F.ok vo (λc H Q E h=>?_) (λcdv A outer s H c Q E hr h=>?_)
 .let(a,ns,rfl,_):=h;rfl
 .let(a,ns,rfl,hs,k):=h;refine(_,(fU (rO (zD (bj (pv 0) (bj cE (bj cE ci)))))),?_);refine(_,rfl,(by show (3:Nat)<=zaa;decide),λp J=>?_);refine k p _ J (ao,?_,zyH 0) (wy J);rcases hs with ⟨o,e⟩|e
  .exact .inl (o,fc J e)
  .exact .inr e
theorem tM(T:Tx K mg):T.iE.Ok P w base CX0 1 (sp_next K):=by
 refine T.iE.d.F.ok sc__law_next (λq H Q E h=>?_) (λcdv A outer s H q Q E hr h=>?_)
 .let(p,a,ns,t,l,m,rfl,_):=h;rfl
 .let(p,a,ns,t,l,m,rfl,pen,m1,m2,k):=h;refine(_,(cg (rP (pv 0) (IO rfl (lr (pV (i:=2) sc__law_next.nd rfl (zdu rfl)) (lr (pV (i:=3) sc__law_next.nd rfl (zdu rfl)) (lr (pV (i:=4) sc__law_next.nd rfl (zdu rfl)) zu)))))
   (cg (Cl (lJ KU (pv 4) cE (oM _)) (cg (rP (dM lI (pv 3) cE) (zv (pv 0) cE pY))
   (cg (Cl (PW.pt (Ic (lJ KY (pv 3) (eZ dq rfl T.bJ zxD (bj (pv 2) ci)) (oM _)) (EG (lJ Iq (xT pX (pv 2) (pv 3) (λ_ _=>rfl)) (dM EI cE cE) (oM _))))) (cg (fV (i:=5) sc__law_next.nd rfl (zdu rfl) cE)
   (cg (Cl (lJ Ir (eZ dq rfl T.bJ zxD (bj (pv 2) ci)) cE (oM _)) (fU (fV (i:=5) sc__law_next.nd rfl (zdu rfl) (dM ku (xT pX (pv 2) (dM ku (pv 3) (eZ dq rfl T.bJ zxD (bj (pv 2) ci))) (λ_ _=>rfl)) cE))) lH)
   (cg (fV (i:=6) sc__law_next.nd rfl (zdu rfl) (dM ku (dM jF (dM lI (dM lI (pv 5) (dM jF cE (pv 3))) cE) cE) cE))
   (cg (fV (i:=6) sc__law_next.nd rfl (zdu rfl) (dM ku (dM lI (dM lI (dM jF (pv 6) (pv 6)) (dM jF cE (pv 3))) cE) cE))
   (fU (rO (dM ku (dM ww (dM ku (dM jF (pv 6) (dM lI (pv 6) cE)) cE) cE) (pv 1)))))))) lH)
   (fU (fV (i:=4) sc__law_next.nd rfl (zdu rfl) (xT pX (pv 2) (pv 3) (λ_ _=>rfl)))))) lH)
   (cg (rP (dM ww (pv 4) (pv 1)) (zv (pv 0) cE pY))
   (fU (rO (dM ku (pv 4) (pv 1))))))),?_)
  have L:=pen.t0;have c:(0:Int)<m:='l'
  refine(_,rfl,p,_,rfl,pen.lst,rfl,_,_,rfl,_,_,rfl,_,_,rfl,rfl,?_);refine(_,rfl,rfl,_,rfl,?_);refine ite2 (λo=>?_) (λo=>?_)
  ·
   refine(_,rfl,_,_,rfl,rfl,_,rfl,p,_,1,1,rfl,rfl,pen.lst,rfl,?_);have J:Pen K (upd H p (.lst [.ref a,.int (t+1),.int l])) p a ns (t+1) l:=pen.put 'l';have sq:=J.scr.sq;refine(_,rfl,_,rfl,a,_,rfl,.inl sq,_,_,rfl,rfl,_,rfl,?_);refine(λU=>ite2 (λe=>iteT U) (λe=>(_,rfl,_,rfl,a,_,t,_,rfl,rfl,sq,zO L (by simp only[zxj,zza]at e;lia),_,_,rfl,rfl,('d','d','d'),_,_,rfl,rfl,_,rfl,ite2 (λj=>U) (λj=>?_)))) ?_
   rotate_left
   ·
    simp only[zxj,zza]at e;refine(_,rfl,_,rfl,a,_,t,_,rfl,rfl,sq,zO L 'l',?_);refine(_,rfl,_,rfl,_,_,rfl,rfl,(c,zP 'l' 'l'),_,rfl,p,_,2,2,rfl,rfl,J.lst,rfl,?_);refine(_,rfl,_,rfl,_,_,rfl,rfl,c,?_);exact k _ (t+1) _ _ (zyG _ 'l') (zyI _ c) (J.put 'l') (SBut.upd.trans SBut.upd)
   refine(_,rfl,a,_,rfl,.inl sq,_,_,rfl,rfl,_,rfl,?_);refine ite2 (λg=>?_) (λg=>?_)
   .simp only[zxj,zza]at g;refine(_,rfl,_,rfl,_,rfl,a,_,rfl,.inl sq,_,_,rfl,rfl,(by show (0:Int)<((ns.map V.int).length:Int);rw[zza];lia),a,_,_,_,rfl,rfl,sq,zO (by rw[zza];exact zyG _ 'l') (by rw[zza];exact zyI _ 'l'),_,_,rfl,rfl,mpos,?_);refine(_,rfl,_,rfl,_,_,rfl,rfl,CI,_,_,rfl,rfl,_,_,rfl,rfl,_,_,rfl,rfl,IP,_,_,rfl,rfl,mpos,?_);refine(_,rfl,_,rfl,_,_,rfl,rfl,qf 'd' 'd',_,rfl,_,_,rfl,rfl,CI,_,_,rfl,rfl,_,_,rfl,rfl,_,_,rfl,rfl,mpos,?_);refine(_,rfl,_,rfl,_,_,rfl,rfl,_,_,rfl,rfl,qf 'd' 'd',_,_,rfl,rfl,mpos,_,_,rfl,rfl,('d',sA 'd' 'd'),_,rfl,_,_,rfl,rfl,c,?_);exact k _ (t+1) _ _ (zyG _ 'l') (zyI _ c) J SBut.upd
   .refine(_,rfl,_,rfl,_,_,rfl,rfl,CI,_,_,rfl,rfl,_,_,rfl,rfl,_,_,rfl,rfl,IP,_,_,rfl,rfl,mpos,?_);refine(_,rfl,_,rfl,_,_,rfl,rfl,qf 'd' 'd',_,rfl,_,_,rfl,rfl,CI,_,_,rfl,rfl,_,_,rfl,rfl,_,_,rfl,rfl,mpos,?_);refine(_,rfl,_,rfl,_,_,rfl,rfl,_,_,rfl,rfl,qf 'd' 'd',_,_,rfl,rfl,mpos,_,_,rfl,rfl,('d',sA 'd' 'd'),_,rfl,_,_,rfl,rfl,c,?_);exact k _ (t+1) _ _ (zyG _ 'l') (zyI _ c) J SBut.upd
  ·
   refine(_,rfl,_,rfl,_,_,rfl,rfl,(c,zP 'l' 'l'),_,rfl,p,_,2,2,rfl,rfl,pen.lst,rfl,?_);refine(_,rfl,_,rfl,_,_,rfl,rfl,c,?_);exact k _ t _ _ (zyG _ 'l') (zyI _ c) (pen.put L) SBut.upd
theorem aw(T:Tx K mg):T.iE.Ok P w base CX0 1 (spD K 2 Jo):=GT (tM T)
noncomputable def dG(c:Int×Int):D:=.tup [.int c.1,.int c.2]
def gTog:DSp:=λc Q=>∃(d:D)(cs:av (Int×Int)),c=[d]/\(d=.lst (cs.map dG)∨d=.tup (cs.map dG))/\cs.length<=1000/\Q (.tup [.int (cs.map (·.1)).sum,.int (cs.map (·.2)).sum])
theorem Bo{d:D}{xs:av D}{Q:av D->Prop}(J:d=.lst xs∨d=.tup xs)(h:Q xs):Ju (λ_ P=>P d []) [] λds _=>Q ds:=by rcases J with rfl|rfl<;>exact h
theorem LW{Q:av D->Prop}(U:cs.length<=1000)(e:Q ((cs.map (·.1)).map D.int)):cZ (bO 0) cf (dOp gIx (dVar 0) (dC (.int 0))) (cs.map dG) [] [s] Q:=by refine bG (D.int ∘ (·.1)) (λd=>∃s,d=[s]) (zzk U 'd') (λc _ d Y Z J L=>?_) _ (_,rfl) (by rw[<-zzv];exact e);let(s,rfl):=J;exact Br.t (L _ (_,rfl))
theorem LX{Q:av D->Prop}(U:cs.length<=1000)(e:Q ((cs.map (·.2)).map D.int)):cZ (bO 0) cf (dOp gIx (dVar 0) (dC (.int 1))) (cs.map dG) [] [s] Q:=by refine bG (D.int ∘ (·.2)) (λd=>∃s,d=[s]) (zzk U 'd') (λc _ d Y Z J L=>?_) _ (_,rfl) (by rw[<-zzv];exact e);let(s,rfl):=J;exact Br.t (L _ (_,rfl))
theorem yu(T:Tx K mg):T.zd.Ok P w base CX0 1 (spD K 1 gTog):=by refine fnd ["counts","tried","well"] (λhr _=>(af (dse 1 (aR AS T.HR zbp (da1 (dfc (aH ["count"] [none] rfl (AT (dv 0)) (dgb 0) aG (dx 0)))))) (af (dse 2 (aR AS T.HR zbp (da1 (dfc (aH ["count"] [none] rfl (AT (dv 0)) (dgb 0) aG (dx 0)))))) (dr (aC (a2 1 2)))))) (λds Q hl h=>?_);let(d,cs,rfl,L,J,h):=h;refine Bo L ?_;refine LW J (uZ ?_);refine Bo L ?_;exact LX J (uZ (sz,h))
structure Cnt(n:Nat)(t w:Int):Prop where
 lo:0 <= w
 hi:w <= t
 bt:Bd n t
 bw:Bd n w
theorem Cnt.mono{m n:Nat}{t w:Int}(h:Cnt m t w)(l:m<=n):Cnt n t w:=(h.lo,h.hi,h.bt.mono l,h.bw.mono l)
theorem pG{t w:Int}(lo:0<=w)(hi:w<=t)(b:Bd n t):Cnt n t w:=(lo,hi,b,b.le 'l')
abbrev Row:=av (Int×Int)
variable{p:av Int×Row}{ps qs:av (av Int×Row)}
def rowD(r:Row):D:=.tup (r.map dG)
def RowN(n m:Nat)(r:Row):Prop:=r.length=m/\∀c∈r,Cnt n c.1 c.2
abbrev Hu(m:Nat)(r:Row):Prop:=RowN 200 m r
theorem RowN.up{r:Row}(o:RowN n m r)(h:n<=200:=by decide):Hu m r:=(o.1,λc J=>(o.2 c J).mono h)
noncomputable def at_(r:Row)(h:Nat):Int×Int:=r.getD h (0,0)
def col(t:av Row)(h:Nat):av (Int×Int):=t.map λr=>at_ r h
noncomputable def sumP(cs:av (Int×Int)):Int×Int:=((cs.map (·.1)).sum,(cs.map (·.2)).sum)
def sums(t:av Row)(m:Nat):Row:=(zav m).map λh=>sumP (col t h)
theorem xv{r:Row}(o:RowN n m r)(c:h<m):r[h]?\(at_ r h)/\Cnt n (at_ r h).1 (at_ r h).2:=by
 have d:h<r.length:=by rw[o.1];exact c
 have e:r[h]?\(at_ r h):=by unfold at_;simp[d]
 exact(e,o.2 _ (zzK e))
theorem JZ{r:Row}(o:RowN n m r){h:Int}{Q:D->Prop}(h0:0<=h)(c:h<m)(q:Q (dG (at_ r h.toNat))):opt (atI (r.map dG) h) Q:=by refine aX h0 ?_ q;rw[zzz,(xv o (h:=h.toNat) ((zwA h0).mpr c)).1];rfl
theorem Ec{t:av Row}(ho:∀r∈t,Hu m r)(j:t.length<=1000){h:Int}(h0:0<=h)(g:h<m){Q:av D->Prop}(q:Q ((col t h.toNat).map dG)) :
  cZ (bO 0) cf (dOp gIx (dVar 0) (dVar 1)) (t.map rowD) [] [s,.val (.int h)] Q:=by
 refine bY (λpre c d=>c=(col pre h.toNat).map dG/\∃s,d=[s,.val (.int h)]) (λc d J=>by rw[J.1];exact q) (λl r t1 c d Y e J L=>?_) _ (rfl,_,rfl);let(rfl,s,rfl):=J;subst e;refine Br.t (JZ (ho r 's') h0 g (?_,L _ _ (by simp[col],_,rfl)));rw[zza];unfold col;rw[zza];rw[zzh]at j;exact zzE (show l.length<=1000 by lia) 'd'
def gTbh:DSp:=λc Q=>∃(n:Nat)(t:av Row),c=[.int n,.lst (t.map rowD)]/\(n<=6/\t.length<=1000/\∀r∈t,Hu n r)/\Q (rowD (sums t n))
theorem eV:∀(n:Nat)(lo:Int),iS lo n=(zav n).map λ(i:Nat)=>D.int (lo+i)
 |0,_=>rfl|n+1,lo=>by
  rw[zcE,zzq,zzv,iS,eV n (lo+1)];congr 1
  .simp
  .apply zzJ;lia
theorem dS(T:Tx K mg):T.iD.Ok P w base CX0 2 (spD K 2 gTbh):=by
 refine fnd ["many","rows"] (λl _=>(dr (aN bN T.bF (da1 (dfc (aH ["house","rows"] [none,some 1] rfl (cU T.eI (a1 0)) (dgb 0) aG (JX (by letI:Frm:=Frm.free;exact(dcl (yu T) l (da1 (dfc (aH ["row","house"] [none,some 0] rfl (bq (dv 1)) (dgb 0) aG (dix (dv 0) (dv 1)))))))))))))) (λds Q hl h=>?_);have(n,t,rfl,(d,J,ho),h):=h;refine(('l','l'),?_);rw[zzV,eV];refine bG (λi:Nat=>dG (sumP (col t (0+(i:Int)).toNat))) (λc=>∃s,c=[s,.val (.lst (t.map rowD))]) ?_ (λi hi c Y Z g j=>?_) _ (_,rfl) ?_
 .rw[zxi];exact zzk d 'd'
 .let(s,rfl):=g;have hi:=zyK.mp hi;refine Br.t (Ec ho J 'l' 'l' (rfl,_,col t (0+(i:Int)).toNat,rfl,.inl rfl,?_,j _ (_,rfl)));unfold col;rw[zza];exact J
 .show Q (.tup (ze2 _ (zav n)));have e:(zav n).map (λi:Nat=>dG (sumP (col t (0+(i:Int)).toNat)))=(sums t n).map dG:=by
   unfold sums;rw[zzv];apply zzJ;intro i _;congr 3;lia
  rw[e];exact h
noncomputable def kI(ks:av Int):av Key:=ks.map .inl
noncomputable def bV(ks:av Int):D:=.tup (ks.map .int)
theorem ir(ks:av Int):bV ks=keyD (kI ks):=by unfold keyD kI bV;rw[zzv];rfl
theorem pH{a b:av Int}(h:kI a=kI b):a=b:=by exact(zwx (λ_ _ e=>zbI.inj e)).mp h
theorem yw{a b:av Int}:(kI a=kI b)↔a=b:=(pH,λe=>by rw[e])
theorem qO(ks:av Int):qq (kI ks):=λx c=>by let(i,_,rfl):=zzi.mp c;exact(i,rfl)
noncomputable def addG(k:av Int)(r:Row):av (av Int×av Row)->av (av Int×av Row)
 |[]=>[(k,[r])]|p::t=>if p.1=k then(p.1,p.2++[r])::t else p::addG k r t
def grp(ps:av (av Int×Row)):av (av Int×av Row):=ps.foldl (λg p=>addG p.1 p.2 g) []
theorem qP(ps:av (av Int×Row))(p:av Int×Row):grp (ps++[p])=addG p.1 p.2 (grp ps):=by unfold grp;rw[zd9];rfl
def emb(g:av (av Int×av Row)):av (av Key×av D):=g.map λp=>(kI p.1,p.2.map rowD)
def embV(g:av (av Int×av Row)):av (av Key×D):=g.map λp=>(kI p.1,.lst (p.2.map rowD))
theorem Bp(k:av Int)(r:Row):∀g,oi (kI k) (rowD r) (emb g)=emb (addG k r g)
 |[]=>rfl|p::t=>by
  show oi (kI k) (rowD r) ((zak (kI p.1) (p.2.map rowD))::emb t)=_;unfold oi addG;by_cases e:p.1=k
  .rw[zzu (show (zak (kI p.1) (p.2.map rowD)).1=kI k by rw[e]),zzu e];simp[emb]
  .rw[zzn (show ¬(zak (kI p.1) (p.2.map rowD)).1=kI k from λz=>e (pH z)),zzn e,Bp k r t];rfl
theorem jd(k:av Int)(r:Row):∀g:av (av Int×av Row),(addG k r g).map (·.1)=if k∈g.map (·.1) then g.map (·.1) else g.map (·.1)++[k]
 |[]=>rfl|p::t=>by
  unfold addG;by_cases e:p.1=k
  .rw[zzu e,zzu (by simp[e])];rfl
  .rw[zzn e,zzq,jd k r t];by_cases m:k∈t.map (·.1)
   .rw[zzu m,zzu (by rw[zzq];exact zzc _ m),zzq]
   .rw[zzn m,zzn (by rw[zzq];intro z;rcases zze.mp z with z|z;exact e z.symm;exact m z),zzq];rfl
structure GOk(C:List Int->Prop)(R:Row->Prop)(n:Nat)(g:List (List Int×List Row)):Prop where
 nd:(g.map (·.1)).Nodup
 it:∀p∈g,C p.1/\p.2≠[]/\p.2.length <= n/\∀r∈p.2,R r
 len:g.length <= n
theorem GOk.add{C:av Int->Prop}{R:Row->Prop}{g:av (av Int×av Row)}(h:GOk C R n g){k:av Int}{r:Row}(U:C k)(d:R r):GOk C R (n+1) (addG k r g):=by
 refine(?_,?_,?_)
 .rw[jd];split
  .exact h.nd
  .rename_i m;refine zyr.mpr (h.nd,'s',λa j b L e=>?_);rw[zzt.mp L]at e;exact m (e ▸ j)
 .have key:∀g:av (av Int×av Row),(∀p∈g,C p.1/\p.2≠[]/\p.2.length<=n/\∀r∈p.2,R r)->∀p∈addG k r g,C p.1/\p.2≠[]/\p.2.length<=n+1/\∀r∈p.2,R r:=by
   intro g
   induction g with
   |nil =>
    intro _ p J;rw[zzt.mp J];exact(U,'s','s',λx c=>by rw[zzt.mp c];exact d)
   |cons q t l =>
    intro h p J;unfold addG at J;split at J
    .rcases zze.mp J with rfl|J
     .have:=h q zzd;refine(this.1,'s',by simp;exact this.2.2.1,λx c=>?_);rcases zzg.mp c with c|c
      .exact this.2.2.2 x c
      .rw[zzt.mp c];exact d
     .have:=h p (zzc _ J);exact(this.1,this.2.1,zb2 this.2.2.1,this.2.2.2)
    .rcases zze.mp J with rfl|J
     .have:=h p zzd;exact(this.1,this.2.1,zb2 this.2.2.1,this.2.2.2)
     .exact l (λp J=>h p (zzc _ J)) p J
  exact key g h.it
 .have:=congrArg zai (jd k r g);rw[zza]at this;rw[this];split
  .rw[zza];exact zb2 h.len
  · simp;exact h.len
theorem Bq{C:av Int->Prop}{R:Row->Prop}:∀(ps:av (av Int×Row)),(∀p∈ps,C p.1/\R p.2)->GOk C R ps.length (grp ps):=by
 intro ps;generalize c:ps.length=n
 induction n generalizing ps with
 |zero =>
  intro _;have:ps=[]:=zyc.mp c;subst this;exact(zxU,λp J=>by simp[grp]at J,zyh _)
 |succ n U =>
  intro h;obtain⟨qs,p,rfl⟩:∃qs p,ps=qs++[p]:=(ps.dropLast,ps.getLast (by intro z;rw[z]at c;cases c),(zyF _).symm);rw[qP];have J:=h p 's';exact(U qs (by simp at c;exact c) λq L=>h q (by simp[L])).add J.1 J.2
noncomputable def ej(g:av (av Int×av Row))(k:av Int):av Row:=((g.find? λp=>decide (p.1=k)).map (·.2)).getD []
theorem Hv{g:av (av Int×av Row)}{k:av Int}(h:k∈g.map (·.1)):∃p∈g,p.1=k/\ej g k=p.2/\jR (embV g) (kI k)\(.lst (p.2.map rowD)):=by
 induction g with
 |nil=>cases h
 |cons q t L =>
  by_cases e:q.1=k
  .refine(q,zzd,e,?_,?_)
   .unfold ej;rw[zyj (by simpa using e)];rfl
   .unfold jR embV;rw[zzq,zyj (by simpa[yw]using e)];rfl
  .have d:k∈t.map (·.1):=by
    rcases zze.mp h with h|h
    .exact absurd h.symm e
    .exact h
   let(p,j,l,c,J):=L d;refine(p,zzc _ j,l,?_,?_)
   .unfold ej at c⊢;rw[zyk (by simpa using e)];exact c
   .unfold jR embV at J⊢;rw[zzq,zyk (by simpa[yw]using e)];exact J
def fm(ks:av (av Int)):av (av Int):=if ks.length<2 then ks else(kRun (λi j=>lexI ((ks.map kI).getD i []) ((ks.map kI).getD j [])) (zeo ks.length)).toList.map λi=>ks.getD i []
theorem mU(ks:av (av Int))(i:Nat):(ks.map kI).getD i []=kI (ks.getD i []):=by rw[zzw,zzw,zzz];cases ks[i]?<;>rfl
theorem vt(ks:av (av Int)):srtK (ks.map kI)=(fm ks).map kI:=by
 unfold srtK fm;rw[zza];split
 .rfl
 .rw[zzv];apply zzJ;intro i _;exact mU ks i
theorem bZ(ks:av (av Int)):(fm ks).Perm ks:=by
 unfold fm;split
 .exact zeV _
 .exact sF (KGood.end _ _ (eL 'l'))
def bQ(c:av Int×Row):D:=.tup [bV c.1,rowD c.2]
def bR(m:Nat)(ps:av (av Int×Row)):av (av Int×Row):=(fm ((grp ps).map (·.1))).map λk=>(k,sums (ej (grp ps) k) m)
def dU(r:Row):Prop:=∃c∈r,0<c.1
theorem Ka(h:∀n∈ns,0<=n):∀x∈ns,x<=ns.sum/\0<=ns.sum:=by
 induction ns with
 |nil=>intro x c;cases c
 |cons a r J =>
  intro x c;have h0:=h a zzd;have hr:0<=r.sum:=by
   cases r with
   |nil=>simp|cons b t=>exact(J (λn d=>h n (zzc _ d)) b zzd).2
  rw[zvs];rcases zze.mp c with rfl|c
  .lia
  .have:=(J (λn d=>h n (zzc _ d)) x c).1;lia
theorem yx{rows:av Row}(ho:∀r∈rows,RowN n m r)(o:rows≠[])(v:∀r∈rows,dU r):dU (sums rows m):=by
 cases rows with
 |nil=>exact absurd rfl o|cons J g =>
  let(c,q,hpos):=v J zzd;let(h,j):=List.getElem?_of_mem q;have l:h<m:=by have:=(zzC.mp j).1;rw[(ho J zzd).1]at this;exact this
  refine(sumP (col (J::g) h),zzi.mpr (h,zyK.mpr l,rfl),?_);have e:at_ J h=c:=by unfold at_;rw[zzw,j];rfl
  have U:c.1∈(col (J::g) h).map (·.1):=zzi.mpr (c,zzi.mpr (J,zzd,e),rfl);have L:∀x∈(col (J::g) h).map (·.1),0<=x:=λx B=>by let(d,hd,rfl):=zzi.mp B;let(r,u,rfl):=zzi.mp hd;have:=(xv (ho r u) l).2;have h1:=this.lo;have h2:=this.hi;lia
  have:=(Ka L _ U).1;unfold sumP;lia
theorem Kb(ds:av D):fzOs (ds.map O.val)=ds:=by
 induction ds with
 |nil=>rfl|cons d r J=>simp only[zzq,fzOs,fzO,J]
theorem LY(g:av (av Int×av Row)):fzO (dlO (emb g))=.dT ((embV g).map (·.1)) ((embV g).map (·.2)):=by
 unfold dlO emb embV;refine congr (congrArg D.dT ?_) ?_
 .rw[zzv,zzv];rfl
 .rw[qv,zzv,zzv,zzv];apply zzJ;intro p _;simp only[zcn,fzO,Kb]
theorem Bs{l:Nat}{ks:av (av Int)}(e:ks.Nodup)(d:∀k∈ks,k.length=l)(c:2<=ks.length):∀k∈ks,k≠[]:=by
 intro k j z;walk;subst z;have o:l=0:=(d [] j).symm;subst o;x_go
 match ks,e,d,c with
 |a::b::r,e,d,_ =>
  have g:a=[]:=zyc.mp (d a 's');have U:b=[]:=zyc.mp (d b 's');subst g U;simp at e
 |[_],_,_,c=>simp at c|[],_,_,c=>cases c
noncomputable def ltI:av Int->av Int->Bool
 |[],[]=>false|[],_::_=>true|_::_,[]=>false|a::r,b::c=>if a=b then ltI r c else decide (a<b)
theorem mV:∀a b:av Int,lexI (kI a) (kI b)=ltI a b
 |[],[]=>rfl|[],_::_=>rfl|_::_,[]=>rfl|a::r,b::c=>by
  show (if a=b then lexI (kI r) (kI c) else decide (a<b))=if a=b then ltI r c else decide (a<b)
  rw[mV r c]
theorem qQ:∀a:av Int,ltI a a=false
 |[]=>rfl|a::r=>by show (if a=a then ltI r r else _)=_;rw[zzu rfl];exact qQ r
theorem Bt:∀a b c:av Int,ltI a b=true->ltI b c=true->ltI a c=true
 |[],[],_,h,_=>by cases h
 |[],_::_,[],_,h=>by cases h
 |[],_::_,_::_,_,_=>rfl|_::_,[],_,h,_=>by cases h
 |_::_,_::_,[],_,h=>by cases h
 |a::r,b::s,c::t,e,d=>by
  unfold ltI at e d⊢;by_cases j:a=b
  .rw[zzu j]at e;subst j;by_cases g:a=c
   .rw[zzu g]at d⊢;exact Bt r s t e d
   .rw[zzn g]at d⊢;exact d
  .rw[zzn j]at e;have e:=zzX e;by_cases g:b=c
   .subst g;rw[zzn j];exact zzj e
   .rw[zzn g]at d;have d:=zzX d;rw[zzn 'o'];exact zzj 'o'
theorem Ft{a b:av Int}(h:ltI a b=true):ltI b a=false:=by
 cases e:ltI b a with
 |false=>rfl|true =>
  have:=Bt a b a h e;rw[qQ]at this;cases this
theorem Fu:∀a b:av Int,a≠b->ltI a b=false->ltI b a=true
 |[],[],h,_=>absurd rfl h|[],_::_,_,h=>by cases h
 |_::_,[],_,_=>rfl|a::r,b::s,h,e=>by
  unfold ltI at e⊢;by_cases z:a=b
  .subst z;rw[zzu rfl]at e⊢;exact Fu r s (λz=>h (by rw[z])) e
  .rw[zzn z]at e;rw[zzn (Ne.symm z)];have:=zyl e;exact zzj 'o'
theorem je{ks:av (av Int)}(o:ks.Nodup):(fm ks).Pairwise λa b=>ltI a b=true:=by
 unfold fm;by_cases h:ks.length<2
 .rw[zzu h];rcases ks with _|⟨_,_|_⟩
  .exact .nil
  .exact List.pairwise_singleton _ _
  .simp at h;lia
 .rw[zzn h];have O:StrO ks.length (λi j=>lexI ((ks.map kI).getD i []) ((ks.map kI).getD j [])):=by
   refine(λi j k _ _ _ c l=>?_,λi j _ _ c=>?_,λi j hi J e c=>?_)
   .simp only[mU,mV]at *;exact Bt _ _ _ c l
   .simp only[mU,mV]at *;exact Ft c
   .simp only[mU,mV]at *;refine Fu _ _ (λz=>e ?_) c;have d:ks.getD i []=ks[i]:=by simp[hi]
    have g:ks.getD j []=ks[j]:=by simp[J]
    rw[d,g]at z;exact(zxE o).mp z
  have pm:=KGood.end (λi j=>lexI ((ks.map kI).getD i []) ((ks.map kI).getD j [])) _ (eL (N:=ks.length) 'l');have as:=Dj O 'l';have sz:=pm.size;generalize kRun (λi j=>lexI ((ks.map kI).getD i []) ((ks.map kI).getD j [])) (zeo ks.length)=p at pm as sz;rw[zxk,zyt];intro i j hi J L;have:=as i j L (by rw[zzZ]at J;lia);simp only[mU,mV]at this;rw[zzZ]at hi J;have d:p.getD i 0=p[i]:=by simp[zbG,hi]
  have g:p.getD j 0=p[j]:=by simp[zbG,J]
  rw[d,g]at this;exact this
theorem Hw:∀{xs ys:av (av Int)},xs.Pairwise (λa b=>ltI a b=true)->ys.Pairwise (λa b=>ltI a b=true)->(∀k,k∈xs↔k∈ys)->xs=ys
 |[],[],_,_,_=>rfl|[],y::ys,_,_,h=>absurd ((h y).mpr zzd) 's'|x::xs,[],_,_,h=>absurd ((h x).mp zzd) 's'|x::xs,y::ys,o,q,h=>by
  let(L,j):=zdw.mp o;let(U,l):=zdw.mp q;have g:x=y:=by
   rcases zze.mp ((h x).mp zzd) with e|e
   .exact e
   .rcases zze.mp ((h y).mpr zzd) with c|c
    .exact c.symm
    .have a:=U x e;have b:=L y c;rw[Ft a]at b;cases b
  subst g;have d:∀{zs:av (av Int)},(∀z∈zs,ltI x z=true)->x∉zs:=λu m=>by have:=u x m;rw[qQ]at this;cases this
  rw[Hw j l λk=>(λJ=>?_,λJ=>?_)]
  .rcases zze.mp ((h k).mp (zzc _ J)) with rfl|e
   .exact absurd J (d L)
   .exact e
  .rcases zze.mp ((h k).mpr (zzc _ J)) with rfl|e
   .exact absurd J (d U)
   .exact e
theorem Bu{xs:av (av Int)}(c:xs.Nodup)(d:ys.Nodup)(h:∀k,k∈xs↔k∈ys):fm xs=fm ys :=
 Hw (je c) (je d) λk=>by rw[(bZ xs).mem_iff,(bZ ys).mem_iff];exact h k
theorem Bv(ps:av (av Int×Row)):((grp ps).map (·.1)).Nodup:=(Bq (C:=λ_=>True) (R:=λ_=>True) ps λ_ _=>(trivial,trivial)).nd
theorem xw(k:av Int)(r:Row)(d:av Int):∀g:av (av Int×av Row),ej (addG k r g) d=if k=d then ej g d++[r] else ej g d
 |[]=>by
  unfold addG ej;by_cases e:k=d
  .rw[zzu e,zyj (by simpa using e)];rfl
  .rw[zzn e,zyk (by simpa using e)]
 |p::t=>by
  have J:=xw k r d t;unfold addG;unfold ej at J⊢;by_cases e:p.1=k
  .rw[zzu e];by_cases c:k=d
   .rw[zzu c,zyj (by simp[e,c]),zyj (by simp[e,c])];rfl
   .rw[zzn c,zyk (by simp[e,c]),zyk (by simp[e,c])]
  .rw[zzn e];by_cases c:p.1=d
   .rw[zyj (by simpa using c),zyj (by simpa using c),zzn (λz=>e (by rw[c,z]))]
   .rw[zyk (by simpa using c),zyk (by simpa using c)];exact J
theorem jV(ps:av (av Int×Row))(k:av Int):ej (grp ps) k=(ps.filter λp=>decide (p.1=k)).map (·.2):=by
 have key:∀(qs:av (av Int×Row))g,ej (qs.foldl (λg (p:av Int×Row)=>addG p.1 p.2 g) g) k=ej g k++(qs.filter λp=>decide (p.1=k)).map (·.2):=by
  intro qs
  induction qs with
  |nil=>intro g;simp|cons q t J =>
   intro g;rw[zwo,J,xw];by_cases e:q.1=k
   .rw[zzu e,zyT (by simpa using e),zzq,zzI];rfl
   .rw[zzn e,zyU (by simpa using e)]
 rw[grp,key];rfl
theorem mW(ps:av (av Int×Row))(k:av Int):k∈(grp ps).map (·.1)↔k∈ps.map (·.1):=by
 have key:∀(qs:av (av Int×Row))g,k∈(qs.foldl (λg (p:av Int×Row)=>addG p.1 p.2 g) g).map (·.1)↔k∈g.map (·.1)∨k∈qs.map (·.1):=by
  intro qs
  induction qs with
  |nil=>intro g;simp|cons q t J =>
   intro g;rw[zwo,J,jd,zzq,zze];by_cases m:q.1∈g.map (·.1)
   .rw[zzu m];constructor
    .rintro(h|h)
     .exact .inl h
     .exact .inr (.inr h)
    .rintro(h|h|h)
     .exact .inl h
     .exact .inl (h ▸ m)
     .exact .inr h
   .rw[zzn m,zzg,zzt];constructor
    .rintro((h|h)|h)
     .exact .inl h
     .exact .inr (.inl h)
     .exact .inr (.inr h)
    .rintro(h|h|h)
     .exact .inl (.inl h)
     .exact .inl (.inr h)
     .exact .inr h
 rw[grp,key];simp
theorem yy(J:∀k,k∈ps.map (·.1)↔k∈qs.map (·.1))(hs:∀k∈ps.map (·.1),sums ((ps.filter λp=>decide (p.1=k)).map (·.2)) m=sums ((qs.filter λp=>decide (p.1=k)).map (·.2)) m):bR m ps=bR m qs:=by
 unfold bR;rw[Bu (Bv ps) (Bv qs) λk=>by rw[mW,mW];exact J k];apply zzJ;intro k h;have h:k∈ps.map (·.1):=by rw[(bZ _).mem_iff,mW]at h;exact(J k).mpr h
 rw[jV,jV,hs k h]
noncomputable def kH(r:Row):Bool:=(r.map λc=>decide (0<c.1)).any id
theorem triedB_iff{r:Row}:kH r=true↔dU r:=by
 unfold kH dU;rw[zwb];constructor
 .rintro⟨b,L,e⟩;let(c,J,rfl):=zzi.mp L;exact(c,J,by simpa using e)
 .rintro⟨c,J,U⟩;exact(true,zzi.mpr (c,J,by simpa using U),rfl)
def Kc:DSp:=λc Q=>∃r:Row,c=[.tup (r.map dG)]/\r.length<=1000/\Q (.bl (kH r))
theorem yz(T:Tx K mg):T.yQ.Ok P w base CX0 1 (spD K 1 Kc):=by
 refine fnd ["counts"] (λhr _=>(dr (aR Jz T.Mj PyProof.Rows.boot_any (da1 (dfc (aH ["count"] [none] rfl (eQ (dv 0)) (dgb 0) aG (dc qy (dx 0) ai))))))) (λds Q d h=>?_);let(r,rfl,d,h):=h;refine bG (D.bl ∘ λc=>decide (0<c.1)) (λe=>∃s,e=[s]) (zzk d 'd') (λc _ e Y Z J L=>?_) _ (_,rfl) ?_
 .let(s,rfl):=J;exact Br.t (L _ (_,rfl))
 .rw[<-zzv];exact mD h
def gath(n:Nat)(ps:av (av Int×Row)):av (av Int×Row):=(bR n ps).filter λc=>kH c.2
def Fv:DSpN:=λc _ L=>∃(n:Nat)(d:D)(ps:av (av Int×Row))(l:Nat),c=[.int n,d]/\(d=.lst (ps.map bQ)∨d=.tup (ps.map bQ))/\(n<=6/\ps.length<=60/\∀p∈ps,p.1.length=l/\RowN 110 n p.2)/\L ((gath n ps).map bQ)
theorem vv(T:Tx K mg):T.ki.Ok P w base CX0 3 (spDN K 2 Fv):=by
 refine fnDN T.ki.d.F vi (λx _=>(wU (AX 2) (GX (dL (AT (dv 1)) (dg2 3 4) (az (JG x (pv 2) (pv 3) (pv 4)))) (wU (jP 5 (aH ["kinds","many","found"] [none,some 0,some 2] rfl (bq (aR wW T.rJ 'k' (a1 2))) (dgb 0) aG (aC (ae (dv 0) (da1 (dcl (dS T) x (ae (dv 1) (da1 (Fk x (dv 2) (dv 0) (λ_ _=>rfl)))))))))) (GW (PCD.pld (aH ["cell"] [none] rfl (bq (dv 5)) (dgb 0) (AQ (bc (dcl (yz T) x (da1 (dx 0))))) (dv 0)))))))) (λds Q L hl h=>?_);let(n,d,ps,l,rfl,o,(n6,M,a9),h):=h;have I:∀qs:av (av Int×Row),(∀p∈qs,p∈ps)->GOk (λk=>k.length=l) (λr=>RowN 110 n r) qs.length (grp qs):=λqs u=>Bq qs λp o=>a9 p (u p o);refine(λj=>∃(B:D)(a b:Sl),j=[.val (.int n),.val B,.obj (dlO (emb (grp ps))),a,b,.nil],?_,?_)
 .refine Bo o ?_;refine dP (λpre j=>∃(B:D)(a b:Sl),j=[.val (.int n),.val B,.obj (dlO (emb (grp pre))),a,b,.nil]) (λj U=>U) (λE p p1 j X e U hX=>?_) _ (_,_,_,rfl);let(B,a,b,rfl):=U;subst e;have go:=I E λq u=>by simp[u]
  have pl:E.length<=60:=by rw[zzh]at M;lia
  refine(rfl,emb (grp E),kI p.1,rowD p.2,rfl,?_,rfl,?_,λq u=>?_,hX _ (_,_,_,by rw[qP,Bp];rfl))
  .show Sl.val (bV p.1)=_;rw[ir]
  .unfold emb;rw[zza];exact zzE (show (grp E).length<=60 from zzk go.len pl) 'd'
  .let(i,b1,rfl):=zzi.mp u;rw[zza];exact zzE (show i.2.length<=60 from zzk (go.it i b1).2.2.1 pl) 'd'
 .rintro _ ⟨B,a,b,rfl⟩;have go:=I ps λq u=>u;have v:(emb (grp ps)).map (·.1)=((grp ps).map (·.1)).map kI:=by unfold emb;rw[zzv,zzv];rfl
  have kl:((grp ps).map (·.1)).length<=60:=by rw[zza];exact zzk go.len M
  have b2:∀k∈(grp ps).map (·.1),k.length=l:=λk v=>by let(p,o,rfl):=zzi.mp v;exact(go.it p o).1
  have sl:(fm ((grp ps).map (·.1))).length<=60:=by rw[(bZ _).length_eq];exact kl
  refine((λk J=>?_,λG k J=>?_,?_),?_)
  .rw[v]at J;let(H,_,rfl):=zzi.mp J;exact qO H
  .rw[v]at G J;rw[zza]at G;let(H,A,rfl):=zzi.mp J;intro z;exact Bs go.nd b2 G H A (pH (b:=[]) z)
  .rw[v,zza];lia
  .have e1:(srtK ((emb (grp ps)).map (·.1))).map keyD=(fm ((grp ps).map (·.1))).map bV:=by
    rw[v,vt,zzv];apply zzJ;intro k _;exact(ir k).symm
   show cZ _ _ _ ((srtK ((emb (grp ps)).map (·.1))).map keyD) _ _ _;rw[e1];refine bY (λpre g j=>g=(pre.map λk=>(k,sums (ej (grp ps) k) n)).map bQ/\∃s:Sl,j=[s,.val (.int n),.val (fzO (dlO (emb (grp ps))))]) (λg j U=>?_) (λk0 k k1 g j Y e U C=>?_) _ (rfl,_,rfl)
   .let(rfl,s,rfl):=U;have m:((fm ((grp ps).map (·.1))).map λk=>(k,sums (ej (grp ps) k) n))=bR n ps:=rfl;rw[m];have b3:(bR n ps).length<=60:=by unfold bR;rw[zza];exact sl
    refine bY (λpre g j=>g=(pre.filter λc=>kH c.2).map bQ/\∃s:Sl,j=[s]) (λg j U=>by rw[U.1];exact h) (λc0 c c1 g j Y e U C=>?_) _ (rfl,_,rfl);let(rfl,s,rfl):=U;rw[e,zzh]at b3;have hc:c∈bR n ps:=by rw[e];simp
    have y:c.2.length<=1000:=by let(k,_,rfl):=zzi.mp hc;show (sums _ n).length<=1000;unfold sums;rw[zza,zxi];lia
    refine(rfl,c.2,rfl,y,?_);cases z:kH c.2 with
    |true =>
     refine Br.t (?_,C _ _ (by rw[zyz,zyT (by simpa using z)];simp,_,rfl));rw[zza];exact zzE (show _<=60 from zzk (zxg _ _) 'l') 'd'
    |false=>exact Br.f (C _ _ (by rw[zyz,zyU (by simp[z])];simp,_,rfl))
   .let(rfl,s,rfl):=U;have J:k∈fm ((grp ps).map (·.1)):=by rw[e];simp
    let(p,o,_,h3,h4):=Hv ((bZ _).mem_iff.mp J);have N:=go.it p o;rw[e,zzh]at sl;refine Br.t (embV (grp ps),kI k,.lst (p.2.map rowD),LY _,ir k,h4,rfl,n,p.2,rfl,(n6,zzk N.2.2.1 'l',λr x=>(N.2.2.2 r x).up),sz,?_,C _ _ (by rw[zzm,zzm,<-h3];rfl,_,rfl));rw[zza,zza];exact zzE (show k0.length<=60 by lia) 'd'
def Kd:DSp:=λc Q=>Fv c Q λd=>Q (.lst d)
theorem gG(T:Tx K mg):T.ki.Ok P w base CX0 3 (spD K 2 Kd):=Tactic.FnOk.asD (vv T) (λds Q h=>h)
noncomputable def oq(lo hi:Nat)(x:Str):Bool:=x.cps.toList.all λc=>decide (lo<=c) && decide (c<=hi)
theorem Bw(a c:Nat):(!decide ([c] < [a]))=decide (a<=c):=by
 by_cases h:a<=c
 .rw[zzj h,zzo]
  .rfl
  .intro z;cases z with
   |rel z=>exact absurd z 'l'|cons z=>cases z
 .rw[zzo h,zzj]
  .rfl
  .exact .rel 'l'
theorem pI{a b:Nat}{x:Str}{Q:av D->Prop}(g:x.length<=100000)(U:Q (x.cps.toList.map λc=>D.bl (decide (a<=c) && decide (c<=b)))) :
  cZ (bO 0) cf (wK (g2S (λ_ _=>True) λi j=>D.bl !decide (j.cps.toList<i.cps.toList)) (g2S (λ_ _=>True) λi j=>D.bl !decide (j.cps.toList<i.cps.toList)) (dC (.str ⟨#[a]⟩)) (dVar 0) (dC (.str ⟨#[b]⟩))) (qG x) [] [s] Q:=by
 refine bG _ (λd=>∃s,d=[s]) (by rw[zzZ];exact zzk g 'd') (λc _ d Y Z J L=>?_) _ (_,rfl) U;let(s,rfl):=J;refine Br.t (trivial,?_);show Br (!decide ([c] < [a])) _ _;rw[Bw];have:=L [.val (.str ⟨#[c]⟩)] (_,rfl);refine(λe=>(trivial,?_),λe=>?_)
 .show Y (.bl (!decide ([b] < [c]))) _;simp only[e,zxw]at this;rw[Bw];exact this
 .simp only[e,zxC]at this;exact this
def isNm(x:Str):Bool:=decide (1<=x.length) && decide (x.length<=8) && oq 97 122 x
theorem tN{a b:Nat}{x:Str}{P:D->Prop}(h:P (.bl (oq a b x))):gTru (λbs=>bs.all id) [.lst (x.cps.toList.map λc=>D.bl (decide (a<=c) && decide (c<=b)))] P:=by
 have:=mD (f:=λbs=>bs.all id) (P:=P) (by rw[zej];exact h)
 rw[zzv]at this;exact this
inductive pU(ds:List D)(Q:D->Prop):Prop
 |mk (x:Str):ds=[.str x]->x.length <= 100000->Q (.bl (isNm x))->pU ds Q
theorem mX(T:Tx K mg):T.Ci.Ok P w base CX0 1 (spD K 1 pU):=by
 refine fnd ["word"] (λhr _=>(dr (eO (gD ij ij ai (dln vf T.bJ (dv 0)) (cL rfl T.nT)) (fH (aR pz T.yU zaF (da1 (dfc (aH ["sign"] [none] rfl (Fq (dv 0)) (dgb 0) aG (gD xg xg ag (dv 0) ag))))))))) (λds Q hl h=>?_);let(x,rfl,e,h):=h;unfold isNm at h;refine((show x.length<=zaa from zzk e 'd'),λc=>(λd=>?_,λd=>?_),λc=>Br.f ?_)
 .rw[zzj (by have:=zzX c;lia),zzj (by have:=zzX d;lia)]at h;exact(x,rfl,pI e (tN h))
 .rw[zzo (p:=x.length<=8) (by have:=zyl d;lia),zvm]at h;exact h
 .rw[zzo (by have:=zyl c;lia)]at h;exact h
theorem fq{i j:Str}:eqD (.str i) (.str j)=decide (i=j):=by show (i==j)=_;by_cases h:i=j<;>simp[h]
structure TxOk(x:Str):Prop where
 le:x.length <= 100000
 ok:zal x=true
theorem aS{x:Str}(h:zal x=true):shp (.str x)=true:=by show (true && (zal x && decide (0<=64)))=true;rw[h];rfl
theorem ok1{c:Nat}(h:c<1114112):zal ⟨#[c]⟩=true:=by simp[zal,h]
theorem Ke{x:Str}(h:zal x=true){c:Nat}(J:c∈x.cps.toList):c<1114112:=by have:=zyJ.mp h c (zyR.mp J);simpa using this
noncomputable def Kf:Str:=zao "0"
theorem at0(h:1<=z.length):∃c,atI z.cps.toList 0\c/\z.cps.toList.head? = some c:=by have(d,e,g):=AN (xs:=z.cps.toList) (r:=0) (zyH 0) (by rw[zzZ];have:z.length=z.cps.size:=rfl;lia);exact(d,e,by rw[List.head?_eq_getElem?];exact g)
theorem one_eq{c d:Nat}:((⟨#[c]⟩:Str)=⟨#[d]⟩)↔c=d:=(λh=>by injection h with h;simpa using h,λh=>by rw[h])
def cD(x:Str):Bool:=decide (1<=x.length) && decide (x.length<=30) && oq 48 57 x && (decide (x=Kf) || !decide (x.cps.toList.head? = some 48))
inductive gNum(ds:List D)(Q:D->Prop):Prop
 |mk (x:Str):ds=[.str x]->TxOk x->Q (.bl (cD x))->gNum ds Q
theorem ft(T:Tx K mg):T.vW.Ok P w base CX0 1 (spD K 1 gNum):=by
 refine fnd ["word"] (λl _=>(af (dir (PWD.pt (dA (bu (wL ij ij ai (dln vf T.bJ (dv 0)) (cL rfl T.nR))) (ck (bu (bc (aR pz T.yU zaF (da1 (dfc (aH ["sign"] [none] rfl (Fq (dv 0)) (dgb 0) aG (gD xg xg ag (dv 0) ag)))))))))) fR) (dr (Jf (dc (cc l) (dv 0) ag) (fH (dc (gc l) (Fo (dv 0) ai (λ_ _=>rfl)) ag)))))) (λds Q hl h=>?_);let(x,rfl,(o,e),h):=h;unfold cD at h;have u:x.length<=zaa:=zzk o 'd';refine(u,λd=>?_,λd=>Br.t (Br.t ?_))
 .have d:=zzX d;rw[zzj (p:=1<=x.length) 'l']at h;by_cases j:x.length<=30
  .rw[zzj j]at h;have J:decide (((x.length:Nat):Int)<=30)=true:=zzj 'l';show Br (!decide (((x.length:Nat):Int)<=30)) _ _;rw[J];refine Br.f (x,rfl,pI o (tN ?_));show Br (!oq 48 57 x) _ _;cases U:oq 48 57 x with
   |false =>
    rw[U]at h;exact Br.t h
   |true =>
    rw[U]at h;refine Br.f ((aS e,aS 'k'),?_);show Br (eqD (.str x) (.str Kf)) _ _;rw[fq];refine(λL=>?_,λL=>?_)
    .rw[L]at h;exact h
    .rw[L]at h;let(c,v,g):=at0 (z:=x) 'l';refine(u,c,v,(aS (ok1 (Ke e (List.mem_of_mem_head? g))),aS 'k'),?_);show Q (.bl (!eqD (.str ⟨#[c]⟩) (.str ⟨#[48]⟩)));rw[fq];rw[g]at h;have:decide ((⟨#[c]⟩:Str)=⟨#[48]⟩)=decide (some c\48):=by
      by_cases q:c=48
      · simp
      .rw[zzo (λz=>q (one_eq.mp z)),zzo (λz=>q (zzP z))]
     rw[this];exact h
  .rw[zzo j]at h;have J:decide (((x.length:Nat):Int)<=30)=false:=zzo 'l';show Br (!decide (((x.length:Nat):Int)<=30)) _ _;rw[J];exact Br.t (Br.t h)
 .have d:=zyl d;rw[zzo (p:=1<=x.length) 'l']at h;exact h
def nmsB(ws:av Str):Bool:=ws.all isNm && decide ((metS ws).length=ws.length)
inductive gNames(ds:List D)(Q:D->Prop):Prop
 |mk (ws:List Str):ds=[.lst (ws.map .str)]->ws.length <= 1000->(∀x∈ws,x.length <= 100000)->Q (.bl (nmsB ws))->gNames ds Q
theorem iu(T:Tx K mg):T.vO.Ok P w base CX0 2 (spD K 1 gNames):=by
 refine fnd ["words"] (λe _=>(dr (eO (aR pz T.yU zaF (da1 (dfc (aH ["word"] [none] rfl (bq (dv 0)) (dgb 0) aG (dcl (mX T) e (a1 0)))))) (fH (dc (cc e) (yn rfl rfl T.bJ rfl T.KB (dv 0)) (dln bz T.bJ (dv 0))))))) (λds Q _ h=>?_);let(ws,rfl,d,l,h):=h;refine bG (D.bl ∘ isNm) (λg=>∃s,g=[s]) (zzk d 'd') (λx j g Y Z J L=>?_) _ (_,rfl) ?_
 .let(s,rfl):=J;exact Br.t (rfl,x,rfl,l x j,L _ (_,rfl))
 .rw[<-zzv];refine mD ?_;unfold nmsB at h;rw[zej];refine(λc=>(ws,rfl,d,(rfl,rfl),?_),λc=>?_)
  .rw[show ws.all isNm=true from c,zxw]at h;rw[cJ,zza];have:decide (((metS ws).length:Int)=(ws.length:Int))=decide ((metS ws).length=ws.length):=by
    by_cases q:(metS ws).length=ws.length
    .rw[zzj q,zzj 'l']
    .rw[zzo q,zzo 'l']
   rw[this];exact h
  .rw[show ws.all isNm=false from c,zxC]at h;exact h
theorem cW(f:α->D)(k:Nat)(ws:av α)(h:k<=ws.length):cutD (ws.map f) (some (k:Int)) none=(ws.drop k).map f:=by unfold cutD;rw[HT.sIx_none,HT.sIx_nat,zza,zwn h,<-List.map_drop,zwJ 's']
noncomputable def aI:Str:=zao "houses"
noncomputable def eG:Str:=zao "mark"
noncomputable def gi:Str:=zao "case"
def hlB(w:Str)(r:av Str):Bool:=decide (w=aI) && (decide (2<=r.length) && decide (r.length<=6)) && nmsB r
inductive gHl(ds:List D)(Q:D->Prop):Prop
 |mk (w:Str) (r:List Str):ds=[.lst ((w::r).map .str)]->r.length <= 200000->TxOk w->(∀x∈r,TxOk x)->Q (.bl (hlB w r))->gHl ds Q
theorem fO(T:Tx K mg):T.li.Ok P w base CX0 3 (spD K 1 gHl):=by
 refine fnd ["words"] (λg _=>(dr (eO (dc (cc g) (dx 0) ag) (eO (gD ij ij (cL rfl T.gr) (ak kA (dln bz T.bJ (dv 0)) ai) (cL rfl T.gW)) (fH (dcl (iu T) g (da1 (aq (eS (dv 0) (cI ai) dF))))))))) (λds Q hl h=>?_);have(x,r,rfl,g,j,ho,h):=h;unfold hlB at h;refine aX (d:=.str x) (zyH 0) rfl ((aS j.ok,aS 'k'),?_);show Br (eqD (.str x) (.str aI)) _ _;rw[fq];refine(λe=>?_,λe=>?_)
 .rw[e,zxw]at h;have el:(((((x::r).map D.str).length:Nat):Int)-1)=(r.length:Int):=by rw[zza,zzl];lia
  refine(λc=>(λJ=>?_,λJ=>?_),λc=>Br.f ?_)
  .have c:=zzX c;rw[zzj (p:=2<=r.length) 'l',zzj (p:=r.length<=6) 'l']at h;refine(rfl,r,?_,'l',λy l=>(ho y l).le,h);have:=cW D.str 1 (x::r) 's';exact congrArg (λz=>[D.lst z]) this
  .have J:=zyl J;rw[zzo (p:=r.length<=6) 'l',zvm]at h;exact h
  .have c:=zyl c;rw[zzo (p:=2<=r.length) 'l']at h;exact h
 .rw[e]at h;exact h
theorem cK(ws:av Str):(ws.map D.str).all fT=true:=by rw[zej];exact zyA.mpr λ_ _=>rfl
theorem Bx:eqF (.str a) (.str b)=decide (a=b):=by show (a==b)=_;by_cases h:a=b<;>simp[h]
theorem iw{n:Str}:((ws.map D.str).any λy=>eqF y (.str n))=decide (n∈ws):=by
 rw[zef];by_cases h:n∈ws
 .rw[zzj h];exact zwb.mpr (n,h,by show eqF (.str n) (.str n)=true;rw[Bx];simp)
 .rw[zzo h];refine zdP.mpr λy c=>?_;show ¬(eqF (.str y) (.str n)=true);intro z;have:=zzX z;subst this;exact h c
def mlB(taken:av Str):av Str->Bool
 |w::n::r=>decide (w=eG) && (decide (1<=r.length) && decide (r.length<=6)) && isNm n && !decide (n∈taken) && nmsB r|_=>false
inductive gMl(ds:List D)(Q:D->Prop):Prop
 |mk (ws taken:List Str):ds=[.lst (ws.map .str),.lst (taken.map .str)]->ws≠[]->ws.length <= 200000->(∀x∈ws,TxOk x)->Q (.bl (mlB taken ws))->gMl ds Q
theorem ou(T:Tx K mg):T.oG.Ok P w base CX0 3 (spD K 2 gMl):=by
 refine fnd ["words","taken"] (λj _=>(af (dir (PWD.pt (dA (aE (gc j) (dx 0) ag) (ck (bu (wL ij ij ai (ak kA (dln bz T.bJ (dv 0)) ai) (cL rfl T.jB)))))) fR) (dr (eO (dcl (mX T) j (da1 (dx 0))) (eO (dc iY (dx 0) (dv 1) rfl) (fH (dcl (iu T) j (da1 (aq (eS (dv 0) (cI ai) dF)))))))))) (λds Q hl h=>?_);let(ws,e,rfl,U,j,ho,h):=h;cases ws with
 |nil=>exact absurd rfl U|cons x r =>
 refine aX (d:=.str x) (zyH 0) rfl ((aS (ho x 's').ok,aS 'k'),?_);show Br (!eqD (.str x) (.str eG)) _ _;rw[fq];by_cases g:x=eG
 .rw[zzj g];refine Br.f ?_;have o:((((x::r).map D.str).length:Nat):Int)=(r.length:Int)+1:=by rw[zza,zzl];lia
  refine(λc=>?_,λc=>Br.t ?_)
  .have c:=zzX c;cases r with
   |nil=>exact absurd c 's'|cons n r =>
    change Q (.bl (decide (x=eG) && (decide (1<=r.length) && decide (r.length<=6)) && isNm n && !decide (n∈e) && nmsB r)) at h;rw[zzj g,zxw]at h;have o:((((x::n::r).map D.str).length:Nat):Int)-2=(r.length:Int):=by rw[zza,zzl,zzl];lia
    rw[zzj (p:=1<=r.length) 'l',zxw]at h;by_cases l:r.length<=6
    .rw[zzj l,zxw]at h;show Br (!decide (((((x::n::r).map D.str).length:Nat):Int)-2<=6)) _ _;rw[zzj (p:=((((x::n::r).map D.str).length:Nat):Int)-2<=6) 'l'];have u:=ho n 's';refine Br.f (aX (d:=.str n) (r:=1) 'd' rfl (rfl,n,rfl,u.le,?_));refine(λJ=>?_,λJ=>?_)
     .rw[J,zxw]at h;refine aX (d:=.str n) (r:=1) 'd' rfl ((rfl,cK e),?_);rw[iw];refine(λL=>?_,λL=>?_)
      .rw[show (!decide (n∈e))=true from L,zxw]at h;refine(rfl,r,?_,'l',λy q=>(ho y (by simp[q])).le,h);have:=cW D.str 2 (x::n::r) 's';exact congrArg (λz=>[D.lst z]) this
      .rw[show (!decide (n∈e))=false from L,zxC]at h;exact h
     .rw[J,zxC,zxC]at h;exact h
    .rw[zzo l]at h;show Br (!decide (((((x::n::r).map D.str).length:Nat):Int)-2<=6)) _ _;rw[zzo (p:=((((x::n::r).map D.str).length:Nat):Int)-2<=6) 'l'];exact Br.t h
  .have c:=zyl c;cases r with
   |nil=>exact h|cons n r =>
    change Q (.bl (decide (x=eG) && (decide (1<=r.length) && decide (r.length<=6)) && isNm n && !decide (n∈e) && nmsB r)) at h;have o:((((x::n::r).map D.str).length:Nat):Int)-2=(r.length:Int):=by rw[zza,zzl,zzl];lia
    rw[zzo (p:=1<=r.length) 'l']at h;simpa using h
 .rw[zzo g];refine Br.t (Br.t ?_);cases r with
  |nil=>exact h|cons n r =>
   change Q (.bl (decide (x=eG) && (decide (1<=r.length) && decide (r.length<=6)) && isNm n && !decide (n∈e) && nmsB r)) at h;rw[zzo g]at h;exact h
theorem By[Frm]{X:Cx}{xi:XI}(hs:X.stack=X.env::X.outer)(J:X.env.frame\X.env.locals):zeF (model X.prog X.w) X.A X.env (XF X (WLA xi X.K)):=λe s' h=>by let(ea,C,dd,B,σ,H,a,b,c,I,f):=id h;exact ET (M:=model X.prog X.w) (A':=X.A) (A:=X.A) I.ok.frames hs J e s' h
structure Rt where
 h:Int
 ks:List Int
 t:Int
 w:Int
noncomputable def rtD(r:Rt):D:=.tup [.int r.h,.tup (r.ks.map .int),.int r.t,.int r.w]
inductive gBehind(ds:List D)(Q:D->Prop):Prop
 |mk (r o:Rt):ds=[rtD r,rtD o]->Q (.bl (gtP r.ks r.h o.ks o.h))->gBehind ds Q
theorem vw(T:Tx K mg):T.vT.Ok P w base CX0 1 (spD K 2 gBehind):=by refine fnd ["row","other"] (λc _=>(dr (dc (JP c) (aC (ae (dx 0) (da1 (dx 0)))) (aC (ae (dx 1) (da1 (dx 1))))))) (λds Q hl h=>?_);let(r,o,rfl,h):=h;exact(sz,sz,r.ks,r.h,o.ks,o.h,(rfl,rfl),h)
abbrev Mk:=Str×av Str
variable{ms:av Mk}
noncomputable abbrev mkD(m:Mk):D:=.tup [.str m.1,.lst (m.2.map .str)]
abbrev nmD(hs:av Str)(ms:av Mk):D:=.tup [.lst (hs.map .str),.lst (ms.map mkD)]
noncomputable def plc(x:Str)(ws:av Str):Nat:=ws.findIdx λy=>decide (y=x)
structure CsOk(hs:List Str)(ms:List Mk)(hn:Str)(kw:List Str)(a b:Str)(t w:Nat):Prop where
 hh:hn∈hs
 kl:kw.length=ms.length
 kk:∀(i:Nat)(x:Str)(m:Mk),kw[i]? = some x->ms[i]? = some m->x∈m.2
 na:cD a=true
 nb:cD b=true
 ta:intText? a\(t:Int)
 tb:intText? b\(w:Int)
 t0:0<t
 tw:w <= t
 oa:TxOk a
 ob:TxOk b
def kpl(kw:av Str)(ms:av Mk):av Int:=(kw.zip ms).map λp=>(plc p.1 p.2.2:Int)
theorem tO{xs:av α}{k:Nat}(hk:0<k){d:α}(c:k<=xs.length)(e:xs[xs.length-k]?\d):atI xs (-(k:Int))\d:=by unfold atI ixN;rw[zzn 'l',zzu 'l',show (-(k:Int)+xs.length).toNat=xs.length-k by rw[Int.add_comm,<-Int.sub_eq_add_neg,<-Int.ofNat_sub c];exact zzV _];exact e
theorem jf{x:Str}(h:cD x=true):x.length<=30:=by unfold cD at h;simp only[zya,zxj]at h;exact h.1.1.2
theorem qR{x:Str}(h:x∈ws):(∃z,(ws.map D.str)[plc x ws]?\z/\eqF z (.str x)=true)/\∀m z,m<plc x ws->(ws.map D.str)[m]?\z->eqF z (.str x)=false:=by
 have c:plc x ws<ws.length:=zyw (x,h,'s');refine((.str ws[plc x ws],by rw[zzz,zzp c];rfl,?_),λm z g e=>?_)
 .rw[Bx];exact zwd (p:=λy=>decide (y=x)) (w:=c)
 .rw[zzz]at e;let(y,d,rfl):=zyi.mp e;have J:m<ws.length:='l'
  rw[zzp J]at d;cases d;have:=List.not_of_lt_findIdx (p:=λy=>decide (y=x)) g;exact this
structure Cs where
 hn:Str
 kw:List Str
 a:Str
 b:Str
 t:Nat
 w:Nat
def Cs.ln(c:Cs):av Str:=gi::c.hn::c.kw++[c.a,c.b]
def Cs.rt(hs:av Str)(ms:av Mk)(c:Cs):Rt:=(plc c.hn hs,kpl c.kw ms,c.t,c.w)
abbrev Cs.Ok(hs:av Str)(ms:av Mk)(c:Cs):Prop:=CsOk hs ms c.hn c.kw c.a c.b c.t c.w
theorem pJ{w:Str}{kw:av Str}{c:Cs}(e:gi::(w::kw++[a,b])=c.ln):c.hn=w/\c.kw=kw/\c.a=a/\c.b=b:=by unfold Cs.ln at e;simp only[zzO,zyV,true_and]at e;let(d,g):=e;let(L,J):=zcr g rfl;simp only[zyV,and_true]at J;exact(d.symm,L.symm,J.1.symm,J.2.symm)
theorem Bz{c d:Cs}(e:c.ln=d.ln)(o:c.Ok hs ms)(p:d.Ok hs ms):d=c:=by
 let(a1,a2,a3,J):=pJ (w:=c.hn) (kw:=c.kw) (a:=c.a) (b:=c.b) (c:=d) e;let(h1,k1,x1,y1,t1,w1):=c;let(h2,k2,x2,y2,g,j):=d;subst a1 a2 a3 J;have e1:=o.ta.symm.trans p.ta;have e2:=o.tb.symm.trans p.tb;have L:g=t1:='l'
 have U:j=w1:='l'
 rw[L,U]
theorem LZ{r:av Str}(h:r.length=n+3):∃w kw a b,r=w::kw++[a,b]/\kw.length=n:=by
 match r,h with
 |w::q,h =>
  have hq:q.length=n+2:=by simpa using h
  refine(w,q.take n,q[n],q[n+1],?_,by rw[zyv];lia);have:q.drop n=[q[n],q[n+1]]:=by rw[zyN 'o',zyN 'o',List.drop_of_length_le 'l']
  rw[zzO,<-this,zxW]
theorem qS{x:Str}(h:cD x=true):∃t:Nat,intText? x\(t:Int):=by unfold cD oq at h;simp only[zya,zxj,zyA]at h;have(((h1,h2),d),h4):=h;have J:x.cps.toList.length=x.length:=zzZ;exact(_,zvd (x:=x) (λc e=>d c e) (λz=>by rw[z]at J;simp at J;lia) 'l')
structure LnOk(ws:List Str):Prop where
 ne:ws≠[]
 le:ws.length <= 200000
 ok:∀x∈ws,TxOk x
inductive gRowOf(ds:List D)(Q:D->Prop):Prop where
 |mk (hs:List Str) (ms:List Mk) (ws:List Str):(ds=[.lst (ws.map .str),nmD hs ms])->(LnOk ws)->((ms.length <= 5/\hs.length <= 6/\∀m∈ms,m.2.length <= 6))->((∀c:Cs,ws=c.ln->c.Ok hs ms->Q (rtD (c.rt hs ms))))->(((∀c:Cs,ws=c.ln->¬c.Ok hs ms)->Q .non))->gRowOf ds Q
theorem Ed(T:Tx K mg):T.ED.Ok P w base CX0 2 (spD K 2 gRowOf):=by
 refine fnd ["words","names","kinds","word","mark","tried","well"] (λC _=>(af (dir (PWD.pt (dA (aE (gc C) (dx 0) ag) (ck (aE (gc C) (dln bz T.bJ (dv 0)) (ak de ai (dln bz T.bJ (dx 1))))))) fG) (af (dir (PWD.pt (dA (aE iY (dx 0) (dx 1) rfl) (dA (bu (bc (dcl (ft T) C (da1 (dix (dv 0) (kU fL ai)))))) (ck (bu (bc (dcl (ft T) C (da1 (dix (dv 0) (kU fL ai)))))))))) fG) (af (dow 2 (aK fJ)) (bf (dL (mE T.Cd (ae (aq (eS (dv 0) (cI ai) (cI (kU fL ai)))) (da1 (dx 1)))) (dg2 3 4) (af (dir (aE iY (dv 3) (dx 4) rfl) fG) (az (iU (pv 2) (AW lB (dx 4) (dv 3)))))) (af (dse 5 (aN qF T.vX (da1 (dix (dv 0) (kU fL ai))))) (af (dse 6 (aN qF T.vX (da1 (dix (dv 0) (kU fL ai))))) (af (dir (PWD.pt (dA (aE (cc C) (dv 5) ai) (ck (aE qy (dv 6) (dv 5))))) fG) (dr (aC (ae (AW lB (dx 1) (dx 0)) (ae (aN bN T.bF (a1 2)) (a2 5 6))))))))))))) (λds Q hl h=>?_);have(hs,ms,ws,rfl,(a6,hl9,ho),(z1,z2,z3),hy,j):=h;cases ws with
 |nil=>exact absurd rfl a6|cons x r =>
 refine aX (d:=.str x) (zyH 0) rfl ((aS (ho x 's').ok,aS 'k'),?_);show Br (!eqD (.str x) (.str gi)) _ _;rw[fq];by_cases u:x=gi
 case neg =>
  rw[zzo u];exact Br.t (Br.t (j λc e _=>u (List.cons.inj e).1))
 subst u;rw[zzj rfl];refine Br.f ((rfl,rfl),?_);show Br (!eqD (.int _) (.int _)) _ _;rw[cJ];by_cases e2:r.length=ms.length+3
 case neg =>
  rw[zzo (by simp only[zza,zzl];lia)];refine Br.t (j λc e o=>e2 ?_);have J:=congrArg zai e;have:=o.kl;simp[Cs.ln]at J;lia
 have(w,g,a,b,rfl,ek):=LZ e2;rw[zzj (by simp only[zza,zzl];lia)];refine Br.f ?_;have a5:∀{Q:D->Prop},Q (.str a)->opt (atI ((gi::(w::g++[a,b])).map D.str) (-2)) Q:=λq=>by show opt (atI _ (-((2:Nat):Int))) _;rw[tO (k:=2) 'd' (d:=.str a) 's' 's'];exact q
 have Y:∀{Q:D->Prop},Q (.str b)->opt (atI ((gi::(w::g++[a,b])).map D.str) (-1)) Q:=λq=>by show opt (atI _ (-((1:Nat):Int))) _;rw[tO (k:=1) 'd' (d:=.str b) 's' 's'];exact q
 have oa:=ho a 's';have ob:=ho b 's';refine aX (d:=.str w) (r:=1) 'd' rfl ((rfl,cK hs),?_);rw[iw];by_cases J:w∈hs
 case neg =>
  rw[zzo J];exact Br.t (Br.t (j λc e o=>J (by rw[<-(pJ e).1];exact o.hh)))
 rw[zzj J];refine Br.f (a5 (rfl,a,rfl,oa,?_));cases N:cD a with
 |false=>exact Br.t (Br.t (j λc e o=>by have:=o.na;rw[(pJ e).2.2.1,N]at this;cases this))
 |true =>
 refine Br.f (Y (rfl,b,rfl,ob,?_));cases n:cD b with
 |false=>exact Br.t (j λc e o=>by have:=o.nb;rw[(pJ e).2.2.2,n]at this;cases this)
 |true =>
 refine Br.f (sz,?_);refine(λM=>∃E G H I:Sl,(∀p∈g.zip ms,p.1∈p.2.2)/\M=[.val (.lst ((gi::(w::g++[a,b])).map .str)),.val (nmD hs ms),.own ((kpl g ms).map D.int),E,G,H,I],?_,?_)
 .first|refine(_,_,rfl,rfl,?_)|skip
  show iR _ _ (zipD _ _) _ _;have u:cutD ((gi::(w::g++[a,b])).map D.str) (some 2) (some (-2))=g.map D.str:=by
   unfold cutD;have l1:((gi::(w::g++[a,b])).map D.str).length=g.length+4:='s'
   have l2:HT.sIx (g.length+4) 0 (some 2)=2:=by show (if (2:Int)<0 then((2:Int)+((g.length+4:Nat):Int)).toNat else min (2:Int).toNat (g.length+4))=2;rw[zzn 'd'];lia
   have l3:HT.sIx (g.length+4) (g.length+4) (some (-2))=g.length+2:=by show (if (-2:Int)<0 then((-2:Int)+((g.length+4:Nat):Int)).toNat else min (-2:Int).toNat (g.length+4))=g.length+2;rw[zzu 'd'];lia
   rw[l1,l2,l3];show ((g++[a,b]).map D.str).take (g.length+2-2)=_;rw[zzm,zxs,zeG (by rw[zza])]
  rw[u,iW];refine dP (λ(U:av (Str×Mk)) M=>∃E G H I:Sl,(∀p∈U,p.1∈p.2.2)/\M=[.val (.lst ((gi::(w::g++[a,b])).map .str)),.val (nmD hs ms),.own ((U.map λp=>(plc p.1 p.2.2:Int)).map D.int),E,G,H,I]) (λM s=>s) (λU p p1 M X J s hX=>?_) _ (_,_,_,_,(λ_ h=>nomatch h),rfl);let(E,G,H,I,em,rfl):=s;refine(rfl,(rfl,cK p.2.2),?_);rw[iw];by_cases B:p.1∈p.2.2
  case neg =>
   rw[zzo B];refine Br.t (j λc e o=>B ?_);let(i,hi):=zyn.mp (show p∈g.zip ms by rw[J];simp);rw[zzU]at hi;exact o.kk i p.1 p.2 (by rw[(pJ e).2.1];exact hi.1) hi.2
  rw[zzj B];refine Br.f (trivial,trivial,(rfl,cK p.2.2),plc p.1 p.2.2,qR B,?_,hX _ (_,_,_,_,λq hq=>(zzg.mp hq).elim (em q) λz=>by rw[zzt.mp z];exact B,by rw[show ((U++[p]).map λp=>(plc p.1 p.2.2:Int)).map D.int=(U.map λp=>(plc p.1 p.2.2:Int)).map D.int++[.int (plc p.1 p.2.2)] by rw[zzm,zzm];rfl];rfl));have:U.length<=5:=by have:=congrArg zai J;rw[zyo,zzh]at this;lia
  rw[zza,zza];exact zzE this 'd'
 .rintro _ ⟨E,G,H,I,em,rfl⟩;walk;let(t,y):=qS N;let(v,A):=qS n;x_go;refine a5 (zzk (jf N) 'd',t,y,Y (zzk (jf n) 'd',v,A,((rfl,rfl),?_)));have no:¬(0<t/\v<=t)->Q .non:=λz=>j λc e o=>by
   obtain⟨-,-,c1,c2⟩:=pJ e;have q1:=o.ta;have q2:=o.tb;have q3:=o.t0;have q4:=o.tw;rw[c1,y]at q1;rw[c2,A]at q2;simp only[zd4]at q1 q2;lia
  show Br (eqD (.int t) (.int 0)) _ _;rw[cJ];by_cases t0:(t:Int)=0
  .rw[zzj t0];exact Br.t (Br.t (no 'l'))
  rw[zzo t0];refine Br.f ?_;show Br (decide ((t:Int)<(v:Int))) _ _;by_cases tw:(t:Int)<(v:Int)
  .rw[zzj tw];exact Br.t (no 'l')
  rw[zzo tw];refine Br.f ?_;refine(trivial,aX (d:=.str w) (r:=1) 'd' rfl ((rfl,cK hs),plc w hs,qR J,?_));refine(sz,hy (w,g,a,b,t,v) rfl (J,ek,λi x m h1 h2=>em (x,m) (zyn.mpr (i,by rw[zzU];exact(h1,h2))),N,n,y,A,by show 0<t;lia,by show v<=t;lia,oa,ob))
noncomputable abbrev lnD(ws:av Str):D:=.lst (ws.map .str)
def mkLn(m:Mk):av Str:=eG::m.1::m.2
structure MsT(ms:List Mk):Prop where
 l5:ms.length <= 5
 nd:(ms.map (·.1)).Nodup
 nm:∀m∈ms,isNm m.1=true/\1 <= m.2.length/\m.2.length <= 6/\nmsB m.2=true/\TxOk m.1/\∀x∈m.2,TxOk x
inductive gMarks(ds:List D)(Q:D->Prop):Prop
 |mk (l0:List Str) (ms:List Mk) (cs:List (List Str)):ds=[.lst ((l0::ms.map mkLn++cs).map lnD)]->MsT ms->(∀l∈cs.head?,LnOk l/\(ms.length=5∨mlB (ms.map (·.1)) l=false))->Q (.lst (ms.map mkD))->gMarks ds Q
theorem pK(T:Tx K mg):T.yW.Ok P w base CX0 4 (spD K 1 gMarks):=by
 refine fnd ["lines","marks","words"] (λE _=>(af (dow 1 (aK fJ)) (bf (dL (bq (aq (eS (dv 0) (cI ai) dF))) (dgn 2) (af (dir (PWD.pt (dA (qA 1 (aE (cc E) (dln bz T.bJ (dv 1)) (cL rfl T.jz))) (ck (bu (qA 1 (bc (dcl (ou T) E (ae (dv 2) (da1 (dfc (aH ["name","kinds"] [none,none] rfl (bq (dv 1)) (dg2 0 1) aG (dv 0)))))))))))) (dv 1)) (az (iU (pv 1) (aC (ae (dx 2) (da1 (aq (eS (dv 2) (cI ai) dF))))))))) (dr (dv 1))))) (λds Q hl h=>?_);let(v,ms,cs,rfl,B,co,h):=h;have hw:∀m∈ms,∀x∈mkLn m,TxOk x:=λm o x u=>by
  let(_,_,_,_,o1,o2):=B.nm m o;rcases zze.mp u with rfl|u
  .exact('k','k')
  .rcases zze.mp u with rfl|u
   .exact o1
   .exact o2 x u
 have l5:=B.l5;refine(sz,λρ=>∃s:Sl,ρ=[.val (.lst ((v::ms.map mkLn++cs).map lnD)),.own (ms.map mkD),s],?_,?_)
 .have N:cutD ((v::ms.map mkLn++cs).map lnD) (some 1) none=(ms.map mkLn++cs).map lnD:=cW lnD 1 (v::(ms.map mkLn++cs)) 's';show iR _ _ (cutD ((v::ms.map mkLn++cs).map lnD) (some 1) none) _ _;rw[N];have g:∀{c:av Mk}{ρ:DS}{a b:Sl}{Q:av D->Prop},c.length<=5->Q ((c.map (·.1)).map D.str)->cZ (qx 2 (dQ (bO 0) (dQ (bO 1) sR))) cf (dVar 0) (c.map mkD) [] [a,b] Q:=λ{c ρ a b Q} o A=>by
   refine bG (D.str ∘ (·.1)) (λρ=>∃a b,ρ=[a,b]) (zzk o 'd') (λm _ ρ Y Z q y=>?_) _ (_,_,rfl) (by rw[<-zzv];exact A);let(a,b,rfl):=q;exact(rfl,Br.t (y _ (_,_,rfl)))
  refine AM (λpre ρ=>∃(c j:av Mk)(s:Sl),ms=c++j/\pre=c.map (λm=>lnD (mkLn m))/\ρ=[.val (.lst ((v::ms.map mkLn++cs).map lnD)),.own (c.map mkD),s]) (λρ q=>?_) (λpre d post ρ X e q p=>?_) _ ([],ms,_,rfl,rfl,rfl)
  .let(c,j,s,J,U,rfl):=q;have:=congrArg zai U;rw[J]at this;simp only[zza,zzh]at this;have:j=[]:=zyc.mp 'l';subst this;rw[zzB]at J;subst J;exact(_,rfl)
  .let(c,j,s,J,rfl,rfl):=q;have L:c.length<=5:=by
    have:=congrArg zai J;rw[zzh]at this;lia
   have elen:(((c.map mkD).length:Nat):Int)=(c.length:Int):=by rw[zza]
   refine(_,rfl,rfl,(rfl,rfl),rfl,?_);show Br (eqD (.int _) (.int 5)) _ _;rw[cJ];cases j with
   |nil =>
    rw[zzB]at J;subst J;refine(λ_=>Br.t h,λn=>?_);rw[zzm,zzv]at e;have e:=zxH e;cases cs with
    |nil=>cases e
    |cons l cs =>
     rw[zzq]at e;injection e with U i;subst U;let(C,r2):=co l rfl;refine(_,rfl,rfl,g (ρ:=[]) L (rfl,l,_,rfl,C.ne,C.le,C.ok,?_));have:mlB (ms.map (·.1)) l=false:=r2.resolve_left λz=>by have:=zyl n;rw[zza]at this;lia
     rw[this];exact(rfl,Br.t h)
   |cons m j =>
    have I:¬((((c.map mkD).length:Nat):Int)=5):=by have:=congrArg zai J;rw[zzh,zzl]at this;lia
    rw[zzo I];refine Br.f ?_;have o:m∈ms:=by rw[J];simp
    rw[zzm,J,zzm,zzm,zzv,zzI]at e;have e:=zxH e;rw[zzq,zzq,zzO]at e;injection e with U i;subst U;let(a1,a2,a3,H,a5,a6):=B.nm m o;refine(_,rfl,rfl,g (ρ:=[]) L (rfl,mkLn m,_,rfl,by simp[mkLn],by simp[mkLn];lia,hw m o,?_));have:mlB (c.map (·.1)) (mkLn m)=true:=by show (decide (eG=eG) && (decide (1<=m.2.length) && decide (m.2.length<=6)) && isNm m.1 && !decide (m.1∈c.map (·.1)) && nmsB m.2)=true;have G:=B.nd;rw[J,zzm,zzq]at G;have M:m.1∉c.map (·.1):=λz=>(zyr.mp G).2.2 m.1 z m.1 's' rfl;rw[zzj rfl,zzj a2,zzj a3,a1,zzo M,H];rfl
    rw[this];refine(rfl,Br.f (trivial,?_));have k:cutD ((mkLn m).map D.str) (some 2) none=m.2.map D.str:=cW D.str 2 (mkLn m) (by simp[mkLn]);refine aX (d:=.str m.1) (r:=1) 'd' rfl ?_;refine(sz,?_,p _ (c++[m],j,_,by rw[J,zzI];rfl,by rw[zzm];rfl,by rw[show (c++[m]).map mkD=c.map mkD++[.tup [.str m.1,.lst (cutD ((mkLn m).map D.str) (some 2) none)]] by rw[zzm,k];rfl];rfl));rw[zza];exact zzE L 'd'
 .rintro _ ⟨s,rfl⟩;exact h
theorem fu(T:Tx K mg):FnOk P w K mg base CX0 1 T.nH T.jy.fd ["self","line"] (spInit1 T.aD "line"):=by
 refine T.jy.F.ok yt (λd H Q E h=>?_) (λcdv A outer s H d Q E hr h=>?_)
 .let(e,p,rfl,_):=h;rfl
 .let(e,p,rfl,c,h):=h;refine(_,fU (CU (pv 0) (pv 1) rfl),?_);exact(_,rfl,_,rfl,e,T.aD,rfl,c,T.dY.toExA,T.eJ,λdx hd J=>h dx hd J)
noncomputable abbrev xiN(C:ay):XI:=λn=>(C,[("line",V.int ((n:Nat):Int))])
theorem jW{C:ay}{W:ay->Prop}(e:i=k)(h:W k):∃d v1 c,[D.int i]=[d]/\vD d v1/\xiN C c=(C,[(("line" : Str),v1)])/\W c:=(_,.int i,k,rfl,rfl,by rw[e],h)
abbrev Bh(hs:av Str)(ms:av Mk)(x y:Cs):Prop:=gtP (kpl y.kw ms) (plc y.hn hs) (kpl x.kw ms) (plc x.hn hs)=true
def BB(hs:av Str)(ms:av Mk)(cs:av Cs)(l:av Str):Prop:=∀c:Cs,l=c.ln->c.Ok hs ms->∃p,cs.getLast? = some p/\¬Bh hs ms p c
inductive gRowsA(ds:List D)(Q:D->Prop)(W:Addr->Prop):Prop where
 |mk (hs:List Str) (ms:List Mk) (cs:List Cs) (rest:List (List Str)) (l0:List Str):(ds=[.lst ((l0::ms.map mkLn++(cs.map Cs.ln++rest)).map lnD),nmD hs ms])->((ms.length <= 5/\hs.length <= 6/\∀m∈ms,m.2.length <= 6))->(cs.length+rest.length <= 200)->((∀c∈cs,c.Ok hs ms/\LnOk c.ln))->(cs.Pairwise (Bh hs ms))->(((rest=[]/\Q (.lst ((cs.map (Cs.rt hs ms)).map rtD)))∨∃l r,rest=l::r/\LnOk l/\BB hs ms cs l/\W (1+ms.length+cs.length)))->gRowsA ds Q W
theorem pL(T:Tx K mg):T.eX.Ok P w base (CXE P w) 4 (spDA (xiN T.aD) K 2 gRowsA):=by
 refine fnDA (xi:=xiN T.aD) T.eX.d.F yq (λhW B _=>(af (dow 2 (aK fJ)) (bf (dL (AD T.eI (ae (ak de ai (dln bz T.bJ (dx 1))) (da1 (dln bz T.bJ (dv 0))))) (dgn 3) (af (dse 4 (dcl (Ed T) B (ae (dix (dv 0) (dv 3)) (a1 1)))) (af (dif (PWD.pt (dA (aE AG (dv 4) fG) (ck (PWD.pt (lZ (qA 2 (aE qy (dln bz T.bJ (dv 2)) ai)) (jM (bu (qA 2 (bc (dcl (vw T) B (ae (dv 4) (da1 (dix (dv 2) (kU fL ai)))))))))))))) (az (mH (xi:=xiN T.aD) (a1:="line") T.dY (fu T) (B.mono 'd') T.jy.b rfl rfl T.gu gE hW (a1 3)))) (az (iU (pv 2) (dv 4))))) (By rfl rfl)) (dr (dv 2))))) (λds Q W hl h=>?_);let(hs,ms,cs,rest,l0,rfl,z,cl,co,n,h):=h;obtain⟨L,H⟩:∃L,L=(l0::ms.map mkLn++(cs.map Cs.ln++rest)).map lnD:=(_,rfl);have y:(L.length:Int)=1+ms.length+(cs.length+rest.length):=by rw[H];simp only[zza,zzh,zzl];lia
 have A:(((ms.map mkD).length:Nat):Int)=ms.length:=by rw[zza]
 have z1:=z.1;rw[<-H];refine(sz,λE=>∃j o:Sl,rest=[]/\E=[.val (.lst L),.val (nmD hs ms),.own ((cs.map (Cs.rt hs ms)).map rtD),j,o],?_,?_)
 .refine(('l','l','l','l'),?_);refine fj (λk E=>∃(g u:av Cs)(j o:Sl),cs=g++u/\k=1+ms.length+g.length/\E=[.val (.lst L),.val (nmD hs ms),.own ((g.map (Cs.rt hs ms)).map rtD),j,o]) _ _ (λE I=>?_) (λk E X k0 k1 I hX=>?_) _ ([],cs,_,_,rfl,by rw[A];simp,rfl)
  .let(g,u,j,o,U,e4,rfl):=I;have:=congrArg zai U;rw[zzh]at this;have h1:u=[]:=zyc.mp 'l';subst h1;rw[zzB]at U;subst U;exact(_,_,zyc.mp 'l',rfl)
  .let(g,u,j,o,U,rfl,rfl):=I;have M:=congrArg zai U;rw[zzh]at M;have el:(((g.map (Cs.rt hs ms)).map rtD).length:Int)=g.length:=by rw[zza,zza]
   have a:((g.map (Cs.rt hs ms)).map rtD).length<zaa:=by rw[zza,zza];exact zzE (show g.length<=200 by lia) 'd'
   have N:∀{l:av Str}{r:av (av Str)},u.map Cs.ln++rest=l::r->L[(1+(ms.length:Int)+(g.length:Int)).toNat]?\(lnD l):=λ{l r} e=>by rw[H,show (1+(ms.length:Int)+(g.length:Int)).toNat=(ms.length+g.length)+1 by lia];show ((ms.map mkLn++(cs.map Cs.ln++rest)).map lnD)[ms.length+g.length]?=_;rw[show cs.map Cs.ln++rest=g.map Cs.ln++l::r by rw[U,zzm,zzI,e],zzm,zzR 's'];simp
   have last:∀{p:Cs},g.getLast? = some p->∀{Q:D->Prop},Q (rtD (p.rt hs ms))->opt (atI ((g.map (Cs.rt hs ms)).map rtD) (-1)) Q:=λ{p} x Q q=>by
    have m:g≠[]:=by rintro rfl;cases x
    have hp3:=(zbw m).symm.trans x;have hpos:0<g.length:=zdh.mpr m;show opt (atI _ (-((1:Nat):Int))) _;rw[tO (k:=1) 'd' (d:=rtD (p.rt hs ms)) (by rw[zza,zza];lia) ?_]
    .exact q
    .rw[zzz,zzz,zza,zza,<-List.getLast?_eq_getElem?,x];rfl
   cases u with
   |nil =>
    rw[zzB]at U;subst U;rw[zzY]at M;rcases h with ⟨h,_⟩|⟨l,r,B,lo,no,hw⟩
    .rw[h,zzY]at y;omega
    have raise:=jW (C:=T.aD) (i:=1+(ms.length:Int)+(cs.length:Int)) 'l' hw;refine aX (d:=lnD l) 'l' (N (l:=l) (r:=r) (by rw[B];rfl)) (rfl,hs,ms,l,rfl,lo,z,λc ec G=>?_,λ_=>Br.t (Br.t raise));let(p,x,nb):=no c ec G;refine Br.f (_,rfl,rfl,rfl,?_);refine(λv=>?_,λv=>?_)
    .refine(_,rfl,rfl,last x (rfl,c.rt hs ms,p.rt hs ms,rfl,?_));rw[show gtP (c.rt hs ms).ks (c.rt hs ms).h (p.rt hs ms).ks (p.rt hs ms).h=false from zdW.mpr nb];exact(rfl,Br.t raise)
    .have v:=zyl v;have:cs≠[]:=by rintro rfl;cases x
     have:=zdh.mpr this;omega
   |cons c u =>
    have hc:c∈cs:=by rw[U];simp
    let(G,ol):=co c hc;refine aX (d:=lnD c.ln) 'l' (N (l:=c.ln) rfl) (rfl,hs,ms,c.ln,rfl,ol,z,λd ed od=>?_,λno=>absurd G (no c rfl));have Y:d=c:=Bz ed G od;subst Y;refine Br.f (_,rfl,rfl,rfl,?_);have em:((g++[d]).map (Cs.rt hs ms)).map rtD=(g.map (Cs.rt hs ms)).map rtD++[rtD (d.rt hs ms)]:=by rw[zzm,zzm];rfl
    have fin:∀j o:Sl,X [.val (.lst L),.val (nmD hs ms),.own ((g.map (Cs.rt hs ms)).map rtD++[rtD (d.rt hs ms)]),j,o]:=λj o=>hX _ (g++[d],u,j,o,by rw[U,zzI];rfl,by rw[zzh];simp;lia,by rw[em]);refine(λv=>?_,λv=>Br.f (trivial,a,fin _ _));have v:=zzX v;have J:g≠[]:=by rintro rfl;exact absurd v 's'
    have x:=zbw J;refine(_,rfl,rfl,last x (rfl,d.rt hs ms,(g.getLast J).rt hs ms,rfl,?_));have s:Bh hs ms (g.getLast J) d:=by rw[U]at n;exact(zc6.mp n).2.2 _ (List.getLast_mem J) d zzd
    rw[show gtP (d.rt hs ms).ks (d.rt hs ms).h ((g.getLast J).rt hs ms).ks ((g.getLast J).rt hs ms).h=true from s];exact(rfl,Br.f (trivial,a,fin _ _))
 .rintro _ ⟨j,o,B,rfl⟩;rcases h with ⟨_,h⟩|⟨l,r,h,_⟩
  .exact h
  .rw[B]at h;cases h
abbrev Ma:DSp:=λc Q=>gRowsA c Q λ_=>False
theorem BC(T:Tx K mg):T.eX.Ok P w base CX0 4 (spD K 2 Ma):=Tactic.FnOk.noX (pL T)
noncomputable def bI(n:Nat)(r:Rt):Row:=(zad n (0,0)).set r.h.toNat (r.t,r.w)
structure RtOk(n:Nat)(r:Rt):Prop where
 h0:0 <= r.h
 h1:r.h<n
 w0:0 <= r.w
 wt:r.w <= r.t
 t1:r.t<10^30
inductive gCoR(ds:List D)(Q:D->Prop):Prop
 |mk (r:Rt) (n:Nat):ds=[rtD r,.int n]->RtOk n r->n <= 6->Q (rowD (bI n r))->gCoR ds Q
theorem gj(T:Tx K mg):T.nE.Ok P w base CX0 1 (spD K 2 gCoR):=by
 refine fnd ["row","many","counts"] (λhr _=>(af (dow 2 (Fj (aq (aK (da1 (aC (ae ai (da1 ai)))))) (dv 1))) (af (gf (aC (ae (dx 0) (da1 (dx 0)))) (Fi (pv 2) (dx 0))) (dr (aN bN T.bF (a1 2)))))) (λds Q hl h=>?_);let(r,n,rfl,o,n6,h):=h;have h0:=o.h0;have c:=o.h1;have e:∀k:Nat,(zad k [D.tup [.int 0,.int 0]]).flatten=(zad k ((0,0):Int×Int)).map dG:=λk=>by
  induction k with
  |zero=>rfl|succ k J=>rw[zxF,zxF,zb4,zzq,J];rfl
 refine(sz,sz,(('l','l'),?_),?_)
 .rw[zzV];exact zzk (show 1*n<=6 by lia) 'd'
 rw[zzV,e];refine(sz,trivial,r.h.toNat,Jy h0 (by rw[zza,zxS];exact c),?_);show Q (.tup (((zad n ((0,0):Int×Int)).map dG).set r.h.toNat (dG (r.t,r.w))));rw[<-List.map_set];exact h
theorem qT{r:Rt}(o:RtOk n r):RowN 110 n (bI n r):=by
 refine(by unfold bI;simp,λc J=>?_);rcases zwq J with J|rfl
 .rw[zyE J];exact pG (zyH 0) (zyH 0) (by unfold Bd;exact Nat.two_pow_pos _)
 .refine pG o.w0 o.wt ?_;have:=o.t1;have:=o.w0;have:=o.wt;unfold Bd;have e:(2:Nat)^110=1298074214633706907132624082305024:='d'
  omega
noncomputable def nlS:Str:=zao "\n"
noncomputable def spS:Str:=zao " "
noncomputable def numS(n:Int):Str:=zao (toString n)
noncomputable def wds(ms:av Mk)(ks:av Int):av Str:=(ms.zip ks).map λp=>p.1.2.getD p.2.toNat zat
def csOf(hs:av Str)(ms:av Mk)(c:av Int×Row):av Cs:=((hs.zip c.2).filter λp=>decide (0<p.2.1)).map λp=>(p.1,wds ms c.1,numS p.2.1,numS p.2.2,p.2.1.toNat,p.2.2.toNat)
def aU(hs:av Str)(ms:av Mk)(cT:av (av Int×Row)):av (av Str):=(aI::hs)::ms.map mkLn++(cT.flatMap (csOf hs ms)).map Cs.ln
def aL(hs:av Str)(ms:av Mk)(cT:av (av Int×Row)):Str:=zaf nlS ((aU hs ms cT).map (zaf spS))
structure ShOk(hs:List Str)(ms:List Mk)(cells:List (List Int×Row)):Prop where
 h6:hs.length <= 6
 m5:ms.length <= 5
 ln:(aU hs ms cells).length <= 60
 hl:∀x∈hs,x.length <= 8
 ml:∀m∈ms,m.1.length <= 8/\m.2.length <= 6/\∀x∈m.2,x.length <= 8
 kl:∀c∈cells,c.1.length=ms.length/\RowN 100 hs.length c.2
 kk:∀c∈cells,∀(i:Nat)(k:Int)(m:Mk),c.1[i]? = some k->ms[i]? = some m->0 <= k/\k<m.2.length
theorem qU(ms:av Mk)(ks:av Int):(wds ms ks).length<=ms.length:=by unfold wds;rw[zza,zyo];lia
theorem qV{n:Int}(h0:0<=n)(b:Bd 100 n):(numS n).length<=31:=by
 refine zbl h0 'd' ?_;unfold Bd at b;have e:(2:Nat)^100=1267650600228229401496703205376:='d'
 lia
theorem Mb{cT:av (av Int×Row)}(o:ShOk hs ms cT)(ks:av Int):∀x∈wds ms ks,x.length<=8:=λx d=>by
 let(p,J,rfl):=zzi.mp d;have c:=(o.ml p.1 (zxt J).1).2.2;rw[zzw];cases q:p.1.2[p.2.toNat]? with
 |none=>exact zyh _|some y=>exact c y (zzK q)
theorem qW{cT:av (av Int×Row)}(o:ShOk hs ms cT):∀l∈aU hs ms cT,l.length<=12/\∀x∈l,x.length<=40:=λl e=>by
 have h6:=o.h6;have m5:=o.m5;rcases zzg.mp e with e|e
 .rcases zze.mp e with rfl|e
  .refine(by simp;lia,λx d=>?_);rcases zze.mp d with rfl|d
   .decide +kernel
   .exact zzk (o.hl x d) 'd'
  .let(m,g,rfl):=zzi.mp e;let(a1,a2,a3):=o.ml m g;refine(by simp[mkLn];lia,λx d=>?_);rcases zze.mp d with rfl|d
   .decide +kernel
   .rcases zze.mp d with rfl|d
    .lia
    .exact zzk (a3 x d) 'd'
 .let(c,L,rfl):=zzi.mp e;let(cl,U,L):=zwe.mp L;let(p,J,rfl):=zzi.mp L;have J:=zxt (zzM.mp J).1;have cn:=(o.kl cl U).2.2 p.2 J.2;have wl:=qU ms cl.1;have lo:=cn.lo;have hi:=cn.hi;refine(by simp[Cs.ln];lia,λx d=>?_);unfold Cs.ln at d;simp only[zzg,zze,zyb,zxa]at d;rcases d with (rfl|rfl|d)|rfl|rfl
  .decide +kernel
  .exact zzk (o.hl _ J.1) 'd'
  .exact zzk (Mb o cl.1 x d) 'd'
  .exact zzk (qV 'l' cn.bt) 'd'
  .exact zzk (qV 'l' cn.bw) 'd'
theorem jg{cT:av (av Int×Row)}(o:ShOk hs ms cT):(aU hs ms cT).length<=60:=o.ln
theorem iA{B:Nat}(J:∀y∈ws,y.length<=B)(h:ws.length*B+ws.length*z.length<=16777216):JoinOk z ws=true:=by unfold JoinOk;rw[StrLaws.joinFits J h];rfl
theorem jh{B:Nat}(J:∀y∈ws,y.length<=B)(c:ws.length<=12):(zaf spS ws).length<=12*B+12:=by
 have h1:=zwL spS ws;have h2:=zb3 ws J;have e:spS.length=1:='k'
 have h3:ws.length*B<=12*B:=Nat.mul_le_mul_right B c;have e2:zaf spS ws=zbb spS ws:=zyp ..;lia
inductive gShow(ds:List D)(Q:D->Prop):Prop
 |mk (hs:List Str) (ms:List Mk) (cT:List (List Int×Row)) (a b:D):ds=[nmD hs ms,.tup [a,b,.tup (cT.map bQ)]]->ShOk hs ms cT->Q (.str (aL hs ms cT))->gShow ds Q
theorem Ee{xs:av α}{ys:av β}(h:ys.length<xs.length)(y:β):xs.zip (ys++[y])=xs.zip ys++[(xs[ys.length],y)]:=by
 have J:xs=xs.take ys.length++xs[ys.length]::xs.drop (ys.length+1):=by rw[<-zyN h,zxW]
 have L:(xs.take ys.length).length=ys.length:=by rw[zyv];lia
 have U:(xs.take ys.length++xs[ys.length]::xs.drop (ys.length+1)).zip (ys++[y])=_:=zve L;have c:(xs.take ys.length++xs[ys.length]::xs.drop (ys.length+1)).zip (ys++[])=_:=zve L;rw[<-J,zxf,zxc]at U;rw[<-J,zzB,zxc,zzB]at c;rw[U,c]
theorem xx{n:Int}(b:Bd m n)(h:m<1920):n.natAbs.log2<1920:=by
 by_cases z:n.natAbs=0
 .rw[z];decide
 .have:=(Nat.log2_lt z).mpr b;lia
theorem mY:∀(xs ys:av D)(k:Nat),fS k (xs++ys)=fS k xs++fS (k+xs.length) ys
 |[],ys,k=>by simp[fS]
 |x::xs,ys,k=>by rw[zzO,fS,fS,mY xs ys (k+1),zzO,zzl,show k+1+xs.length=k+(xs.length+1) by lia]
theorem Ef{cT:av (av Int×Row)}(o:ShOk hs ms cT){c:av Int×Row}(U:c∈cT){Q:av D->Prop}(q:Q ((wds ms c.1).map D.str)) :
  cZ (qx 2 (dQ (bO 0) (dQ (bO 1) sR))) cf (dOp gIx (dOp gIx (dOp gIx (dOp gIx (dVar 2) (dC (.int 1))) (dVar 0)) (dC (.int 1))) (dVar 1)) (fS 0 (c.1.map D.int)) [] [s,s',.val (nmD hs ms)] Q:=by
 have m5:=o.m5;have kl:=(o.kl c U).1;refine ge (λpre j u=>∃(k0 l:av Int)(s s':Sl),c.1=k0++l/\pre=fS 0 (k0.map D.int)/\j=(wds ms k0).map D.str/\u=[s,s',.val (nmD hs ms)]) (λj u L=>?_) (λpre d post j u Y e L H=>?_) _ ([],c.1,_,_,rfl,rfl,by unfold wds;rw[zxc];rfl,rfl)
 .let(k0,l,s,s',g,B,rfl,rfl):=L;have:=congrArg zai B;rw[dD,dD,g,zza,zza,zzh]at this;have:l=[]:=zyc.mp 'l';subst this;rw[zzB]at g;rw[<-g];exact q
 .let(k0,l,s,s',g,rfl,rfl,rfl):=L;rw[g,zzm,mY]at e;have e:=zxH e;cases l with
  |nil=>cases e
  |cons k l =>
   injection e with C e5;subst C;have I:=congrArg zai g;rw[zzh,zzl]at I;have J:k0.length<ms.length:='l'
   have em:ms[k0.length]?\ms[k0.length]:=zzp J;let(x,b1):=o.kk c U k0.length k ms[k0.length] (by rw[g,zzR (zzs _)];simp) em;have E:(ms[k0.length]).2[k.toNat]?\((ms[k0.length]).2.getD k.toNat zat):=by rw[zzw,zzp 'l'];rfl
   have G:wds ms (k0++[k])=wds ms k0++[(ms[k0.length]).2.getD k.toNat zat]:=by
    unfold wds;have:ms=ms.take k0.length++ms[k0.length]::ms.drop (k0.length+1):=by rw[<-zyN J,zxW]
    have v:(ms.take k0.length).length=k0.length:=by rw[zyv];lia
    have M:ms.zip (k0++[k])=(ms.take k0.length).zip k0++[(ms[k0.length],k)]:=by
     conv=>lhs;rw[this]
     rw[zve v,zxf,zxc]
    have N:ms.zip k0=(ms.take k0.length).zip k0:=by have h:(ms.take k0.length++ms[k0.length]::ms.drop (k0.length+1)).zip (k0++[])=_:=zve v;rw[<-this,zzB,zxc,zzB]at h;exact h
    rw[M,N,zzm];rfl
   refine(rfl,Br.t ?_);refine aX (d:=mkD ms[k0.length]) 's' (by rw[zza,zwZ,zzV,zzz,em];rfl) ?_;refine aX (d:=.str ((ms[k0.length]).2.getD k.toNat zat)) x (by rw[zzz,E];rfl) (?_,H _ _ (k0++[k],l,_,_,by rw[g];simp,by rw[zzm,mY];rfl,by rw[G,zzm];rfl,rfl));rw[zza];have:=qU ms k0;exact zzE (show _<=5 by lia) 'd'
theorem Kg(T:Tx K mg):T.KD.Ok P w base CX0 1 (spD K 2 gShow):=by
 refine fnd ["names","book","lines","name","kinds","counts","words","house","count"] (λr _=>(af (dow 2 (aK (da1 (aq (bA (aq (aK (da1 ag))) (aq (AI rfl T.xL rfl (dx 0)))))))) (bf (dL (bq (dx 0)) (dg2 3 4) (az (iU (pv 2) (aq (bA (aq (aK (ae ag (a1 3)))) (aq (AI rfl T.xL rfl (dv 4)))))))) (bf (dL (eQ (dx 1)) (dg2 4 5) (af (jP 6 (aH ["mark","kind","names"] [none,none,some 0] rfl (xb T.nU (a1 4)) (dg2 0 1) aG (dix (dix (dix (dx 2) (dv 0)) ai) (dv 1)))) (az (dL (xb T.nU (a1 5)) (dg2 7 8) (az (dif (aE qy (dx 8) ai) (az (iU (pv 2) (aq (bA (aq (bA (aq (aK (ae ag (da1 (dix (dx 0) (dv 7)))))) (dv 6))) (aq (aK (ae (aN vg T.yR (da1 (dx 8))) (da1 (aN vg T.yR (da1 (dx 8))))))))))))))))) (dr (gg ag (dfc (aH ["line"] [none] rfl (bq (dv 2)) (dgb 0) aG (gg ag (dv 0)))))))))) (λds Q G h=>?_);let(hs,ms,cT,a,b,rfl,o,h):=h;have M:∀{n:Nat},n<=1000->n<=zaa:=λh=>zzk h 'd';have h6:=o.h6;have m5:=o.m5;refine(sz,(M (by simp;lia),sz,?_));refine(λj=>∃g u v C J L:Sl,j=[.val (nmD hs ms),.val (.tup [a,b,.tup (cT.map bQ)]),.own (((aI::hs)::ms.map mkLn).map lnD),g,u,v,C,J,L],?_,?_)
 .refine dP (λpre j=>∃g u v C J L:Sl,j=[.val (nmD hs ms),.val (.tup [a,b,.tup (cT.map bQ)]),.own (((aI::hs)::pre.map mkLn).map lnD),g,u,v,C,J,L]) (λj U=>U) (λz m m1 j X e U p=>?_) _ (_,_,_,_,_,_,rfl);let(g,u,v,C,J,L,rfl):=U;have hm:=(o.ml m (by rw[e];simp)).2.1;have G:=congrArg zai e;rw[zzh]at G;refine(rfl,trivial,sz,M (by simp;lia),?_,p _ (_,_,_,_,_,_,by rw[show ((aI::hs)::(z++[m]).map mkLn).map lnD=((aI::hs)::z.map mkLn).map lnD++[lnD (mkLn m)] by simp];rfl));exact zzE (show (((aI::hs)::z.map mkLn).map lnD).length<=100 by simp;lia) 'd'
 .rintro _ ⟨g,u,v,C,J,L,rfl⟩;refine(λj=>∃g u v C J L:Sl,j=[.val (nmD hs ms),.val (.tup [a,b,.tup (cT.map bQ)]),.own ((aU hs ms cT).map lnD),g,u,v,C,J,L],?_,?_)
  .have base:∀I k,cT=I++k->((aI::hs)::ms.map mkLn++(I.flatMap (csOf hs ms)).map Cs.ln).length<=60:=λI k e=>by
    have:=jg o;unfold aU at this;rw[e,zwk,zzm,<-zzI,zzh]at this;lia
   refine dP (λpre j=>∃g u v C J L:Sl,j=[.val (nmD hs ms),.val (.tup [a,b,.tup (cT.map bQ)]),.own (((aI::hs)::ms.map mkLn++(pre.flatMap (csOf hs ms)).map Cs.ln).map lnD),g,u,v,C,J,L]) (λj U=>U) (λI c k j X e3 U p=>?_) _ (g,u,v,C,J,L,'s');let(g,u,v,C,J,L,rfl):=U;have hc:c∈cT:=by rw[e3];simp
   refine(rfl,Ef o hc ?_);have r:=(o.kl c hc).2;have hbase:=base I _ e3;have lf:=jg o;refine yk (λpre j=>∃g J L:Sl,j=[.val (nmD hs ms),.val (.tup [a,b,.tup (cT.map bQ)]),.own (((aI::hs)::ms.map mkLn++(I.flatMap (csOf hs ms)).map Cs.ln).map lnD++((csOf hs ms (c.1,pre)).map Cs.ln).map lnD),g,.val (bV c.1),.val (rowD c.2),.val (.lst ((wds ms c.1).map .str)),J,L]) (λj U=>?_) (λE x r1 j X' e6 U A=>?_) _ (g,J,L,by unfold csOf;simp)
   .let(g,J,L,rfl):=U;refine p _ (g,.val (bV c.1),.val (rowD c.2),.val (.lst ((wds ms c.1).map .str)),J,L,?_);rw[<-zzm,zzI,<-zzm,zwk,zxA,zes,zzB]
   .let(g,J,L,rfl):=U;have G:=congrArg zai e6;rw[zzh,zzl,r.1]at G;have a6:E.length<hs.length:='l'
    have cn:=r.2 x (by rw[e6];simp);have N:csOf hs ms (c.1,E++[x])=csOf hs ms (c.1,E)++(if 0<x.1 then[(hs[E.length],wds ms c.1,numS x.1,numS x.2,x.1.toNat,x.2.toNat)] else[]):=by
     unfold csOf;show ((hs.zip (E++[x])).filter _).map _=_;rw[Ee a6,zyz,zzm];by_cases q:0<x.1
     .rw[zzu q];simp[q]
     .rw[zzn q];simp[q]
    refine(rfl,λH=>?_,λH=>?_)
    .have H:=zzX H;rw[zzu H]at N;have wl:=qU ms c.1;have hcs:(csOf hs ms (c.1,E)).length<=6:=by
      unfold csOf;rw[zza];refine zzk (zxg _ _) ?_;rw[zyo];lia
     refine(trivial,aX (d:=.str hs[E.length]) 'l' (by rw[zzV,zzz,zzp a6];rfl) (sz,M (by simp;lia),xx cn.bt 'd',xx cn.bw 'd',sz,M (by simp;lia),?_,A _ (g,.val (.int (E.length:Nat)),.val (dG x),?_)))
     .rw[zzh,zza,zza,zza];exact zzE (show _<=100 by lia) 'd'
     .have el:((csOf hs ms (c.1,E++[x])).map Cs.ln).map lnD=((csOf hs ms (c.1,E)).map Cs.ln).map lnD++[.lst (([.str gi,.str hs[E.length]]++(wds ms c.1).map D.str)++[.str (numS x.1),.str (numS x.2)])]:=by
       rw[N,zzm,zzm];simp[Cs.ln,lnD]
      rw[el,<-zzI];rfl
    .have H:=zyl H;rw[zzn H,zzB]at N;refine A _ (g,_,_,by rw[N];rfl)
  .rintro _ ⟨g,u,v,C,J,L,rfl⟩;have i:=qW o;have ll:=jg o;have a8:spS.length=1:='k'
   have a7:nlS.length=1:='k'
   refine(nlS,rfl,?_);refine bG (D.str ∘ zaf spS) (λj=>∃s,j=[s]) (M 'l') (λl G j Y Z U hY=>?_) _ (_,rfl) ?_
   .let(s,rfl):=U;refine Br.t (spS,rfl,l,(rfl,iA (i l G).2 ?_),hY _ (_,rfl));have:=(i l G).1;rw[a8];lia
   .rw[<-zzv];refine(_,(rfl,iA (B:=492) (λy hy=>?_) ?_),h)
    .let(l,G,rfl):=zzi.mp hy;exact jh (B:=40) (i l G).2 (i l G).1
    .rw[zza,a7];lia
noncomputable def jn(c:Nat):av (av Nat)->av Nat
 |[]=>[]|[x]=>x|x::y::r=>x++c::jn c (y::r)
theorem BD{c:Nat}:∀{a J b d:av Nat},c∉a->c∉J->a++c::b=J++c::d->a=J/\b=d
 |[],[],b,d,_,_,h=>by simpa using h
 |[],x::J,b,d,_,g,h=>by simp only[zwp,zzO,zyV]at h;exact absurd (by simp[h.1]) g
 |x::a,[],b,d,e,_,h=>by simp only[zwp,zzO,zyV]at h;exact absurd (by simp[h.1]) e
 |x::a,y::J,b,d,e,g,h=>by simp only[zzO,zyV]at h;let(j,l):=BD (λz=>e (zzc _ z)) (λz=>g (zzc _ z)) h.2;exact(by rw[h.1,j],l)
theorem Fw{c:Nat}:∀{xs ys:av (av Nat)},xs≠[]->ys≠[]->(∀x∈xs,c∉x)->(∀y∈ys,c∉y)->jn c xs=jn c ys->xs=ys
 |[],_,h,_,_,_,_=>absurd rfl h|_,[],_,h,_,_,_=>absurd rfl h|[x],[y],_,_,_,_,h=>by rw[show x=y from h]
 |[x],y::L::r,_,_,d,_,h=>by have h:x=y++c::jn c (L::r):=h;exact absurd (by rw[h];simp) (d x 's')
 |x::J::r,[y],_,_,_,e,h=>by have h:x++c::jn c (J::r)=y:=h;exact absurd (by rw[<-h];simp) (e y 's')
 |x::J::r,y::L::o,_,_,d,e,h=>by let(j,l):=BD (d x 's') (e y 's') (show x++c::jn c (J::r)=y++c::jn c (L::o) from h);have U:=Fw 's' 's' (λz g=>d z (zzc _ g)) (λz g=>e z (zzc _ g)) l;rw[j,U]
theorem iB(c:Nat):∀J:av Str,(zbb ⟨#[c]⟩ J).cps.toList=jn c (J.map λl=>l.cps.toList)
 |[]=>rfl|[x]=>rfl|x::y::r=>by have L:=iB c (y::r);show (x++⟨#[c]⟩++zbb ⟨#[c]⟩ (y::r)).cps.toList=x.cps.toList++c::jn c ((y::r).map λl=>l.cps.toList);rw[zwD,zwD,zxG,zxG,L];simp
theorem jX(h:a.cps.toList=b.cps.toList):a=b:=by cases a;simp only at h;rw[zeu.mp h]
theorem gH{c:Nat}(J:hs≠[])(h:∀l∈hs,c∉l.cps.toList):zab (zaf ⟨#[c]⟩ hs) ⟨#[c]⟩=hs:=by
 have L:zaf ⟨#[c]⟩ hs=zbb ⟨#[c]⟩ hs:=zyp ..;have d:=zdG (zaf ⟨#[c]⟩ hs) ⟨#[c]⟩;have o:=zvr (zaf ⟨#[c]⟩ hs) c;have q:zab (zaf ⟨#[c]⟩ hs) ⟨#[c]⟩≠[]:=λz=>by have:=zcy (zaf ⟨#[c]⟩ hs) ⟨#[c]⟩;rw[z]at this;exact absurd this 'd'
 generalize zab (zaf ⟨#[c]⟩ hs) ⟨#[c]⟩=ps at d o q;rw[L]at d;have j:=congrArg (λz:Str=>z.cps.toList) d;simp only[iB]at j;have U:=Fw (by simpa using q) (by simpa using J) (λx g=>by let(l,e,rfl):=zzi.mp g;exact o l e) (λx g=>by let(l,e,rfl):=zzi.mp g;exact h l e) j;exact zwx (λ_ _=>jX) |>.mp U
theorem gI(m:Nat):NumText.AllDigits (numS ((m:Nat):Int)).cps.toList:=λc J=>by unfold numS at J;rw[zxu]at J;have(ch,L,e):=zzi.mp J;have r:=PyProof.Rows.digit_range (Nat.isDigit_of_mem_toDigits 'd' 'd' L);rw[<-e];exact r
theorem Fy(m:Nat):(numS ((m:Nat):Int)).cps.toList≠[]:=by unfold numS;rw[zxu];intro e;have h:=zcQ 10 m;rw[zdp.mp e]at h;exact absurd h 'd'
theorem tP{n:Int}(h0:0<=n)(b:Bd 100 n):intText? (numS n)\n:=by have c:=qV h0 b;have(m,rfl):=zyq h0;have e:=zvd (gI m) (Fy m) (zzk c 'd');unfold numS at e⊢;rw[zxu,PySem.W.KIN.val_back]at e;exact e
theorem Eg(m:Nat)(j:0<m):((za0 10 m).map zcW).head? ≠ some 48:=by
 induction m using Nat.strongRecOn with
 |_ m L =>
  by_cases h:m<10
  .rw[Nat.toDigits_of_lt_base h];have key:∀d:Nat,d<10->0<d->(Nat.digitChar d).toNat≠48:='d'
   intro z;exact key m h j (zzP z)
  .have l:m % 10<10:=Nat.mod_lt m 'd';have t:za0 10 (m / 10)++za0 10 (m % 10)=za0 10 (10*(m / 10)+m % 10):=zbB 'd' 'o' l;rw[Nat.div_add_mod]at t;have g:=L (m / 10) 'o' 'o';have J:(za0 10 (m / 10)).map zcW≠[]:=λe=>by
    have h:=zcQ 10 (m / 10);rw[zdp.mp e]at h;exact absurd h 'd'
   rw[<-t,zzm];cases q:(za0 10 (m / 10)).map zcW with
   |nil=>exact absurd q J|cons c r =>
    rw[q]at g;exact g
theorem xy{a b:Nat}{x:Str}(h:∀c∈x.cps.toList,a<=c/\c<=b):oq a b x=true:=by unfold oq;rw[zyA];intro c J;rw[zzj (h c J).1,zzj (h c J).2];rfl
theorem tQ{n:Int}(h0:0<=n)(h:n<10^30):cD (numS n)=true:=by
 have g:(numS n).length<=30:=zbl h0 'd' h;let(m,rfl):=zyq h0;have d:1<=(numS (m:Int)).length:=by
  have:=Fy m;cases q:(numS (m:Int)).cps.toList with
  |nil=>exact absurd q this|cons c r =>
   have e:(numS (m:Int)).cps.toList.length=(numS (m:Int)).length:=zzZ;rw[q,zzl]at e;lia
 unfold cD;rw[zzj d,zzj g,xy (gI m)];by_cases z:m=0
 .subst z;rfl
 .have:=Eg m 'l';have e:(numS (m:Int)).cps.toList.head? ≠ some 48:=by
   unfold numS;rw[zxu];exact this
  rw[zzo e];simp
theorem BE{n:Int}(h0:0<=n)(b:Bd 100 n):TxOk (numS n):=by refine(zzk (qV h0 b) 'd',?_);have(m,rfl):=zyq h0;refine zyJ.mpr λc U=>?_;have:=(gI m c (zyR.mpr U)).2;exact zzj 'l'
def Wd(x:Str):Prop:=∀c∈x.cps.toList,33<=c/\c<128
theorem BF:nlS=⟨#[10]⟩:='k'
theorem BG:spS=⟨#[32]⟩:='k'
theorem Fz{c d:Nat}:∀{xs:av (av Nat)},d∈jn c xs->d=c∨∃x∈xs,d∈x
 |[],h=>by simp[jn]at h
 |[x],h=>.inr (x,'s',h)|x::y::r,h=>by
  rcases zzg.mp h with h|h
  .exact .inr (x,'s',h)
  .rcases zze.mp h with h|h
   .exact .inl h
   .rcases Fz h with h|⟨z,e,h⟩
    .exact .inl h
    .exact .inr (z,zzc _ e,h)
theorem lD{c d:Nat}(h:d∈(zaf ⟨#[c]⟩ hs).cps.toList):d=c∨∃x∈hs,d∈x.cps.toList:=by
 have J:zaf ⟨#[c]⟩ hs=zbb ⟨#[c]⟩ hs:=zyp ..;rw[J,iB]at h;rcases Fz h with h|⟨x,g,h⟩
 .exact .inl h
 .let(l,e,rfl):=zzi.mp g;exact .inr (l,e,h)
theorem yA{L:av (av Str)}(h:L≠[])(e:∀l∈L,l≠[])(d:∀l∈L,∀x∈l,Wd x):zab (zaf nlS (L.map (zaf spS))) nlS=L.map (zaf spS)/\(L.map (zaf spS)).map (λl=>zab l spS)=L:=by
 refine(gH (by simpa using h) λl U=>?_,?_)
 .let(ws,J,rfl):=zzi.mp U;intro z;rcases lD z with z|⟨x,c,z⟩
  .exact absurd z 'd'
  .have:=d ws J x c 10 z;omega
 .rw[zzv]
  conv=>rhs;rw[<-zwh L]
  refine zzJ λws J=>?_;refine gH (e ws J) λx c z=>?_;have:=d ws J x c 32 z;omega
theorem Wd.num{n:Int}(h0:0<=n):Wd (numS n):=λc U=>by have(m,rfl):=zyq h0;have:=gI m c U;lia
theorem ji{x:Str}(h:isNm x=true):∀c∈x.cps.toList,97<=c/\c<=122:=λc J=>by unfold isNm oq at h;rw[zya,zyA]at h;have:=h.2 c J;simpa using this
theorem cX{x:Str}(h:isNm x=true):1<=x.length/\x.length<=8:=by unfold isNm at h;simp only[zya,zxj]at h;exact h.1
theorem Wd.nm{x:Str}(h:isNm x=true):Wd x:=λc J=>by have:=ji h c J;lia
theorem FA{x:Str}(h:isNm x=true):TxOk x:=by refine(zzk (cX h).2 'd',zyJ.mpr λc J=>?_);have:=ji h c (zyR.mpr J);exact zzj 'l'
structure BkT(hs:List Str)(ms:List Mk)(cells:List (List Int×Row)):Prop where
 h2:2 <= hs.length
 h6:hs.length <= 6
 hn:∀x∈hs,isNm x=true
 hd:hs.Nodup
 m5:ms.length <= 5
 mn:∀m∈ms,isNm m.1=true/\1 <= m.2.length/\m.2.length <= 6/\(∀x∈m.2,isNm x=true)/\m.2.Nodup
 md:(ms.map (·.1)).Nodup
 ln:(aU hs ms cells).length <= 60
 kl:∀c∈cells,c.1.length=ms.length/\RowN 100 hs.length c.2/\dU c.2
 kb:∀c∈cells,∀x∈c.2,x.1<10^30
 kk:∀c∈cells,∀(i:Nat)(k:Int)(m:Mk),c.1[i]? = some k->ms[i]? = some m->0 <= k/\k<m.2.length
 up:∀(i j:Nat)(x y:List Int×Row),i<j->cells[i]? = some x->cells[j]? = some y->HT.lexLt x.1 y.1=true
theorem BkT.sh{cT:av (av Int×Row)}(o:BkT hs ms cT):ShOk hs ms cT where
 h6:=o.h6
 m5:=o.m5
 ln:=o.ln
 hl:=λx d=>(cX (o.hn x d)).2
 ml:=λm e=>((cX (o.mn m e).1).2,(o.mn m e).2.2.1,λx d=>(cX ((o.mn m e).2.2.2.1 x d)).2)
 kl:=λc J=>((o.kl c J).1,(o.kl c J).2.1.1,λx d=>((o.kl c J).2.1.2 x d).mono 'd')
 kk:=o.kk
theorem Eh:∀(n:Nat)(ds:av Nat),ds.length=n+1->(∀c∈ds,48<=c/\c<=57)->(ds=[48]∨ds.head? ≠ some 48)->(za0 10 (za2 ds)).map zcW=ds/\za2 ds<10^(n+1):=by
 have key:∀d:Nat,d<10->(za0 10 d).map zcW=[d+48]:='k'
 intro n
 induction n with
 |zero =>
  intro ds l j _
  match ds,l with
  |[c],_ =>
   have:=j c 's';have e:za2 [c]=c-48:=by show 0*10+(c-48)=_;lia
   rw[e,key _ 'l'];exact(by rw[show c-48+48=c by lia],'l')
 |succ n v =>
  intro ds l j g;rcases zwQ ds with rfl|⟨p,c,rfl⟩
  .cases l
  rw[zxv]at l j g⊢;have L:p.length=n+1:=by simpa using l
  have J:∀x∈p,48<=x/\x<=57:=λx o=>j x (by simp[o]);have hc:=j c 's'
  match p,L with
  |q::r,L =>
   have U:q≠48:=by
    rintro rfl;rcases g with g|g
    .have:=congrArg zai g;simp at this
    .exact g rfl
   have q1:=J q 's';let(u,i2):=v (q::r) L J (.inr λz=>U (zzP z));have pos:0<za2 (q::r):=NumText.digitsVal_pos 'l';rw[NumText.digitsVal_snoc,Nat.mul_comm,<-zbB 'd' pos 'l',zzm,u,key _ 'l',show c-48+48=c by lia];lia
theorem Ei{t:Nat}(h:cD a=true)(e:intText? a\(t:Int)):numS (t:Int)=a/\t<10^30:=by
 unfold cD oq at h;simp only[zya,zxj,zyA,Bool.or_eq_true,zdT,decide_eq_false_iff_not]at h;walk;let(((h1,h2),g),q):=h;have L:a.cps.toList.length=a.length:=zzZ;have J:a.cps.toList≠[]:=λz=>by rw[z]at L;simp at L;lia
 have d:=zvd (x:=a) (λc u=>g c u) J 'l';rw[e]at d;have o:t=za2 a.cps.toList:=by have:=zzP d;lia
 let(j,i2):=Eh (a.length-1) a.cps.toList 'l' g (q.imp (λz=>by rw[z];decide +kernel) id);x_go;rw[<-o]at j i2;refine(jX ?_,zzA i2 (zwa 'd' 'l'));unfold numS;rw[zxu];exact j
abbrev linW(z:Str):av (av Str):=(zab z nlS).map λl=>zab l spS
structure Zt(z:Str):Prop where
 le:z.length <= 100000
 asc:∀c∈z.cps.toList,c<128
 nl:(zab z nlS).length <= 70
structure Gd(hs:List Str)(ms:List Mk)(cs:List Cs):Prop where
 h2:2 <= hs.length
 h6:hs.length <= 6
 hn:nmsB hs=true
 mo:MsT ms
 co:∀c∈cs,c.Ok hs ms
 cb:cs.Pairwise (Bh hs ms)
 cl:cs.length <= 60
def Mc(z:Str)(k:Nat):Prop:=(k=0/\∃w r rest,linW z=(w::r)::rest/\hlB w r=false) ∨
 ∃hs ms cs l rest,linW z=(aI::hs)::ms.map mkLn++(cs.map Cs.ln++l::rest)/\Gd hs ms cs/\(cs=[]->ms.length=5∨mlB (ms.map (·.1)) l=false)/\BB hs ms cs l/\k=1+ms.length+cs.length
theorem qX{c:Nat}:∀{xs:av (av Nat)}{x:av Nat},x∈xs->(x.length<=(jn c xs).length/\∀d∈x,d∈jn c xs)/\xs.length<=(jn c xs).length+1
 |[y],x,h=>by rw[zzt.mp h];exact((zzs _,λd hd=>hd),'s')
 |y::J::r,x,h=>by
  have e:jn c (y::J::r)=y++c::jn c (J::r):=rfl;have L:=(qX (c:=c) (xs:=J::r) (x:=J) zzd).2;rw[e,zzh,zzl];rcases zze.mp h with rfl|h
  .exact(('l',λd hd=>zzT _ hd),by simp only[zzl]at L⊢;lia)
  .let((i1,i2),U):=qX (c:=c) (xs:=J::r) h;exact(('l',λd hd=>zzN _ (zzc _ (i2 d hd))),by simp only[zzl]at U⊢;lia)
theorem qY(z:Str)(c:Nat):jn c ((zab z ⟨#[c]⟩).map λl=>l.cps.toList)=z.cps.toList:=by rw[<-iB,zdG]
theorem gJ{c:Nat}{l:Str}(h:l∈zab z ⟨#[c]⟩):l.length<=z.length/\(∀d∈l.cps.toList,d∈z.cps.toList)/\(zab z ⟨#[c]⟩).length<=z.length+1:=by have e:=qY z c;have((a,b),d):=qX (c:=c) (zzi.mpr (l,h,rfl):l.cps.toList∈(zab z ⟨#[c]⟩).map λl=>l.cps.toList);rw[e]at a b d;rw[zza]at d;have h1:z.cps.toList.length=z.length:=zzZ;have h2:l.cps.toList.length=l.length:=zzZ;exact('l',b,'l')
theorem jl(z:Str)(c:Nat):zab z ⟨#[c]⟩≠[]:=λq=>by have:=zcy z ⟨#[c]⟩;rw[q]at this;exact absurd this 'd'
theorem xz{x:Str}(h:∀c∈x.cps.toList,c<128):zal x=true:=zyJ.mpr λc J=>zzj (by have:=h c (zyR.mpr J);lia)
theorem Zt.ln(o:Zt z)(h:ws∈linW z):LnOk ws:=by
 have(l,e,rfl):=zzi.mp h;rw[BG];have(a1,a2,_):=gJ e;have:=o.le;refine(jl _ _,?_,λx g=>?_)
 .cases q:zab l ⟨#[32]⟩ with
  |nil=>exact zyh _|cons y r =>
   have:=(gJ (c:=32) (z:=l) (l:=y) (by rw[q];exact zzd)).2.2;lia
 .let(b1,U,_):=gJ g;exact('l',xz λc d=>o.asc c (a2 c (U c d)))
theorem pM(o:Zt z){Q:av D->Prop}(q:Q ((linW z).map lnD)):cZ (bO 0) cf (dFrz (Fp (dVar 0) (dC (.str spS)))) ((zab z nlS).map D.str) [] [s] Q:=by refine bG (λl=>.lst ((zab l spS).map .str)) (λc=>∃s,c=[s]) (zzk o.nl 'd') (λl d c Y Z J L=>?_) _ (_,rfl) (by rw[zzv]at q;exact q);let(s,rfl):=J;have:=(gJ d).1;have:=o.le;exact Br.t (l,rfl,spS,(rfl,'k',zzk (show l.length+2<=100002 by lia) 'd'),L _ (_,rfl))
def Hx(hs:av Str)(ms:av Mk)(cs:av Cs):D:=.tup [nmD hs ms,.tup [.int hs.length,.tup (ms.map λm=>.int m.2.length),.tup ((gath hs.length (cs.map λc=>(kpl c.kw ms,bI hs.length (c.rt hs ms)))).map bQ)]]
inductive gRead(ds:List D)(Q:D->Prop):Prop
 |mk (z:Str) (hs:List Str) (ms:List Mk) (cs:List Cs):ds=[.str z]->Zt z/\linW z=(aI::hs)::ms.map mkLn++cs.map Cs.ln->Gd hs ms cs->Q (Hx hs ms cs)->gRead ds Q
theorem Hy:∀(ds:av D)(P J:D->Prop),(∀d,P d->J d)->gRead ds P->gRead ds J:=by rintro ds P J f ⟨z,hs,ms,cs,a,b,c,h⟩;exact(z,hs,ms,cs,a,b,c,f _ h)
theorem vx(c:av Str)(r:av Str):mlB c (gi::r)=false:=by
 cases r with
 |nil=>rfl|cons n r =>
  show (decide (gi=eG) && (decide (1<=r.length) && decide (r.length<=6)) && isNm n && !decide (n∈c) && nmsB r)=false;rw[show decide (gi=eG)=false by decide +kernel];simp
theorem Kh{cs:av Cs}(o:Gd hs ms cs):hlB aI hs=true:=by unfold hlB;rw[zzj rfl,zzj o.h2,zzj o.h6,o.hn];rfl
theorem z_sp(h:n<=100000):n+2<=zaa:=zzk (zvb h 2) 'd'
theorem FC(T:Tx K mg):T.nQ.Ok P w base CX0 5 (spD K 1 gRead):=by
 refine fnd ["text","lines","marks","names","many","pairs","book"] (λe _=>(af (dif (bu (bc (aR mj T.au rfl (ae (dv 0) (da1 (gL T.yR)))))) dnv) (af (jP 1 (aH ["line"] [none] rfl (bq (aq (gF (dv 0) ag))) (dgb 0) aG (aq (gF (dv 0) ag)))) (af (dif (bu (bc (dcl (fO T) e (da1 (dx 1))))) dnv) (af (dse 2 (dcl (pK T) e (a1 1))) (af (dse 3 (aC (ae (aq (eS (dx 1) (cI ai) dF)) (a1 2)))) (af (dse 4 (dln bz T.bJ (dx 3))) (af (jP 5 (aH ["row","many"] [none,some 4] rfl (bq (dcl (BC T) e (a2 1 3))) (dgb 0) aG (aC (ae (dx 0) (da1 (dcl (gj T) e (a2 0 1))))))) (af (dse 6 (aC (ae (dv 4) (ae (aN bN T.bF (da1 (dfc (aH ["name","kinds"] [none,none] rfl (bq (dv 2)) (dg2 0 1) aG (dln bz T.bJ (dv 1)))))) (da1 (aN bN T.bF (da1 (dcl (gG T) e (a2 4 5))))))))) (dr (aC (a2 3 6)))))))))))) (λds Q v h=>?_);let(z,hs,ms,cs,rfl,(L,sp),o,h):=h;refine(rfl,rfl,Br.f (z,rfl,nlS,(rfl,'k',z_sp L.le),pM L ?_));have lo:=λws a=>L.ln (ws:=ws) a;have cl:=L.nl;have c60:=o.cl;rw[<-zza (f:=λl=>zab l spS),show (zab z nlS).map (λl=>zab l spS)=linW z from rfl,sp]at cl;simp only[zzh,zzl,zza]at cl;rw[sp]at lo⊢;have H:=lo _ zzd;have G:∀c∈cs,LnOk c.ln:=λc J=>lo _ (zzN _ (zzi.mpr (c,J,rfl)));refine aX (d:=lnD (aI::hs)) (zyH 0) rfl (rfl,aI,hs,rfl,by have:=o.h6;lia,H.ok _ zzd,λx b=>H.ok x (zzc _ b),?_);rw[Kh o];refine Br.f (rfl,aI::hs,ms,cs.map Cs.ln,rfl,o.mo,λl v=>?_,?_)
 .cases cs with
  |nil=>cases v
  |cons c cs =>
   cases v;exact(G c zzd,.inr (vx _ _))
 have I:cutD ((aI::hs).map D.str) (some 1) none=hs.map D.str:=cW D.str 1 (aI::hs) 's';refine aX (d:=lnD (aI::hs)) (zyH 0) rfl ?_;refine(sz,?_);rw[I];have q:=o.h6;have B:∀c∈cs,RtOk hs.length (c.rt hs ms):=λc J=>by have j:=o.co c J;have c2:=(Ei j.na j.ta).2;have E:plc c.hn hs<hs.length:=zyw (c.hn,j.hh,'s');have:=j.tw;exact(by show (0:Int)<=(plc c.hn hs:Nat);lia,by show ((plc c.hn hs:Nat):Int)<_;omega,by show (0:Int)<=(c.w:Nat);lia,by show ((c.w:Nat):Int)<=(c.t:Nat);lia,by show ((c.t:Nat):Int)<_;omega)
 refine(rfl,hs,ms,cs,[],aI::hs,by rw[zzB],(o.mo.l5,q,λm C=>(o.mo.nm m C).2.2.1),by simp only[zzY];lia,λc J=>(o.co c J,G c J),o.cb,.inl (rfl,?_));refine bG (λr=>bQ (r.ks,bI hs.length r)) (λg=>∃s,g=[s,.val (.int hs.length)]) (by rw[zza];exact zzk (show cs.length<=60 by omega) 'd') (λr e g Y Z U u=>?_) _ (_,by rw[zza];rfl) ?_
 .let(s,rfl):=U;let(c,J,rfl):=zzi.mp e;exact Br.t (rfl,c.rt hs ms,hs.length,rfl,B c J,q,sz,u _ (_,rfl))
 have M:((cs.map (Cs.rt hs ms)).map λr=>bQ (r.ks,bI hs.length r))=(cs.map λc=>(kpl c.kw ms,bI hs.length (c.rt hs ms))).map bQ:=by rw[zzv,zzv];rfl
 rw[M];refine bG (λm=>.int (m.2.map D.str).length) (λg=>∃s s',g=[s,s']) (zzk o.mo.l5 'd') (λm C g Y Z U u=>?_) _ (_,_,rfl) ?_
 .let(s,s',rfl):=U;exact(rfl,Br.t (u _ (_,_,rfl)))
 have N:(ms.map λm=>D.int (m.2.map D.str).length)=ms.map λm=>.int m.2.length:=by simp only[zza]
 rw[N,show (hs.map D.str).length=hs.length from zza ..];refine(rfl,hs.length,_,_,ms.length,rfl,.inl rfl,(q,by rw[zza];omega,λp E=>?_),sz,sz,h);let(c,J,rfl):=zzi.mp E;refine(?_,qT (B c J));have:=(o.co c J).kl;show (kpl c.kw ms).length=_;unfold kpl;rw[zza,zyo];lia
def BadD(d:D)(k:Nat):Prop:=(mi d=true/\kC d=false/\k=0)∨∃z,d=.str z/\Zt z/\Mc z k
inductive gReadX(ds:List D)(x1:D->Prop)(W:Addr->Prop):Prop
 |mk d k:ds=[d]->BadD d k->W k->gReadX ds x1 W
theorem Hz(T:Tx K mg):T.nQ.Ok P w base (CXE P w) 5 (spDA (xiN T.aD) K 1 gReadX):=by
 refine fnDA (xi:=xiN T.aD) T.nQ.d.F Ht (λq g B=>(af (dif (bu (bc (aR mj T.au rfl (ae (dv 0) (da1 (gL T.yR)))))) (az (mH (xi:=xiN T.aD) (a1:="line") T.dY (fu T) (g.mono 'd') T.jy.b rfl rfl T.gu gE q (da1 ai)))) (af (xm (i:=1) B rfl rfl (by letI:Frm:=Frm.free;exact(aH ["line"] [none] rfl (bq (aq (gF (dv 0) ag))) (dgb 0) aG (aq (gF (dv 0) ag))))) (af (dif (bu (bc (dcl (fO T) g (da1 (dx 1))))) (az (mH (xi:=xiN T.aD) (a1:="line") T.dY (fu T) (g.mono 'd') T.jy.b rfl rfl T.gu gE q (da1 ai)))) (af (dse 2 (dcl (pK T) g (a1 1))) (af (dse 3 (aC (ae (aq (eS (dx 1) (cI ai) dF)) (a1 2)))) (af (dse 4 (dln bz T.bJ (dx 3))) (af (xo (i:=5) B rfl rfl (N':=["row","many"]) rfl rfl 'k' rfl (.own (.cap (j:=4) rfl (by room) rfl .nil)) 'k' (bq (wY (xi:=xiN T.aD) (x:="rows_of") (pL T) gE q (g.mono 'd') rfl T.eX.d.m T.eX.d.F.kp T.eX.d.b (a2 1 3)))) (af bx dnv))))))))) (λds Q W hl h=>?_);obtain⟨d,k,rfl,⟨E,ns,rfl⟩|⟨z,rfl,U,bad⟩,h⟩:=h
 .refine(rfl,E,?_);rw[ns];exact Br.t (jW (k:=0) rfl h)
 refine(rfl,rfl,Br.f (z,rfl,nlS,(rfl,'k',z_sp U.le),pM U ?_));have lo:=λws I=>U.ln (ws:=ws) I;rcases bad with ⟨rfl,w,r,rest,sp,G⟩|⟨hs,ms,cs,l,rest,sp,o,nm,nc,rfl⟩
 .rw[sp]at lo⊢;have J:=lo _ zzd;refine aX (d:=lnD (w::r)) (zyH 0) rfl (rfl,w,r,rfl,by have:=J.le;simp only[zzl]at this;lia,J.ok _ zzd,λx e=>J.ok x (zzc _ e),?_);rw[G];exact Br.t (jW (k:=0) rfl h)
 have cl:=U.nl;rw[<-zza (f:=λl=>zab l spS),show (zab z nlS).map (λl=>zab l spS)=linW z from rfl,sp]at cl;simp only[zzh,zzl,zza]at cl;rw[sp]at lo⊢;have J:=lo _ zzd;have u:∀c∈cs,LnOk c.ln:=λc L=>lo _ (zzN _ (zzT _ (zzi.mpr (c,L,rfl))));have v:LnOk l:=lo _ (zzN _ (zzN _ zzd));refine aX (d:=lnD (aI::hs)) (zyH 0) rfl (rfl,aI,hs,rfl,by have:=o.h6;lia,J.ok _ zzd,λx e=>J.ok x (zzc _ e),?_);rw[Kh o];refine Br.f (rfl,aI::hs,ms,cs.map Cs.ln++l::rest,rfl,o.mo,λx e=>?_,?_)
 .cases cs with
  |nil =>
   cases e;exact(v,nm rfl)
  |cons c cs =>
   cases e;exact(u c zzd,.inr (vx _ _))
 have C:cutD ((aI::hs).map D.str) (some 1) none=hs.map D.str:=cW D.str 1 (aI::hs) 's';refine aX (d:=lnD (aI::hs)) (zyH 0) rfl ?_;refine(sz,?_);rw[C];exact(rfl,hs,ms,cs,l::rest,aI::hs,rfl,(o.mo.l5,o.h6,λm H=>(o.mo.nm m H).2.2.1),by simp only[zzl];lia,λc L=>(o.co c L,u c L),o.cb,.inr (l,rest,rfl,v,nc,h))
theorem HA(T:Tx K mg):T.nQ.Ok P w base (CXE P w) 5 (spDA (xiN T.aD) K 1 λds Q W=>gRead ds Q∨gReadX ds Q W):=Tactic.FnOk.orA (Tactic.FnOk.asA (FC T)) (Hz T)
theorem pN(d:ws.Nodup)(J:k<ws.length):plc ws[k] ws=k:=by
 have c:plc ws[k] ws<ws.length:=zyw (ws[k],zzS J,'s');have e:ws[plc ws[k] ws]=ws[k]:=by have:=zwd (w:=c);exact zzX this
 exact(zxE d).mp e
theorem vy:∀(ms:av Mk)(ks:av Int),ks.length=ms.length->(∀m∈ms,m.2.Nodup)->(∀(i:Nat)(k:Int)(m:Mk),ks[i]?\k->ms[i]?\m->0<=k/\k<m.2.length)->kpl (wds ms ks) ms=ks
 |[],[],_,_,_=>rfl|[],_::_,h,_,_=>by simp at h
 |_::_,[],h,_,_=>by simp at h
 |m::ms,k::ks,h,c,L=>by
  have U:=vy ms ks (by simpa using h) (λx g=>c x (zzc _ g)) (λi a b d e=>L (i+1) a b d e);let(k0,k1):=L 0 k m rfl rfl;have J:k.toNat<m.2.length:='o'
  show (plc (m.2.getD k.toNat zat) m.2:Int)::kpl (wds ms ks) ms=_;rw[U,zzw,zzp J,Option.getD_some,pN (c m 's') J];congr 1;omega
theorem FD:∀(ms:av Mk)(ks:av Int),ks.length=ms.length->(∀(i:Nat)(k:Int)(m:Mk),ks[i]?\k->ms[i]?\m->0<=k/\k<m.2.length)->(wds ms ks).length=ms.length/\∀(i:Nat)(x:Str)(m:Mk),(wds ms ks)[i]?\x->ms[i]?\m->x∈m.2
 |[],[],_,_=>(rfl,λi x m h=>by simp[wds]at h)
 |[],_::_,h,_=>by simp at h
 |_::_,[],h,_=>by simp at h
 |m::ms,k::ks,h,L=>by
  let(g,i2):=FD ms ks (by simpa using h) (λi a b c d=>L (i+1) a b c d);let(j,l):=L 0 k m rfl rfl;have J:k.toNat<m.2.length:=(zwA j).mpr l;have e:wds (m::ms) (k::ks)=m.2[k.toNat]::wds ms ks:=by unfold wds;rw[zxf,zzq,zzw,zzp J];rfl
  rw[e];refine(by rw[zzl,zzl,g],λi x a c d=>?_);cases i with
  |zero =>
   simp at c d;subst c d;exact zzS J
  |succ i=>exact i2 i x a c d
theorem yB{cT:av (av Int×Row)}(o:BkT hs ms cT){c:av Int×Row}(L:c∈cT){d:Cs}(hd:d∈csOf hs ms c) :
  CsOk hs ms d.hn d.kw d.a d.b d.t d.w/\d.t<10^30/\(∀x∈d.hn::d.kw,isNm x=true)/\kpl d.kw ms=c.1:=by
 walk;let(p,U,rfl):=zzi.mp hd;let(U,hpos):=zzM.mp U;let(j,l):=zxt U;let(a1,a2,a3):=o.kl c L;have cn:=a2.2 p.2 l;let(q,u):=FD ms c.1 a1 (o.kk c L);x_go;have lo:=cn.lo;have hi:=cn.hi;have b1:=o.kb c L p.2 l;have C:∀x∈wds ms c.1,isNm x=true:=λx e=>by
  let(i,hi):=zyn.mp e;have J:i<ms.length:=by rw[<-q];exact(zzC.mp hi).1
  have:=u i x ms[i] hi (zzp J);exact(o.mn _ (zzS J)).2.2.2.1 x this
 refine((j,q,u,tQ 'l' 'o',tQ 'l' 'l',?_,?_,by show 0<p.2.1.toNat;lia,by show p.2.2.toNat<=p.2.1.toNat;lia,BE 'l' (cn.bt.mono 'd'),BE 'l' (cn.bw.mono 'd')),by show p.2.1.toNat<_;lia,λx e=>?_,vy ms c.1 a1 (λm B=>(o.mn m B).2.2.2.2) (o.kk c L))
 .rw[tP 'l' (cn.bt.mono 'd')];exact congrArg some (by show p.2.1=((p.2.1.toNat:Nat):Int);lia)
 .rw[tP 'l' (cn.bw.mono 'd')];exact congrArg some (by show p.2.2=((p.2.2.toNat:Nat):Int);lia)
 .rcases zze.mp e with rfl|e
  .exact o.hn _ j
  .exact C x e
theorem tR:∀ks:av Int,HT.lexLt ks ks=false
 |[]=>rfl|k::ks=>by rw[HT.lexLt_cons,zzu rfl,tR ks]
theorem Ki(c:hs.Nodup)(r:Row):(hs.zip r).Pairwise λp q=>plc p.1 hs<plc q.1 hs:=by
 rw[zyt];intro i j hi d L;have J:i<hs.length:=by rw[zyo]at hi;lia
 have U:j<hs.length:=by rw[zyo]at d;lia
 rw[zer,zer];rw[pN c J,pN c U];exact L
theorem HB{cT:av (av Int×Row)}(o:BkT hs ms cT):(cT.flatMap (csOf hs ms)).Pairwise λx y=>gtP (kpl y.kw ms) (plc y.hn hs) (kpl x.kw ms) (plc x.hn hs)=true:=by
 rw[List.pairwise_flatMap];refine(λc L=>?_,?_)
 .have hk:kpl (wds ms c.1) ms=c.1:=vy ms c.1 (o.kl c L).1 (λm g=>(o.mn m g).2.2.2.2) (o.kk c L);unfold csOf;rw[zxk];refine List.Pairwise.imp ?_ ((Ki o.hd c.2).filter _);intro p q hpq;unfold gtP;rw[zzu rfl];exact zzj (show ((plc p.1 hs:Nat):Int)<((plc q.1 hs:Nat):Int) by lia)
 .rw[zyt];intro i j hi U J x l y u;have d:=(yB o (zzS hi) l).2.2.2;have e:=(yB o (zzS U) u).2.2.2;have lt:=o.up i j cT[i] cT[j] J (zzp hi) (zzp U);rw[d,e];unfold gtP;rw[zzn (λz=>by rw[z,tR]at lt;exact zzL lt)];exact lt
theorem FE(h:∀x∈ws,isNm x=true)(c:ws.Nodup):nmsB ws=true:=by unfold nmsB;rw[zyA.mpr h,yi c,zzj rfl];rfl
theorem Ej{cT:av (av Int×Row)}(o:BkT hs ms cT):∀l∈aU hs ms cT,l≠[]/\∀x∈l,Wd x:=λl g=>by
  rcases zzg.mp g with g|g
  .rcases zze.mp g with rfl|g
   .refine('s',λx e=>?_);rcases zze.mp e with rfl|e
    .unfold Wd;decide +kernel
    .exact Wd.nm (o.hn x e)
   .let(m,q,rfl):=zzi.mp g;let(a1,a2,a3,U,a5):=o.mn m q;refine(by simp[mkLn],λx e=>?_);rcases zze.mp e with rfl|e
    .unfold Wd;decide +kernel
    .rcases zze.mp e with rfl|e
     .exact Wd.nm a1
     .exact Wd.nm (U x e)
  .let(d,hd,rfl):=zzi.mp g;let(c,L,hd):=zwe.mp hd;let(b1,b2,j,b4):=yB o L hd;refine(by simp[Cs.ln],λx e=>?_);have J:Wd d.a/\Wd d.b:=by
    let(p,u,rfl):=zzi.mp hd;have cn:=(o.kl c L).2.1.2 p.2 (zxt (zzM.mp u).1).2;have lo:=cn.lo;have hi:=cn.hi;exact(Wd.num 'l',Wd.num 'l')
   rcases zzg.mp e with e|e
   .rcases zze.mp e with rfl|e
    .unfold Wd;decide +kernel
    .exact Wd.nm (j x e)
   .simp only[zze,zyb,zxa]at e;rcases e with rfl|rfl
    .exact J.1
    .exact J.2
theorem gk{cT:av (av Int×Row)}(o:BkT hs ms cT):(Zt (aL hs ms cT)/\linW (aL hs ms cT)=(aI::hs)::ms.map mkLn++(cT.flatMap (csOf hs ms)).map Cs.ln)/\Gd hs ms (cT.flatMap (csOf hs ms)):=by
 have u:=qW o.sh;have M:=o.ln;have ln:aU hs ms cT≠[]:=by unfold aU;simp
 have U:=Ej o;let(v,N):=yA ln (λl g=>(U l g).1) (λl g=>(U l g).2);have I:∀l∈(aU hs ms cT).map (zaf spS),l.length<=492:=λl g=>by let(ws,J,rfl):=zzi.mp g;exact jh (B:=40) (u ws J).2 (u ws J).1
 refine(((?_,λc L=>?_,?_),?_),(o.h2,o.h6,FE o.hn o.hd,(o.m5,o.md,λm H=>?_),λd hd=>?_,HB o,?_))
 .have E:=zwL nlS ((aU hs ms cT).map (zaf spS));have G:=zb3 _ I;have e:nlS.length=1:='k'
  have e2:aL hs ms cT=zbb nlS ((aU hs ms cT).map (zaf spS)):=zyp ..;rw[zza]at E G;lia
 .unfold aL at L;rcases lD L with rfl|⟨l,g,L⟩
  .decide
  .let(ws,J,rfl):=zzi.mp g;rcases lD L with rfl|⟨x,j,L⟩
   .decide
   .exact((U ws J).2 x j c L).2
 .unfold aL;rw[v,zza];exact zzk M 'd'
 .unfold aL linW;rw[v,N];rfl
 .let(a1,a2,a3,q,C):=o.mn m H;exact(a1,a2,a3,FE q C,FA a1,λx j=>FA (q x j))
 .let(c,L,hd):=zwe.mp hd;exact(yB o L hd).1
 .have:=o.ln;unfold aU at this;simp only[zzO,zzl,zzh,zza]at this;lia
theorem HC(c:h<n)(x:Int×Int)(j:Nat)(J:j<n)(ks:av Int):at_ (bI n (h,ks,x.1,x.2)) j=if j=h then x else(0,0):=by
 unfold at_ bI;rw[zzw,show ((h:Nat):Int).toNat=h by lia,List.getElem?_set];by_cases e:h=j
 .subst e;simp[c]
 .rw[zzn e,zzn (Ne.symm e)];simp[J]
theorem xA:sumP []=(0,0):=rfl
theorem jm(c:Int×Int)(cs:av (Int×Int)):sumP (c::cs)=(c.1+(sumP cs).1,c.2+(sumP cs).2):=by unfold sumP;rw[zzq,zzq,zvs,zvs]
theorem Ek(a b:av (Int×Int)):sumP (a++b)=((sumP a).1+(sumP b).1,(sumP a).2+(sumP b).2):=by
 induction a with
 |nil=>simp[xA]|cons c a J =>
  rw[zzO,jm,J,jm];simp only[zak.injEq];constructor<;>lia
theorem xB(d:α)(l:av α):(zav l.length).map (λi=>l.getD i d)=l:=by
 apply zey
 .simp
 .intro i h1 c;simp[c]
theorem jY(m:Nat)(ps:av (av Int×Row)):(bR m ps).map (·.1)=fm ((grp ps).map (·.1)):=by unfold bR;rw[zzv];exact zwh _
theorem xC(m:Nat)(ps:av (av Int×Row)):((bR m ps).map (·.1)).Pairwise λa b=>ltI a b=true:=by rw[jY];exact je (Bv _)
theorem parts_mem{k:av Int}:k∈(bR m ps).map (·.1)↔k∈ps.map (·.1):=by rw[jY,(bZ _).mem_iff,mW]
theorem mZ{c:av Int×Row}(h:c∈bR m ps):c.2=sums ((ps.filter λp=>decide (p.1=c.1)).map (·.2)) m:=by let(k,_,rfl):=zzi.mp h;rw[jV]
theorem El(m:Nat)(ps:av (av Int×Row)):bR m ps=((bR m ps).map (·.1)).map λk=>(k,sums ((ps.filter λp=>decide (p.1=k)).map (·.2)) m):=by
 rw[zzv]
 conv=>lhs;rw[<-zwh (bR m ps)]
 apply zzJ;intro c J;show c=(c.1,_);rw[<-mZ J]
theorem HD{rows:av Row}(c:h<n):at_ (sums rows n) h=sumP (col rows h):=by unfold at_ sums;rw[zzw,zzz,zvk c];rfl
theorem sum1{r:Row}(h:r.length=m):sums [r] m=r:=by
 subst h;unfold sums;have:(zav r.length).map (λh=>sumP (col [r] h))=(zav r.length).map λh=>r.getD h (0,0):=by apply zzJ;unfold sumP col at_;simp
 rw[this];exact xB (0,0) r
theorem eW(e:(ps.map (·.1)).Nodup)(J:p∈ps):ps.filter (λq=>decide (q.1=p.1))=[p]:=by
 induction ps with
 |nil=>cases J
 |cons q ps U =>
  let(c,d):=zye.mp (by simpa using e:(q.1::ps.map (·.1)).Nodup);rcases zze.mp J with rfl|J
  .rw[zyT 's',zxq.mpr];intro g L z;exact c (zzi.mpr (g,L,by simpa using z))
  .rw[zyU,U d J];intro z;have z:q.1=p.1:=by simpa using z
   exact c (zzi.mpr (p,J,z.symm))
theorem yC{l:av (av Int)}(h:l.Pairwise λa b=>ltI a b=true):l.Nodup:=h.imp λ{a b} J z=>by rw[z,qQ]at J;cases J
theorem jZ(up:(ps.map (·.1)).Pairwise λa b=>ltI a b=true)(d:∀p∈ps,p.2.length=m):bR m ps=ps:=by
 rw[El];have c:(bR m ps).map (·.1)=ps.map (·.1):=Hw (xC m ps) up λk=>parts_mem;rw[c,zzv]
 conv=>rhs;rw[<-zwh ps]
 apply zzJ;intro p J;show (p.1,sums ((ps.filter λq=>decide (q.1=p.1)).map (·.2)) m)=p;rw[eW (yC up) J,zvq,sum1 (d p J)]
theorem nj:∀a b:av Int,a.length=b.length->HT.lexLt a b=ltI a b
 |[],[],_=>rfl|[],_::_,h=>by simp at h
 |_::_,[],h=>by simp at h
 |a::r,b::s,h=>by rw[HT.lexLt_cons,nj r s (by simpa using h)];rfl
theorem xD{hs:av Str}{n h:Nat}(j:h<n)(ks:av Int):∀(J:av Str)(r:Row)(s:Nat),J.length=r.length->s+J.length<=n->(∀(i:Nat)(hi:i<J.length),plc J[i] hs=s+i)->(∀c∈r,0<=c.2/\c.2<=c.1) ->
  sumP (((J.zip r).filter λp=>decide (0<p.2.1)).map λp=>at_ (bI n ((plc p.1 hs:Nat),ks,(p.2.1.toNat:Nat),(p.2.2.toNat:Nat))) h)=if s<=h then at_ r (h-s) else(0,0)
 |[],[],s,_,_,_,_=>by unfold at_;simp[xA]
 |[],_::_,_,h,_,_,_=>by simp at h
 |_::_,[],_,h,_,_,_=>by simp at h
 |x::J,c::r,s,E,L,l,U=>by
  have o:=xD (hs:=hs) j ks J r (s+1) (by simpa using E) (by simp at L;lia) (λi hi=>by have:=l (i+1) (by simpa using hi);simp only[List.getElem_cons_succ]at this;lia) (λd hd=>U d (zzc _ hd));have G:plc x hs=s:=by have:=l 0 's';exact this
  let(g,v):=U c zzd;have H:s<n:=by simp at L;lia
  have u:=HC (n:=n) (h:=s) H (((c.1.toNat:Nat):Int),((c.2.toNat:Nat):Int)) h j ks;rw[zxf];have B:(((c.1.toNat:Nat):Int),((c.2.toNat:Nat):Int))=c:=ze1 (zwl (Int.le_trans g v)) (zwl g);have C:(if s<=h then at_ (c::r) (h-s) else(0,0))=if h=s then c else if s+1<=h then at_ r (h-(s+1)) else(0,0):=by
   by_cases e:h=s
   .subst e;rw[zzu (zzs _),zzu rfl,zxX];rfl
   .rw[zzn e];by_cases q:s<=h
    .rw[zzu q,zzu (show s+1<=h from zyy q (Ne.symm e)),show h-s=(h-(s+1))+1 from(Nat.sub_add_cancel (Nat.sub_pos_of_lt (zyy q (Ne.symm e)))).symm];rfl
    .rw[zzn q,zzn λz=>q (zyC z)]
  rw[C];by_cases z:0<c.1
  .rw[zyT (by simpa using z),zzq,jm,o];rw[G,u,B];by_cases e:h=s
   .rw[zzu e,zzu e,zzn 'l'];simp
   .rw[zzn e,zzn e];simp
  .rw[zyU (by simpa using z),o];by_cases e:h=s
   .rw[zzu e,zzn 'l'];exact ze1 (by show (0:Int)=c.1;lia) (by show (0:Int)=c.2;lia)
   .rw[zzn e]
theorem HE(a b:av Row)(h:Nat):col (a++b) h=col a h++col b h:=by unfold col;rw[zzm]
theorem xE{h:Nat}{k:av Int}(f:av Int×Row->av (av Int×Row)):∀L:av (av Int×Row),(∀x∈L,(∀p∈f x,p.1=x.1)/\sumP (col ((f x).map (·.2)) h)=at_ x.2 h) ->
  sumP (col (((L.flatMap f).filter λp=>decide (p.1=k)).map (·.2)) h)=sumP (col ((L.filter λp=>decide (p.1=k)).map (·.2)) h)
 |[],_=>rfl|x::L,H=>by
  let(c,g):=H x zzd;have U:=xE (k:=k) f L λy d=>H y (zzc _ d);rw[zxA,zyz,zzm,HE,Ek,U];by_cases e:x.1=k
  .rw[zyT (by simpa using e),zzq];have:(f x).filter (λp=>decide (p.1=k))=f x:=zvl.mpr λp J=>by rw[c p J];simpa using e
   rw[this,g];exact(jm _ _).symm
  .rw[zyU (by simpa using e)];have:(f x).filter (λp=>decide (p.1=k))=[]:=zxq.mpr λp J=>by rw[c p J];simpa using e
   rw[this];show (zak (0+_) (0+_))=_;simp
theorem nq{cT:av (av Int×Row)}(o:BkT hs ms cT):gath hs.length ((cT.flatMap (csOf hs ms)).map λc=>(zak (kpl c.kw ms) (bI hs.length (c.rt hs ms))))=cT:=by
 have G:(cT.flatMap (csOf hs ms)).map (λc=>(zak (kpl c.kw ms) (bI hs.length (c.rt hs ms))))=cT.flatMap λx=>(csOf hs ms x).map λc=>(kpl c.kw ms,bI hs.length (c.rt hs ms)):=by rw[List.map_flatMap]
 have I:∀x∈cT,∀c∈x.2,0<=c.2/\c.2<=c.1:=λx d c J=>by have:=(o.kl x d).2.1.2 c J;exact(this.lo,this.hi)
 have key:∀x∈cT,∀p∈(csOf hs ms x).map (λc=>(zak (kpl c.kw ms) (bI hs.length (c.rt hs ms)))),p.1=x.1:=λx d p L=>by let(c,J,rfl):=zzi.mp L;exact(yB o d J).2.2.2
 have up:(cT.map (·.1)).Pairwise λa b=>ltI a b=true:=by rw[zxk,zyt];intro i j hi q B;have:=o.up i j cT[i] cT[j] B (zzp hi) (zzp q);rw[nj _ _ (by rw[(o.kl _ (zzS hi)).1,(o.kl _ (zzS q)).1])]at this;exact this
 have E:bR hs.length ((cT.flatMap (csOf hs ms)).map λc=>(zak (kpl c.kw ms) (bI hs.length (c.rt hs ms))))=bR hs.length cT:=by
  rw[G];refine yy (λk=>(λl=>?_,λl=>?_)) λk _=>?_
  .let(p,L,rfl):=zzi.mp l;let(x,d,L):=zwe.mp L;rw[key x d p L];exact zzi.mpr (x,d,rfl)
  .let(x,d,rfl):=zzi.mp l;let(c,J,e):=(o.kl x d).2.2;let(i,hi):=zyn.mp J;let(U,hi2):=zzC.mp hi;have C:i<hs.length:=by rw[<-(o.kl x d).2.1.1];exact U
   have M:(zak (hs[i]) c)∈hs.zip x.2:=zyn.mpr (i,by rw[zzU];exact(zzp C,hi));have u:((hs[i],wds ms x.1,numS c.1,numS c.2,c.1.toNat,c.2.toNat):Cs)∈csOf hs ms x:=zzi.mpr ((zak (hs[i]) c),zzM.mpr (M,by simpa using e),rfl);refine zzi.mpr (_,zwe.mpr (x,d,zzi.mpr (_,u,rfl)),?_);exact(yB o d u).2.2.2
  .unfold sums;apply zzJ;intro h g;have g:=zyK.mp g;refine xE _ cT λx d=>(key x d,?_);have H:=(o.kl x d).2.1.1;have v:=xD g (kpl (wds ms x.1) ms) hs x.2 0 H.symm 'l' (λi hi=>by rw[pN o.hd hi];lia) (I x d);rw[zzu (zyh _),zei]at v;rw[<-v];unfold col csOf;rw[zzv,zzv,zzv];rfl
 unfold gath;rw[E,jZ up λp L=>(o.kl p L).2.1.1];exact zvl.mpr λc J=>triedB_iff.mpr (o.kl c J).2.2
theorem BH{cT:av (av Int×Row)}(o:BkT hs ms cT):Hx hs ms (cT.flatMap (csOf hs ms))=.tup [nmD hs ms,.tup [.int hs.length,.tup (ms.map λm=>.int m.2.length),.tup (cT.map bQ)]]:=by unfold Hx;rw[nq o]
structure Bk where
 m:Nat
 marks:List Int
 cells:List (List Int×Row)
def tS(b:Bk):D:=.tup [.int b.m,bV b.marks,.tup (b.cells.map bQ)]
structure BkOk(b:Bk):Prop where
 m2:2 <= b.m
 m6:b.m <= 6
 mk5:b.marks.length <= 5
 c60:b.cells.length <= 60
 it:∀c∈b.cells,c.1.length=b.marks.length/\RowN 110 b.m c.2/\dU c.2
theorem HG(g:cs.length<=1000){x y:Sl}{Q:av D->Prop}(q:Q ((cs.map (·.1)).map D.int)):cZ (qx 2 (dQ (bO 0) (dQ (bO 1) sR))) cf (dVar 0) (cs.map dG) [] [x,y] Q:=by
 refine cm (λd=>match d with|.tup (x::_)=>x|_=>.non) (λe=>∃x y,e=[x,y]) (by rw[zza];exact zzk g 'd') (λd hd e Y Z J L=>?_) _ (_,_,rfl) ?_
 .let(x,y,rfl):=J;let(c,_,rfl):=zzi.mp hd;exact(rfl,Br.t (L _ (_,_,rfl)))
 .rw[zzv]at q⊢;exact q
theorem Me(kds:av (av Key×D)):fzO (dvO kds)=.dT (kds.map (·.1)) (kds.map (·.2)):=by unfold dvO;simp only[fzO];congr 1;rw[qv,zzv];apply zzJ;intro p _;rfl
theorem gm:∀(n:Nat)(lo:Int),(iS lo n).length=n
 |0,_=>rfl|n+1,lo=>by rw[iS,zzl,gm n]
noncomputable def abcS:Str:=zao "abcdefghijklmnopqrstuvwxyz"
theorem Kj(h0:0<=i)(j:i<26):∃c,atI abcS.cps.toList i\c/\c=97+i.toNat:=by
 have l:abcS.cps.toList.length=26:='k'
 have(d,e,g):=AN (xs:=abcS.cps.toList) h0 (by rw[l];exact j);refine(d,e,?_);have key:∀i:Fin 26,abcS.cps.toList[i.val]?\(97+i.val):='k'
 have:=key (i.toNat,'l');rw[g]at this;exact zzP this
def Sm(x:Str):Prop:=∀c∈x.cps.toList,97<=c/\c<=122
theorem Sm.nm{x:Str}(h:Sm x)(c:1<=x.length)(J:x.length<=8):isNm x=true:=by unfold isNm;rw[zzj c,zzj J,xy h];rfl
structure Wds(n:Int)(ws:List Str):Prop where
 l:(ws.length:Int)=n
 m:∀x∈ws,isNm x=true
 d:ws.Nodup
noncomputable def Kk:DSp:=λc Q=>c=[.pen]/\∀t w,Cnt 45 t w->Q (.tup [.int t,.int w])
theorem tU(T:Tx K mg):T.uC.Ok P w base CX0 2 (spD K 1 Kk):=by
 refine fnd ["_law_pen_here","_law_way","_law_tried"] (λc _=>(af (dse 1 (dcl (aw T) c (ae (dv 0) (da1 ai)))) (af (dse 2 (ak de ai (dcl (aw T) c (ae (dv 0) (da1 ai))))) (bf (dif (aE (cc c) (dv 1) ai) (az (dse 2 ai))) (bf (dif (aE (cc c) (dv 1) ai) (az (dse 2 (ak de (ak Fd ai ai) (dcl (aw T) c (ae (dv 0) (da1 (ak Fd ai ai)))))))) (dr (aC (ae (dv 2) (da1 (dcl (aw T) c (ae (dv 0) (da1 (ak de (dv 2) ai))))))))))))) (λds Q hl h=>?_);let(rfl,h):=h;refine(rfl,('d','d'),λJ g L=>(rfl,('d','d'),λr r0 r1=>?_));refine(λd=>∃t:Int,0<=t/\t<=10/\d=[.val .pen,.val (.int J),.val (.int t)],((rfl,rfl),λ_=>(0,'d','d',rfl),λ_=>(1+r,'o','o',rfl)),?_);rintro _ ⟨t,e,l,rfl⟩;refine(λd=>∃t:Int,0<=t/\t<=10^12/\d=[.val .pen,.val (.int J),.val (.int t)],((rfl,rfl),λ_=>?_,λ_=>(t,e,'o',rfl)),?_)
 .refine(cpow,cpow,rfl,('d','d'),λp p0 p1=>(_,?_,?_,rfl))
  .lia
  .lia
 rintro _ ⟨t,e,l,rfl⟩;have j:Bd 45 t:=by show t.natAbs<2^45;omega
 exact(rfl,('l','l'),λw g L=>(sz,h t w (pG g 'l' j)))
def embB(f:av (av Int×Row)):av (av Key×D):=f.map λp=>(kI p.1,rowD p.2)
def KsOk(ms ks:av Int):Prop:=ks.length=ms.length/\∀i,i<ks.length->0<=ks.getD i 0/\ks.getD i 0<ms.getD i 0
theorem KsOk.snoc{ms:av Int}(h:KsOk ms ks){x:Int}(J:0<=r)(L:r<x):KsOk (ms++[x]) (ks++[r]):=by
 let(c,d):=h;refine(by simp[c],λi hi=>?_);rw[zzh,zxd]at hi;rw[zzw,zzw];by_cases z:i<ks.length
 .have:=d i z;rw[zys z,zys 'l'];exact this
 .have e:i=ks.length:='l'
  subst e;rw[zzR (zzs _),zzR 'l',zxX,<-c,zxX];exact(J,L)
def BkK(b:Bk):Prop:=∀c∈b.cells,KsOk b.marks c.1
structure FOk(m:Nat)(ms:List Int)(f:List (List Int×Row)):Prop where
 nd:(f.map (·.1)).Nodup
 it:∀p∈f,KsOk ms p.1/\RowN 45 m p.2/\dU p.2
theorem FOk.put{ms:av Int}{f:av (av Int×Row)}(h:FOk m ms f){k:av Int}{r:Row}(d:KsOk ms k)(g:RowN 45 m r/\dU r):∃L,putA (embB f) (kI k) (rowD r)=embB L/\FOk m ms L/\L.length<=f.length+1:=by
 have j:((embB f).any λq=>decide (q.1=kI k))=f.any λq=>decide (q.1=k):=by unfold embB;rw[zef];congr 1;funext q;simp[yw]
 unfold putA;rw[j];by_cases a:(f.any λq=>decide (q.1=k))=true
 .rw[zzu a];refine(f.map λp=>if p.1=k then(p.1,r) else p,?_,(?_,λp J=>?_),by rw[zza];lia)
  .unfold embB;rw[zzv,zzv];apply zzJ;intro p _;simp only[zcn,yw];split<;>rfl
  .rw[zzv];have:f.map ((λx=>x.1) ∘ λp=>if p.1=k then(p.1,r) else p)=f.map (·.1):=by
    apply zzJ;intro p _;simp only[zcn];split<;>rfl
   rw[this];exact h.nd
  .let(q,U,rfl):=zzi.mp J;split
   .rename_i e;exact(by rw[e];exact d,g)
   .exact h.it q U
 .rw[zzn a];refine(f++[(k,r)],by unfold embB;rw[zzm];rfl,(?_,λp J=>?_),'s')
  .rw[zzm];refine zyr.mpr (h.nd,'s',λx l y c e=>?_);have c:y=k:=by simpa using c
   subst c;subst e;let(q,U,e):=zzi.mp l;exact a (zwb.mpr (q,U,by simpa using e))
  .rcases zzg.mp J with J|J
   .exact h.it p J
   .rw[zzt.mp J];exact(d,g)
theorem Kl{f:av (av Int×Row)}{k:av Int}(h:k∈f.map (·.1)):∃p∈f,p.1=k/\jR (embB f) (kI k)\(rowD p.2):=by
 induction f with
 |nil=>cases h
 |cons q t L =>
  by_cases e:q.1=k
  .refine(q,zzd,e,?_);unfold jR embB;rw[zzq,zyj (by simpa[yw]using e)];rfl
  .have c:k∈t.map (·.1):=by
    rcases zze.mp h with h|h
    .exact absurd h.symm e
    .exact h
   let(p,d,g,J):=L c;refine(p,zzc _ d,g,?_);unfold jR embB at J⊢;rw[zzq,zyk (by simpa[yw]using e)];exact J
theorem tV{r:Row}(h:0<(r.map (·.1)).sum):dU r:=by
 induction r with
 |nil=>cases h
 |cons c t L =>
  rw[zzq,zvs]at h;by_cases e:0<c.1
  .exact(c,zzd,e)
  .let(d,hd,J):=L 'l';exact(d,zzc _ hd,J)
theorem bl01(b:Bool){P:Int->Prop}(h0:P 0)(h1:P 1):P (if b=true then 1 else 0):=by cases b<;>assumption
theorem HH{k:Int}{Q:D->Prop}{lo:Int}(k0:0<=k)(k1:k<ns.length)(J:∀n∈ns,lo<=n/\n<=hi)(q:∀n,lo<=n->n<=hi->Q (.int n)):opt (atI (ns.map D.int) k) Q:=by refine gd k0 (by rw[zza];exact k1) λd hd=>?_;let(n,c,rfl):=zzi.mp hd;exact q n (J n c).1 (J n c).2
structure BkS(b:Bk)(mo:Int):Prop where
 c9:b.cells.length <= 9
 mks:(b.marks.length:Int) <= mo
 m1:∀x∈b.marks,1 <= x/\x <= 6
 up:(b.cells.map (·.1)).Pairwise λx y=>ltI x y=true
 sm:∀c∈b.cells,RowN 45 b.m c.2
def Mf:DSp:=λd Q=>∃c:Int,d=[.pen,.int c]/\(0<=c/\c<=5)/\∀b:Bk,BkOk b->BkK b->BkS b c->Q (tS b)
theorem vA(T:Tx K mg):T.vR.Ok P w base CX0 3 (spD K 2 Mf):=by
 refine fnd ["_law_pen_here","_law_most","_law_many","_law_marks","_law_found","_law_k","_law_kinds","_law_counts"] (λu _=>(bf (dse 2 (ak de ai (ak AE (dcl (aw T) u (ae (dv 0) (da1 ai))) (aN Ff T.vX (da1 (dc (cc u) (dcl (aw T) u (ae (dv 0) (da1 ai))) ai)))))) (bf (dse 3 (aN bN T.bF (da1 (dfc (aH ["_law_k","_law_pen_here"] [none,some 0] rfl (cU T.eI (da1 (dcl (aw T) u (ae (dv 0) (da1 (ak de (dv 1) ai)))))) (dgb 0) aG (ak de ai (dcl (aw T) u (ae (dv 1) (da1 (dix (aq (aK (ae ai (da1 ai)))) (aN Ff T.vX (da1 (dc (cc u) (dcl (aw T) u (ae (dv 1) (da1 ai))) ai))))))))))))) (af (AX 4) (bf (dL (cU T.eI (da1 (dcl (aw T) u (ae (dv 0) (da1 ai))))) (dgn 5) (af (dse 6 (aN bN T.bF (da1 (dfc (aH ["_law_kinds","_law_pen_here"] [none,some 0] rfl (eQ (dv 3)) (dgb 0) aG (dcl (aw T) u (a2 1 0))))))) (af (dse 7 (aN bN T.bF (da1 (dfc (aH ["_law_house","_law_pen_here"] [none,some 0] rfl (cU T.eI (a1 2)) (dgb 0) aG (dcl (tU T) u (a1 1))))))) (az (dif (aE qy (aR AS T.HR zbp (da1 (dfc (aH ["_law_tried","_law_well"] [none,none] rfl (eQ (dv 7)) (dg2 0 1) aG (dv 0))))) ai) (az (Ha u (pv 4) (dv 6) (dv 7)))))))) (dr (aC (ae (dv 2) (ae (dv 3) (da1 (aN bN T.bF (da1 (dfc (aH ["_law_kinds","_law_found"] [none,some 4] rfl (bq (aR wW T.rJ 'k' (a1 4))) (dgb 0) aG (aC (ae (dv 0) (da1 (Fk u (dv 1) (dv 0) (λ_ _=>rfl))))))))))))))))))) (λds Q hl h=>?_);have(y,rfl,(mo0,mo1),h):=h;refine(λj=>∃m:Nat,2<=m/\m<=6/\j=[.val .pen,.val (.int y),.val (.int m),.nil,.nil,.nil,.nil,.nil],(rfl,('d','d'),λa a0 a1=>(rfl,('d','d'),λc c0 c1=>((rfl,rfl),.inl ('l','l'),?_))),?_)
 .have hm:∃m:Nat,2<=m/\m<=6/\2+a*(if eqD (.int c) (.int 1)=true then(1:Int) else 0)=(m:Int):=by
   refine bl01 (P:=λx=>∃m:Nat,2<=m/\m<=6/\2+a*x=(m:Int)) _ (2,'l','l','l') ((2+a).toNat,'l','l','l')
  have(m,m2,m6,em):=hm;exact(m,m2,m6,by rw[<-em];rfl)
 rintro _ ⟨m,m2,m6,rfl⟩;refine(λj=>∃ms:av Int,(ms.length<=5/\(ms.length:Int)<=y)/\(∀x∈ms,1<=x/\x<=6)/\j=[.val .pen,.val (.int y),.val (.int m),.val (bV ms),.nil,.nil,.nil,.nil],(rfl,('l','l'),λn n0 n1=>(('l','l'),?_)),?_)
 .refine ge (λpre g j=>∃ms:av Int,g=ms.map D.int/\ms.length=pre.length/\(∀x∈ms,1<=x/\x<=6)/\∃s,j=[s,.val .pen]) (λg j L=>?_) (λpre d post g j Y e L G=>?_) _ ([],rfl,rfl,λx C=>by simp at C,_,rfl)
  .let(ms,rfl,el,hv,_):=L;rw[eV,zza,zxi]at el;exact(ms,('l','l'),hv,rfl)
  .let(ms,rfl,el,hv,s,rfl):=L;have a4:(iS 0 n.toNat).length=pre.length+(post.length+1):=by rw[e];simp
   rw[eV,zza,zxi]at a4;refine Br.t (sz,rfl,('d','d'),λq q0 q1=>((rfl,rfl),HH (ns:=[3,6]) (lo:=1) (hi:=6) (bl01 (P:=λx=>0<=x) _ 'd' 'd') (bl01 (P:=λx=>x<([3,6]:av Int).length) _ 'd' 'd') 'd' λv v1 v2=>(rfl,('o','l'),λr r0 r1=>(?_,G _ _ (ms++[1+r],'s',by simp[el],λx C=>?_,_,rfl)))))
   .rw[zza];exact zzE (show ms.length<=10 by lia) 'd'
   .rcases zzg.mp C with C|C
    .exact hv x C
    .rw[zzt.mp C];lia
 rintro _ ⟨ms,⟨ml,mlo⟩,mv,rfl⟩;refine(λj=>∃f:av (av Int×Row),FOk m ms f/\f.length<=9/\∃a b c:Sl,j=[.val .pen,.val (.int y),.val (.int m),.val (bV ms),.obj (dvO (embB f)),a,b,c],(rfl,('d','d'),λn n0 n1=>(('l','l'),?_)),?_)
 .refine fj (λk j=>∃f:av (av Int×Row),FOk m ms f/\(f.length:Int)<=k/\∃a b c:Sl,j=[.val .pen,.val (.int y),.val (.int m),.val (bV ms),.obj (dvO (embB f)),a,b,c]) _ _ ?_ ?_ _ ([],(zxU,λp H=>by simp at H),'s',_,_,_,rfl)
  .rintro j ⟨f,l,fl,a,b,c,rfl⟩;exact(f,l,'l',a,b,c,rfl)
  .rintro k j X k0 k1 ⟨f,l,fl,a,b,c,rfl⟩ hX;refine bY (λpre g j=>∃ks:av Int,g=ks.map D.int/\KsOk pre ks/\∃s,j=[s,.val .pen]) (λg j L=>?_) (λm0 x m1 g j Y A L G=>?_) _ ([],rfl,(rfl,λi hi=>absurd hi (zwY i)),_,rfl)
   .let(ks,rfl,M,s,rfl):=L;refine(('l','l'),?_);refine ge (λpre g j=>∃r:Row,g=r.map dG/\r.length=pre.length/\(∀c∈r,Cnt 45 c.1 c.2)/\∃s,j=[s,.val .pen]) (λg j L=>?_) (λpre d post g j Y e L G=>?_) _ ([],rfl,rfl,λc o=>by simp at o,_,rfl)
    .let(r,rfl,hl,o,_):=L;rw[eV,zza,zxi]at hl;have a9:r.length=m:='l'
     refine HG 'l' (uZ (Br.di (λz=>?_) (λz=>hX _ (f,l,'l',_,_,_,rfl))));have(f',e,a7,fl'):=l.put (k:=ks) (r:=r) M ((a9,o),tV z);refine(trivial,embB f,kI ks,rfl,ir ks,?_,?_)
     .unfold embB;rw[zza];exact zzE (show f.length<=45 by lia) 'd'
     .have e':putA (embB f) (kI ks) (.tup (r.map dG))=embB f':=e;rw[e'];exact hX _ (f',a7,'l',_,_,_,rfl)
    .let(r,rfl,hl,o,s,rfl):=L;refine Br.t (rfl,rfl,λt w cw=>(?_,G _ _ (r++[(t,w)],by simp[dG],by simp[hl],λc J=>?_,_,rfl)))
     .have a4:(iS 0 ((m:Int)).toNat).length=pre.length+(post.length+1):=by rw[e];simp
      rw[eV,zza,zxi]at a4;rw[zza];exact zzE (show r.length<=45 by lia) 'd'
     .rcases zzg.mp J with J|J
      .exact o c J
      .rw[zzt.mp J];exact cw
   .let(ks,rfl,M,s,rfl):=L;have C:=mv x (by rw[A];simp);rw[A,zzh]at ml;refine Br.t (rfl,('l','l'),λr r0 r1=>(?_,G _ _ (ks++[r],'s',M.snoc r0 r1,_,rfl)));rw[zza,M.1];exact zzE (show m0.length<=10 by lia) 'd'
 rintro _ ⟨f,l,fl,a,b,c,rfl⟩;have I:(embB f).map (·.1)=(f.map (·.1)).map kI:=by unfold embB;rw[zzv,zzv];rfl
 have M:(f.map (·.1)).length<=9:=by rw[zza];exact fl
 have b1:∀k∈f.map (·.1),k.length=ms.length:=λk I=>by let(p,H,rfl):=zzi.mp I;exact(l.it p H).1.1
 have sl:(fm (f.map (·.1))).length<=9:=by rw[(bZ _).length_eq];exact M
 have cA:∀k∈(embB f).map (·.1),qq k:=λk U=>by rw[I]at U;let(k',_,rfl):=zzi.mp U;exact qO k'
 have cB:2<=((embB f).map (·.1)).length->∀k∈(embB f).map (·.1),k≠[]:=λh2 k U=>by rw[I]at h2 U;rw[zza]at h2;let(k',a8,rfl):=zzi.mp U;intro z;exact Bs l.nd b1 h2 k' a8 (pH (b:=[]) z)
 have cC:((embB f).map (·.1)).length<64:=by rw[I,zza];lia
 have A:(srtK ((embB f).map (·.1))).map keyD=(fm (f.map (·.1))).map bV:=by rw[I,vt,zzv];apply zzJ;intro k _;exact(ir k).symm
 refine((cA,cB,cC),?_);show cZ _ _ _ ((srtK ((embB f).map (·.1))).map keyD) _ _ _;rw[A];refine bY (λpre g j=>∃cs:av (av Int×Row),g=cs.map bQ/\cs.map (·.1)=pre/\(∀p∈cs,p∈f)/\∃s:Sl,j=[s,.val (fzO (dvO (embB f)))]) (λg j L=>?_) (λk0 k k1 g j Y e3 L G=>?_) _ ([],rfl,rfl,λp H=>by simp at H,_,rfl)
 .let(cs,rfl,cl,o,s,rfl):=L;have up:=je l.nd;have a5:cs.length<=9:=by rw[<-zza (·.1) (as:=cs),cl];exact sl
  exact(sz,h (m,ms,cs) (m2,m6,ml,by show cs.length<=60;lia,λc J=>((l.it c (o c J)).1.1,((l.it c (o c J)).2.1.1,λx C=>((l.it c (o c J)).2.1.2 x C).mono 'd'),(l.it c (o c J)).2.2)) (λc J=>(l.it c (o c J)).1) (a5,mlo,mv,by show (cs.map (·.1)).Pairwise _;rw[cl];exact up,λc J=>(l.it c (o c J)).2.1))
 .let(cs,rfl,cl,o,s,rfl):=L;have U:k∈fm (f.map (·.1)):=by rw[e3];simp
  have(p,H,a6,h4):=Kl ((bZ _).mem_iff.mp U);rw[e3,zzh]at sl;refine Br.t (embB f,kI k,rowD p.2,Me _,ir k,h4,sz,?_,G _ _ (cs++[p],by rw[zzm,<-a6];rfl,by rw[zzm,cl];show k0++[p.1]=_;rw[a6],λq N=>?_,_,rfl))
  .have a5:cs.length<=9:=by rw[<-zza (·.1) (as:=cs),cl];lia
   rw[zza];exact zzE a5 'd'
  .rcases zzg.mp N with N|N
   .exact o q N
   .rw[zzt.mp N];exact H
theorem Em:(zaf zat ws).cps.toList=ws.flatMap λx=>x.cps.toList:=by
 have L:zaf zat ws=zbb zat ws:=zyp ..;rw[L]
 induction ws with
 |nil=>rfl|cons x r J =>
  cases r with
  |nil=>show x.cps.toList=x.cps.toList++[];rw[zzB]|cons y r =>
   have e:zbb zat (x::y::r)=x++zat++zbb zat (y::r):=rfl;have J:=J (zyp ..);rw[e,zwD,zwD,zxG,zxG,J];show (x.cps.toList++[])++_=_;rw[zzB];rfl
noncomputable def lts(nm:av Int)(a k:Int)(b:Bool):av Int:=nm.take a.toNat++[(nm.getD a.toNat 0+k) % 26]++nm.drop (a.toNat+1)++if b then[nm.getD 0 0] else[]
noncomputable def wOf(J:av Int):Str:=zaf zat (J.map λi=>⟨#[97+i.toNat]⟩)
theorem vB(J:av Int):(wOf J).cps.toList=J.map λi=>97+i.toNat:=by unfold wOf;rw[Em,List.flatMap_map,List.map_eq_flatMap]
theorem BI(J:av Int):(wOf J).length=J.length:=by have:(wOf J).length=(wOf J).cps.toList.length:=zzZ.symm;rw[this,vB,zza]
inductive gNms(ds:List D)(Q:D->Prop):Prop
 |mk (n:Int):ds=[.pen,.int n]->0 <= n/\n <= 6->(∀ws,Wds n ws->Q (.lst (ws.map .str)))->gNms ds Q
theorem En(l:ns.length<=9)(h:∀i∈ns,0<=i/\i<26){Q:av D->Prop}(q:Q ((ns.map λi=>(⟨#[97+i.toNat]⟩:Str)).map D.str)) :
  cZ (bO 0) cf (dOp gIxS (dC (.str abcS)) (dVar 0)) (ns.map D.int) [] [s] Q:=by
 refine cm (λd=>match d with|.int i=>.str ⟨#[97+i.toNat]⟩|_=>.non) (λe=>∃s,e=[s]) (by rw[zza];exact zzk l 'd') (λd hd e Y Z J L=>?_) _ (_,rfl) ?_
 .let(s,rfl):=J;let(i,hi,rfl):=zzi.mp hd;let(c,g,j):=Kj (h i hi).1 (h i hi).2;subst j;exact Br.t ('k',_,g,L _ (_,rfl))
 .rw[zzv]at q⊢;exact q
theorem qZ(f:α->D){a:Int}(a0:0<=a)(xs:av α)(h:a<=xs.length):cutD (xs.map f) none (some a)=(xs.take a.toNat).map f:=by
 let(k,rfl):=zyq a0;have e:HT.sIx (xs.map f).length (xs.map f).length (some (k:Int))=k:=by unfold HT.sIx;simp only[];simp;lia
 unfold cutD;rw[e,show HT.sIx (xs.map f).length 0 none=0 from rfl,List.drop_zero,zei,List.map_take];rfl
theorem Km{nm:av Int}{a k:Int}{b:Bool}(a0:0<=a)(a1:a<nm.length)(U:nm.length<=8)(e:b=true->nm.length<8)(L:∀x∈nm,0<=x/\x<26) :
  (lts nm a k b).length<=8/\1<=(lts nm a k b).length/\(∀i∈lts nm a k b,0<=i/\i<26)/\(lts nm a k b)[a.toNat]?\((nm.getD a.toNat 0+k) % 26):=by
 have g:∀n,n<nm.length->0<=nm.getD n 0/\nm.getD n 0<26:=λn d=>by rw[zzw,zzp d];exact L _ (zzS d)
 have l3:(if b then[nm.getD 0 0] else[]).length<=1/\(b=false->(if b then[nm.getD 0 0] else[]).length=0):=by cases b<;>simp
 have c:a.toNat<nm.length:=(zwA a0).mpr a1;have J:=zwn (zxh c);unfold lts;refine(?_,?_,λi hi=>?_,?_)
 .simp only[zzh,zyv,zxZ,zxd];rw[J,zvi c];cases b with
  |false=>exact U|true=>exact e rfl
 .simp only[zzh,zxd];lia
 .rcases zzg.mp hi with hi|hi
  .rcases zzg.mp hi with hi|hi
   .rcases zzg.mp hi with hi|hi
    .exact L i (zcY hi)
    .rw[zzt.mp hi];exact(zyG _ 'd',zyI _ 'd')
   .exact L i (zc5 hi)
  .cases b with
   |false=>cases hi
   |true=>rw[zzu rfl]at hi;rw[zzt.mp hi];exact g 0 (zcb c)
 .have lt:(nm.take a.toNat).length=a.toNat:=by rw[zyv];exact J
  rw[zzI,zzI,zzR 'l',lt,zxX];rfl
theorem gq(T:Tx K mg):T.uz.Ok P w base CX0 2 (spD K 2 gNms):=by
 refine fnd ["_law_pen_here","_law_many","_law_size","_law_at","_law_name","_law_found","_law_k","_law_letters"] (λG _=>(af (dse 2 (ak de ai (dcl (aw T) G (ae (dv 0) (da1 ai))))) (af (dse 3 (dcl (aw T) G (a2 0 2))) (af (jP 4 (aH ["_law_k","_law_pen_here"] [none,some 0] rfl (cU T.eI (a1 2)) (dgb 0) aG (dcl (aw T) G (ae (dv 1) (da1 ai))))) (af (dow 5 (aK fJ)) (bf (dL (cU T.eI (a1 1)) (dgn 6) (af (dow 7 (bA (aq (bA (aq (eS (dv 4) dF (cI (dv 3)))) (aq (aK (da1 (ak wO (ak de (dix (dv 4) (dv 3)) (dv 6)) ai)))))) (aq (eS (dv 4) (cI (ak de (dv 3) ai)) dF)))) (bf (dif (PWD.pt (lZ (aE (cc G) (ak wO (dv 6) ai) ai) (jM (aE Jl (dv 2) ai)))) (az (iU (pv 7) (dx 4)))) (az (iU (pv 5) (gg ag (dfc (aH ["_law_letter"] [none] rfl (bq (dv 7)) (dgb 0) aG (Fo ag (dv 0) (λ_ _=>rfl)))))))))) (dr (dv 5)))))))) (λds Q hl h=>?_);have(n,rfl,(n0,n7),h):=h;refine(rfl,('d','d'),λJ z0 z1=>(rfl,('o','o'),λa v a1=>(('o','o'),?_)));refine ge (λpre u o=>∃nm:av Int,u=nm.map D.int/\nm.length=pre.length/\(∀x∈nm,0<=x/\x<26)/\∃s,o=[s,.val .pen]) (λu o N=>?_) (λpre d post u o Y e N hY=>?_) _ ([],rfl,rfl,λx g=>by simp at g,_,rfl)
 rotate_left
 .let(nm,rfl,I,A,s,rfl):=N;have pl:pre.length<8:=by
   have:=congrArg zai e;rw[gm,zzh,zzl]at this;omega
  refine Br.t (rfl,('d','d'),λi i0 i1=>(?_,hY _ _ (nm++[i],by rw[zzm];rfl,by simp[I],λx g=>?_,_,rfl)))
  .rw[zza,I];exact zzA pl 'd'
  .rcases zzg.mp g with g|g
   .exact A x g
   .rw[zzt.mp g];exact(i0,i1)
 .let(nm,rfl,I,A,s,rfl):=N;rw[gm]at I;refine(sz,λo=>∃(l:av Str)(U m:Sl),Wds n l/\o=[.val .pen,.val (.int n),.val (.int (1+J)),.val (.int a),.val (.lst (nm.map .int)),.own (l.map .str),U,m],(('o','o'),?_),?_)
  .refine fj (λk o=>∃(l:av Str)(U m:Sl),(l.length:Int)=k/\(∀x∈l,isNm x=true)/\(∀(j:Nat)(x:Str),l[j]?\x->x.cps.toList[a.toNat]?\(97+((nm.getD a.toNat 0+j) % 26).toNat))/\o=[.val .pen,.val (.int n),.val (.int (1+J)),.val (.int a),.val (.lst (nm.map .int)),.own (l.map .str),U,m]) _ _ ?_ ?_ _ ([],_,_,rfl,λx g=>by simp at g,λj x g=>by simp at g,rfl)
   .rintro o ⟨l,U,M,ul,p,H,rfl⟩;refine(l,U,M,('o',p,?_),rfl);refine zyt.mpr λi j hi hj hij z=>?_;have e1:=H j l[j] (zzp hj);have e2:=H i l[j] (by rw[<-z];exact zzp hi);rw[e1]at e2;have:=zzP e2;omega
   .rintro k o X k0 k1 ⟨l,U,M,ul,p,H,rfl⟩ hX;have nl:nm.length<=8:='o'
    have an:a<nm.length:='o'
    have C:a.toNat<nm.length:=(zwA v).mpr an;have ea:(nm.map D.int)[a.toNat]?\(.int (nm.getD a.toNat 0)):=by rw[zzz,zzw,zzp C];rfl
    have e0:(nm.map D.int)[(0:Int).toNat]?\(.int (nm.getD 0 0)):=by rw[zzz,zzw,show (0:Int).toNat=0 from rfl,zzp (zcb C)];rfl
    refine aX v ea (show (0:Int)<26 by decide,sz,?_,?_,?_)
    .rw[qZ D.int v nm 'o',zza,zyv];exact zzk (show _<=9 by show _+1<=9;rw[zwn (zxh C)];exact zcp (zzk (zxh C) nl)) 'd'
    .rw[qZ D.int v nm 'o',show a+1=((a.toNat+1:Nat):Int) by omega,cW D.int _ nm 'o',zzh,zza,zza,zyv,zxZ];exact zzk (show _<=20 by show _+1+_<=20;rw[zwn (zxh C),zvi C];exact zzk nl 'd') 'd'
    rw[qZ D.int v nm 'o',show a+1=((a.toNat+1:Nat):Int) by omega,cW D.int _ nm 'o'];have el:∀b:Bool,(lts nm a k b).map D.int=(nm.take a.toNat).map D.int++[.int ((nm.getD a.toNat 0+k) % 26)]++(nm.drop (a.toNat+1)).map D.int++(if b then[.int (nm.getD 0 0)] else[]):=λb=>by unfold lts;rw[zzm,zzm,zzm];cases b<;>rfl
    refine(λo=>∃b:Bool,(b=true->nm.length<8)/\o=[.val .pen,.val (.int n),.val (.int (1+J)),.val (.int a),.val (.lst (nm.map .int)),.own (l.map .str),.val (.int k),.own ((lts nm a k b).map .int)],?_,?_)
    .have no:∃b:Bool,(b=true->nm.length<8)/\[Sl.val D.pen,.val (.int n),.val (.int (1+J)),.val (.int a),.val (.lst (nm.map .int)),.own (l.map .str),.val (.int k),.own ((nm.take a.toNat).map D.int++[.int ((nm.getD a.toNat 0+k) % 26)]++(nm.drop (a.toNat+1)).map D.int)]=[.val .pen,.val (.int n),.val (.int (1+J)),.val (.int a),.val (.lst (nm.map .int)),.own (l.map .str),.val (.int k),.own ((lts nm a k b).map .int)]:=(false,λz=>(nomatch z),by rw[el,zzn 'd',zzB]);refine(show (0:Int)<2 by decide,(rfl,rfl),λ_=>Br.di (λy=>(trivial,aX 'd' e0 (?_,true,λ_=>'o',?_))) (λ_=>no),λ_=>Br.f no)
     .simp only[zzh,zza,zyv,zxZ,zxd];exact zzE (show _<=20 by omega) 'd'
     .rw[el,zzu rfl];rfl
    .rintro _ ⟨b,hb,rfl⟩;have(o1,o2,o3,o4):=Km (k:=k) (b:=b) v an nl hb A;refine(trivial,_,rfl,En 'l' o3 (_,(rfl,iA (B:=1) (λy hy=>?_) ?_),?_,hX _ (l++[wOf (lts nm a k b)],_,_,by simp;omega,λx g=>?_,λj x g=>?_,by rw[zzm];rfl)))
     .let(i,_,rfl):=zzi.mp hy;exact zzs _
     .have:(zao "").length=0:=rfl;rw[this,zza];lia
     .rw[zza];exact zzE (show l.length<=10 by omega) 'd'
     .rcases zzg.mp g with g|g
      .exact p x g
      .rw[zzt.mp g];refine Sm.nm (λc hc=>?_) (by rw[BI];exact o2) (by rw[BI];exact o1);rw[vB]at hc;have(i,hi,rfl):=zzi.mp hc;have:=o3 i hi;lia
     .by_cases q:j<l.length
      .rw[zys q]at g;exact H j x g
      .rw[zzR 'l']at g;have q2:j-l.length=0:=by
        cases q3:j-l.length with
        |zero=>rfl|succ r=>rw[q3]at g;cases g
       rw[q2]at g;have g:wOf (lts nm a k b)=x:=by simpa using g
       subst g;rw[vB,zzz,o4,show (j:Int)=k by lia];rfl
  .rintro _ ⟨l,U,M,wd,rfl⟩;exact h l wd
structure WB(b:Bk):Prop where
 m2:2 <= b.m
 m6:b.m <= 6
 k1:1 <= b.marks.length
 k4:b.marks.length <= 4
 m1:∀x∈b.marks,1 <= x/\x <= 6
 c9:b.cells.length <= 9
 it:∀c∈b.cells,KsOk b.marks c.1/\RowN 45 b.m c.2/\dU c.2
 up:(b.cells.map (·.1)).Pairwise λx y=>ltI x y=true
structure NmB(b:Bk)(hs:List Str)(ms:List Mk):Prop where
 hl:hs.length=b.m
 hn:∀x∈hs,isNm x=true
 hd:hs.Nodup
 mn:∀m∈ms,isNm m.1=true/\(∀x∈m.2,isNm x=true)/\m.2.Nodup
 md:(ms.map (·.1)).Nodup
 mz:ms.map (λm=>(m.2.length:Int))=b.marks
inductive gNmd(ds:List D)(Q:D->Prop):Prop
 |mk b:ds=[.pen,tS b]->WB b->(∀hs ms,NmB b hs ms->Q (nmD hs ms))->gNmd ds Q
theorem tW(T:Tx K mg):T.uk.Ok P w base CX0 3 (spD K 2 gNmd):=by
 refine fnd ["_law_pen_here","_law_book_here","_law_words"] (λH _=>(af (dse 2 (dcl (gq T) H (ae (dv 0) (da1 (dln bz T.bJ (dx 1)))))) (dr (aC (ae (dcl (gq T) H (ae (dv 0) (da1 (dx 1)))) (da1 (dfc (aH ["_law_word_here","_law_kinds","_law_pen_here"] [none,none,some 0] rfl (mE T.Cd (ae (dv 2) (da1 (dx 1)))) (dg2 0 1) aG (aC (ae (dv 0) (da1 (dcl (gq T) H (a2 2 1))))))))))))) (λds Q hl h=>?_);let(b,rfl,o,h):=h;have k4:=o.k4;have m6:=o.m6;refine(rfl,_,rfl,('s',by simp;lia),λws w=>(rfl,_,rfl,('l','l'),λhs I=>?_));have A:ws.length=b.marks.length:=by have:=w.l;rw[zza]at this;lia
 refine(ws.map D.str,b.marks.map D.int,rfl,rfl,?_);rw[iW];refine ge (λpre g N=>∃(C:av Str)(ms:av Mk)(L:av Str)(u:av Int),ws=C++L/\ms.map (·.1)=C/\b.marks=ms.map (λm=>(m.2.length:Int))++u/\pre.length=ms.length/\g=ms.map mkD/\(∀m∈ms,(∀x∈m.2,isNm x=true)/\m.2.Nodup)/\∃s s',N=[s,s',.val .pen]) (λg N G=>?_) (λpre d post g N Y e G r=>?_) _ ([],[],ws,b.marks,rfl,rfl,rfl,rfl,rfl,λm c=>by simp at c,_,_,rfl)
 .let(C,ms,L,u,j,q,J,U,rfl,E,_):=G;have lz:ms.length=ws.length:=by rw[<-U,zza,zyo,A];lia
  have i:L=[]:=by have:=congrArg zai j;rw[zzh,<-q,zza]at this;exact zbx 'l'
  have n:u=[]:=by have:=congrArg zai J;rw[zzh,zza]at this;exact zbx 'l'
  subst i n;rw[zzB]at j J;refine(sz,h hs ms (by have:=I.l;lia,I.m,I.d,λm c=>(w.m m.1 (by rw[j,<-q];exact zdg c),(E m c).1,(E m c).2),by rw[q,<-j];exact w.d,J.symm))
 .let(C,ms,L,u,j,q,J,U,rfl,E,s,s',rfl):=G;have a:=congrArg (λl=>l[pre.length]?) e;simp only[zzR (zzs _),zxX,List.getElem?_cons_zero,zzz]at a;let(p,y,rfl):=zyi.mp a;let(v,B):=zzU.mp y;rw[j,zzR (by rw[<-q,zza];lia),<-q,zza,U,zxX]at v;rw[J,zzR (by rw[zza];lia),zza,U,zxX]at B;cases L with
  |nil=>cases v
  |cons x L =>
   cases u with
   |nil=>cases B
   |cons k u =>
    have v:x=p.1:=by simpa using v
    have B:k=p.2:=by simpa using B
    have kb:=o.m1 k (by rw[J];simp);have z:ms.length<=4:=by have:=congrArg zai J;rw[zzh,zza]at this;lia
    rw[<-v,<-B];refine(rfl,Br.t (rfl,_,rfl,('l','l'),λks M=>(sz,?_,r _ _ (C++[x],ms++[(x,ks)],L,u,by rw[j];simp,by rw[zzm,q];rfl,?_,by simp[U],by rw[zzm];rfl,λm c=>?_,_,_,rfl))))
    .rw[zza];exact zzE z 'd'
    .rw[J,zzm,zvq,zzI,M.l];rfl
    .rcases zzg.mp c with c|c
     .exact E m c
     .rw[zzt.mp c];exact(M.m,M.d)
inductive gTwo(ds:List D)(Q:D->Prop):Prop
 |mk (m:Nat):ds=[.pen,.int m]->2 <= m/\m <= 6->(∀a b:Nat,a<m->b<m->a≠b->Q (.tup [.int a,.int b]))->gTwo ds Q
theorem yD(T:Tx K mg):T.zh.Ok P w base CX0 2 (spD K 2 gTwo):=by
 refine fnd ["_law_pen_here","_law_many","_law_a"] (λg _=>(af (dse 2 (dcl (aw T) g (a2 0 1))) (dr (aC (ae (dv 2) (da1 (ak wO (ak de (ak de (dv 2) ai) (dcl (aw T) g (ae (dv 0) (da1 (ak kA (dv 1) ai))))) (dv 1)))))))) (λds Q hl h=>?_);have(m,rfl,(m2,m6),h):=h;refine(rfl,('l','l'),λa j a1=>(rfl,('l','l'),λr r0 r1=>(show (0:Int)<m by lia,sz,?_)));have e:=h a.toNat ((a+1+r) % m).toNat 'l' (by have:=zyI (a+1+r) (show (0:Int)<m by lia);have:=zyG (a+1+r) (show (m:Int)≠0 by lia);lia) (λz=>by
  have c:=zyG (a+1+r) (show (m:Int)≠0 by lia);have d:(a+1+r) % m=a:='l'
  by_cases q:a+1+r<m
  .rw[zeb 'l' q]at d;lia
  .have:(a+1+r) % m=(a+1+r-m) % m:=by rw[Int.sub_emod_right]
   rw[this,zeb 'l' 'l']at d;lia)
 have c:=zyG (a+1+r) (show (m:Int)≠0 by lia);rw[zwl j,zwl c]at e;exact e
theorem BJ{cT:av (av Int×Row)}(o:ShOk hs ms cT){c:av Int×Row}(u:c∈cT){Q:av D->Prop}(q:Q ((wds ms c.1).map D.str)) :
  cZ (qx 2 (dQ (bO 0) (dQ (bO 1) sR))) cf (dOp gIx (dOp gIx (dVar 0) (dC (.int 1))) (dVar 1)) (zipD (ms.map mkD) (c.1.map D.int)) [] [s,s'] Q:=by
 have m5:=o.m5;rw[iW];unfold wds at q;rw[zzv]at q;refine cm (λd=>match d with|.tup [.tup [_,.lst C],.int k]=>C.getD k.toNat (.str zat)|_=>.non) (λg=>∃s s',g=[s,s']) (by rw[zza,zyo];exact zzk (show _<=5 by omega) 'd') (λd hd g Y Z L U=>?_) _ (_,_,rfl) ?_
 .let(s,s',rfl):=L;let(p,v,rfl):=zzi.mp hd;let(i,hi,e):=List.getElem_of_mem v;have J:=(zzp hi).trans (congrArg some e);let(x,B):=zzU.mp J;let(j,b1):=o.kk c u i p.2 p.1 B x;have l:(p.1.2.map D.str)[p.2.toNat]?\((p.1.2.map D.str).getD p.2.toNat (.str zat)):=by
   rw[zzw,zzp (by rw[zza];omega)];rfl
  exact(rfl,Br.t (aX j l (U _ (_,_,rfl))))
 .rw[zzv];refine cast (congrArg Q (zzJ λp _=>?_)) q;show D.str (p.1.2.getD p.2.toNat zat)=(p.1.2.map D.str).getD p.2.toNat (.str zat);rw[zzw,zzw,zzz];cases p.1.2[p.2.toNat]?<;>rfl
theorem Eo{t w:Int}(c:Bd 100 t)(d:Bd 100 w){Q:av D->Prop}(q:Q [.str (numS t),.str (numS w)]):cZ (bO 0) cf (dCB JO (eP (dVar 0) qw)) [.int t,.int w] [] [s] Q :=
 Br.t (xx c 'd',by show 0<zaa;decide,Br.t (xx d 'd',by show 1<zaa;decide,q))
inductive gText(ds:List D)(Q:D->Prop):Prop
 |mk (hs:List Str) (ms:List Mk) (cT:List (List Int×Row)) (a b:D):ds=[nmD hs ms,.tup [a,b,.tup (cT.map bQ)]]->ShOk hs ms cT->Q (.str (aL hs ms cT))->gText ds Q
theorem vC(T:Tx K mg):T.vP.Ok P w base CX0 1 (spD K 2 gText):=by
 refine fnd ["_law_names_here","_law_book_here","_law_houses","_law_marks","_law_rows","_law_values","_law_counts","_law_words","_law_house"] (λb _=>(af (gf (dv 0) (dg2 2 3)) (af (dow 4 (bA (aq (aK (da1 (aq (bA (aq (aK (da1 ag))) (dv 2)))))) (dfc (aH ["_law_word_here","_law_kinds"] [none,none] rfl (bq (dv 3)) (dg2 0 1) aG (aq (bA (aq (aK (ae ag (a1 0)))) (dv 1))))))) (bf (dL (eQ (dx 1)) (dg2 5 6) (af (jP 7 (aH ["_law_mark","_law_kind"] [none,none] rfl (mE T.Cd (a2 3 5)) (dg2 0 1) aG (dix (dx 0) (dv 1)))) (az (dL (cU T.eI (da1 (dln bz T.bJ (dv 6)))) (dgn 8) (az (dif (aE qy (dix (dix (dv 6) (dv 8)) ai) ai) (az (iU (pv 4) (aq (bA (aq (bA (aq (aK (ae ag (da1 (dix (dv 2) (dv 8)))))) (dv 7))) (dfc (aH ["_law_number"] [none] rfl (eQ (dix (dv 6) (dv 8))) (dgb 0) aG (aN vg T.yR (a1 0)))))))))))))) (dr (gg ag (dfc (aH ["_law_row"] [none] rfl (bq (dv 4)) (dgb 0) aG (gg ag (dv 0)))))))))) (λds Q j h=>?_);let(hs,ms,cT,M,N,rfl,o,h):=h;have J:∀{n:Nat},n<=1000->n<=zaa:=λh=>zzk h 'd';have h6:=o.h6;have m5:=o.m5;have H:=qW o;have lf:=jg o;have a9:spS.length=1:='k'
 have a8:nlS.length=1:='k'
 have b1:∀l,l∈aU hs ms cT->JoinOk spS l=true:=λl j=>iA (H l j).2 (by have:=(H l j).1;rw[a9];lia);refine(rfl,sz,J (by simp;lia),sz,?_);refine cm (λd=>match d with|.tup [n,.lst u]=>.lst (.str eG::n::u)|_=>.non) (λg=>∃s s',g=[s,s']) (by rw[zza];exact J 'l') (λd hd g Y Z q a=>?_) _ (_,_,rfl) ?_
 .let(s,s',rfl):=q;let(m,hm,rfl):=zzi.mp hd;have:=(o.ml m hm).2.1;exact(rfl,Br.t (sz,J (by simp;lia),a _ (_,_,rfl)))
 have e0:(ms.map mkD).map (λd=>match d with|.tup [n,.lst u]=>D.lst (.str eG::n::u)|_=>.non)=(ms.map mkLn).map lnD:=by rw[zzv,zzv];rfl
 rw[e0];refine(J (by simp;omega),λg=>∃v C E L:Sl,g=[.val (nmD hs ms),.val (.tup [M,N,.tup (cT.map bQ)]),.val (.lst (hs.map .str)),.val (.lst (ms.map mkD)),.own ((aU hs ms cT).map lnD),v,C,E,L],?_,?_)
 .refine dP (λG g=>∃v C E L:Sl,g=[.val (nmD hs ms),.val (.tup [M,N,.tup (cT.map bQ)]),.val (.lst (hs.map .str)),.val (.lst (ms.map mkD)),.own (((aI::hs)::ms.map mkLn++(G.flatMap (csOf hs ms)).map Cs.ln).map lnD),v,C,E,L]) (λg q=>q) (λG c c1 g X e3 q hX=>?_) _ (_,_,_,_,by simp;rfl);let(v,C,E,L,rfl):=q;have hc:c∈cT:=by rw[e3];simp
  have b:=(o.kl c hc).2;have rl:c.2.length=hs.length:=b.1;refine(rfl,_,_,rfl,rfl,BJ o hc (('s',by simp;omega),?_));have e6:((c.2.map dG).length:Int).toNat=hs.length:=by rw[zza,rl];omega
  have i:csOf hs ms c=((hs.zip c.2).filter λp=>decide (0<p.2.1)).map λp=>(p.1,wds ms c.1,numS p.2.1,numS p.2.2,p.2.1.toNat,p.2.2.toNat):=rfl;have zl:(hs.zip c.2).length=hs.length:=by rw[zyo];omega
  have tk:∀k:Nat,(hs.zip c.2)=(hs.zip c.2).take k++(hs.zip c.2).drop k:=λk=>(zxW ..).symm;have a7:∀k:Nat,((aI::hs)::ms.map mkLn++(G.flatMap (csOf hs ms)).map Cs.ln++((((hs.zip c.2).take k).filter λp=>decide (0<p.2.1)).map λp=>((p.1,wds ms c.1,numS p.2.1,numS p.2.2,p.2.1.toNat,p.2.2.toNat):Cs)).map Cs.ln).length<=60:=λk=>by have:=lf;unfold aU at this;rw[e3,zwk,zxA,i,tk k,zyz,zzm]at this;simp only[zzh,zza,zzl]at this⊢;omega
  refine fj (λk g=>∃(n:Nat)(L:Sl),k=n/\g=[.val (nmD hs ms),.val (.tup [M,N,.tup (cT.map bQ)]),.val (.lst (hs.map .str)),.val (.lst (ms.map mkD)),.own (((aI::hs)::ms.map mkLn++(G.flatMap (csOf hs ms)).map Cs.ln++((((hs.zip c.2).take n).filter λp=>decide (0<p.2.1)).map λp=>((p.1,wds ms c.1,numS p.2.1,numS p.2.2,p.2.1.toNat,p.2.2.toNat):Cs)).map Cs.ln).map lnD),.val (bV c.1),.val (rowD c.2),.val (.lst ((wds ms c.1).map .str)),L]) _ _ ?_ ?_ _ (0,L,rfl,'s')
  .rintro g ⟨n,L,en,rfl⟩;have en:n=hs.length:='o'
   refine hX _ (.val (bV c.1),.val (rowD c.2),.val (.lst ((wds ms c.1).map .str)),L,?_);rw[zwk,zxA,zes,zzB,i,zzm (f:=Cs.ln),<-zzI,en,<-zl,zcq]
  .rintro k g X' k0 k1 ⟨n,L,rfl,rfl⟩ r;have hn:n<hs.length:='o'
   have I:n<c.2.length:='o'
   obtain⟨t,w,U⟩:∃t w,c.2[n]=(t,w):=(_,_,rfl);have cn:Cnt 100 t w:=by have:=b.2 c.2[n] (zzS I);rw[U]at this;exact this
   have ep:(c.2.map dG)[(n:Int).toNat]?\(.tup [.int t,.int w]):=by rw[zzV,zzz,zzp I,U];rfl
   have eh:(hs.map D.str)[(n:Int).toNat]?\(.str hs[n]):=by rw[zzV,zzz,zzp hn];rfl
   have et:(hs.zip c.2).take (n+1)=(hs.zip c.2).take n++[(zak (hs[n]) (zak t w))]:=by rw[List.take_succ,(zzU (z:=(zak (hs[n]) (c.2[n])))).mpr (zzp hn,zzp I),U];rfl
   have wl:=qU ms c.1;have ee:∀(A:av (av Str))(Z:av (Str×(Int×Int))),(A++((Z++[(zak (hs[n]) (zak t w))]).map λp=>((p.1,wds ms c.1,numS p.2.1,numS p.2.2,p.2.1.toNat,p.2.2.toNat):Cs)).map Cs.ln).map lnD=(A++(Z.map λp=>((p.1,wds ms c.1,numS p.2.1,numS p.2.2,p.2.1.toNat,p.2.2.toNat):Cs)).map Cs.ln).map lnD++[.lst ([.str gi,.str hs[n]]++(wds ms c.1).map .str++[.str (numS t),.str (numS w)])]:=λA Z=>by rw[zzm (l₁:=Z),zzm (f:=Cs.ln),<-zzI,zzm (f:=lnD) (l₂:=ze2 Cs.ln (ze2 _ [_]))];simp[Cs.ln,lnD]
   refine aX 'o' ep (Br.di (λy=>(trivial,aX 'o' eh (sz,J (by simp;omega),aX 'o' ep (Eo cn.bt cn.bw (J (by simp;omega),?_,r _ (n+1,.val (.int n),'o',?_)))))) (λy=>r _ (n+1,.val (.int n),'o',?_)))
   .rw[zza];exact zzE (a7 n) 'd'
   .rw[et,zyz,zyT (by simpa using y),zeL,ee];rfl
   .rw[et,zyz,zyU (by simpa using y),zeL,zzB];rfl
 .rintro _ ⟨v,C,E,L,rfl⟩;refine(nlS,rfl,cm (λd=>match d with|.lst u=>.str (zaf spS (u.map λd=>match d with|.str x=>x|_=>zat))|_=>.non) (λg=>∃s,g=[s]) (by rw[zza];exact J 'o') (λd hd g Y Z q a=>?_) _ (_,rfl) ?_)
  .let(s,rfl):=q;let(l,j,rfl):=zzi.mp hd;refine Br.t (spS,rfl,l,(rfl,b1 l j),?_);have e:(l.map D.str).map (λd=>match d with|.str x=>x|_=>zat)=l:=by rw[zzv];exact List.map_id' l
   have hh:zaf spS l=zaf spS ((l.map D.str).map λd=>match d with|.str x=>x|_=>zat):=by rw[e]
   rw[hh];exact a _ (_,rfl)
  .have e:((aU hs ms cT).map lnD).map (λd=>match d with|.lst u=>D.str (zaf spS (u.map λd=>match d with|.str x=>x|_=>zat))|_=>.non)=((aU hs ms cT).map (zaf spS)).map D.str:=by
    rw[zzv,zzv];refine zzJ λl _=>?_;show D.str (zaf spS ((l.map D.str).map _))=_;rw[zzv];exact congrArg (λz=>D.str (zaf spS z)) (List.map_id' l)
   rw[e];refine(_,(rfl,iA (B:=492) (λy hy=>?_) ?_),h)
   .let(l,j,rfl):=zzi.mp hy;exact jh (B:=40) (H l j).2 (H l j).1
   .rw[zza,a8];omega
abbrev embQ(c:av Int×Row):av Key×av D:=(kI c.1,c.2.map dG)
theorem Ep(kds:av (av Key×av D)):(∀p∈kds,p∈ps.map embQ)->∃cl:av (av Int×Row),(∀c∈cl,c∈ps)/\kds=cl.map embQ:=by
 induction kds with
 |nil=>exact λ_=>([],λc J=>by simp at J,rfl)
 |cons p kds o =>
  intro h;walk;let(cl,g,j):=o λq l=>h q (zzc _ l);let(c,J,e):=zzi.mp (h p zzd);x_go;refine(c::cl,λd hd=>?_,by rw[zzq,e,j]);rcases zze.mp hd with rfl|hd
  .exact J
  .exact g d hd
noncomputable def widL(cs:av (av Int×Row)):av (av Int×Row):=(zav cs.length).map λ(k:Nat)=>((k:Int) % 3::(cs.getD k ([],[])).1,(cs.getD k ([],[])).2)
inductive gWide(ds:List D)(Q:D->Prop):Prop
 |mk (b:Bk):ds=[tS b]->BkOk b->BkK b->BkS b 3->(∀b',WB b'->Q (tS b'))->gWide ds Q
theorem vE(T:Tx K mg):T.vQ.Ok P w base CX0 1 (spD K 1 gWide):=by
 refine fnd ["_law_book_here","_law_cells","_law_k","_law_values","_law_counts"] (λhr _=>(af (dow 1 (aK fJ)) (bf (dL (cU T.eI (da1 (dln bz T.bJ (dx 0)))) (dgn 2) (af (gf (dix (dx 0) (dv 2)) (dg2 3 4)) (az (iU (pv 1) (aC (ae (ak ve (aC (da1 (ak wO (dv 2) ai))) (dv 3)) (a1 4))))))) (dr (aC (ae (dx 0) (ae (ak ve (aC (da1 ai)) (dx 0)) (da1 (aN bN T.bF (da1 (aR (DP hr) T.rJ 'k' (a1 1)))))))))))) (λds Q hl h=>?_);let(b,rfl,o,bk,bs,h):=h;have c9:=bs.c9;have C:(widL b.cells).length=b.cells.length:=by unfold widL;simp
 refine(sz,λl=>∃d g L:Sl,l=[.val (tS b),.own ((widL b.cells).map bQ),d,g,L],(('s',by simp;lia),?_),?_)
 .refine fj (λk l=>∃(n:Nat)(d g L:Sl),k=n/\l=[.val (tS b),.own (((widL b.cells).take n).map bQ),d,g,L]) _ _ ?_ ?_ _ (0,_,_,_,rfl,by simp;rfl)
  .rintro l ⟨n,d,g,L,A,rfl⟩;have:n=(widL b.cells).length:=by rw[C];rw[zza]at A;lia
   rw[this,zcq];exact(_,_,_,rfl)
  .rintro k l X k0 k1 ⟨n,d,g,L,rfl,rfl⟩ hX;have B:n<b.cells.length:=by rw[zza]at k1;lia
   have s:(b.cells.map bQ)[(n:Int).toNat]?\(bQ b.cells[n]):=by rw[zzV,zzz,zzp B];rfl
   have Y:(widL b.cells).take (n+1)=(widL b.cells).take n++[((n:Int) % 3::b.cells[n].1,b.cells[n].2)]:=by rw[List.take_succ];congr 1;unfold widL;rw[zzz,zvk B];simp[zzw,B]
   have kl:b.cells[n].1.length<=5:=by rw[((o.it _ (zzS B)).1)];exact o.mk5
   refine aX 'o' s (rfl,trivial,show (0:Int)<3 by decide,sz,?_,sz,?_,hX _ (n+1,_,_,_,'l',by rw[Y,zzm];rfl))
   .exact zzk (show _<=6 by show 1+(b.cells[n].1.map D.int).length<=6;rw[zza];lia) 'd'
   .rw[zza,zyv,C];exact zzE (show _<=9 by lia) 'd'
 .rintro _ ⟨d,g,L,rfl⟩;have M:((widL b.cells).map (·.1)).Nodup:=by
   have e:(widL b.cells).map (λc=>c.1.tail)=b.cells.map (·.1):=by unfold widL;rw[zzv];have:=congrArg (ze2 (·.1)) (xB ([],[]) b.cells);rw[zzv]at this;exact this
   have J:(b.cells.map (·.1)).Nodup:=yC bs.up;rw[<-e]at J;rw[List.Nodup,zxk]at J⊢;exact J.imp λ{x y} h z=>h (by rw[z])
  have m5:b.marks.length<=3:=by have:=bs.mks;lia
  have G:((widL b.cells).map embQ).map (·.1)=((widL b.cells).map (·.1)).map kI:=by rw[zzv,zzv];rfl
  have U:∀cl:av (av Int×Row),(cl.map embQ).map celD=cl.map bQ:=λcl=>by rw[zzv];refine zzJ λc _=>?_;show D.tup [keyD (kI c.1),rowD c.2]=D.tup [bV c.1,rowD c.2];rw[ir]
  refine(sz,?_,(widL b.cells).map embQ,by rw[U],λp hp=>?_,by rw[G];exact List.Pairwise.map _ (λa b h z=>h (pH z)) M,by rw[zza,C];lia,λj sub H=>?_)
  .exact zzk (show _<=6 by show 1+(b.marks.map D.int).length<=6;rw[zza];lia) 'd'
  .let(c,_,rfl):=zzi.mp hp;exact qO c.1
  let(cl,N,rfl):=Ep j sub;have I:cl.map (·.1)=fm ((widL b.cells).map (·.1)):=by
   rw[G,vt,zzv]at H;have r:(cl.map (·.1)).map kI=(fm ((widL b.cells).map (·.1))).map kI:=by rw[<-H,zzv];rfl
   exact(zwx (λa b h=>pH h)).mp r
  have cll:cl.length=b.cells.length:=by have e:=congrArg zai I;rw[zza,(bZ _).length_eq,zza,C]at e;exact e
  rw[U];refine(sz,h (b.m,3::b.marks,cl) (o.m2,o.m6,'s',by simp;omega,λx E=>?_,by show cl.length<=9;lia,λc q=>?_,by show (cl.map (·.1)).Pairwise _;rw[I];exact je M))
  .rcases zze.mp E with rfl|E
   .decide
   .exact bs.m1 x E
  .have q:=N c q;unfold widL at q;let(k,u,rfl):=zzi.mp q;have u:=zyK.mp u;have e:b.cells.getD k ([],[])=b.cells[k]:=by simp[zzw,u]
   have v:=zzS u;rw[e];refine((by simp[(bk _ v).1],λi hi=>?_),bs.sm b.cells[k] v,(o.it b.cells[k] v).2.2);cases i with
   |zero=>exact(zyG _ 'd',zyI _ 'd')|succ i=>exact(bk _ v).2 i (by simpa using hi)
abbrev bkD(hs:av Str)(ms:av Mk)(cT:av (av Int×Row)):D:=.tup [.int hs.length,.tup (ms.map λm=>.int m.2.length),.tup (cT.map bQ)]
theorem rm(h6:hs.length<=6)(cs:av (av Int×Row)):(cs.flatMap (csOf hs ms)).length<=6*cs.length:=by
 induction cs with
 |nil=>simp|cons c cs ih =>
  have:(csOf hs ms c).length<=6:=by unfold csOf;rw[zza];exact zzk (zxg _ _) (by rw[zyo];lia)
  rw[zxA,zzh,zzl];lia
theorem Es{b:Bk}(n:NmB b hs ms):tS b=bkD hs ms b.cells:=by unfold tS bkD;rw[n.hl,<-n.mz];show D.tup [_,.tup ((ms.map _).map D.int),_]=_;rw[zzv];rfl
theorem Kn{b:Bk}(o:WB b)(n:NmB b hs ms):BkT hs ms b.cells/\1<=ms.length/\ms.length<=4/\(aU hs ms b.cells).length<=59/\(∀c∈b.cells,RowN 45 hs.length c.2)/\(∀m∈ms,1<=m.2.length):=by
 have v:=n.hl;have B:ms.length=b.marks.length:=by rw[<-n.mz,zza]
 have k1:=o.k1;have k4:=o.k4;have m6:=o.m6;have m2:=o.m2;have c9:=o.c9;have u:hs.length<=6:='l'
 have mk:∀m∈ms,1<=m.2.length/\m.2.length<=6:=λm d=>by have:=o.m1 (m.2.length:Int) (by rw[<-n.mz];exact zdg d);lia
 have ln:(aU hs ms b.cells).length<=59:=by have:=rm (ms:=ms) u b.cells;unfold aU;simp only[zzO,zzl,zzh,zza];lia
 have e:∀c∈b.cells,RowN 45 hs.length c.2:=λc J=>by rw[v];exact(o.it c J).2.1
 refine(('l',u,n.hn,n.hd,'l',λm d=>((n.mn m d).1,(mk m d).1,(mk m d).2,(n.mn m d).2.1,(n.mn m d).2.2),n.md,'l',λc J=>(?_,((e c J).1,λx q=>?_),(o.it c J).2.2),λc J x q=>?_,λc J i k m g l=>?_,λi j x y L g l=>?_),'l','l',ln,e,λm d=>(mk m d).1)
 .rw[(o.it c J).1.1,B]
 .exact((e c J).2 x q).mono 'd'
 .have:=((e c J).2 x q).bt;have:x.1.natAbs<2^45:=this;omega
 .let(a1,a2):=(o.it c J).1;have hi:i<c.1.length:=(zzC.mp g).1;have:=a2 i hi;rw[zzw,zzw,g,<-n.mz,zzz,l]at this;exact this
 .have up:=o.up;rw[zxk]at up;have hi:=(zzC.mp g);have U:=(zzC.mp l);have:=zyt.mp up i j hi.1 U.1 L;rw[hi.2,U.2]at this;rw[nj _ _ (by rw[(o.it x (zzK g)).1.1,(o.it y (zzK l)).1.1])];exact this
inductive gWi(ds:List D)(Q:D->Prop):Prop
 |mk (x a b:Int):ds=[.int x,.int a,.int b]->Q (.bl (decide (a <= x) && decide (x <= b)))->gWi ds Q
inductive gWh(ds:List D)(Q:D->Prop):Prop
 |mk (x:Int):ds=[.int x]->Q (.bl true)->gWh ds Q
theorem kf(T:Tx K mg):T.yZ.Ok P w base CX0 1 (spD K 1 gWh):=by refine fnd ["thing"] (λhr _=>(dr (eO (aR AH T.au rfl (ae (dv 0) (da1 (gL T.vX)))) (fH (AA (aR pj T.au rfl (ae (dv 0) (da1 (gL T.FI))))))))) (λds Q hl h=>?_);let(x,rfl,h):=h;exact(rfl,rfl,Br.t (rfl,rfl,h))
theorem dh(T:Tx K mg):T.vV.Ok P w base CX0 2 (spD K 3 gWi):=by
 refine fnd ["thing","least","most"] (λc _=>(dr (eO (dcl (kf T) c (a1 0)) (fH (gD ij ij (dv 1) (dv 0) (dv 2)))))) (λds Q hl h=>?_);let(x,a,b,rfl,h):=h;refine(rfl,x,rfl,Br.t (Br.di (λy=>?_) λy=>?_))
 .rw[zzj y]at h;exact h
 .rw[zzo y]at h;exact h
inductive gChH(ds:List D)(Q:D->Prop):Prop
 |mk (m a:Int):ds=[.int m,.int a]->0 <= a/\a<m->Q .non->gChH ds Q
theorem jp(T:Tx K mg):T.rF.Ok P w base CX0 3 (spD K 2 gChH):=by refine fnd ["many","house"] (λd _=>(az (dif (bu (bc (dcl (dh T) d (ae (dv 1) (ae ai (da1 (ak kA (dv 0) ai))))))) dnv))) (λds Q hl h=>?_);let(m,a,rfl,(c,h2),h):=h;refine(rfl,a,0,m-1,rfl,?_);rw[zzj c,zzj (show a<=m-1 by lia)];exact Br.f h
inductive gPr(C:Addr)(ds:List D)(Q:D->Prop)(W:Addr->Prop):Prop
 |mk (m a b:Int):ds=[.int m,.int a,.int b]->0 <= a/\a<m->0 <= b/\b<m->(a≠b->Q .non)->(a=b->W C)->gPr C ds Q W
theorem cY(T:Tx K mg):T.kM.Ok P w base (CXE P w) 4 (spDE K 3 (gPr T.aO)):=by refine fnDE T.kM.d.F qL (λJ c _=>(af (dE (dcl (jp T) c (a2 0 1))) (af (dE (dcl (jp T) c (a2 0 2))) (az (dif (aE (cc c) (dv 1) (dv 2)) (az (drs T.yY T.kh J (da1 ag)))))))) (λds Q W hl h=>?_);let(m,a,b,rfl,j,L,e,g):=h;refine(rfl,m,a,rfl,j,rfl,m,b,rfl,L,(rfl,rfl),λz=>('s',g (by simpa[cJ]using z)),λz=>e (by simpa[cJ]using z))
inductive gChM(ds:List D)(Q:D->Prop):Prop
 |mk (d:D) (n:Nat) (ms:List D) (e:D) (k:Int):ds=[.tup [d,.tup ms,e],.int k]->0 <= k/\k<ms.length->Q .non->gChM ds Q
theorem tX(T:Tx K mg):T.ux.Ok P w base CX0 3 (spD K 2 gChM):=by refine fnd ["book","mark"] (λg _=>(az (dif (bu (bc (dcl (dh T) g (ae (dv 1) (ae ai (da1 (ak kA (dln bz T.bJ (dx 0)) ai))))))) dnv))) (λds Q hl h=>?_);let(d,n,ms,e,k,rfl,(c,h2),h):=h;refine(rfl,k,0,(ms.length:Int)-1,rfl,?_);rw[zzj c,zzj (show k<=(ms.length:Int)-1 by lia)];exact Br.f h
theorem Et(x:Int):yd [x,x]=1:=by show (zdM zcj [] [x,x]).length=1;simp[zcj]
structure SoE(n:Nat)(so:List Int):Prop where
 it:∀x∈so,0 <= x/\x<n
 len:so.length <= 10
inductive gMs(C:Addr)(ds:List D)(Q:D->Prop)(W:Addr->Prop):Prop
 |mk (d:D) (ms:List D) (e:D) (so:List Int):ds=[.tup [d,.tup ms,e],bV so]->SoE ms.length so->((so.Nodup/\Q .non)∨((∃x,so=[x,x])/\W C))->gMs C ds Q W
theorem gS(T:Tx K mg):T.jC.Ok P w base (CXE P w) 4 (spDE K 2 (gMs T.aP)):=by
 refine fnDE T.jC.d.F oj (λL j _=>(af (dif (bu (bc (aR fg T.au rfl (ae (dv 1) (da1 (gL T.bF)))))) (az (drs T.uq T.jx L (da1 ag)))) (bf (dL (eQ (dv 1)) (dgn 2) (az (dE (dcl (tX T) j (a2 0 2)))) (qz rfl rfl)) (az (dif (aE (gc j) (AZ rfl rfl T.bJ rfl T.KB (dv 1)) (dln bz T.bJ (dv 1))) (az (drs T.uq T.jx L (da1 ag)))))))) (λds Q W hl h=>?_);let(d,ms,e,g,rfl,o,h):=h;refine(rfl,rfl,Br.f (λc=>∃s,c=[.val (.tup [d,.tup ms,e]),.val (bV g),s],?_,?_))
 .refine AL (λc=>∃s,c=[.val (.tup [d,.tup ms,e]),.val (bV g),s]) (λc J=>J) (λx q c X J U=>?_) _ (_,rfl);let(s,rfl):=J;let(k,l,rfl):=zzi.mp q;exact(rfl,d,0,ms,e,k,rfl,o.it k l,U _ (_,rfl))
 .rintro _ ⟨s,rfl⟩;refine(g,rfl,zzk o.len 'd',(rfl,rfl),λz=>('s',?_),λz=>?_)
  .rcases h with ⟨u,h⟩|⟨_,h⟩
   .rw[uR u,zza,cJ]at z;simp at z
   .exact h
  .rcases h with ⟨_,h⟩|⟨⟨x,rfl⟩,h⟩
   .exact h
   .rw[Et,cJ]at z;cases z
def gNo:DSp:=λ_ _=>False
theorem vF(T:Tx K mg):T.nI.Ok P w base CX0 1 (spD K 2 gNo):=fnD (k:=0) T.nI.d.F tD (λ_ _=>ma) (λds Q hl h=>h.elim)
theorem oz(T:Tx K mg):T.gZ.Ok P w base CX0 1 (spD K 5 gNo):=fnD (k:=0) T.gZ.d.F mQ (λ_ _=>ma) (λds Q hl h=>h.elim)
theorem kX(T:Tx K mg):T.fP.Ok P w base CX0 1 (spD K 3 gNo):=fnD (k:=0) T.fP.d.F jT (λ_ _=>ma) (λds Q hl h=>h.elim)
inductive gPb(C:Addr)(ds:List D)(Q:D->Prop)(W:Addr->Prop):Prop
 |mk (hs:List Str) (ms:List Mk) (cT:List (List Int×Row)) (so:List Int):ds=[bkD hs ms cT,bV so]->hs.length <= 6->SoE ms.length so->((so.Nodup/\cT=[]/\Q (.lst []))∨((∃x,so=[x,x])/\W C))->gPb C ds Q W
theorem iC(T:Tx K mg):T.kr.Ok P w base (CXE P w) 5 (spDE K 2 (gPb T.aP)):=by
 refine fnDE T.kr.d.F vj (λJ c _=>(af (dE (dcE (gS T) J c (a2 0 1))) (dr (dcl (gG T) c (ae (dx 0) (da1 (aq (PCD.pldE (by letI:Frm:=Frm.free;exact(aH ["cell","some"] [none,some 1] rfl (eQ (dx 0)) (dgb 0) aG (aC (ae (dcl (vF T) c (ae (dx 0) (a1 1))) (da1 (dx 0)))))))))))))) (λds Q W hl h=>?_);let(hs,ms,cT,so,rfl,g,o,h):=h;have l:SoE (ms.map λm=>D.int m.2.length).length so:=by rw[zza];exact o
 refine(rfl,_,_,_,so,rfl,l,?_);rcases h with ⟨j,rfl,h⟩|⟨e,h⟩
 .exact .inl (j,rfl,hs.length,_,[],0,rfl,.inl rfl,(g,'s',λp L=>by simp at L),h)
 .exact .inr (e,h)
theorem Eu{f:ay}{fd:bo}{g:DSpE}(F:FnOk P w K mg base (CXE P w) k f fd hs (spDE K n g)):FnOk P w K mg base CX0 k f fd hs (spD K n λds Q=>g ds Q λ_=>False) :=
 F.down λvs H Q E q=>by let(pp,M,ds,P,J,r,e,h,k):=q;exact(pp,M,ds,P,_,J,r,e,h,k,λz=>z.elim)
abbrev gPb0(C:ay):DSp:=λc Q=>gPb C c Q λ_=>False
theorem yE(T:Tx K mg):T.kr.Ok P w base CX0 5 (spD K 2 (gPb0 T.aP)):=Eu (iC T)
theorem yF(T:Tx K mg):T.gK.Ok P w base CX0 6 (spD K 2 (gPb0 T.aP)):=by refine fnd ["book","some"] (λe _=>(dr (dfc (aH ["part"] [none] rfl (bq (dcl (yE T) e (a2 0 1))) (dgb 0) aG (dx 0))))) (λds Q hl h=>?_);let(hs,ms,c,g,rfl,d,o,h):=h;exact(rfl,hs,ms,c,g,rfl,d,o,h)
def gTbX(C:ay):DSpE:=λc _ W=>gPb C c (λ_=>False) W
theorem vG(T:Tx K mg):T.gK.Ok P w base (CXE P w) 6 (spDE K 2 (gTbX T.aP)):=by refine fnDE T.gK.d.F vm (λJ g _=>(dr (aq (xa (N':=["part"]) rfl rfl 'k' rfl (.own .nil) 'k' (bq (dcE (iC T) J g (a2 0 1))))))) (λds Q W hl h=>?_);let(hs,ms,c,j,rfl,e,o,h):=h;exact(rfl,hs,ms,c,j,rfl,e,o,h)
theorem vH(T:Tx K mg):T.gK.Ok P w base (CXE P w) 6 (spDE K 2 (gPb T.aP)):=(Tactic.FnOk.orE (Tactic.FnOk.asE (yF T)) (vG T)).imp λvs H Q E h=>by
 have(pp,M,o,P,W,U,r,e,(hs,ms,d,l,a,b,c,h),k,u):=h;refine(pp,M,o,P,W,U,r,e,?_,k,u);rcases h with ⟨g,j,q⟩|⟨g,j⟩
 .exact .inl (hs,ms,d,l,a,b,c,.inl (g,j,q))
 .exact .inr (hs,ms,d,l,a,b,c,.inr (g,j))
inductive gTf(CH CM CT:Addr)(ds:List D)(x1:D->Prop)(W:Addr->Prop):Prop
 |mk (hs:List Str) (ms:List Mk) (cT:List (List Int×Row)) (so:List Int) (a b:Int):ds=[bkD hs ms cT,bV so,.int a,.int b]->hs.length <= 6->SoE ms.length so->0 <= a/\a<hs.length->0 <= b/\b<hs.length->((a=b/\W CH)∨(a≠b/\(∃x,so=[x,x])/\W CM)∨(a≠b/\so.Nodup/\cT=[]/\W CT))->gTf CH CM CT ds x1 W
theorem tY(T:Tx K mg):T.nM.Ok P w base (CXE P w) 7 (spDE K 4 (gTf T.aO T.aP T.bi)):=by
 refine fnDE T.nM.d.F tH (λJ g _=>(af (dE (dcE (cY T) J g (ae (dx 0) (a2 2 3)))) (af (dse 4 (dcE (vH T) J g (a2 0 1))) (af (dif (aE (cc g) (dln bz T.bJ (dv 4)) ai) (az (drs T.yS T.kq J (da1 ag)))) (dr (dv 4)))))) (λds Q W hl h=>?_);let(hs,ms,c,u,a,b,rfl,j,o,l,L,h):=h;refine(rfl,hs.length,a,b,rfl,l,L,λne=>(rfl,hs,ms,c,u,rfl,j,o,?_),λe=>?_)
 .rcases h with ⟨e,_⟩|⟨_,e,h⟩|⟨_,q,e,h⟩
  .exact absurd e ne
  .exact .inr (e,h)
  .exact .inl (q,e,(rfl,rfl),λ_=>('s',h),λz=>absurd z 'd')
 .rcases h with ⟨_,h⟩|⟨ne,_⟩|⟨ne,_⟩
  .exact h
  .exact absurd e ne
  .exact absurd e ne
inductive gHs2(C:Addr)(rest:List D->Prop)(ds:List D)(x1:D->Prop)(W:Addr->Prop):Prop
 |mk (hs:List Str) (ms:List Mk) (cT:List (List Int×Row)) (a:Int) (xs:List D):ds=bkD hs ms cT :: .int a :: .int a::xs->rest xs->0 <= a/\a<hs.length->W C->gHs2 C rest ds x1 W
theorem tZ(T:Tx K mg):T.nP.Ok P w base (CXE P w) 5 (spDE K 3 (gHs2 T.aO (· = []))):=by refine fnDE T.nP.d.F tF (λJ e _=>(af (dE (dcE (cY T) J e (ae (dx 0) (a2 1 2)))) (af bx dnv))) (λds Q W hl h=>?_);let(hs,ms,cT,a,xs,rfl,rfl,c,h):=h;exact(rfl,hs.length,a,a,rfl,c,c,λne=>absurd rfl ne,λ_=>h)
theorem BK(T:Tx K mg):T.xI.Ok P w base (CXE P w) 5 (spDE K 4 (gHs2 T.aO λxs=>∃d,xs=[d])):=by refine fnDE T.xI.d.F Bj (λJ e _=>(af (dE (dcE (cY T) J e (ae (dx 0) (a2 1 2)))) (af bx (af bx (af bx (af bx (af bx (af bx (af bx (af bx (bf bx dnv))))))))))) (λds Q W hl h=>?_);let(hs,ms,cT,a,xs,rfl,(d,rfl),c,h):=h;exact(rfl,hs.length,a,a,rfl,c,c,λne=>absurd rfl ne,λ_=>h)
inductive gKn(CH CM:Addr)(rest:List D->Prop)(ds:List D)(x1:D->Prop)(W:Addr->Prop):Prop
 |mk (pre:List D) (hs:List Str) (ms:List Mk) (cT:List (List Int×Row)) (so:List Int) (a b:Int):ds=pre++[bkD hs ms cT,bV so,.int a,.int b]->rest pre->SoE ms.length so->0 <= a/\a<hs.length->0 <= b/\b<hs.length->((a=b/\W CH)∨(a≠b/\(∃x,so=[x,x])/\W CM))->gKn CH CM rest ds x1 W
inductive gKnX(C:Addr)(ds:List D)(x1:D->Prop)(W:Addr->Prop):Prop
 |mk (hs:List Str) (ms:List Mk) (cT:List (List Int×Row)) (so:List Int):ds=[bkD hs ms cT,bV so]->SoE ms.length so->(∃x,so=[x,x])->W C->gKnX C ds x1 W
theorem Ev(T:Tx K mg):T.Cc.Ok P w base (CXE P w) 5 (spDE K 2 (gKnX T.aP)):=by
 refine fnDE T.Cc.d.F Eb (λJ c _=>(af (dE (dcE (gS T) J c (a2 0 1))) (af bx (bf bx dnv)))) (λds Q W hl h=>?_);let(hs,ms,cT,so,rfl,o,e,h):=h;have g:SoE (ms.map λm=>D.int m.2.length).length so:=by rw[zza];exact o
 exact(rfl,_,_,_,so,rfl,g,.inr (e,h))
theorem nr(T:Tx K mg):T.gU.Ok P w base (CXE P w) 6 (spDE K 4 (gKn T.aO T.aP (· = []))):=by
 refine fnDE T.gU.d.F mK (λJ g _=>(af (dE (dcE (cY T) J g (ae (dx 0) (a2 2 3)))) (af (dse 4 (dcE (Ev T) J g (a2 0 1))) (af bx (af bx (bf bx dnv)))))) (λds Q W hl h=>?_);let(_,hs,ms,c,l,a,b,rfl,rfl,o,j,L,h):=h;refine(rfl,hs.length,a,b,rfl,j,L,λne=>?_,λe=>?_)
 .rcases h with ⟨e,_⟩|⟨_,e,h⟩
  .exact absurd e ne
  .exact(rfl,hs,ms,c,l,rfl,o,e,h)
 .rcases h with ⟨_,h⟩|⟨ne,_⟩
  .exact h
  .exact absurd e ne
theorem nv(T:Tx K mg):T.gT.Ok P w base (CXE P w) 7 (spDE K 5 (gKn T.aO T.aP λp=>∃d,p=[d])):=by refine fnDE T.gT.d.F mO (λJ g _=>(af (dow 5 (aK fJ)) (bf (dL (bq (dcE (nr T) J g (ae (dv 1) (a3 2 3 4)))) (dg2 6 7) dnv (qz rfl rfl)) dnv))) (λds Q W hl h=>?_);let(_,hs,ms,c,j,a,b,rfl,(d,rfl),o,e,L,h):=h;exact(sz,λ_=>False,(rfl,[],hs,ms,c,j,a,b,rfl,rfl,o,e,L,h),λ_ z=>z.elim)
inductive gPa(C:Addr)(ds:List D)(x1:D->Prop)(W:Addr->Prop):Prop
 |mk (d:D) (hs:List Str) (ms:List Mk) (cT:List (List Int×Row)) (so:List Int):ds=[d,bkD hs ms cT,bV so]->hs.length <= 6->SoE ms.length so->(∃x,so=[x,x])->W C->gPa C ds x1 W
theorem ny(T:Tx K mg):T.gY.Ok P w base (CXE P w) 6 (spDE K 3 (gPa T.aP)):=by refine fnDE T.gY.d.F mM (λJ j _=>(af (dow 3 (aK fJ)) (bf (dL (bq (dcE (iC T) J j (a2 1 2))) (dg2 4 5) dnv (qz rfl rfl)) dnv))) (λds Q W hl h=>?_);let(d,hs,ms,c,l,rfl,g,o,e,h):=h;exact(sz,λ_=>False,(rfl,hs,ms,c,l,rfl,g,o,.inr (e,h)),λ_ z=>z.elim)
inductive gPl(C:Addr)(ds:List D)(Q:D->Prop)(W:Addr->Prop):Prop
 |mk (x:Str) (ws:List Str):ds=[.str x,.lst (ws.map .str)]->(x∈ws->Q (.int (plc x ws)))->(x∉ws->W C)->gPl C ds Q W
theorem cN(T:Tx K mg):T.cO.Ok P w base (CXE P w) 1 (spDE K 2 (gPl T.aV)):=by
 refine fnDE T.cO.d.F vn (λJ hr _=>(af (dif (aE iY (dv 0) (dv 1) rfl) (az (drs T.uy T.jw J (da1 ag)))) (dr (AW lB (dv 1) (dv 0))))) (λds Q W hl h=>?_);let(x,ws,rfl,c,e):=h;refine((rfl,cK ws),?_);rw[iw];by_cases z:x∈ws
 .rw[zzj z];exact Br.f (trivial,(rfl,cK ws),plc x ws,qR z,c z)
 .rw[zzo z];exact Br.t ('s',e z)
inductive gMnd(ds:List D)(Q:D->Prop):Prop
 |mk (hs:List Str) (ms:List Mk):ds=[nmD hs ms]->ms.length <= 10->Q (.lst ((ms.map (·.1)).map .str))->gMnd ds Q
theorem jq(T:Tx K mg):T.rG.Ok P w base CX0 1 (spD K 1 gMnd):=by
 refine fnd ["names"] (λhr _=>(dr (dfc (aH ["name","kinds"] [none,none] rfl (bq (dx 0)) (dg2 0 1) aG (dv 0))))) (λds Q hl h=>?_);let(hs,ms,rfl,e,h):=h;refine cm (λd=>match d with|.tup (x::_)=>x|_=>.non) (λc=>∃s s',c=[s,s']) (by rw[zza];exact zzk e 'd') (λd hd c Y Z J L=>?_) _ (_,_,rfl) ?_
 .let(s,s',rfl):=J;let(m,_,rfl):=zzi.mp hd;exact(rfl,Br.t (L _ (_,_,rfl)))
 .rw[zzv]at h⊢;exact h
abbrev plM(ms:av Mk)(ws:av Str):av Int:=ws.map λx=>(plc x (ms.map (·.1)):Int)
inductive gSm(C:Addr)(ds:List D)(Q:D->Prop)(W:Addr->Prop):Prop
 |mk (hs:List Str) (ms:List Mk) (ws:List Str):ds=[nmD hs ms,.lst (ws.map .str)]->ms.length <= 10->ws.length <= 100->((∀x∈ws,x∈ms.map (·.1))->Q (bV (plM ms ws)))->(¬(∀x∈ws,x∈ms.map (·.1))->W C)->gSm C ds Q W
theorem jr(T:Tx K mg):T.kK.Ok P w base (CXE P w) 2 (spDE K 2 (gSm T.aV)):=by
 refine fnDE T.kK.d.F qM (λL q _=>(dr (aN bN T.bF (da1 (aq (PCE.pl (qE (N':=["word","names"]) (.inl (rfl,rfl,eF)) L rfl rfl 'k' rfl (.own (.cap (j:=0) rfl (by room) rfl .nil)) 'k' (bq (dv 1)) (λB=>(by letI:Frm:=Frm.free;exact(dgb 0))) (λB=>(by letI:Frm:=Frm.free;exact aG)) (λfr W L B=>(xf (x:="place_of") (cN T) xc L (q.mono 'd') rfl T.cO.d.m T.cO.d.F.kp T.cO.d.b (ae (dv 0) (da1 (dcl (jq T) q (a1 1))))))))))))) (λds Q W hl h=>?_);let(hs,ms,ws,rfl,G,H,u,v):=h;refine bY (λg c l=>c=(plM ms g).map D.int/\(∀x∈g,x∈ms.map (·.1))/\∃s,l=[s,.val (nmD hs ms)]) (λc l J=>by rw[J.1];exact u J.2.1) (λg x w1 c l Y o J C=>?_) _ (rfl,λx E=>by simp at E,_,rfl);let(rfl,U,s,rfl):=J;rw[o,zzh]at H;refine Br.t (rfl,hs,ms,rfl,G,rfl,x,_,rfl,λz=>(?_,C _ _ (by show _=((g++[x]).map _).map D.int;rw[zzm,zzm];rfl,λy e=>?_,_,rfl)),λz=>v λa=>z (a x (by rw[o];simp)))
 .rw[zza,zza];exact zzE (show g.length<=100 by lia) 'd'
 .rcases zzg.mp e with e|e
  .exact U y e
  .rw[zzt.mp e];exact z
inductive gWho(ds:List D)(Q:D->Prop):Prop
 |mk (hs:List Str) (ms:List Mk):ds=[bkD hs ms []]->hs.length <= 6->Q (rowD (sums [] hs.length))->gWho ds Q
theorem yG(T:Tx K mg):T.yX.Ok P w base CX0 3 (spD K 1 gWho):=by refine fnd ["book"] (λc _=>(dr (dcl (dS T) c (ae (dx 0) (da1 (dfc (aH ["cell"] [none] rfl (eQ (dx 0)) (dgb 0) aG (dx 0)))))))) (λds Q hl h=>?_);let(hs,ms,rfl,d,h):=h;exact(rfl,hs.length,[],rfl,(d,'s',λr c=>by simp at c),h)
noncomputable abbrev zzD:D:=.tup [.int 0,.int 0]
def gSd:DSp:=λc Q=>c=[zzD,zzD]/\Q .non
theorem Ko(T:Tx K mg):T.KE.Ok P w base CX0 1 (spD K 2 gSd):=by refine fnd ["one","other","first","second"] (λc _=>(af (dir (PWD.pt (dA (aE (cc c) (dx 0) ai) (ck (aE (cc c) (dx 1) ai)))) fG) (af (dse 2 (ak AE (dx 0) (dx 1))) (af (dse 3 (ak AE (dx 1) (dx 0))) (af (dir (aE qy (dv 2) (dv 3)) ai) (af (dir (aE Jl (dv 2) (dv 3)) (kU fL ai)) (dr ai))))))) (λds Q hl h=>?_);let(rfl,h):=h;exact((rfl,rfl),Br.t (Br.t h))
def gLd(C:ay):DSpE:=λc _ W=>c=[zzD,zzD]/\W C
theorem yH(T:Tx K mg):T.uB.Ok P w base (CXE P w) 2 (spDE K 2 (gLd T.bD)):=by refine fnDE T.uB.d.F yp (λU c _=>(af (dif (aE (gc c) (dcl (Ko T) c (a2 0 1)) ai) (az (drs T.BX T.nJ U (da1 ag)))) dnv)) (λds Q W hl h=>?_);have(rfl,h):=h;exact(rfl,rfl,(rfl,rfl),λ_=>('s',h),λz=>absurd z 'd')
theorem BL(T:Tx K mg):T.xK.Ok P w base (CXE P w) 3 (spDE K 2 (gLd T.bD)):=by refine fnDE T.xK.d.F Bi (λJ c _=>(dr (dcl (kX T) c (ae (dv 0) (ae (dv 1) (da1 (dcE (yH T) J c (a2 0 1)))))))) (λds Q W hl h=>?_);let(rfl,h):=h;exact(rfl,rfl,h)
inductive gFa(CH CL:Addr)(ds:List D)(x1:D->Prop)(W:Addr->Prop):Prop
 |mk (hs:List Str) (ms:List Mk) (cT:List (List Int×Row)) (a b:Int):ds=[bkD hs ms cT,.int a,.int b]->hs.length <= 6->0 <= a/\a<hs.length->0 <= b/\b<hs.length->((a=b/\W CH)∨(a≠b/\cT=[]/\W CL))->gFa CH CL ds x1 W
theorem rn(T:Tx K mg):T.kL.Ok P w base (CXE P w) 5 (spDE K 3 (gFa T.aO T.bD)):=by
 refine fnDE T.kL.d.F qN (λL g _=>(af (dE (dcE (cY T) L g (ae (dx 0) (a2 1 2)))) (af (dse 3 (dcl (yG T) g (a1 0))) (dr (gg ag (aq (xa (N':=["number"]) rfl rfl 'k' rfl (.own .nil) 'k' (eQ (dcE (BL T) L g (ae (dix (dv 3) (dv 1)) (da1 (dix (dv 3) (dv 2))))))))))))) (λds Q W hl h=>?_);let(hs,ms,cT,a,b,rfl,j,c,J,h):=h;refine(rfl,hs.length,a,b,rfl,c,J,λne=>?_,λe=>?_)
 .rcases h with ⟨e,_⟩|⟨_,rfl,h⟩
  .exact absurd e ne
  .have U:∀x:Int,0<=x->x<hs.length->((sums [] hs.length).map dG)[x.toNat]?\zzD:=λx x0 x1=>by
    unfold sums;rw[zzv,zzz,zvk 'l'];rfl
   refine(rfl,hs,ms,rfl,j,?_);refine(_,rfl,aX c.1 (U a c.1 c.2) (aX J.1 (U b J.1 J.2) (rfl,rfl,h)))
 .rcases h with ⟨_,h⟩|⟨ne,_⟩
  .exact h
  .exact absurd e ne
structure CoOk(hs:List Str)(ms:List Mk)(hn:Str)(kw:List Str):Prop where
 hh:hn∈hs
 kk:∀p∈kw.zip ms,p.1∈p.2.2
inductive gCo(CR CN:Addr)(ds:List D)(Q:D->Prop)(W:Addr->Prop):Prop
 | mk (hs:List Str) (ms:List Mk) (ws:List Str):ds=[nmD hs ms,.lst (ws.map .str)]->(∀x∈ws,TxOk x)->ws.length <= 1000->ms.length <= 5->((ws.length≠4+ms.length/\W CR)∨∃(c0 hn:Str)(kw:List Str)(a b:Str),ws=c0::hn::kw++[a,b]/\kw.length=ms.length/\((¬(cD a=true/\cD b=true)/\W CR) ∨
  (cD a=true/\cD b=true/\((¬CoOk hs ms hn kw/\W CN)∨(CoOk hs ms hn kw/\∀t v:Nat,intText? a\(t:Int)->intText? b\(v:Int)->Q (rtD (plc hn hs,kpl kw ms,t,v)))))))->gCo CR CN ds Q W
theorem yI(T:Tx K mg):T.ur.Ok P w base (CXE P w) 2 (spDE K 2 (gCo T.aZ T.aV)):=by
 refine fnDE T.ur.d.F yr (λJ j nd=>(af (dif (PWD.pt (dA (aE (gc j) (dln bz T.bJ (dv 1)) (ak de ai (dln bz T.bJ (dx 0)))) (dA (bu (bc (dcl (ft T) j (da1 (dix (dv 1) (kU fL ai)))))) (ck (bu (bc (dcl (ft T) j (da1 (dix (dv 1) (kU fL ai)))))))))) (az (drs T.rM T.jv J (da1 ag)))) (af (dse 2 (dcE (cN T) J j (ae (dx 1) (da1 (dx 0))))) (af (DN (i:=3) nd rfl rfl (qE (N':=["word","mark"]) (.inl (rfl,rfl,eF)) J rfl rfl 'k' rfl (.own (.own .nil)) 'k' (mE T.Cd (ae (aq (eS (dv 1) (cI ai) (cI (kU fL ai)))) (da1 (dx 0)))) (λB=>(by letI:Frm:=Frm.free;exact(dg2 0 1))) (λB=>(by letI:Frm:=Frm.free;exact aG)) (λfr W J B=>(xf (x:="place_of") (cN T) xc J (j.mono 'd') rfl T.cO.d.m T.cO.d.F.kp T.cO.d.b (ae (dv 0) (da1 (dx 1))))))) (dr (aC (ae (dv 2) (ae (aN bN T.bF (a1 3)) (ae (aN qF T.vX (da1 (dix (dv 1) (kU fL ai)))) (da1 (aN qF T.vX (da1 (dix (dv 1) (kU fL ai)))))))))))))) (λds Q W hl h=>?_);let(hs,ms,ws,rfl,ho,wl,m5,h):=h;rcases h with ⟨ne,h⟩|⟨l,g,kw,a,b,rfl,ek,h⟩
 .refine((rfl,rfl),?_);show Br (!eqD (.int _) (.int _)) _ _;rw[cJ,zzo (by rw[zza,zza];lia)];exact Br.t (Br.t ('s',h))
 .refine((rfl,rfl),?_);show Br (!eqD (.int _) (.int _)) _ _;rw[cJ,zzj (by rw[zza,zza];simp;lia)];refine Br.f ?_;have I:∀{Q:D->Prop},Q (.str a)->opt (atI ((l::(g::kw++[a,b])).map D.str) (-2)) Q:=λq=>by
   show opt (atI _ (-((2:Nat):Int))) _;rw[tO (k:=2) 'd' (d:=.str a) 's' 's'];exact q
  have U:∀{Q:D->Prop},Q (.str b)->opt (atI ((l::(g::kw++[a,b])).map D.str) (-1)) Q:=λq=>by show opt (atI _ (-((1:Nat):Int))) _;rw[tO (k:=1) 'd' (d:=.str b) 's' 's'];exact q
  refine I (rfl,a,rfl,ho a 's',?_);cases o:cD a with
  |false =>
   rcases h with ⟨_,h⟩|⟨e,_⟩
   .exact Br.t (Br.t ('s',h))
   .rw[o]at e;cases e
  |true =>
  refine Br.f (U (rfl,b,rfl,ho b 's',?_));cases u:cD b with
  |false =>
   rcases h with ⟨_,h⟩|⟨_,e,_⟩
   .exact Br.t ('s',h)
   .rw[u]at e;cases e
  |true =>
  rcases h with ⟨e,_⟩|⟨_,_,h⟩
  .exact absurd (o,u) e
  refine Br.f (aX (d:=.str g) (r:=1) 'd' rfl (rfl,g,hs,rfl,λG=>?_,λG=>?_))
  .have y:cutD ((l::g::kw++[a,b]).map D.str) (some 2) (some (-2))=kw.map D.str:=by
    unfold cutD;have l1:((l::g::kw++[a,b]).map D.str).length=kw.length+4:='s'
    have l2:HT.sIx (kw.length+4) 0 (some 2)=2:=by show (if (2:Int)<0 then((2:Int)+((kw.length+4:Nat):Int)).toNat else min (2:Int).toNat (kw.length+4))=2;rw[zzn 'd'];lia
    have l3:HT.sIx (kw.length+4) (kw.length+4) (some (-2))=kw.length+2:=by show (if (-2:Int)<0 then((-2:Int)+((kw.length+4:Nat):Int)).toNat else min (-2:Int).toNat (kw.length+4))=kw.length+2;rw[zzu 'd'];lia
    rw[l1,l2,l3];show ((kw++[a,b]).map D.str).take (kw.length+2-2)=_;rw[zzm,zxs,zeG (by rw[zza])]
   refine(_,_,rfl,rfl,?_);rw[y,iW];refine bY (λ(C:av (Str×Mk)) c H=>(∀p∈C,p.1∈p.2.2)/\c=(C.map λp=>(plc p.1 p.2.2:Int)).map D.int/\∃s s',H=[s,s']) (λc H E=>?_) (λC p p1 c H Y M E A=>?_) _ (λp L=>by simp at L,rfl,_,_,rfl)
   .let(em,rfl,_):=E;have ok:CoOk hs ms g kw:=(G,em);rcases h with ⟨no,_⟩|⟨_,h⟩
    .exact absurd ok no
    .let(t,N):=qS o;let(v,n):=qS u;have:=h t v N n;unfold kpl at this;exact I (zzk (jf o) 'd',t,N,U (zzk (jf u) 'd',v,n,sz,this))
   .let(em,rfl,s,s',rfl):=E;refine(rfl,Br.t (rfl,p.1,p.2.2,rfl,λL=>(?_,A _ _ (λq hq=>(zzg.mp hq).elim (em q) λz=>by rw[zzt.mp z];exact L,by rw[zzm,zzm];rfl,_,_,rfl)),λL=>?_))
    .have:C.length<=5:=by
      have:=congrArg zai M;rw[zyo,zzh]at this;lia
     rw[zza,zza];exact zzE this 'd'
    .rcases h with ⟨_,h⟩|⟨ok,_⟩
     .exact h
     .exact absurd (ok.kk p (by rw[M];simp)) L
  .rcases h with ⟨_,h⟩|⟨ok,_⟩
   .exact h
   .exact absurd ok.hh G
theorem FF(xs:av α){P:D->Prop}(h:P (.bl true)):gTru (λbs=>bs.all id) [.lst (xs.map λ_=>D.bl true)] P:=by
 have e:(xs.map λ_=>D.bl true)=(xs.map λ_=>true).map D.bl:=by rw[zzv];rfl
 rw[e];refine mD (bs:=xs.map λ_=>true) ?_;have:(xs.map λ_=>true).all id=true:='s'
 rw[this];exact h
inductive gCt(ds:List D)(Q:D->Prop):Prop
 |mk (t v:Nat):ds=[.tup [.int t,.int v]]->Q (.bl (decide (v <= t)))->gCt ds Q
theorem yJ(T:Tx K mg):T.yP.Ok P w base CX0 2 (spD K 1 gCt):=by
 refine fnd ["thing"] (λc _=>(af (dir (PWD.pt (dA (bu (bc (aR fg T.au rfl (ae (dv 0) (da1 (gL T.bF)))))) (ck (aE (gc c) (dln bz T.bJ (dv 0)) ai)))) fR) (af (dir (PWD.pt (dA (bu (bc (dcl (kf T) c (da1 (dx 0))))) (ck (bu (bc (dcl (kf T) c (da1 (dx 0)))))))) fR) (dr (gD ij ij ai (dx 0) (dx 0)))))) (λds Q hl h=>?_);let(t,v,rfl,h):=h;refine(rfl,rfl,Br.f ((rfl,rfl),Br.f (rfl,_,rfl,Br.f (rfl,_,rfl,Br.f (Br.dt (show (0:Int)<=v by lia) ?_)))));have e:decide ((v:Int)<=(t:Int))=decide (v<=t):='s'
 show Q (.bl (decide ((v:Int)<=(t:Int))));rw[e];exact h
inductive gAk(ds:List D)(Q:D->Prop):Prop
 |mk (ks ms:List Int):ds=[bV ks,bV ms]->ks.length=ms.length->ms.length <= 5->(∀p∈ks.zip ms,0 <= p.1/\p.1<p.2)->Q (.bl true)->gAk ds Q
theorem vI(T:Tx K mg):T.vS.Ok P w base CX0 3 (spD K 2 gAk):=by
 refine fnd ["kinds","marks"] (λc _=>(af (dir (PWD.pt (dA (bu (bc (aR fg T.au rfl (ae (dv 0) (da1 (gL T.bF)))))) (ck (aE (gc c) (dln bz T.bJ (dv 0)) (dln bz T.bJ (dv 1)))))) fR) (dr (aR pz T.yU zaF (da1 (dfc (aH ["kind","most"] [none,none] rfl (mE T.Cd (a2 0 1)) (dg2 0 1) aG (dcl (dh T) c (ae (dv 0) (ae ai (da1 (ak kA (dv 1) ai)))))))))))) (λds Q hl h=>?_);let(ks,ms,rfl,j,m5,U,h):=h;refine(rfl,rfl,Br.f ((rfl,rfl),?_));rw[cJ,zzj (by rw[zza,zza,j])];refine Br.f (_,_,rfl,rfl,?_);rw[iW];refine cm (λ_=>.bl true) (λe=>∃s s',e=[s,s']) (by rw[zza,zyo];exact zzk (show _<=5 by lia) 'd') (λd hd e Y Z J L=>?_) _ (_,_,rfl) ?_
 .let(s,s',rfl):=J;let(p,g,rfl):=zzi.mp hd;have:=U p g;refine(rfl,Br.t (rfl,p.1,0,p.2-1,rfl,?_));rw[zzj this.1,zzj (show p.1<=p.2-1 by lia)];exact L _ (_,_,rfl)
 .exact FF _ h
inductive gAm(ds:List D)(Q:D->Prop):Prop
 |mk (ms:List Int):ds=[bV ms]->ms.length <= 5->(∀x∈ms,1 <= x/\x <= 6)->Q (.bl true)->gAm ds Q
theorem vJ(T:Tx K mg):T.vZ.Ok P w base CX0 3 (spD K 1 gAm):=by
 refine fnd ["marks"] (λg _=>(af (dir (PWD.pt (dA (bu (bc (aR Ba T.au rfl (ae (dv 0) (da1 (aC (ae (gL T.xL) (da1 (gL T.bF))))))))) (ck (aE qy (dln bz T.bJ (dv 0)) (cL rfl T.jz))))) fR) (dr (aR pz T.yU zaF (da1 (dfc (aH ["kinds"] [none] rfl (eQ (dv 0)) (dgb 0) aG (dcl (dh T) g (ae (dv 0) (ae ai (da1 (cL rfl T.jB)))))))))))) (λds Q hl h=>?_);let(ms,rfl,j,J,h):=h;refine(sz,_,rfl,rfl,Br.f ?_);show Br (decide ((5:Int)<((ms.map D.int).length:Nat))) _ _;rw[zzo (by rw[zza];lia)];refine Br.f ?_;refine cm (λ_=>.bl true) (λc=>∃s,c=[s]) (by rw[zza];exact zzk j 'd') (λd hd c Y Z U e=>?_) _ (_,rfl) ?_
 .let(s,rfl):=U;let(p,L,rfl):=zzi.mp hd;refine Br.t (rfl,p,1,6,rfl,?_);rw[zzj (J p L).1,zzj (J p L).2];exact e _ (_,rfl)
 .exact FF _ h
inductive gIr(ds:List D)(Q:D->Prop):Prop
 |mk (n:Nat) (ms:List Int) (h:Int) (ks:List Int) (t v:Nat):ds=[rtD (h,ks,t,v),.int n,bV ms]->0 <= h/\h<n->ks.length=ms.length->ms.length <= 5->(∀p∈ks.zip ms,0 <= p.1/\p.1<p.2)->Q (.bl (decide (v <= t) && decide (t <= 1000000000000)))->gIr ds Q
theorem Ew(T:Tx K mg):T.EC.Ok P w base CX0 4 (spD K 3 gIr):=by
 refine fnd ["row","many","marks"] (λc _=>(af (dir (PWD.pt (dA (bu (bc (aR fg T.au rfl (ae (dv 0) (da1 (gL T.bF)))))) (ck (aE (gc c) (dln bz T.bJ (dv 0)) ai)))) fR) (af (dir (PWD.pt (dA (bu (bc (dcl (dh T) c (ae (dx 0) (ae ai (da1 (ak kA (dv 1) ai))))))) (ck (bu (bc (dcl (vI T) c (ae (dx 0) (a1 2)))))))) fR) (dr (eO (dcl (yJ T) c (da1 (aC (ae (dx 0) (da1 (dx 0)))))) (fH (dc ij (dx 0) (cL rfl T.rH)))))))) (λds Q hl h=>?_);let(n,ms,x,ks,t,v,rfl,d,g,j,J,h):=h;refine(rfl,rfl,Br.f ((rfl,rfl),Br.f (rfl,x,0,(n:Int)-1,rfl,?_)));rw[zzj d.1,zzj (show x<=(n:Int)-1 by lia)];refine Br.f (rfl,ks,ms,rfl,g,j,J,Br.f (sz,rfl,t,v,rfl,?_));by_cases z:v<=t
 .rw[zzj z]at h⊢;refine Br.t ?_;have e:decide ((t:Int)<=1000000000000)=decide (t<=1000000000000):=decide_eq_decide.mpr 'l';show Q (.bl (decide ((t:Int)<=1000000000000)));rw[e];exact h
 .rw[zzo z]at h⊢;exact Br.f h
inductive gAr(ds:List D)(Q:D->Prop):Prop
 |mk (n:Nat) (ms:List Int) (h:Int) (ks:List Int) (t v:Nat):ds=[.lst [rtD (h,ks,t,v)],.int n,bV ms]->0 <= h/\h<n->ks.length=ms.length->ms.length <= 5->(∀p∈ks.zip ms,0 <= p.1/\p.1<p.2)->Q (.bl (decide (v <= t) && decide (t <= 1000000000000)))->gAr ds Q
theorem yK(T:Tx K mg):T.zi.Ok P w base CX0 5 (spD K 3 gAr):=by
 refine fnd ["rows","many","marks"] (λc _=>(af (dir (PWD.pt (dA (bu (bc (aR Ba T.au rfl (ae (dv 0) (da1 (aC (ae (gL T.xL) (da1 (gL T.bF))))))))) (ck (aE qy (dln bz T.bJ (dv 0)) (cL rfl T.uu))))) fR) (dr (aR pz T.yU zaF (da1 (dfc (aH ["row","many","marks"] [none,some 1,some 2] rfl (bq (dv 0)) (dgb 0) aG (dcl (Ew T) c (a3 0 1 2))))))))) (λds Q hl h=>?_);let(n,ms,x,ks,t,v,rfl,d,g,j,J,h):=h;refine(sz,_,rfl,rfl,Br.f (Br.f (Br.t (rfl,n,ms,x,ks,t,v,rfl,d,g,j,J,by show 0<zaa;decide,?_))));show gTru (λbs=>bs.all id) [.lst ([decide (v<=t) && decide (t<=1000000000000)].map D.bl)] _;refine mD ?_;have e:[decide (v<=t) && decide (t<=1000000000000)].all id=(decide (v<=t) && decide (t<=1000000000000)):='s'
 rw[e];exact h
inductive gBo(C:Addr)(ds:List D)(Q:D->Prop)(W:Addr->Prop):Prop
 |mk (n:Nat) (ms:List Int) (h:Int) (ks:List Int) (t v:Nat):ds=[.int n,bV ms,.lst [rtD (h,ks,t,v)]]->2 <= n/\n <= 6->0 <= h/\h<n->ks.length=ms.length->ms.length <= 5->(∀x∈ms,1 <= x/\x <= 6)->(∀p∈ks.zip ms,0 <= p.1/\p.1<p.2)->(v <= t/\t <= 1000000000000->Q (.tup [.int n,bV ms,.tup ((gath n [(ks,bI n (h,ks,t,v))]).map bQ)]))/\(¬(v <= t/\t <= 1000000000000)->W C)->gBo C ds Q W
theorem yL(T:Tx K mg):T.uD.Ok P w base (CXE P w) 6 (spDE K 3 (gBo T.br)):=by
 refine fnDE T.uD.d.F yo (λL c E=>(af (dif (bu (bc (dcl (dh T) c (ae (dv 0) (ae (cL rfl T.gr) (da1 (cL rfl T.gW))))))) (az (drs T.nK T.gv L (da1 ag)))) (af (dif (bu (bc (dcl (vJ T) c (a1 1)))) (az (drs T.nK T.gv L (da1 ag)))) (af (dif (bu (bc (dcl (yK T) c (a3 2 0 1)))) (az (drs T.nK T.gv L (da1 ag)))) (af (xm (i:=3) E rfl rfl (by letI:Frm:=Frm.free;exact(aH ["row","many"] [none,some 0] rfl (bq (dv 2)) (dgb 0) aG (aC (ae (aN bN T.bF (da1 (dx 0))) (da1 (dcl (gj T) c (a2 0 1)))))))) (dr (aC (ae (dv 0) (ae (aN bN T.bF (a1 1)) (da1 (aN bN T.bF (da1 (dcl (gG T) c (a2 0 3)))))))))))))) (λds Q W hl h=>?_);let(n,ms,x,ks,t,v,rfl,J,g,C,j,u,U,o,q):=h;refine(rfl,n,2,6,rfl,?_);rw[zzj (show (2:Int)<=n by lia),zzj (show (n:Int)<=6 by lia)];refine Br.f (rfl,ms,rfl,j,u,Br.f (rfl,n,ms,x,ks,t,v,rfl,g,C,j,U,?_));by_cases z:v<=t/\t<=1000000000000
 .rw[zzj z.1,zzj z.2];have l:RtOk n (x,ks,t,v):=(g.1,g.2,by show (0:Int)<=(v:Int);lia,by show (v:Int)<=(t:Int);lia,by show (t:Int)<_;lia);refine Br.f (Br.t (rfl,(x,ks,t,v),n,rfl,l,J.2,sz,by show 0<zaa;decide,?_));refine(rfl,n,_,[(ks,bI n (x,ks,t,v))],ks.length,rfl,.inl rfl,(J.2,'s',λp B=>?_),sz,o z);rw[zzt.mp B];exact(rfl,qT l)
 .have e:(decide (v<=t) && decide (t<=1000000000000))=false:=by
   rw[<-Bool.decide_and];exact zzo z
  rw[e];exact Br.t ('s',q z)
theorem BM{d:D}(h:shp d=true){B:Prop}(q:B):Br (!eqD d d) A B:=by rw[dZ h];exact Br.f q
theorem nC(J:av Int):shp (bV J)=true:=Shp.shp (n:=2) (.tup λd hd=>by let(k,_,rfl):=zzi.mp hd;exact .int)
inductive gBes(ds:List D)(Q:D->Prop):Prop
 |mk (n:Nat) (ms:List Int) (c1 c2:List (List Int×Row)):ds=[.tup [.int n,bV ms,.tup (c1.map bQ)],.tup [.int n,bV ms,.tup (c2.map bQ)]]->n <= 6->(c1++c2).length <= 60->(∀c∈c1++c2,c.1.length=ms.length/\RowN 110 n c.2)->Q (.tup [.int n,bV ms,.tup ((gath n (c1++c2)).map bQ)])->gBes ds Q
theorem Ex(T:Tx K mg):T.EF.Ok P w base CX0 4 (spD K 2 gBes):=by
 refine fnd ["one","other"] (λl _=>(af (dif (PWD.pt (dA (aE (gc l) (dx 0) (dx 1)) (ck (aE (gc l) (dx 0) (dx 1))))) dnv) (dr (aC (ae (dx 0) (ae (dx 0) (da1 (aN bN T.bF (da1 (dcl (gG T) l (ae (dx 0) (da1 (ak ve (dx 0) (dx 1)))))))))))))) (λds Q hl h=>?_);let(n,ms,c,g,rfl,J,j,o,h):=h;refine((rfl,rfl),BM (d:=.int n) rfl ((nC ms,nC ms),BM (nC ms) ?_));have e:c.map bQ++g.map bQ=(c++g).map bQ:=by rw[zzm]
 have fin:Kd [.int n,.tup (c.map bQ++g.map bQ)] (λd=>Fg [d] λd=>([D.int n,bV ms,d].length<=zaa/\Q (.tup [.int n,bV ms,d]))):=by rw[e];exact(n,_,c++g,ms.length,rfl,.inr rfl,(J,j,o),sz,h)
 refine(?_,rfl,fin);rw[zzh]at j;rw[zza,zza];exact zzk j 'd'
noncomputable abbrev sS(x:String):Str:=zao x
def L7:av Str:=[sS "turn",sS "push",sS "gap",sS "level",sS "knots",sS "marks",sS "few"]
def L4:av Str:=[sS "turn",sS "push",sS "gap",sS "level"]
def AllM(ms:av Mk)(r:av Str):Prop:=∀x∈r,x∈ms.map (·.1)
def TwoR(T:Tx K mg)(ms:av Mk)(cT:av (av Int×Row))(w x y:Str)(r:av Str)(C:ay):Prop :=
 (x=y/\r.length<=10/\C=T.aO)∨(x≠y/\(∃m,r=[m,m])/\w∉[sS "marks",sS "few"]/\C=T.aP)∨(x≠y/\cT=[]/\r=[]/\w∈L4/\C=T.bi)∨(x≠y/\cT=[]/\r=[]/\w=sS "few" /\ C=T.bD)
inductive AnsR(T:Tx K mg)(hs:List Str)(ms:List Mk)(cT:List (List Int×Row)):List Str->Addr->Prop where
 | pn {r:List Str} (h:¬AllM ms r):AnsR T hs ms cT (sS "parts" :: r) T.aV
 | pm {m:Str} (h:AllM ms [m,m]):AnsR T hs ms cT (sS "parts" :: [m,m]) T.aP
 |tn {w x y:Str} {r:List Str} (hw:w∈L7) (h:¬(x∈hs/\y∈hs/\AllM ms r)):AnsR T hs ms cT (w::x::y::r) T.aV
 |tr {w x y:Str} {r:List Str} {C:Addr} (hw:w∈L7) (hx:x∈hs) (hy:y∈hs) (hr:AllM ms r) (h:TwoR T ms cT w x y r C):AnsR T hs ms cT (w::x::y::r) C
theorem HI{x:Str}(g:x∈ws)(j:y∈ws)(e:plc x ws=plc y ws):x=y:=by have c:=zwd (xs:=ws) (p:=λz=>decide (z=x)) (w:=zyw (x,g,'s'));have d:=zwd (xs:=ws) (p:=λz=>decide (z=y)) (w:=zyw (y,j,'s'));have e:ws.findIdx (λz=>decide (z=x))=ws.findIdx (λz=>decide (z=y)):=e;simp only[e]at c;have c:=zzX c;have d:=zzX d;exact c.symm.trans d
theorem jt{x:Str}(c:x∈ws):plc x ws<ws.length:=zyw (x,c,'s')
theorem bn{x:Str}{X:Prop}(ne:x≠y)(q:Y):Br (eqD (.str x) (.str y)) X Y:=by rw[fq,zzo ne];exact Br.f q
theorem by_{x:Str}{X:Prop}(e:x=y)(q:X):Br (eqD (.str x) (.str y)) X Y:=by rw[fq,zzj e];exact Br.t q
theorem s0(x:String)(h:zal (zao x)=true:=by decide +kernel):shp (.str (zao x))=true:=aS h
theorem Kp:∀w∈L7,w≠sS "show" /\ w≠sS "whole" /\ w≠sS "ranks" /\ w≠sS "parts" /\ zal w=true/\w≠sS "case" /\ w≠sS "hide" /\ w≠sS "back":='k'
inductive gAns(T:Tx K mg)(ds:List D)(Q:D->Prop)(W:Addr->Prop):Prop
 | mk (hs:List Str) (ms:List Mk) (cT:List (List Int×Row)) (ws:List Str):ds=[nmD hs ms,bkD hs ms cT,.lst (ws.map .str)]->BkT hs ms cT->ws.length <= 100->((ws=[sS "show"]/\Q (.str (aL hs ms cT)))∨∃C,AnsR T hs ms cT ws C/\W C)->gAns T ds Q W
theorem BN(T:Tx K mg):T.xJ.Ok P w base (CXE P w) 9 (spDE K 3 (gAns T)):=by
 refine fnDE T.xJ.d.F Bn (λJ g nd=>(af (dir (aE (cc g) (dx 2) ag) (dcl (Kg T) g (a2 0 1))) (af (dif (aE (cc g) (dx 2) ag) dnv) (af (dif (aE (cc g) (dx 2) ag) (af bx dnv)) (af (dir (aE (cc g) (dx 2) ag) (dcE (ny T) J g (ae (dv 0) (ae (dv 1) (da1 (dcE (jr T) J g (ae (dv 0) (da1 (aq (eS (dv 2) (cI ai) dF)))))))))) (af (dse 4 (dcE (cN T) J g (ae (dx 2) (da1 (dx 0))))) (af (dse 5 (dcE (cN T) J g (ae (dx 2) (da1 (dx 0))))) (af (dse 6 (dcE (jr T) J g (ae (dv 0) (da1 (aq (eS (dv 2) (cI ai) dF)))))) (af (dir (aE (cc g) (dx 2) ag) (dcE (nv T) J g (ae (dv 0) (ae (dv 1) (a3 6 4 5))))) (af (dif (aE (cc g) (dx 2) ag) (af (xo (i:=3) nd rfl rfl (N':=["marks","names"]) rfl rfl 'k' rfl (.own (.cap (j:=0) rfl (by room) rfl .nil)) 'k' (bq (dcE (tZ T) J g (a3 1 4 5)))) dnv)) (af (dir (aE (cc g) (dx 2) ag) (dcE (rn T) J g (a3 1 4 5))) (dr (dcl (oz T) g (ae (dv 0) (ae (dx 2) (ae (dcE (tY T) J g (ae (dv 1) (a3 6 4 5))) (a2 4 5))))))))))))))))) (λds Q W hl h=>?_);have(hs,ms,c,ws,rfl,o,wl,h):=h;have m5:=o.m5;have n:=o.h6;rcases h with ⟨rfl,h⟩|⟨C,h,J⟩
 .exact((s0 "show",s0 "show"),by_ rfl (rfl,hs,ms,c,_,_,rfl,o.sh,h))
 .have a:∀{r:av Str},AllM ms r->r.length<=10->SoE ms.length (plM ms r):=λ{r} g l=>(λk hk=>by
   have(x,v,rfl):=zzi.mp hk;have:=jt (g x v);rw[zza]at this;lia,by rw[zza];exact l)
  have c1:∀(w:Str)(r:av Str),cutD ((w::r).map D.str) (some 1) none=r.map D.str:=λw r=>cW D.str 1 (w::r) 's';have c3:∀(w x y:Str)(r:av Str),cutD ((w::x::y::r).map D.str) (some 3) none=r.map D.str:=λw x y r=>cW D.str 3 (w::x::y::r) 's';have N:∀m:Str,plM ms [m,m]=[(plc m (ms.map (·.1)):Int),(plc m (ms.map (·.1)):Int)]:=λm=>rfl;have L:∀{w:Str}{r:av Str}{Q:D->Prop},Q (.str w)->opt (atI ((w::r).map D.str) 0) Q:=λq=>aX 'd' rfl q;have i1:∀{w x:Str}{r:av Str}{Q:D->Prop},Q (.str x)->opt (atI ((w::x::r).map D.str) 1) Q:=λq=>aX 'd' rfl q;have i2:∀{w x y:Str}{r:av Str}{Q:D->Prop},Q (.str y)->opt (atI ((w::x::y::r).map D.str) 2) Q:=λq=>aX 'd' rfl q;cases h with
  |pn h =>
   rename_i r;refine L ((s0 "parts",s0 "show"),bn 'k' (L ((s0 "parts",s0 "whole"),bn 'k' (L ((s0 "parts",s0 "ranks"),bn 'k' (L ((s0 "parts",s0 "parts"),by_ rfl ?_)))))));exact(rfl,hs,ms,r,by rw[c1],'l',by simp at wl;lia,λz=>absurd z h,λ_=>J)
  |pm h =>
   rename_i m;refine((s0 "parts",s0 "show"),bn 'k' ((s0 "parts",s0 "whole"),bn 'k' ((s0 "parts",s0 "ranks"),bn 'k' ((s0 "parts",s0 "parts"),by_ rfl ?_))));exact(rfl,hs,ms,[m,m],by rw[c1],'l','s',λz=>(rfl,_,hs,ms,c,_,rfl,n,a h 's',(_,N m),J),λz=>absurd h z)
  |tn p h =>
   rename_i w x y r;have(s,A,Y,n4,n5,_):=Kp w p;have sw:=aS n5;refine L ((sw,s0 "show"),bn s (L ((sw,s0 "whole"),bn A (L ((sw,s0 "ranks"),bn Y (L ((sw,s0 "parts"),bn n4 ?_)))))));refine i1 (rfl,x,hs,rfl,λv=>i2 (rfl,y,hs,rfl,λH=>(rfl,hs,ms,r,by rw[c3],'l',by simp at wl;lia,λz=>absurd (v,H,z) h,λ_=>J),λ_=>J),λ_=>J)
  |tr p v H g h =>
   rename_i w x y r;have(s,A,Y,n4,n5,_):=Kp w p;have sw:=aS n5;refine L ((sw,s0 "show"),bn s (L ((sw,s0 "whole"),bn A (L ((sw,s0 "ranks"),bn Y (L ((sw,s0 "parts"),bn n4 ?_)))))));have px:=jt v;have py:=jt H;refine i1 (rfl,x,hs,rfl,λ_=>i2 (rfl,y,hs,rfl,λ_=>(rfl,hs,ms,r,by rw[c3],'l',by simp at wl;lia,λ_=>?_,λz=>absurd g z),λz=>absurd H z),λz=>absurd v z);have B:x=y↔(plc x hs:Int)=(plc y hs:Int):=(λe=>by rw[e],λe=>HI v H 'l');have rl:r.length<=10:=by
    rcases h with ⟨_,h,_⟩|⟨_,⟨m,rfl⟩,_⟩|⟨_,_,rfl,_⟩|⟨_,_,rfl,_⟩
    .exact h
    .simp
    .simp
    .simp
   have I:(0:Int)<=(plc x hs:Int)/\(plc x hs:Int)<hs.length:='l'
   have b:(0:Int)<=(plc y hs:Int)/\(plc y hs:Int)<hs.length:='l'
   refine L ((sw,s0 "knots"),?_);by_cases M:w=sS "knots"
   .refine by_ M (rfl,_,hs,ms,c,_,_,_,rfl,(_,rfl),a g rl,I,b,?_);rcases h with ⟨e,_,rfl⟩|⟨ne,⟨m,rfl⟩,_,rfl⟩|⟨_,_,_,z,_⟩|⟨_,_,_,z,_⟩
    .exact .inl (B.mp e,J)
    .exact .inr (λz=>ne (B.mpr z),(_,N m),J)
    .rw[M]at z;exact absurd z 'k'
    .rw[M]at z;exact absurd z 'k'
   refine bn M (L ((sw,s0 "marks"),?_));by_cases E:w=sS "marks"
   .rcases h with ⟨e,_,rfl⟩|⟨ne,_,z,_⟩|⟨_,_,_,z,_⟩|⟨_,_,_,z,_⟩
    .subst e;exact by_ E (rfl,hs,ms,c,_,[],rfl,rfl,I,J)
    .exact absurd (by rw[E];simp) z
    .rw[E]at z;exact absurd z 'k'
    .rw[E]at z;exact absurd z 'k'
   refine bn E (L ((sw,s0 "few"),?_));by_cases G:w=sS "few"
   .refine by_ G (rfl,hs,ms,c,_,_,rfl,n,I,b,?_);rcases h with ⟨e,_,rfl⟩|⟨ne,_,z,_⟩|⟨_,_,_,z,_⟩|⟨ne,ce,_,_,rfl⟩
    .exact .inl (B.mp e,J)
    .exact absurd (by rw[G];simp) z
    .rw[G]at z;exact absurd z 'k'
    .exact .inr (λz=>ne (B.mpr z),ce,J)
   refine bn G (L (rfl,hs,ms,c,_,_,_,rfl,n,a g rl,I,b,?_));rcases h with ⟨e,_,rfl⟩|⟨ne,⟨m,rfl⟩,_,rfl⟩|⟨ne,ce,rfl,_,rfl⟩|⟨_,_,_,z,_⟩
   .exact .inl (B.mp e,J)
   .exact .inr (.inl (λz=>ne (B.mpr z),(_,N m),J))
   .exact .inr (.inr (λz=>ne (B.mpr z),zxU,ce,J))
   .exact absurd z G
noncomputable abbrev vK(C a:ay)(nm bk:D)(db:av D):O:=.ins a C ["names","book","past"] [.val nm,.val bk,.lst (db.map .val)]
inductive gChg(C:Addr)(S:O)(ds:List D)(Q:D->O->Prop)(x3:Addr->O->Prop):Prop
 | mk a nm bk db nm' bk':S=vK C a nm bk db->ds=[nm',bk']->db.length <= 10->Q (.str (sS "ok")) (vK C a nm' bk' (db++[.tup [nm,bk]]))->gChg C S ds Q x3
theorem oA(T:Tx K mg):FnOk P w K mg base (CXE P w) 1 T.fA T.fB.fd ["self","names","book"] (spDM K 3 (gChg T.bh)):=by refine fnDM T.fB.F om (λhW hr _=>(af (Hn (K:=K) rfl (pv 0) (pv 0) (pv 0)) (af (jS (K:=K) rfl (pv 0) (dv 1)) (af (jS (K:=K) rfl (pv 0) (dv 2)) (dr ag))))) (λS ds Q W hl hi h=>?_);let(a,nm,bk,db,nm',bk',rfl,rfl,pl,h):=h;refine(a,T.bh,_,_,2,0,1,db,nm,bk,rfl,T.aJ,(T.eu,T.aF,T.aY),(rfl,rfl),(rfl,rfl),(rfl,rfl),zzE pl 'd',?_);exact(a,_,_,_,rfl,T.aJ,T.aF,by show 3<1000;decide,a,_,_,_,rfl,T.aJ,T.aY,by show 3<1000;decide,_,rfl,rfl,h)
inductive gTkb(C CB:Addr)(S:O)(ds:List D)(Q:D->O->Prop)(W:Addr->O->Prop):Prop
 | mk a nm bk db:S=vK C a nm bk db->ds=[]->db.length <= 10->((db=[]/\W CB S)∨∃p nm' bk',db=p++[.tup [nm',bk']]/\Q (.str (sS "ok")) (vK C a nm' bk' p))->gTkb C CB S ds Q W
theorem kg(T:Tx K mg):FnOk P w K mg base (CXE P w) 1 T.dJ T.dI.fd ["self"] (spDM K 1 (gTkb T.bh T.bC)):=by
 refine fnDM T.dI.F jU (λJ e g=>(af (dif (aE (cc e) (Hr (K:=K) rfl (pv 0) rfl T.bJ) ai) (az (drs T.Cf T.nN J (da1 ag)))) (af (Hq (K:=K) (j:=1) rfl (pv 0) g rfl (by room)) (af (jS (K:=K) rfl (pv 0) (dx 1)) (af (jS (K:=K) rfl (pv 0) (dx 1)) (dr ag)))))) (λS ds Q W hl hi h=>?_);let(a,nm,bk,db,rfl,rfl,pl,h):=h;refine(_,_,_,_,_,db,rfl,T.aJ,T.eu,rfl,rfl,(rfl,rfl),?_);rw[cJ];rcases h with ⟨rfl,h⟩|⟨p,d,c,rfl,h⟩
 .exact Br.t ('s',_,rfl,rfl,h)
 .rw[zzo (by simp;lia)];exact Br.f (a,T.bh,_,_,2,p,.tup [d,c],rfl,T.aJ,T.eu,rfl,rfl,a,_,_,_,rfl,T.aJ,T.aF,by show 3<1000;decide,a,_,_,_,rfl,T.aJ,T.aY,by show 3<1000;decide,_,rfl,rfl,h)
inductive gIni(C:Addr)(S:O)(ds:List D)(Q:D->O->Prop)(x3:Addr->O->Prop):Prop
 |mk a d:S=.ins a C [] []->ds=[d]->(gRead [d] λr=>∃d1 d2,r=.tup [d1,d2]/\Q .non (vK C a d1 d2 []))->gIni C S ds Q x3
theorem uc(T:Tx K mg):FnOk P w K mg base (CXE P w) 6 T.fE T.dm.fd ["self","text"] (spDM K 2 (gIni T.bh)):=by refine fnDM T.dm.F kG (λhW c _=>(af (dse 2 (dcl (FC T) c (a1 1))) (af (jS (K:=K) rfl (pv 0) (dx 2)) (af (jS (K:=K) rfl (pv 0) (dx 2)) (az (DZ (K:=K) rfl (pv 0) (aK fJ))))))) (λS ds Q W hl hi h=>?_);let(a,d,rfl,rfl,J):=h;refine(rfl,Hy _ _ _ (λr ⟨d1,d2,e,h⟩=>?_) J);subst e;exact(a,_,_,_,rfl,T.aJ,T.aF,by show 0<1000;decide,a,_,_,_,rfl,T.aJ,T.aY,by show 1<1000;decide,sz,a,_,_,_,rfl,T.aJ,T.eu,by show 2<1000;decide,_,rfl,rfl,h)
abbrev putC(hs:av Str)(ms:av Mk)(cT:av (av Int×Row))(hn:Str)(kw:av Str)(t v:Nat):av (av Int×Row):=gath hs.length (cT++gath hs.length [(kpl kw ms,bI hs.length (plc hn hs,kpl kw ms,t,v))])
abbrev dkO(T:Tx K mg)(a:ay)(hs:av Str)(ms:av Mk)(cT:av (av Int×Row))(db:av D):O:=vK T.bh a (nmD hs ms) (bkD hs ms cT) db
inductive CaseR(T:Tx K mg)(hs:List Str)(ms:List Mk):List Str->Addr->Prop where
 |ln {ws:List Str} (h:ws.length≠4+ms.length):CaseR T hs ms ws T.aZ
 |nu {c0 hn:Str} {kw:List Str} {a b:Str} (l:kw.length=ms.length) (h:¬(cD a=true/\cD b=true)):CaseR T hs ms (c0::hn::kw++[a,b]) T.aZ
 |nm {c0 hn:Str} {kw:List Str} {a b:Str} (l:kw.length=ms.length) (na:cD a=true) (nb:cD b=true) (h:¬CoOk hs ms hn kw):CaseR T hs ms (c0::hn::kw++[a,b]) T.aV
 |bk {c0 hn:Str} {kw:List Str} {a b:Str} {t v:Nat} (l:kw.length=ms.length) (na:cD a=true) (nb:cD b=true) (o:CoOk hs ms hn kw) (ta:intText? a\(t:Int)) (tb:intText? b\(v:Int)) (h:¬(v <= t/\t <= 1000000000000)):CaseR T hs ms (c0::hn::kw++[a,b]) T.br
inductive gPut(T:Tx K mg)(S:O)(ds:List D)(Q:D->O->Prop)(W:Addr->O->Prop):Prop
 | mk a hs ms cT db ws:S=dkO T a hs ms cT db->ds=[.lst (ws.map .str)]->BkT hs ms cT->cT.length <= 10->db.length <= 10->(∀x∈ws,TxOk x)->ws.length <= 100->((∃C,CaseR T hs ms ws C/\W C S)∨∃(c0 hn:Str)(kw:List Str)(x y:Str)(t v:Nat),ws=c0::hn::kw++[x,y]/\kw.length=ms.length/\cD x=true/\cD y=true/\CoOk hs ms hn kw/\intText? x\(t:Int)/\intText? y\(v:Int)/\(v <= t/\t <= 1000000000000) /\
  Q (.str (sS "ok")) (dkO T a hs ms (putC hs ms cT hn kw t v) (db++[.tup [nmD hs ms,bkD hs ms cT]])))->gPut T S ds Q W
theorem kY(T:Tx K mg):FnOk P w K mg base (CXE P w) 7 T.dW T.dX.fd ["self","words"] (spDM K 2 (gPut T)):=by
 refine fnDM T.dX.F kW (λM G _=>(af (dse 2 (dcE (yI T) M G (ae (dR (K:=K) rfl (pv 0)) (a1 1)))) (af (dse 3 (dcl (Ex T) G (ae (dR (K:=K) rfl (pv 0)) (da1 (dcE (yL T) M G (ae (dix (dR (K:=K) rfl (pv 0)) ai) (ae (dix (dR (K:=K) rfl (pv 0)) ai) (da1 (aq (aK (a1 2))))))))))) (dr (dO (oA T) eF M (G.mono 'd') T.aJ T.oH T.fB.b (pv 0) (ae (dR (K:=K) rfl (pv 0)) (a1 3))))))) (λS ds Q W hl hi h=>?_);let(a,hs,ms,d,db,ws,rfl,rfl,o,c9,pl,ho,wl,h):=h;have m5:=o.m5;have em:(ms.map λm=>D.int m.2.length)=(ms.map λm=>(m.2.length:Int)).map D.int:=by rw[zzv];rfl
 have E:∀cs:av (av Int×Row),bkD hs ms cs=.tup [.int hs.length,bV (ms.map λm=>(m.2.length:Int)),.tup (cs.map bQ)]:=λcs=>by unfold bkD;rw[em];rfl
 have kl:∀{e:av Str},e.length=ms.length->(kpl e ms).length=(ms.map λm=>(m.2.length:Int)).length:=λ{e} l=>by unfold kpl;rw[zza,zyo,zza];omega
 have kb:∀{e:av Str}{g:Str},CoOk hs ms g e->∀p∈(kpl e ms).zip (ms.map λm=>(m.2.length:Int)),0<=p.1/\p.1<p.2:=λ{e g} co p N=>by let(i,hi):=zyn.mp N;let(n,q2):=zzU.mp hi;unfold kpl at n;rw[zzz]at n q2;let(m,j,q):=zyi.mp q2;let(z,Y,e4):=zyi.mp n;have:=co.kk z (zzK Y);let(e5,e6):=zzU.mp Y;rw[j]at e6;cases e6;have:=jt this;rw[<-q,<-e4];omega
 have A:∀{g:Str}{e:av Str}{t v:Nat}{I:D->Prop}{W':ay->Prop},e.length=ms.length->CoOk hs ms g e->(v<=t/\t<=1000000000000->I (bkD hs ms (gath hs.length [(kpl e ms,bI hs.length (plc g hs,kpl e ms,t,v))])))->(¬(v<=t/\t<=1000000000000)->W' T.br) ->
   gBo T.br [.int hs.length,.tup (ms.map λm=>.int m.2.length),.lst [rtD (plc g hs,kpl e ms,t,v)]] I W':=λ{g e t v I W'} l co h1 h2=>by
  have:=jt co.hh;refine(hs.length,ms.map λm=>(m.2.length:Int),plc g hs,kpl e ms,t,v,by rw[em];rfl,(o.h2,o.h6),'o',kl l,by rw[zza];exact m5,λx k=>?_,kb co,λz=>?_,h2)
  .let(m,hm,rfl):=zzi.mp k;have:=o.mn m hm;omega
  .rw[<-E];exact h1 z
 refine(a,T.bh,_,_,0,nmD hs ms,rfl,T.aJ,T.aF,rfl,rfl,rfl,hs,ms,ws,rfl,ho,'l',m5,?_);rcases h with ⟨C,h,H⟩|⟨c0,g,e,x,y,t,v,rfl,l,u,B,co,r,s,tv,h⟩
 .cases h with
  |ln h=>exact .inl (h,_,rfl,rfl,H)|nu l h=>exact .inr (_,_,_,_,_,rfl,l,.inl (h,_,rfl,rfl,H))|nm l u B h=>exact .inr (_,_,_,_,_,rfl,l,.inr (u,B,.inl (h,_,rfl,rfl,H)))|bk l u B co r s h =>
   refine .inr (_,_,_,_,_,rfl,l,.inr (u,B,.inr (co,λt' v' J L=>?_)));rw[r]at J;rw[s]at L;have j:=zvt (zzP J);have q:=zvt (zzP L);subst j q;refine(a,T.bh,_,_,1,bkD hs ms d,rfl,T.aJ,T.aY,rfl,rfl,a,T.bh,_,_,1,bkD hs ms d,rfl,T.aJ,T.aY,rfl,rfl,a,T.bh,_,_,1,bkD hs ms d,rfl,T.aJ,T.aY,rfl,rfl,sz,rfl,?_);exact A l co (λz=>absurd z h) λ_=>(_,rfl,rfl,H)
 .refine .inr (_,_,_,_,_,rfl,l,.inr (u,B,.inr (co,λt' v' J L=>?_)));rw[r]at J;rw[s]at L;have j:=zvt (zzP J);have q:=zvt (zzP L);subst j q;refine(a,T.bh,_,_,1,bkD hs ms d,rfl,T.aJ,T.aY,rfl,rfl,a,T.bh,_,_,1,bkD hs ms d,rfl,T.aJ,T.aY,rfl,rfl,a,T.bh,_,_,1,bkD hs ms d,rfl,T.aJ,T.aY,rfl,rfl,sz,rfl,?_);have:=jt co.hh;have ro:RtOk hs.length (plc g hs,kpl e ms,t,v):=(by show (0:Int)<=(plc g hs:Nat);lia,by show ((plc g hs:Nat):Int)<_;lia,by show (0:Int)<=(v:Int);lia,by show (v:Int)<=(t:Int);lia,by show (t:Int)<_;lia);have g1:bR hs.length [(kpl e ms,bI hs.length (plc g hs,kpl e ms,t,v))]=[(kpl e ms,bI hs.length (plc g hs,kpl e ms,t,v))]:=jZ 's' (λp N=>by rw[zzt.mp N];exact(qT ro).1);refine A l co (λz=>(rfl,hs.length,ms.map λm=>(m.2.length:Int),d,_,by rw[E,E],o.h6,?_,?_,?_)) λz=>absurd tv z
  .have:=zxg (λc=>kH c.2) (bR hs.length [(kpl e ms,bI hs.length (plc g hs,kpl e ms,t,v))]);rw[g1]at this;rw[zzh];show d.length+(List.filter _ (bR _ _)).length<=60;rw[g1];simp at this⊢;lia
  .intro c U;rcases zzg.mp U with U|U
   .let(k1,k2,_):=o.kl c U;exact(by rw[zza];exact k1,k2.1,λx k=>(k2.2 x k).mono 'd')
   .have U:c∈bR hs.length [(kpl e ms,bI hs.length (plc g hs,kpl e ms,t,v))]:=(zzM.mp U).1;rw[g1]at U;rw[zzt.mp U];exact(kl l,qT ro)
  .rw[<-E];exact(a,_,_,rfl,'k',a,T.bh,_,_,0,nmD hs ms,rfl,T.aJ,T.aF,rfl,rfl,_,rfl,(a,rfl),rfl,a,_,_,db,_,_,rfl,rfl,pl,_,rfl,rfl,h)
inductive HideR(T:Tx K mg)(hs:List Str)(ms:List Mk):List Str->Addr->Prop where
 | nh {x y n:Str} {ks:List Str} (h:¬(x∈hs/\y∈hs)):HideR T hs ms (sS "hide" :: x::y::n::ks) T.aV
 | nn {x y n:Str} {ks:List Str} (hx:x∈hs) (hy:y∈hs) (h:¬(isNm n=true/\n∉ms.map (·.1)/\nmsB ks=true)):HideR T hs ms (sS "hide" :: x::y::n::ks) T.aV
 | ho {x n:Str} {ks:List Str} (hx:x∈hs) (h1:isNm n=true) (h2:n∉ms.map (·.1)) (h3:nmsB ks=true):HideR T hs ms (sS "hide" :: x::x::n::ks) T.aO
inductive gHid(T:Tx K mg)(S:O)(ds:List D)(x2:D->O->Prop)(W:Addr->O->Prop):Prop
 |mk a hs ms cT db ws:S=dkO T a hs ms cT db->ds=[.lst (ws.map .str)]->BkT hs ms cT->(∀x∈ws,TxOk x)->ws.length <= 100->(∃C,HideR T hs ms ws C/\W C S)->gHid T S ds x2 W
theorem uf(T:Tx K mg):FnOk P w K mg base (CXE P w) 6 T.iG T.iF.fd ["self","words"] (spDM K 2 (gHid T)):=by
 refine fnDM T.iF.F tK (λJ e _=>(af (dse 2 (dcE (cN T) J e (ae (dx 1) (da1 (dix (dR (K:=K) rfl (pv 0)) ai))))) (af (dse 3 (dcE (cN T) J e (ae (dx 1) (da1 (dix (dR (K:=K) rfl (pv 0)) ai))))) (af (dse 4 (aq (eS (dv 1) (cI ai) dF))) (af (dif (PWD.pt (dA (bu (bc (dcl (mX T) e (da1 (dx 1))))) (dA (aE LC (dx 1) (dcl (jq T) e (da1 (dR (K:=K) rfl (pv 0)))) rfl) (ck (bu (bc (dcl (iu T) e (a1 4)))))))) (az (drs T.uy T.jw J (da1 ag)))) (af (dse 5 (dcE (BK T) J e (ae (dR (K:=K) rfl (pv 0)) (ae (dv 2) (ae (dv 3) (da1 (dln bz T.bJ (dv 4)))))))) (af bx dnv))))))) (λS ds Q W hl hi h=>?_);let(a,hs,ms,c,db,ws,rfl,rfl,o,ho,E,C,h,g):=h;have m5:=o.m5;have u:∀{w x:Str}{r:av Str}{Q:D->Prop},Q (.str x)->opt (atI ((w::x::r).map D.str) 1) Q:=λq=>aX 'd' rfl q;have i2:∀{w x y:Str}{r:av Str}{Q:D->Prop},Q (.str y)->opt (atI ((w::x::y::r).map D.str) 2) Q:=λq=>aX 'd' rfl q;have L:∀{w x y z:Str}{r:av Str}{Q:D->Prop},Q (.str z)->opt (atI ((w::x::y::z::r).map D.str) 3) Q:=λq=>aX 'd' rfl q;have B:∀(w x y z:Str)(r:av Str),cutD ((w::x::y::z::r).map D.str) (some 4) none=r.map D.str:=λw x y z r=>cW D.str 4 (w::x::y::z::r) 's';cases h with
 |nh h =>
  rename_i x y n ks;refine u (a,T.bh,_,_,0,nmD hs ms,rfl,T.aJ,T.aF,rfl,rfl,rfl,x,hs,rfl,λd=>i2 (a,T.bh,_,_,0,nmD hs ms,rfl,T.aJ,T.aF,rfl,rfl,rfl,y,hs,rfl,λl=>absurd (d,l) h,λ_=>(_,rfl,rfl,g)),λ_=>(_,rfl,rfl,g))
 |nn d l h =>
  rename_i x y n ks;refine u (a,T.bh,_,_,0,nmD hs ms,rfl,T.aJ,T.aF,rfl,rfl,rfl,x,hs,rfl,λ_=>i2 (a,T.bh,_,_,0,nmD hs ms,rfl,T.aJ,T.aF,rfl,rfl,rfl,y,hs,rfl,λ_=>?_,λz=>absurd l z),λz=>absurd d z);have v:ks.length<=1000:=by simp at E;lia
  have U:∀x∈ks,x.length<=100000:=λx d=>(ho x (by simp[d])).le;refine L (rfl,n,rfl,(ho n 's').le,?_);cases G:isNm n with
  |false=>exact Br.t (Br.t ('s',_,rfl,rfl,g))|true =>
  refine Br.f (L (a,T.bh,_,_,0,nmD hs ms,rfl,T.aJ,T.aF,rfl,rfl,rfl,hs,ms,rfl,'l',(rfl,cK _),?_));rw[iw];by_cases j:n∈ms.map (·.1)
  .rw[zzj j];exact Br.t (Br.t ('s',_,rfl,rfl,g))
  rw[zzo j];refine Br.f (rfl,ks,by rw[B],v,U,?_);cases H:nmsB ks with
  |false=>exact Br.t ('s',_,rfl,rfl,g)|true=>exact absurd (G,j,H) h
 |ho d I M N =>
  rename_i x n ks;refine u (a,T.bh,_,_,0,nmD hs ms,rfl,T.aJ,T.aF,rfl,rfl,rfl,x,hs,rfl,λ_=>i2 (a,T.bh,_,_,0,nmD hs ms,rfl,T.aJ,T.aF,rfl,rfl,rfl,x,hs,rfl,λ_=>?_,λz=>absurd d z),λz=>absurd d z);have v:ks.length<=1000:=by simp at E;lia
  have U:∀x∈ks,x.length<=100000:=λx d=>(ho x (by simp[d])).le;refine L (rfl,n,rfl,(ho n 's').le,?_);rw[I];refine Br.f (L (a,T.bh,_,_,0,nmD hs ms,rfl,T.aJ,T.aF,rfl,rfl,rfl,hs,ms,rfl,'l',(rfl,cK _),?_));rw[iw,zzo M];refine Br.f (rfl,ks,by rw[B],v,U,?_);rw[N];have:=jt d;exact Br.f (a,T.bh,_,_,1,bkD hs ms c,rfl,T.aJ,T.aY,rfl,rfl,rfl,hs,ms,c,(plc x hs:Int),_,rfl,(_,rfl),'l',_,rfl,rfl,g)
open PyProof.Rows.KTD in
noncomputable def lnB(lo:Int)(hi:aT Int)(n:Nat):Bool:=decide (lo<=n) && match hi with|none=>true|some h=>decide ((n:Int)<=h)
noncomputable def hiD(hi:aT Int):zdE:=match hi with|none=>.none|some h=>.int h
open PyProof.Rows.KTD in
def gHrl:DSp:=λc Q=>∃(x:Str)(r:av Str)(lo:Int)(hi:aT Int),c=[.lst ((x::r).map .str)]/\inKeys x bU=true/\datumAt x bU\(.tup [.int lo,hiD hi])/\Q (.bl (lnB lo hi (r.length+1)))
theorem ju(T:Tx K mg):T.jA.Ok P w base CX0 1 (spD K 1 gHrl):=by
 refine fnd ["words","bounds"] (λhr _=>(af (dse 1 (DU (K:=K) (base:=base) rfl rfl rfl T.pQ (dx 0) (λ_ _=>rfl))) (dr (eO (dc ij (Be (base:=base) rfl (dv 1) ai (λ_ _=>rfl)) (dln bz T.bJ (dv 0))) (fH (Jf (dc AG (Be (base:=base) rfl (dv 1) ai (λ_ _=>rfl)) fG) (fH (dc ij (dln bz T.bJ (dv 0)) (Be (base:=base) rfl (dv 1) ai (λ_ _=>rfl)))))))))) (λds Q hl h=>?_);have(x,r,lo,hi,rfl,ik,e,h):=h;refine aX (d:=.str x) (r:=0) 'd' rfl (_,_,_,rfl,T.cQ,ik,e,'s',λt c=>?_);have J:((((x::r).map D.str).length:Nat):Int)=((r.length+1:Nat):Int):=by rw[zza];rfl
 refine(_,.int lo,_,c,rfl,rfl,?_);unfold lnB at h;by_cases z:lo<=((r.length+1:Nat):Int)
 .rw[zzj z]at h;refine Br.dt (by rw[J];exact z) ?_;cases hi with
  |none=>exact(_,.none,_,c,rfl,rfl,Br.t h)|some k =>
   refine(_,.int k,_,c,rfl,rfl,Br.f (_,.int k,_,c,rfl,rfl,?_));rw[J];exact h
 .rw[zzo z]at h;show Br (decide (lo<=((((x::r).map D.str).length:Nat):Int))) _ _;rw[J,zzo z];exact Br.f h
open PyProof.Rows.KTD in
structure KyR(x:Str)(n:Nat)(b:Bool):Prop where
 nc:x≠sS "case"
 ok:zal x=true
 ex:∃lo hi,inKeys x bU=true/\datumAt x bU\(.tup [.int lo,hiD hi])/\lnB lo hi n=b
open PyProof.Rows.KTD in
inductive RowR(T:Tx K mg)(hs:List Str)(ms:List Mk)(cT:List (List Int×Row))(db:List D):List Str->Addr->Prop where
 | cs {r:List Str} {C:Addr} (h:CaseR T hs ms (sS "case" :: r) C):RowR T hs ms cT db (sS "case" :: r) C
 | kn {x:Str} {r:List Str} (nc:x≠sS "case") (ok:zal x=true) (h:inKeys x bU=false):RowR T hs ms cT db (x::r) T.aZ
 |ln {x:Str} {r:List Str} (h:KyR x (r.length+1) false):RowR T hs ms cT db (x::r) T.aZ
 | hd {r:List Str} {C:Addr} (k:KyR (sS "hide") (r.length+1) true) (h:HideR T hs ms (sS "hide" :: r) C):RowR T hs ms cT db (sS "hide" :: r) C
 | bk (h:db=[]):RowR T hs ms cT db [sS "back"] T.bC
 | an {x:Str} {r:List Str} {C:Addr} (k:KyR x (r.length+1) true) (nh:x≠sS "hide") (nb:x≠sS "back") (h:AnsR T hs ms cT (x::r) C):RowR T hs ms cT db (x::r) C
structure Sp(z:Str)(ws:List Str):Prop where
 sp:zab z spS=ws
 le:z.length <= 100000
 ok:∀x∈ws,TxOk x
 wl:ws.length <= 100
inductive gSay(T:Tx K mg)(S:O)(ds:List D)(Q:D->O->Prop)(W:Addr->O->Prop):Prop
 | mk a hs ms cT db d:S=dkO T a hs ms cT db->ds=[d]->BkT hs ms cT->cT.length <= 10->db.length <= 10->((mi d=true/\kC d=false/\W T.aZ S)∨∃z ws,d=.str z/\Sp z ws /\
  ((∃C,RowR T hs ms cT db ws C/\W C S)∨(ws=[sS "show"]/\Q (.str (aL hs ms cT)) S)∨(ws=[sS "back"]/\∃p nm' bk',db=p++[.tup [nm',bk']]/\Q (.str (sS "ok")) (vK T.bh a nm' bk' p)) ∨
   ∃(hn:Str)(kw:List Str)(x y:Str)(t v:Nat),ws=sS "case" :: hn::kw++[x,y]/\kw.length=ms.length/\cD x=true/\cD y=true/\CoOk hs ms hn kw/\intText? x\(t:Int)/\intText? y\(v:Int)/\(v <= t/\t <= 1000000000000) /\
    Q (.str (sS "ok")) (dkO T a hs ms (putC hs ms cT hn kw t v) (db++[.tup [nmD hs ms,bkD hs ms cT]]))))->gSay T S ds Q W
theorem key_of(x:String)(n:Nat)(b:Bool)(lo:Int)(hi:aT Int)(nc:sS x≠sS "case":=by decide +kernel)(ok:zal (sS x)=true:=by decide +kernel)(J:zaH (sS x) bU\(.tup [.int lo,hiD hi]):=by rfl)(h:lnB lo hi n=b):KyR (sS x) n b :=
 (nc,ok,lo,hi,by rw[<-zdR,J];rfl,J,h)
theorem dj(T:Tx K mg):FnOk P w K mg base (CXE P w) 10 T.kj T.cP.fd ["self","row"] (spDM K 2 (gSay T)):=by
 refine fnDM T.cP.F vp (λB u _=>(af (dif (bu (bc (aR mj T.au rfl (ae (dv 1) (da1 (gL T.yR)))))) (az (drs T.rM T.jv B (da1 ag)))) (af (dse 2 (aq (gF (dv 1) ag))) (af (dir (aE (cc u) (dx 2) ag) (dO (kY T) eF B (u.mono 'd') T.aJ T.lg T.dX.b (pv 0) (a1 2))) (af (dif (PWD.pt (dA (aE (vh (K:=K) rfl) (dx 2) (bP T.pQ) rfl) (ck (bu (bc (dcl (ju T) u (a1 2))))))) (az (drs T.rM T.jv B (da1 ag)))) (af (dir (aE (cc u) (dx 2) ag) (dO (uf T) eF B (u.mono 'd') T.aJ T.uA T.iF.b (pv 0) (a1 2))) (af (dir (aE (cc u) (dx 2) ag) (Bf (kg T) eF B (u.mono 'd') T.aJ T.km T.dI.b (pv 0))) (dr (dcE (BN T) B u (ae (dR (K:=K) rfl (pv 0)) (ae (dR (K:=K) rfl (pv 0)) (a1 2)))))))))))) (λS ds Q W hl hi h=>?_);let(a,hs,ms,c,db,d,rfl,rfl,o,N,pl,h):=h;rcases h with ⟨i,ns,h⟩|⟨z,ws,rfl,sp,h⟩
 .refine(rfl,i,?_);rw[ns];exact Br.t ('s',_,rfl,rfl,h)
 .have U:∀{w:Str}{r:av Str}{Q:D->Prop},Q (.str w)->opt (atI ((w::r).map D.str) 0) Q:=λq=>aX 'd' rfl q;refine(rfl,rfl,Br.f (_,rfl,spS,(rfl,'k',z_sp sp.le),?_));rw[sp.sp];have ok:=sp.ok;have G:=sp.wl;have L:shp (.str (sS "case"))=true:=s0 "case";rcases h with ⟨C,h,E⟩|⟨rfl,h⟩|⟨rfl,p,M,H,rfl,h⟩|⟨m,n,x,y,t,v,rfl,l,s,I,co,A,Y,tv,h⟩
  .cases h with
   |cs h =>
    rename_i r;exact U ((L,L),by_ rfl (a,_,_,rfl,'k',_,rfl,(a,rfl),rfl,a,hs,ms,c,db,_,rfl,rfl,o,N,pl,ok,G,.inl (C,h,_,rfl,rfl,E)))
   |kn nc g h =>
    rename_i x r;refine U ((aS g,L),bn nc (U (_,T.cQ,?_)));rw[h];exact Br.t (Br.t ('s',_,rfl,rfl,E))
   |ln h =>
    rename_i x r;let(nc,g,lo,J,ik,j,e):=h;refine U ((aS g,L),bn nc (U (_,T.cQ,?_)));rw[ik];refine Br.f (rfl,x,r,lo,J,rfl,ik,j,?_);rw[e];exact Br.t ('s',_,rfl,rfl,E)
   |hd k h =>
    rename_i r;let(nc,g,lo,J,ik,j,e):=k;refine U ((aS g,L),bn nc (U (_,T.cQ,?_)));rw[ik];refine Br.f (rfl,_,r,lo,J,rfl,ik,j,?_);rw[e];exact Br.f (U ((aS g,s0 "hide"),by_ rfl (a,_,_,rfl,'k',_,rfl,(a,rfl),rfl,a,hs,ms,c,db,_,rfl,rfl,o,ok,G,C,h,_,rfl,rfl,E)))
   |bk h =>
    let(nc,g,lo,J,ik,j,e):=key_of "back" 1 true 1 (some 1) (h:=rfl);refine((aS g,L),bn nc (_,T.cQ,?_));rw[ik];refine Br.f (rfl,_,[],lo,J,rfl,ik,j,?_);rw[show lnB lo J (([]:av Str).length+1)=true from e];exact Br.f ((aS g,s0 "hide"),bn 'k' ((aS g,s0 "back"),by_ rfl (a,_,_,rfl,'k',_,rfl,(a,rfl),rfl,a,_,_,db,rfl,rfl,pl,.inl (h,_,rfl,rfl,E))))
   |an k nh I h =>
    rename_i x r;let(nc,g,lo,J,ik,j,e):=k;refine U ((aS g,L),bn nc (U (_,T.cQ,?_)));rw[ik];refine Br.f (rfl,x,r,lo,J,rfl,ik,j,?_);rw[e];exact Br.f (U ((aS g,s0 "hide"),bn nh (U ((aS g,s0 "back"),bn I (a,T.bh,_,_,0,nmD hs ms,rfl,T.aJ,T.aF,rfl,rfl,a,T.bh,_,_,1,bkD hs ms c,rfl,T.aJ,T.aY,rfl,rfl,rfl,hs,ms,c,_,rfl,o,G,.inr (C,h,_,rfl,rfl,E))))))
  .let(nc,g,lo,J,ik,j,e):=key_of "show" 1 true 1 (some 1) (h:=rfl);refine((aS g,L),bn nc (_,T.cQ,?_));rw[ik];refine Br.f (rfl,_,[],lo,J,rfl,ik,j,?_);rw[show lnB lo J (([]:av Str).length+1)=true from e];exact Br.f ((aS g,s0 "hide"),bn 'k' ((aS g,s0 "back"),bn 'k' (a,T.bh,_,_,0,nmD hs ms,rfl,T.aJ,T.aF,rfl,rfl,a,T.bh,_,_,1,bkD hs ms c,rfl,T.aJ,T.aY,rfl,rfl,rfl,hs,ms,c,[sS "show"],rfl,o,G,.inl (rfl,_,rfl,rfl,h))))
  .let(nc,g,lo,J,ik,j,e):=key_of "back" 1 true 1 (some 1) (h:=rfl);refine((aS g,L),bn nc (_,T.cQ,?_));rw[ik];refine Br.f (rfl,_,[],lo,J,rfl,ik,j,?_);rw[show lnB lo J (([]:av Str).length+1)=true from e];exact Br.f ((aS g,s0 "hide"),bn 'k' ((aS g,s0 "back"),by_ rfl (a,_,_,rfl,'k',_,rfl,(a,rfl),rfl,a,_,_,_,rfl,rfl,pl,.inr (p,M,H,rfl,_,rfl,rfl,h))))
  .exact U ((L,L),by_ rfl (a,_,_,rfl,'k',_,rfl,(a,rfl),rfl,a,hs,ms,c,db,_,rfl,rfl,o,N,pl,ok,G,.inr (_,m,n,x,y,t,v,rfl,l,s,I,co,A,Y,tv,_,rfl,rfl,h)))
noncomputable def Cw(T:Tx K mg):av (ay×String):=[(T.aO,"house"),(T.bi,"table"),(T.aP,"mark"),(T.bD,"lead"),(T.aZ,"row"),(T.aV,"name"),(T.br,"book"),(T.bC,"back")]
def gRfl(T:Tx K mg):DSp:=λc Q=>(c=[.non]/\Q (.str (sS "none")))∨∃p∈Cw T,c=[.exc p.1]/\Q (.str (sS p.2))
def KX(T:Tx K mg)(C:ay)(i:Nat):Prop:=(zak ([T.aO,T.bi,T.bS,T.aP,T.bD,T.aZ,T.aV,T.br,T.bC].map λy=>zaz K (.ref C) (.ref y)) (zak (zaV K (.ref C) [.ref T.cq,.ref T.cr,.ref T.aD,.ref T.bE]) (zak (zaz K (.ref C) (.type "ValueError")) (zar K (.ref C) (.ref T.bH)))))=(zak ([0,1,2,3,4,5,6,7,8].map λj=>some (decide (j=i))) (zak (some false) (zak (some true) (some true))))
structure Rc(T:Tx K mg)(C:Addr)(wd:String):Prop where
 ek:ExK K C
 ix:∃i:Nat,KX T C i/\i∈[0,1,3,4,5,6,7,8]/\["house","table","great","mark","lead","row","name","book","back","other"][i]? = some wd
theorem FG(T:Tx K mg):∀p∈Cw T,Rc T p.1 p.2:=by
 intro p J;simp only[Cw,zze,zyb,zxa]at J;rcases J with rfl|rfl|rfl|rfl|rfl|rfl|rfl|rfl
 .exact(T.zf,0,T.vY.q,'d',rfl)
 .exact(T.za,1,T.vU.q,'d',rfl)
 .exact(T.BY,3,T.yV.q,'d',rfl)
 .exact(T.Ch,4,T.zg.q,'d',rfl)
 .exact(T.EE,5,T.Cj.q,'d',rfl)
 .exact(T.BZ,6,T.yT.q,'d',rfl)
 .exact(T.Cb,7,T.zc.q,'d',rfl)
 .exact(T.BV,8,T.yO.q,'d',rfl)
theorem Kr{bs:av Bool}{j:Nat}(h:(bs.take j).all (λb=>!b)=true):∀m z,m<j->(bs.map D.bl)[m]?\z->eqF z (.bl true)=false:=by
 intro m z e c;rw[zzz]at c;have(b,d,rfl):=zyi.mp c;have J:b∈bs.take j:=zzK (i:=m) (by rw[zca e];exact d);have:=zyA.mp h b J;cases b
 .rfl
 .cases this
theorem oB(T:Tx K mg):T.oJ.Ok P w base CX0 1 (spD K 1 (gRfl T)):=by
 refine fnd ["_law_caught","_law_some","_law_words"] (λm _=>(af (dir (aE AG (dv 0) fG) ag) (af (dse 1 (aq (aK (ae (dis K T.au (ae (dv 0) (da1 (bP T.kh)))) (ae (dis K T.au (ae (dv 0) (da1 (bP T.kq)))) (da1 (dis K T.au (ae (dv 0) (da1 (bP T.nO)))))))))) (af (dse 1 (aq (bA (dv 1) (aq (aK (ae (dis K T.au (ae (dv 0) (da1 (bP T.jx)))) (ae (dis K T.au (ae (dv 0) (da1 (bP T.nJ)))) (da1 (dis K T.au (ae (dv 0) (da1 (bP T.jv)))))))))))) (af (dse 1 (aq (bA (dv 1) (aq (aK (ae (dis K T.au (ae (dv 0) (da1 (bP T.jw)))) (ae (dis K T.au (ae (dv 0) (da1 (bP T.gv)))) (da1 (dis K T.au (ae (dv 0) (da1 (bP T.nN)))))))))))) (bf (dse 1 (aq (bA (dv 1) (aq (aK (da1 (dis K T.au (ae (dv 0) (da1 (aC (ae (bP T.pO) (ae (bP T.pP) (ae (bP T.gu) (da1 (bP T.kP))))))))))))))) (af (dir (PWD.pt (dA (aE (gc m) (AW DF (dv 1) fR) ai) (ck (bu (bc (dis K T.au (ae (dv 0) (da1 (gL T.kO))))))))) ag) (af (dse 2 (aq (aK (ae ag (ae ag (ae ag (ae ag (ae ag (ae ag (ae ag (ae ag (ae ag (da1 ag))))))))))))) (dr (dix (dv 2) (AW lB (dv 1) fR))))))))))) (λds Q hl h=>?_);rcases h with ⟨rfl,h⟩|⟨p,k,rfl,h⟩
 .exact Br.t h
 walk;let(q,i,L,hi,c):=FG T p k;have ok:∀C,zac p.1=.ref C->ExK K C:=λC e=>by cases e;exact q
 unfold KX at L;simp only[zzq,zzW,zyV,zak.injEq,and_true]at L;let((u,f1,f2,v,B,E,G,H,I),M,J,_):=L;x_go;refine Br.f (_,_,_,rfl,ok,rfl,u,_,_,_,rfl,ok,rfl,f1,_,_,_,rfl,ok,rfl,f2,sz,_,_,_,rfl,ok,rfl,v,_,_,_,rfl,ok,rfl,B,_,_,_,rfl,ok,rfl,E,sz,sz,_,_,_,rfl,ok,rfl,G,_,_,_,rfl,ok,rfl,H,_,_,_,rfl,ok,rfl,I,sz,sz,
  λr=>∃bs:av Bool,bs=([0,1,2,3,4,5,6,7,8].map λj=>decide (j=i))++[false]/\r=[.val (.exc p.1),.val (.lst (bs.map .bl)),.nil],(sz,_,_,_,rfl,ok,rfl,M,sz,sz,_,rfl,rfl),?_)
 rintro _ ⟨bs,N,rfl⟩;obtain⟨o,j,a,n,c⟩:(bs.map D.bl).countP (λz=>eqF z (.bl true))=1/\∃j:Nat,(bs.map D.bl)[j]?\(.bl true)/\(bs.take j).all (λb=>!b)=true/\(["house","table","great","mark","lead","row","name","book","back","other"].map λx=>D.str (sS x))[j]?\(.str (sS p.2)):=by
  subst N;refine(?_,i,?_,?_,by rw[zzz,c];rfl)
  all_goals
   simp only[zze,zyb,zxa]at hi;rcases hi with rfl|rfl|rfl|rfl|rfl|rfl|rfl|rfl<;>rfl
 have U:(bs.map D.bl).all fT=true:=zyA.mpr λd hd=>by let(b,_,rfl):=zzi.mp hd;rfl
 refine(trivial,(rfl,U),(rfl,rfl),?_);rw[o];exact Br.f (_,_,_,rfl,ok,rfl,J,Br.f (sz,trivial,(rfl,U),j,((.bl true,a,rfl),Kr n),aX (zwt j) c h))
theorem HJ{c:Frm}{X:Cx}{st:Stmt}{K:zvu}{i:Nat}{d:(DS->ay->Prop)->DTS}{e:DTS}{W:DS->ay->Prop}(J:W=c.W)(h : @PSD _ c X st (dTry K C0 i d e c.W)) : @PSD _ c X st (dTry K C0 i d e W):=by subst J;exact h
inductive gWrd(T:Tx K mg)(S:O)(ds:List D)(Q:D->O->Prop)(x3:Addr->O->Prop):Prop
 | mk a hs ms cT db d:S=dkO T a hs ms cT db->ds=[d]->BkT hs ms cT->cT.length <= 10->db.length <= 10->((mi d=true/\kC d=false/\Q (.str (sS "row")) S)∨∃z ws,d=.str z/\Sp z ws/\∃C wd,RowR T hs ms cT db ws C/\(C,wd)∈Cw T/\Q (.str (sS wd)) S)->gWrd T S ds Q x3
theorem kJ(T:Tx K mg):T.bL.Ok P w base (CXE P w) 11 (spDM K 2 (gWrd T)):=by
 refine fnDM T.bL.d.F tI (λ{u W g A c s H E} L j B=>(af (dse 2 fG) (af (HJ L (Jw (X:=(cxOf (CXE P w) P w K mg base ["_law_desk","_law_row","_law_caught","error"] "_law_word" (aj fk) T.bL.f g A c s H E).wish (XF (cxOf (CXE P w) P w K mg base ["_law_desk","_law_row","_law_caught","error"] "_law_word" (aj fk) T.bL.f g A c s H E) (WL K))) (K:=K) (i:=3) (x:="SumError") rfl rfl rfl rfl B rfl rfl rfl T.nL eF (λu W L pn=>(by exact(az (dE (dO (dj T) eF L (j.mono 'd') T.aJ T.dl T.cP.b (pv 0) (a1 1)))))) (λea=>(az (dse 2 (dv 3)))))) (dr (dcl (oB T) j (a1 2)))))) (λS ds Q W hl hi h=>?_);let(a,hs,ms,e,db,d,rfl,rfl,o,l,pl,h):=h;have J:∀p∈Cw T,zar K (.ref p.1) (.ref T.bH)\true:=λp v=>by let(_,i,U,_,_):=FG T p v;unfold KX at U;simp only[zak.injEq]at U;exact U.2.2.2
 refine(a,_,_,rfl,'k',_,rfl,(a,rfl),rfl,a,hs,ms,e,db,d,rfl,rfl,o,l,pl,?_);rcases h with ⟨q,ns,h⟩|⟨z,ws,rfl,sp,C,wd,r,m,h⟩
 .have m:(T.aZ,"row")∈Cw T:=by simp[Cw]
  exact .inl (q,ns,.inl (J _ m,rfl,.inr (_,m,rfl,_,rfl,rfl,h)))
 .exact .inr (z,ws,rfl,sp,.inl (C,r,.inl (J _ m,rfl,.inr (_,m,rfl,_,rfl,rfl,h))))
inductive gInitX(ds:List D)(x1:D->Prop)(W:Addr->Prop):Prop
 |mk s d k:ds=[s,d]->BadD d k->W k->gInitX ds x1 W
theorem ug(T:Tx K mg):FnOk P w K mg base (CXE P w) 6 T.fE T.dm.fd ["self","text"] (spDA (xiN T.aD) K 2 gInitX):=by refine fnDA (xi:=xiN T.aD) T.dm.F kG (λJ c _=>(af (dse 2 (wY (xi:=xiN T.aD) (x:="read") (HA T) gE J (c.mono 'd') rfl T.nQ.d.m T.nQ.d.F.kp T.nQ.d.b (a1 1))) (af bx (af bx dnv)))) (λds Q W hl h=>?_);let(s,d,k,rfl,b,h):=h;exact(rfl,.inr (d,k,rfl,b,h))
inductive gNd(ds:List D)(Q:D->Prop):Prop
 |mk (d:D) (k:Nat):ds=[d,.int k]->BadD d k->Q (.bl true)->gNd ds Q
theorem oC(T:Tx K mg):T.gX.Ok P w base CX0 8 (spD K 2 gNd):=by
 refine fnd ["_law_text_here","_law_line","_law_caught","error"] (λ{g A c s H E} j o=>(af (dse 2 fG) (af (Hd (xi:=xiN T.aD) (X:=(cxOf CX0 P w K mg base ["_law_text_here","_law_line","_law_caught","error"] "_law_no_desk" (aj gR) T.gX.f g A c s H E).nox) (K:=K) (i:=3) (x:="SumError") rfl rfl rfl rfl o rfl rfl rfl T.nL DM (λfr W L pn=>(az (dE (DV (xi:=xiN T.aD) (x:="Desk") T.kN (ug T) gE L (j.mono 'd') rfl T.BW T.dm.b (dv 0))))) (λea=>(az (dse 2 (dv 3))))) (af (dir (PWD.pt (dA (bu (bc (dis K T.au (ae (dv 2) (da1 (bP T.gu)))))) (ck (bu (bc (dis K T.au (ae (dv 2) (da1 (gL T.kO))))))))) fR) (af (dir (bc (dis K T.au (ae (dv 2) (da1 (aC (ae (bP T.nN) (ae (bP T.gv) (ae (bP T.kh) (ae (bP T.nJ) (ae (bP T.jx) (ae (bP T.jw) (ae (bP T.pO) (ae (bP T.jv) (ae (bP T.pP) (da1 (bP T.kq)))))))))))))))) fR) (dr (eO (dc (cc j) (Bb (K:=K) rfl (dv 2) rfl) (dv 1)) (eO (AA (aR pj T.au rfl (ae (Bb (K:=K) rfl (dv 2) rfl) (da1 (gL T.FI))))) (fH (AA (dis K T.au (ae (dv 2) (da1 (aC (ae (bP T.kP) (da1 (bP T.nO))))))))))))))))) (λds Q hl h=>?_);let(d,k,rfl,J,h):=h;have l:=T.dY.toExA.toExK;have ok:∀C,zac T.aD=.ref C->ExK K C:=λC e=>by cases e;exact l
 refine(_,d,k,rfl,J,.inl (T.Ml,?_));refine(_,_,_,rfl,ok,rfl,T.k_k1,Br.f (_,_,_,rfl,ok,rfl,T.k_k2,Br.f ?_));refine(sz,_,_,_,rfl,ok,rfl,T.k_k3,Br.f ?_);refine(_,_,.int k,_,rfl,T.dY.toExA,T.eJ,rfl,rfl,(rfl,rfl),?_);rw[cJ,zzj rfl];exact Br.t (_,_,.int k,_,rfl,T.dY.toExA,T.eJ,rfl,rfl,rfl,rfl,Br.t (sz,_,_,_,rfl,ok,rfl,T.k_k4,h))
section
variable{n:Nat}{cT:av (av Int×Row)}{k:av Int}{u:Row}
theorem Ks(up:(cT.map (·.1)).Pairwise λa b=>ltI a b=true)(q:∀c∈cT,c.2.length=n)(ul:u.length=n){c:av Int×Row}(L:c∈gath n (cT++[(zak k u)])) :
  dU c.2/\((c∈cT/\c.1≠k)∨(∃d∈cT,d.1=k/\c.1=k/\c.2=sums [d.2,u] n)∨(k∉cT.map (·.1)/\c=(zak k u))):=by
 let(L,v):=zzM.mp L;refine(triedB_iff.mp v,?_);have J:c.1∈(cT++[(zak k u)]).map (·.1):=parts_mem.mp (zzi.mpr (c,L,rfl));have g:=mZ L;rw[zyz,zzm]at g;by_cases e:c.1=k
 .have j:[(zak k u)].filter (λp=>decide (p.1=c.1))=[(zak k u)]:=by simp[e]
  rw[j]at g;by_cases h:k∈cT.map (·.1)
  .let(d,hd,rfl):=zzi.mp h;rw[e,eW (yC up) hd]at g;exact .inr (.inl (d,hd,rfl,e,g))
  .have o:cT.filter (λp=>decide (p.1=c.1))=[]:=zxq.mpr λp U z=>h (zzi.mpr (p,U,(zzX z).trans e));rw[o]at g;refine .inr (.inr (h,ze1 e ?_));rw[g];exact sum1 ul
 .have j:[(zak k u)].filter (λp=>decide (p.1=c.1))=[]:=zxq.mpr λp U z=>e (by
   rw[zzt.mp U]at z;exact(zzX z).symm)
  rw[j,zzW,zzB]at g;rw[zzm,zzg]at J;rcases J with J|J
  .let(d,hd,l):=zzi.mp J;rw[<-l,eW (yC up) hd]at g;have:c=d:=ze1 l.symm (g.trans (sum1 (q d hd)));exact .inl (this ▸ hd,e)
  .exact absurd (by simpa using J) e
theorem HK:(gath n (cT++[(k,u)])).length<=cT.length+1/\(k∈cT.map (·.1)->(gath n (cT++[(k,u)])).length<=cT.length):=by
 have l0:(gath n (cT++[(k,u)])).length<=(bR n (cT++[(k,u)])).length:=zxg _ _;have J:(bR n (cT++[(k,u)])).length=((addG k u (grp cT)).map (·.1)).length:=by rw[<-zza (f:=(·.1)),jY,(bZ _).length_eq,qP]
 rw[jd]at J;have l2:((grp cT).map (·.1)).length<=cT.length:=by rw[zza];exact(Bq (C:=λ_=>True) (R:=λ_=>True) cT λ_ _=>(trivial,trivial)).len
 by_cases h:k∈(grp cT).map (·.1)
 .rw[zzu h]at J;exact('l',λ_=>'l')
 .rw[zzn h,zzh,zxd]at J;exact('l',λz=>absurd ((mW cT k).mpr z) h)
theorem Kt{q:Nat}(g:∀c∈cT,RowN q n c.2/\dU c.2)(j:RowN q n u/\dU u):∃c∈gath n (cT++[(zak k u)]),c.1=k:=by
 have U:k∈(bR n (cT++[(zak k u)])).map (·.1):=parts_mem.mpr 's';let(c,L,e):=zzi.mp U;refine(c,zzM.mpr (L,triedB_iff.mpr ?_),e);rw[mZ L];have al:∀r∈((cT++[(zak k u)]).filter λp=>decide (p.1=c.1)).map (·.2),RowN q n r/\dU r:=λr d=>by
  let(p,J,rfl):=zzi.mp d;rcases zzg.mp (zzM.mp J).1 with J|J
  .exact g p J
  .rw[zzt.mp J];exact j
 refine yx (n:=q) (λr d=>(al r d).1) (λz=>?_) λr d=>(al r d).2;have:u∈((cT++[(zak k u)]).filter λp=>decide (p.1=c.1)).map (·.2):=zzi.mpr ((zak k u),zzM.mpr ('s',by simp[e]),rfl);rw[z]at this;cases this
theorem xF{a b:Row}{q:Nat}(l:RowN q n a)(J:RowN q n b):RowN (q+1) n (sums [a,b] n)/\∀h,h<n->(at_ (sums [a,b] n) h).1=(at_ a h).1+(at_ b h).1:=by
 have e:∀h,sumP (col [a,b] h)=((at_ a h).1+(at_ b h).1,(at_ a h).2+(at_ b h).2):=λh=>by unfold sumP col;simp
 refine((by unfold sums;simp,λc L=>?_),λh d=>by rw[HD d,e]);let(h,d,rfl):=zzi.mp L;have d:=zyK.mp d;rw[e];let(_,g):=xv l d;let(_,j):=xv J d;have:=g.lo;have:=g.hi;have:=j.lo;have:=j.hi;refine pG (by show 0<=_+_;lia) (by show _+_<=_+_;lia) ?_;have:=g.bt.add j.bt;rw[Nat.max_self]at this;exact this
end
theorem HL:∀{xs ys:av Cs},(∀x∈xs,x.Ok hs ms)->(∀y∈ys,y.Ok hs ms)->xs.map Cs.ln=ys.map Cs.ln->xs=ys:=λ{xs}=>by
 induction xs with
 |nil =>
  intro ys _ _ e;cases ys
  .rfl
  .cases e
 |cons x xs J =>
  intro ys d g e;cases ys with
  |nil=>cases e
  |cons y ys =>
   injection e with j l;rw[Bz j (d x 's') (g y 's'),J (λz c=>d z (zzc _ c)) (λz c=>g z (zzc _ c)) l]
theorem Ey{c:av (av Int×Row)}(o:BkT hs ms c)(o':BkT hs ms ps)(e:aL hs ms c=aL hs ms ps):c=ps:=by let((_,l),g):=gk o;let((_,j),d):=gk o';rw[e,j]at l;have l:=(zxH l).symm;rw[<-nq o,<-nq o',HL g.co d.co l]
theorem BO{k:av Int}{r:Rt}(h0:0<=r.h)(h1:r.h<hs.length):(csOf hs ms (k,bI hs.length r)).length<=1:=by
 unfold csOf;rw[zza,<-List.countP_eq_length_filter];have e:((hs.zip (bI hs.length r)).map (·.2)).countP (λc=>decide (0<c.1))=(hs.zip (bI hs.length r)).countP λp=>decide (0<p.2.1):=by rw[zeJ];rfl
 rw[<-e,zen (by unfold bI;simp)];unfold bI;rw[List.countP_set (by rw[zxS];lia),List.countP_replicate];cases decide (0<r.t)<;>simp
theorem Ku{cT:av (av Int×Row)}{E:Str}{kw:av Str}(o:BkT hs ms cT)(m4:ms.length<=4)(c9:cT.length<=9)(q:∀c∈cT,RowN 45 hs.length c.2)(l:kw.length=ms.length)(co:CoOk hs ms E kw) :
  BkT hs ms (putC hs ms cT E kw 5 2)/\(putC hs ms cT E kw 5 2).length<=10/\putC hs ms cT E kw 5 2≠cT:=by
 obtain⟨r,H⟩:∃r:Rt,r=(plc E hs,kpl kw ms,(5:Nat),(2:Nat)):=(_,rfl);have pl:=jt co.hh;have Y:=o.h6;have h0:0<=r.h:=by rw[H];exact zwt _
 have s:r.h<hs.length:=by rw[H];exact zek.mpr pl
 have C:RowN 45 hs.length (bI hs.length r):=by
  refine(by unfold bI;simp,λc J=>?_);unfold bI at J;rcases zwq J with J|rfl
  .rw[zyE J];exact pG (zyH 0) (zyH 0) (by unfold Bd;exact Nat.two_pow_pos _)
  .rw[H];exact pG (show (0:Int)<=2 by decide) (show (2:Int)<=5 by decide) (show (5:Int).natAbs<2^45 by decide)
 have u2:(bI hs.length r)[r.h.toNat]?\(5,2):=by unfold bI;rw[zyL (by rw[zxS];exact(zwA h0).mpr s),H];rfl
 have ut:dU (bI hs.length r):=((zak 5 2),zzK u2,'d');have g1:gath hs.length [(zak (kpl kw ms) (bI hs.length r))]=[(zak (kpl kw ms) (bI hs.length r))]:=by unfold gath;rw[jZ 's' (λp w=>by rw[zzt.mp w];exact C.1)];exact zvl.mpr λc J=>by rw[zzt.mp J];exact triedB_iff.mpr ut
 have up:(cT.map (·.1)).Pairwise λa b=>ltI a b=true:=by rw[zxk,zyt];intro i j hi G N;have:=o.up i j cT[i] cT[j] N (zzp hi) (zzp G);rw[nj _ _ (by rw[(o.kl _ (zzS hi)).1,(o.kl _ (zzS G)).1])]at this;exact this
 have ep:putC hs ms cT E kw 5 2=gath hs.length (cT++[(zak (kpl kw ms) (bI hs.length r))]):=by unfold putC;rw[<-H,g1]
 rw[ep];have of:=λ{c:av Int×Row} (J:c∈gath hs.length (cT++[(zak (kpl kw ms) (bI hs.length r))]))=>Ks up (λc J=>(q c J).1) C.1 J;have kl:(kpl kw ms).length=ms.length:=by unfold kpl;rw[zza,zyo];lia
 have L:∀c∈gath hs.length (cT++[(zak (kpl kw ms) (bI hs.length r))]),c.1.length=ms.length/\RowN 46 hs.length c.2:=λc J=>by
  rcases (of J).2 with ⟨h,_⟩|⟨d,hd,g,v,U⟩|⟨_,e⟩
  .exact((o.kl c h).1,(q c h).1,λx B=>((q c h).2 x B).mono 'd')
  .rw[v,U];exact(kl,(xF (q d hd) C).1)
  .rw[e];exact(kl,C.1,λx B=>(C.2 x B).mono 'd')
 let(len1,a7):=HK (n:=hs.length) (cT:=cT) (k:=kpl kw ms) (u:=bI hs.length r);let(c0,I,M):=Kt (k:=kpl kw ms) (λc J=>(q c J,(o.kl c J).2.2)) (C,ut);refine((o.h2,o.h6,o.hn,o.hd,o.m5,o.mn,o.md,?_,λc J=>((L c J).1,((L c J).2.1,λx B=>((L c J).2.2 x B).mono 'd'),(of J).1),λc J x B=>?_,λc J i k m g v=>?_,λi j x y N g v=>?_),'l',λz=>?_)
 .have rl:=rm (ms:=ms) Y (gath hs.length (cT++[(zak (kpl kw ms) (bI hs.length r))]));unfold aU;simp only[zzO,zzl,zzh,zza];rcases (of I).2 with ⟨_,h⟩|⟨d,hd,g,_⟩|⟨_,e⟩
  .exact absurd M h
  .have:=a7 (zzi.mpr (d,hd,g));lia
  .have pm:=List.perm_cons_erase I;have l1:=(pm.flatMap_right (csOf hs ms)).length_eq;have l2:=pm.length_eq;rw[zxA,zzh]at l1;rw[zzl]at l2;have:=rm (ms:=ms) Y ((gath hs.length (cT++[(zak (kpl kw ms) (bI hs.length r))])).erase c0);have:=BO (ms:=ms) (k:=kpl kw ms) h0 s;rw[<-e]at this;lia
 .have:=((L c J).2.2 x B).bt;exact Int.lt_of_le_of_lt Int.le_natAbs (Int.lt_trans (zek.mpr this) 'd')
 .rcases (of J).2 with ⟨h,_⟩|⟨d,hd,U,T,_⟩|⟨_,e⟩
  .exact o.kk c h i k m g v
  .exact o.kk d hd i k m (by rw[U,<-T];exact g) v
  .rw[e]at g;unfold kpl at g;rw[zzz]at g;let(p,U,T):=zyi.mp g;have w:=co.kk p (zzK U);let(_,A):=zzU.mp U;rw[v]at A;cases A;have:=jt w;rw[<-T];lia
 .have ps:=(xC hs.length (cT++[(zak (kpl kw ms) (bI hs.length r))]));rw[zxk]at ps;have ps:=ps.filter (λc=>kH c.2);have hi:=zzC.mp g;have G:=zzC.mp v;have:=zyt.mp ps i j hi.1 G.1 N;rw[nj _ _ (by rw[(L x (zzK g)).1,(L y (zzK v)).1])];rw[<-hi.2,<-G.2];exact this
 .have Q:c0∈cT:=by rw[<-z];exact I
  rcases (of I).2 with ⟨_,h⟩|⟨d,hd,g,v,U⟩|⟨h,_⟩
  .exact h M
  .have ed:d=c0:=by
    have:=eW (yC up) hd;rw[g,<-M,eW (yC up) Q]at this;exact(List.singleton_inj.mp this).symm
   rw[ed]at U;have:=(xF (q c0 Q) C).2 r.h.toNat ((zwA h0).mpr s);rw[<-U]at this;have e5:at_ (bI hs.length r) r.h.toNat=(5,2):=by unfold at_;rw[zzw,u2];rfl
   rw[e5]at this;have:(at_ c0.2 r.h.toNat).1=(at_ c0.2 r.h.toNat).1+5:=this;lia
  .exact h (zzi.mpr (c0,Q,M))
class Tz(z:Str)(n m:outParam Nat)(ws:outParam (List Str)):Prop where
 ne:ws≠[]
 fr:∀x∈ws,32∉x.cps.toList
 jj:z.cps.toList=jn 32 (ws.map λx=>x.cps.toList)
 le:z.length <= n
 wl:ws.length <= m
 as:∀c∈z.cps.toList,c<128
class Mg(a b:Str)(c:outParam Str):Prop where
 mg:a++b=c
class Gl(as bs:List Str)(cs:outParam (List Str)):Prop where
 gl:∃p a b q,as=p++[a]/\bs=b::q/\cs=p++(a++b)::q
theorem dH(a b:Str):(a++b).cps.toList=a.cps.toList++b.cps.toList:=by rw[zwD,zxG]
theorem fv(z:Str):z.length=z.cps.toList.length:=zzZ.symm
theorem vL(a b:Str):(a++b).length=a.length+b.length:=by rw[fv,dH,zzh,<-fv,<-fv]
theorem rq:(sS "").cps.toList=[]:='k'
instance(priority:=low){a b:Str}:Mg a b (a++b):=⟨rfl⟩
instance{b:Str}:Mg (sS "") b b:=⟨jX (by rw[dH,rq];rfl)⟩
instance{a:Str}:Mg a (sS "") a:=⟨jX (by rw[dH,rq,zzB])⟩
instance{a b c:Str}{bs:List Str}[m:Mg a b c]:Gl [a] (b::bs) (c::bs):=([],a,b,bs,rfl,rfl,by rw[<-m.mg];rfl)
instance{a:Str}{as bs cs:List Str}[g:Gl as bs cs]:Gl (a::as) bs (a::cs):=by let(p,x,y,q,rfl,rfl,rfl):=g.gl;exact(a::p,x,y,q,rfl,rfl,rfl)
instance{l as bs cs:List Str}[g:Gl as bs cs]:Gl (l++as) bs (l++cs):=by let(p,x,y,q,rfl,rfl,rfl):=g.gl;exact(l++p,x,y,q,(zzI ..).symm,rfl,(zzI ..).symm)
theorem FH{as bs:av Str}(h:as≠[]):Gl as (sS "" :: bs) (as++bs):=by refine(as.dropLast,as.getLast h,sS "",bs,(zyF h).symm,rfl,?_);rw[Mg.mg (a:=as.getLast h) (b:=sS ""),<-zwR,<-zzI,zyF]
theorem xG{c:Nat}(a b:av Nat)(q:av (av Nat)):∀p:av (av Nat),jn c (p++[a])++jn c (b::q)=jn c (p++(a++b)::q)
 |[]=>by cases q<;>simp[jn]
 |[x]=>by have:=xG (c:=c) a b q [];simp only[zwp,zzO,jn]at this⊢;rw[zzI,zzO,this]
 |x::y::p=>by have:=xG (c:=c) a b q (y::p);simp only[zzO,jn]at this⊢;rw[zzI,zzO,this]
instance{x y:Str}{n m n' L:Nat}{as bs cs:List Str}[a:Tz x n m as][b:Tz y n' L bs][g:Gl as bs cs]:Tz (x++y) (n+n') (m+L) cs:=by
 let(p,u,v,q,rfl,rfl,rfl):=g.gl;have l1:=a.le;have l2:=b.le;have U:=a.wl;have e:=b.wl;refine('s',λw d=>?_,?_,by rw[vL];lia,by simp at U e⊢;lia,λc J=>?_)
 .rcases zzg.mp d with d|d
  .exact a.fr w (zzT _ d)
  .rcases zze.mp d with rfl|d
   .rw[dH];exact λz=>(zzg.mp z).elim (a.fr u 's') (b.fr v 's')
   .exact b.fr w (zzc _ d)
 .rw[dH,a.jj,b.jj];simp only[zzm,zzq,zzW,dH];exact xG _ _ _ _
 .rw[dH]at J;exact(zzg.mp J).elim (a.as c) (b.as c)
theorem aA(h:(ws≠[]/\(∀x∈ws,32∉x.cps.toList)/\z.cps.toList=jn 32 (ws.map λx=>x.cps.toList)/\z.length<=n/\ws.length<=m/\∀c∈z.cps.toList,c<128):=by decide +kernel):Tz z n m ws:=(h.1,h.2.1,h.2.2.1,h.2.2.2.1,h.2.2.2.2.1,h.2.2.2.2.2)
theorem vM{x:Str}(h:isNm x=true):Tz x 8 1 [x]:=('s',λy d=>by rw[zzt.mp d];exact λz=>absurd (ji h 32 z).1 'd',rfl,(cX h).2,'s',λc J=>by have:=ji h c J;lia)
theorem BP(ne:ws≠[])(h:∀x∈ws,Wd x/\x.length<=40)(e:ws.length<=12/\ws.length<=m):Tz (zaf spS ws) 492 m ws:=by
 refine(ne,λx d z=>absurd ((h x d).1 32 z).1 'd',?_,jh (B:=40) (λx d=>(h x d).2) e.1,e.2,λc J=>?_)
 .rw[BG,show zaf (⟨#[32]⟩:Str) ws=zbb ⟨#[32]⟩ ws from zyp ..];exact iB 32 ws
 .rw[BG]at J;rcases lD J with rfl|⟨x,d,J⟩
  .decide
  .exact((h x d).1 c J).2
theorem Tz.spl(t:Tz z n m ws):zab z spS=ws:=by have e:zaf ⟨#[32]⟩ ws=z:=jX (by rw[t.jj,show zaf (⟨#[32]⟩:Str) ws=zbb ⟨#[32]⟩ ws from zyp ..,iB]);rw[BG,<-e];exact gH t.ne t.fr
theorem Tz.sp(t:Tz z n m ws)(hn:n<=2000)(hm:m<=100):Sp z ws:=by
 have l:=t.le;have wl:=t.wl;refine(t.spl,'l',λx e=>?_,'l');let((J,d),_):=qX (c:=32) (zzi.mpr (x,e,rfl));rw[<-t.jj]at J d;rw[<-fv,<-fv]at J;refine('l',?_);exact zyJ.mpr λc L=>by have:=t.as c (d c (zyR.mpr L));exact zzj 'l'
theorem al{J:Nat}{as bs:av Str}[x:Tz a n m as][y:Tz b k J bs](h:n+k<=2000:=by decide +kernel):a.length+b.length<=zaa:=by have:=x.le;have:=y.le;exact zzk (show a.length+b.length<=2000 by lia) 'd'
def Rw(T:Tx K mg)(hs:av Str)(ms:av Mk)(cT:av (av Int×Row))(db:av D)(d:D)(C:ay):Prop :=
 (mi d=true/\kC d=false/\C=T.aZ)∨∃z ws,d=.str z/\Sp z ws/\RowR T hs ms cT db ws C
theorem rw_{T:Tx K mg}{cT:av (av Int×Row)}{db:av D}{C:ay}[t:Tz z n m ws](r:RowR T hs ms cT db ws C)(d:n<=2000:=by decide +kernel)(c:m<=100:=by decide +kernel):Rw T hs ms cT db (.str z) C:=.inr (z,ws,rfl,t.sp d c,r)
structure Rz(hs:List Str)(ms:List Mk)(x y m two cz:Str)(kw:List Str):Prop where
 hn:∀x∈hs,isNm x=true
 mn:∀m∈ms,isNm m.1=true/\∀x∈m.2,isNm x=true
 m1:1 <= ms.length
 m5:ms.length <= 5
 hx:x∈hs
 hy:y∈hs
 ne:x≠y
 hm:m∈ms.map (·.1)
 kl:kw.length=ms.length
 kk:∀p∈kw.zip ms,p.1∈p.2.2
 e2:two=sS " " ++ x++sS " " ++ y
 ec:cz=zaf spS (sS "case" :: x::kw)
section
variable{ms:av Mk}{x y m two cz:Str}{kw:av Str}
instance:Tz (sS " ") 1 2 [sS "",sS ""]:=aA
theorem Rz.ix(o:Rz hs ms x y m two cz kw):Tz x 8 1 [x]:=vM (o.hn x o.hx)
theorem Rz.iy(o:Rz hs ms x y m two cz kw):Tz y 8 1 [y]:=vM (o.hn y o.hy)
theorem Rz.im(o:Rz hs ms x y m two cz kw):Tz m 8 1 [m]:=by let(k,J,e):=zzi.mp o.hm;exact vM (by rw[<-e];exact(o.mn k J).1)
theorem Rz.i2(o:Rz hs ms x y m two cz kw):Tz two 18 6 [sS "",x,y]:=by
 have:=o.ix;have:=o.iy;rw[o.e2]
 infer_instance
theorem Rz.kn(o:Rz hs ms x y m two cz kw):∀k∈kw,isNm k=true:=λk L=>by
 let(i,hi):=zyn.mp L;have c:=(zzC.mp hi).1;have J:i<ms.length:=by rw[<-o.kl];exact c
 have d:(k,ms[i])∈kw.zip ms:=zyn.mpr (i,zzU.mpr (hi,zzp J));exact(o.mn _ (zzS J)).2 k (o.kk _ d)
theorem Rz.kne(o:Rz hs ms x y m two cz kw):kw≠[]:=λz=>by have l:=o.kl;have:=o.m1;rw[z,zzY]at l;lia
theorem Rz.ic(o:Rz hs ms x y m two cz kw):Tz cz 492 12 (sS "case" :: x::kw):=by
 rw[o.ec];have:=o.kl;have:=o.m5;have nm:∀{z:Str},isNm z=true->Wd z/\z.length<=40:=λh=>(Wd.nm h,zzk (cX h).2 'd');refine BP 's' (λz c=>?_) (by simp;lia);rcases zze.mp c with rfl|c
 .unfold Wd;decide +kernel
 .rcases zze.mp c with rfl|c
  .exact nm (o.hn _ o.hx)
  .exact nm (o.kn z c)
theorem Rz.ik(o:Rz hs ms x y m two cz kw):∀bs:av Str,Gl kw (sS "" :: bs) (kw++bs):=λbs=>FH o.kne
end
theorem ac{P:D->Prop}{a:D}{l:av D}(h:P a)(t:∀d∈l,P d):∀d∈a::l,P d:=λd hd=>by
 rcases zze.mp hd with rfl|hd
 .exact h
 .exact t d hd
theorem an_{P:D->Prop}:∀d∈([]:av D),P d:=λd hd=>by cases hd
instance:Tz (sS "") 0 1 [sS ""]:=aA
instance:Tz (sS "Show") 4 1 [sS "Show"]:=aA
instance:Tz (sS "show ") 5 2 [sS "show",sS ""]:=aA
instance:Tz (sS " show") 5 2 [sS "",sS "show"]:=aA
instance:Tz (sS "show x") 6 2 [sS "show",sS "x"]:=aA
instance:Tz (sS "whole 1") 7 2 [sS "whole",sS "1"]:=aA
instance:Tz (sS "ranks x") 7 2 [sS "ranks",sS "x"]:=aA
instance:Tz (sS "back 1") 6 2 [sS "back",sS "1"]:=aA
instance:Tz (sS "turn") 4 1 [sS "turn"]:=aA
instance:Tz (sS "turn ") 5 2 [sS "turn",sS ""]:=aA
instance:Tz (sS "push x") 6 2 [sS "push",sS "x"]:=aA
instance:Tz (sS "level x") 7 2 [sS "level",sS "x"]:=aA
instance:Tz (sS "knots") 5 1 [sS "knots"]:=aA
instance:Tz (sS "case") 4 1 [sS "case"]:=aA
instance:Tz (sS "look") 4 1 [sS "look"]:=aA
instance:Tz (sS "case x 0 y") 10 4 [sS "case",sS "x",sS "0",sS "y"]:=aA
instance:Tz (sS "few ") 4 2 [sS "few",sS ""]:=aA
instance:Tz (sS "marks ") 6 2 [sS "marks",sS ""]:=aA
instance:Tz (sS "gap ") 4 2 [sS "gap",sS ""]:=aA
instance:Tz (sS "levels") 6 1 [sS "levels"]:=aA
instance:Tz (sS " 01 1") 5 3 [sS "",sS "01",sS "1"]:=aA
instance:Tz (sS " q a") 4 3 [sS "",sS "q",sS "a"]:=aA
instance:Tz (sS " q a b c d e f g") 16 9 [sS "",sS "q",sS "a",sS "b",sS "c",sS "d",sS "e",sS "f",sS "g"]:=aA
instance:Tz (sS " 1") 2 2 [sS "",sS "1"]:=aA
instance:Tz (sS " 1 1 1") 6 4 [sS "",sS "1",sS "1",sS "1"]:=aA
instance:Tz (sS " 1 -1") 5 3 [sS "",sS "1",sS "-1"]:=aA
instance:Tz (sS " 1  1") 5 4 [sS "",sS "1",sS "",sS "1"]:=aA
instance:Tz (sS " +1 1") 5 3 [sS "",sS "+1",sS "1"]:=aA
instance:Tz (sS " 1 1 ") 5 4 [sS "",sS "1",sS "1",sS ""]:=aA
instance:Tz (sS " x 1") 4 3 [sS "",sS "x",sS "1"]:=aA
instance:Tz (sS " 1/1 1") 6 3 [sS "",sS "1/1",sS "1"]:=aA
instance:Tz (sS "show") 4 1 [sS "show"]:=aA
instance:Tz (sS "case Q") 6 2 [sS "case",sS "Q"]:=aA
instance:Tz (sS "hide") 4 1 [sS "hide"]:=aA
instance:Tz (sS " 1 ") 3 3 [sS "",sS "1",sS ""]:=aA
instance:Tz (sS "1") 1 1 [sS "1"]:=aA
instance:Tz (sS "few") 3 1 [sS "few"]:=aA
instance:Tz (sS "marks") 5 1 [sS "marks"]:=aA
instance:Tz (sS "Q") 1 1 [sS "Q"]:=aA
instance:Tz (sS "a1") 2 1 [sS "a1"]:=aA
instance:Tz (sS "q-") 2 1 [sS "q-"]:=aA
instance:Tz (sS "parts ") 6 2 [sS "parts",sS ""]:=aA
instance:Tz (sS "xxxxxxxx") 8 1 [sS "xxxxxxxx"]:=aA
instance:Tz (sS "  ") 2 3 [sS "",sS "",sS ""]:=aA
instance:Tz (sS "turn  ") 6 3 [sS "turn",sS "",sS ""]:=aA
instance:Tz (sS " a b") 4 3 [sS "",sS "a",sS "b"]:=aA
instance:Tz (sS " a") 2 2 [sS "",sS "a"]:=aA
instance:Tz (sS " q a a") 6 4 [sS "",sS "q",sS "a",sS "a"]:=aA
instance:Tz (sS " q a  b") 7 5 [sS "",sS "q",sS "a",sS "",sS "b"]:=aA
instance:Tz (sS " q a b") 6 4 [sS "",sS "q",sS "a",sS "b"]:=aA
instance:Tz (sS "knots ") 6 2 [sS "knots",sS ""]:=aA
instance:Tz (sS " q ") 3 3 [sS "",sS "q",sS ""]:=aA
instance:Tz (sS " 2 3") 4 3 [sS "",sS "2",sS "3"]:=aA
instance:Tz (sS "push ") 5 2 [sS "push",sS ""]:=aA
instance:Tz (sS "hide ") 5 2 [sS "hide",sS ""]:=aA
instance:Tz (sS "gap") 3 1 [sS "gap"]:=aA
instance:Tz (sS "back") 4 1 [sS "back"]:=aA
instance:Tz (sS "push") 4 1 [sS "push"]:=aA
instance:Tz (sS "parts") 5 1 [sS "parts"]:=aA
instance:Tz (sS " 1 2") 4 3 [sS "",sS "1",sS "2"]:=aA
instance:Tz (sS " 0 1") 4 3 [sS "",sS "0",sS "1"]:=aA
instance:Tz (sS " 1000000000001 1") 16 3 [sS "",sS "1000000000001",sS "1"]:=aA
instance:Tz (sS "level") 5 1 [sS "level"]:=aA
instance:Tz (sS "9") 1 1 [sS "9"]:=aA
instance:Tz (sS " 5 2") 4 3 [sS "",sS "5",sS "2"]:=aA
instance:Tz (zdN (sS "1") 31) 31 1 [zdN (sS "1") 31]:=aA
instance:Tz (zdN (sS "9") 30) 30 1 [zdN (sS "9") 30]:=aA
theorem uh{c:Nat}{p q:av Str}{u v:Str}(j:zab a ⟨#[c]⟩=p++[u])(U:zab b ⟨#[c]⟩=v::q):zab (a++b) ⟨#[c]⟩=p++(u++v)::q:=by
 have g:=qY a c;have L:=qY b c;have fa:=zvr a c;have J:=zvr b c;rw[j]at g fa;rw[U]at L J;have e:a++b=zaf ⟨#[c]⟩ (p++(u++v)::q):=jX (by rw[show zaf (⟨#[c]⟩:Str) (p++(u++v)::q)=zbb ⟨#[c]⟩ (p++(u++v)::q) from zyp ..,iB,dH,<-g,<-L];simp only[zzm,zzq,zzW,dH];exact xG _ _ _ _)
 rw[e];refine gH 's' λx d=>?_;rcases zzg.mp d with d|d
 .exact fa x (by simp[d])
 .rcases zze.mp d with rfl|d
  .rw[dH];exact λz=>(zzg.mp z).elim (fa u 's') (J v 's')
  .exact J x (by simp[d])
theorem lE{p q:av Str}{u v:Str}(c:zab a nlS=p++[u])(J:zab b nlS=v::q):zab (a++b) nlS=p++(u++v)::q:=by exact uh c J
theorem xH{p q:av Str}{u v:Str}(c:zab a spS=p++[u])(J:zab b spS=v::q):zab (a++b) spS=p++(u++v)::q:=by exact uh c J
theorem rA{cT:av (av Int×Row)}(o:BkT hs ms cT):(aL hs ms cT).length<=30000:=by
 have L:=qW o.sh;have ll:=o.ln;have U:∀l∈(aU hs ms cT).map (zaf spS),l.length<=492:=λl g=>by let(ws,J,rfl):=zzi.mp g;exact jh (B:=40) (L ws J).2 (L ws J).1
 have c:=zwL nlS ((aU hs ms cT).map (zaf spS));have d:=zb3 _ U;have e:nlS.length=1:='k'
 have e2:aL hs ms cT=zbb nlS ((aU hs ms cT).map (zaf spS)):=zyp ..;rw[zza]at c d;lia
section
variable{ms:av Mk}{cT:av (av Int×Row)}
theorem BQ{k:Nat}(d:a.length+b.length<=100000)(aa:∀c∈a.cps.toList,c<128)(ab:∀c∈b.cps.toList,c<128){p q:av Str}{u v:Str}(e:zab a nlS=p++[u])(L:zab b nlS=v::q)(l:p.length+q.length<=69):Zt (a++b):=by refine(by rw[vL];exact d,λc J=>?_,by rw[lE e L];simp;lia);rw[dH]at J;exact(zzg.mp J).elim (aa c) (ab c)
theorem BR(o:BkT hs ms cT)(w:Str)(p:av Str)(u:Str)(h:zab w nlS=p++[u]/\w.length<=10/\(∀c∈w.cps.toList,c<128)/\p.length<=3)(j:(p=[]/\∃g J,zab u spS=g++[J]/\((g=[]/\J++aI≠aI)∨∃y r,g=y::r/\y≠aI))∨∃y r,p=y::r/\∃z s,zab y spS=z::s/\z≠aI):BadD (.str (w++aL hs ms cT)) 0:=by
 let((U,e),_):=gk o;let(h,wl,B,pl):=h;cases d:zab (aL hs ms cT) nlS with
 |nil=>rw[BF]at d;exact absurd d (jl _ _)|cons v q =>
  have nl:=U.nl;have tl:=rA o;refine .inr (_,rfl,BQ (k:=0) 'l' B U.asc h d ?_,.inl (rfl,?_))
  .have:=o.ln;have L:=congrArg zai e;unfold linW at L;rw[d,zza,zzl]at L;have:(aU hs ms cT).length=((aI::hs)::ms.map mkLn++(cT.flatMap (csOf hs ms)).map Cs.ln).length:=rfl;lia
  .unfold linW at e⊢;rw[d,zzq,zzO,zyV]at e;have x:=e.1;rw[lE h d];have no:∀{z:Str}{s:av Str},z≠aI->hlB z s=false:=λ{z s} n=>by unfold hlB;rw[zzo n];rfl
   rcases j with ⟨rfl,g,J,l,j⟩|⟨y,r,rfl,z,s,l,n⟩
   .rw[zwp,zzq,xH l x];rcases j with ⟨rfl,n⟩|⟨y,r,rfl,n⟩
    .exact(_,_,_,rfl,no n)
    .exact(_,_,_,rfl,no n)
   .rw[zzO,zzq,l];exact(_,_,_,rfl,no n)
theorem Kv{l:av Str}(h:l.length<=2∨l.head? ≠ some eG):mlB hs l=false:=by
 match l with
 |[]=>rfl|[_]=>rfl|w::n::r =>
  show (decide (w=eG) && (decide (1<=r.length) && decide (r.length<=6)) && isNm n && !decide (n∈hs) && nmsB r)=false;rcases h with h|h
  .have:r=[]:=by simpa using h
   subst this;simp
  .have:w≠eG:=λz=>h (by rw[z];rfl);rw[zzo this];rfl
theorem vN{cs:av Cs}{l:av Str}(h:l.length<=3∨l.head? ≠ some gi∨l.length≠4+ms.length):BB hs ms cs l:=λc e o=>by rw[e]at h;have:=o.kl;unfold Cs.ln at h;simp at h;lia
theorem yM(o:BkT hs ms cT):Txt.count (aL hs ms cT) nlS=(ms.length+(cT.flatMap (csOf hs ms)).length:Nat):=by let((_,e),_):=gk o;have h1:=PyProof.Rows.split_len (aL hs ms cT) 10;have d:=PyProof.Rows.count_is (aL hs ms cT) 10;have c:=congrArg zai e;rw[zza,BF]at c;simp only[zzO,zzl,zzh,zza]at c;rw[BF,d];show PyProof.Rows.cnt 10 _=_;lia
theorem yN(o:BkT hs ms cT)(ln:(aU hs ms cT).length<=59)(w:Str)(q:av Str)(l:av Str)(rest:av (av Str))(h:zab w nlS=sS "" :: q/\w.length<=20/\(∀c∈w.cps.toList,c<128)/\q.length<=5/\(q.map λl=>zab l spS)=l::rest/\l.length<=3/\(l.length<=2∨l.head? ≠ some eG)) :
  BadD (.str (aL hs ms cT++w)) (1+(ms.length+(cT.flatMap (csOf hs ms)).length)):=by
 let((v,e),g):=gk o;let(h,wl,u,ql,j,L,U):=h;have tl:=rA o;have ne:zab (aL hs ms cT) nlS≠[]:=by rw[BF];exact jl _ _
 have d:=(zyF ne).symm;have J:=congrArg zai e;have l1:(aU hs ms cT).length=((aI::hs)::ms.map mkLn++(cT.flatMap (csOf hs ms)).map Cs.ln).length:=rfl;rw[zza]at J;have l4:=zc2 (xs:=zab (aL hs ms cT) nlS);refine .inr (_,rfl,BQ (k:=0) 'l' v.asc u d h 'l',.inr (hs,ms,_,l,rest,?_,g,λ_=>.inr (Kv U),vN (.inl L),'l'));have sp:=lE d h;rw[Mg.mg (a:=(zab (aL hs ms cT) nlS).getLast ne) (b:=sS ""),<-zwR,<-zzI,<-d]at sp;unfold linW at e⊢;rw[sp,zzm,e,j];simp
theorem Kw:nmsB (ws++[sS ""])=false:=by unfold nmsB;rw[List.all_append];rw[show ([sS ""]).all isNm=false by decide +kernel];simp
theorem BS(o:BkT hs ms cT)(N:1<=ms.length)(ln:(aU hs ms cT).length<=59):BadD (.str (aL hs ms cT++sS " ")) (ms.length+(cT.flatMap (csOf hs ms)).length):=by
 let((T,e),g):=gk o;have tl:=rA o;have ne:zab (aL hs ms cT) nlS≠[]:=by rw[BF];exact jl _ _
 have q:=(zyF ne).symm;have h:zab (sS " ") nlS=[sS " "]:='k'
 have E:zab (sS " ") spS=[sS "",sS ""]:='k'
 have M:=congrArg zai e;have l1:(aU hs ms cT).length=((aI::hs)::ms.map mkLn++(cT.flatMap (csOf hs ms)).map Cs.ln).length:=rfl;rw[zza]at M;have sl:(sS " ").length=1:='k'
 refine .inr (_,rfl,BQ (k:=0) 'l' T.asc 'k' q h (by simp;lia),.inr ?_);have sp:=lE q h;have L:zab ((zab (aL hs ms cT) nlS).getLast ne) spS≠[]:=by rw[BG];exact jl _ _
 have v:=(zyF L).symm;have B:=xH v E;rw[Mg.mg (a:=(zab ((zab (aL hs ms cT) nlS).getLast ne) spS).getLast L) (b:=sS ""),<-zwR,<-zzI,<-v]at B;unfold linW at e⊢;rw[sp,zzm,zzq,B];have d:((zab (aL hs ms cT) nlS).dropLast.map λl=>zab l spS)++[zab ((zab (aL hs ms cT) nlS).getLast ne) spS]=(aI::hs)::ms.map mkLn++(cT.flatMap (csOf hs ms)).map Cs.ln:=by
  rw[<-e]
  conv=>rhs;rw[q]
  rw[zzm];rfl
 generalize (zab (aL hs ms cT) nlS).dropLast.map (λl=>zab l spS)=A at d⊢;generalize zab ((zab (aL hs ms cT) nlS).getLast ne) spS=U at d⊢;generalize cT.flatMap (csOf hs ms)=cs at d g⊢;rcases zwQ cs with rfl|⟨C,c,rfl⟩
 .rcases zwQ ms with rfl|⟨J,m,rfl⟩
  .cases N
  .rw[zzW,zzB,zxv,zzm,<-zzO]at d;let(rfl,j):=zcr d rfl;have j:U=mkLn m:=by simpa using j
   have u:=g.mo;refine(hs,J,[],mkLn m++[sS ""],[],by rw[j];simp,(g.h2,g.h6,g.hn,(by have:=u.l5;simp at this;lia,by have:=u.nd;rw[zxv,zzm]at this;exact(zyr.mp this).1,λk H=>u.nm k (by simp[H])),λc G=>by simp at G,zb1,'s'),λ_=>.inr ?_,vN (.inr (.inl (by show some eG≠some gi;decide +kernel))),by simp;lia);show (decide (eG=eG) && (decide (1<=(m.2++[sS ""]).length) && decide ((m.2++[sS ""]).length<=6)) && isNm m.1 && !decide (m.1∈J.map (·.1)) && nmsB (m.2++[sS ""]))=false;rw[Kw,zvm]
 .rw[zxv,zzm,<-zzI]at d;let(rfl,j):=zcr d rfl;have j:U=c.ln:=by simpa using j
  rw[zxv]at g;have Q:=g.co c 's';refine(hs,ms,C,c.ln++[sS ""],[],by rw[j];simp,(g.h2,g.h6,g.hn,g.mo,λx I=>g.co x (by simp[I]),(zc6.mp g.cb).1,by have:=g.cl;simp at this;lia),λ_=>.inr (vx _ _),vN (.inr (.inr ?_)),by simp;lia);have:=Q.kl;unfold Cs.ln;simp;lia
end
section
variable{T:Tx K mg}{ms:av Mk}{cT:av (av Int×Row)}
open PyProof.Rows.KTD in
theorem kn_(w:String){r:av Str}(h:sS w≠sS "case" /\ zal (sS w)=true/\inKeys (sS w) bU=false:=by decide +kernel):RowR T hs ms cT db (sS w::r) T.aZ:=.kn h.1 h.2.1 h.2.2
theorem ln_(w:String)(lo:Int)(hi:aT Int){r:av Str}(nc:sS w≠sS "case":=by decide +kernel)(ok:zal (sS w)=true:=by decide +kernel)(J:zaH (sS w) bU\(.tup [.int lo,hiD hi]):=by rfl)(h:lnB lo hi (r.length+1)=false:=by rfl):RowR T hs ms cT db (sS w::r) T.aZ :=
 .ln (key_of w _ false lo hi nc ok J h)
end
theorem HM{i:Nat}(h:i<=z.length):(zcR z (some (i:Int)) none).cps.toList=z.cps.toList.drop i:=by have J:z.cps.toList.length=z.length:=zzZ;have e:zcR z (some (i:Int)) none=⟨((z.cps.toList.drop i).take ((z.length:Int)-i).toNat).toArray⟩:=StrLaws.sliceText_from ('l','l');rw[e];rw[zwJ (by rw[zxZ,J,<-Int.ofNat_sub 'l',zzV];exact zzs _)]
theorem aa{P:D->Prop}{a b:av D}(h:∀d∈a,P d)(t:∀d∈b,P d):∀d∈a++b,P d:=λd hd=>(zzg.mp hd).elim (h d) (t d)
theorem Rz.sl{x m:Str}{kw:av Str}(o:Rz hs ms x y m a b kw):Tz (zcR b (some (5+(x.length:Int))) none) 492 12 (sS "" :: kw):=by
 have t:=o.ic;have u:=t.jj;have le:=t.le;have B:=t.wl;have(k,r,e):=List.exists_cons_of_ne_nil o.kne;have J:b.cps.toList=((sS "case").cps.toList++32::x.cps.toList)++32::jn 32 (kw.map λx=>x.cps.toList):=by rw[u,e];rfl
 have q:(sS "case").cps.toList.length=4:='k'
 have j:((sS "case").cps.toList++32::x.cps.toList).length=5+x.length:=by rw[zzh,q,zzl,<-fv];lia
 have v:5+x.length<=b.length:=by rw[fv b,J,zzh,j];lia
 have L:(zcR b (some (5+(x.length:Int))) none).cps.toList=32::jn 32 (kw.map λx=>x.cps.toList):=by rw[show (5+(x.length:Int))=((5+x.length:Nat):Int) by lia,HM v,J,List.drop_left' j]
 refine('s',λz d=>?_,?_,?_,by simpa using zyC B,λc U=>?_)
 .rcases zze.mp d with rfl|d
  .rw[rq];simp
  .exact t.fr z (by simp[d])
 .rw[L,e,zzq,zzq,zzq,rq];rfl
 .rw[fv,L];rw[fv,J,zzh]at le;lia
 .rw[L]at U;exact t.as c (by rw[J];exact zzN _ U)
inductive gNr(T:Tx K mg)(ds:List D)(Q:D->Prop):Prop
 |mk hs ms x y m two cz kw:ds=[.pen,.str x,.str two,.str m,.str cz]->Rz hs ms x y m two cz kw->(∀d,(∀cT db,Rw T hs ms cT db d T.aZ)->Q d)->gNr T ds Q
theorem rB(T:Tx K mg):T.rK.Ok P w base CX0 2 (spD K 5 (gNr T)):=by refine fnd ["_law_pen_here","_law_one","_law_two_here","_law_mark","_law_case","_law_some"] (λu _=>(af (dse 5 (aq (aK (ae ag (ae ag (ae ag (ae ag (ae ag (ae ag (ae ag (ae ag (ae ag (ae ag (da1 (ak ah ag (dv 1)))))))))))))))) (af (dse 5 (aq (bA (dv 5) (aq (aK (ae ag (ae ag (ae (ak ah ag (dv 1)) (ae (ak ah ag (dv 1)) (ae (ak ah (ak ah (ak ah ag (dv 2)) ag) (dv 3)) (ae (ak ah ag (dv 1)) (da1 ag)))))))))))) (af (dse 5 (aq (bA (dv 5) (aq (aK (ae ag (ae ag (ae (ak ah ag (dv 2)) (da1 (ak ah (ak ah ag (JN (dv 4) (cI (ak de ai (dln vf T.bJ (dv 1)))) dF)) ag)))))))))) (af (dse 5 (aq (bA (dv 5) (aq (aK (ae (ak ah (ak ah (ak ah ag (dv 2)) ag) (dv 3)) (ae (ak ah (ak ah ag (dv 2)) ag) (da1 (ak ah (ak ah ag (dv 2)) ag))))))))) (af (dse 5 (aq (bA (dv 5) (aq (aK (ae (dv 4) (ae (ak ah (dv 4) ag) (ae (ak ah (dv 4) ag) (ae (ak ah (dv 4) ag) (ae (ak ah (dv 4) ag) (ae (ak ah (dv 4) ag) (da1 (ak ah (dv 4) ag))))))))))))) (af (dse 5 (aq (bA (dv 5) (aq (aK (ae (ak ah (dv 4) ag) (ae (ak ah (dv 4) ag) (ae (ak ah (ak ah (ak ah (dv 4) ag) (ak qI ag ai)) ag) (da1 (ak ah (ak ah (dv 4) ag) (ak qI ag ai))))))))))) (af (dse 5 (aq (bA (dv 5) (aq (aK (ae (ak ah (dv 4) ag) (ae ag (ae fG (ae ai (ae fR (ae (aq (aK (da1 ag))) (ae (aC (da1 ag)) (da1 GU))))))))))))) (dr (dix (dv 5) (dcl (aw T) u (ae (dv 0) (da1 (dln bz T.bJ (dv 5))))))))))))))) (λds Q hl h=>?_);have(hs,ms,x,y,m,two,g,B,rfl,o,h):=h;have v:=o.ix;have i2:=o.i2;have i3:=o.im;have U:=o.ic;have i5:=o.ik;have i6:=o.sl;have H:g.length<=zaa:=zzk U.le 'k';refine(al,sz,?_);refine(al,al,al,al,al,al,sz,sz,al,?_);have G:x.length<=zaa:=zzk v.le 'k';refine(G,g,rfl,H,al,al,sz,sz,al,al,al,al,al,al,al,sz,sz,?_);refine(al,al,al,al,al,al,sz,sz,al,al,al,by unfold zde;decide +kernel,al,al,al,by unfold zde;decide +kernel,al,sz,sz,?_);refine(al,sz,sz,sz,sz,?_);have kl:=o.kl;have m1:=o.m1;have q:∀{z:Str}{n m:Nat}{ws:av Str}[Tz z n m ws](r:∀{c:av (av Int×Row)} {db:av D},RowR T hs ms c db ws T.aZ)(l:n<=2000:=by decide +kernel)(j:m<=100:=by decide +kernel),Q (.str z):=λr l j=>h _ λ_ _=>rw_ r l j;have cl:∀(r:av Str),r.length+1≠4+ms.length->∀{c:av (av Int×Row)}{db:av D},RowR T hs ms c db (sS "case" :: r) T.aZ:=λr e=>.cs (.ln e);have cn:∀(a b y:Str),¬(cD a=true/\cD b=true)->∀{c:av (av Int×Row)}{db:av D},RowR T hs ms c db (sS "case" :: y::(B++[a,b])) T.aZ:=λa b y e=>.cs (.nu o.kl e);have f:∀{d:D}(_:(mi d=true/\kC d=false):=by exact(rfl,rfl)),Q d:=λe=>h _ λ_ _=>.inl (e.1,e.2,rfl);refine(rfl,(by show (1:Int)<=((44:Nat):Int);decide,by show ((44:Nat):Int)<=_;decide),λr C E=>gd C E (aa (aa (aa (aa (aa (aa (ac (q (kn_ "")) (ac (q (kn_ "")) (ac (q (kn_ "Show")) (ac (q (ln_ "show" 1 (some 1))) (ac (q (kn_ "")) (ac (q (ln_ "show" 1 (some 1))) (ac (q (ln_ "whole" 1 (some 1))) (ac (q (ln_ "ranks" 1 (some 1))) (ac (q (ln_ "back" 1 (some 1))) (ac (q (ln_ "turn" 3 none)) (ac (q (ln_ "turn" 3 none)) an_))))))))))) (ac (q (ln_ "push" 3 none)) (ac (q (ln_ "level" 3 none)) (ac (q (ln_ "few" 3 (some 3))) (ac (q (ln_ "marks" 3 (some 3))) (ac (q (ln_ "few" 3 (some 3))) (ac (q (ln_ "gap" 3 none)) (ac (q (ln_ "knots" 3 none)) an_)))))))) (ac (q (cl _ (by simp only[zzh,zzl,zzY];lia))) (ac (q (kn_ "look")) (ac (q (kn_ "levels")) (ac (q (cn _ _ _ 'k')) an_))))) (ac (q (ln_ "marks" 3 (some 3))) (ac (q (ln_ "hide" 6 (some 10))) (ac (q (ln_ "hide" 6 (some 10))) an_)))) (ac (q (cl _ (by simp only[zzh,zzl,zzY];lia))) (ac (q (cl _ (by simp only[zzh,zzl,zzY];lia))) (ac (q (cl _ (by simp only[zzh,zzl,zzY];lia))) (ac (q (cn _ _ _ 'k')) (ac (q (cn _ _ _ 'k')) (ac (q (cl _ (by simp only[zzh,zzl,zzY];lia))) (ac (q (cn _ _ _ 'k')) an_)))))))) (ac (q (cl _ (by simp only[zzh,zzl,zzY];lia))) (ac (q (cn _ _ _ 'k')) (ac (q (cn _ _ _ 'k')) (ac (q (cn _ _ _ 'k')) an_))))) (ac (q (cn _ _ _ 'k')) (ac (q (cl _ (by simp only[zzh,zzl,zzY];lia))) (ac f (ac f (ac f (ac f (ac f (ac f an_))))))))))
structure Od(z:Str):Prop where
 t:Tz z 16 1 [z]
 w:Wd z
 n:isNm z=false
theorem BU(h:z.length<=16/\(∀c∈z.cps.toList,33<=c/\c<128)/\isNm z=false:=by decide +kernel):Od z:=(('s',λx d q=>by rw[zzt.mp d]at q;exact absurd (h.2.1 32 q).1 'd',rfl,h.1,'s',λc J=>(h.2.1 c J).2),h.2.1,h.2.2)
theorem HN{x:Str}(h:isNm x=true):Od (x++sS "xxxxxxxx"):=by
 have t:=vM h;have i:Tz (x++sS "xxxxxxxx") (8+8) (1+1) [x++sS "xxxxxxxx"]:=inferInstance;have e:(sS "xxxxxxxx").length=8:='k'
 have L:=Wd.nm h;refine((i.ne,i.fr,i.jj,i.le,'s',i.as),λc J=>?_,?_)
 .rw[dH]at J;exact(zzg.mp J).elim (L c) ((by decide +kernel:∀c∈(sS "xxxxxxxx").cps.toList,33<=c/\c<128) c)
 have:=(cX h).1;cases z:isNm (x++sS "xxxxxxxx") with
 |false=>rfl|true =>
  have:=(cX z).2;rw[vL,e]at this;lia
section
variable{T:Tx K mg}{ms:av Mk}{cT:av (av Int×Row)}
theorem ans_{C:ay}(w:String)(lo:Int)(hi:aT Int){r:av Str}(h:AnsR T hs ms cT (sS w::r) C)(nc:sS w≠sS "case":=by decide +kernel)(ok:zal (sS w)=true:=by decide +kernel)(J:zaH (sS w) bU\(.tup [.int lo,hiD hi]):=by rfl)(l:lnB lo hi (r.length+1)=true:=by rfl)(nh:sS w≠sS "hide":=by decide +kernel)(c:sS w≠sS "back":=by decide +kernel):RowR T hs ms cT db (sS w::r) C :=
 .an (key_of w _ true lo hi nc ok J l) nh c h
theorem hid_{C:ay}{r:av Str}(h:HideR T hs ms (sS "hide" :: r) C)(l:lnB 6 (some 10) (r.length+1)=true:=by rfl):RowR T hs ms cT db (sS "hide" :: r) C :=
 .hd (key_of "hide" _ true 6 (some 10) (h:=l)) h
end
theorem HP{x:Str}(h:x∈ws)(n:isNm x=false):¬nmsB ws=true:=λz=>by have:=zyA.mp (Bool.and_eq_true_iff.mp z).1 x h;rw[n]at this;cases this
theorem tn_{T:Tx K mg}{cT:av (av Int×Row)}{db:av D}(w:String)(lo:Int)(hi:aT Int){x:Str}{r:av Str}(h:¬(x∈hs/\y∈hs/\AllM ms r))(c:sS w∈L7:=by decide +kernel)(nc:sS w≠sS "case":=by decide +kernel)(ok:zal (sS w)=true:=by decide +kernel)(J:zaH (sS w) bU\(.tup [.int lo,hiD hi]):=by rfl)(l:lnB lo hi ((x::y::r).length+1)=true:=by rfl)(nh:sS w≠sS "hide":=by decide +kernel)(d:sS w≠sS "back":=by decide +kernel):RowR T hs ms cT db (sS w::x::y::r) T.aV :=
 ans_ w lo hi (.tn c h) nc ok J l nh d
inductive gNn(T:Tx K mg)(ds:List D)(Q:D->Prop):Prop
 |mk hs ms x y m two cz kw:ds=[.pen,.str x,.str two,.str m,.str cz]->Rz hs ms x y m two cz kw->(∀z,(∀cT db,Rw T hs ms cT db (.str z) T.aV)->Q (.str z))->gNn T ds Q
theorem oE(T:Tx K mg):T.oI.Ok P w base CX0 2 (spD K 5 (gNn T)):=by
 refine fnd ["_law_pen_here","_law_one","_law_two_here","_law_mark","_law_case","_law_odd","_law_some","_law_words","_law_at"] (λI _=>(af (dse 5 (dix (aq (aK (ae ag (ae (ak ah (dv 1) ag) (ae ag (da1 ag)))))) (dcl (aw T) I (ae (dv 0) (da1 ai))))) (af (dse 6 (aq (aK (ae (ak ah (ak ah (ak ah ag (dv 5)) ag) (dv 1)) (ae (ak ah (ak ah (ak ah ag (dv 1)) ag) (dv 5)) (ae (ak ah (ak ah (ak ah (ak ah (ak ah ag (dv 1)) ag) (dv 1)) ag) (dv 5)) (da1 (ak ah ag (dv 5))))))))) (af (dse 6 (aq (bA (dv 6) (aq (aK (ae (ak ah (ak ah (ak ah (ak ah (ak ah ag (dv 2)) ag) (dv 3)) ag) (dv 5)) (ae (ak ah (ak ah (ak ah ag (dv 5)) ag) (dv 5)) (da1 (ak ah (ak ah (ak ah ag (dv 5)) ag) (dv 5)))))))))) (af (dse 6 (aq (bA (dv 6) (aq (aK (ae (ak ah (ak ah (ak ah ag (dv 1)) ag) (dv 5)) (ae (ak ah (ak ah ag (dv 3)) ag) (ae (ak ah (ak ah (ak ah ag (dv 1)) ag) (dv 1)) (da1 (ak ah ag (dv 1))))))))))) (af (dse 6 (aq (bA (dv 6) (aq (aK (ae (ak ah (ak ah (ak ah (ak ah ag (dv 2)) ag) (dv 5)) ag) (da1 (ak ah (ak ah (ak ah (ak ah (ak ah (ak ah ag (dv 1)) ag) (dv 1)) ag) (dv 5)) ag)))))))) (af (dse 6 (aq (bA (dv 6) (aq (aK (ae (ak ah (ak ah (ak ah (ak ah ag (dv 2)) ag) (dv 3)) ag) (ae (ak ah (ak ah ag (dv 2)) ag) (da1 (ak ah (ak ah ag (dv 2)) ag))))))))) (bf (dse 6 (aq (bA (dv 6) (aq (aK (ae (ak ah (ak ah (ak ah (ak ah ag (dv 5)) ag) (dv 1)) ag) (da1 (ak ah (ak ah (ak ah (ak ah ag (dv 1)) ag) (dv 5)) ag)))))))) (af (dow 7 (gF (dv 4) ag)) (af (dse 8 (ak de ai (dcl (aw T) I (ae (dv 0) (da1 (ak kA (xk 7 (dln bz T.bJ (dv 7))) ai)))))) (af (gf (dv 5) (Fi (pv 7) (dv 8))) (dr (dix (aq (bA (dv 6) (aq (Fj (aq (aK (da1 (ak ah (xk 7 (gg ag (dv 7))) ag)))) ai)))) (dcl (aw T) I (ae (dv 0) (da1 (ak de (dln bz T.bJ (dv 6)) ai))))))))))))))))) (λds Q hl h=>?_);let(hs,ms,x,y,m,two,b,u,rfl,o,h):=h;have i1:=o.ix;have i2:=o.i2;have i3:=o.im;have k:=o.ic;have i5:=o.ik;refine(al,sz,rfl,('d','d'),λr r0 r1=>gd r0 r1 λd hd=>?_);obtain⟨odd,E,rfl⟩:∃z,Od z/\d=.str z:=by
  simp only[zze,zyb,zxa]at hd;rcases hd with rfl|rfl|rfl|rfl
  .exact(_,BU,rfl)
  .exact(_,HN (o.hn x o.hx),rfl)
  .exact(_,BU,rfl)
  .exact(_,BU,rfl)
 have io:=E.t;have q:∀{z:Str}{n m:Nat}{ws:av Str}[Tz z n m ws](r:∀{g:av (av Int×Row)} {db:av D},RowR T hs ms g db ws T.aV)(l:n<=2000:=by decide +kernel)(B:m<=100:=by decide +kernel),Q (.str z):=λr l B=>h _ λ_ _=>rw_ r l B;have C:¬isNm odd=true:=λz=>by rw[E.n]at z;cases z
 have nh:odd∉hs:=λz=>C (o.hn _ z);have s:∀x∈ms.map (·.1),isNm x=true:=λx hx=>by let(m,B,rfl):=zzi.mp hx;exact(o.mn m B).1
 have nm:∀{r:av Str},odd∈r->¬AllM ms r:=λh z=>C (s _ (z _ h));have v:¬isNm (sS "")=true:='k'
 have i:sS "" ∉ hs:=λz=>v (o.hn _ z);have n0:∀{r:av Str},sS "" ∈ r->¬AllM ms r:=λh z=>v (s _ (z _ h));refine(al,al,al,al,al,al,al,al,al,al,al,al,sz,?_);refine(al,al,al,al,al,al,al,al,al,al,al,sz,sz,?_);refine(al,al,al,al,al,al,al,al,al,sz,sz,?_);refine(al,al,al,al,al,al,al,al,al,al,sz,sz,?_);refine(al,al,al,al,al,al,al,al,sz,sz,?_);refine(λρ=>∃L:av D,(L.length=18/\∀d∈L,Q d)/\ρ=[.val .pen,.val (.str x),.val (.str two),.val (.str m),.val (.str b),.val (.str odd),.val (.lst L),.nil,.nil],?_,?_)
 .refine(al,al,al,al,al,al,al,al,sz,sz,?_);refine(_,(?_,?_),rfl)
  .rfl
  exact aa (aa (aa (aa (aa (ac (q (tn_ "turn" 3 none λh=>nh h.1)) (ac (q (tn_ "turn" 3 none λh=>nh h.2.1)) (ac (q (tn_ "push" 3 none λh=>nm 's' h.2.2)) (ac (q (ans_ "parts" 1 none (.pn (nm 's')))) an_)))) (ac (q (tn_ "gap" 3 none λh=>nm 's' h.2.2)) (ac (q (tn_ "knots" 3 none λh=>nh h.1)) (ac (q (tn_ "few" 3 (some 3) λh=>nh h.1)) an_)))) (ac (q (tn_ "marks" 3 (some 3) λh=>nh h.2.1)) (ac (q (ans_ "parts" 1 none (.pn (n0 's')))) (ac (q (tn_ "turn" 3 none λh=>i h.2.1)) (ac (q (tn_ "turn" 3 none λh=>i h.1)) an_))))) (ac (q (hid_ (.nn o.hx o.hy λh=>C h.1))) (ac (q (hid_ (.nn o.hx o.hx λh=>HP 's' E.n h.2.2))) an_))) (ac (q (hid_ (.nn o.hx o.hy λh=>h.2.1 o.hm))) (ac (q (hid_ (.nn o.hx o.hy λh=>absurd h.2.2 'k'))) (ac (q (hid_ (.nn o.hx o.hy λh=>absurd h.2.2 'k'))) an_)))) (ac (q (hid_ (.nh λh=>nh h.1))) (ac (q (hid_ (.nh λh=>nh h.2))) an_))
 rintro _ ⟨L,⟨U,LQ⟩,rfl⟩;refine(b,rfl,spS,(rfl,'k',zzk (zvb k.le 2) 'k'),?_);rw[k.spl];have p:=o.kl;have m1:=o.m1;have m5:=o.m5;have G:((sS "case" :: x::u).map D.str).length=ms.length+2:=by rw[zza,zzl,zzl];lia
 refine(_,rfl,rfl,(trivial,rfl),rfl,(?_,?_),λat_ a0 a1=>?_)
 .rw[G];lia
 .rw[G];lia
 rw[G]at a1;obtain⟨n,l⟩:∃n:Nat,(n:Int)=1+at_:=((1+at_).toNat,'l');have nl:n<((sS "case" :: x::u).map D.str).length:=by rw[G];lia
 refine(trivial,n,by rw[<-l];exact Hc nl,?_);obtain⟨ws,ew,A,wh,wk⟩:∃ws:av Str,((sS "case" :: x::u).map D.str).set n (.str odd)=ws.map D.str/\(∀x∈ws,Wd x/\x.length<=40)/\ws.length=ms.length+2/\∃l J,ws=sS "case" :: l::J/\J.length=ms.length/\¬CoOk hs ms l J:=by
  have wo:Wd odd/\odd.length<=40:=(E.w,zzk io.le 'd');have M:∀{z:Str},isNm z=true->Wd z/\z.length<=40:=λh=>(Wd.nm h,zzk (cX h).2 'd');have Y:Wd (sS "case")/\(sS "case").length<=40:=by unfold Wd;decide +kernel
  match n,l,nl with
  |0,l,_=>exfalso;lia|1,_,_ =>
   refine(sS "case" :: odd::u,rfl,λz e=>?_,by simp;lia,odd,u,rfl,p,λc=>nh c.hh);rcases zze.mp e with rfl|e
   .exact Y
   .rcases zze.mp e with rfl|e
    .exact wo
    .exact M (o.kn z e)
  |j+2,_,nl =>
   have hj:j<u.length:=by rw[zza,zzl,zzl]at nl;lia
   refine(sS "case" :: x::u.set j odd,?_,λz e=>?_,by simp;lia,x,u.set j odd,rfl,by rw[zeC];exact p,λc=>?_)
   .rw[zzq,zzq,zzq,zzq,List.map_set];rfl
   .rcases zze.mp e with rfl|e
    .exact Y
    .rcases zze.mp e with rfl|e
     .exact M (o.hn _ o.hx)
     .rcases zwq e with e|rfl
      .exact M (o.kn z e)
      .exact wo
   .have N:j<ms.length:='l'
    have:=c.kk (odd,ms[j]) (zyn.mpr (j,zzU.mpr (zyL hj,zzp N)));exact C ((o.mn _ (zzS N)).2 _ this)
 rw[ew];let(hn',J,H,e2,e3):=wk;have it:Tz (zaf spS ws) 492 12 ws:=BP (by rw[H];simp) A ('l','l');have ig:∀bs:av Str,Gl ws (sS "" :: bs) (ws++bs):=λbs=>FH (by rw[H];simp);refine(_,rfl,rfl,spS,rfl,ws,(rfl,iA (λy hy=>(A y hy).2) (by rw[wh,show spS.length=1 by decide +kernel];lia)),(trivial,rfl),al,sz,('d',sz),by rw[U];exact sz,rfl,(?_,?_),λr2 v a=>?_)
 .rw[U];decide
 .rw[U];decide
 .rw[U]at a;refine gd v (by rw[zzh,U];exact a) (aa LQ λd hd=>?_);have:d=.str (zaf spS ws++sS " 2 3"):=by simpa using hd
  rw[this];refine q ?_;intro g db;rw[H];exact .cs (.nm e2 'k' 'k' e3)
def StR(T:Tx K mg)(hs:av Str)(ms:av Mk)(z:Str)(wd:String):Prop:=zal z=true/\∃C,(C,wd)∈Cw T/\∀(c:av (av Int×Row))(db:av D),(z=sS "back" -> db=[])->Rw T hs ms c db (.str z) C
inductive gOs(T:Tx K mg)(ds:List D)(Q:D->Prop):Prop
 |mk hs ms x y m two cz kw f:ds=[.pen,.str x,.str two,.str m,.str cz,.str f]->Rz hs ms x y m two cz kw->isNm f=true/\f∉ms.map (·.1)->(∀z wd,StR T hs ms z wd->Q (.tup [.str z,.str (sS wd)]))->gOs T ds Q
section
variable{T:Tx K mg}{ms:av Mk}{cT:av (av Int×Row)}
theorem two_{C:ay}(w:String)(lo:Int)(hi:aT Int){x:Str}{r:av Str}(e:x∈hs)(g:y∈hs)(c:AllM ms r)(h:TwoR T ms cT (sS w) x y r C)(d:sS w∈L7:=by decide +kernel)(nc:sS w≠sS "case":=by decide +kernel)(ok:zal (sS w)=true:=by decide +kernel)(J:zaH (sS w) bU\(.tup [.int lo,hiD hi]):=by rfl)(l:lnB lo hi ((x::y::r).length+1)=true:=by rfl)(nh:sS w≠sS "hide":=by decide +kernel)(j:sS w≠sS "back":=by decide +kernel):RowR T hs ms cT db (sS w::x::y::r) C :=
 ans_ w lo hi (.tr d e g c h) nc ok J l nh j
end
set_option maxHeartbeats 0 in
theorem kZ(T:Tx K mg):T.lq.Ok P w base CX0 2 (spD K 6 (gOs T)):=by
 refine fnd ["_law_pen_here","_law_one","_law_two_here","_law_mark","_law_case","_law_fresh","_law_twice","_law_alike","_law_some"] (λG _=>(af (dse 6 (ak ah (ak ah (ak ah ag (dv 3)) ag) (dv 3))) (af (dse 7 (ak ah (ak ah (ak ah ag (dv 1)) ag) (dv 1))) (af (dse 8 (aq (aK (ae (aC (ae (ak ah ag (dv 7)) (da1 ag))) (ae (aC (ae (ak ah (ak ah ag (dv 7)) (dv 6)) (da1 ag))) (da1 (aC (ae (ak ah ag (dv 7)) (da1 ag))))))))) (af (dse 8 (aq (bA (dv 8) (aq (aK (ae (aC (ae (ak ah ag (dv 7)) (da1 ag))) (da1 (aC (ae (ak ah (ak ah (ak ah (ak ah ag (dv 7)) ag) (dv 5)) ag) (da1 ag)))))))))) (af (dse 8 (aq (bA (dv 8) (aq (aK (ae (aC (ae (ak ah (ak ah ag (dv 7)) (dv 6)) (da1 ag))) (ae (aC (ae (ak ah ag (dv 6)) (da1 ag))) (da1 (aC (ae (ak ah (ak ah ag (dv 2)) (dv 6)) (da1 ag))))))))))) (af (dse 8 (aq (bA (dv 8) (aq (aK (ae (aC (ae (ak ah (ak ah ag (dv 2)) (dv 6)) (da1 ag))) (ae (aC (ae (ak ah (ak ah ag (dv 2)) (dv 6)) (da1 ag))) (da1 (aC (ae (ak ah (dv 4) ag) (da1 ag))))))))))) (af (dse 8 (aq (bA (dv 8) (aq (aK (ae (aC (ae (ak ah (dv 4) ag) (da1 ag))) (ae (aC (ae (ak ah (dv 4) ag) (da1 ag))) (da1 (aC (ae ag (da1 ag))))))))))) (af (dse 8 (aq (bA (dv 8) (aq (aK (da1 (aC (ae (ak ah (ak ah (ak ah (ak ah (dv 4) ag) (ak qI ag ai)) ag) (ak qI ag ai)) (da1 ag))))))))) (dr (dix (dv 8) (dcl (aw T) G (ae (dv 0) (da1 (dln bz T.bJ (dv 8)))))))))))))))) (λds Q hl h=>?_);have(hs,ms,x,y,m,two,cz,H,f,rfl,o,(f1,f2),h):=h;have i1:=o.ix;have i2:=o.i2;have i3:=o.im;have i4:=o.ic;have i5:=o.ik;have i6:=vM f1;refine(al,al,al,al,al,al,?_);refine(al,sz,al,al,sz,al,sz,sz,?_);refine(al,sz,al,al,al,al,sz,sz,sz,?_);refine(al,al,sz,al,sz,al,al,sz,sz,sz,?_);refine(al,al,sz,al,al,sz,al,sz,sz,sz,?_);refine(al,sz,al,sz,sz,sz,sz,?_);refine(al,by unfold zde;decide +kernel,al,al,by unfold zde;decide +kernel,al,sz,sz,sz,?_);have q:∀{z:Str}{n m:Nat}{ws:av Str}{C:ay}(wd:String)[Tz z n m ws](_:(C,wd)∈Cw T)(r:∀{c:av (av Int×Row)} {db:av D},RowR T hs ms c db ws C)(l:n<=2000:=by decide +kernel)(j:m<=100:=by decide +kernel),Q (.tup [.str z,.str (sS wd)]):=λwd t E r l j=>h _ _ (xz t.as,_,E,λ_ _ _=>rw_ r l j);have J:(T.aO,"house")∈Cw T:=by simp[Cw]
 have U:(T.aP,"mark")∈Cw T:=by simp[Cw]
 have L:(T.br,"book")∈Cw T:=by simp[Cw]
 have d:AllM ms []:=λx g=>nomatch g
 have a2:AllM ms [m,m]:=λx g=>by
  have:x=m:=by simpa using g
  rw[this];exact o.hm
 have bk:∀{a b:Str}(t v:Nat),(cD a=true/\cD b=true/\intText? a\(t:Int)/\intText? b\(v:Int))->¬(v<=t/\t<=1000000000000)->∀{c:av (av Int×Row)}{db:av D},RowR T hs ms c db (sS "case" :: x::(H++[a,b])) T.br:=λt v e n=>.cs (.bk o.kl e.1 e.2.1 (o.hx,o.kk) e.2.2.1 e.2.2.2 n);refine(rfl,(by show (1:Int)<=((15:Nat):Int);decide,by show ((15:Nat):Int)<=_;decide),λr I M=>gd I M ?_);exact aa (aa (aa (aa (aa (ac (q "house" J (two_ "turn" 3 none o.hx o.hx d (.inl (rfl,'s',rfl)))) (ac (q "house" J (two_ "push" 3 none o.hx o.hx a2 (.inl (rfl,'s',rfl)))) (ac (q "house" J (two_ "few" 3 (some 3) o.hx o.hx d (.inl (rfl,'s',rfl)))) an_))) (ac (q "house" J (two_ "marks" 3 (some 3) o.hx o.hx d (.inl (rfl,'s',rfl)))) (ac (q "house" J (hid_ (.ho o.hx f1 f2 'k'))) an_))) (ac (q "house" J (two_ "knots" 3 none o.hx o.hx a2 (.inl (rfl,'s',rfl)))) (ac (q "mark" U (ans_ "parts" 1 none (.pm a2))) (ac (q "mark" U (two_ "gap" 3 none o.hx o.hy a2 (.inr (.inl (o.ne,(_,rfl),'k',rfl))))) an_)))) (ac (q "mark" U (two_ "knots" 3 none o.hx o.hy a2 (.inr (.inl (o.ne,(_,rfl),'k',rfl))))) (ac (q "mark" U (two_ "level" 3 none o.hx o.hy a2 (.inr (.inl (o.ne,(_,rfl),'k',rfl))))) (ac (q "book" L (bk 1 2 'k' 'l')) an_)))) (ac (q "book" L (bk 0 1 'k' 'l')) (ac (q "book" L (bk 1000000000001 1 'k' 'l')) (ac (h _ "back" ('k',T.bC,by simp[Cw],λ_ _ e=>rw_ (.bk (e rfl)))) an_)))) (ac (q "book" L (bk (10^30-1) (10^30-1) 'k' 'l')) an_)
inductive gEm(T:Tx K mg)(ds:List D)(Q:D->Prop):Prop
 |mk hs ms x y m two cz kw:ds=[.pen,.str two]->Rz hs ms x y m two cz kw->(∀z wd C,(C,wd)∈Cw T->(∀db,Rw T hs ms [] db (.str z) C)->Q (.tup [.str z,.str (sS wd)]))->gEm T ds Q
theorem ui(T:Tx K mg):T.uo.Ok P w base CX0 2 (spD K 2 (gEm T)):=by
 refine fnd ["_law_pen_here","_law_two_here","_law_some"] (λg _=>(af (dse 2 (aq (aK (ae (aC (ae (ak ah ag (dv 1)) (da1 ag))) (ae (aC (ae (ak ah ag (dv 1)) (da1 ag))) (ae (aC (ae (ak ah ag (dv 1)) (da1 ag))) (da1 (aC (ae (ak ah ag (dv 1)) (da1 ag)))))))))) (dr (dix (aq (bA (dv 2) (aq (aK (da1 (aC (ae (ak ah ag (dv 1)) (da1 ag)))))))) (dcl (aw T) g (ae (dv 0) (da1 ai))))))) (λds Q hl h=>?_);let(hs,ms,x,y,m,two,cz,kw,rfl,o,h):=h;have i2:=o.i2;have q:∀{z:Str}{n m:Nat}{ws:av Str}{C:ay}(wd:String)[Tz z n m ws](_:(C,wd)∈Cw T)(r:∀{db:av D},RowR T hs ms [] db ws C)(e:n<=2000:=by decide +kernel)(d:m<=100:=by decide +kernel),Q (.tup [.str z,.str (sS wd)]):=λwd _ U r e d=>h _ _ _ U λ_=>rw_ r e d;have J:(T.bi,"table")∈Cw T:=by simp[Cw]
 have c:AllM ms []:=λx j=>nomatch j
 have L:∀{w:Str},w∈L4->TwoR T ms [] w x y [] T.bi:=λh=>.inr (.inr (.inl (o.ne,rfl,rfl,h,rfl)));refine(al,sz,al,sz,al,sz,al,sz,sz,al,sz,sz,sz,rfl,('d','d'),λr l u=>gd l u ?_);exact aa (ac (q "table" J (two_ "turn" 3 none o.hx o.hy c (L 'k'))) (ac (q "table" J (two_ "push" 3 none o.hx o.hy c (L 'k'))) (ac (q "table" J (two_ "gap" 3 none o.hx o.hy c (L 'k'))) (ac (q "lead" (by simp[Cw]) (two_ "few" 3 (some 3) o.hx o.hy c (.inr (.inr (.inr (o.ne,rfl,rfl,rfl,rfl)))))) an_)))) (ac (q "table" J (two_ "level" 3 none o.hx o.hy c (L 'k'))) an_)
inductive gBt(ds:List D)(Q:D->Prop):Prop
 |mk hs ms cT:ds=[.pen,.str (aL hs ms cT)]->BkT hs ms cT->(aU hs ms cT).length <= 59->1 <= ms.length->(∀d(k:Nat),BadD d k->Q (.tup [d,.int k]))->gBt ds Q
set_option maxHeartbeats 0 in
theorem nD(T:Tx K mg):T.nF.Ok P w base CX0 2 (spD K 2 gBt):=by
 refine fnd ["_law_pen_here","_law_text_here","_law_last","_law_some"] (λk _=>(af (dse 2 (Bg (dv 1) ag)) (af (dse 3 (aq (aK (ae (aC (ae fG (da1 ai))) (ae (aC (ae ai (da1 ai))) (ae (aC (ae (aq (aK (a1 1))) (da1 ai))) (ae (aC (ae ag (da1 ai))) (ae (aC (ae (ak ah ag (dv 1)) (da1 ai))) (ae (aC (ae (ak ah ag (dv 1)) (da1 ai))) (da1 (aC (ae (ak ah ag (dv 1)) (da1 ai))))))))))))) (af (dse 3 (aq (bA (dv 3) (aq (aK (da1 (aC (ae (ak ah (dv 1) ag) (a1 2))))))))) (af (dse 3 (aq (bA (dv 3) (dfc (aH ["_law_more","_law_text_here","_law_last"] [none,some 1,some 2] rfl (eQ (aC (ae ag (ae ag (ae ag (ae ag (ae ag (da1 ag)))))))) (dgb 0) aG (aC (ae (ak ah (dv 1) (dv 0)) (da1 (ak de (dv 2) ai))))))))) (dr (dix (dv 3) (dcl (aw T) k (ae (dv 0) (da1 (dln bz T.bJ (dv 3)))))))))))) (λds Q B h=>?_);have(hs,ms,g,rfl,o,ln,n,h):=h;have G:=yM o;have tl:=rA o;have C:∀{x:Str},x.length<=100->(aL hs ms g).length+x.length<=zaa:=λh=>zzk (show _<=30100 by lia) 'd';have L:∀{x:Str},x.length<=100->x.length+(aL hs ms g).length<=zaa:=λh=>zzk (show _<=30100 by lia) 'd';have h0:=BR o;have E:=yN o ln;have B:=BS o n ln;generalize (g.flatMap (csOf hs ms)).length=q at G E B;generalize ht:aL hs ms g=t at *;refine(_,rfl,nlS,rfl,?_);rw[G];refine(sz,sz,sz,sz,sz,L 'k',sz,L 'k',sz,L 'k',sz,sz,?_);refine(C 'k',sz,sz,sz,?_);refine(sz,?_);have I:((ms.length+q:Nat):Int)+1=((1+(ms.length+q):Nat):Int):='l'
 refine cm (λd=>match d with|.str m=>.tup [.str (t++m),.int ((1+(ms.length+q):Nat):Int)]|_=>.non) (λH=>∃s,H=[s,.val (.str t),.val (.int ((ms.length+q:Nat):Int))]) 'd' (λd hd H Y Z M N=>?_) _ (_,rfl) ?_
 .let(s,rfl):=M;walk;obtain⟨m,rfl,i⟩:∃m:Str,d=.str m/\m.length<=100:=by
   simp only[zze,zyb,zxa]at hd;rcases hd with rfl|rfl|rfl|rfl|rfl|rfl<;>exact(_,rfl,'k')
  x_go;refine Br.t (C i,sz,?_);dsimp only;rw[I];exact N _ (_,rfl)
 have v:∀d,(mi d=true/\kC d=false)->Q (.tup [d,.int 0]):=λd e=>h d 0 (.inl (e.1,e.2,rfl));have J:∀(w:Str)(U l:av Str)(rest:av (av Str)),(zab w nlS=sS "" :: U/\w.length<=20/\(∀c∈w.cps.toList,c<128)/\U.length<=5/\U.map (λl=>zab l spS)=l::rest/\l.length<=3/\(l.length<=2∨l.head? ≠ some eG))->Q (.tup [.str (t++w),.int ((1+(ms.length+q):Nat):Int)]):=λw a b c e=>h _ _ (E w a b c e);refine(sz,rfl,(by show (1:Int)<=((14:Nat):Int);decide,by show ((14:Nat):Int)<=_;decide),λr p y=>gd p y ?_);refine aa (aa (ac (v _ (rfl,rfl)) (ac (v _ (rfl,rfl)) (ac (v _ (rfl,rfl)) (ac ?_ (ac ?_ (ac ?_ (ac ?_ an_))))))) (ac (h _ _ B) an_)) ?_
 .exact h _ 0 (.inr (_,rfl,('k','k','k'),.inl (rfl,sS "",[],[],'k','k')))
 .exact h _ 0 (h0 (sS "x") [] (sS "x") 'k' (.inl (rfl,[],sS "x",'k',.inl (rfl,'k'))))
 .exact h _ 0 (h0 (sS " ") [] (sS " ") 'k' (.inl (rfl,[sS ""],sS "",'k',.inr (sS "",[],rfl,'k'))))
 .exact h _ 0 (h0 (sS "\n") [sS ""] (sS "") 'k' (.inr (sS "",[],rfl,sS "",[],'k','k')))
 .refine ac (J _ [sS ""] [sS ""] [] 'k') (ac (J _ [sS "",sS ""] [sS ""] [[sS ""]] 'k') (ac (J _ [sS "houses a b"] [sS "houses",sS "a",sS "b"] [] 'k') (ac (J _ [sS "case q"] [sS "case",sS "q"] [] 'k') (ac (J _ [sS "mark q"] [sS "mark",sS "q"] [] 'k') (ac (J _ [sS "x"] [sS "x"] [] 'k') an_)))))
structure Lw(hs:List Str)(ms:List Mk)(cells:List (List Int×Row))(x y m two cz:Str)(kw:List Str)(f:Str):Prop where
 o:BkT hs ms cells
 z:Rz hs ms x y m two cz kw
 f1:isNm f=true
 f2:f∉ms.map (·.1)
 m4:ms.length <= 4
 c9:cells.length <= 9
 l59:(aU hs ms cells).length <= 59
 r45:∀c∈cells,RowN 45 hs.length c.2
structure Sk(hs:List Str)(ms:List Mk)(cells cells':List (List Int×Row))(db:List D)(b:Bool):Prop where
 o:BkT hs ms cells'
 c:cells'.length <= 10
 p:db.length <= 10
 st:(b=false/\cells'=cells/\db=[])∨(b=true/\cells'≠cells/\db=[.tup [nmD hs ms,bkD hs ms cells]])
section
variable{T:Tx K mg}{ms:av Mk}{cT:av (av Int×Row)}
def Du(T:Tx K mg)(hs:av Str)(ms:av Mk)(cT:av (av Int×Row))(db:av D)(d:D)(wd:String):Prop:=(mi d=true/\kC d=false/\wd = "row")∨∃z ws C,d=.str z/\Sp z ws/\RowR T hs ms cT db ws C/\(C,wd)∈Cw T
theorem Kx{d:D}(h:Rw T hs ms cT db d T.aZ):Du T hs ms cT db d "row":=h.imp (λh=>(h.1,h.2.1,rfl)) λ⟨z,ws,e,s,r⟩=>(z,ws,_,e,s,r,by simp[Cw])
theorem uj{C:ay}(m:(C,wd)∈Cw T)(h:Rw T hs ms cT db (.str z) C):Du T hs ms cT db (.str z) wd:=by
 rcases h with ⟨_,h,_⟩|⟨J,ws,e,s,r⟩
 .cases h
 .exact .inr (J,ws,C,e,s,r,m)
theorem Mh{d:D}(h:Du T hs ms cT db d wd):zal (sS wd)=true:=by
 rcases h with ⟨_,_,rfl⟩|⟨_,_,C,_,_,_,m⟩
 .decide +kernel
 .simp only[Cw,zze,zyb,zxa,zak.injEq]at m;rcases m with ⟨_,rfl⟩|⟨_,rfl⟩|⟨_,rfl⟩|⟨_,rfl⟩|⟨_,rfl⟩|⟨_,rfl⟩|⟨_,rfl⟩|⟨_,rfl⟩<;>decide +kernel
theorem wrd_{a:ay}{d:D}{Q:D->O->Prop}{W:ay->O->Prop}(o:BkT hs ms cT)(c:cT.length<=10)(p:db.length<=10)(h:Du T hs ms cT db d wd)(q:Q (.str (sS wd)) (dkO T a hs ms cT db)):gWrd T (dkO T a hs ms cT db) [d] Q W:=by
 refine(a,hs,ms,cT,db,d,rfl,rfl,o,c,p,?_);rcases h with ⟨e,g,rfl⟩|⟨z,ws,C,rfl,s,r,m⟩
 .exact .inl (e,g,q)
 .exact .inr (z,ws,rfl,s,C,wd,r,m,q)
theorem rC{a:ay}{Q:D->O->Prop}{W:ay->O->Prop}(o:BkT hs ms cT)(c:cT.length<=10)(p:db.length<=10)(q:Q (.str (aL hs ms cT)) (dkO T a hs ms cT db)):gSay T (dkO T a hs ms cT db) [.str (sS "show")] Q W :=
 (a,hs,ms,cT,db,_,rfl,rfl,o,c,p,.inr (_,_,rfl,Tz.sp inferInstance 'k' 'k',.inr (.inl (rfl,q))))
theorem Ez{a:ay}{Q:D->O->Prop}{W:ay->O->Prop}(o:BkT hs ms ps)(c:ps.length<=10)(q:Q (.str (sS "ok")) (dkO T a hs ms cT [])):gSay T (dkO T a hs ms ps [.tup [nmD hs ms,bkD hs ms cT]]) [.str (sS "back")] Q W :=
 (a,hs,ms,ps,_,_,rfl,rfl,o,c,'s',.inr (_,_,rfl,Tz.sp inferInstance 'k' 'k',.inr (.inr (.inl (rfl,[],_,_,rfl,q)))))
theorem EA{a:ay}{x m cz f:Str}{kw:av Str}{Q:D->O->Prop}{W:ay->O->Prop}(l:Lw hs ms cT x y m b cz kw f)(q:Q (.str (sS "ok")) (dkO T a hs ms (putC hs ms cT x kw 5 2) [.tup [nmD hs ms,bkD hs ms cT]])):gSay T (dkO T a hs ms cT []) [.str (cz++sS " 5 2")] Q W:=by have i4:=l.z.ic;have i5:=l.z.ik;have c9:=l.c9;have t:Tz (cz++sS " 5 2") _ _ (sS "case" :: x::(kw++[sS "5",sS "2"])):=inferInstance;exact(a,hs,ms,cT,[],_,rfl,rfl,l.o,'l','s',.inr (_,_,rfl,t.sp 'k' 'k',.inr (.inr (.inr (x,kw,sS "5",sS "2",5,2,rfl,l.z.kl,'k','k',(l.z.hx,l.z.kk),'k','k','l',q)))))
end
theorem bk12{T:Tx K mg}{cT:av (av Int×Row)}{db:av D}{x m:Str}{kw:av Str}{f:Str}(l:Lw hs ms cT x y m a b kw f):Rw T hs ms ps db (.str (b++sS " 1 2")) T.br:=by have i4:=l.z.ic;have i5:=l.z.ik;exact rw_ (ws:=sS "case" :: x::(kw++[sS "1",sS "2"])) (.cs (.bk (t:=1) (v:=2) l.z.kl 'k' 'k' (l.z.hx,l.z.kk) 'k' 'k' 'o'))
abbrev lwF(T:Tx K mg)(hs:av Str)(ms:av Mk)(cT cells':av (av Int×Row))(a b:D)(x two m f cz:Str)(L:D)(k:Nat)(ad:ay)(db:av D)(U:Bool)(s18 s19 s20 J:Sl):DS :=
 [.nil,.val .pen,.val (bkD hs ms cT),.val (nmD hs ms),.val a,.val b,.val (.str x),.val (.str two),.val (.lst ((ms.map (·.1)).map .str)),.val (.str m),.val (.str f),.val (.str cz),.val (.str (aL hs ms cT)),.val L,.val (.int k),.obj (dkO T ad hs ms cells' db),.val (.bl U),.val (.str (aL hs ms cells')),s18,s19,s20,J]
theorem Ky(cs:av (av Int×Row)):shp (.tup (cs.map bQ))=true:=Shp.shp (n:=4) (.tup λd hd=>by
 let(c,_,rfl):=zzi.mp hd;refine Shp.tup λe g=>?_;simp only[zze,zyb,zxa]at g;rcases g with rfl|rfl
 .refine Shp.tup λi hi=>?_;let(j,_,rfl):=zzi.mp hi;exact .int
 .refine Shp.tup λi hi=>?_;let(j,_,rfl):=zzi.mp hi;exact .pair)
def FS:av Str:=[sS "zzzzzzzz",sS "y",sS "xx",sS "www",sS "v"]
theorem Kz{ns:av Str}(h:ns.length<=4):∃f r,(FS.filter λw=>!decide (w∈ns))=f::r/\isNm f=true/\f∉ns:=by
 cases e:FS.filter λw=>!decide (w∈ns) with
 |nil =>
  have j:FS.Nodup:='k'
  have:=List.Nodup.length_le_of_subset j (l₂:=ns) λx g=>by have:=zxq.mp e x g;simpa using this
  have:5<=ns.length:=this;omega
 |cons f r =>
  have:f∈FS.filter λw=>!decide (w∈ns):=by rw[e];exact zzd
  let(c,d):=zzM.mp this;exact(f,r,rfl,(by decide +kernel:∀f∈FS,isNm f=true) f c,by simpa using d)
theorem HQ{ns:av Str}{Q:av D->Prop}(q:Q ((FS.filter λw=>!decide (w∈ns)).map D.str)):cZ (bO 0) (dB (dOp Fm (dVar 0) (dVar 1))) (dVar 0) (FS.map D.str) [] [.nil,.val (.lst (ns.map D.str))] Q:=by
 refine bY (λpre c e=>c=((pre.filter λw=>!decide (w∈ns)).map D.str)/\∃s,e=[s,.val (.lst (ns.map D.str))]) (λc e J=>by rw[J.1];exact q) (λU z p1 c e Y g J L=>?_) _ (rfl,_,rfl);let(rfl,s,rfl):=J;refine((rfl,cK _),?_);rw[iw];by_cases d:z∈ns
 .rw[zzj d];exact Br.f (L _ _ (by rw[zyz];simp[d],_,rfl))
 .rw[zzo d];refine Br.t (?_,L _ _ (by rw[zyz];simp[d],_,rfl));have h1:=zxg (λw=>!decide (w∈ns)) U;have j:=congrArg zai g;rw[zzh]at j;have h3:FS.length=5:=rfl;rw[zza];exact zzE (show _<=5 by lia) 'd'
theorem Mi(T:Tx K mg)(B:Bm mg base):T.Cg.Ok P w base CX0 12 (Tactic.spLaw K):=by
 refine LN (k:=11) T.Cg.d.F sc_law rfl 'd' (λcdv A outer s H E u=>fV (i:=1) sc_law.nd rfl (by room) (zE (vq T) (u.mono 'd') rfl T.eY.d.m T.eY.d.F.kp T.eY.d.b .nil Gi (bj (pv 0) ci))) (λhcd=>λu nd=>(af (dse 2 (dcl (vE T) u (da1 (dcl (vA T) u (ae (dv 1) (da1 ai)))))) (af (dse 3 (dcl (tW T) u (a2 1 2))) (af (gf (dcl (yD T) u (ae (dv 1) (da1 (dx 2)))) (dg2 4 5)) (af (dse 6 (dix (dx 3) (dv 4))) (af (dse 7 (ak ah (ak ah (ak ah ag (dv 6)) ag) (dix (dx 3) (dv 5)))) (af (dse 8 (dfc (aH ["_law_word_here","_law_kinds"] [none,none] rfl (bq (dx 3)) (dg2 0 1) aG (dv 0)))) (af (dse 9 (dix (dv 8) (dcl (aw T) u (ae (dv 1) (da1 (dln bz T.bJ (dv 8))))))) (af (dse 10 (dix (dfc (aH ["_law_word_here","_law_marks"] [none,some 8] rfl (eQ (aC (ae ag (ae ag (ae ag (ae ag (da1 ag))))))) (dgb 0) (AQ (aE iY (dv 0) (dv 1) rfl)) (dv 0))) ai)) (af (dse 11 (gg ag (aq (bA (aq (aK (ae ag (a1 6)))) (dfc (aH ["_law_word_here","_law_kinds"] [none,none] rfl (bq (dx 3)) (dg2 0 1) aG (dx 1))))))) (bf (dse 12 (dcl (vC T) u (a2 3 2))) (af (gf (dcl (nD T) u (a2 1 12)) (dg2 13 14)) (af (Ea (i:=15) T.kN (uc T) (u.mono 'd') rfl T.BW T.dm.b (dv 12) nd rfl (by room)) (af (dse 16 (dc (cc u) (dcl (aw T) u (ae (dv 1) (da1 ai))) ai)) (bf (dir (PWD.pt (dA (bu (bc (dcl (oC T) u (a2 13 14)))) (ck (PWD.pt (lZ (bc (dv 16)) (jM (aE (gc u) (dO (dj T) iq rfl (u.mono 'd') T.aJ T.dl T.cP.b (pv 15) (da1 (ak ah (dv 11) ag))) ag))))))) fR) (af (dse 17 (dO (dj T) iq rfl (u.mono 'd') T.aJ T.dl T.cP.b (pv 15) (da1 ag))) (af (dir (aE (cc u) (dc (cc u) (dv 17) (dv 12)) (dv 16)) fR) (bf (dL (cU T.eI (da1 ai)) (dgn 18) (af (dse 19 (dcl (aw T) u (ae (dv 1) (da1 ai)))) (af (AK rfl nd (i:=20) (j:=21) rfl rfl 'd' rfl rfl (ae (dcl (rB T) u (ae (dv 1) (ae (dv 6) (a3 7 9 11)))) (da1 ag)) rfl) (bf (dif (aE (cc u) (dv 19) ai) (az (AK rfl nd (i:=20) (j:=21) rfl rfl 'd' rfl rfl (ae (dcl (oE T) u (ae (dv 1) (ae (dv 6) (a3 7 9 11)))) (da1 ag)) rfl))) (bf (dif (aE (cc u) (dv 19) ai) (af (gf (dcl (kZ T) u (ae (dv 1) (ae (dv 6) (ae (dv 7) (a3 9 11 10))))) (dg2 20 21)) (bf (dif (PWD.pt (lZ (aE (cc u) (dv 17) (dv 12)) (lZ (aE (cc u) (dx 2) (aC fJ)) (jM (aE (cc u) (dcl (aw T) u (ae (dv 1) (da1 ai))) ai))))) (az (gf (dcl (ui T) u (a2 1 7)) (dg2 20 21)))) (az (dif (PWD.pt (lZ (bc (dv 16)) (jM (aE (cc u) (dv 20) ag)))) (az (AK rfl nd (i:=20) (j:=21) rfl rfl 'd' rfl rfl (ae (ak ah (dv 11) ag) (da1 ag)) rfl))))))) (az (dir (PWD.pt (dA (aE (gc u) (xp (x:="_law_word") (kJ T) iq rfl (u.mono 'd') rfl T.bL.d.m T.bL.d.F.kp T.bL.d.b (pv 15) (a1 20)) (dv 21)) (ck (aE (gc u) (dO (dj T) iq rfl (u.mono 'd') T.aJ T.dl T.cP.b (pv 15) (da1 ag)) (dv 17))))) fR))))))) (bf (dir (PWD.pt (lZ (bc (dv 16)) (jM (aE (gc u) (dO (dj T) iq rfl (u.mono 'd') T.aJ T.dl T.cP.b (pv 15) (da1 ag)) ag)))) fR) (dr (eO (dc (cc u) (dO (dj T) iq rfl (u.mono 'd') T.aJ T.dl T.cP.b (pv 15) (da1 ag)) (dv 12)) (fH (dc (cc u) (xp (x:="_law_word") (kJ T) iq rfl (u.mono 'd') rfl T.bL.d.m T.bL.d.F.kp T.bL.d.b (pv 15) (da1 ag)) ag))))))))))))))))))))))) ?_;refine(rfl,_,rfl,('d','d'),λb0 b3 b2 b5=>(rfl,b0,rfl,b3,b2,b5,λb wb=>(rfl,b,rfl,wb,λhs ms nb=>?_)));let(o,m1,m4,l59,r45,a9):=Kn wb nb;have c9:=wb.c9;rw[Es nb];obtain⟨g,a6⟩:∃g,g=b.cells:=(_,rfl);rw[<-a6]at o l59 r45 c9⊢;clear a6 nb wb b5 b2 b3;refine(rfl,hs.length,rfl,(o.h2,o.h6),λa b' ha hb ab=>(rfl,?_));have ix:∀{i:Nat}(h:i<hs.length){Q:D->Prop},Q (.str hs[i])->opt (atI (hs.map D.str) (i:Int)) Q:=λ{i} h {Q} q=>aX 'o' (by rw[zzV,zzz,zzp h];rfl) q;refine ix ha ?_;have ne:hs[a]≠hs[b']:=λz=>ab (by have:=pN o.hd ha;rw[z,pN o.hd hb]at this;exact this.symm);have hx:hs[a]∈hs:=zzS ha;have hy:hs[b']∈hs:=zzS hb;have iy:=λ{Q}=>ix hb (Q:=Q);generalize hs[a]=x at *;generalize hs[b']=y at *;have i1:=vM (o.hn x hx);have i2:=vM (o.hn y hy);refine(al,al,iy (al,?_));have mc:∀{Q:av D->Prop},Q ((ms.map (·.1)).map D.str)->cZ (qx 2 (dQ (bO 0) (dQ (bO 1) sR))) cf (dVar 0) (ms.map mkD) [] [.nil,.nil] Q:=λ{Q} q=>by
  refine cm (λd=>match d with|.tup (x::_)=>x|_=>.non) (λG=>∃s s',G=[s,s']) (by rw[zza];exact zzk m4 'd') (λd hd G Y Z hN hY=>?_) _ (_,_,rfl) ?_
  .let(s,s',rfl):=hN;let(m,_,rfl):=zzi.mp hd;exact(rfl,Br.t (hY _ (_,_,rfl)))
  .rw[zzv]at q⊢;exact q
 refine mc ?_;have ml:((ms.map (·.1)).map D.str).length=ms.length:=by rw[zza,zza]
 refine(rfl,(by rw[ml];omega,by rw[ml];omega),λr r0 r1=>gd r0 r1 λd hd=>?_);let(m,n,rfl):=zzi.mp hd;clear hd r1 r0;let(f,fr,ef,f1,f2):=Kz (ns:=ms.map (·.1)) (by rw[zza];exact m4);refine(sz,HQ ?_);rw[ef];refine aX 'd' rfl ?_;have h6:=o.h6;obtain⟨kw,a8⟩:∃kw:av Str,kw=ms.map λm=>m.2.headD zat:=(_,rfl);have kl:kw.length=ms.length:=by rw[a8,zza]
 have kc:∀{Q:av D->Prop},Q (kw.map D.str)->cZ (qx 2 (dQ (bO 0) (dQ (bO 1) sR))) cf (dOp gIx (dVar 1) (dC (.int 0))) (ms.map mkD) [] [.nil,.nil] Q:=λ{Q} q=>by
  refine cm (λd=>match d with|.tup [_,.lst (x::_)]=>x|_=>.str zat) (λG=>∃s s',G=[s,s']) (by rw[zza];exact zzk m4 'd') (λd hd G Y Z hN hY=>?_) _ (_,_,rfl) ?_
  .let(s,s',rfl):=hN;let(m,n,rfl):=zzi.mp hd;have:=a9 m n;let(mn,mk):=m;cases mk with
   |nil=>simp at this|cons z mk=>exact(rfl,Br.t (aX 'd' rfl (hY _ (_,_,rfl))))
  .rw[a8,zzv]at q;rw[zzv];refine cast (congrArg Q (zzJ λm n=>?_)) q;have:=a9 m n;let(mn,mk):=m;cases mk with
   |nil=>simp at this|cons z mk=>rfl
 have kk:∀p∈kw.zip ms,p.1∈p.2.2:=λp hp=>by
  let(i,hi):=zyn.mp hp;let(q1,q2):=zzU.mp hi;rw[a8,zzz,q2]at q1;have:=a9 p.2 (zzK q2);have q1:p.2.2.headD zat=p.1:=by simpa using q1
  cases e:p.2.2 with
  |nil=>rw[e]at this;simp at this|cons z mk=>rw[e]at q1;rw[<-q1];exact zzd
 obtain⟨I,ec⟩:∃I,I=zaf spS (sS "case" :: x::kw):=(_,rfl);obtain⟨two,e2⟩:∃two,two=sS " " ++ x++sS " " ++ y:=(_,rfl);have z:Rz hs ms x y m two I kw:=(o.hn,λm n=>((o.mn m n).1,(o.mn m n).2.2.2.1),m1,o.m5,hx,hy,ne,n,kl,kk,e2,ec);have J:Lw hs ms g x y m two I kw f:=(o,z,f1,f2,m4,c9,l59,r45);refine(_,rfl,sz,kc (?_,sS "case" :: x::kw,(rfl,?_),?_))
 .rw[zza];exact zzk (show 2+kw.length<=10 by omega) 'd'
 .refine iA (B:=40) (λw hw=>?_) (by rw[show (zao " ").length=1 by decide +kernel];simp;omega);rcases zze.mp hw with rfl|hw
  .decide +kernel
  .rcases zze.mp hw with rfl|hw
   .exact zzk (cX (o.hn _ hx)).2 'd'
   .exact zzk (cX (z.kn w hw)).2 'd'
 refine(λG=>∃hs ms g x y m two I kw f,∃a b:D,Lw hs ms g x y m two I kw f/\G=[.nil,.val .pen,.val (bkD hs ms g),.val (nmD hs ms),.val a,.val b,.val (.str x),.val (.str two),.val (.lst ((ms.map (·.1)).map .str)),.val (.str m),.val (.str f),.val (.str I),.val (.str (aL hs ms g)),.nil,.nil,.nil,.nil,.nil,.nil,.nil,.nil,.nil],?_,?_)
 .subst ec e2;exact(rfl,hs,ms,g,_,_,rfl,o.sh,hs,ms,g,x,y,m,_,_,kw,f,_,_,J,rfl)
 clear J z ec e2 kk kc kl a8 h6 ef f1 f2 ml n mc i1 i2 ne ix iy hx hy ab ha hb o l59 r45 c9 a9 m4 m1;rintro _ ⟨hs,ms,g,x,y,m,two,I,kw,f,a,b,J,rfl⟩;have o:=J.o;let(t0,tg):=gk o;refine(rfl,hs,ms,g,rfl,o,J.l59,J.z.m1,λbd k b6=>(rfl,λad=>(ad,_,rfl,rfl,_,hs,ms,_,rfl,t0,tg,?_)));rw[BH o];refine(_,_,rfl,rfl,rfl,('d','d'),λr2 p0 p1=>((rfl,rfl),?_));generalize eqD (.int r2) (.int 1)=bg;refine(λG=>∃l db,Sk hs ms g l db bg/\G=[.nil,.val .pen,.val (bkD hs ms g),.val (nmD hs ms),.val a,.val b,.val (.str x),.val (.str two),.val (.lst ((ms.map (·.1)).map .str)),.val (.str m),.val (.str f),.val (.str I),.val (.str (aL hs ms g)),.val bd,.val (.int k),.obj (dkO T ad hs ms l db),.val (.bl bg),.nil,.nil,.nil,.nil,.nil],?_,?_)
 .refine(rfl,bd,k,rfl,b6,Br.f ?_);have c9:=J.c9;cases bg with
  |false=>exact Br.f (Br.f (g,[],(o,'o','s',.inl (rfl,rfl,rfl)),rfl))|true =>
   have i4:=J.z.ic;have i5:=J.z.ik;let(q1,q2,q3):=Ku o J.m4 c9 J.r45 J.z.kl (J.z.hx,J.z.kk);refine Br.t (ad,_,_,rfl,'k',al,_,rfl,(ad,rfl),rfl,EA J ((s0 "ok",s0 "ok"),?_));show Br (!eqD (.str (sS "ok")) (.str (sS "ok"))) _ _;rw[dZ (s0 "ok")];exact Br.f (_,_,(q1,q2,'s',.inr (rfl,q3,rfl)),rfl)
 rintro _ ⟨l,db,M,rfl⟩;refine(ad,_,_,rfl,'k',_,rfl,(ad,rfl),rfl,rC M.o M.c M.p ?_);have st:shp (.str (aL hs ms g))=true:=aS (xz t0.1.asc);have a7:shp (.str (aL hs ms l))=true:=aS (xz (gk M.o).1.1.asc);refine((a7,st),(rfl,rfl),?_);have e1:eqD (.str (aL hs ms l)) (.str (aL hs ms g))=!bg:=by
  rcases M.st with ⟨rfl,rfl,_⟩|⟨rfl,ne,_⟩
  .exact dZ st
  .rw[fq,zzo λe=>ne (Ey M.o o e)];rfl
 show Br (eqD (.bl (eqD (.str (aL hs ms l)) (.str (aL hs ms g)))) (.bl bg)) _ _;rw[e1,show eqD (.bl (!bg)) (.bl bg)=false by cases bg<;>rfl];refine Br.f (λG=>∃L U a4 a5:Sl,G=lwF T hs ms g l a b x two m f I bd k ad db bg L U a4 a5,(('d','d'),?_),?_)
 .refine fj (λk' G=>∃L U a4 a5:Sl,G=lwF T hs ms g l a b x two m f I bd k ad db bg L U a4 a5) _ _ (λG h=>h) ?_ _ (_,_,_,_,rfl);rintro i G X i0 i1 ⟨L,U,a4,a5,rfl⟩ hX;refine(rfl,('d','d'),λw w0 w1=>(rfl,hs,ms,x,y,m,two,I,kw,rfl,J.z,λd hd=>?_));refine(λG=>∃d wd,Du T hs ms l db d wd/\G=lwF T hs ms g l a b x two m f I bd k ad db bg (.val (.int i)) (.val (.int w)) (.val d) (.val (.str (sS wd))),?_,?_)
  .refine((rfl,rfl),?_);show Br (eqD (.int w) (.int 1)) _ _;rw[cJ];exact Br.di (λ_=>(rfl,hs,ms,x,y,m,two,I,kw,rfl,J.z,λzn hz=>(_,"name",uj (by simp[Cw]) (hz l db),rfl))) λ_=>(d,"row",Kx (hd l db),rfl)
  rintro _ ⟨d,wd,du,rfl⟩;refine(λG=>∃d wd,Du T hs ms l db d wd/\G=lwF T hs ms g l a b x two m f I bd k ad db bg (.val (.int i)) (.val (.int w)) (.val d) (.val (.str (sS wd))),?_,?_)
  .refine((rfl,rfl),?_);show Br (eqD (.int w) (.int 2)) _ _;rw[cJ];refine Br.di (λ_=>(rfl,hs,ms,x,y,m,two,I,kw,f,rfl,J.z,(J.f1,J.f2),λN wr b7=>(rfl,?_))) λ_=>(d,wd,du,rfl);let(so,C,hC,u):=b7;refine(λG=>∃N wr,((bg=true->zal N=true)/\∃C,(C,wr)∈Cw T/\((N=sS "back" -> db=[])->Rw T hs ms l db (.str N) C))/\G=lwF T hs ms g l a b x two m f I bd k ad db bg (.val (.int i)) (.val (.int w)) (.val (.str N)) (.val (.str (sS wr))),?_,?_)
   .refine((a7,st),?_);show Br (eqD (.str (aL hs ms l)) (.str (aL hs ms g))) _ _;rw[e1];rcases M.st with ⟨rfl,ec,ep⟩|⟨rfl,_,_⟩
    .refine Br.t (sz,(Ky g,rfl),?_);show Br (eqD (.tup (g.map bQ)) (.tup [])) _ _;rw[show eqD (.tup (g.map bQ)) (.tup [])=decide (g=[]) by cases g<;>rfl];by_cases hc:g=[]
     .rw[zzj hc];refine Br.t (rfl,('d','d'),λv v0 v1=>((rfl,rfl),?_));show Br (eqD (.int v) (.int 0)) _ _;rw[cJ];exact Br.di (λ_=>(rfl,hs,ms,x,y,m,two,I,kw,rfl,J.z,λze we Ce me re=>(rfl,ze,we,(λz=>(by cases z),Ce,me,λ_=>by rw[ec,hc];exact re db),rfl))) λ_=>(N,wr,(λ_=>so,C,hC,u l db),rfl)
     .rw[zzo hc];exact Br.f (Br.f (N,wr,(λ_=>so,C,hC,u l db),rfl))
    .exact Br.f (Br.f (N,wr,(λ_=>so,C,hC,u l db),rfl))
   .rintro _ ⟨N,wr,⟨so,C,hC,u⟩,rfl⟩;rcases M.st with ⟨rfl,ec,ep⟩|⟨rfl,ne,ep⟩
    .exact Br.f (Br.f (_,wr,uj hC (u λ_=>ep),rfl))
    .refine Br.t ((aS (so rfl),s0 "back"),?_);show Br (eqD (.str N) (.str (sS "back"))) _ _;rw[fq];have i4:=J.z.ic;by_cases hb:N=sS "back"
     .rw[zzj hb];exact Br.t (al,_,"book",uj (by simp[Cw]) (bk12 J),rfl)
     .rw[zzo hb];exact Br.f (_,wr,uj hC (u λe=>absurd e hb),rfl)
  rintro _ ⟨d,wd,du,rfl⟩;have sd:shp (.str (sS wd))=true:=aS (Mh du);refine(_,rfl,_,rfl,(ad,rfl),rfl,wrd_ M.o M.c M.p du ((sd,sd),?_));show Br (!eqD (.str (sS wd)) (.str (sS wd))) _ _;rw[dZ sd];refine Br.f (ad,_,_,rfl,'k',_,rfl,(ad,rfl),rfl,rC M.o M.c M.p ((a7,a7),?_));show Br (!eqD (.str (aL hs ms l)) (.str (aL hs ms l))) _ _;rw[dZ a7];exact Br.f (hX _ (_,_,_,_,rfl))
 rintro _ ⟨L,U,a4,a5,rfl⟩;have b1:g.length<=10:=by have:=J.c9;omega
 refine(λG=>∃b4 L U a4 a5:Sl,G=[.nil,.val .pen,.val (bkD hs ms g),.val (nmD hs ms),.val a,.val b,.val (.str x),.val (.str two),.val (.lst ((ms.map (·.1)).map .str)),.val (.str m),.val (.str f),.val (.str I),.val (.str (aL hs ms g)),.val bd,.val (.int k),.obj (dkO T ad hs ms g []),.val (.bl bg),b4,L,U,a4,a5],?_,?_)
 .rcases M.st with ⟨rfl,ec,ep⟩|⟨rfl,ne,ep⟩
  .rw[ec,ep];exact Br.f (Br.f (_,_,_,_,_,rfl))
  .rw[ep];refine Br.t (ad,_,_,rfl,'k',_,rfl,(ad,rfl),rfl,Ez M.o M.c ((s0 "ok",s0 "ok"),?_));show Br (!eqD (.str (sS "ok")) (.str (sS "ok"))) _ _;rw[dZ (s0 "ok")];exact Br.f (_,_,_,_,_,rfl)
 rintro _ ⟨b4,L,U,a4,a5,rfl⟩;refine(ad,_,_,rfl,'k',_,rfl,(ad,rfl),rfl,rC o b1 's' ((st,st),?_));show Br (eqD (.str (aL hs ms g)) (.str (aL hs ms g))) _ _;rw[dZ st];exact Br.t (_,rfl,_,rfl,(ad,rfl),rfl,wrd_ (wd:="back") o b1 's' (uj (C:=T.bC) (by simp[Cw]) (rw_ (.bk rfl))) ((s0 "back",s0 "back"),congrArg D.bl (dZ (s0 "back"))))
end
set_option maxHeartbeats 0 in
theorem all_mk{l:zeB}{w:World}{K:zvu}{g:Str->aT ax}{U:ay}{L:av ay}[I:Tactic.TB](J:g "law" = some (.ref fa))(o:I=⟨[(U,"rising.<locals>.<lambda>")]⟩)(T:Tx K g){C:ax}{E:aT ay}{Q:Array ax}{us:Array (aT ax)}(b:Q[11]?\(.ref U))(u2:K.lookup T.lcA\(C,E,.fields Q,us))(p:zba K T.lcA U=true)(u:K.lookup U=none)(x:U∈L) :
  ∃(fd:bo)(j:av (ay×Str)),(∀(s:aM)(v:ax),BindsTo s fd ([v],[]) [("_law_script",v)])/\(∀q∈j,(∃c,zba K c q.1=true)/\q.1∈L/\K.lookup q.1=none)/\∀base:cx,K.In base->base.Ns zaX g->Bm g base->FnOk l.prog w K g base CX0 12 fa fd ["_law_script"] (@Tactic.spLaw ⟨j⟩ K):=by
 have e:=J.symm.trans T.Cg.d.m;cases e;subst o
 letI tbi:Tactic.TB:=⟨[(U,"rising.<locals>.<lambda>")]⟩
 exact(T.Cg.fd,[(U,"rising.<locals>.<lambda>")],λs v=>by let(_,_,_,_,_,_,_,_,_,q,_):=T.Cg.d.F.ex;rw[q];exact .of_eq rfl,List.forall_mem_cons.mpr (((_,p),x,u),λ_ h=>nomatch h),λbase _ _ B=>Mi T B)
end Internal
open PySem PySem.W PyProof.Rows
set_option maxRecDepth 100000 in
set_option maxHeartbeats 0 in
theorem PySem.Challenge.cw_othersum_k54_desk_refuses_holds : PySem.Challenge.rw_othersum_k54_desk_refuses.Holds := by
  refine hd ?_
  k_fill
  refine Tactic.walk_ofT (l := PySem.Challenge.rw_othersum_k54_desk_refuses) (n := 63) (k := 12) (x := "_law_script") rfl (by decide) rfl ⟨rfl, by decide, by decide⟩ (fun w h Y => PySem.W.km_in_of Y) (fun w h Y => PySem.W.km_tabs_of Y) ?F
  case F =>
    intro w mg fa h KX G hmg
    refine' Internal.all_mk (U := ?u) (I := ⟨[(?u, "rising.<locals>.<lambda>")]⟩) hmg rfl (@Internal.Tx.mk ⟨[(?u, "rising.<locals>.<lambda>")]⟩ _ mg (Internal.Ta.mk ..) (lp := ?u) (lc1 := ?a) (lc3 := ?c) ..) ?b ..
    iterate 3 any_goals first | refine' Lake.ddk KX G ?_ ?_ ?_ ?_ | refine' Internal.mdk ?_ ?_ ?_ | refine' PySem.W.mg_none_of KX G ?_ | refine' PySem.W.mg_of KX G ?_ | refine' Lake.Exc.mk .. | refine' Lake.ExcI.mk .. | refine' Lake.ExA.mk .. | refine' Lake.ExK.mk .. | refine' Lake.Cls.mk .. | refine' Lake.Meth.mk .. | refine' Lake.Mk.mk .. | refine' Internal.Kq.mk ..
    any_goals k_is
    case a => exact rfl
    any_goals k_is
    case b => exact rfl
    case c => exact Lake.lk1
    all_goals first | k_is | kernel_rfl | k_mem | decide | simp
