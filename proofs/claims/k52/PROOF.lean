import PyProof.Rows.All
import Wide.All
import OpenK.AllK
import Wide.FinOn
import Lean
import PyProof.EqAt
import PyProof.EqKinds
import PyProof.TupleCall
import PySem.Challenge.RW_othersum_k52_texts_of_no_book
noncomputable section
set_option Elab.async false
set_option linter.all false
set_option maxRecDepth 100000
structure PySem.W.Fast:Prop where(tw8664865919138591293 tw861502493610598483 tw3216605706079352246 tw4517128708493973649 tw747305103253331483 tw7730711234585966178 tw8732384657001785355 tw7774113678449685934 tw4197613755910835498 tw15961607284124999205 tw54319143688515733 tw2376611553592684631 tw10958507122237075249 tw13406242734642179557 tw280917380089993231 tw8129399028645417746 tw10395332584310045583 tw12750670339961964742 tw13257283266767686631 tw6957663135803877297 tw8648976030095356565 tw786537726763496527 tw18004296560267143027 tw4341293187932698999 tw13932396165709540929 tw10041932099767429965 tw14037974667727170046 tw14329579894275425762 tw16159750380562633221 tw14024141229114651172 tw13803551925191289636 tw7155359931933253843 tw14647417624928369756 tw1253127297229968123 tw2576523973992343609 tw12894966596032860446 tw14151252239970057569 tw15279809834360698895 tw3940733116343649955 tw14746253646979254834 tw3507769193172341495 tw11589282660436910429 tw17450930235937024225 tw13415069484114331020 tw1467881925912835984 tw9385439782273163706 tw2078950565319712143 tw2773992215795510196 tw2768188642542392010 tw16902085369446701243 tw6594970650091316094 tw16522183678017940807 tw10312438410070409164 tw7942791058656714990 tw5953359166732830163 tw4436474186459923750 tw8981176238543900561 tw5909976876416983842 tw7873786274422454737 tw3438699932752214802 tw17163426234232328066 tw4189273013823423559 tw10988312798546598065 tw13127508451798649013 tw15163409612377130007 tw10741264400317747893 tw8965333667575223149 tw9553971096990549364 tw1342123614928995077 tw14260533273033392520 tw7770478706760583155 tw5306753302271460952 tw6942634455013318504 tw2759284407945088205 tw1474264761786122189 tw12524954882073270795 tw2046362190076281809 tw17823556299335049440 tw13032259773685033708 tw15627779663793561183 tw16151628708876355199 tw13851971633180934007 tw6194202620331982285 tw258204147387103276 tw17653592248189364939 tw599730875272715187 tw14938211915633500526 tw16247262843940693239 tw10326336056695345397 tw4408816720484365081 tw7828442866392281868 tw12003660372656728261 tw14611616552423853409 tw1840220198017710270 tw3328118118096588273 tw5341297951324810720 tw4334401890000744311 tw1158361714356455011 tw13439652990877377571 tw17937168697417666835 tw8115137120850386438 tw3851428956369438258 tw14935156969734317764 tw206757683497733573 tw15504105790966721872 tw8995945545434573385 tw12550775161083096063 tw14202271707224943307 tw2597523674469684444 tw14479964200598819128 tw11063759124802658401 tw16109456028575089023 tw7766106395892283477 tw2480015634913765671 tw2990168724187919761 tw506581581156960101 tw4757880891971583632 tw12298192366917762067 tw4026147355466621588 tw4859391219904099992 tw10611411778653204182 tw1692201390411429781 tw740290905518256060 tw4860023922305330110 tw547895379624588593 tw3717076922277056940 tw2868442198168577507 tw16260866306193365299 tw15036080040530398195 tw6945566481307383155 tw13114645530532618160 tw4804111812005502284 tw8331849164307833061 tw14859695947638507448 tw6278996535519779258 tw15764947353670896545 tw5522115075389312692 tw12717557048674177747 tw13571862603940711859 tw9646623106273453227 tw15401437161963490237 tw8186657734068701312 tw7164969610272591079 tw10161179621583223854 tw6427576097997697322 tw9947508896943372755 tw15235614512728720 tw14284835775768690865 tw1207101557538958131 tw17518593693041627797 tw11844019762684407370 tw6701911527682315725 tw13160504802963445071 tw14398111036562950334 tw15806707075529380192 tw6128106870883400570 tw4772062507164038959 tw5239429619861171699 tw13367274342830030513 tw5171440476677080432 tw8272569733616993153 tw3238445694619138142 tw3671519592330383864 tw6329614223026926184 tw12960429369202013873 tw609457278022895560 tw17360015989920007124 tw11033627544408312984 tw18003772858949239459 tw5920806927976990809 tw16005714805435085966 tw9201617497623189827 tw11408881796089955267 tw5000232492035539693 tw16766484511958638138 tw12330612334027959195 tw10988764466652934233 tw17397653436517662659 tw11525993766095887173 tw8285278889055680438 tw727553628536289456 tw1986786360949550309 tw15214748959534726111 tw3198059409981156222 tw10146569101766770184 tw3520257249291928256 tw8159993647027272844 tw16860917588515726111 tw5832146486336120021 tw5263133172445716209 tw1835071406663858368 tw13034982811429478159 tw18441984877410159329 tw13303234937177203706 tw5610444585433571239 tw9223045988441327695 tw3456351732281881909 tw17334828202450815106 tw1725486776273817318 tw7557421358154311045 tw5289818103960998278 tw12138319994727072339 tw987426779421491659 tw8222940686941784037 tw6420159726195949164 tw3897268976836264337 tw13885670934486923800 tw14537775516033599862 tw12058884036946728934 tw14226173905949225808 tw11095110211248682772 tw9399754086935153974 tw14520296925931582552 tw13215348057498601715 tw6631347999910079877 tw15831126876759372255 tw17499849576073844966 tw5137589814051832496 tw16859961878692490766 tw7374399212775623666 tw593343749668468936 tw5467331546851215429 tw8752102160057688731 tw5217270863462422736 tw12715800853834201459 tw17508347553164502932 tw17348111734160510231 tw10539347186207431242 tw17678831435119133177 tw11368310244458860372 tw18407495941553956032 tw5725222548895626118 tw5483103596317574428 tw13567515925198824819 tw14592624751514493413 tw5395340147747708899 tw3335794202401238526 tw11120740854625124088 tw9931937742245647033 tw4413860948169739490 tw7322748291113730364 tw13307065042914920193 tw4993863958327201973 tw10042083083395451092 tw16132249320637822498 tw10295913840692754127 tw15590096980072825465 tw3303267245142563540 tw17137270108147033825 tw12091130801917272685 tw9584292182412213727 tw11267315532378154396 tw14154597600763967237 tw10236332898609347644 tw7998583776865276027 tw12468840222048715292 tw12770481643036789091 tw8950108695139179302 tw15254633091992210921 tw9381626543082597023 tw10551173667578312727 tw5404398260228975080 tw9304451534382375720 tw17691633702590694504 tw384561282630992784 tw15699961213505342161 tw13073492499399858440 tw17852080271459398996 tw8185220541750880888 tw5890639436620234070 tw9003107776662980439 tw6575520176995025181 tw9388066449989048879 tw8006371003960147343 tw10085292869130188298 tw12738610918357793766 tw15142666989864626641 tw14736888041290939073 tw13861969467909019144 tw4938610541543285704 tw17382457898008728272 tw13385558918117058561 tw10282777137419654623 tw15326580083554890809 tw11151835277377553703 tw1142673529048489019 tw4171853373547519906 tw16728255500844073214 tw354308444213283272 tw10052031235695348791 tw2595585439558603231 tw1708089923452030704 tw13547939009206843870 tw6557801498797044033 tw615563214671542189 tw10479991185640055810 tw17510684818845775701 tw694261584828832409 tw6657536258744368796 tw5960047855520388891 tw4946147512530127568 tw977512076041815475 tw13861322856664149509 tw15528221797031607849 tw17890440400047909864 tw4039707410889071942 tw6968137755033780318 tw4971374062829452455 tw6056707288978253535 tw12768989823518198380 tw4015202173357781934 tw3215387988796971590 tw13831308528885131752 tw17472340661787783526 tw11107512795663914464 tw5072417060200589145 tw8949853181751564097 tw14760874974797668852 tw18328257000508772394 tw7091221385724896812 tw10953238642706405951 tw13539809779269347639 tw13855379610559885079 tw16797375974695604193 tw9461873434466728008 tw8282588126930224528 tw17577329170770402720 tw6472337539984862722 tw7921390202802761869 tw7422445781565681216 tw12147665669636231765 tw14594842627406614536 tw10910644110388302437 tw2789304352393801511 tw5233118043267047457 tw18105302477358141223 tw3300454383303005205 tw8122695690928665766 tw4483904966330829159 tw9197174079833555027 tw8047209995159408440 tw11564986514327137767 tw9536688357841153863 tw1972164579936704799 tw5537553045615171315 tw12954591660760965231 tw8834805137890396735 tw15433366417846715934 tw5101696844757716304 tw13557862171009465336 tw8219003486749837733 tw17760279517084355780 tw12382822922155266910 tw1950803216711332702 tw2080317491765294665 tw896878414759379649 tw9860861378791804195 tw16864618592142003386 tw1922157984580058403 tw11153475782318119604 tw539538531456391632 tw16279288168775177219 tw17351735930882485243 tw8737599933303070863 tw15402603294489630176 tw12549542988036985293 tw4548300405975405348 tw3075201292733833056 tw16108870410212019532 tw87601786513091389 tw14827714588952709054 tw8733291241859026926 tw140236481695663071 tw17214186515701724070 tw5221592684559293012 tw7231845647793152400 tw2483420100392427323 tw1205274952441263945 tw6356304189028158447 tw2941924889016668590 tw14842496431369740429 tw17260811203177919210 tw6690350156832105676 tw9592521066531166775 tw3419001889969749887 tw14934011241717051027 tw15173544498738437827 tw17817366049700826239 tw13757698761724263525 tw9104974531708491489 tw14424681132571578402 tw3543459598558145280 tw11481637867367846703 tw4493901809537577575 tw2595618661548880785 tw3721919958574915784 tw2455152089536381482 tw18157406047293677543 tw15779231459743154856 tw11898673842065290130 tw9456574344343218679 tw6798380500665416597 tw4075453323654395381 tw8374155422468719031 tw12772213712371865176 tw3239113980409921550 tw577049184839899653 tw6125853113672642322 tw9387514328989991554 tw12297992134047619483 tw2646887283097553488 tw12887044766017154078 tw11429584451438056573 tw6229817132586351632 tw3235425350174046738 tw11962351593759143498 tw8565224436197482051 tw16792556548410726896 tw18333273249017474000 tw12132732476715806282 tw15475723433398761304 tw1402340071739887797 tw6094820017090691545 tw11207431853666184334 tw2629151800749243262 tw9320515035125037321 tw86012387029904805 tw17318462890700432884 tw1405720946626083897 tw10713865542653931438 tw360634875079729221 tw17883462748017686043 tw10310341975313369176 tw4046790133079468173 tw3726453103677007866 tw9496581404884138560 tw209982475168477708 tw9678289623588505577 tw14332157829676619468 tw13141587033338554882 tw8166255043249204926 tw6325675986683464353 tw4051853165826885262 tw12064304430848566033 tw18361725300881549022 tw7900394595670775223 tw2474200967059427378 tw3676754643040562684 tw8191318114535113306 tw8997383693586321770:True)
set_option compiler.extract_closed false
set_option maxHeartbeats 0 in
open_top hd for PySem.Challenge.rw_othersum_k52_texts_of_no_book
abbrev zvd:=PySem.W.Frag
abbrev zza:=@List.length_map
abbrev zzb:=@PySem.wpAny_bind
abbrev zzc:=@List.mem_cons_of_mem
abbrev zzd:=@List.length_append
abbrev zze:=@List.map_append
abbrev zzf:=@PySem.Heap.get?_push_of_some
abbrev zzg:=@List.mem_cons_self
abbrev zzh:=@List.map_cons
abbrev zzi:=@if_neg
abbrev zzj:=@decide_eq_true
abbrev zzk:=@List.mem_cons
abbrev zzl:=@decide_eq_false
abbrev zzm:=@List.length_cons
abbrev zzn:=@if_pos
abbrev zzo:=@List.mem_append
abbrev zzp:=@PySem.wpAny_pure
abbrev zzq:=@Nat.le_trans
abbrev zzr:=@Nat.le_refl
abbrev zzs:=@List.mem_map
abbrev zzt:=@List.getElem?_eq_getElem
abbrev zzu:=@List.getElem?_map
abbrev zzv:=@List.append_nil
abbrev zzw:=@List.mem_singleton
abbrev zzx:=@List.getElem?_eq_some_iff
abbrev zzy:=@PySem.Heap.get?_push_size
abbrev zzz:=@PySem.Heap.lt_size
abbrev zzA:=@PySem.boot_len
abbrev zzB:=@List.map_map
abbrev zzC:=@List.getD_eq_getElem?_getD
abbrev zzD:=@List.size_toArray
abbrev zzE:=@Nat.lt_of_lt_of_le
abbrev zzF:=@Array.length_toList
abbrev zzG:=@Nat.lt_of_le_of_lt
abbrev zzH:=@List.getElem?_set_ne
abbrev zzI:=@List.mem_of_getElem?
abbrev zzJ:=@Bool.false_ne_true
abbrev zzK:=@List.length_eq_zero_iff
abbrev zzL:=@Nat.ne_of_lt
abbrev zzM:=@Int.toNat_natCast
abbrev zzN:=@List.append_cancel_left
abbrev zzO:=@List.append_assoc
abbrev zzP:=@of_decide_eq_true
abbrev zzQ:=@List.mem_append_right
abbrev zzR:=@List.map_congr_left
abbrev zzS:=@PySem.W.mg_none_of
abbrev zzT:=@List.getElem?_append_right
abbrev zzU:=@Classical.choose_spec
abbrev zzV:=@Option.some.inj
abbrev zzW:=@PySem.W.mg_of
abbrev zzX:=@Bool.and_eq_true
abbrev zzY:=@List.mem_filter
abbrev zzZ:=@List.drop_eq_getElem_cons
abbrev zya:=@Nat.zero_le
abbrev zyb:=@decide_eq_true_eq
abbrev zyc:=@PySem.PassesOwn.never
abbrev zyd:=@Int.eq_ofNat_of_zero_le
abbrev zye:=@Int.le_refl
abbrev zyf:=@List.map_nil
abbrev zyg:=@List.zip_cons_cons
abbrev zyh:=@PySem.StrLaws.glued_eq_join
abbrev zyi:=@PySem.mem_of_lookup
abbrev zyj:=@PySem.Heap.size_push
abbrev zyk:=@List.getElem?_append_left
abbrev zyl:=@List.length_take
abbrev zym:=@List.lookup_cons
abbrev zyn:=@List.mem_append_left
abbrev zyo:=@List.find?_cons_of_pos
abbrev zyp:=@List.find?_cons_of_neg
abbrev zyq:=@List.eq_of_mem_replicate
abbrev zyr:=@of_decide_eq_false
abbrev zys:=@PySem.W.kia_one
abbrev zyt:=@List.mem_iff_getElem?
abbrev zyu:=@List.cons_append
abbrev zyv:=@List.filter_cons_of_neg
abbrev zyw:=@List.all_eq_true
abbrev zyx:=@List.not_mem_nil
abbrev zyy:=@PySem.Heap.SameBut.update
abbrev zyz:=@PySem.wpAny_holding
abbrev zyA:=@List.pairwise_iff_getElem
abbrev zyB:=@List.getElem?_zip_eq_some
abbrev zyC:=@List.replicate_succ
abbrev zyD:=@Nat.lt_irrefl
abbrev zyE:=@PySem.Heap.get?_update_self
abbrev zyF:=@List.length_singleton
abbrev zyG:=@List.nodup_cons
abbrev zyH:=@Nat.not_lt_zero
abbrev zyI:=@List.filter_cons_of_pos
abbrev zyJ:=@Bool.true_and
abbrev zyK:=@List.nodup_append
abbrev zyL:=@List.flatMap_cons
abbrev zyM:=@List.length_zip
abbrev zyN:=@Array.getElem?_toList
abbrev zyO:=@List.length_drop
abbrev zyP:=@List.getElem_mem
abbrev zyQ:=@List.filter_append
abbrev zyR:=@PySem.wpAny_field
abbrev zyS:=@PySem.wpAny_mono
abbrev zyT:=@PySem.W.looks_findIn
abbrev zyU:=@List.pairwise_append
abbrev zyV:=@List.mem_of_mem_take
abbrev zyW:=@PySem.wpAny_truthy_bool
abbrev zyX:=@Bool.eq_iff_iff
abbrev zyY:=@List.of_mem_zip
abbrev zyZ:=@List.length_nil
abbrev zxa:=@Array.toList_append
abbrev zxb:=@PySem.codeAny_mono
abbrev zxc:=@PySem.wpAny_call_entry
abbrev zxd:=@Array.all_eq_true_iff_forall_mem
abbrev zxe:=@List.findIdx_lt_length_of_exists
abbrev zxf:=@PySem.wpAny_Call_Name_kw
abbrev zxg:=@Int.emod_lt_of_pos
abbrev zxh:=@List.pairwise_cons
abbrev zxi:=@Array.mem_toList_iff
abbrev zxj:=@List.mem_of_mem_drop
abbrev zxk:=@List.flatten_cons
abbrev zxl:=@PySem.wpAny_typeNameOfWhole_keyiter
abbrev zxm:=@PySem.F.plainAttrs_list
abbrev zxn:=@beq_eq_false_iff_ne
abbrev zxo:=@List.length_pos_iff
abbrev zxp:=@List.mem_range
abbrev zxq:=@List.getElem?_set_self
abbrev zxr:=@List.take_of_length_le
abbrev zxs:=@PySem.wpAny_pyIter_tuple
abbrev zxt:=@PySem.W.callWith_K
abbrev zxu:=@Bool.false_eq_true
abbrev zxv:=@PySem.wpAny_setField_rec
abbrev zxw:=@List.zip_nil_right
abbrev zxx:=@Int.emod_nonneg
abbrev zxy:=@List.cons.injEq
abbrev zxz:=@List.take_append_drop
abbrev zxA:=@PySem.W.KIN.signs_num
abbrev zxB:=@PySem.wpAny_pyIter_list
abbrev zxC:=@PySem.wpAny_newObj_type
abbrev zxD:=@List.count_append
abbrev zxE:=@PySem.codeAny_call_builtin
abbrev zxF:=@Array.getElem?_eq_getElem
abbrev zxG:=@List.mem_or_eq_of_mem_set
abbrev zxH:=@Nat.le_succ
abbrev zxI:=@PySem.Str.cps_append
abbrev zxJ:=@or_false
abbrev zxK:=@List.mem_flatMap
abbrev zxL:=@List.toList_toArray
abbrev zxM:=@List.eraseIdx_eq_take_drop_succ
abbrev zxN:=@PySem.call_meets
abbrev zxO:=@List.find?_cons
abbrev zxP:=@PySem.codeAny_builtin
abbrev zxQ:=@List.map_singleton
abbrev zxR:=@Nat.min_eq_left
abbrev zxS:=@PySem.StrLaws.join_split
abbrev zxT:=@PySem.sizeLine_eq
abbrev zxU:=@PySem.Heap.get?_update_other
abbrev zxV:=@Option.map_eq_some_iff
abbrev zxW:=@List.drop_eq_nil_of_le
abbrev zxX:=@Array.getElem?_eq_none
abbrev zxY:=@PySem.StrLaws.join_length_le
abbrev zxZ:=@List.filter_eq_nil_iff
abbrev zwa:=@List.getLast?_eq_some_getLast
abbrev zwb:=@Nat.le_of_succ_le
abbrev zwc:=@PySem.wpAny_loadPart_at
abbrev zwd:=@Option.some.injEq
abbrev zwe:=@Bool.false_and
abbrev zwf:=@List.length_replicate
abbrev zwg:=@List.length_filter_le
abbrev zwh:=@List.concat_eq_append
abbrev zwi:=@beq_iff_eq
abbrev zwj:=@if_false
abbrev zwk:=@Nat.pow_le_pow_right
abbrev zwl:=@PySem.wpAny_standAt
abbrev zwm:=@List.any_cons
abbrev zwn:=@Array.getElem?_eq_some_iff
abbrev zwo:=@List.flatMap_append
abbrev zwp:=@PySem.wpAny_passesOwn
abbrev zwq:=@List.foldl_cons
abbrev zwr:=@Nat.ne_of_gt
abbrev zws:=@Option.isSome_iff_exists
abbrev zwt:=@PySem.Heap.get?_some_iff
abbrev zwu:=@List.mem_of_mem_eraseIdx
abbrev zwv:=@PySem.wpAny_call
abbrev zww:=@PySem.wpAny_setField
abbrev zwx:=@PySem.wpAny_seqItems
abbrev zwy:=@PySem.wpAny_dictEntries
abbrev zwz:=@PyProof.Rows.subscriptTail_builtinR
abbrev zwA:=@PySem.Paired.length
abbrev zwB:=@List.cons.inj
abbrev zwC:=@List.sum_cons
abbrev zwD:=@List.getElem_inj
abbrev zwE:=@Nat.lt_succ_self
abbrev zwF:=@List.any_eq_true
abbrev zwG:=@List.take_length
abbrev zwH:=@List.eq_nil_or_concat
abbrev zwI:=@PySem.Heap.get?_none_of_le
abbrev zwJ:=@PySem.typeIs_str
abbrev zwK:=@List.nil_append
abbrev zwL:=@List.findIdx_getElem
abbrev zwM:=@PySem.intText_digits
abbrev zwN:=@List.zip_append
abbrev zwO:=@Nat.sub_self
abbrev zwP:=@List.filterMap_cons
abbrev zwQ:=@PySem.W.plainGet_of
abbrev zwR:=@List.getElem?_range
abbrev zwS:=@ne_true_of_eq_false
abbrev zwT:=@List.map_eq_nil_iff
abbrev zwU:=@List.nodup_nil
abbrev zwV:=@List.map_id
abbrev zwW:=@List.mem_filterMap
abbrev zwX:=@PySem.tupleKind_room_in1
abbrev zwY:=@List.lookup_append
abbrev zwZ:=@List.map_inj_right
abbrev zva:=@PySem.StrLaws.split_free
abbrev zvb:=@List.all_cons
abbrev zvc:=@PySem.wpAny_attempt
namespace L2
open PySem PySem.Spec PyProof.Rows
variable{A:Around}{C a:Addr}{E Q:Value->Shared->Prop}{M:Model}{N ps:List Str}{cd dV pm u:Value}{ch:List Addr}{e tg:Expr}{h:Heap}{hi:Int}{i t':Nat}{j:Str}{k':Bool}{kw:List (Str×Value)}{mg:Str->Option Value}{o:Obj}{op op':CmpOp}{p pos:Pos}{pl:List (Addr×Obj)}{s1:Shared}{sc:Scope}{us:List Value}{w:World}{α β γ:Type}
variable{P:Program}{w:World}{h h':Heap}{a x dx C:Addr}{e b:Expr}{pins:List (Addr×Obj)}{pos p:Pos}{E:Value->Shared->Prop}{A:Around}{es:List Expr}
abbrev Key:=Sum Int Str
def yI:Key->Value->Bool
 |.inl k,v=>Value.isInt k v|.inr x,v=>Value.isStrOf x v
def keyH(w:World):Key->Int
 |.inl k=>hashInt k|.inr x=>hashStr w x
theorem bf:∀{k:Key} {v:Value},yI k v=true->(∃i t,k=Sum.inl i/\v=Value.int i t)∨(∃x t,k=Sum.inr x/\v=Value.str x t)
 |.inl i,v,h=>by obtain⟨t,e⟩:=Value.isInt_shape (k:=i) (v:=v) h;exact .inl ⟨i,t,rfl,e⟩
 |.inr x,v,h=>by obtain⟨t,e⟩:=Value.isStrOf_shape (x:=x) (v:=v) h;exact .inr ⟨x,t,rfl,e⟩
theorem zH(i:Int)(t:Tok):yI (.inl i) (.int i t)=true:=by simp[yI,Value.isInt]
theorem zI(x:Str)(t:Tok):yI (.inr x) (.str x t)=true:=by simp[yI,Value.isStrOf]
theorem HJ(a b:Int):decide ((Sum.inl a:Key)=Sum.inl b)=(a == b):=by
 by_cases e:a=b
 ·subst e;simp
 ·have h:¬(Sum.inl a:Key)=Sum.inl b:=λq=>e (Sum.inl.inj q);rw[zzl h];exact(zxn.mpr e).symm
theorem HK(a b:Str):decide ((Sum.inr a:Key)=Sum.inr b)=decide (a=b):=by
 by_cases e:a=b
 ·subst e;simp
 ·have h:¬(Sum.inr a:Key)=Sum.inr b:=λq=>e (Sum.inr.inj q);rw[zzl h,zzl e]
theorem HL(a:Int)(b:Str):decide ((Sum.inl a:Key)=Sum.inr b)=false:=zzl (λq=>nomatch q)
theorem HM(a:Str)(b:Int):decide ((Sum.inr a:Key)=Sum.inl b)=false:=zzl (λq=>nomatch q)
noncomputable def bK(prog:Program)(w:World):PySem.KeyKind prog w Key where
 is:=yI
 hash:=keyH w
 inj:=λv a b d L=>by
  rcases bf d with ⟨i,t,rfl,rfl⟩|⟨x,t,rfl,rfl⟩
  ·rcases bf L with ⟨j,u,rfl,e⟩|⟨y,u,rfl,e⟩
   ·injection e with c _;rw[c]
   ·exact nomatch e
  ·rcases bf L with ⟨j,u,rfl,e⟩|⟨y,u,rfl,e⟩
   ·exact nomatch e
   ·injection e with c _;rw[c]
 byValue:=λk v h=>by rcases bf h with ⟨i,t,rfl,rfl⟩|⟨x,t,rfl,rfl⟩<;>rfl
 pyHash:=λJ h=>by
  rcases bf J with ⟨i,t,rfl,rfl⟩|⟨x,t,rfl,rfl⟩
  ·exact wpAny_pyHash_int h
  ·exact wpAny_pyHash_str h
 eqBool:=λU J h=>by
  rcases bf U with ⟨i,t,rfl,rfl⟩|⟨x,t,rfl,rfl⟩
  ·rcases bf J with ⟨j,u,rfl,rfl⟩|⟨y,u,rfl,rfl⟩
   ·rw[HJ]at h;exact wpAny_eqBool_int h
   ·rw[HL]at h;exact SeqAt.EqAt.int_str i t y u _ _ _ _ h
  ·rcases bf J with ⟨j,u,rfl,rfl⟩|⟨y,u,rfl,rfl⟩
   ·rw[HM]at h;exact SeqAt.EqAt.str_int x t j u _ _ _ _ h
   ·rw[HK]at h;exact wpAny_eqBool_str h
 «strs»:=λk x t v h=>by
  rcases bf h with ⟨i,u,rfl,e⟩|⟨y,u,rfl,e⟩
  ·exact nomatch e
  ·injection e with c _;subst c;cases v<;>rfl
theorem om(prog:Program)(w:World)(i:Int)(t:Tok):(bK prog w).is (.inl i) (.int i t)=true:=zH i t
theorem wc(prog:Program)(w:World)(x:Str)(t:Tok):(bK prog w).is (.inr x) (.str x t)=true:=zI x t
inductive V where
 |non|bl (b:Bool)|int (i:Int)|str (x:Str)|byt (b:Array UInt8)|flt (b:UInt64)|ref (a:Addr)|ty (n:String)
 deriving DecidableEq
variable{v y:V}{vs:List V}
def RelV:V->Value->Prop
 |.non,u=>u=Value.none|.bl b,u=>u=Value.bool b|.int i,u=>∃t,u=Value.int i t|.str x,u=>∃t,u=Value.str x t|.byt b,u=>∃t,u=Value.bytes b t|.flt b,u=>∃t,u=Value.float b t|.ref a,u=>u=Value.ref a|.ty n,u=>u=Value.type n
abbrev Vals:List V->List Value->Prop:=Paired RelV
theorem Vals.length{xs:List V}{us:List Value}(r:Vals xs us):xs.length=us.length:=zwA r
theorem Vals.get:∀{xs:List V} {us:List Value} {i:Nat} {x:V},Vals xs us->xs[i]? = some x->∃u,us[i]? = some u/\RelV x u
 |_,_,_,_,.nil,e=>by simp at e
 |_,_,0,_,.cons r _,e=>by simp at e;subst e;exact⟨_,rfl,r⟩
 |_,_,i+1,x,.cons _ t,e=>by obtain⟨u,c,d⟩:=Vals.get (i:=i) (x:=x) t (by simpa using e);exact⟨u,by simpa using c,d⟩
theorem Vals.set{x:V}{u:Value}(r:RelV x u):∀{xs:List V} {us:List Value} (i:Nat),Vals xs us->Vals (xs.set i x) (us.set i u)
 |_,_,_,.nil=>.nil|_,_,0,.cons _ t=>.cons r t|_,_,i+1,.cons q t=>.cons q (Vals.set r i t)
theorem Vals.append:∀{xs ys:List V} {us ws:List Value},Vals xs us->Vals ys ws->Vals (xs++ys) (us++ws):=by
 intro xs ys us ws h s
 induction h with
 |nil=>exact s|cons r t J=>exact .cons r J
theorem Vals.take:∀{xs:List V} {us:List Value} (n:Nat),Vals xs us->Vals (xs.take n) (us.take n)
 |_,_,0,_=>.nil|_,_,_+1,.nil=>.nil|_,_,n+1,.cons r t=>.cons r (Vals.take n t)
theorem Vals.drop:∀{xs:List V} {us:List Value} (n:Nat),Vals xs us->Vals (xs.drop n) (us.drop n)
 |_,_,0,r=>r|_,_,_+1,.nil=>.nil|_,_,n+1,.cons _ t=>Vals.drop n t
def RelO:Option V->Option Value->Prop
 |some v,some u=>RelV v u|none,none=>True|_,_=>False
def KV{κ:Type}:List (κ×V)->List (κ×Value)->Prop:=Paired λ(p:κ×V) (q:κ×Value)=>p.1=q.1/\RelV p.2 q.2
def kV:Key->V
 |.inl i=>.int i|.inr x=>.str x
inductive HO where
  |lst (xs:List V)
  |tup (xs:List V)
  |dK (kvs:List (Key×V))|dT (kvs:List (List Key×V))
  |set (S:Int->Bool) (n:Nat)
  |ins (C dx:Addr) (fs:List (Str×V))
  |own (x:Addr)
  |xd (fs:List (Str×V))
  |met (f x:Addr)
  |rng (lo hi:Int)
  |frz (o:Obj) (u:HO)
  |tbl (ps:Array Value)
  |ext (φ:Heap->Prop)
abbrev Hp:=Addr->Option HO
variable{H H':Hp}
def upd(H:Hp)(a:Addr)(o:HO):Hp:=λb=>if b=a then some o else H b
theorem ai{o:HO}:upd H a o a=some o:=by unfold upd;rw[zzn rfl]
theorem ah{b:Addr}{o:HO}(h:b≠a):upd H a o b=H b:=by unfold upd;rw[zzi h]
theorem qK{b:Addr}{o u:HO}(h:H a=some o)(h':H b=some u)(d:o≠u):a≠b:=by intro e;subst e;rw[h]at h';exact d (zzV h')
theorem bp{b:Addr}{o:HO}(h:H a=some o)(h':H b=none):a≠b:=by intro e;subst e;rw[h]at h';cases h'
section
variable(P:Program)(w:World)
def NoDc(h:Heap)(a:Addr):Prop:=∃o,h.get? a=some o/\o.dict=none
def NdOr(h:Heap)(a:Addr)(xs:List V):Prop:=NoDc h a∨∃i x,xs=[V.int i,x]
def ObjOk(H:Hp)(h:Heap)(a:Addr):HO->Prop
 | .lst g=>g.length <= sizeLine/\∃(c:List Value) (n:Nat),Vals g c/\h.get? a=some { cls:=.type "list",data:=.seq c.toArray n }|.tup g=>(g.length <= sizeLine/\NdOr h a g)/\∃c:List Value,Vals g c/\IsTup h a c.toArray|.dK d=>d.length <= sizeLine/\(a == sysModules)=false/\∃vs,KV d vs/\h.DictOf (bK P w) a vs|.dT d=>d.length <= sizeLine/\(a == sysModules)=false/\∃g:List (List Key×Addr×Value),
   Paired (λ(p:List Key×V) (q:List Key×Addr×Value)=>p.1=q.1/\H q.2.1=some (.tup (p.1.map kV))/\RelV p.2 q.2.2) d g /\
   ∃o es z,h.get? a=some o/\o.ExactDict/\o.data=.dict es z/\es.toList=g.map (entryOfKey (tupleKind (bK P w)))/\(g.map (·.1)).Nodup
 |.set S n=>h.SetOf (intKind P w) a S n|.ins C dx fs=>H dx=some (.own a)/\fs.length <= 1000/\dx≠a/\h.get? a=some (PySem.W.instObj C dx) /\
   ∃l,h.Ns1 dx l/\(∀f,RelO (fs.lookup f) (l f))/\PySem.Within l (fs.map (·.1))
 |.own _=>∃o,h.get? a=some o|.xd fs=>∃l,h.Ns1 a l/\∀f,RelO (fs.lookup f) (l f)| .rng lo hi=>∃t u v,h.get? a=some { cls:=.type "range",data:=.fields #[.int lo t,.int hi u,.int 1 v] }|.frz o u=>h.get? a=some o/\ObjOk H h a u|.tbl ps=>h.get? a=some { cls:=.none,data:=.fields ps }|.met f x=>h.get? a=some (PySem.W.methodObj (.ref f) (.ref x))|.ext m=>m h/\(∃o,h.get? a=some o)/\∀r s:Heap,m r->(∀o,r.get? a=some o->s.get? a=some o)->m s
def HOk(H:Hp)(h:Heap):Prop:=∀a o,H a=some o->ObjOk P w H h a o
end
section
variable{H H':Hp}{o:HO}
theorem ObjOk.lt(x:ObjOk P w H h a o):a<h.objs.size:=by
 cases o with
 |lst d=>obtain⟨_,_,_,_,e⟩:=x;exact zzz e
 |tup d=>obtain⟨_,_,_,p⟩:=x;exact p.lt
 |dK c=>obtain⟨_,_,_,_,o,_,_,e,_⟩:=x;exact zzz e
 |dT c=>obtain⟨_,_,_,_,o,_,_,e,_⟩:=x;exact zzz e
 |set S n=>obtain⟨o,_,_,_,e,_⟩:=x;exact zzz e
 |ins C dx fs=>obtain⟨_,_,_,e,_⟩:=x;exact zzz e
 |own y=>obtain⟨_,e⟩:=x;exact zzz e
 |xd fs=>obtain⟨_,⟨_,_,_,e,_⟩,_⟩:=x;exact zzz e
 |rng lo hi=>obtain⟨_,_,_,e⟩:=x;exact zzz e
 |frz ob u=>obtain⟨e,_⟩:=x;exact zzz e
 |tbl ps=>exact zzz (show h.get? a=some _ from x)|met f y=>exact zzz (show h.get? a=some _ from x)|ext φ=>obtain⟨_,⟨_,e⟩,_⟩:=x;exact zzz e
theorem Paired.mapP{F G:α->β->Prop}:∀{J:List α} {L:List β},Paired F J L->(∀a b,F a b->G a b)->Paired G J L:=by
 intro J L h f
 induction h with
 |nil=>exact .nil|cons r t U=>exact .cons (f _ _ r) U
theorem ObjOk.stay(x:ObjOk P w H h a o)(k:∀b u,(b=a∨H b=some (.own a))->h.get? b=some u->h'.get? b=some u)
  (J:∀b,H b=some (.own a)->H' b=some (.own a)) (L:∀b xs,H b=some (.tup xs)->H' b=some (.tup xs)):ObjOk P w H' h' a o:=by
 induction o with
 |lst xs=>obtain⟨z,m,n,r,e⟩:=x;exact⟨z,m,n,r,k _ _ (.inl rfl) e⟩
 |tup xs=>obtain⟨⟨z,Y⟩,m,r,g,e,c⟩:=x;exact⟨⟨z,Y.imp_left λ⟨o,e,n⟩=>⟨o,k _ _ (.inl rfl) e,n⟩⟩,m,r,g,k _ _ (.inl rfl) e,c⟩
 |dK s=>obtain⟨z,y,vs,r,g,es,l,e,c⟩:=x;exact⟨z,y,vs,r,g,es,l,k _ _ (.inl rfl) e,c⟩
 |dT s =>
  obtain⟨z,y,xs,r,g,es,l,e,c⟩:=x;exact⟨z,y,xs,Paired.mapP r λp q z=>⟨z.1,L _ _ z.2.1,z.2.2⟩,g,es,l,k _ _ (.inl rfl) e,c⟩
 |set S n=>obtain⟨g,es,l,t,e,c⟩:=x;exact⟨g,es,l,t,k _ _ (.inl rfl) e,c⟩
 |ins C dx fs =>
  obtain⟨d,z,ne,e,B,⟨G,es,l,I,c⟩,r⟩:=x;exact⟨J _ d,z,ne,k _ _ (.inl rfl) e,B,⟨G,es,l,k _ _ (.inr d) I,c⟩,r⟩
 |own y=>obtain⟨g,e⟩:=x;exact⟨g,k _ _ (.inl rfl) e⟩
 |xd fs=>obtain⟨B,⟨G,es,l,e,c⟩,r⟩:=x;exact⟨B,⟨G,es,l,k _ _ (.inl rfl) e,c⟩,r⟩
 |rng lo hi=>obtain⟨t,u,v,e⟩:=x;exact⟨t,u,v,k _ _ (.inl rfl) e⟩
 |frz g u U=>obtain⟨e,q⟩:=x;exact⟨k _ _ (.inl rfl) e,U q⟩
 |tbl ps =>
  have e:h.get? a=some { cls:=.none,data:=.fields ps }:=x;show h'.get? a=some { cls:=.none,data:=.fields ps };exact k a _ (.inl rfl) e
 |met f y =>
  have e:h.get? a=some (PySem.W.methodObj (.ref f) (.ref y)):=x;show h'.get? a=some (PySem.W.methodObj (.ref f) (.ref y));exact k a _ (.inl rfl) e
 |ext φ=>obtain⟨p,⟨o,e⟩,st⟩:=x;exact⟨st _ _ p λo q=>k _ _ (.inl rfl) q,⟨o,k _ _ (.inl rfl) e⟩,st⟩
theorem HOk.lt(x:HOk P w H h)(e:H a=some o):a<h.objs.size:=(x a o e).lt
theorem HOk.fresh(x:HOk P w H h)(e:h.objs.size <= a):H a=none:=by
 cases q:H a with
 |none=>rfl|some u=>exact absurd (zzE (x.lt q) e) (zyD _)
theorem HOk.kept(x:HOk P w H h)(k:∀b u,h.get? b=some u->h'.get? b=some u):HOk P w H h':=λa o e =>
 (x a o e).stay (λb u _ q=>k b u q) (λ_ q=>q) λ_ _ q=>q
theorem HOk.laid(x:HOk P w H h)(k:∀b u,h.get? b=some u->h'.get? b=some u)(L:h.objs.size <= a)(new:ObjOk P w (upd H a o) h' a o):HOk P w (upd H a o) h':=λb u e=>by
 have d:=x.fresh L;by_cases J:b=a
 ·subst J;rw[ai]at e;cases e;exact new
 ·rw[ah J]at e;exact(x b u e).stay (λc v _ q=>k c v q) (λc q=>by rw[ah (bp q d)];exact q) λc xs q=>by rw[ah (bp q d)];exact q
end
def Rd(H:Hp)(a:Addr)(u:HO):Prop:=H a=some u∨∃o,H a=some (.frz o u)
theorem Rd.ok{P:Program}{u:HO}(r:Rd H a u)(x:HOk P w H h):ObjOk P w H h a u:=by
 rcases r with r|⟨o,r⟩
 ·exact x a u r
 ·obtain⟨_,q⟩:=x a _ r;exact q
def Mut:Option HO->Prop
 |some (.lst _)=>True|some (.dK _)=>True|some (.dT _)=>True|some (.set _ _)=>True|some (.ins _ _ _)=>True|some (.ext _)=>True|_=>False
section
variable{H:Hp}{e:Addr}{o':HO}
theorem HOk.write(ok:HOk P w H h)(g:Mut (H x))(he:e=x∨H e=some (.own x))(k:∀b u,b≠e->h.get? b=some u->h'.get? b=some u)(a0:∃u,h'.get? e=some u)
  (new:ObjOk P w (upd H x o') h' x o'):HOk P w (upd H x o') h':=λb u q=>by
 have L:∀c y,H c=some (.own y)->c≠x:=λc y r z=>by subst z;rw[r]at g;exact g
 have U:∀c l,H c=some (.tup l)->c≠x:=λc l r z=>by subst z;rw[r]at g;exact g
 by_cases Y:b=x
 ·subst Y;rw[ai]at q;cases q;exact new
 ·rw[ah Y]at q;by_cases J:b=e
  ·have m:H b=some (.own x):=by
    rcases he with z|z
    ·exact absurd (J.trans z) Y
    ·rw[J];exact z
   rw[q]at m;cases m;obtain⟨v,n⟩:=a0;exact⟨v,by rw[J];exact n⟩
  ·refine(ok b u q).stay (λc v d r=>k c v ?_ r) (λc r=>by rw[ah (L c b r)];exact r) λc l r=>by rw[ah (U c l r)];exact r
   rcases d with rfl|d
   ·exact J
   ·rintro rfl;rcases he with z|z
    ·exact L c b d z
    ·rw[d]at z;cases z;exact Y rfl
end
structure Un(fs ex:List Addr)(H H':Hp)(h h':Heap):Prop where
 keep:∀b o,h.get? b=some o->H b=none->b∉fs->b∉ex->h'.get? b=some o
 slot:∀b o,h.get? b=some o->H b=none->b∈fs->b∉ex->∃sl,h'.get? b=some { o with slots:=sl }
 free:∀b o,h.get? b=some o->H b=none->b∉ex->H' b=none
 there:∀b o,h.get? b=some o->b∉ex->∃o',h'.get? b=some o'
 tups:∀b xs,H b=some (.tup xs)->H' b=some (.tup xs)
 frzs:∀b o u,H b=some (.frz o u)->H' b=some (.frz o u)
 tbls:∀b ps,H b=some (.tbl ps)->∃more,H' b=some (.tbl (ps++more))
section
variable{fs fs' ex ex':List Addr}{H H1 H2:Hp}{h1 h2:Heap}{e:Addr}{o:HO}
theorem Un.any(u:Un fs ex H H1 h h1){b:Addr}{ob:Obj}(q:h.get? b=some ob)(n:H b=none)(L:b∉ex):∃c,h1.get? b=some { ob with slots:=c }:=by
 by_cases J:b∈fs
 ·exact u.slot b ob q n J L
 ·exact⟨ob.slots,u.keep b ob q n J L⟩
theorem Un.trans(a:Un fs ex H H1 h h1)(b:Un fs ex H1 H2 h1 h2):Un fs ex H H2 h h2 where
 keep:=λc d q n l J=>b.keep c d (a.keep c d q n l J) (a.free c d q n J) l J
 slot:=λc d q n l J=>by obtain⟨sl,g⟩:=a.slot c d q n l J;obtain⟨L,r⟩:=b.slot c _ g (a.free c d q n J) l J;exact⟨L,r⟩
 free:=λc d q n J=>by obtain⟨s,g⟩:=a.there c d q J;exact b.free c s g (a.free c d q n J) J
 there:=λc d q J=>by obtain⟨s,g⟩:=a.there c d q J;exact b.there c s g J
 tups:=λc m q=>b.tups c m (a.tups c m q)
 frzs:=λc d m q=>b.frzs c d m (a.frzs c d m q)
 tbls:=λc ps q=>by obtain⟨U,g⟩:=a.tbls c ps q;obtain⟨Y,r⟩:=b.tbls c _ g;exact⟨U++Y,by rw[r,Array.append_assoc]⟩
theorem Un.kept(k:∀b u,h.get? b=some u->h'.get? b=some u):Un fs ex H H h h' :=
 ⟨λb c q _ _ _=>k b c q,λb c q _ _ _=>⟨c.slots,k b c q⟩,λ_ _ _ n _=>n,λb c q _=>⟨c,k b c q⟩,λ_ _ q=>q,λ_ _ _ q=>q,λ_ ps q=>⟨#[],by rw[q];simp⟩⟩
theorem Un.refl:Un fs ex H H h h:=Un.kept λ_ _ q=>q
theorem Un.laid(k:∀b u,h.get? b=some u->h'.get? b=some u)(J:h.objs.size <= a)(c:H a=none):Un fs ex H (upd H a o) h h' where
 keep:=λb u q _ _ _=>k b u q
 slot:=λb u q _ _ _=>⟨u.slots,k b u q⟩
 free:=λb u q n _=>by rw[ah (zzL (zzE (zzz q) J))];exact n
 there:=λb u q _=>⟨u,k b u q⟩
 tups:=λb d q=>by rw[ah (bp q c)];exact q
 frzs:=λb u d q=>by rw[ah (bp q c)];exact q
 tbls:=λb ps q=>⟨#[],by rw[ah (bp q c),q];simp⟩
theorem Un.write(L:Mut (H x))(he:e=x∨H e=some (.own x))(k:∀b u,b≠e->h.get? b=some u->h'.get? b=some u)(U:∃u,h'.get? e=some u):Un fs ex H (upd H x o) h h':=by
 have d:∀b,H b=none->b≠x:=λb n z=>by subst z;rw[n]at L;exact L
 have Y:∀b,H b=none->b≠e:=λb n z=>by
  subst z;rcases he with r|r
  ·exact d b n r
  ·rw[n]at r;cases r
 have c:∀b u,H b=some u->¬Mut (some u)->b≠x:=λb u q nm z=>by subst z;rw[q]at L;exact nm L
 refine⟨λb u q n _ _=>k b u (Y b n) q,λb u q n _ _=>⟨u.slots,k b u (Y b n) q⟩,λb u q n _=>by rw[ah (d b n)];exact n,λb u q _=>?_,
  λb g q=>by rw[ah (c b _ q λz=>z)];exact q,λb u g q=>by rw[ah (c b _ q λz=>z)];exact q,λb ps q=>⟨#[],by rw[ah (c b _ q λz=>z),q];simp⟩⟩
 by_cases J:b=e
 ·subst J;exact U
 ·exact⟨u,k b u J q⟩
theorem Un.mono(u:Un fs ex H H1 h h1)(hs:∀b∈fs,b∈fs')(J:∀b∈ex,b∈ex'):Un fs' ex' H H1 h h1 :=
 ⟨λb d q n L c=>u.keep b d q n (λz=>L (hs b z)) λz=>c (J b z),λ_ _ q n _ c=>u.any q n λz=>c (J _ z),λb d q n c=>u.free b d q n λz=>c (J b z),λb d q c=>u.there b d q λz=>c (J b z),u.tups,u.frzs,u.tbls⟩
end
noncomputable def trk(h:Heap)(H:Hp):List Addr:=(List.range h.objs.size).filter λa=>(H a).isSome
def hidT(h:Heap)(H:Hp):Heap:=PySem.W.hideAll h (trk h H)
theorem zJ(h:Heap)(H:Hp):(hidT h H).objs.size=h.objs.size:=PySem.W.hideAll_size _ _
theorem CI{b:Addr}(e:h.get? b=some o)(n:H b=none):(hidT h H).get? b=some o :=
 PySem.W.hideAll_get _ e λc=>by have q:(H b).isSome=true:=(zzY.mp c).2;rw[n]at q;simp at q
theorem FD{b:Addr}(e:(hidT h H).get? b=some o):h.get? b=some o/\H b=none:=by
 have J:h.get? b=some o:=PySem.W.of_hideAll (trk h H) e;refine⟨J,?_⟩;cases q:H b with
 |none=>rfl|some x =>
  have c:b∈trk h H:=zzY.mpr ⟨zxp.mpr (zzz J),by simp[q]⟩;have z:(hidT h H).get? b=none:=PySem.W.hideAll_none (trk h H) c;rw[z]at e;cases e
noncomputable def FE(g h:Heap)(L:Addr):List (Addr×Obj):=(List.range h.objs.size).filterMap λa=>if a=L∨(g.get? a).isSome=true then none else(h.get? a).map λo=>(a,o)
noncomputable def rest(g h:Heap)(L d:Addr):List (Addr×Obj):=(FE g h L).filter λp=>decide (p.1≠d)
structure Mod(K:zvd)(mg:Str->Option Value)(base:Heap):Prop where
 kin:K.In base
 glob:base.Ns mainGlobals mg
 blt:∃mb,base.Ns builtinsNs mb/\∀x:Str,x ≠ "__name__" -> mb x=bootBuiltins x
 nolimit:base.NoLimit
structure Cx where
 prog:Program
 w:World
 K:zvd
 mg:Str->Option Value
 base:Heap
 A:Around
 N:List Str
 s₀:Shared
 H₀:Hp
 env:Env
 outer:List Env
 stack:List Env
 ex:List Addr
 fn:Str->Bool
 calm:Bool
 pn:List (Addr×Obj)
 xe:Value->Shared->Prop
noncomputable def frs(l:List Env):List Addr:=l.filterMap (·.frame)
abbrev Cx.fs(X:Cx):List Addr:=frs X.outer
def Vis(sc:Scope)(x:Str):Prop:=sc.names.lookup x=some .local∨sc.names.lookup x=some .cell∨sc.names.lookup x=some .free
def Loc(sc:Scope)(x:Str):Prop:=sc.names.lookup x=some .local∨sc.names.lookup x=some .cell
def Look(env:Env)(h:Heap)(m:Str->Option Value)(x:Str)(u:Value):Prop :=
 (env.kindOf x=some .local/\m x=some u)∨((env.kindOf x=some .cell∨env.kindOf x=some .free)/\∃c,env.cells.lookup x=some c/\h.IsCell c (some u))
structure Cx.Ok(X:Cx):Prop where
 mod:Mod X.K X.mg X.base
 kind:X.env.scope.kind=.function
 glob:X.env.globals=mainGlobals
 blt:X.env.builtins=builtinsNs
 above:X.s₀.heap.objs.size <= X.env.locals
 inj:∀x y c,X.env.cells.lookup x=some c->X.env.cells.lookup y=some c->x=y
 has:∀x,(X.env.kindOf x=some .cell∨X.env.kindOf x=some .free)->∃c,X.env.cells.lookup x=some c
 cab:∀x c,X.fn x=true->X.env.cells.lookup x=some c->X.s₀.heap.objs.size <= c
 hd:X.calm=true->X.A.handled=none
 frames:X.A.frames=some X.stack
 stk:X.stack=X.outer∨(X.stack=X.env::X.outer/\X.env.frame=some X.env.locals)
 exf:∀b∈X.ex,b≠X.env.locals/\∀x c,X.env.cells.lookup x=some c->c≠b
 bs:∀b o,X.base.get? b=some o->X.s₀.heap.get? b=some o/\X.H₀ b=none
 bsz:X.base.objs.size <= X.s₀.heap.objs.size
 noex:∀b o,X.base.get? b=some o->b∉X.ex
 exfs:∀b∈X.ex,b∉X.fs
 funs:X.s₀.heap.FunFrames X.base X.outer
 frf:∀b∈X.fs,X.H₀ b=none
structure Inv(X:Cx)(pins:List (Addr×Obj))(σ:List (Option V))(H:Hp)(s:Shared):Prop where
 ok:X.Ok
 os:s.os=X.s₀.os
 bare:AllBare s.gens
 base:Un X.fs X.ex X.H₀ H X.s₀.heap s.heap
 loc:∃m,s.heap.Ns X.env.locals m/\∀(i:Nat) (x:Str) (v:V),X.N[i]? = some x->σ[i]? = some (some v)->Vis X.env.scope x->∃u,RelV v u/\Look X.env s.heap m x u
 cell:∀x c,X.env.cells.lookup x=some c->∃v,s.heap.IsCell c v
 free:H X.env.locals=none
 freeC:∀x c,X.env.cells.lookup x=some c->H c=none
 pin:∀p∈X.pn++pins,s.heap.get? p.1=some p.2/\H p.1=none/\p.1≠X.env.locals/\p.1∉X.fs/\∀v,p.2.data ≠ .cell v
 hok:HOk X.prog X.w H s.heap
 len:σ.length=X.N.length
section
variable{X:Cx}{σ:List (Option V)}{H H':Hp}{s:Shared}
theorem Cx.Ok.nofr(ok:X.Ok){b:Addr}(e:X.base.get? b=some o):b∉X.fs:=λJ=>by have:=(ok.funs.mem J).1;rw[e]at this;cases this
theorem Inv.bs(I:Inv X pins σ H s):∀b o,X.base.get? b=some o->s.heap.get? b=some o/\H b=none:=λb o e =>
 ⟨I.base.keep b o (I.ok.bs b o e).1 (I.ok.bs b o e).2 (I.ok.nofr e) (I.ok.noex b o e),I.base.free b o (I.ok.bs b o e).1 (I.ok.bs b o e).2 (I.ok.noex b o e)⟩
theorem Inv.bk(I:Inv X pins σ H s):∀b o,X.base.get? b=some o->s.heap.get? b=some o:=λb o e=>(I.bs b o e).1
theorem Inv.mod(I:Inv X pins σ H s):Mod X.K X.mg X.base:=I.ok.mod
theorem Inv.kIn(I:Inv X pins σ H s):X.K.In s.heap:=I.ok.mod.kin.keeps I.bk
theorem Inv.lt(I:Inv X pins σ H s):X.env.locals<s.heap.objs.size:=let ⟨_,hn,_⟩:=I.loc;hn.lt
theorem Inv.sz(I:Inv X pins σ H s):X.s₀.heap.objs.size <= s.heap.objs.size:=zzq I.ok.above (Nat.le_of_lt I.lt)
theorem Inv.nofs(I:Inv X pins σ H s)(h:s.heap.objs.size <= a):a∉X.fs:=λJ=>by obtain⟨_,o,L,_⟩:=I.ok.funs.mem J;exact absurd (zzE (zzz L) (zzq I.sz h)) (zyD _)
theorem Inv.cne(I:Inv X pins σ H s):∀x c,X.env.cells.lookup x=some c->c≠X.env.locals:=λx c e z=>by obtain⟨v,o,U,hd⟩:=I.cell x c e;obtain⟨m,⟨o',es,ep,L,J,_⟩,_⟩:=I.loc;rw[z,L]at U;cases U;rw[J]at hd;cases hd
theorem Inv.funs(I:Inv X pins σ H s):s.heap.FunFrames X.base X.outer:=by
 have all:∀(l:List Env),(∀b∈frs l,b∈X.fs)->X.s₀.heap.FunFrames X.base l->s.heap.FunFrames X.base l:=by
  intro l
  induction l with
  |nil=>intro _ _;trivial|cons env r B =>
   intro c g;obtain⟨d,⟨L,o,Y,m,n,hd⟩,q⟩:=g;have J:L∈X.fs:=c L (by unfold frs;rw[zwP,Y];exact zzg);obtain⟨sl,e⟩:=I.base.slot L o n (I.ok.frf L J) J λz=>I.ok.exfs L z J;exact⟨d,⟨L,_,Y,m,e,hd⟩,B (λb U=>c b (by unfold frs;rw[zwP,Y];exact zzc _ U)) q⟩
 exact all X.outer (λ_ U=>U) I.ok.funs
theorem Inv.stack(I:Inv X pins σ H s):s.heap.FunFrames X.base X.stack:=by
 rcases I.ok.stk with e|⟨e,J⟩
 ·rw[e];exact I.funs
 ·rw[e];obtain⟨m,c,_⟩:=I.loc;refine .cons (by rw[I.ok.kind];decide) J c ?_ I.funs;exact zwI (zzq I.ok.bsz I.ok.above)
theorem Inv.stkSub(I:Inv X pins σ H s):∀b∈frs X.stack,b∈X.env.locals::X.fs:=λb J=>by
 rcases I.ok.stk with e|⟨e,L⟩
 ·rw[e]at J;exact zzc _ J
 ·rw[e]at J;unfold frs at J;rw[zwP,L]at J;exact J
theorem Inv.stkFree(I:Inv X pins σ H s):∀b∈frs X.stack,H b=none:=λb J=>by
 rcases zzk.mp (I.stkSub b J) with e|J
 ·rw[e];exact I.free
 ·obtain⟨_,o,L,_⟩:=I.ok.funs.mem J;exact I.base.free b o L (I.ok.frf b J) λz=>I.ok.exfs b z J
theorem Inv.step{g':Array GenState}{d':Drawn}(I:Inv X pins σ H s)(U:∀b∈ch,(b∈X.ex∨X.s₀.heap.objs.size <= b)/\b≠X.env.locals/\(∀x c,X.env.cells.lookup x=some c->c≠b)/\∀p∈X.pn++pins,p.1≠b)(keep:∀b o,b≠X.env.locals->b∉X.fs->b∉ch->s.heap.get? b=some o->H b=none->h'.get? b=some o)(slot:∀b o,b≠X.env.locals->b∈X.fs->b∉ch->s.heap.get? b=some o->H b=none->∃E,h'.get? b=some { o with slots:=E })(free:∀b o,b∉ch->s.heap.get? b=some o->H b=none->H' b=none)(there:∀b o,b∉ch->s.heap.get? b=some o->∃h,h'.get? b=some h)(y:∀b xs,H b=some (.tup xs)->H' b=some (.tup xs))(a:∀b o u,H b=some (.frz o u)->H' b=some (.frz o u))(j:∀b ps,H b=some (.tbl ps)->∃more,H' b=some (.tbl (ps++more)))(ns:∀m,s.heap.Ns X.env.locals m->h'.Ns X.env.locals m)(C:HOk X.prog X.w H' h')(hg:AllBare g') :
  Inv X pins σ H' { s with heap:=h',gens:=g',drawn:=d',toks:=t' }:=by
 have M:∀b o,X.s₀.heap.get? b=some o->b≠X.env.locals:=λb o e=>zzL (zzE (zzz e) I.ok.above);have A:∀b o,X.s₀.heap.get? b=some o->b∉X.ex->b∉ch:=λb o e J B=>by
  rcases (U b B).1 with z|z
  ·exact J z
  ·exact absurd (zzE (zzz e) z) (zyD _)
 have L:∀x c,X.env.cells.lookup x=some c->∀v,s.heap.IsCell c v->h'.IsCell c v:=λx c e v ⟨o,G,hd⟩=>by
  have Y:c∉ch:=λz=>(U c z).2.2.1 x c e rfl;by_cases N:c∈X.fs
  ·obtain⟨E,q⟩:=slot c o (I.cne x c e) N Y G (I.freeC x c e);exact⟨_,q,hd⟩
  ·exact⟨o,keep c o (I.cne x c e) N Y G (I.freeC x c e),hd⟩
 refine⟨I.ok,I.os,hg,⟨λb o e n B J=>?_,λb o e n B J=>?_,λb o e n J=>?_,λb o e J=>?_,λb xs e=>y b xs (I.base.tups b xs e),λb o xs e=>a b o xs (I.base.frzs b o xs e),λb ps e=>?_⟩,?_,λx c e=>?_,?_,λx c e=>?_,λp Q=>?_,C,I.len⟩
 ·exact keep b o (M b o e) B (A b o e J) (I.base.keep b o e n B J) (I.base.free b o e n J)
 ·obtain⟨E,g⟩:=I.base.slot b o e n B J;obtain⟨a3,T⟩:=slot b _ (M b o e) B (A b o e J) g (I.base.free b o e n J);exact⟨a3,T⟩
 ·obtain⟨h,g⟩:=I.base.there b o e J;exact free b h (A b o e J) g (I.base.free b o e n J)
 ·obtain⟨h,g⟩:=I.base.there b o e J;exact there b h (A b o e J) g
 ·obtain⟨m1,g⟩:=I.base.tbls b ps e;obtain⟨m2,T⟩:=j b _ g;exact⟨m1++m2,by rw[T,Array.append_assoc]⟩
 ·obtain⟨m,hn,hl⟩:=I.loc;refine⟨m,ns m hn,λi x v g T e3=>?_⟩;obtain⟨u,r,l⟩:=hl i x v g T e3;refine⟨u,r,?_⟩;rcases l with l|⟨k,c,e,z⟩
  ·exact .inl l
  ·exact .inr ⟨k,c,e,L x c e _ z⟩
 ·obtain⟨v,z⟩:=I.cell x c e;exact⟨v,L x c e v z⟩
 ·obtain⟨m,⟨o,_,_,G,_⟩,_⟩:=I.loc;exact free _ o (λz=>(U _ z).2.1 rfl) G I.free
 ·obtain⟨v,o,G,hd⟩:=I.cell x c e;exact free c o (λz=>(U c z).2.2.1 x c e rfl) G (I.freeC x c e)
 ·obtain⟨e,n,ne,nf,d⟩:=I.pin p Q;have Y:p.1∉ch:=λz=>(U p.1 z).2.2.2 p Q rfl;exact⟨keep p.1 p.2 ne nf Y e n,free p.1 p.2 Y e n,ne,nf,d⟩
theorem Inv.un(I:Inv X pins σ H s)(u:Un X.fs [] H H' s.heap h')(c:HOk X.prog X.w H' h'):Inv X pins σ H' { s with heap:=h',toks:=t' }:=by
 obtain⟨m,⟨o,es,ep,d,r⟩,_⟩:=id I.loc;obtain⟨sl,g⟩:=u.any d I.free (by simp);exact I.step (g':=s.gens) (d':=s.drawn) (ch:=[]) (λ_ z=>nomatch z) (λb o _ Y _ e n=>u.keep b o e n Y (by simp)) (λb o _ Y _ e n=>u.slot b o e n Y (by simp)) (λb o _ e n=>u.free b o e n (by simp)) (λb o _ e=>u.there b o e (by simp)) u.tups u.frzs u.tbls (λm' l=>by obtain⟨o',U,L,J,q⟩:=l;rw[d]at J;cases J;exact⟨_,U,L,g,q⟩) c I.bare
theorem Inv.call{g':Array GenState}{d':Drawn}(I:Inv X pins σ H s)(u:Un (frs X.stack) ch H H' s.heap h')(l:HOk X.prog X.w H' h')(G:AllBare g')(J:∀b∈ch,(b∈X.ex∨X.s₀.heap.objs.size <= b)/\b≠X.env.locals/\(∀x c,X.env.cells.lookup x=some c->c≠b)/\∀p∈X.pn++pins,p.1≠b) :
  Inv X pins σ H' { s with heap:=h',gens:=g',drawn:=d',toks:=t' }:=by
 obtain⟨m,⟨o,es,ep,q,r⟩,_⟩:=id I.loc;obtain⟨sl,g⟩:=u.any q I.free λz=>(J _ z).2.1 rfl;exact I.step (ch:=ch) J (λb o g B d e n=>u.keep b o e n (λz=>(zzk.mp (I.stkSub b z)).elim g B) d) (λb o _ _ d e n=>u.any e n d) (λb o d e n=>u.free b o e n d) (λb o d e=>u.there b o e d) u.tups u.frzs u.tbls (λm' T=>by obtain⟨o',Y,U,L,a⟩:=T;rw[q]at L;cases L;exact⟨_,Y,U,g,a⟩) l G
theorem Inv.turned(I:Inv X pins σ H s)(k:∀b o,b≠a->s.heap.get? b=some o->h'.get? b=some o)(h:H a=none)(L:a≠X.env.locals)(l:a∈X.ex∨X.s₀.heap.objs.size <= a)(B:∀x c,X.env.cells.lookup x=some c->c≠a)(G:∀p∈X.pn++pins,p.1≠a):Inv X pins σ H { s with heap:=h',toks:=t' }:=by
 have J:∀b u,H b=some u->b≠a:=λb u e z=>by rw[z,h]at e;cases e
 refine I.step (g':=s.gens) (d':=s.drawn) (ch:=[a]) (λb U=>?_) (λb o _ _ d e _=>k b o (λz=>d (by simp[z])) e) (λb o _ _ d e _=>⟨o.slots,k b o (λz=>d (by simp[z])) e⟩) (λ_ _ _ _ n=>n)
  (λb o d e=>⟨o,k b o (λz=>d (by simp[z])) e⟩) (λ_ _ e=>e) (λ_ _ _ e=>e) (λb ps e=>⟨#[],by rw[e];simp⟩) (λm T=>?_) (λb u e=>?_) I.bare
 ·have e:b=a:=by simpa using U
  subst e;exact⟨l,L,B,G⟩
 ·obtain⟨o,es,g,Y,r⟩:=T;exact⟨o,es,g,k _ o (Ne.symm L) Y,r⟩
 ·refine(I.hok b u e).stay (λc v d q=>k c v ?_ q) (λ_ q=>q) λ_ _ q=>q;rcases d with z|z
  ·rw[z];exact J b u e
  ·exact J c _ z
theorem Inv.tok(I:Inv X pins σ H s)(t:Nat):Inv X pins σ H { s with toks:=t }:=I.un (h':=s.heap) (t':=t) Un.refl I.hok
theorem Inv.kept{t':Nat}(I:Inv X pins σ H s)(k:∀b u,s.heap.get? b=some u->h'.get? b=some u):Inv X pins σ H { s with heap:=h',toks:=t' }:=I.un (Un.kept k) (I.hok.kept k)
theorem Inv.laid{a:Addr}{o:HO}{t':Nat}(I:Inv X pins σ H s)(k:∀b u,s.heap.get? b=some u->h'.get? b=some u)(J:s.heap.objs.size <= a)(new:ObjOk X.prog X.w (upd H a o) h' a o) :
  Inv X pins σ (upd H a o) { s with heap:=h',toks:=t' }:=I.un (Un.laid k J (I.hok.fresh J)) (I.hok.laid k J new)
theorem Inv.write{x e:Addr}{o:HO}{t':Nat}(I:Inv X pins σ H s)(L:Mut (H x))(he:e=x∨H e=some (.own x))(k:∀b u,b≠e->s.heap.get? b=some u->h'.get? b=some u)(J:∃u,h'.get? e=some u)
  (new:ObjOk X.prog X.w (upd H x o) h' x o):Inv X pins σ (upd H x o) { s with heap:=h',toks:=t' }:=I.un (Un.write L he k J) (I.hok.write L he k J new)
theorem Inv.pins_of(I:Inv X pins σ H s)(h:∀p∈pl,s.heap.get? p.1=some p.2/\H p.1=none/\p.1≠X.env.locals/\p.1∉X.fs/\∀v,p.2.data ≠ .cell v):Inv X pl σ H s :=
 ⟨I.ok,I.os,I.bare,I.base,I.loc,I.cell,I.free,I.freeC,λp J=>(zzo.mp J).elim (λz=>I.pin p (zyn _ z)) (h p),I.hok,I.len⟩
theorem rZ(g:N.Nodup){j:Nat}{x:Str}(a:N[i]? = some x)(b:N[j]? = some x):i=j:=by obtain⟨h1,c⟩:=zzx.mp a;obtain⟨h2,d⟩:=zzx.mp b;exact(zwD g).mp (c.trans d.symm)
theorem uh{x:Str}{Q:Unit->Shared->Prop}(I:Inv X pins σ H s)(hN:X.N.Nodup)(hi:X.N[i]? = some x)(L:Loc X.env.scope x)(r:RelV v u)(h:∀s',Inv X pins (σ.set i (some v)) H s'->(∃a,Heap.SameBut a s.heap s'.heap/\(a=X.env.locals∨X.env.cells.lookup x=some a))->Q () s')(hf:X.fn x=true∨X.env.scope.names.lookup x=some .local:=by first|exact .inl rfl|exact .inr rfl|assumption):wpAny M A (storeName X.env x u) Q E s:=by
 obtain⟨m,hn,hl⟩:=id I.loc;have a4:(X.env.scope.kind == .class || (X.env.scope.kind == .module && X.env.locals != X.env.globals))=false:=by rw[I.ok.kind];rfl
 have Y:i<σ.length:=by rw[I.len];exact(zzx.mp hi).1
 have cne:=I.cne;have J:∀{a:Addr} {h':Heap},(∃o,s.heap.get? a=some o/\H a=none)->Heap.SameBut a s.heap h'->HOk X.prog X.w H h':=λ{a h'} ha g b ob e=>by
  obtain⟨_,_,U⟩:=ha;refine(I.hok b ob e).stay (λc w' B q=>(g.2 c ?_).trans q) (λ_ q=>q) λ_ _ q=>q;rintro rfl;rcases B with rfl|B
  ·rw[U]at e;cases e
  ·rw[U]at B;cases B
 rcases L with T|T
 ·refine wpAny_storeName_local T hn (λh' a7 g=>?_) a4;obtain⟨oL,_,_,a8,_⟩:=id hn;refine h _ ⟨I.ok,I.os,I.bare,⟨λb o e n C L=>?_,λb o e n C L=>?_,I.base.free,λb o e L=>?_,I.base.tups,I.base.frzs,I.base.tbls⟩,⟨_,a7,λj y v' l G e3=>?_⟩,λy c e=>?_,I.free,I.freeC,λp hp=>?_,J ⟨oL,a8,I.free⟩ g,by simpa using I.len⟩ ⟨_,g,.inl rfl⟩
  ·exact(g.2 b (zzL (zzE (zzz e) I.ok.above))).trans (I.base.keep b o e n C L)
  ·obtain⟨sl,l⟩:=I.base.slot b o e n C L;exact⟨sl,(g.2 b (zzL (zzE (zzz e) I.ok.above))).trans l⟩
  ·obtain⟨o',l⟩:=I.base.there b o e L;exact⟨o',(g.2 b (zzL (zzE (zzz e) I.ok.above))).trans l⟩
  ·by_cases hj:j=i
   ·subst hj;rw[hi]at l;cases l;rw[zxq Y]at G;cases G;exact⟨u,r,.inl ⟨T,by simp⟩⟩
   ·rw[zzH (Ne.symm hj)]at G;obtain⟨u',r',q⟩:=hl j y v' l G e3;refine⟨u',r',?_⟩;rcases q with ⟨k,e⟩|⟨k,c,e,z⟩
    ·refine .inl ⟨k,?_⟩;have:y≠x:=λe=>hj (rZ hN l (e ▸ hi));simp[this,e]
    ·exact .inr ⟨k,c,e,z.sameBut g (cne y c e)⟩
  ·obtain⟨w',z⟩:=I.cell y c e;exact⟨w',z.sameBut g (cne y c e)⟩
  ·obtain⟨e,n,ne,nf,d⟩:=I.pin p hp;exact⟨(g.2 p.1 ne).trans e,n,ne,nf,d⟩
 ·have a0:X.fn x=true:=by
   rcases hf with z|z
   ·exact z
   ·rw[z]at T;cases T
  obtain⟨c,B⟩:=I.ok.has x (.inl T);obtain⟨w',z⟩:=I.cell x c B;refine wpAny_storeName_cell I.ok.kind T B z (λh' a2 g=>?_);obtain⟨oc,a5,a6⟩:=id z;refine h { s with heap:=h' } ⟨I.ok,I.os,I.bare,⟨λb o e n C L=>?_,λb o e n C L=>?_,I.base.free,λb o e L=>?_,I.base.tups,I.base.frzs,I.base.tbls⟩,⟨m,hn.sameBut g (Ne.symm (cne x c B)),λj y v' l G e3=>?_⟩,λy c' e=>?_,I.free,I.freeC,λp hp=>?_,J ⟨oc,a5,I.freeC x c B⟩ g,by simpa using I.len⟩ ⟨c,g,.inr B⟩
  ·exact(g.2 b (zzL (zzE (zzz e) (I.ok.cab x c a0 B)))).trans (I.base.keep b o e n C L)
  ·obtain⟨sl,l⟩:=I.base.slot b o e n C L;exact⟨sl,(g.2 b (zzL (zzE (zzz e) (I.ok.cab x c a0 B)))).trans l⟩
  ·obtain⟨o',l⟩:=I.base.there b o e L;exact⟨o',(g.2 b (zzL (zzE (zzz e) (I.ok.cab x c a0 B)))).trans l⟩
  ·by_cases hj:j=i
   ·subst hj;rw[hi]at l;cases l;rw[zxq Y]at G;cases G;exact⟨u,r,.inr ⟨.inl T,c,B,a2⟩⟩
   ·rw[zzH (Ne.symm hj)]at G;obtain⟨u',r',q⟩:=hl j y v' l G e3;refine⟨u',r',?_⟩;rcases q with q|⟨k,c',e,z'⟩
    ·exact .inl q
    ·refine .inr ⟨k,c',e,z'.sameBut g ?_⟩;rintro rfl;exact hj (rZ hN l (I.ok.inj _ _ _ e B ▸ hi))
  ·by_cases a3:c'=c
   ·subst a3;exact⟨_,a2⟩
   ·obtain⟨w2,z2⟩:=I.cell y c' e;exact⟨w2,z2.sameBut g a3⟩
  ·obtain⟨e,n,ne,nf,d⟩:=I.pin p hp;refine⟨(g.2 p.1 ?_).trans e,n,ne,nf,d⟩;intro q;rw[q,a5]at e;have q':oc=p.2:=zzV e;exact d w' (by rw[←q'];exact a6)
theorem se{x:Str}{Q:Unit->Shared->Prop}(I:Inv X pins σ H s)(c:X.N.Nodup)(hi:X.N[i]? = some x)(U:Loc X.env.scope x)(r:RelV v u)(h:∀s',Inv X pins (σ.set i (some v)) H s'->Q () s')(L:X.fn x=true∨X.env.scope.names.lookup x=some .local:=by first|exact .inl rfl|exact .inr rfl|assumption):wpAny M A (storeName X.env x u) Q E s :=
 uh I c hi U r (λs' J _=>h s' J) L
theorem Inv.call'{s':Shared}(I:Inv X pins σ H s)(U:s'.os=s.os)(u:Un (frs X.stack) ch H H' s.heap s'.heap)(d:HOk X.prog X.w H' s'.heap)(L:AllBare s'.gens)(J:∀b∈ch,(b∈X.ex∨X.s₀.heap.objs.size <= b)/\b≠X.env.locals/\(∀x c,X.env.cells.lookup x=some c->c≠b)/\∀p∈X.pn++pins,p.1≠b):Inv X pins σ H' s':=by obtain⟨h',g',d',t',g⟩:=s';have e:g=s.os:=U;subst e;exact I.call (g':=g') (t':=t') (d':=d') u d L J
end
abbrev XK:=Value->Option Addr->Hp->Prop
abbrev St:=List (Option V)
variable{σ:St}
abbrev VK:=V->Hp->Prop
abbrev TE:=St->Hp->VK->Prop
variable{te tl:TE}
abbrev TT:=St->Hp->(Bool->Hp->Prop)->Prop
abbrev TA:=St->Hp->(List V->Hp->Prop)->Prop
structure Ends where
 nx:St->Hp->Prop
 rt:VK
 bk:St->Hp->Prop:=λ_ _=>False
 ct:St->Hp->Prop:=λ_ _=>False
abbrev TS:=Ends->St->Hp->Prop
def EP(X:Cx)(pins:List (Addr×Obj))(σ:St)(Q:VK)(u:Value)(s':Shared):Prop:=∃v H',Inv X pins σ H' s'/\RelV v u/\Q v H'
def TP(X:Cx)(pins:List (Addr×Obj))(σ:St)(Q:Bool->Hp->Prop)(b:Bool)(s':Shared):Prop:=∃H',Inv X pins σ H' s'/\Q b H'
def AP(X:Cx)(pins:List (Addr×Obj))(σ:St)(Q:List V->Hp->Prop)(us:List Value)(s':Shared):Prop:=∃vs H',Inv X pins σ H' s'/\Vals vs us/\Q vs H'
def SP(X:Cx)(pins:List (Addr×Obj))(D:Ends)(f:Flow)(s':Shared):Prop :=
 match f with
 |.next=>∃c H',Inv X pins c H' s'/\D.nx c H'|.brk=>∃c H',Inv X pins c H' s'/\D.bk c H'|.cont=>∃c H',Inv X pins c H' s'/\D.ct c H'|.ret u=>∃v c H',Inv X pins c H' s'/\RelV v u/\D.rt v H'
def PE(X:Cx)(e:Expr)(t:TE):Prop :=
 ∀(pins:List (Addr×Obj)) (s:Shared) (σ:St) (H:Hp) (Q:VK),Inv X pins σ H s->t σ H Q->wpAny (model X.prog X.w) X.A (eval e X.env) (EP X pins σ Q) X.xe s
def PT(X:Cx)(e:Expr)(t:TT):Prop :=
 ∀(pins:List (Addr×Obj)) (s:Shared) (σ:St) (H:Hp) (Q:Bool->Hp->Prop),Inv X pins σ H s->t σ H Q->wpAny (model X.prog X.w) X.A (isTrue e X.env (eval e X.env)) (TP X pins σ Q) X.xe s
def PW(X:Cx)(e:Expr)(t:TT):Prop :=
 ∀(whole:Sem Value) (pins:List (Addr×Obj)) (s:Shared) (σ:St) (H:Hp) (Q:Bool->Hp->Prop),Inv X pins σ H s->t σ H Q->wpAny (model X.prog X.w) X.A (isTrue e X.env whole) (TP X pins σ Q) X.xe s
theorem PW.pt{X:Cx}{t:TT}(h:PW X e t):PT X e t:=h _
def PA(X:Cx)(es:List Expr)(t:TA):Prop :=
 ∀(pos:Pos) (pins:List (Addr×Obj)) (s:Shared) (σ:St) (H:Hp) (Q:List V->Hp->Prop),Inv X pins σ H s->t σ H Q->wpAny (model X.prog X.w) X.A (spliced (backTo pos (starEach es X.env))) (AP X pins σ Q) X.xe s
def PS(X:Cx)(st:Stmt)(t:TS):Prop :=
 ∀(pins:List (Addr×Obj)) (s:Shared) (σ:St) (H:Hp) (D:Ends),Inv X pins σ H s->t D σ H->wpAny (model X.prog X.w) X.A (exec st X.env) (SP X pins D) X.xe s
def PSs(X:Cx)(st:List Stmt)(t:TS):Prop :=
 ∀(pins:List (Addr×Obj)) (s:Shared) (σ:St) (H:Hp) (D:Ends),Inv X pins σ H s->t D σ H->wpAny (model X.prog X.w) X.A (execs st X.env) (SP X pins D) X.xe s
theorem thn{t:Sem α}{Q J:α->Shared->Prop}{s:Shared}(h:wpAny M A t Q E s)(L:∀a s,Q a s->J a s):wpAny M A t J E s:=zyS h L λ_ _ x=>x
theorem thnE{t:Sem α}{P R S:α->Shared->β->γ->Prop}{J:α->Shared->Prop}{s:Shared}(h:wpAny M A t (λa s=>∃x H,P a s x H/\R a s x H/\S a s x H) E s)(k:∀a s x H,P a s x H->R a s x H->S a s x H->J a s):wpAny M A t J E s:=thn h λ_ _ ⟨_,_,p,q,r⟩=>k _ _ _ _ p q r
theorem thnF{t:Sem α}{P S:α->Shared->β->γ->Prop}{J:α->Shared->Prop}{s:Shared}(h:wpAny M A t (λa s=>∃x H,P a s x H/\S a s x H) E s)(k:∀a s x H,P a s x H->S a s x H->J a s):wpAny M A t J E s:=thn h λ_ _ ⟨_,_,p,q⟩=>k _ _ _ _ p q
theorem thnG{t:Sem α}{P S:α->Shared->γ->Prop}{J:α->Shared->Prop}{s:Shared}(h:wpAny M A t (λa s=>∃H,P a s H/\S a s H) E s)(k:∀a s H,P a s H->S a s H->J a s):wpAny M A t J E s:=thn h λ_ _ ⟨_,p,q⟩=>k _ _ _ p q
section
variable{X:Cx}
def tVar(i:Nat):TE:=λσ H Q=>∃v,σ[i]? = some (some v)/\Q v H
def tC(v:V):TE:=λ_ H Q=>Q v H
theorem HN{x:Str}(n:X.N[i]? = some x)(U:Vis X.env.scope x)(hd:(x == ("__debug__" : Str))=false:=by decide)(L:(x == ("__classdict__" : Str))=false:=by decide):PE X (.Name x pos) (tVar i):=by
 intro pins s σ H Q I h;obtain⟨v,e,h⟩:=h;obtain⟨m,B,q⟩:=I.loc;obtain⟨u,r,l⟩:=q i x v n e U;have fin:EP X pins σ Q u s:=⟨v,H,I,r,h⟩;rcases l with ⟨d,z⟩|⟨d,c,g,J⟩
 ·exact wpAny_Name (wpAny_loadName_local I.ok.kind d B z fin) hd
 ·rcases d with d|d
  ·exact wpAny_Name (wpAny_loadName_cell I.ok.kind d g J fin) hd
  ·exact wpAny_Name (wpAny_loadName_free I.ok.kind d g J fin L) hd
theorem bq{i j pos}:PE X (.Constant (.int i) j pos) (tC (.int i)):=λ_ _ _ H _ I h=>wpAny_Constant_int ⟨.int i,H,I.tok _,⟨_,rfl⟩,h⟩
theorem Kj{b j pos}:PE X (.Constant (.bool b) j pos) (tC (.bl b)):=λ_ _ _ H _ I h=>Constant_bool ⟨.bl b,H,I,rfl,h⟩
theorem HP{j pos}:PE X (.Constant .none j pos) (tC .non):=λ_ _ _ H _ I h=>Constant_none ⟨.non,H,I,rfl,h⟩
theorem HQ{x j pos}:PE X (.Constant (.str x) j pos) (tC (.str x)):=λ_ _ _ H _ I h=>Calls.Constant_str ⟨.str x,H,I.tok _,⟨_,rfl⟩,h⟩
def Gl(X:Cx)(x:Str):Prop:=X.env.kindOf x=some .globalImplicit
theorem hU{s:Shared}{x:Str}(I:Inv X pl σ H s)(J:Gl X x)(c:X.mg x=some u)(h:Q u s)(hd:(x == ("__debug__" : Str))=false:=by decide):wpAny (model X.prog X.w) X.A (eval (.Name x pos) X.env) Q E s :=
 Calls.Name_function_global I.ok.kind J (Calls.loadGlobal_global (by rw[I.ok.glob];exact I.mod.glob.keeps I.bk) c h) hd
theorem oq{s:Shared}{x:Str}(I:Inv X pl σ H s)(J:Gl X x)(g:X.mg x=none)(L:bootBuiltins x=some u)(h:Q u s)(l:x ≠ "__name__":=by decide)(hd:(x == ("__debug__" : Str))=false:=by decide):wpAny (model X.prog X.w) X.A (eval (.Name x pos) X.env) Q E s:=by obtain⟨mb,c,d⟩:=I.mod.blt;exact Calls.Name_function_global I.ok.kind J (Calls.loadGlobal_builtin (by rw[I.ok.glob];exact I.mod.glob.keeps I.bk) g (by rw[I.ok.blt];exact c.keeps I.bk) ((d x l).trans L) h) hd
theorem zK{x:Str}(J:Gl X x)(c:X.mg x=some u)(r:RelV v u)(hd:(x == ("__debug__" : Str))=false:=by decide):PE X (.Name x pos) (tC v) :=
 λ_ _ _ H _ I h=>hU I J c ⟨v,H,I,r,h⟩ hd
theorem FF{x:Str}(J:Gl X x)(c:X.mg x=none)(L:bootBuiltins x=some u)(r:RelV v u)(d:x ≠ "__name__":=by decide)(hd:(x == ("__debug__" : Str))=false:=by decide):PE X (.Name x pos) (tC v) :=
 λ_ _ _ H _ I h=>oq I J c L ⟨v,H,I,r,h⟩ d hd
variable{a:Expr}{ta tb:TE}
def tB(t:TE):TT:=λσ H Q=>t σ H λx d=>∃c,x=.bl c/\Q c d
theorem HR{t:TE}(h:PE X e t)(he:∀whole,isTrue e X.env whole=(do let v ←whole;standAt e.pos;holding [v] (truthy v)):=by intro _;rfl):PT X e (tB t):=by intro pins s σ H Q I g;refine isTrue_plain (thn (h pins s σ H _ I g) λv s1 L=>?_) (he _);obtain⟨x,c,J,Y,U⟩:=L;obtain⟨d,rfl,q⟩:=U;cases Y;exact zyW ⟨c,J,q⟩
variable{tA tB':TT}{rest:List Expr}
def tAnd(t u:TT):TT:=λσ H Q=>t σ H λc d=>if c=true then u σ d Q else Q false d
def tOr(t u:TT):TT:=λσ H Q=>t σ H λc d=>if c=true then Q true d else u σ d Q
def tNot(t:TT):TT:=λσ H Q=>t σ H λc d=>Q (!c) d
theorem FG(d:PT X a tA):PW X (.BoolOp .And [a] pos) tA:=by
 intro wh pins s σ H Q I h;refine isTrue_and (thn (d pins s σ H Q I h) λc s1 e=>?_);cases c with
 |true=>exact isTrue_and_nil e|false=>exact e
theorem EA(d:PT X a tA):PW X (.BoolOp .Or [a] pos) tA:=by
 intro wh pins s σ H Q I h;refine isTrue_or (thn (d pins s σ H Q I h) λc s1 e=>?_);cases c with
 |false=>exact isTrue_or_nil e|true=>exact e
theorem HS(g:PT X a tA)(U:PW X (.BoolOp .And (b::rest) pos) tB'):PW X (.BoolOp .And (a::b::rest) pos) (tAnd tA tB'):=by
 intro Y pins s σ H Q I h;refine isTrue_and (thnG (g pins s σ H _ I h) λc s1 d J L=>?_);cases c with
 |true=>exact U Y pins s1 σ d Q J L|false=>exact⟨d,J,L⟩
theorem HU(g:PT X a tA)(U:PW X (.BoolOp .Or (b::rest) pos) tB'):PW X (.BoolOp .Or (a::b::rest) pos) (tOr tA tB'):=by
 intro Y pins s σ H Q I h;refine isTrue_or (thnG (g pins s σ H _ I h) λc s1 d J L=>?_);cases c with
 |true=>exact⟨d,J,L⟩|false=>exact U Y pins s1 σ d Q J L
theorem HV(g:PT X a tA):PT X (.UnaryOp .Not a pos) (tNot tA):=by intro pins s σ H Q I h;exact isTrue_not (g pins s σ H (λc d=>Q (!c) d) I h)
def Kk(ta tb:TE):TE:=λσ H Q=>ta σ H λx d=>∃c,x=.bl c/\if c=true then tb σ d Q else Q (.bl false) d
def tOrV(ta tb:TE):TE:=λσ H Q=>ta σ H λx d=>∃c,x=.bl c/\if c=true then Q (.bl true) d else tb σ d Q
theorem HW{op}{t:TE}(h:PE X a t):PE X (.BoolOp op [a] pos) t:=λpins s σ H Q I c=>BoolOp_one (h pins s σ H Q I c)
theorem HX(g:PE X a ta)(U:PE X (.BoolOp .And (b::rest) pos) tb):PE X (.BoolOp .And (a::b::rest) pos) (Kk ta tb):=by
 intro pins s σ H Q I h;refine BoolOp_and (thn (g pins s σ H _ I h) λv s1 Y=>?_);obtain⟨x,d,L,l,J⟩:=Y;obtain⟨c,rfl,J⟩:=J;cases l;refine zyW ?_;cases c with
 |true=>exact U pins s1 σ d Q L J|false=>exact⟨.bl false,d,L,rfl,J⟩
theorem Kl(g:PE X a ta)(U:PE X (.BoolOp .Or (b::rest) pos) tb):PE X (.BoolOp .Or (a::b::rest) pos) (tOrV ta tb):=by
 intro pins s σ H Q I h;refine BoolOp_or (thn (g pins s σ H _ I h) λv s1 Y=>?_);obtain⟨x,d,L,l,J⟩:=Y;obtain⟨c,rfl,J⟩:=J;cases l;refine zyW ?_;cases c with
 |false=>exact U pins s1 σ d Q L J|true=>exact⟨.bl true,d,L,rfl,J⟩
end
def SqL(K:zvd)(H:Hp)(a:Addr)(xs:List V):Prop :=
 Rd H a (.lst xs) ∨
  ∃(o:Obj) (c:Array Value) (n:Nat),K.lookup a=some o/\o.cls=.type "list" /\ o.dict=none/\o.data=.seq c n/\c.size <= sizeLine/\Vals xs c.toList
def SqT(K:zvd)(H:Hp)(a:Addr)(xs:List V):Prop :=
 Rd H a (.tup xs) ∨
  ∃(o:Obj) (c:Array Value) (n:Nat),K.lookup a=some o/\o.cls=.type "tuple" /\ o.data=.seq c n/\c.size <= sizeLine/\Vals xs c.toList
noncomputable def absV:Value->Option V
 |.none=>some .non|.bool b=>some (.bl b)|.int i _=>some (.int i)|.str x _=>some (.str x)|.bytes b _=>some (.byt b)|.float b _=>some (.flt b)|.ref a=>some (.ref a)|.type n=>some (.ty n)|_=>none
theorem RelV.abs{x:V}(r:RelV x u):absV u=some x:=by
 cases x with
 |non=>cases r;rfl
 |bl _=>cases r;rfl
 |int _=>obtain⟨t,rfl⟩:=r;rfl
 |str _=>obtain⟨t,rfl⟩:=r;rfl
 |byt _=>obtain⟨t,rfl⟩:=r;rfl
 |flt _=>obtain⟨t,rfl⟩:=r;rfl
 |ref _=>cases r;rfl
 |ty _=>cases r;rfl
theorem RelV.inj{x:V}(r:RelV x u)(q:RelV y u):x=y:=zzV (r.abs.symm.trans q.abs)
theorem Vals.inj:∀{xs ys:List V} {us:List Value},Vals xs us->Vals ys us->xs=ys:=by
 intro xs ys us h k
 induction h generalizing ys with
 |nil=>cases k;rfl
 |cons r t J=>cases k with|cons c t'=>rw[r.inj c,J t']
section
variable{X:Cx}{σ:St}{H:Hp}{s:Shared}{xs ys:List V}
theorem SqL.of{K:zvd}(h:H a=some (.lst xs)):SqL K H a xs:=.inl (.inl h)
theorem SqT.of{K:zvd}(h:H a=some (.tup xs)):SqT K H a xs:=.inl (.inl h)
theorem Inv.list(I:Inv X pins σ H s)(h:SqL X.K H a xs):∃its:List Value,Vals xs its/\PlainL s.heap a its.toArray/\xs.length <= sizeLine:=by
 rcases h with h|⟨o,its,n,d,c,hd,g,hz,r⟩
 ·obtain⟨z,its,n,r,e⟩:=h.ok I.hok;exact⟨its,r,⟨_,n,e,rfl,rfl,rfl⟩,z⟩
 ·refine⟨its.toList,r,⟨o,n,I.kIn a o d,c,hd,by simpa using g⟩,?_⟩;have e:=r.length;simp only[zzF]at e;lia
theorem Inv.tuple(I:Inv X pins σ H s)(h:SqT X.K H a xs):∃its:List Value,Vals xs its/\IsTup s.heap a its.toArray/\xs.length <= sizeLine:=by
 rcases h with h|⟨o,its,n,d,c,g,hz,r⟩
 ·obtain⟨z,its,r,p⟩:=h.ok I.hok;exact⟨its,r,p,z.1⟩
 ·refine⟨its.toList,r,⟨o,I.kIn a o d,c,n,by simpa using g⟩,?_⟩;have e:=r.length;simp only[zzF]at e;lia
theorem Inv.list_inj(I:Inv X pins σ H s)(h:SqL X.K H a xs)(h':SqL X.K H a ys):xs=ys:=by
 obtain⟨c,r,⟨o,n,e,_,_,d⟩,_⟩:=I.list h;obtain⟨its',l,⟨o',n',J,_,_,g⟩,_⟩:=I.list h';rw[e]at J;cases J;rw[d]at g;injection g with d1 _
 have:c=its':=by simpa using congrArg Array.toList d1
 subst this;exact r.inj l
theorem Inv.tuple_inj(I:Inv X pins σ H s)(h:SqT X.K H a xs)(h':SqT X.K H a ys):xs=ys:=by
 obtain⟨c,r,⟨o,e,_,n,d⟩,_⟩:=I.tuple h;obtain⟨its',l,⟨o',J,_,n',g⟩,_⟩:=I.tuple h';rw[e]at J;cases J;rw[d]at g;injection g with d1 _
 have:c=its':=by simpa using congrArg Array.toList d1
 subst this;exact r.inj l
end
noncomputable abbrev Cx.wish(X:Cx)(E:Value->Shared->Prop):Cx:={ X with xe:=E }
noncomputable abbrev Cx.nox(X:Cx):Cx:=X.wish λ_ _=>False
theorem Cx.Ok.wish{X:Cx}(ok:X.Ok)(E:Value->Shared->Prop):(X.wish E).Ok :=
 ⟨ok.mod,ok.kind,ok.glob,ok.blt,ok.above,ok.inj,ok.has,ok.cab,ok.hd,ok.frames,ok.stk,ok.exf,ok.bs,ok.bsz,ok.noex,ok.exfs,ok.funs,ok.frf⟩
theorem Cx.Ok.unwish{X:Cx}(ok:(X.wish E).Ok):X.Ok :=
 ⟨ok.mod,ok.kind,ok.glob,ok.blt,ok.above,ok.inj,ok.has,ok.cab,ok.hd,ok.frames,ok.stk,ok.exf,ok.bs,ok.bsz,ok.noex,ok.exfs,ok.funs,ok.frf⟩
section
variable{X:Cx}{σ:St}{H:Hp}{s:Shared}
theorem Inv.wish(I:Inv X pins σ H s)(E:Value->Shared->Prop):Inv (X.wish E) pins σ H s:=⟨I.ok.wish E,I.os,I.bare,I.base,I.loc,I.cell,I.free,I.freeC,I.pin,I.hok,I.len⟩
theorem Inv.unwish(I:Inv (X.wish E) pins σ H s):Inv X pins σ H s:=⟨I.ok.unwish,I.os,I.bare,I.base,I.loc,I.cell,I.free,I.freeC,I.pin,I.hok,I.len⟩
theorem SP.unwish{D:Ends}{f:Flow}{s':Shared}(h:SP (X.wish E) pins D f s'):SP X pins D f s':=by
 cases f with
 |next=>obtain⟨c,H',I,q⟩:=h;exact⟨c,H',I.unwish,q⟩
 |brk=>obtain⟨c,H',I,q⟩:=h;exact⟨c,H',I.unwish,q⟩
 |cont=>obtain⟨c,H',I,q⟩:=h;exact⟨c,H',I.unwish,q⟩
 |ret u=>obtain⟨v,c,H',I,r,q⟩:=h;exact⟨v,c,H',I.unwish,r,q⟩
theorem PSs.nox{st:List Stmt}{t:TS}(h:PSs X.nox st t):PSs X st t:=λpins s σ H D I c =>
 zyS (h pins s σ H D (I.wish _) c) (λ_ _ q=>q.unwish) λ_ _ z=>False.elim z
end
section
variable{X:Cx}{st:Stmt}{rest:List Stmt}{t u:TS}{te:TE}
def Km:TS:=λD σ H=>D.nx σ H
def tSeq(t u:TS):TS:=λD σ H=>t { D with nx:=u D } σ H
theorem ou:PSs X [] Km:=λ_ _ σ H _ I h=>wpAny_execs_nil ⟨σ,H,I,h⟩
theorem aW(d:PS X st t)(g:PSs X rest u):PSs X (st::rest) (tSeq t u):=by
 intro pins s σ H D I h;refine wpAny_execs_cons (thn (d pins s σ H { D with nx:=u D } I h) λf s1 q=>?_);cases f with
 |next =>
  obtain⟨c,H',J,q⟩:=q;exact g pins s1 c H' D J q
 |ret v=>exact q|brk=>exact q|cont=>exact q
theorem gj(c:PS X st t):PSs X [st] t:=by
 intro pins s σ H D I h;refine wpAny_execs_cons (thn (c pins s σ H D I h) λf s1 q=>?_);cases f with
 |next=>exact wpAny_execs_nil q
 |ret v=>exact q|brk=>exact q|cont=>exact q
theorem Inv.quiet{s:Shared}(I:Inv X pl σ H s):interactive X.env=false:=by simp[interactive,I.ok.kind]
def Kn(te:TE):TS:=λD σ H=>te σ H λ_ c=>D.nx σ c
theorem sf(he:PE X e te)(hs:swapsWith e none pos.line X.env=pure false:=by rfl):PS X (.Expr e pos) (Kn te):=by intro pins s σ H D I h;exact wpAny_Expr_any (thnE (he pins s σ H _ I h) λv s1 x c J r1 L=>⟨σ,c,J,L⟩) I.quiet hs
def tRet(te:TE):TS:=λD σ H=>te σ H D.rt
theorem ui(he:PE X e te):PS X (.Return (some e) pos) (tRet te):=by intro pins s σ H D I h;exact wpAny_Return_some (thnE (he pins s σ H _ I h) λv s1 x c J U L=>⟨x,σ,c,J,U,L⟩)
def tIfS(c:TT)(t u:TS):TS:=λD σ H=>c σ H λb d=>if b=true then t D σ d else u D σ d
theorem CJ{c:Expr}{a b:List Stmt}{l:TT}(n:PT X c l)(m:PSs X a t)(U:PSs X b u):PS X (.If c a b pos) (tIfS l t u):=by
 intro pins s σ H D I h;refine wpAny_If (thnG (n pins s σ H _ I h) λd s1 g J L=>?_);cases d with
 |true=>exact m pins s1 σ g D J L|false=>exact U pins s1 σ g D J L
def HY:TS:=λ_ _ _=>False
theorem CK:PS X st HY:=λ_ _ _ _ _ _ h=>h.elim
end
abbrev TG:=V->St->Hp->(St->Hp->Prop)->Prop
variable{g:TG}
abbrev TGs:=List V->St->Hp->(St->Hp->Prop)->Prop
def PG(X:Cx)(target:Expr)(t:TG):Prop :=
 ∀(pins:List (Addr×Obj)) (s:Shared) (σ:St) (H:Hp) (v:V) (u:Value) (Q:St->Hp->Prop),Inv X pins σ H s->RelV v u->t v σ H Q ->
  wpAny (model X.prog X.w) X.A (assign target X.env u) (λ_ d=>∃c H',Inv X pins c H' d/\Q c H') X.xe s
def PGs(X:Cx)(J:List Expr)(t:TGs):Prop :=
 ∀(pins:List (Addr×Obj)) (s:Shared) (σ:St) (H:Hp) (vs:List V) (us:List Value) (Q:St->Hp->Prop),Inv X pins σ H s->Vals vs us->t vs σ H Q ->
  wpAny (model X.prog X.w) X.A (assignInOrder ((assignEach J X.env).map (·.2)) us) (λ_ d=>∃c H',Inv X pins c H' d/\Q c H') X.xe s
abbrev TSet:=V->V->V->Hp->(Hp->Prop)->Prop
def PSet(X:Cx)(t:TSet):Prop :=
 ∀(pins:List (Addr×Obj)) (s:Shared) (σ:St) (H:Hp) (o i v:V) (ov iv u:Value) (Q:Hp->Prop),Inv X pins σ H s->RelV o ov->RelV i iv->RelV v u->t o i v H Q ->
  wpAny (model X.prog X.w) X.A (setItem ov iv u) (λ_ c=>∃H',Inv X pins σ H' c/\Q H') X.xe s
section
variable{X:Cx}
def gName(i:Nat):TG:=λv σ H Q=>Q (σ.set i (some v)) H
theorem sg{x:Str}(c:X.N.Nodup)(hi:X.N[i]? = some x)(U:Loc X.env.scope x)(L:X.fn x=true∨X.env.scope.names.lookup x=some .local:=by first|exact .inl rfl|exact .inr rfl|assumption):PG X (.Name x pos) (gName i):=by intro pins s σ H v u Q I r h;exact wpAny_assign_Name (se I c hi U r (λs' J=>⟨_,H,J,h⟩) L)
def gNil:TGs:=λvs σ H Q=>vs=[]/\Q σ H
def Ko(t:TG)(u:TGs):TGs:=λvs σ H Q=>∃v r,vs=v::r/\t v σ H λc H'=>u r c H' Q
theorem zL:PGs X [] gNil:=by intro pins s σ H vs us Q I r h;obtain⟨e,h⟩:=h;subst e;cases r;exact assignInOrder_nil ⟨σ,H,I,h⟩
theorem nR{e:Expr}{es:List Expr}{t:TG}{u:TGs}(l:PG X e t)(m:PGs X es u)
  (hs:(assignEach (e::es) X.env).map (·.2)=assign e X.env::(assignEach es X.env).map (·.2):=by rfl):PGs X (e::es) (Ko t u):=by
 intro pins s σ H vs us Q I r h;obtain⟨v,vr,d,h⟩:=h;subst d;cases r with
 |cons r Y =>
  rw[hs];refine assignInOrder_cons (thnF (l pins s σ H _ _ _ I r h) λ_ s1 J c L U=>?_);exact m pins s1 J c _ _ Q L Y U
def gTup(K:zvd)(n:Nat)(t:TGs):TG:=λv σ H Q=>∃a c,v=.ref a/\SqT K H a c/\c.length=n/\t c σ H Q
theorem HZ{es:List Expr}{k:Nat}{t:TGs}{n:Nat}(l:X.calm=true)(h:PGs X es t)
  (q:(assignEach es X.env).length=n:=by rfl) (J:(assignEach es X.env).findIdx? (·.1)=none:=by rfl):PG X (.Tuple es k pos) (gTup X.K n t):=by
 intro pins s σ H v u Q I r c;obtain⟨a,G,d,Y,m,c⟩:=c;subst d;cases r;obtain⟨its,L,z,hz⟩:=I.tuple Y;refine assign_Tuple_tuple (I.ok.hd l) z (by simp[q,←m,L.length]) J λh' B=>?_;have U:Inv X pins σ H { s with heap:=h' }:=I.kept (t':=s.toks) λb o e=>B b o (zzL (zzz e)) e;exact h pins _ σ H G _ Q U (by simpa using L) c
def gSub(to ti:TE)(t:TSet):TG:=λv σ H Q=>to σ H λo c=>ti σ c λi d=>t o i v d λl=>Q σ l
theorem zM{o i:Expr}{t:TSet}(z:PE X o te)(hi:PE X i tl)(hs:PSet X t)(q:∀v,assign (.Subscript o i pos) X.env v=(do
   let c ←holding [v] (eval o X.env)
   let J ←holding [v,c] (eval i X.env)
   standAt pos
   holding [v,c,J] (setItem c J v)
   release [v,c,J] []):=by intro _;rfl):PG X (.Subscript o i pos) (gSub te tl t):=by
 intro pins s σ H v u Q I r h;rw[q];refine zzb (zyz (thn (z pins s σ H _ I h) λc s1 L=>?_));obtain⟨x,d,U,a,B⟩:=L;refine zzb (zyz (thn (hi pins s1 σ d _ U B) λJ e L=>?_));obtain⟨y,l,Y,b,G⟩:=L;refine zzb (zwl (zzb (zyz (thnG (hs pins e σ l x y v c J u _ Y a b r G) λ_ s3 m n T=>?_))));exact wpAny_release ⟨σ,m,n,T⟩
def tAsg(te:TE)(g:TG):TS:=λD σ H=>te σ H λx c=>g x σ c D.nx
theorem uj(he:PE X e te)(L:PG X tg g)(hs:swapsWithSole [tg] e pos.line X.env=pure false:=by rfl)(hw:swappedStores [tg] e X.env=pure none:=by rfl)(d:(assignEach [tg] X.env).map (·.2)=[assign tg X.env]:=by rfl):PS X (.Assign [tg] e pos) (tAsg te g):=by intro pins s σ H D I h;refine wpAny_Assign_stores (thn (he pins s σ H _ I h) λv s1 U=>?_) hs hw;obtain⟨x,c,J,l,Y⟩:=U;rw[d];exact thn (L pins s1 σ c x v _ J l Y) λ_ s2 q=>q
theorem jr{x:Str}(d:X.N.Nodup)(hi:X.N[i]? = some x)(Y:Loc X.env.scope x)(he:PE X e te)(hs:swapsWith e (some (.Name x p)) pos.line X.env=pure false:=by rfl)(U:X.fn x=true∨X.env.scope.names.lookup x=some .local:=by first|exact .inl rfl|exact .inr rfl|assumption) :
  PS X (.Assign [.Name x p] e pos) (tAsg te (gName i)):=by
 intro pins s σ H D I h;refine wpAny_Assign_Name (thn (he pins s σ H _ I h) λv s1 l=>?_) hs;obtain⟨y,c,J,n,m⟩:=l;exact se J d hi Y n (λs2 L=>⟨_,c,L,m⟩) U
end
structure It where
 go:Nat->Hp->Prop
 yld:Nat->Hp->V->Hp->Prop
 stop:Nat->Hp->Prop
def FpOk(X:Cx)(pins:List (Addr×Obj))(H:Hp)(b:Addr):Prop :=
 H b=none/\b≠X.env.locals/\b∉X.fs/\(b∈X.ex∨X.s₀.heap.objs.size <= b)/\(∀x c,X.env.cells.lookup x=some c->c≠b)/\∀p∈X.pn++pins,p.1≠b
theorem Inv.fpOk{X:Cx}{s:Shared}{b:Addr}(I:Inv X pl σ H s)(J:s.heap.objs.size <= b)(d:H' b=none):FpOk X pl H' b:=by
 refine⟨d,zwr (zzE I.lt J),I.nofs J,.inr (zzq I.sz J),λx c e z=>?_,λp L z=>?_⟩
 ·obtain⟨v,q⟩:=I.cell x c e;exact absurd (zzE q.lt (by rw[z];exact J)) (zyD _)
 ·exact absurd (zzE (zzz (I.pin p L).1) (by rw[z];exact J)) (zyD _)
structure Turn(P:Program)(w:World)(K:zvd)(tg:Expr)(J:It)(fp:List Addr)(it:Addr)(tn:Nat->Heap->Prop):Prop where
 mem:it∈fp
 obj:∀i h,tn i h->∀b∈fp,∃o,h.get? b=some o/\∀v,o.data ≠ .cell v
 keep:∀i h h',tn i h->(∀b∈fp,∀o,h.get? b=some o->h'.get? b=some o)->tn i h'
 item:∀(X:Cx),X.prog=P->X.w=w->X.K=K->X.calm=true->∀(i:Nat) (pins:List (Addr×Obj)) (s:Shared) (σ:St) (H:Hp) (E:Value->Shared->Prop),Inv X pins σ H s->(∀b∈fp,FpOk X pins H b)->tn i s.heap->J.go i H ->
  wpAny (model P w) X.A (pyNext (.ref it)) (λr s1=>∃u,r=some u /\
   wpAny (model P w) X.A (letOwnedTupleGo tg (.ref it) u) (λ_ s2=>∃x H',Inv X pins σ H' s2/\RelV x u/\J.yld i H x H'/\tn (i+1) s2.heap/\∀b∈fp,H' b=none) E s1) E s
 done:∀(X:Cx),X.prog=P->X.w=w->X.K=K->X.calm=true->∀(i:Nat) (pins:List (Addr×Obj)) (s:Shared) (σ:St) (H:Hp) (E:Value->Shared->Prop),Inv X pins σ H s->(∀b∈fp,FpOk X pins H b)->tn i s.heap->J.stop i H ->
  wpAny (model P w) X.A (pyNext (.ref it)) (λr s1=>r=none/\Inv X pins σ H s1) E s
 self:∀(A:Around) (i:Nat) (s:Shared) (Q:Value->Shared->Prop) (E:Value->Shared->Prop),tn i s.heap->Q (.ref it) s->wpAny (model P w) A (pyIter (.ref it)) Q E s
abbrev TI:=St->Hp->(It->Hp->Prop)->Prop
def PIE(X:Cx)(pins:List (Addr×Obj))(σ:St)(tg:Expr)(R:It->Hp->Prop)(L:Value)(s2:Shared):Prop :=
 ∃(d:Addr) (c:List Addr) (tn:Nat->Heap->Prop) (J:It) (H':Hp),L=.ref d/\Inv X pins σ H' s2/\Turn X.prog X.w X.K tg J c d tn/\tn 0 s2.heap/\(∀b∈c,FpOk X pins H' b)/\R J H'
def PI(X:Cx)(tg iter:Expr)(wi:TI):Prop :=
 ∀(pins:List (Addr×Obj)) (s:Shared) (σ:St) (H:Hp) (R:It->Hp->Prop),Inv X pins σ H s->wi σ H R ->
  wpAny (model X.prog X.w) X.A (eval iter X.env) (λv s1=>wpAny (model X.prog X.w) X.A (pyIter v) (PIE X pins σ tg R) X.xe s1) X.xe s
theorem CL{s:Shared}{n:String}{vs:Array Value}{Q:Unit->Shared->Prop}(L:s.heap.get? a=some o)(c:o.cls=.type n)(hd:o.data=.fields vs)(d:["enumerate","zip","dict_itemiterator","dict_reverseitemiterator","odict_iterator","itertools.zip_longest","itertools.pairwise"].contains n=false)(J:Q () s):wpAny M A (letOwnedTupleGo tg (.ref a) u) Q E s:=by
 unfold letOwnedTupleGo;cases tg<;>first
  |exact zzp J
  | (cases u<;>first
    |exact zzp J
    | (refine zzb (wpAny_load L ?_)
       rw[c,hd];show wpAny M A (if (["enumerate","zip","dict_itemiterator","dict_reverseitemiterator","odict_iterator","itertools.zip_longest","itertools.pairwise"].contains n && vs[0]? == some (rawInt _))=true then _ else _) Q E s;rw[zzi (by intro h;rw[d,zwe]at h;cases h)];exact zzp J))
def Itl(K:zvd)(a:Addr):It :=
 ⟨λi H=>∃c x,SqL K H a c/\c[i]? = some x,λi H x H'=>H'=H/\∀c,SqL K H a c->c[i]? = some x,λi H=>∃c,SqL K H a c/\c.length <= i⟩
def Itt(K:zvd)(a:Addr):It :=
 ⟨λi H=>∃c x,SqT K H a c/\c[i]? = some x,λi H x H'=>H'=H/\∀c,SqT K H a c->c[i]? = some x,λi H=>∃c,SqT K H a c/\c.length <= i⟩
def Itr(lo:Int)(n:Nat):It:=⟨λi _=>i<n,λi H x H'=>H'=H/\x=.int (lo+i),λi _=>n <= i⟩
theorem uk{P:Program}{K:zvd}(a it:Addr):Turn P w K tg (Itl K a) [it] it (λi h=>h.IsListIter it a i) where
 mem:=by simp
 obj:=λi h st b J=>by
  have e:b=it:=by simpa using J
  subst e;obtain⟨o,e,c,d⟩:=st;exact⟨o,e,λv z=>by rw[d]at z;cases z⟩
 keep:=λi h h' st k=>st.at λo e=>k it (by simp) o e
 item:=by intro X B T r A i pins s σ H E I U st G;subst B T r;obtain⟨xs,x,Y,g⟩:=G;obtain⟨j,y,p,hz⟩:=I.list Y;obtain⟨u,N,ru⟩:=y.get g;obtain⟨l,f1,f2,m,n,q⟩:=U it (by simp);refine wpAny_pyNext_list_item st p.isList (x:=u) (by simpa using N) λh' L sb=>?_;have C:Inv X pins σ H { s with heap:=h' }:=I.turned (t':=s.toks) (λb o J e=>(sb.2 b J).trans e) l f1 m n q;obtain⟨o,e,c,d⟩:=id L;exact⟨u,rfl,CL (s:={ s with heap:=h' }) e c d (by decide) ⟨x,H,C,ru,⟨rfl,λys Q=>by rw[I.list_inj Q Y];exact g⟩,L,λb J=>(U b J).1⟩⟩
 done:=by intro X B T r A i pins s σ H E I U st G;subst B T r;obtain⟨xs,Y,g⟩:=G;obtain⟨j,y,p,hz⟩:=I.list Y;obtain⟨l,f1,f2,m,n,q⟩:=U it (by simp);have hl:=y.length;exact wpAny_pyNext_list_end (I.ok.hd A) st p.isList (by simp;lia) λh' M=>⟨rfl,I.turned (t':=s.toks) (λb o J e=>M b o J e) l f1 m n q⟩
 self:=λ_ _ _ _ _ st h=>wpAny_pyIter_listiter st h
theorem qV{P:Program}{K:zvd}(a it:Addr):Turn P w K tg (Itt K a) [it] it (λi h=>h.IsTupleIter it a i) where
 mem:=by simp
 obj:=λi h st b J=>by
  have e:b=it:=by simpa using J
  subst e;obtain⟨o,e,c,d⟩:=st;exact⟨o,e,λv z=>by rw[d]at z;cases z⟩
 keep:=λi h h' st k=>st.at λo e=>k it (by simp) o e
 item:=by intro X G g B A i pins s σ H E I U st T;subst G g B;obtain⟨xs,x,Y,j⟩:=T;obtain⟨l,y,p,hz⟩:=I.tuple Y;obtain⟨u,N,ru⟩:=y.get j;obtain⟨m,f1,f2,n,q,r⟩:=U it (by simp);refine wpAny_pyNext_tuple_item st (show s.heap.IsTuple a l.toArray from p) (x:=u) (by simpa using N) λh' L sb=>?_;have C:Inv X pins σ H { s with heap:=h' }:=I.turned (t':=s.toks) (λb o J e=>(sb.2 b J).trans e) m f1 n q r;obtain⟨o,e,c,d⟩:=id L;exact⟨u,rfl,CL (s:={ s with heap:=h' }) e c d (by decide) ⟨x,H,C,ru,⟨rfl,λys Q=>by rw[I.tuple_inj Q Y];exact j⟩,L,λb J=>(U b J).1⟩⟩
 done:=by intro X G g B A i pins s σ H E I U st T;subst G g B;obtain⟨xs,Y,j⟩:=T;obtain⟨l,y,p,hz⟩:=I.tuple Y;obtain⟨m,f1,f2,n,q,r⟩:=U it (by simp);have hl:=y.length;exact wpAny_pyNext_tuple_end (I.ok.hd A) st (show s.heap.IsTuple a l.toArray from p) (by simp;lia) λh' M=>⟨rfl,I.turned (t':=s.toks) (λb o J e=>M b o J e) m f1 n q r⟩
 self:=λ_ _ _ _ _ st h=>wpAny_pyIter_tupleiter st h
theorem yJ{P:Program}{K:zvd}(it:Addr)(lo:Int)(n:Nat):Turn P w K tg (Itr lo n) [it] it (λi h=>IsRangeIter h it (lo+(i:Nat)*1) ((n:Int) - (i:Nat)) 1) where
 mem:=by simp
 obj:=λi h st b J=>by
  have e:b=it:=by simpa using J
  subst e;exact⟨_,st,λv z=>by have u:Data.fields _=Data.cell v:=z;cases u⟩
 keep:=λi h h' st k=>k it (by simp) _ st
 item:=by intro X q G m r i pins s σ H E I U st B;subst q G m;obtain⟨c,f1,f2,Y,d,l⟩:=U it (by simp);have W:=Walks.range (prog:=X.prog) (w:=X.w) (I.ok.hd r) it lo 1 n;refine W.item i s _ _ B st λv h' T j L p=>?_;obtain⟨t,rfl⟩:=j;have a:Inv X pins σ H { s with heap:=h',toks:=T }:=I.turned (λb o J e=>p b o (by simpa using J) e) c f1 Y d l;refine⟨_,rfl,CL (s:={ s with heap:=h',toks:=T }) (n:="range_iterator") L rfl rfl (by decide) ⟨.int (lo+i),H,a,⟨t,?_⟩,⟨rfl,rfl⟩,L,λb J=>(U b J).1⟩⟩;rw[Int.mul_one]
 done:=by intro X q G m r i pins s σ H E I U st B;subst q G m;obtain⟨c,f1,f2,Y,d,l⟩:=U it (by simp);exact wpAny_pyNext_range_end (I.ok.hd r) st (by have:n <= i:=B;lia) λh' g=>⟨rfl,I.turned (t':=s.toks) (λb o J e=>g b o J e) c f1 Y d l⟩
 self:=λ_ _ _ _ _ st h=>wpAny_pyIter_rangeiter st h
section
variable{X:Cx}{tg:Expr}
def Kp(K:zvd)(tl:TE):TI:=λσ H R=>tl σ H λx c=>∃a,x=.ref a/\(∃d,SqL K c a d)/\R (Itl K a) c
def iTup(K:zvd)(tl:TE):TI:=λσ H R=>tl σ H λx c=>∃a,x=.ref a/\(∃d,SqT K c a d)/\R (Itt K a) c
theorem FH{l:Expr}(d:PE X l tl):PI X tg l (Kp X.K tl):=by
 intro pins s σ H R I h;refine thn (d pins s σ H _ I h) λv s1 Y=>?_;obtain⟨x,c,J,n,m⟩:=Y;obtain⟨a,e,⟨xs,U⟩,q⟩:=m;subst e;cases n;obtain⟨its,rv,p,hz⟩:=J.list U;refine zxB p.isList ?_;refine⟨s1.heap.objs.size,[s1.heap.objs.size],_,_,c,rfl,J.kept (t':=s1.toks) λb o e=>zzf _ e,uk a _,⟨_,zzy _ rfl,rfl,rfl⟩,λb L=>?_,q⟩;have e:b=s1.heap.objs.size:=by simpa using L
 subst e;exact J.fpOk (zzr _) (J.hok.fresh (zzr _))
theorem Ia{l:Expr}(m:PE X l tl):PI X tg l (iTup X.K tl):=by
 intro pins s σ H R I h;refine thn (m pins s σ H _ I h) λv s1 Y=>?_;obtain⟨x,d,J,r,n⟩:=Y;obtain⟨a,e,⟨xs,U⟩,q⟩:=n;subst e;cases r;obtain⟨c,rv,p,hz⟩:=J.tuple U;refine zxs (show s1.heap.IsTuple a c.toArray from p) ?_;refine⟨s1.heap.objs.size,[s1.heap.objs.size],_,_,d,rfl,J.kept (t':=s1.toks) λb o e=>zzf _ e,qV a _,⟨_,zzy _ rfl,rfl,rfl⟩,λb L=>?_,q⟩;have e:b=s1.heap.objs.size:=by simpa using L
 subst e;exact J.fpOk (zzr _) (J.hok.fresh (zzr _))
theorem xt{s:Shared}{R:It->Hp->Prop}{lo:Int}{t u v:Tok}{tk:Nat}(I:Inv X pl σ H s)(l : -(2^62) <= lo)(m:lo<2^62)(n : -(2^62) <= hi)(L:hi<2^62)(q:R (Itr lo (hi - lo).toNat) H):wpAny (model X.prog X.w) X.A (pyIter (.ref s.heap.objs.size)) (PIE X pl σ tg R) E { s with heap:=s.heap.push { cls:=.type "range",data:=.fields #[.int lo t,.int hi u,.int 1 v] },toks:=tk }:=by
 refine wpAny_pyIter_range (IsRange.new ..) (small_one l m n L) ?_;have J:Inv X pl σ H { s with heap:=s.heap.push { cls:=.type "range",data:=.fields #[.int lo t,.int hi u,.int 1 v] },toks:=tk }:=I.kept λb o e=>zzf _ e;refine⟨(s.heap.push { cls:=.type "range",data:=.fields #[.int lo t,.int hi u,.int 1 v] }).objs.size,[(s.heap.push { cls:=.type "range",data:=.fields #[.int lo t,.int hi u,.int 1 v] }).objs.size],_,_,H,rfl,
  J.kept (t':=tk) λb o e=>zzf _ e,yJ _ lo (hi - lo).toNat,?_,λb U=>?_,q⟩
 ·have c:lo+((0:Nat):Int)*1=lo:=by simp
  have d:(((hi - lo).toNat:Nat):Int) - ((0:Nat):Int)=Builtin.Range.rangeSize lo hi 1:=by rw[rangeSize_one];split<;>lia
  show IsRangeIter _ _ (lo+((0:Nat):Int)*1) ((((hi - lo).toNat:Nat):Int) - ((0:Nat):Int)) 1;rw[c,d];exact zzy _ rfl
 ·have e:b=(s.heap.push { cls:=.type "range",data:=.fields #[.int lo t,.int hi u,.int 1 v] }).objs.size:=by simpa using U
  subst e;exact J.fpOk (zzr _) (J.hok.fresh (zzr _))
def Kq(ta:TA):TI:=λσ H R=>ta σ H λvs c=>∃j:Int,vs=[.int j]/\-(2^62) <= j/\j<2^62/\R (Itr 0 j.toNat) c
def Kr(ta:TA):TI:=λσ H R=>ta σ H λvs c=>∃i j:Int,vs=[.int i,.int j]/\(-(2^62) <= i/\i<2^62/\-(2^62) <= j/\j<2^62)/\R (Itr i (j - i).toNat) c
theorem zN{a:Expr}{c:TA}(U:Gl X "range")(l:X.mg "range" = none)(d:PA X [a] c)(hs:starEach [a] X.env=[(false,eval a X.env)]:=by rfl):PI X tg (.Call (.Name "range" p) [a] [] pos) (Kq c):=by
 intro pins s σ H R I h;refine Call_ (oq I U l boot_range (PyProof.Rows.callWith_type1 (thn (d pos pins s σ H _ I h) λus s1 Y=>?_) hs rfl));obtain⟨vs,H1,L,n,J⟩:=Y;obtain⟨j,e,J,m,q⟩:=J;subst e;cases n with
 |cons r z =>
  cases z;obtain⟨t,rfl⟩:=r;exact call_range_1 (xt L (by lia) (by lia) J m (by simpa using q))
theorem zO{a b:Expr}{c:TA}(l:Gl X "range")(m:X.mg "range" = none)(d:PA X [a,b] c)(hs:starEach [a,b] X.env=[(false,eval a X.env),(false,eval b X.env)]:=by rfl)(J:starEach [b] X.env=[(false,eval b X.env)]:=by rfl) :
  PI X tg (.Call (.Name "range" p) [a,b] [] pos) (Kr c):=by
 intro pins s σ H R I h;refine Call_ (oq I l m boot_range (PyProof.Rows.callWith_type1 (thn (d pos pins s σ H _ I h) λus s1 n=>?_) (by rw[hs,J]) (by rw[J];rfl)));obtain⟨vs,H1,Y,g,L⟩:=n;obtain⟨i,j,e,⟨L,z,B,G⟩,q⟩:=L;subst e;cases g with
 |cons r U =>
  cases U with
  |cons T U =>
   cases U;obtain⟨t,rfl⟩:=r;obtain⟨t',rfl⟩:=T;exact call_range_2 (xt Y L z B G q)
def tFor(wi:TI)(g:TG)(tb:TS):TS:=λD σ H=>wi σ H λJ d=>∃W:Nat->Nat->St->Hp->Prop,(∃m,W 0 m σ d)/\∀i m σ H,W i m σ H ->
 (J.stop i H/\D.nx σ H)∨(J.go i H/\∃N:St->Hp->Prop,(∀c H',N c H'->∃U,U<m/\W (i+1) U c H')/\∀x H',J.yld i H x H'->g x σ H' λL l=>tb { D with nx:=N,ct:=N,bk:=D.nx } L l)
def uq(fp:List Addr)(h:Heap):List (Addr×Obj):=fp.filterMap λb=>(h.get? b).map λo=>(b,o)
theorem iZ{fp:List Addr}{b:Addr}(J:b∈fp)(e:h.get? b=some o):(b,o)∈uq fp h:=zwW.mpr ⟨b,J,by rw[e];rfl⟩
theorem zP{fp:List Addr}{p:Addr×Obj}(U:p∈uq fp h):p.1∈fp/\h.get? p.1=some p.2:=by
 obtain⟨b,L,e⟩:=zwW.mp U;cases q:h.get? b with
 |none=>rw[q]at e;cases e
 |some o =>
  rw[q]at e;have J:(b,o)=p:=zzV e;subst J;exact⟨L,q⟩
theorem Inv.pinned{s:Shared}{fp:List Addr}(I:Inv X pl σ H s)(U:∀b∈fp,FpOk X pl H b)(Y:∀b∈fp,∃o,s.heap.get? b=some o/\∀v,o.data ≠ .cell v):Inv X (pl++uq fp s.heap) σ H s :=
 I.pins_of λp l=>(zzo.mp l).elim (λz=>I.pin p (zzQ _ z)) λz=>by obtain⟨L,e⟩:=zP z;obtain⟨c,f1,f2,_⟩:=U p.1 L;obtain⟨o,J,d⟩:=Y p.1 L;rw[e]at J;cases J;exact⟨e,c,f1,f2,d⟩
theorem Inv.unpinned{pins:List (Addr×Obj)}{s:Shared}(I:Inv X (pins++pl) σ H s):Inv X pins σ H s:=I.pins_of λp J=>I.pin p (zzQ _ (zyn _ J))
theorem Ib{iter:Expr}{body:List Stmt}{wi:TI}{tb:TS}(a:PassesOwn (model X.prog X.w) X.A X.env X.xe)(hc:X.calm=true)(hi:PI X tg iter wi)(hg:PG X tg g)(c:PSs X body tb)(hs:∀x,foldedSetIterable iter X.env x=pure x:=by intro _;rfl):PS X (.For tg iter body [] pos) (tFor wi g tb):=by
 intro pins s σ H D I h;refine wpAny_For (thn (hi pins s σ H _ I h) λv s1 h1=>thn h1 λitv s2 h2=>?_) hs;obtain⟨it,G,tn,J,H2,e,I2,T,a8,f2,W,⟨m0,w0⟩,p⟩:=h2;subst e
 have C:∀{H':Hp},(∀b∈G,H' b=none)->∀b∈G,FpOk X pins H' b:=λhn b c=>⟨hn b c,(f2 b c).2⟩;refine codeAny_forLoop_any (λn s'=>∃i l H',Inv X pins l H' s'/\tn i s'.heap/\(∀b∈G,H' b=none)/\W i n l H') ?_ m0 ⟨0,σ,H2,I2,a8,λb c=>(f2 b c).1,w0⟩;rintro n s3 ⟨i,B,y,I3,a5,a4,w3⟩;rcases p i n B y w3 with ⟨stop,qn⟩|⟨go,N,hN,step⟩
 ·refine zwp a (thn (T.done X rfl rfl rfl hc i pins s3 B y X.xe I3 (C a4) a5 stop) λr s4 q=>?_);obtain⟨rfl,I4⟩:=q;exact wpAny_execs_nil ⟨B,y,I4,qn⟩
 ·refine zwp a (thnG (T.item X rfl rfl rfl hc i pins s3 B y X.xe I3 (C a4) a5 go) λr s4 u hr h4=>?_);subst hr;refine zwp a (thn h4 λ_ s5 q0=>?_);obtain⟨x,Q,I5,r5,y5,E,a7⟩:=q0;have a6:=I5.pinned (C a7) (T.obj _ _ E);refine zwp a (thnF (hg _ s5 B Q x u _ a6 r5 (step x Q y5)) λ_ s6 a9 H6 I6 q6=>?_);refine zwp a (thn (c _ s6 a9 H6 _ I6 q6) λf M z=>?_);have again:∀{L:St} {U:Hp},Inv X (pins++uq G s5.heap) L U M->N L U->∃m,m<n/\∃i l H',Inv X pins l H' M/\tn i M.heap/\(∀b∈G,H' b=none)/\W i m l H':=λ{L U} Y j=>by
   obtain⟨m',hm,w7⟩:=hN L U j;refine⟨m',hm,i+1,L,U,Y.unpinned,T.keep _ _ _ E λb c o e=>(Y.pin (b,o) (zzQ _ (zzQ _ (iZ c e)))).1,λb c=>?_,w7⟩;obtain⟨o,e,d⟩:=T.obj _ _ E b c;exact(Y.pin (b,o) (zzQ _ (zzQ _ (iZ c e)))).2.1
  cases f with
  |next=>obtain⟨L,U,Y,j⟩:=z;exact again Y j
  |cont=>obtain⟨L,U,Y,j⟩:=z;exact again Y j
  |brk=>obtain⟨L,U,Y,z⟩:=z;exact⟨L,U,Y.unpinned,z⟩
  |ret v=>obtain⟨x7,L,U,Y,r7,z⟩:=z;exact⟨x7,L,U,Y.unpinned,r7,z⟩
end
abbrev R2:=V->V->Hp->VK->Prop
def OpR(X:Cx)(f:Value->Value->Sem Value)(r:R2):Prop :=
 ∀(pins:List (Addr×Obj)) (s:Shared) (σ:St) (H:Hp) (x y:V) (v u:Value) (Q:VK),Inv X pins σ H s->RelV x v->RelV y u->r x y H Q ->
  wpAny (model X.prog X.w) X.A (f v u) (EP X pins σ Q) X.xe s
def UnR(X:Cx)(f:Value->Sem Value)(r:V->Hp->VK->Prop):Prop :=
 ∀(pins:List (Addr×Obj)) (s:Shared) (σ:St) (H:Hp) (x:V) (v:Value) (Q:VK),Inv X pins σ H s->RelV x v->r x H Q ->
  wpAny (model X.prog X.w) X.A (f v) (EP X pins σ Q) X.xe s
def fV(X:Cx)(f:Value)(r:List V->Hp->VK->Prop):Prop :=
 ∀(pins:List (Addr×Obj)) (s:Shared) (σ:St) (H:Hp) (c:List V) (us:List Value) (Q:VK),Inv X pins σ H s->Vals c us->r c H Q ->
  wpAny (model X.prog X.w) X.A (call f us) (EP X pins σ Q) X.xe s
def tOp(r:R2)(ta tb:TE):TE:=λσ H Q=>ta σ H λx c=>tb σ c λy d=>r x y d Q
def tUn(r:V->Hp->VK->Prop)(ta:TE):TE:=λσ H Q=>ta σ H λx c=>r x c Q
def rI(C:Int->Int->Prop)(g:Int->Int->V):R2:=λx y H Q=>∃i j,x=.int i/\y=.int j/\C i j/\Q (g i j) H
def rI0(g:Int->Int->V):R2:=λx y H Q=>∃i j,x=.int i/\y=.int j/\Q (g i j) H
def rU(g:Int->V):V->Hp->VK->Prop:=λx H Q=>∃i,x=.int i/\Q (g i) H
section
variable{X:Cx}{a:Expr}{ta tb:TE}
theorem binT(n:PE X a ta)(q:PE X b tb){s:Shared}{R:V->V->Hp->Prop}(I:Inv X pl σ H s)(h:ta σ H λx l=>tb σ l λy c=>R x y c){f:Value->Value->Sem Value}(r:∀v u d x y c,Inv X pl σ c d->RelV x v->RelV y u->R x y c->wpAny (model X.prog X.w) X.A (f v u) Q X.xe d) :
  wpAny (model X.prog X.w) X.A (eval a X.env) (λv J=>wpAny (model X.prog X.w) X.A (eval b X.env) (λu L=>wpAny (model X.prog X.w) X.A (f v u) Q X.xe L) X.xe J) X.xe s:=by
 refine thn (n pl s σ H _ I h) λv s1 U=>?_;obtain⟨x,l,Y,G,z⟩:=U;refine thn (q pl s1 σ l _ Y z) λu d U=>?_;obtain⟨y,c,m,T,B⟩:=U;exact r v u d x y c m G T B
theorem dL{op:Operator}{r:R2}(U:OpR X (binaryOp op) r)(d:PE X a ta)(L:PE X b tb):PE X (.BinOp a op b pos) (tOp r ta tb):=by intro pins s σ H Q I h;exact wpAny_BinOp (binT d L I h λv u m x y c J Y l q=>U pins m σ c x y v u Q J Y l q)
theorem Ks{op:UnaryOp}{r:V->Hp->VK->Prop}(L:UnR X (unaryOp op) r)(d:PE X a ta):PE X (.UnaryOp op a pos) (tUn r ta):=by intro pins s σ H Q I h;exact UnaryOp_ (thnE (d pins s σ H _ I h) λv s1 x c J Y U=>L pins s1 σ c x v Q J Y U)
theorem opI{f:Value->Value->Sem Value}{C:Int->Int->Prop}{g:Int->Int->Int}
  (rule:∀(i j:Int) (t u:Tok) (s:Shared) (Q:Value->Shared->Prop) (E:Value->Shared->Prop),C i j->Q (.int (g i j) s.toks) { s with toks:=s.toks+1 }->wpAny (model X.prog X.w) X.A (f (.int i t) (.int j u)) Q E s) :
  OpR X f (rI C λi j=>.int (g i j)):=by
 intro pins s σ H x y v u Q I J L h;obtain⟨i,j,rfl,rfl,c,q⟩:=h;obtain⟨t,rfl⟩:=J;obtain⟨t',rfl⟩:=L;exact rule i j t t' s _ _ c ⟨.int (g i j),H,I.tok _,⟨_,rfl⟩,q⟩
theorem opI0{f:Value->Value->Sem Value}{g:Int->Int->Int}
  (rule:∀(i j:Int) (t u:Tok) (s:Shared) (Q:Value->Shared->Prop) (E:Value->Shared->Prop),Q (.int (g i j) s.toks) { s with toks:=s.toks+1 }->wpAny (model X.prog X.w) X.A (f (.int i t) (.int j u)) Q E s) :
  OpR X f (rI0 λi j=>.int (g i j)):=by
 intro pins s σ H x y v u Q I J L h;obtain⟨i,j,rfl,rfl,q⟩:=h;obtain⟨t,rfl⟩:=J;obtain⟨t',rfl⟩:=L;exact rule i j t t' s _ _ ⟨.int (g i j),H,I.tok _,⟨_,rfl⟩,q⟩
theorem opB0{f:Value->Value->Sem Value}{g:Int->Int->Bool}
  (rule:∀(i j:Int) (t u:Tok) (s:Shared) (Q:Value->Shared->Prop) (E:Value->Shared->Prop),Q (.bool (g i j)) s->wpAny (model X.prog X.w) X.A (f (.int i t) (.int j u)) Q E s) :
  OpR X f (rI0 λi j=>.bl (g i j)):=by
 intro pins s σ H x y v u Q I J L h;obtain⟨i,j,rfl,rfl,q⟩:=h;obtain⟨t,rfl⟩:=J;obtain⟨t',rfl⟩:=L;exact rule i j t t' s _ _ ⟨.bl (g i j),H,I,rfl,q⟩
def CPow(i j:Int):Prop:=0 <= j/\j <= 1000000/\i.natAbs<2^64
theorem oz:OpR X (binaryOp .Add) (rI0 λi j=>.int (i+j)):=opI0 λ_ _ _ _ _ _ _ q=>add_int q
theorem Ic:OpR X (binaryOp .Sub) (rI0 λi j=>.int (i - j)):=opI0 λ_ _ _ _ _ _ _ q=>sub_int q
theorem nu:OpR X (binaryOp .Mod) (rI (λ_ j=>0<j) λi j=>.int (i % j)):=opI λi j _ _ _ _ _ c q=>by have h1:(0:Int)<j:=c;exact mod_int' (by lia) (by rw[Int.fmod_eq_emod_of_nonneg i (by lia)];exact q)
theorem EB:OpR X (binaryOp .Pow) (rI CPow λi j=>.int (i^j.toNat)):=opI λ_ _ _ _ _ _ _ c q=>pow_int_small c.1 c.2.1 c.2.2 q
theorem unI{f:Value->Sem Value}{g:Int->Int}
  (rule:∀(i:Int) (t:Tok) (s:Shared) (Q:Value->Shared->Prop) (E:Value->Shared->Prop),Q (.int (g i) s.toks) { s with toks:=s.toks+1 }->wpAny (model X.prog X.w) X.A (f (.int i t)) Q E s) :
  UnR X f (rU λi=>.int (g i)):=by
 intro pins s σ H x v Q I J h;obtain⟨i,rfl,q⟩:=h;obtain⟨t,rfl⟩:=J;exact rule i t s _ _ ⟨.int (g i),H,I.tok _,⟨_,rfl⟩,q⟩
theorem Id:UnR X (unaryOp .USub) (rU λi=>.int (-i)):=unI λ_ _ _ _ _ q=>neg_int q
end
noncomputable def scal:V->V->Bool
 |.non,.non=>true|.non,.int _=>true|.int _,.non=>true|.non,.bl _=>true|.bl _,.non=>true|.non,.str _=>true|.str _,.non=>true|.int _,.int _=>true|.bl _,.bl _=>true|.str _,.str _=>true|.byt _,.byt _=>true|.int _,.str _=>true|.str _,.int _=>true|.bl _,.str _=>true|.str _,.bl _=>true|_,_=>false
def rEq:R2:=λx y H Q=>scal x y=true/\Q (.bl (decide (x=y))) H
theorem FI{i j:Int}:decide (V.int i=V.int j)=(i == j):=by rw[zyX];simp
theorem Ie{i j:Bool}:decide (V.bl i=V.bl j)=(i == j):=by rw[zyX];simp
theorem FJ{i:Str}:decide (V.str i=V.str j)=(i == j):=by rw[zyX];simp
theorem FK{i j:Array UInt8}:decide (V.byt i=V.byt j)=(i.toList == j.toList):=by rw[zyX];cases i;cases j;simp
section
variable{X:Cx}{a c:Expr}{ta tb tc:TE}
theorem bO{s:Shared}{Q:VK}{k:Bool}(I:Inv X pl σ H s)(q:Q (.bl k) H)(e:k=k'):EP X pl σ Q (.bool k') s:=by subst e;exact⟨.bl k,H,I,rfl,q⟩
theorem Kt:OpR X (compareOp .Eq) rEq:=by
 intro pins s σ H x y v u Q I L J h;obtain⟨d,q⟩:=h;cases x with
 |non =>
  cases L;cases y with
  |non=>cases J;exact PySem.EqNone.eq_none_none (bO I q (by simp))
  |bl j=>cases J;exact PySem.EqNone.eq_none_bool (bO I q (by simp))
  |int j=>obtain⟨t',rfl⟩:=J;exact PySem.EqNone.eq_none_int (bO I q (by simp))
  |str j=>obtain⟨t',rfl⟩:=J;exact PySem.EqNone.eq_none_str (bO I q (by simp))
  |_=>exact absurd (show false=true from d) zzJ
 |bl i =>
  cases L;cases y with
  |non=>cases J;exact PySem.EqNone.eq_bool_none (bO I q (by simp))
  |bl j=>cases J;exact eq_bool (bO I q Ie)
  |str j=>obtain⟨t',rfl⟩:=J;exact PySem.EqMixed.eq_bool_str (bO I q (by simp))
  |_=>exact absurd (show false=true from d) zzJ
 |int i =>
  obtain⟨t,rfl⟩:=L;cases y with
  |non=>cases J;exact PySem.EqNone.eq_int_none (bO I q (by simp))
  |int j=>obtain⟨t',rfl⟩:=J;exact eq_int (bO I q FI)
  |str j=>obtain⟨t',rfl⟩:=J;exact PySem.EqMixed.eq_int_str (bO I q (by simp))
  |_=>exact absurd (show false=true from d) zzJ
 |str i =>
  obtain⟨t,rfl⟩:=L;cases y with
  |non=>cases J;exact PySem.EqNone.eq_str_none (bO I q (by simp))
  |bl j=>cases J;exact PySem.EqMixed.eq_str_bool (bO I q (by simp))
  |int j=>obtain⟨t',rfl⟩:=J;exact PySem.EqMixed.eq_str_int (bO I q (by simp))
  |str j=>obtain⟨t',rfl⟩:=J;exact eq_str (bO I q FJ)
  |_=>exact absurd (show false=true from d) zzJ
 |byt i =>
  obtain⟨t,rfl⟩:=L;cases y with
  |byt j=>obtain⟨t',rfl⟩:=J;exact PySem.W.eq_bytes (bO I q FK)
  |_=>exact absurd (show false=true from d) zzJ
 |_=>cases y<;>exact absurd (show false=true from d) zzJ
theorem Ig:OpR X (compareOp .Lt) (rI0 λi j=>.bl (decide (i<j))):=opB0 λ_ _ _ _ _ _ _ q=>lt_int q
theorem Ku:OpR X (compareOp .LtE) (rI0 λi j=>.bl (decide (i <= j))):=opB0 λ_ _ _ _ _ _ _ q=>le_int q
theorem Ih:OpR X (compareOp .Gt) (rI0 λi j=>.bl (decide (j<i))):=opB0 λ_ _ _ _ _ _ _ q=>gt_int q
theorem Kv:OpR X (compareOp .GtE) (rI0 λi j=>.bl (decide (j <= i))):=opB0 λ_ _ _ _ _ _ _ q=>ge_int q
theorem Ii:OpR X (compareOp .Is) (λx y H Q=>y=.non/\Q (.bl (decide (x=.non))) H):=by
 intro pins s σ H x y v u Q I J L h;obtain⟨rfl,q⟩:=h;cases L;refine is_none_gen (bO I q ?_);cases x<;>first
  |(cases J;rfl)
  |(obtain⟨t,rfl⟩:=J;rfl)
theorem FL:OpR X (compareOp .IsNot) (λx y H Q=>y=.non/\Q (.bl (!decide (x=.non))) H):=by
 intro pins s σ H x y v u Q I J L h;obtain⟨rfl,q⟩:=h;cases L;refine isnot_none_gen (bO I q ?_);cases x<;>first
  |(cases J;rfl)
  |(obtain⟨t,rfl⟩:=J;rfl)
theorem ur:OpR X (compareOp .NotIn) (λx y H Q=>∃i j,x=.str i/\y=.str j/\Q (.bl (!(!(Builtin.Str.occurrences j i 0 j.length 1).isEmpty))) H):=by intro pins s σ H x y v u Q I J L h;obtain⟨i,j,rfl,rfl,q⟩:=h;obtain⟨t,rfl⟩:=J;obtain⟨t',rfl⟩:=L;exact notIn_str (bO I q rfl)
theorem ay(b:Expr)(h:op ≠ .In:=by decide)(m:op ≠ .NotIn:=by decide):behindInMarks op b=false:=by
 have d:(op == CmpOp.In)=false:=by cases op<;>first|rfl|exact absurd rfl h
 have l:(op == CmpOp.NotIn)=false:=by cases op<;>first|rfl|exact absurd rfl m
 cases b<;>simp[behindInMarks,d,l]
theorem FM{r:R2}(U:OpR X (compareOp op) r)(l:PE X a ta)(L:PE X b tb)(m:behindInMarks op b=false):PE X (.Compare a [op] [b] pos) (tOp r ta tb):=by intro pins s σ H Q I h;exact wpAny_Compare1 (binT l L I h λv u z x y d J Y n q=>U pins z σ d x y v u Q J Y n q) m
def Ij(t:TE):TT:=λσ H Q=>t σ H λx H'=>∃k,x=.bl k/\Q k H'
theorem oA{r:R2}(B:OpR X (compareOp op) r)(n:PE X a ta)(Y:PE X b tb)(q:behindInMarks op b=false):PT X (.Compare a [op] [b] pos) (Ij (tOp r ta tb)):=by
 intro pins s σ H Q I h;refine wpAny_isTrue_Compare1 (thnE (n pins s σ H _ I h) λv s1 x d J i G=>thnE (Y pins s1 σ d _ J G) λu p y l L j T =>
  thn (B pins p σ l x y v u _ L i j T) λc s3 ⟨z,m,U,o,k,e,g⟩=>?_) q
 subst e;cases o;exact zyW ⟨m,U,g⟩
def zQ(r r':R2)(ta tb tc:TE):TE:=λσ H Q=>ta σ H λx l=>tb σ l λy m=>r x y m λz d=>∃k,z=.bl k /\
 (if k=true then tc σ d λL J=>r' y L J Q else Q (.bl false) d)
theorem CM{r m:R2}(w:OpR X (compareOp op) r)(J:OpR X (compareOp op') m)(i:PE X a ta)(j:PE X b tb)(o:PE X c tc)(p:lastMarks [op,op'] [b,c]=false:=by with_unfolding_all rfl):PE X (.Compare a [op,op'] [b,c] pos) (zQ r m ta tb tc):=by
 intro pins s σ H Q I h;refine Compare_chain (thnE (i pins s σ H _ I h) λv s1 x q G M A=>chain_link (thnE (j pins s1 σ q _ G A) λu s2 y B T n C =>
  thn (w pins s2 σ B x y v u _ T M n C) λd s3 ⟨z,l,L,N,k,e,U⟩=>?_)) p
 subst e;cases N;refine zyW ?_;cases k with
 |false=>exact ite_ff ⟨.bl false,l,L,rfl,U⟩|true=>exact ite_tt (chain_last (thnE (o pins s3 σ l _ L U) λw' s4 z' Y g r4 E=>J pins s4 σ Y y z' u w' Q g n r4 E))
theorem CN{r m:R2}(M:OpR X (compareOp op) r)(J:OpR X (compareOp op') m)(w:PE X a ta)(A:PE X b tb)(C:PE X c tc)(E:lastMarks [op,op'] [b,c]=false:=by with_unfolding_all rfl):PT X (.Compare a [op,op'] [b,c] pos) (Ij (zQ r m ta tb tc)):=by
 intro pins s σ H Q I h;refine isTrue_chain (thnE (w pins s σ H _ I h) λv s1 x q T r1 q1=>test_link (thnE (A pins s1 σ q _ T q1) λu s2 y B g n q2 =>
  thn (M pins s2 σ B x y v u _ g r1 n q2) λd s3 ⟨z,l,L,r3,k,e,U⟩=>?_)) E
 subst e;cases r3;refine zyW ?_;cases k with
 |false =>
  obtain⟨k',o,N⟩:=U;cases o;exact ite_ff ⟨l,L,N⟩
 |true =>
  refine ite_tt (test_last (thnE (C pins s3 σ l _ L U) λw' s4 z' Y i r4 q4=>thn (J pins s4 σ Y y z' u w' _ i n r4 q4) λd' s5 q0=>?_));obtain⟨z2,G,j,r5,k2,p,q5⟩:=q0;subst p;cases r5;exact zyW ⟨G,j,q5⟩
theorem oB:(sizeLine:Nat)<2^63:=by rw[zxT];decide
theorem yK:OpR X (binaryOp .Add) (λx y H Q=>∃i j,x=.str i/\y=.str j/\i.length+j.length <= sizeLine/\Q (.str (i++j)) H):=by intro pins s σ H x y v u Q I J L h;obtain⟨i,j,rfl,rfl,d,q⟩:=h;obtain⟨t,rfl⟩:=J;obtain⟨t',rfl⟩:=L;exact add_str (λt' tk=>⟨.str (i++j),H,I.tok _,⟨_,rfl⟩,q⟩) d
theorem nF{x:V}(r:Vals [x] us):∃u,us=[u]/\RelV x u:=by
 cases r with
 |cons J d=>cases d;exact⟨_,rfl,J⟩
theorem FN{x:V}(r:Vals [x,y] us):∃u J,us=[u,J]/\RelV x u/\RelV y J:=by
 cases r with
 |cons L d =>
  cases d with
  |cons U Y=>cases Y;exact⟨_,_,rfl,L,U⟩
theorem ut:fV X (.type "str") (λxs H Q=>∃i,xs=[.int i]/\i.natAbs.log2<1920/\Q (.str (toString i)) H):=by intro pins s σ H xs us Q I r h;obtain⟨i,rfl,d,q⟩:=h;obtain⟨u,rfl,t,rfl⟩:=nF r;exact PySem.P.str_of_int d ⟨.str _,H,I.tok _,⟨_,rfl⟩,q⟩
end
structure ObjM(h:Heap)(x dx C:Addr)(mA:Str->Option Value):Prop where
 obj:h.get? x=some (PySem.W.instObj C dx)
 ns:h.Ns1 dx mA
 ne:dx≠x
theorem uu{mA:Str->Option Value}(n:h.Ns1 C mA):∃od,h.get? C=some od/\∀name,PySem.W.lookIn name od=some (mA name):=by
 obtain⟨o,es,ep,U,hd,c,_,d⟩:=n;refine⟨o,U,λname=>?_⟩;have e:=d name;unfold nsFind findBy at e;rw[←Array.find?_toList]at e;unfold PySem.W.lookIn;rw[hd];dsimp only;split
 ·rename_i y q;rw[q]at e;exact congrArg some e
 ·rename_i q;rw[q]at e;have a:es.toList.any (·.refKey)=false:=by
   rw[List.any_eq_false];intro y Y;obtain⟨z,t,J⟩:=c y (zxi.mp Y);simp[DictEntry.refKey,J]
  have L:¬es.toList.any (·.refKey)=true:=by rw[a];exact zzJ
  rw[zzi L];exact congrArg some e
theorem ObjM.look{x:Addr}{mA:Str->Option Value}(I:ObjM h x a C mA):∃od,PySem.W.InstAt h x (PySem.W.instObj C a) C (some od)/\∀name,PySem.W.lookIn name od=some (mA name) :=
 let ⟨od,ho,hl⟩:=uu I.ns
 ⟨od,⟨I.obj,rfl,rfl,ho⟩,hl⟩
section
variable{prog:Program}{s:Shared}{K:zvd}{f:Addr}{mA:Str->Option Value}{name:Str}{v:Value}
theorem FO(X:K.In s.heap)(I:ObjM s.heap x dx C mA)(U:PySem.W.plainGet K C name=true)(d:PySem.W.hasDictIn K C=true)(c:PySem.W.findIn K (.ref C) name=some none)(Y:mA name=some v)(L:PySem.W.handedIn v=true)(h:Q v { s with toks:=s.toks+1 }) :
  wpAny (model prog w) A (getAttr (.ref x) name k') Q E s:=by
 obtain⟨od,J,l⟩:=I.look;exact PySem.W.get_value X J (zwQ U).1 (PySem.W.findObj_own d c rfl (by rw[l,Y])) L h
theorem CO{pl:Sem Bool}{Q:Value×List Value->Shared->Prop}(X:K.In s.heap)(I:ObjM s.heap x dx C mA)(L:PySem.W.plainGet K C name=true)
  (U:PySem.W.findIn K (.ref C) name=some (some (.ref f))) (Y:PySem.W.isFn K (.ref f)=true) (d:mA name=none) (h:Q (.ref f,[.ref x]) s) :
  wpAny (model prog w) A (getMethod (.ref x) name pl) Q E s:=by
 obtain⟨l,J,c⟩:=I.look;exact PySem.W.method_fn X J (zwQ L).1 (zwQ L).2 U (zwi.mp Y) (by show (PySem.W.lookIn name l).map (·.isSome)=some false;rw[c,d];rfl) h
theorem FP{Q:Unit->Shared->Prop}(X:K.In s.heap)(I:ObjM s.heap x dx C mA)(hs:PySem.W.findIn K (.ref C) "__setattr__" = some (some (.builtin "object.__setattr__")))(q:PySem.W.plainOver K C=true)(z:PySem.W.takerIn K C name=some none)(n:PySem.W.hasDictIn K C=true)(hw:PySem.Within mA ps)(hsz:ps.length <= sizeLine)(h:∀h',ObjM h' x dx C (λy=>if y=name then some v else mA y)->Heap.SameBut dx s.heap h'->Q () { s with heap:=h',toks:=s.toks+2 }) :
  wpAny (model prog w) A (setAttr (.ref x) name v) Q E s:=by
 obtain⟨od,J,hl⟩:=I.look;refine PySem.W.set_plain X J hs (PySem.W.osa_open (s:={ s with toks:=s.toks+1 }) (r:=none) X J q z λb=>?_);obtain⟨cd,m,c⟩:=PySem.W.any_some n;have B:s.heap.get? x=some ⟨.ref C,some dx,.plain,#[]⟩:=I.obj;refine zzb (zzp (zzb (zzb (wpAny_loadPart B (zzb (PySem.W.Looks.here (s:={ s with toks:=s.toks+1 }) (PySem.W.looks_clsIn X m) ?_))))));rw[c];refine zzp (a:=some dx) (zzb (zzp (zzb ?_)));refine wpAny_nsSet1 (s:={ s with toks:=s.toks+1 }) I.ns λh' L U=>?_;obtain⟨oD,esD,epD,l,d,Y⟩:=L.count (PySem.Within.cons name v hw);refine zzb (wpAny_lookBehind l (by rw[d];exact pastItsLine_dict (zzq Y (by rw[zzm];lia))) ?_);exact zzp (h _ ⟨(U.2 _ (Ne.symm I.ne)).trans I.obj,L,I.ne⟩ U)
theorem xu{R:Result->Shared->Prop}{vs:List Value}(X:K.In s.heap)(c:PySem.W.makesIn K C=true)(hi:PySem.W.findIn K (.ref C) "__init__" = some (some (.ref f)))(J:PySem.W.typeIn K (.ref f)=some (.type "function"))(h:codeAny (model prog w) (A.under (.builtin "type.__call__" ⟨.ref C::vs,kw⟩)) (.call (.ref f) ⟨.ref (s.heap.objs.size+1)::vs,kw⟩) (PySem.W.InitBack (s.heap.objs.size+1) R)
   { s with heap:=(s.heap.push PySem.W.emptyDict).push (PySem.W.instObj C s.heap.objs.size) }) :
  codeAny (model prog w) A (.call (.ref C) ⟨vs,kw⟩) R s:=by
 obtain⟨hh,g,d,t,os⟩:=s;exact PySem.W.make_core (PySem.W.makes_of X c) (zyT X hi) (λself=>PySem.W.bind_fn X self J) (.inl rfl) h
end
noncomputable def putF(f:Str)(v:V):List (Str×V)->List (Str×V)
 |[]=>[(f,v)]|(g,x)::r=>if g=f then(g,v)::r else(g,x)::putF f v r
theorem jB(f g:Str)(v:V):∀fs:List (Str×V),(putF f v fs).lookup g=if g=f then some v else fs.lookup g
 |[]=>by
  show List.lookup g [(f,v)]=_;by_cases h:g=f
  ·have J:(g == f)=true:=zwi.mpr h;simp only[List.lookup,J,zzn h]
  ·have J:(g == f)=false:=zxn.mpr h;simp only[List.lookup,J,zzi h]
 |(k,x)::r=>by
  have L:=jB f g v r;rw[show putF f v ((k,x)::r)=(if k=f then(k,v)::r else(k,x)::putF f v r) from rfl];by_cases c:k=f
  ·rw[zzn c];by_cases h:g=k
   ·have J:(g == k)=true:=zwi.mpr h;simp only[List.lookup,J,zzn (h.trans c)]
   ·have J:(g == k)=false:=zxn.mpr h;simp only[List.lookup,J,zzi (λe:g=f=>h (e.trans c.symm))]
  ·rw[zzi c];by_cases h:g=k
   ·have J:(g == k)=true:=zwi.mpr h;simp only[List.lookup,J,zzi (λe:g=f=>c (h.symm.trans e))]
   ·have J:(g == k)=false:=zxn.mpr h;simp only[List.lookup,J];exact L
theorem hV(f:Str)(v:V):∀fs:List (Str×V),f∈(putF f v fs).map (·.1)/\∀g,g∈fs.map (·.1)->g∈(putF f v fs).map (·.1)
 |[]=>⟨by simp[putF],λg h=>by simp at h⟩
 |(k,x)::r=>by
  obtain⟨J,L⟩:=hV f v r;rw[show putF f v ((k,x)::r)=(if k=f then(k,v)::r else(k,x)::putF f v r) from rfl];by_cases c:k=f
  ·rw[zzn c];subst c;exact⟨by simp,λg h=>by simpa using h⟩
  ·rw[zzi c];refine⟨?_,λg h=>?_⟩
   ·rw[zzh];exact zzc _ J
   ·rw[zzh]at h ⊢;rcases zzk.mp h with e|e
    ·exact zzk.mpr (.inl e)
    ·exact zzc _ (L g e)
theorem oC(f:Str)(v:V):∀fs:List (Str×V),(putF f v fs).length <= fs.length+1
 |[]=>by simp[putF]
 |(k,x)::r=>by
  have ih:=oC f v r;rw[show putF f v ((k,x)::r)=(if k=f then(k,v)::r else(k,x)::putF f v r) from rfl];by_cases c:k=f
  ·rw[zzn c,zzm,zzm];lia
  ·rw[zzi c,zzm,zzm];lia
theorem RelO.some_of{o:Option Value}(r:RelO (some v) o):∃u,o=some u/\RelV v u:=by
 cases o with
 |none=>exact(show False from r).elim|some u=>exact⟨u,rfl,r⟩
theorem RelO.none_of{o:Option Value}(r:RelO none o):o=none:=by
 cases o with
 |none=>rfl|some u=>exact(show False from r).elim
theorem uv(r:RelV v u):PySem.W.handedIn u=true:=by
 cases v with
 |non=>cases (show u=Value.none from r);rfl
 |bl b=>cases (show u=Value.bool b from r);rfl
 |int i=>obtain⟨t,e⟩:=(show ∃t,u=Value.int i t from r);cases e;rfl
 |str x=>obtain⟨t,e⟩:=(show ∃t,u=Value.str x t from r);cases e;rfl
 |byt b=>obtain⟨t,e⟩:=(show ∃t,u=Value.bytes b t from r);cases e;rfl
 |flt b=>obtain⟨t,e⟩:=(show ∃t,u=Value.float b t from r);cases e;rfl
 |ref a=>cases (show u=Value.ref a from r);rfl
 |ty n=>cases (show u=Value.type n from r);rfl
section
variable{H:Hp}{fs:List (Str×V)}
theorem si(c:HOk P w H h)(e:H a=some (.ins C dx fs)):∃mA,ObjM h a dx C mA/\(∀f,RelO (fs.lookup f) (mA f))/\PySem.Within mA (fs.map (·.1))/\fs.length <= 1000/\H dx=some (.own a):=by obtain⟨d,z,ne,l,mA,n,r,q⟩:=(show ObjOk P w H h a (.ins C dx fs) from c a _ e);exact⟨mA,⟨l,n,ne⟩,r,q,z,d⟩
end
structure Cls(K:zvd)(C:Addr):Prop where
 pg:PySem.W.plainGet K C Str.empty=true
 hd:PySem.W.hasDictIn K C=true
 po:PySem.W.plainOver K C=true
 sa:PySem.W.findIn K (.ref C) "__setattr__" = some (some (.builtin "object.__setattr__"))
theorem Cls.get{K:zvd}(c:Cls K C)(f:Str):PySem.W.plainGet K C f=true:=c.pg
def NoAttr(K:zvd)(C:Addr)(f:Str):Prop:=PySem.W.findIn K (.ref C) f=some none
theorem NoAttr.taker{K:zvd}{f:Str}(n:NoAttr K C f):PySem.W.takerIn K C f=some none:=by unfold PySem.W.takerIn;rw[show PySem.W.findIn K (.ref C) f=some none from n];rfl
structure Meth(K:zvd)(C:Addr)(m:Str)(f:Addr):Prop where
 at_:PySem.W.findIn K (.ref C) m=some (some (.ref f))
 fn:PySem.W.isFn K (.ref f)=true
 kp:PySem.W.keepIn K (.ref f)=true
section
variable{X:Cx}{σ:St}{H:Hp}{s:Shared}{fs:List (Str×V)}{f:Str}{v:V}
theorem yL{b:Bool}(I:Inv X pins σ H s)(e:H a=some (.ins C dx fs))(c:Cls X.K C)(n:NoAttr X.K C f)(l:fs.lookup f=some v)(h:∀u s',Inv X pins σ H s'->RelV v u->Q u s'):wpAny (model X.prog X.w) A (getAttr (.ref a) f b) Q E s:=by obtain⟨d,O,r,_,_,_⟩:=si I.hok e;obtain⟨u,L,J⟩:=RelO.some_of (v:=v) (o:=d f) (by rw[←l];exact r f);exact FO I.kIn O (c.get f) c.hd n L (uv J) (h u _ (I.tok _) J)
theorem yM{m:Str}{g:Addr}{pl:Sem Bool}{Q:Value×List Value->Shared->Prop}(I:Inv X pins σ H s)(e:H a=some (.ins C dx fs))(c:Cls X.K C)(k:Meth X.K C m g)(l:fs.lookup m=none)
  (h:Q (.ref g,[.ref a]) s):wpAny (model X.prog X.w) A (getMethod (.ref a) m pl) Q E s:=by
 obtain⟨n,O,r,_,_,_⟩:=si I.hok e;have d:n m=none:=RelO.none_of (by rw[←l];exact r m);exact CO I.kIn O (c.get m) k.at_ k.fn d h
theorem yN{Q:Unit->Shared->Prop}(I:Inv X pins σ H s)(e:H a=some (.ins C dx fs))(c:Cls X.K C)(n:NoAttr X.K C f)(hl:fs.length<1000)(B:RelV y u)(h:∀s',Inv X pins σ (upd H a (.ins C dx (putF f y fs))) s'->Q () s'):wpAny (model X.prog X.w) A (setAttr (.ref a) f u) Q E s:=by
 obtain⟨d,O,r,l,_,L⟩:=si I.hok e;have m:(fs.map (·.1)).length <= sizeLine:=by rw[zza,zxT];lia
 refine FP I.kIn O c.sa c.po n.taker c.hd l m λh' J G=>h _ ?_;have hd:∃o,h'.get? dx=some o:=let ⟨o,_,_,e',_⟩:=J.ns;⟨o,e'⟩
 refine I.write (x:=a) (e:=dx) (by rw[e];exact True.intro) (.inr L) (λb q U z=>(G.2 b U).trans z) hd ?_;refine⟨by rw[ah O.ne];exact L,?_,O.ne,J.obj,_,J.ns,λg=>?_,λg Y=>?_⟩
 ·have:=oC f y fs;lia
 ·show RelO ((putF f y fs).lookup g) (if g=f then some u else d g);rw[jB];by_cases q:g=f
  ·rw[zzn q,zzn q];exact B
  ·rw[zzi q,zzi q];exact r g
 ·by_cases q:g=f
  ·rw[q];exact(hV f y fs).1
  ·refine(hV f y fs).2 g (l g λz=>Y ?_);show (if g=f then some u else d g)=none;rw[zzi q];exact z
theorem Inv.made(I:Inv X pins σ H s):Inv X pins σ (upd (upd H s.heap.objs.size (.own (s.heap.objs.size+1))) (s.heap.objs.size+1) (.ins C s.heap.objs.size []))
  { s with heap:=(s.heap.push PySem.W.emptyDict).push (PySem.W.instObj C s.heap.objs.size) }:=by
 have c:(s.heap.push PySem.W.emptyDict).get? s.heap.objs.size=some PySem.W.emptyDict:=zzy s.heap rfl;have d:((s.heap.push PySem.W.emptyDict).push (PySem.W.instObj C s.heap.objs.size)).get? (s.heap.objs.size+1)=some (PySem.W.instObj C s.heap.objs.size):=by have:=zzy (s.heap.push PySem.W.emptyDict) (o:=PySem.W.instObj C s.heap.objs.size) rfl;rwa [zyj]at this
 have l:(s.heap.push PySem.W.emptyDict).Ns s.heap.objs.size (λ_=>none):=⟨PySem.W.emptyDict,#[],_,c,rfl,(λe m=>absurd m (by simp)),λ_=>rfl⟩;have J:=I.laid (a:=s.heap.objs.size) (o:=.own (s.heap.objs.size+1)) (h':=s.heap.push PySem.W.emptyDict) (t':=s.toks) (λb u q=>zzf _ q) (zzr _) ⟨_,c⟩;refine J.laid (a:=s.heap.objs.size+1) (o:=.ins C s.heap.objs.size []) (t':=s.toks) (λb u q=>zzf _ q) (Nat.le_of_eq (zyj _ _)) ?_;have ne:s.heap.objs.size≠s.heap.objs.size+1:=zzL (zwE _);refine⟨by rw[ah ne,ai],zya _,ne,d,λ_=>none,(Heap.Ns1.of_empty l).at λo q=>zzf _ q,λ_=>True.intro,λy L=>absurd rfl L⟩
theorem zR{prog:Program}{c:Env}{f:Str}{s:Shared}(L:attributeBase e f c (eval e c)=eval e c)(h:wpAny (model prog w) A (eval e c) (λo J=>wpAny (model prog w) A (getAttr o f true) Q E J) E s):wpAny (model prog w) A (eval (.Attribute e f pos) c) Q E s :=
 Attribute_any_ h (by rw[arm_eval_Attribute,L])
end
def tFld(K:zvd)(ta:TE)(f:Str):TE:=λσ H Q=>ta σ H λx c=>∃a C dx fs v,x=.ref a/\c a=some (.ins C dx fs)/\Cls K C/\NoAttr K C f/\fs.lookup f=some v/\Q v c
def sFld(K:zvd)(ta tv:TE)(f:Str):TS:=λD σ H=>tv σ H λy d=>ta σ d λx c=>∃a C dx fs,x=.ref a/\c a=some (.ins C dx fs)/\Cls K C/\NoAttr K C f/\fs.length<1000 /\
 D.nx σ (upd c a (.ins C dx (putF f y fs)))
section
variable{X:Cx}{o value:Expr}{f:Str}{pos':Pos}{ta tv:TE}
theorem Ik(he:PE X e ta)(U:attributeBase e f X.env (eval e X.env)=eval e X.env):PE X (.Attribute e f pos) (tFld X.K ta f):=by intro pins s σ H Q I h;refine zR U (thn (he pins s σ H _ I h) λu s1 Y=>?_);obtain⟨x,d,J,B,a,C,dx,fs,v,r,m,c,n,l,q⟩:=Y;subst r;obtain rfl:u=Value.ref a:=B;exact yL J m c n l λu' s2 L z=>⟨v,d,L,z,q⟩
theorem zS(z:PE X o ta)(Y:PE X value tv)(hs:swapsWith value (some (.Attribute o f pos')) pos.line X.env=pure false):PS X (.Assign [.Attribute o f pos'] value pos) (sFld X.K ta tv f):=by intro pins s σ H D I h;refine plainObj_wpAny_Assign_Attribute (thnE (Y pins s σ H _ I h) λu s1 y d J e q=>thn (z pins s1 σ d _ J q) λB s2 G=>?_) hs;obtain⟨x,H2,L,b,a,C,dx,fs,r,m,c,n,l,T⟩:=G;subst r;obtain rfl:B=Value.ref a:=b;exact yN L m c n l e λs3 U=>⟨σ,_,U,T⟩
end
section
variable{X:Cx}{σ:St}{H:Hp}{s:Shared}{Q:Value->Shared->Prop}{c:Value}{b:Bool}
inductive TyOf(K:zvd)(H:Hp):V->Value->Prop where
 | non:TyOf K H .non (.type "NoneType")
 | bl (x:Bool):TyOf K H (.bl x) (.type "bool")
 | int (i:Int):TyOf K H (.int i) (.type "int")
 | str (x:Str):TyOf K H (.str x) (.type "str")
 | flt (x:UInt64):TyOf K H (.flt x) (.type "float")
 | lst {a:Addr} {xs:List V} (e:H a=some (.lst xs)):TyOf K H (.ref a) (.type "list")
 | frz {a:Addr} {o:Obj} {xs:List V} (e:H a=some (.frz o (.lst xs))):TyOf K H (.ref a) (.type "list")
 | tup {a:Addr} {xs:List V} (e:H a=some (.tup xs)):TyOf K H (.ref a) (.type "tuple")
 | dK {a:Addr} {kvs:List (Key×V)} (e:H a=some (.dK kvs)):TyOf K H (.ref a) (.type "dict")
 | dT {a:Addr} {kvs:List (List Key×V)} (e:H a=some (.dT kvs)):TyOf K H (.ref a) (.type "dict")
 | ins {a C dx:Addr} {fs:List (Str×V)} (e:H a=some (.ins C dx fs)) (cl:Cls K C) (ha:PySem.W.findIn K (.ref C) "__class__" = some (some (.builtin "object.__class__")))
   (hn:PySem.W.specialIn K (.builtin "object.__class__") "__get__" = some (some (.builtin "getset_descriptor.__get__"))) (htk:PySem.W.takesIn K (.builtin "object.__class__")=some true)
   (hm:PySem.W.mroIn K C (.type "object")=some true):TyOf K H (.ref a) (.ref C)
theorem zT{x:V}{t:Value}(I:Inv X pins σ H s)(L:RelV x u)(ty:TyOf X.K H x t)(e:PySem.W.kitOne X.K t c=some b)(h:∀tk,Q (.bool b) { s with toks:=tk }) :
  wpAny (model X.prog X.w) A (call (.builtin "isinstance") [u,c]) Q E s:=by
 cases ty with
 |non=>cases (show u=Value.none from L);exact zys PySem.W.kitx_none I.kIn True.intro e (λz=>nomatch z) h
 |bl y=>cases (show u=Value.bool y from L);exact zys PySem.W.kitx_bool I.kIn True.intro e (λz=>nomatch z) h
 |int i=>obtain⟨t,q⟩:=(show ∃t,u=Value.int i t from L);cases q;exact zys PySem.W.kitx_int I.kIn True.intro e (λz=>nomatch z) h
 |str y=>obtain⟨t,q⟩:=(show ∃t,u=Value.str y t from L);cases q;exact zys PySem.W.kitx_str I.kIn True.intro e (λz=>nomatch z) h
 |flt y=>obtain⟨t,q⟩:=(show ∃t,u=Value.float y t from L);cases q;exact zys PySem.W.kitx_float I.kIn True.intro e (λz=>nomatch z) h
 |@lst a r d =>
  cases (show u=Value.ref a from L);obtain⟨_,_,n,_,l⟩:=(show ObjOk X.prog X.w H s.heap a (.lst r) from I.hok a _ d);exact zys PySem.W.kitx_list I.kIn ⟨_,l,rfl⟩ e (λz=>nomatch z) h
 |@frz a j r d =>
  cases (show u=Value.ref a from L);obtain⟨_,_,_,n,_,l⟩:=(show ObjOk X.prog X.w H s.heap a (.frz j (.lst r)) from I.hok a _ d);exact zys PySem.W.kitx_list I.kIn ⟨_,l,rfl⟩ e (λz=>nomatch z) h
 |@tup a r d =>
  cases (show u=Value.ref a from L);obtain⟨_,_,_,p⟩:=(show ObjOk X.prog X.w H s.heap a (.tup r) from I.hok a _ d);obtain⟨o,l,B,_⟩:=p;exact zys PySem.W.kitx_tuple I.kIn ⟨o,l,B⟩ e (λz=>nomatch z) h
 |@dK a m d =>
  cases (show u=Value.ref a from L);obtain⟨_,_,vs,_,p⟩:=(show ObjOk X.prog X.w H s.heap a (.dK m) from I.hok a _ d);obtain⟨o,es,T,l,B,_⟩:=p;exact zys PySem.W.kitx_dict I.kIn ⟨o,l,B.1⟩ e (λz=>nomatch z) h
 |@dT a m d =>
  cases (show u=Value.ref a from L);obtain⟨_,_,r,_,o,es,T,l,B,_⟩:=(show ObjOk X.prog X.w H s.heap a (.dT m) from I.hok a _ d);exact zys PySem.W.kitx_dict I.kIn ⟨o,l,B.1⟩ e (λz=>nomatch z) h
 |@ins a C dx fs d cl U g G Y =>
  cases (show u=Value.ref a from L);obtain⟨mA,O,_⟩:=si I.hok d;obtain⟨od,J,_⟩:=O.look;exact zys (PySem.W.kitx_own (cl.get _) cl.hd U g G Y) I.kIn J e (λz=>nomatch z) h
end
structure Room(k:Nat)(A:Around):Prop where
 hd:A.handled=none
 dp:A.depth+3*k+5<recursionLimit
 un:A.units+16*k+200<cLine
theorem Room.mono{j k:Nat}(r:Room k A)(h:j <= k):Room j A:=⟨r.hd,by have:=r.dp;lia,by have:=r.un;lia⟩
theorem Room.deeper{k:Nat}{A:Around}(r:Room (k+1) A)(c:Env):Room k (A.deeper c) :=
 ⟨r.hd,by have:=r.dp;show A.depth+1+3*k+5<_;lia,by have:=r.un;show A.units+3+16*k+200<_;lia⟩
theorem yO{C:Addr}:(A.under (.builtin "type.__call__" ⟨.ref C::us,kw⟩)).depth=A.depth+1:=by
 first|rfl|simp[Around.under,Code.weight,Code.isCreation,Code.isGuard,Code.isCaller,Code.frames,Code.isFrame,guardIds]
theorem yP{C:Addr}:(A.under (.builtin "type.__call__" ⟨.ref C::us,kw⟩)).units=A.units+1:=by
 first|rfl|simp[Around.under,Code.cUnits,Code.frames,Code.isFrame]
theorem Room.make{k:Nat}(r:Room (k+1) A)(C:Addr)(us:List Value)(kw:List (Str×Value)):Room k (A.under (.builtin "type.__call__" ⟨.ref C::us,kw⟩)) :=
 ⟨r.hd,by have:=r.dp;rw[yO];lia,by have:=r.un;rw[yP];lia⟩
theorem Room.depth{k:Nat}{A:Around}(r:Room k A):A.depth<recursionLimit:=by have:=r.dp;lia
theorem Room.units{k:Nat}{A:Around}(r:Room k A):A.units+64<cLine:=by have:=r.un;lia
def tNil:TA:=λ_ H Q=>Q [] H
def CP(ta:TE)(tr:TA):TA:=λσ H Q=>ta σ H λx c=>tr σ c λl d=>Q (x::l) d
section
variable{X:Cx}{te:TE}{t:TA}
theorem bP:PA X [] tNil:=λ_ _ _ _ H Q I h=>Calls.spliced_nil ⟨[],H,I,.nil,h⟩
theorem aU(l:PE X e te)(U:PA X es t)(hs:starEach (e::es) X.env=(false,eval e X.env)::starEach es X.env:=by rfl):PA X (e::es) (CP te t):=by intro pos pins s σ H Q I h;rw[hs];show wpAny _ _ (spliced ((false,eval e X.env)::backTo pos (starEach es X.env))) _ _ s;refine Calls.spliced_cons (thn (l pins s σ H _ I h) λu s1 Y=>?_);obtain⟨x,c,J,q,m⟩:=Y;exact thnE (U pos pins s1 σ c _ J m) λus s2 z d L r n=>⟨x::z,d,L,.cons q r,n⟩
def tTup(t:TA):TE:=λσ H Q=>t σ H λd c=>d.length <= sizeLine/\∀p,c p=none->Q (.ref p) (upd c p (.tup d))
def tLst(t:TA):TE:=λσ H Q=>t σ H λd c=>d.length <= sizeLine/\∀p,c p=none->Q (.ref p) (upd c p (.lst d))
theorem Il{x1}(h:PA X es t):PE X (.Tuple es x1 pos) (tTup t):=by intro pins s σ H Q I U;refine wpAny_Tuple_spliced (thn (h pos pins s σ H _ I U) λus s1 ⟨d,c,J,r,z,q⟩=>⟨by rw[←r.length];exact z,?_⟩);have L:c s1.heap.objs.size=none:=J.hok.fresh (zzr _);refine⟨.ref s1.heap.objs.size,upd c s1.heap.objs.size (.tup d),J.laid (t':=s1.toks) (λb u e=>zzf _ e) (zzr _) ?_,rfl,q _ L⟩;exact⟨⟨z,.inl ⟨_,zzy _ rfl,rfl⟩⟩,us,r,⟨_,zzy _ rfl,rfl,_,rfl⟩⟩
theorem xv(h:PA X es t):PE X (.List es pos) (tLst t):=by intro pins s σ H Q I U;refine wpAny_List_spliced (thn (h pos pins s σ H _ I U) λus s1 ⟨d,c,J,r,z,q⟩=>⟨by rw[←r.length];exact z,?_⟩);have L:c s1.heap.objs.size=none:=J.hok.fresh (zzr _);refine⟨.ref s1.heap.objs.size,upd c s1.heap.objs.size (.lst d),J.laid (t':=s1.toks) (λb u e=>zzf _ e) (zzr _) ?_,rfl,q _ L⟩;exact⟨z,us,0,r,zzy _ rfl⟩
end
abbrev Sp:=List V->Hp->VK->XK->Prop
variable{sp':Sp}
abbrev CXT:=List Env->Hp->Shared->XK->Value->Shared->Prop
variable{CX:CXT}
structure Env0(P:Program)(w:World)(K:zvd)(mg:Str->Option Value)(base:Heap)(A:Around)(outer:List Env)(s:Shared)(H:Hp):Prop where
 frames:A.frames=some outer
 mod:Mod K mg base
 bs:∀b o,base.get? b=some o->s.heap.get? b=some o/\H b=none
 bsz:base.objs.size <= s.heap.objs.size
 funs:s.heap.FunFrames base outer
 frf:∀b∈frs outer,H b=none
 hok:HOk P w H s.heap
 bare:AllBare s.gens
def CE(outer:List Env)(P:Program)(w:World)(H:Hp)(s:Shared)(Q:VK)(u:Value)(s':Shared):Prop :=
 ∃v H',s'.os=s.os/\AllBare s'.gens/\Un (frs outer) [] H H' s.heap s'.heap/\HOk P w H' s'.heap/\RelV v u/\Q v H'
def CR(CX:CXT)(outer:List Env)(P:Program)(w:World)(H:Hp)(s:Shared)(Q:VK)(E:XK)(r:Result)(s':Shared):Prop :=
 match r with
 |.ok (.ret u)=>CE outer P w H s Q u s'|.ok _=>False|.error e=>CX outer H s E e s'
structure FnOk(P:Program)(w:World)(K:zvd)(mg:Str->Option Value)(base:Heap)(CX:CXT)(k:Nat)(f:Addr)(fd:FuncData)(ps:List Str)(sp:Sp):Prop where
 len:∀vs H Q E,sp vs H Q E->vs.length=ps.length
 run:∀(A:Around) (outer:List Env) (s:Shared) (H:Hp) (args:Args) (us:List Value) (vs:List V) (Q:VK) (E:XK),Room k A->Env0 P w K mg base A outer s H->BindsTo s fd args (ps.zip us)->Vals vs us->sp vs H Q E ->
  codeAny (model P w) A (.call (.ref f) args) (CR CX outer P w H s Q E) s
theorem FnOk.imp{P:Program}{K:zvd}{base:Heap}{k:Nat}{f:Addr}{fd:FuncData}{sp:Sp}(F:FnOk P w K mg base CX k f fd ps sp)(h:∀vs H Q E,sp' vs H Q E->sp vs H Q E):FnOk P w K mg base CX k f fd ps sp' :=
 ⟨λvs H Q E q=>F.len vs H Q E (h _ _ _ _ q),λA c s H args us vs Q E L d J U l=>F.run A c s H args us vs Q E L d J U (h _ _ _ _ l)⟩
theorem Env0.make{P:Program}{K:zvd}{base:Heap}{c:List Env}{s:Shared}(e:Env0 P w K mg base A c s H)(C:Addr)(us:List Value)(kw:List (Str×Value)) :
  Env0 P w K mg base (A.under (.builtin "type.__call__" ⟨.ref C::us,kw⟩)) c s H:=⟨by first|exact e.frames|(simpa[Around.under,Code.envs,Code.isFrame,pushEnvs]using e.frames),e.mod,e.bs,e.bsz,e.funs,e.frf,e.hok,e.bare⟩
section
variable{X:Cx}{σ:St}{H:Hp}{s s':Shared}
theorem Inv.env0(I:Inv X pins σ H s):Env0 X.prog X.w X.K X.mg X.base X.A X.stack s H :=
 ⟨I.ok.frames,I.ok.mod,I.bs,zzq I.ok.bsz I.sz,I.stack,I.stkFree,I.hok,I.bare⟩
theorem Inv.after{Q:VK}(I:Inv X pins σ H s)(h:CE X.stack X.prog X.w H s Q u s'):EP X pins σ Q u s':=by obtain⟨v,H',os,bare,un,c,r,q⟩:=h;obtain⟨l,g,d,t,J⟩:=s';obtain rfl:J=s.os:=os;exact⟨v,H',I.call (h':=l) (g':=g) (d':=d) (t':=t) (ch:=[]) un c bare (λb z=>absurd z (by simp)),r,q⟩
end
def Im(sp:Sp)(dvs:List V)(E:XK)(t:TA):TE:=λσ H Q=>t σ H λvs c=>sp (vs++dvs) c Q E
def Kw(C:Addr)(m:Str)(sp:Sp)(dvs:List V)(E:XK)(ta:TE)(t:TA):TE:=λσ H Q=>ta σ H λx c=>∃a dx fs,x=.ref a/\c a=some (.ins C dx fs)/\fs.lookup m=none /\
 t σ c λvs d=>sp (x::(vs++dvs)) d Q E
def Kx(C:Addr)(sp:Sp)(dvs:List V)(E:XK)(t:TA):TE:=λσ H Q=>t σ H λvs c=>∀x dx,c x=none->c dx=none->dx≠x ->
 sp (.ref x::(vs++dvs)) (upd (upd c dx (.own x)) x (.ins C dx [])) (λv d=>v=.non/\Q (.ref x) d) E
def Binds(K:zvd)(fd:FuncData)(ps:List Str)(ds:List Value):Prop :=
 ∀(s:Shared) (us:List Value),K.In s.heap->(us++ds).length=ps.length->BindsTo s fd ⟨us,[]⟩ (ps.zip (us++ds))
theorem Binds.all{K:zvd}{fd:FuncData}(h:∀us:List Value,us.length=ps.length->bindArgs fd ⟨us,[]⟩=pure (ps.zip us)):Binds K fd ps []:=λs us _ c=>by rw[zzv]at c ⊢;exact .of_eq (h us c)
def qW(CX:CXT)(X:Cx)(E:XK):Prop:=∀(pins:List (Addr×Obj)) (σ:St) (H:Hp) (s:Shared) (e:Value) (c:Shared),Inv X pins σ H s->CX X.stack H s E e c->X.xe e c
section
variable{X:Cx}{CX:CXT}{k:Nat}{f:Addr}{fd:FuncData}{ps:List Str}{sp:Sp}{dvs:List V}{ds:List Value}{E:XK}{x m:Str}{apos:Pos}{o:Expr}{ta:TE}{t:TA}
theorem EC{s:Shared}{Q:VK}(F:FnOk X.prog X.w X.K X.mg X.base CX k f fd ps sp)(Y:Room k X.A)(U:Binds X.K fd ps ds)(hd:Vals dvs ds)(l:qW CX X E)(I:Inv X pl σ H s)(r:Vals vs us)(h:sp (vs++dvs) H Q E):wpAny (model X.prog X.w) X.A (call (.ref f) us) (EP X pl σ Q) X.xe s:=by
 have c:Vals (vs++dvs) (us++ds):=r.append hd;have d:(us++ds).length=ps.length:=by rw[←c.length];exact F.len _ _ _ _ h
 refine zwv (zxb (F.run X.A X.stack s H ⟨us,[]⟩ (us++ds) (vs++dvs) Q E Y I.env0 (U s us I.kIn d) c h) λr n J=>?_);cases r with
 |error e=>exact l pl σ H s e n I J|ok L =>
  cases L with
  |ret u=>exact I.after J|next=>exact False.elim J|brk=>exact False.elim J|cont=>exact False.elim J
theorem we(F:FnOk X.prog X.w X.K X.mg X.base CX k f fd ps sp)(n:Room k X.A)(Y:Gl X x)(l:X.mg x=some (.ref f))(d:PySem.W.keepIn X.K (.ref f)=true)(U:Binds X.K fd ps ds)(hd:Vals dvs ds)(z:qW CX X E)
  (c:PA X (e::es) t) (J:(x == ("__debug__" : Str))=false:=by decide) (he:starEach (e::es) X.env=(false,eval e X.env)::starEach es X.env:=by rfl) (hpl:(backTo pos (starEach es X.env)).any (·.1)=false:=by rfl) :
  PE X (.Call (.Name x p) (e::es) [] pos) (Im sp dvs E t):=by
 intro pins s σ H Q I h;refine zxf (hU I Y l ?_ J);refine zxt (h₀:=X.base) I.ok.mod.kin d (thnE (c pos pins s σ H _ I h) λus s1 vs H1 L r q=>⟨L.kIn,?_⟩) he hpl;exact EC F n U hd z L r q
theorem FQ{pl:Sem Bool}(he:PE X o ta)(c:Cls X.K C)(d:Meth X.K C m f)(F:FnOk X.prog X.w X.K X.mg X.base CX k f fd ps sp)(b:Room k X.A)(Y:Binds X.K fd ps ds)(hd:Vals dvs ds)(i:qW CX X E)(T:PA X (e::es) t)
  (J:starEach (e::es) X.env=(false,eval e X.env)::starEach es X.env:=by rfl) (hpl:(backTo pos (starEach es X.env)).any (·.1)=false:=by rfl)
  (g:eval (.Call (.Attribute o m apos) (e::es) [] pos) X.env=(do
   let n ←eval o X.env
   standAt apos.atName
   let (f,first) ←holding [n] (getMethod n m pl)
   callWith pos f first (backTo pos (starEach (e::es) X.env)) (backToKw pos (keywordEach [] X.env))):=by rfl) :
  PE X (.Call (.Attribute o m apos) (e::es) [] pos) (Kw C m sp dvs E ta t):=by
 intro pins s σ H Q I h;refine PySem.W.methodCall_KW (pl:=pl) (thn (he pins s σ H _ I h) λu s1 j=>?_) g;obtain⟨x,z,L,v,a,dx,fs,G,B,l,q⟩:=j;subst G;obtain rfl:u=Value.ref a:=v;refine yM L B c d l ?_;refine zxt (first:=[.ref a]) (h₀:=X.base) I.ok.mod.kin d.kp (thnE (T pos pins s1 σ z _ L q) λus s2 vs H2 U r p=>⟨U.kIn,?_⟩) J hpl;exact EC (us:=.ref a::us) (vs:=.ref a::vs) F b Y hd i U (.cons rfl r) p
structure Mk(K:zvd)(C f:Addr):Prop where
 makes:PySem.W.makesIn K C=true
 init:PySem.W.findIn K (.ref C) "__init__" = some (some (.ref f))
 fn:PySem.W.isFn K (.ref f)=true
 kp:PySem.W.keepIn K (.ref C)=true
theorem CQ{s:Shared}{Q:VK}(M:Mk X.K C f)(F:FnOk X.prog X.w X.K X.mg X.base CX k f fd ps sp)(B:Room (k+1) X.A)(q:Binds X.K fd ps ds)(hd:Vals dvs ds)(G:qW CX X E)(I:Inv X pl σ H s)(r:Vals vs us)(h:∀x dx,H x=none->H dx=none->dx≠x->sp (.ref x::(vs++dvs)) (upd (upd H dx (.own x)) x (.ins C dx [])) (λv d=>v=.non/\Q (.ref x) d) E) :
  wpAny (model X.prog X.w) X.A (call (.ref C) us) (EP X pl σ Q) X.xe s:=by
 have U:=h (s.heap.objs.size+1) s.heap.objs.size (I.hok.fresh (zxH _)) (I.hok.fresh (zzr _)) (zzL (zwE _));have L:=Inv.made (C:=C) I;have c:Vals (V.ref (s.heap.objs.size+1)::(vs++dvs)) (Value.ref (s.heap.objs.size+1)::(us++ds)):=.cons rfl (r.append hd);have z:(Value.ref (s.heap.objs.size+1)::us++ds).length=ps.length:=by have e:=c.length;rw[F.len _ _ _ _ U]at e;exact e.symm
 refine zwv (xu (f:=f) I.kIn M.makes M.init (zwi.mp M.fn) (zxb (F.run _ X.stack _ _ ⟨Value.ref (s.heap.objs.size+1)::us,[]⟩ (Value.ref (s.heap.objs.size+1)::(us++ds)) _ _ E (B.make C us [])
  (L.env0.make C us []) (q _ (Value.ref (s.heap.objs.size+1)::us) L.kIn z) c U) λr b J=>?_))
 cases r with
 |error e=>exact G pl σ _ _ e b L J|ok n =>
  cases n with
  |ret u =>
   obtain⟨v,H',Y,a,l,T⟩:=L.after J;subst l;exact⟨a,⟨V.ref (s.heap.objs.size+1),H',Y,rfl,T⟩⟩
  |next=>exact False.elim J
  |brk=>exact False.elim J|cont=>exact False.elim J
theorem FR(M:Mk X.K C f)(F:FnOk X.prog X.w X.K X.mg X.base CX k f fd ps sp)(l:Room (k+1) X.A)(Y:Gl X x)(d:X.mg x=some (.ref C))(U:Binds X.K fd ps ds)(hd:Vals dvs ds)(n:qW CX X E)
  (c:PA X (e::es) t) (J:(x == ("__debug__" : Str))=false:=by decide) (he:starEach (e::es) X.env=(false,eval e X.env)::starEach es X.env:=by rfl) (hpl:(backTo pos (starEach es X.env)).any (·.1)=false:=by rfl) :
  PE X (.Call (.Name x p) (e::es) [] pos) (Kx C sp dvs E t):=by
 intro pins s σ H Q I h;refine zxf (hU I Y d ?_ J);refine zxt (h₀:=X.base) I.ok.mod.kin M.kp (thnE (c pos pins s σ H _ I h) λus s1 vs H1 L r q=>⟨L.kIn,?_⟩) he hpl;exact CQ M F l U hd n L r q
end
structure FnScope(N P:List Str)(sc:Scope):Prop where
 kind:sc.kind=.function
 co:sc.isCoroutine=false
 gen:sc.isGenerator=false
 nd:N.Nodup
 pre:N.take P.length=P
 par:∀x∈P,sc.names.lookup x=some .local∨sc.names.lookup x=some .cell
 nofree:∀y∈sc.names,y.2 ≠ .free
theorem uw{kindOf:Str->Option NameKind}{x:Str}:∀{binds:List (Str×Value)} {m:Str->Option Value},(∀v,(x,v)∉binds)->bindL kindOf binds m x=m x
 |[],_,_=>rfl|(n,v)::r,m,h=>by
  unfold bindL;rw[uw λw c=>h w (zzc _ c)];split
  ·have:x≠n:=by rintro rfl;exact h v zzg
   simp[this]
  ·rfl
theorem ux{kindOf:Str->Option NameKind}{x:Str}:∀{binds:List (Str×Value)} {m:Str->Option Value},(∀v,(x,v)∉binds)->bindC kindOf binds m x=m x
 |[],_,_=>rfl|(n,v)::r,m,h=>by
  unfold bindC;rw[ux λw c=>h w (zzc _ c)];split
  ·rfl
  ·have:x≠n:=by rintro rfl;exact h v zzg
   simp[this]
theorem uy{kindOf:Str->Option NameKind}{x:Str}{v:Value}:∀{P:List Str} {vs:List Value} {i:Nat} {m:Str->Option Value},P.Nodup->P[i]? = some x->vs[i]? = some v->kindOf x=some .local ->
  bindL kindOf (P.zip vs) m x=some v
 |[],_,_,_,_,h,_,_=>by simp at h
 |_::_,[],_,_,_,_,h,_=>by simp at h
 |p::P,w::vs,0,m,n,c,d,l=>by simp at c d;subst c;subst d;show bindL kindOf ((p,w)::P.zip vs) m p=_;unfold bindL;rw[uw λv J=>(zyG.mp n).1 (zyY J).1,zzn l];simp
 |p::P,w::vs,i+1,m,n,c,d,l=>by show bindL kindOf ((p,w)::P.zip vs) m x=_;unfold bindL;exact uy (i:=i) (zyG.mp n).2 (by simpa using c) (by simpa using d) l
theorem uz{kindOf:Str->Option NameKind}{x:Str}{v:Value}:∀{P:List Str} {vs:List Value} {i:Nat} {m:Str->Option Value},P.Nodup->P[i]? = some x->vs[i]? = some v->kindOf x≠some .local ->
  bindC kindOf (P.zip vs) m x=some v
 |[],_,_,_,_,h,_,_=>by simp at h
 |_::_,[],_,_,_,_,h,_=>by simp at h
 |p::P,w::vs,0,m,n,c,d,l=>by simp at c d;subst c;subst d;show bindC kindOf ((p,w)::P.zip vs) m p=_;unfold bindC;rw[ux λv J=>(zyG.mp n).1 (zyY J).1,zzi l];simp
 |p::P,w::vs,i+1,m,n,c,d,l=>by show bindC kindOf ((p,w)::P.zip vs) m x=_;unfold bindC;exact uz (i:=i) (zyG.mp n).2 (by simpa using c) (by simpa using d) l
noncomputable def start(N:List Str)(vs:List V):St:=vs.map some++List.replicate (N.length - vs.length) none
noncomputable def cxOf(CX:CXT)(P:Program)(w:World)(K:zvd)(mg:Str->Option Value)(base:Heap)(N:List Str)(qual:Str)(scope:Scope)(f:Addr)(cd:Value)(A:Around)(outer:List Env)(s:Shared)(H:Hp)(E:XK):Cx where
 prog:=P
 w:=w
 K:=K
 mg:=mg
 base:=base
 A:=A.deeper (envOfC qual scope s.heap.objs.size f cd)
 N:=N
 s₀:=s
 H₀:=H
 env:=envOfC qual scope s.heap.objs.size f cd
 outer:=outer
 stack:=envOfC qual scope s.heap.objs.size f cd::outer
 ex:=[]
 calm:=true
 fn:=λ_=>true
 pn:=[]
 xe:=λe c=>wpAny (model P w) (A.deeper (envOfC qual scope s.heap.objs.size f cd)) (leaving (envOfC qual scope s.heap.objs.size f cd) e) (λ_ J=>CX outer H s E e J) (λL J=>CX outer H s E L J) c
theorem xw{n:Nat}{x:Str}(h:sc.names.lookup x=some .cell):∃c,(cellsFrom n sc.names []).lookup x=some c:=by have q:=PySem.W.cellsFrom_some sc.names n [] (.inl h);exact zws.mp q
theorem zU{P:Program}{K:zvd}{base:Heap}{f:Addr}{d:List Env}{s:Shared}{E:XK}(S:FnScope N ps sc)(hd:A.handled=none)(m:Env0 P w K mg base A d s H)(hl:vs.length=ps.length)(r:Vals vs us)(x:InCallC s s.heap.objs.size (bindL (envOfC j sc s.heap.objs.size f cd).kindOf (ps.zip us) λ_=>none) (cellsFrom (s.heap.objs.size+1) sc.names []) (bindC (envOfC j sc s.heap.objs.size f cd).kindOf (ps.zip us) λ_=>none) s1) :
  Inv (cxOf CX P w K mg base N j sc f cd A d s H E) [] (start N vs) H s1:=by
 have hpl:ps.length <= N.length:=by have:=congrArg List.length S.pre;rw[zyl]at this;lia
 obtain⟨B,tk,rfl,G⟩:=x.done;have L:∀b:Addr,b∉(cxOf CX P w K mg base N j sc f cd A d s H E).ex:=λb z=>absurd (show b∈([]:List Addr) from z) (by simp);refine⟨⟨m.mod,S.kind,rfl,rfl,zzr _,λy z c B l=>?_,λy J=>?_,λy c _ h=>?_,λ_=>hd,Around.frames_deeper m.frames,.inr ⟨rfl,rfl⟩,λb z=>absurd z (L b),m.bs,m.bsz,λb _ _=>L b,λb z=>absurd z (L b),m.funs,m.frf⟩,
  rfl,m.bare,Un.kept G,⟨_,x.toInCall.ns,λi y v B l h3=>?_⟩,λy c h=>⟨_,x.cell y c h⟩,m.hok.fresh (zzr _),λy c h=>?_,λp U=>absurd (show p∈([]:List (Addr×Obj)) from U) (by simp),m.hok.kept G,?_⟩
 ·exact name_of_addr x.apart (zyi B) (zyi l)
 ·have J:sc.names.lookup y=some .cell∨sc.names.lookup y=some .free:=J;rcases J with J|J
  ·exact xw J
  ·exact absurd rfl (S.nofree _ (zyi J))
 ·exact Nat.le_of_lt (x.above y c (zyi h))
 ·have hi:i<vs.length:=by
   unfold start at l;by_cases hi:i<vs.length
   ·exact hi
   ·rw[zzT (by simpa using hi)]at l;rw[List.getElem?_replicate]at l;split at l<;>cases l
  have T:vs[i]? = some v:=by
   unfold start at l;rw[zyk (by simpa using hi),zzu]at l;cases e:vs[i]? with
   |none=>rw[e]at l;cases l
   |some a=>rw[e]at l;cases l;rfl
  obtain⟨u,I,g⟩:=r.get T;have U:ps[i]? = some y:=by rw[←S.pre,List.getElem?_take_of_lt (by lia)];exact B
  have Y:ps.Nodup:=by rw[←S.pre];exact S.nd.sublist (List.take_sublist _ _)
  refine⟨u,g,?_⟩;rcases S.par y (zzI U) with k|k
  ·exact .inl ⟨k,uy Y U I k⟩
  ·obtain⟨c,e⟩:=xw (n:=s.heap.objs.size+1) k;refine .inr ⟨.inl k,c,e,?_⟩;have q:=x.cell y c e;rw[uz Y U I (by show sc.names.lookup y≠_;rw[k];decide)]at q;exact q
 ·exact m.hok.fresh (Nat.le_of_lt (x.above y c (zyi h)))
 ·unfold start;show _=N.length;rw[zzd,zza,zwf];lia
theorem FS{P:Program}{K:zvd}{base:Heap}{k:Nat}{f:Addr}{name:Str}{l:Arguments}{body:List Stmt}{doc d ct oc:Value}{an od:Option Addr}{T:Array (Option Value)}{sp:Sp}(lk:K.lookup f=some ⟨oc,od,.func (PySem.W.fnOf name j l body sc dV cd doc pm an d ct),T⟩)(a0:PySem.W.codeIn K d j=true)(S:FnScope N ps sc)(len:∀vs H Q E,sp vs H Q E->vs.length=ps.length)(L:∀(A:Around) (c:List Env) (s:Shared) (H:Hp) (vs:List V) (Q:VK) (E:XK),Room k (A.deeper (envOfC j sc s.heap.objs.size f d))->sp vs H Q E ->
   ∃t,PSs (cxOf CX P w K mg base N j sc f d A c s H E) body t/\t { nx:=λ_ H'=>Q .non H',rt:=Q } (start N vs) H) :
  FnOk P w K mg base CX (k+1) f (PySem.W.fnOf name j l body sc dV cd doc pm an d ct) ps sp:=by
 refine⟨len,λA c s H args us vs Q E G B p r Y=>?_⟩;have M:=len _ _ _ _ Y;have g:K.In s.heap:=B.mod.kin.keeps λb o e=>(B.bs b o e).1;have h:s.heap.NoLimit:=B.mod.nolimit.keeps λb o e=>(B.bs b o e).1;have U:∀y∈ps.zip us,sc.names.lookup y.1=some .local∨(sc.names.lookup y.1=some .cell/\((cellsFrom (s.heap.objs.size+1) sc.names []).lookup y.1).isSome=true):=λ⟨n,v⟩ hy=>by
  rcases S.par n (zyY hy).1 with q|q
  ·exact .inl q
  ·exact .inr ⟨q,PySem.W.cellsFrom_some _ _ _ (.inl q)⟩
 refine codeAny_call_function G.depth (g _ _ lk) rfl S.co S.gen rfl (PySem.W.codeRec_of g a0) (p _ _ _ _ ?_);refine wpAny_newFunctionEnv_cells S.kind U λenv C s1 x=>?_;subst C;refine⟨h.keeps x.toInCall.keep,codeAny_func ?_⟩;obtain⟨t,ht,hq⟩:=L A c s H vs Q E (G.deeper _) Y;have I:Inv (cxOf CX P w K mg base N j sc f d A c s H E) [] (start N vs) H s1:=zU S G.hd B M r x;refine zyS (ht [] s1 (start N vs) H _ I hq) (λi s' z=>?_) λe s' z=>z;have fin:∀{m:St} {H':Hp} {v:V} {u:Value},Inv (cxOf CX P w K mg base N j sc f d A c s H E) [] m H' s'->RelV v u->Q v H'->CE c P w H s Q u s' :=
  λ{m H' v u} J a q=>⟨v,H',J.os,J.bare,J.base,J.hok,a,q⟩
 cases i with
 |ret u =>
  obtain⟨v,m,H',J,a,q⟩:=z;exact fin J a q
 |next =>
  obtain⟨m,H',J,q⟩:=z;exact fin (v:=V.non) (u:=Value.none) J rfl q
 |brk =>
  obtain⟨_,_,_,q⟩:=z;exact False.elim q
 |cont =>
  obtain⟨_,_,_,q⟩:=z;exact False.elim q
section
variable{X:Cx}{x:Str}{t:TA}{id T:String}{r:List V->Hp->VK->Prop}
def tCB(r:List V->Hp->VK->Prop)(t:TA):TE:=λσ H Q=>t σ H λvs c=>r vs c Q
theorem kD(l:fV X (.builtin id) r)(U:Gl X x)(m:X.mg x=none)(Y:bootBuiltins x=some (.builtin id))(d:PA X (e::es) t)(n:x ≠ "__name__":=by decide)(J:(x == ("__debug__" : Str))=false:=by decide)
  (he:starEach (e::es) X.env=(false,eval e X.env)::starEach es X.env:=by rfl) (hpl:(backTo pos (starEach es X.env)).any (·.1)=false:=by rfl):PE X (.Call (.Name x p) (e::es) [] pos) (tCB r t):=by
 intro pins s σ H Q I h;refine zxf (oq I U m Y ?_ n J);exact PyProof.Rows.callWith_builtin1 (thnE (d pos pins s σ H _ I h) λus s1 vs c L z q=>l pins s1 σ c vs us Q L z q) he hpl
theorem oE(l:fV X (.type T) r)(U:Gl X x)(m:X.mg x=none)(Y:bootBuiltins x=some (.type T))(d:PA X (e::es) t)(n:x ≠ "__name__":=by decide)(J:(x == ("__debug__" : Str))=false:=by decide)
  (he:starEach (e::es) X.env=(false,eval e X.env)::starEach es X.env:=by rfl) (hpl:(backTo pos (starEach es X.env)).any (·.1)=false:=by rfl):PE X (.Call (.Name x p) (e::es) [] pos) (tCB r t):=by
 intro pins s σ H Q I h;refine zxf (oq I U m Y ?_ n J);exact PyProof.Rows.callWith_type1 (thnE (d pos pins s σ H _ I h) λus s1 vs c L z q=>l pins s1 σ c vs us Q L z q) he hpl
end
end L2
namespace HT
open PySem PyProof.Rows
def lexLt:List Int->List Int->Bool
 |[],[]=>false|[],_::_=>true|_::_,[]=>false|x::a,y::b=>if x=y then lexLt a b else decide (x<y)
theorem lexLt_cons(x y:Int)(xs ys:List Int):lexLt (x::xs) (y::ys)=if x=y then lexLt xs ys else decide (x<y):=rfl
noncomputable def sIx(n d:Nat):Option Int->Nat
 |none=>d|some v=>if v<0 then(v+(n:Int)).toNat else min v.toNat n
theorem sIx_none(n d:Nat):sIx n d none=d:=rfl
theorem sIx_nat(n d k:Nat):sIx n d (some (k:Int))=min k n:=by show (if (k:Int)<0 then((k:Int)+(n:Int)).toNat else min (k:Int).toNat n)=min k n;rw[zzi (by lia),zzM]
end HT
namespace L2
open PySem PySem.Spec PyProof.Rows
variable{A:Around}{E Q:Value->Shared->Prop}{H H':Hp}{T:String}{a b:Addr}{its:List Value}{j t':Nat}{kvs:List (List Key×V)}{u v:Value}{w:World}{x y:V}{xs:List (List Key×Addr×Value)}{α:Type}{σ:St}
variable{X:Cx}{e o:Expr}{pos:Pos}{a:Addr}{pins:List (Addr×Obj)}{σ:St}{H:Hp}
abbrev TO:=St->Hp->(Option Int->Hp->Prop)->Prop
def PO(X:Cx)(e:Option Expr)(t:TO):Prop :=
 ∀(pins:List (Addr×Obj)) (s:Shared) (σ:St) (H:Hp) (Q:Option Int->Hp->Prop),Inv X pins σ H s->t σ H Q ->
  wpAny (model X.prog X.w) X.A (evalPart e X.env) (λu c=>∃o H',Inv X pins σ H' c/\IsPart u o/\Q o H') X.xe s
def FT:TO:=λ_ H Q=>Q none H
def Ky(t:TE):TO:=λσ H Q=>t σ H λx c=>∃i,x=.int i/\Q (some i) c
theorem fW{ns:List Int}:∀{us:List Value},Vals (ns.map V.int) us->IntsAre us ns:=by
 induction ns with
 |nil=>intro us r;rw[zyf]at r;cases r;exact .nil
 |cons n ns J =>
  intro us r;rw[zzh]at r;cases r with
  |cons L c =>
   obtain⟨t,e⟩:=L;subst e;exact .cons n t (J c)
section
variable{te:TE}{lo hi:Option Expr}{tl th:TO}{p2:Pos}
theorem FU:PO X none FT:=by intro pins s σ H Q I h;rw[evalPart_none];exact zzp ⟨none,H,I,.none,h⟩
theorem FV(h:PE X e te):PO X (some e) (Ky te):=by intro pins s σ H Q I d;rw[evalPart_some];refine thn (h pins s σ H _ I d) λu s1 L=>?_;obtain⟨x,c,J,Y,U⟩:=L;obtain⟨i,rfl,q⟩:=U;obtain⟨t,rfl⟩:=Y;exact⟨some i,c,J,.int i t,q⟩
def SlR(X:Cx)(r:V->Option Int->Option Int->Hp->VK->Prop):Prop :=
 ∀(pins:List (Addr×Obj)) (s:Shared) (σ:St) (H:Hp) (x:V) (v vl J:Value) (lo hi:Option Int) (c:Addr) (Q:VK),Inv X pins σ H s->RelV x v->s.heap.IsSliceOf c vl J .none->IsPart vl lo->IsPart J hi->r x lo hi H Q ->
  ∃T id,typeLookup (.type T) "__getitem__" = pure (some (.builtin id))/\s.TypeIs v T/\wpAny (model X.prog X.w) X.A (getItem v (.ref c)) (EP X pins σ Q) X.xe s
def tSl(r:V->Option Int->Option Int->Hp->VK->Prop)(te:TE)(tl th:TO):TE:=λσ H Q=>te σ H λx c=>tl σ c λl d=>th σ d λu g=>r x l u g Q
theorem xx{r:V->Option Int->Option Int->Hp->VK->Prop}(G:SlR X r)(he:PE X e te)(C:PO X lo tl)(N:PO X hi th):PE X (.Subscript e (.Slice lo hi none p2) pos) (tSl r te tl th):=by intro pins s σ H Q I h;refine Subscript_ (thn (he pins s σ H _ I h) λv s1 U=>?_);obtain⟨x,g,Y,r1,o⟩:=U;refine wpAny_Slice (thnE (C pins s1 σ g _ Y o) λJ s2 l i m a y=>thn (N pins s2 σ i _ m y) λL c U=>?_);obtain⟨u,d,n,j,E⟩:=U;rw[evalPart_none];refine zzp ?_;have p:Inv X pins σ d { c with heap:=c.heap.push { cls:=.type "slice",data:=.fields #[J,L,.none] } }:=n.kept (t':=c.toks) λb ob q=>zzf _ q;obtain⟨T,id,z,M,B⟩:=G pins { c with heap:=c.heap.push { cls:=.type "slice",data:=.fields #[J,L,.none] } } σ d x v J L l u c.heap.objs.size Q p r1 (Heap.IsSliceOf.new ..) a j E;show wpAny (model X.prog X.w) X.A (subscriptTail e (.Slice lo hi none p2) v (.ref c.heap.objs.size)) (EP X pins σ Q) X.xe { c with heap:=c.heap.push { cls:=.type "slice",data:=.fields #[J,L,.none] } };exact tail_any (ops:=[.ref c.heap.objs.size,v]) M z B (by with_unfolding_all rfl)
noncomputable def cutV(xs:List V)(lo hi:Option Int):List V:=(xs.drop (HT.sIx xs.length 0 lo)).take (HT.sIx xs.length xs.length hi - HT.sIx xs.length 0 lo)
theorem wf(xs:List V)(lo hi:Option Int):(cutV xs lo hi).length <= xs.length:=by unfold cutV;rw[zyl,zyO];lia
end
noncomputable def ixN(n:Nat)(i:Int):Option Nat:=if 0 <= i then(if i<n then some i.toNat else none) else if -(n:Int) <= i then some (i+n).toNat else none
noncomputable def atI{α:Type}(xs:List α)(i:Int):Option α:=(ixN xs.length i).bind λj=>xs[j]?
theorem zV{n:Nat}{i:Int}(h:ixN n i=some j):seqIndex? i n=some j/\j<n/\-(n:Int) <= i/\i<n:=by
 unfold ixN at h;by_cases d:0 <= i
 ·rw[zzn d]at h;by_cases c:i<n
  ·rw[zzn c]at h;have e:i.toNat=j:=zzV h;exact⟨by rw[seqIndex_of d c,e],by lia,by lia,c⟩
  ·rw[zzi c]at h;cases h
 ·rw[zzi d]at h;by_cases c : -(n:Int) <= i
  ·rw[zzn c]at h;have e:(i+n).toNat=j:=zzV h;exact⟨by rw[seqIndex_neg (by lia) c,e],by lia,c,by lia⟩
  ·rw[zzi c]at h;cases h
theorem oF{xs:List α}{i:Int}{v:α}(h:atI xs i=some v):∃j,seqIndex? i xs.length=some j/\xs[j]? = some v/\j<xs.length/\-(xs.length:Int) <= i/\i<xs.length:=by
 unfold atI at h;cases e:ixN xs.length i with
 |none=>rw[e]at h;cases h
 |some j =>
  rw[e]at h;obtain⟨c,d,g,J⟩:=zV e;exact⟨j,c,h,d,g,J⟩
theorem wg{xs:List α}{j:Nat}{v:α}(h:xs[j]? = some v):atI xs (j:Int)=some v:=by
 have hj:j<xs.length:=(zzx.mp h).1;have e:ixN xs.length (j:Int)=some j:=by unfold ixN;rw[zzn (by lia),zzn (by lia)];simp
 unfold atI;rw[e];exact h
def lQ(b:Expr):Prop:=∀o i,subscripted b false o i=operate [o,i] (getItem o i)
def IxR(X:Cx)(r:R2):Prop :=
 ∀(value slice:Expr) (pins:List (Addr×Obj)) (s:Shared) (σ:St) (H:Hp) (x y:V) (v u:Value) (Q:VK),Inv X pins σ H s->RelV x v->RelV y u->r x y H Q ->
  subscripted slice false v u=operate [v,u] (getItem v u)->wpAny (model X.prog X.w) X.A (subscriptTail value slice v u) (EP X pins σ Q) X.xe s
def MtR(X:Cx)(id:String)(r:V->List V->Hp->VK->Prop):Prop :=
 ∀(pins:List (Addr×Obj)) (s:Shared) (σ:St) (H:Hp) (x:V) (xs:List V) (v:Value) (c:List Value) (Q:VK),Inv X pins σ H s->RelV x v->Vals xs c->r x xs H Q ->
  wpAny (model X.prog X.w) X.A (call (.builtin id) (v::c)) (EP X pins σ Q) X.xe s
section
variable{a b:Expr}{ta tb:TE}
theorem IxR.or{r d:R2}(h:IxR X r)(h':IxR X d):IxR X (λx y H Q=>r x y H Q∨d x y H Q):=by
 intro value slice pins s σ H x y v u Q I J L q c;rcases q with q|q
 ·exact h value slice pins s σ H x y v u Q I J L q c
 ·exact h' value slice pins s σ H x y v u Q I J L q c
theorem uA{r:R2}(U:IxR X r)(d:PE X a ta)(L:PE X b tb)(hs:lQ b):PE X (.Subscript a b pos) (tOp r ta tb):=by intro pins s σ H Q I h;exact Subscript_ (binT d L I h λv u i x y c J Y g q=>U a b pins i σ c x y v u Q J Y g q (hs _ _))
def rIxL(K:zvd):R2:=λx y H Q=>∃p xs i v,x=.ref p/\y=.int i/\SqL K H p xs/\atI xs i=some v/\Q v H
def rIxT(K:zvd):R2:=λx y H Q=>∃p xs i v,x=.ref p/\y=.int i/\SqT K H p xs/\atI xs i=some v/\Q v H
def rIxS:R2:=λx y H Q=>∃z i c,x=.str z/\y=.int i/\z.length <= sizeLine/\atI z.cps.toList i=some c/\Q (.str ⟨#[c]⟩) H
theorem sk:IxR X (rIxL X.K):=by
 intro value slice pins s σ H x y v u Q I M N h l;obtain⟨p,xs,i,z,rfl,rfl,G,B,q⟩:=h;cases M;obtain⟨t,rfl⟩:=N;obtain⟨its,r,d,hz⟩:=I.list G;obtain⟨j,c,m,h3,Y,n⟩:=oF B;obtain⟨w,U,L⟩:=r.get m;have C:=r.length;have hn:=oB;have fin:EP X pins σ Q w s:=⟨z,H,I,L,q⟩;by_cases g:0 <= i
 ·have J:i.toNat=j:=by
   rw[seqIndex_of g n]at c;exact zzV c
  exact item_listR d.isList g (by lia) (by rw[J];simpa using U) fin l
 ·have J:(i+(its.toArray.size:Int)).toNat=j:=by
   rw[seqIndex_neg (by lia) Y]at c;rw[zzD,←C];exact zzV c
  exact zwz (x:=w) d.isList.typeIs slot_list_getitem.lookup
   (wpAny_getItem_list_neg (Q:=λr a=>r=w/\EP X pins σ Q r a) d.isList (by lia) (by rw[zzD]<;>lia) (by lia) (by rw[J];simpa using U) ⟨rfl,fin⟩) l
theorem Io:IxR X (rIxT X.K):=by
 intro value slice pins s σ H x y v u Q I Y B h n;obtain⟨p,xs,i,z,rfl,rfl,U,l,q⟩:=h;cases Y;obtain⟨t,rfl⟩:=B;obtain⟨its,r,c,hz⟩:=I.tuple U;obtain⟨j,d,g,h3,h4,h5⟩:=oF l;obtain⟨w,L,J⟩:=r.get g;have m:=r.length;have hn:=oB;have fin:EP X pins σ Q w s:=⟨z,H,I,J,q⟩;exact zwz (x:=w) c.typeIs slot_tuple_getitem.lookup
  (getItem_tuple (j:=j) (Q:=λr C=>r=w/\EP X pins σ Q r C) c (by lia) (by lia) (by rw[zzD,←m];exact d) (by simpa using L) ⟨rfl,fin⟩) n
theorem Ip:IxR X rIxS:=by
 intro value slice pins s σ H x y v u Q I U Y h r;obtain⟨z,i,c,rfl,rfl,hz,n,q⟩:=h;obtain⟨t,rfl⟩:=U;obtain⟨t',rfl⟩:=Y;obtain⟨j,d,m,h3,J,L⟩:=oF n;have p:z.cps.toList.length=z.length:=by simp[Str.length]
 rw[p]at d J L;have hn:=oB;exact tail_any (zwJ s z t) slot_str_getitem.lookup (getItem_str (c:=c) (by have g:decide (i < -(2^63:Int))=false:=zzl (by lia);have l:decide (i ≥ 2^63)=false:=zzl (by lia);rw[g,l,Bool.or_false]) (by rw[d];simpa using m) ⟨.str ⟨#[c]⟩,H,I.tok _,⟨_,rfl⟩,q⟩) r
theorem yQ(its:List Value)(n j:Nat)(u:Value):Obj.mapSeq (·.setIfInBounds j u) { cls:=.type "list",data:=.seq its.toArray n }={ cls:=.type "list",data:=.seq (its.set j u).toArray n }:=by simp[Obj.mapSeq]
theorem Inv.lst{pins:List (Addr×Obj)}{σ:St}{H:Hp}{s:Shared}{p:Addr}{xs:List V}(I:Inv X pins σ H s)(h:H p=some (.lst xs)) :
  ∃(its:List Value) (n:Nat),Vals xs its/\s.heap.get? p=some { cls:=.type "list",data:=.seq its.toArray n }/\xs.length <= sizeLine:=by
 obtain⟨z,its,n,r,e⟩:=I.hok p _ h;exact⟨its,n,r,e,z⟩
theorem Inv.lstUpd{pins:List (Addr×Obj)}{s:Shared}{p:Addr}{xs ys:List V}{its':List Value}{n:Nat}{f:Obj->Obj}(I:Inv X pins σ H s)(h:H p=some (.lst xs))(U:s.heap.get? p=some { cls:=.type "list",data:=.seq its.toArray n })(J:f { cls:=.type "list",data:=.seq its.toArray n }={ cls:=.type "list",data:=.seq its'.toArray t' })(r:Vals ys its')(hz:ys.length <= sizeLine)(t:Nat) :
  Inv X pins σ (upd H p (.lst ys)) { s with heap:=s.heap.update p f,toks:=t }:=by
 have e:(s.heap.update p f).get? p=some { cls:=.type "list",data:=.seq its'.toArray t' }:=by rw[zyE f U (by rw[J]<;>rfl),J]
 refine I.write (x:=p) (e:=p) (by rw[h];trivial) (.inl rfl) (λb u L q=>(zxU _ _ (Ne.symm L)).trans q) ⟨_,e⟩ ?_;exact⟨hz,its',t',r,e⟩
def Kz:V->V->V->Hp->(Hp->Prop)->Prop:=λo i v H Q=>∃p xs k j,o=.ref p/\i=.int k/\H p=some (.lst xs)/\ixN xs.length k=some j/\Q (upd H p (.lst (xs.set j v)))
theorem sr:PSet X Kz:=by
 intro pins s σ H o i v ov iv u Q I G C M h;obtain⟨p,xs,k,j,rfl,rfl,Y,z,q⟩:=h;cases G;obtain⟨t,rfl⟩:=C;obtain⟨its,n,r,J,B⟩:=I.lst Y;obtain⟨c,h2,m,U⟩:=zV z;have g:=r.length;have hn:=oB;have L:Inv X pins σ (upd H p (.lst (xs.set j v))) { s with heap:=s.heap.update p (Obj.mapSeq (·.setIfInBounds j u)) } :=
  I.lstUpd Y J (yQ its n j u) (r.set M j) (by rw[List.length_set];exact B) s.toks
 by_cases l:0 <= k
 ·have d:k.toNat=j:=by
   rw[seqIndex_of l U]at c;exact zzV c
  exact PySem.W.ki_setAt J l (by lia) (by rw[zzD,←g];exact U) (by rw[d];exact⟨_,L,q⟩)
 ·have d:(k+(its.toArray.size:Int)).toNat=j:=by
   rw[seqIndex_neg (by lia) m]at c;rw[zzD,←g];exact zzV c
  exact PySem.W.ki_setBack J (by lia) (by rw[zzD,←g];exact m) (by lia) (by rw[d];exact⟨_,L,q⟩)
theorem uB(lo c:Option Int)(n:Nat):(sliceBounds lo c none n).1=((HT.sIx n 0 lo:Nat):Int)/\(sliceBounds lo c none n).2.1=((HT.sIx n n c:Nat):Int)/\(sliceBounds lo c none n).2.2=1:=by
 refine⟨?_,?_,rfl⟩
 ·cases lo with
  |none=>simp[sliceBounds,HT.sIx]|some i =>
   simp only[sliceBounds,HT.sIx,Option.getD_none,show (1:Int)>0 by decide,if_true];by_cases h:i<0
   ·simp only[h,if_true]<;>lia
   ·simp only[h,zwj]<;>lia
 ·cases c with
  |none=>simp[sliceBounds,HT.sIx]|some i =>
   simp only[sliceBounds,HT.sIx,Option.getD_none,show (1:Int)>0 by decide,if_true];by_cases h:i<0
   ·simp only[h,if_true]<;>lia
   ·simp only[h,zwj]<;>lia
theorem ss(its:List Value)(lo c:Option Int):slicePick its.toArray lo c none=((its.drop (HT.sIx its.length 0 lo)).take (HT.sIx its.length its.length c - HT.sIx its.length 0 lo)).toArray:=by obtain⟨d,g,h⟩:=uB lo c its.toArray.size;unfold slicePick;rw[d,g,h];simp only[sliceRange_one,pick_run,zzD]<;>rfl
def rSlL(K:zvd):V->Option Int->Option Int->Hp->VK->Prop:=λx lo c H Q=>∃a xs,x=.ref a/\SqL K H a xs/\∀p,H p=none->Q (.ref p) (upd H p (.lst (cutV xs lo c)))
theorem FW:SlR X (rSlL X.K):=by intro pins s σ H x v vl vu lo c sl Q I l d i Y h;obtain⟨a,xs,rfl,U,q⟩:=h;cases l;obtain⟨its,r,L,g⟩:=I.list U;have J:=r.length;refine⟨"list",_,slot_list_getitem.lookup,L.isList.typeIs,?_⟩;refine wpAny_getItem_list_slice L.isList d i Y .none (by simp) ?_ (by rw[zzD]<;>lia);rw[ss,←J];refine⟨.ref s.heap.objs.size,_,I.laid (t':=s.toks) (o:=.lst (cutV xs lo c)) (λb ob q=>zzf _ q) (zzr _) ?_,rfl,q _ (I.hok.fresh (zzr _))⟩;exact⟨zzq (wf xs lo c) g,_,0,(r.drop (HT.sIx xs.length 0 lo)).take (HT.sIx xs.length xs.length c - HT.sIx xs.length 0 lo),zzy _ rfl⟩
def hZ:V->Bool
 |.non=>true|.bl _=>true|.int _=>true|.str _=>true|_=>false
noncomputable def eqV:V->V->Bool
 |.non,.non=>true|.bl a,.bl b=>a == b|.bl a,.int b=>(if a then 1 else 0) == b|.int a,.bl b=>a == (if b then 1 else 0)|.int a,.int b=>a == b|.str a,.str b=>a == b|_,_=>false
theorem Iq{s:Shared}(U:RelV y u)(J:RelV x v)(Y:hZ y=true)(L:hZ x=true):SeqAt.EqAt A s u v (eqV y x):=by
 cases y with
 |non =>
  cases U;cases x with
  |non=>cases J;exact SeqAt.EqAt.same _
  |bl b=>cases J;exact SeqAt.EqAt.none_bool b
  |int b=>obtain⟨t,rfl⟩:=J;exact SeqAt.EqAt.none_int b t
  |str b=>obtain⟨t,rfl⟩:=J;exact SeqAt.EqAt.none_str b t
  |_=>exact absurd (show false=true from L) zzJ
 |bl a =>
  cases U;cases x with
  |non=>cases J;exact SeqAt.EqAt.bool_none a
  |bl b=>cases J;exact SeqAt.EqAt.bool_bool a b
  |int b=>obtain⟨t,rfl⟩:=J;exact SeqAt.EqAt.bool_int a b t
  |str b=>obtain⟨t,rfl⟩:=J;exact SeqAt.EqAt.bool_str a b t
  |_=>exact absurd (show false=true from L) zzJ
 |int a =>
  obtain⟨t',rfl⟩:=U;cases x with
  |non=>cases J;exact SeqAt.EqAt.int_none a t'
  |bl b=>cases J;exact SeqAt.EqAt.int_bool a t' b
  |int b=>obtain⟨t,rfl⟩:=J;exact SeqAt.EqAt.int_int a t' b t
  |str b=>obtain⟨t,rfl⟩:=J;exact SeqAt.EqAt.int_str a t' b t
  |_=>exact absurd (show false=true from L) zzJ
 |str a =>
  obtain⟨t',rfl⟩:=U;cases x with
  |non=>cases J;exact SeqAt.EqAt.str_none a t'
  |bl b=>cases J;exact SeqAt.EqAt.str_bool a t' b
  |int b=>obtain⟨t,rfl⟩:=J;exact SeqAt.EqAt.str_int a t' b t
  |str b=>obtain⟨t,rfl⟩:=J;exact SeqAt.EqAt.str_str a t' b t
  |_=>exact absurd (show false=true from L) zzJ
 |_=>exact absurd (show false=true from Y) zzJ
noncomputable def eqU(x:V)(u:Value):Bool:=match u with
 |.none=>eqV .non x|.bool b=>eqV (.bl b) x|.int i _=>eqV (.int i) x|.str z _=>eqV (.str z) x|_=>false
theorem zW(r:RelV y u)(f:hZ y=true):eqU x u=eqV y x:=by
 cases y with
 |non=>cases r;rfl
 |bl b=>cases r;rfl
 |int i=>obtain⟨t,rfl⟩:=r;rfl
 |str z=>obtain⟨t,rfl⟩:=r;rfl
 |_=>exact absurd (show false=true from f) zzJ
theorem su:∀{xs:List V} {us:List Value},Vals xs us->xs.all hZ=true->us.any (eqU x)=xs.any λy=>eqV y x:=by
 intro xs us h f
 induction h with
 |nil=>rfl|cons r t J =>
  rw[zvb,zzX]at f;rw[zwm,zwm,zW r f.1,J f.2]
theorem kE{s:Shared}(Y:RelV x v)(L:hZ x=true):∀{xs:List V} {us:List Value},Vals xs us->xs.all hZ=true->∀u∈us,SeqAt.EqAt A s u v (eqU x u):=by
 intro xs us h f u' J
 induction h with
 |nil=>cases J
 |cons r t U =>
  rw[zvb,zzX]at f;rcases zzk.mp J with rfl|J
  ·rw[zW r f.1];exact Iq r Y f.1 L
  ·exact U f.2 J
noncomputable def inV(x:V)(xs:List V):Bool:=xs.any λy=>eqV y x
def rIn(K:zvd)(neg:Bool):R2:=λx y H Q=>∃p xs,y=.ref p/\(SqL K H p xs∨SqT K H p xs)/\hZ x=true/\xs.all hZ=true/\Q (.bl (if neg then !inV x xs else inV x xs)) H
theorem zX:OpR X (compareOp .In) (rIn X.K false):=by
 intro pins s σ H x y v u Q I U Y h;obtain⟨p,xs,rfl,J,L,fs,q⟩:=h;cases Y;rcases J with J|J
 ·obtain⟨its,r,d,g⟩:=I.list J;refine SeqAt.in_listAt (eqU x) d.isList (λw c=>kE U L r fs w (by simpa using c)) ⟨.bl _,H,I,rfl,?_⟩;rw[show its.toArray.any (eqU x)=its.any (eqU x) by simp,su r fs];exact q
 ·obtain⟨its,r,d,g⟩:=I.tuple J;refine SeqAt.in_tupleAt (eqU x) d (λw c=>kE U L r fs w (by simpa using c)) ⟨.bl _,H,I,rfl,?_⟩;rw[show its.toArray.any (eqU x)=its.any (eqU x) by simp,su r fs];exact q
theorem uC:OpR X (compareOp .NotIn) (rIn X.K true):=by
 intro pins s σ H x y v u Q I U Y h;obtain⟨p,xs,rfl,J,L,fs,q⟩:=h;cases Y;rcases J with J|J
 ·obtain⟨its,r,d,g⟩:=I.list J;refine SeqAt.notIn_listAt (eqU x) d.isList (λw c=>kE U L r fs w (by simpa using c)) ⟨.bl _,H,I,rfl,?_⟩;rw[show its.toArray.any (eqU x)=its.any (eqU x) by simp,su r fs];exact q
 ·obtain⟨its,r,d,g⟩:=I.tuple J;refine SeqAt.notIn_tupleAt (eqU x) d (λw c=>kE U L r fs w (by simpa using c)) ⟨.bl _,H,I,rfl,?_⟩;rw[show its.toArray.any (eqU x)=its.any (eqU x) by simp,su r fs];exact q
theorem cW:fV X (.builtin "len") (λxs H Q=>∃p ys,xs=[.ref p]/\(SqL X.K H p ys∨SqT X.K H p ys)/\Q (.int ys.length) H):=by
 intro pins s σ H xs us Q I r h;obtain⟨p,ys,rfl,L,q⟩:=h;obtain⟨u,rfl,U⟩:=nF r;cases U;have hn:=oB;rcases L with L|L
 ·obtain⟨its,d,c,g⟩:=I.list L;have J:=d.length;exact Calls.call_len_list c.isList (by simp only[zzD]<;>lia) ⟨.int ys.length,H,I.tok _,⟨s.toks+1,by rw[zzD,J]⟩,q⟩
 ·obtain⟨its,d,c,g⟩:=I.tuple L;have J:=d.length;exact len_tuple c (by simp only[zzD]<;>lia) ⟨.int ys.length,H,I.tok _,⟨s.toks+1,by rw[zzD,J]⟩,q⟩
theorem uD:fV X (.builtin "len") (λxs H Q=>∃z,xs=[.str z]/\z.length <= sizeLine/\Q (.int z.length) H):=by intro pins s σ H xs us Q I r h;obtain⟨z,rfl,hz,q⟩:=h;obtain⟨u,rfl,t,rfl⟩:=nF r;have hn:=oB;exact len_str (by lia) ⟨.int z.length,H,I.tok _,⟨_,rfl⟩,q⟩
theorem uE:fV X (.type "list") (λxs H Q=>∃p ys,xs=[.ref p]/\(SqL X.K H p ys∨SqT X.K H p ys)/\∀l,H l=none->Q (.ref l) (upd H l (.lst ys))):=by
 intro pins s σ H xs us Q I r h;obtain⟨p,ys,rfl,L,q⟩:=h;obtain⟨u,rfl,Y⟩:=nF r;cases Y;have fin:∀(its:List Value),Vals ys its->ys.length <= sizeLine->∀(c:Heap) (d:Nat),(∀b C,s.heap.get? b=some C->c.get? b=some C) ->
   c.get? s.heap.objs.size=some { cls:=.type "list",dict:=none,data:=.seq its.toArray d,slots:=#[] }->EP X pins σ Q (.ref s.heap.objs.size) { s with heap:=c }:=λits g i c d m e =>
  ⟨.ref s.heap.objs.size,_,I.laid (t':=s.toks) m (zzr _) (show ObjOk X.prog X.w _ c _ (.lst ys) from⟨i,its,d,g,e⟩),rfl,q _ (I.hok.fresh (zzr _))⟩
 rcases L with L|L
 ·obtain⟨its,g,B,i⟩:=I.list L;have J:=g.length;obtain⟨o,U,z,n,hd⟩:=B.isList;exact call_list_seq p (.inl rfl) U z hd (λc d m e=>fin its g i c d m e) (by simp only[zzD]<;>lia)
 ·obtain⟨its,g,B,i⟩:=I.tuple L;have J:=g.length;obtain⟨o,U,z,n,hd⟩:=B;exact call_list_seq p (.inr rfl) U z hd (λc d m e=>fin its g i c d m e) (by simp only[zzD]<;>lia)
theorem sv:fV X (.type "tuple") (λxs H Q=>∃p ys,xs=[.ref p]/\((SqL X.K H p ys/\∀l,H l=none->Q (.ref l) (upd H l (.tup ys)))∨(SqT X.K H p ys/\Q (.ref p) H))):=by
 intro pins s σ H xs us Q I r h;obtain⟨p,ys,rfl,h⟩:=h;obtain⟨u,rfl,Y⟩:=nF r;cases Y;rcases h with ⟨J,q⟩|⟨J,q⟩
 ·obtain⟨its,g,d,i⟩:=I.list J;have hlen:=g.length;refine call_tuple_list d.isList (λc m=>?_) (by simp only[zzD]<;>lia);have L:Inv X pins σ H { s with heap:=c }:=I.kept (t':=s.toks) m;have U:Inv X pins σ (upd H c.objs.size (.tup ys)) { s with heap:=c.push { cls:=.type "tuple",data:=.seq its.toArray } } :=
   L.laid (t':=s.toks) (λb o e=>zzf _ e) (zzr _) (show ObjOk X.prog X.w _ _ _ (.tup ys) from⟨⟨i,.inl ⟨_,zzy _ rfl,rfl⟩⟩,its,g,IsTup.new _ _⟩)
  exact⟨.ref c.objs.size,_,U,rfl,q _ (L.hok.fresh (zzr _))⟩
 ·obtain⟨its,g,d,i⟩:=I.tuple J;exact call_tuple_same d ⟨.ref p,H,I,rfl,q⟩
def tyV(K:zvd)(T:String)(x:V)(H:Hp):Prop:=match x with
 |.str _=>T = "str"|.int _=>T = "int"| .ref p=>(T = "list" /\ ∃xs,SqL K H p xs)∨(T = "tuple" /\ ∃o,K.lookup p=some o/\o.cls=.type "tuple" /\ o.dict=none) ∨
   (T = "dict" /\ ((∃kvs,H p=some (.dK kvs))∨∃kvs,H p=some (.dT kvs)))∨(T = "set" /\ ∃S n,H p=some (.set S n))
 |_=>False
theorem Ir{pins:List (Addr×Obj)}{s:Shared}(I:Inv X pins σ H s)(r:RelV x v)(ty:tyV X.K T x H) :
  s.TypeIs v T/\∀a,v=.ref a->∃ob,s.heap.get? a=some ob/\ob.dict=none:=by
 cases x with
 |str z =>
  obtain⟨t,rfl⟩:=r;cases (show T = "str" from ty);exact⟨zwJ s z t,λ_ e=>nomatch e⟩
 |int i =>
  obtain⟨t,rfl⟩:=r;cases (show T = "int" from ty);exact⟨typeIs_int s i t,λ_ e=>nomatch e⟩
 |ref p =>
  cases r;rcases ty with ⟨rfl,xs,J⟩|⟨rfl,o,d,m,hd⟩|⟨rfl,d⟩|⟨rfl,S,n,d⟩
  ·obtain⟨its,_,l,_⟩:=I.list J;refine⟨l.isList.typeIs,λa e=>?_⟩;cases e;obtain⟨o,n,e,c,hd,_⟩:=l;exact⟨o,e,hd⟩
  ·refine⟨⟨o,I.kIn p o d,m⟩,λa e=>?_⟩;cases e;exact⟨o,I.kIn _ o d,hd⟩
  ·have z:∃o,s.heap.get? p=some o/\o.ExactDict:=by
    rcases d with ⟨kvs,d⟩|⟨kvs,d⟩
    ·obtain⟨_,_,_,_,o,_,_,e,g,_⟩:=I.hok p _ d;exact⟨o,e,g⟩
    ·obtain⟨_,_,_,_,o,_,_,e,g,_⟩:=I.hok p _ d;exact⟨o,e,g⟩
   obtain⟨o,e,g⟩:=z;refine⟨⟨o,e,g.1⟩,λa h=>?_⟩;cases h;exact⟨o,e,g.2.1⟩
  ·obtain⟨o,_,_,_,e,g,_⟩:=I.hok p _ d;refine⟨⟨o,e,g.1⟩,λa h=>?_⟩;cases h;exact⟨o,e,g.2.1⟩
 |_=>exact False.elim ty
def tBM(K:zvd)(T:String)(r:V->List V->Hp->VK->Prop)(to:TE)(t:TA):TE:=λσ H Q=>to σ H λx c=>tyV K T x c/\t σ c λxs d=>r x xs d Q
variable{es:List Expr}{to:TE}{t:TA}{name:Str}{apos cpos:Pos}{T id:String}{r:V->List V->Hp->VK->Prop}
theorem uF(C:PlainAttrs T)(slot:Slot T name id)(a0:typeOf (.builtin id)=pure (.type "method_descriptor"))(z:MtR X id r)(B:PE X o to)(q:PA X (e::es) t)
  (L:attributeBase o name X.env (eval o X.env)=eval o X.env:=by rfl)
  (Y:((backTo cpos (starEach (e::es) X.env)).all (λx=>!x.1) && (backToKw cpos (keywordEach [] X.env)).all (λx=>x.1.isSome)
   && decide ((e::es).length+([]:List Keyword).length+(if ([]:List Keyword).isEmpty then 0 else 1)<30))=true:=by rfl)
  (U:(apos.endLine == cpos.line)=true:=by rfl) (hs:starEach (e::es) X.env=(false,eval e X.env)::starEach es X.env:=by rfl) (J:(backTo cpos (starEach es X.env)).any (·.1)=false:=by rfl) :
  PE X (.Call (.Attribute o name apos) (e::es) [] cpos) (tBM X.K T r to t):=by
 intro pins s σ H Q I h;refine wpAny_Call_method_late L Y U rfl (thn (B pins s σ H _ I h) λv b G=>?_);obtain⟨x,i,c,g,ty,M⟩:=G;obtain⟨n,p⟩:=Ir c g ty;refine⟨T,id,C,slot,a0,n,p,?_⟩;have d:=q cpos pins b σ i _ c M;rw[hs]at d ⊢;refine Calls.callWith_builtin (by show (false || (backTo cpos (starEach es X.env)).any (·.1))=false;rw[J]<;>rfl) (Calls.evalArgs_plain ?_);exact thn d λu j ⟨w,l,m,a,N⟩=>z pins j σ l x w v u Q m g a N
end
def MtM(X:Cx)(id:String)(r:V->List V->Hp->VK->Prop):Prop :=
 ∀(pins:List (Addr×Obj)) (s:Shared) (σ:St) (H:Hp) (x:V) (xs:List V) (v:Value) (c:List Value) (Q:VK),Inv X pins σ H s->RelV x v->Vals xs c->r x xs H Q ->
  wpAny (model X.prog X.w) X.A (call (.builtin id) (v::c)) (EP X pins σ Q) X.xe s
theorem Vals.one:∀{x:V} {us:List Value},Vals [x] us->∃u,us=[u]/\RelV x u:=by rintro _ _ (_|⟨r,⟨⟩⟩);exact⟨_,rfl,r⟩
theorem Vals.two:∀{x y:V} {us:List Value},Vals [x,y] us->∃u v,us=[u,v]/\RelV x u/\RelV y v:=by rintro _ _ _ (_|⟨r,_|⟨q,⟨⟩⟩⟩);exact⟨_,_,rfl,r,q⟩
theorem Vals.eraseIdx:∀{xs:List V} {us:List Value} (i:Nat),Vals xs us->Vals (xs.eraseIdx i) (us.eraseIdx i)
 |_,_,_,.nil=>.nil|_,_,0,.cons _ t=>t|_,_,i+1,.cons r t=>.cons r (Vals.eraseIdx i t)
theorem Vals.rep{xs:List V}{us:List Value}(h:Vals xs us):∀k:Nat,Vals (List.replicate k xs).flatten (List.replicate k us).flatten
 |0=>.nil|k+1=>by rw[zyC,zyC,zxk,zxk];exact Vals.append h (Vals.rep h k)
theorem uG{α:Type}:∀(l:List α) (i:Nat),(l.eraseIdx i).length <= l.length
 |[],_=>zzr _|_::_,0=>zxH _|_::r,i+1=>Nat.succ_le_succ (uG r i)
theorem uH(its:List Value):∀(k:Nat) (J:List Value),
  List.foldl (λL U=>L++U) J.toArray (List.replicate k its.toArray)=(J++(List.replicate k its).flatten).toArray
 |0,J=>by simp
 |k+1,J=>by
  have e:J.toArray++its.toArray=(J++its).toArray:=by simp
  have c:(J++its)++(List.replicate k its).flatten=J++(List.replicate (k+1) its).flatten:=by rw[zyC,zxk,zzO]
  rw[←c,←uH its k (J++its),←e,zyC,zwq]
section
variable{s:Shared}{l:Addr}{xs ys:List V}
theorem Inv.lset{its':List Value}{n:Nat}{f:Array Value->Array Value}(I:Inv X pins σ H s)(J:H l=some (.lst xs))(e:s.heap.get? l=some { cls:=.type "list",data:=.seq its.toArray n })(U:f its.toArray=its'.toArray)(c:Vals ys its')(hz:ys.length <= sizeLine) :
  Inv X pins σ (upd H l (.lst ys)) { s with heap:=s.heap.update l (Obj.mapSeq f),toks:=t' }:=by
 have q:=PySem.IsL.update e f;rw[U]at q;refine I.write (x:=l) (e:=l) (by rw[J];exact trivial) (.inl rfl) (λb' u L Y=>(zxU s.heap (Obj.mapSeq f) (Ne.symm L)).trans Y) ⟨_,q⟩ ?_;exact⟨hz,its',_,c,q⟩
theorem Inv.lnew(I:Inv X pins σ H s)(J:Vals ys its)(hz:ys.length <= sizeLine) :
  Inv X pins σ (upd H s.heap.objs.size (.lst ys)) { s with heap:=s.heap.push { cls:=.type "list",data:=.seq its.toArray },toks:=t' } :=
 I.laid (λ_ _ q=>zzf _ q) (zzr _) ⟨hz,its,0,J,zzy _ rfl⟩
theorem Inv.fresh(I:Inv X pins σ H s):H s.heap.objs.size=none:=I.hok.fresh (zzr _)
theorem Inv.lstM(I:Inv X pins σ H s)(J:H l=some (.lst xs)):xs.length <= sizeLine/\∃(its:List Value) (n:Nat),Vals xs its/\xs.length=its.length/\s.heap.get? l=some { cls:=.type "list",data:=.seq its.toArray n }:=by obtain⟨z,its,n,r,e⟩:=I.hok l _ J;exact⟨z,its,n,r,r.length,e⟩
theorem CS{n:Nat}(h:n <= sizeLine):Builtin.List.listTooLong n=false:=by unfold Builtin.List.listTooLong;exact zzl (by lia)
end
def zY:V->List V->Hp->VK->Prop:=λx c H Q=>∃l xs y,x=.ref l/\c=[y]/\H l=some (.lst xs)/\xs.length<sizeLine/\Q .non (upd H l (.lst (xs++[y])))
theorem oG:MtM X "list.append" zY:=by intro pins s σ H x vs v us Q I Y U h;obtain⟨l,xs,y,rfl,rfl,J,hz,q⟩:=h;cases Y;obtain⟨u,rfl,L⟩:=U.one;obtain⟨z,its,n,r,hl,e⟩:=I.lstM J;refine zxN F.slot_list_append ⟨_,e,rfl⟩ F.entry_list_append (F.args_list_append_2 _ _) (PySem.list_append l its.toArray n u (by rw[zzD];lia)) ⟨e,?_⟩;refine⟨.non,_,I.lset (its':=its++[u]) J e (by simp) (r.append (.cons L .nil)) ?_,rfl,q⟩;rw[zzd,zyF];lia
def ED:V->List V->Hp->VK->Prop:=λx c H Q=>∃l xs i k y,x=.ref l/\c=[.int i]/\H l=some (.lst xs)/\-(2^63) <= i/\i<2^63/\seqIndex? i xs.length=some k/\xs[k]? = some y/\Q y (upd H l (.lst (xs.eraseIdx k)))
theorem CT:MtM X "list.pop" ED:=by
 intro pins s σ H x vs v us Q I C B h;obtain⟨l,xs,i,k,y,rfl,rfl,L,c,d,g,U,q⟩:=h;cases C;obtain⟨u,rfl,Y⟩:=B.one;obtain⟨t,rfl⟩:=Y;obtain⟨z,its,n,r,m,e⟩:=I.lstM L;obtain⟨w,p,J⟩:=r.get U;refine zxN F.slot_list_pop ⟨_,e,rfl⟩ F.entry_list_pop (F.args_list_pop_2 _ _)
  (MeetsSeq.list_pop_at l its.toArray n i t k w (fitsIndex_both c d) (by rw[zzD,←m];exact g) (by rw[←zyN];exact p) (by rw[zzD];lia)) ⟨e,?_⟩
 refine⟨y,_,I.lset (its':=its.eraseIdx k) L e ?_ (r.eraseIdx k) ?_,J,q⟩
 ·show its.toArray.eraseIdxIfInBounds k=(its.eraseIdx k).toArray;rw[List.eraseIdxIfInBounds_toArray]
 ·have:=uG xs k;lia
def rCat:R2:=λx y H Q=>∃l b xs c,x=.ref l/\y=.ref b/\H l=some (.lst xs)/\H b=some (.lst c)/\xs.length+c.length <= sizeLine/\∀p,H p=none->Q (.ref p) (upd H p (.lst (xs++c)))
theorem Iu:OpR X (binaryOp .Add) rCat:=by
 intro pins s σ H x y v u Q I Y i h;obtain⟨l,b,xs,zs,rfl,rfl,U,L,hz,q⟩:=h;cases Y;cases i;obtain⟨z,its,n,r,hl,e⟩:=I.lstM U;obtain⟨z2,J,n2,g,hl2,c⟩:=I.lstM L;refine PySem.P.add_list e c ?_ (by rw[zzD,zzD];lia);have d:its.toArray++J.toArray=(its++J).toArray:=by simp
 rw[d];exact⟨.ref _,_,I.lnew (t':=s.toks) (r.append g) (by rw[zzd];lia),rfl,q _ I.fresh⟩
def rRep:R2:=λx y H Q=>∃l k xs,x=.ref l/\y=.int k/\H l=some (.lst xs)/\-(2^63) <= k/\k<2^63/\xs.length*k.toNat <= sizeLine /\
 ∀p,H p=none->Q (.ref p) (upd H p (.lst (List.replicate k.toNat xs).flatten))
theorem FX(xs:List α)(k:Nat):(List.replicate k xs).flatten.length=k*xs.length:=by
 induction k with
 |zero=>simp|succ k J=>rw[zyC,zxk,zzd,J,Nat.succ_mul,Nat.add_comm]
theorem Iv:OpR X (binaryOp .Mult) rRep:=by
 intro pins s σ H x y v u Q I b j h;obtain⟨l,k,xs,rfl,rfl,M,C,G,g,q⟩:=h;cases b;obtain⟨t,rfl⟩:=j;obtain⟨z,its,n,r,N,e⟩:=I.lstM M;have i:its.toArray.size*k.toNat <= sizeLine:=by rw[zzD,←N];exact g
 have L:¬its.toArray.size*k.toNat>(2^63 - 1) / 8:=by
  have:(sizeLine:Nat) <= (2^63 - 1) / 8:=by decide
  lia
 have Y:¬(!Builtin.List.listFitsIndex k)=true:=by rw[fitsIndex_both C G];exact zzJ
 have J:¬Builtin.List.listTooLong (its.toArray.size*k.toNat)=true:=by rw[CS i];exact zzJ
 have p:List.foldl (λc d=>c++d) #[] (List.replicate (if its.toArray.isEmpty=true then 0 else k.toNat) its.toArray)=(List.replicate k.toNat its).flatten.toArray:=by
  have B:∀m:Nat,List.foldl (λc d=>c++d) #[] (List.replicate m its.toArray)=(List.replicate m its).flatten.toArray:=λm=>by have:=uH its m [];rw[zwK]at this;exact this
  rw[B];cases its with
  |nil=>simp|cons a r'=>rw[zzi (by simp)]
 refine wpAny_binaryOp_repeat_ref (T:="list") (U:="int") (by decide) ⟨_,e,rfl⟩ (λo=>typeIs_int o k t) noFill_list_mul F.fills_int_mul F.slot_int_rmul repeat_list F.slot_int_index.lookup
  (zxN F.slot_int_rmul (typeIs_int s k t) F.entry_int_rmul (F.args_int_rmul_2 _ _) (int___rmul___int_list k t l its.toArray n)
   ⟨e,rfl,⟨_,e,rfl⟩,zxN F.slot_list_mul ⟨_,e,rfl⟩ F.entry_list_mul (F.args_list_mul_2 _ _) (AutoListH.list___mul___list_int_3 l its.toArray n k t Y L J) ⟨e,?_⟩⟩)
 rw[p];exact⟨.ref _,_,I.lnew (t':=s.toks) (r.rep k.toNat) (by rw[FX,Nat.mul_comm];exact g),rfl,q _ I.fresh⟩
section
variable{κ:Type}[DecidableEq κ]
noncomputable def valV(kvs:List (κ×V))(k:κ):Option V:=(kvs.find? λJ=>decide (J.1=k)).map (·.2)
noncomputable def putK(kvs:List (κ×V))(k:κ)(v:V):List (κ×V) :=
 if (kvs.any λJ=>decide (J.1=k))=true then kvs.map (λJ=>if J.1=k then(J.1,v) else J) else kvs++[(k,v)]
theorem nS{p:κ×V}{r:List (κ×V)}{k:κ}(e:p.1=k):valV (p::r) k=some p.2:=by simp[valV,zxO,e]
theorem kF{p:κ×V}{r:List (κ×V)}{k:κ}(e:¬p.1=k):valV (p::r) k=valV r k:=by simp[valV,zxO,e]
theorem sw(k:κ):∀kvs:List (κ×V),(kvs.any λJ=>decide (J.1=k))=(valV kvs k).isSome
 |[]=>rfl|p::r=>by
  rw[zwm];by_cases e:p.1=k
  ·simp only[nS e,zzj e,Bool.true_or,Option.isSome_some]
  ·rw[kF e,zzl e,Bool.false_or];exact sw k r
theorem jC(kvs:List (κ×V))(k:κ)(v:V):(putK kvs k v).length <= kvs.length+1:=by
 unfold putK;split
 ·rw[zza];lia
 ·rw[zzd,zzm,zyZ];lia
theorem RelO.isSome_eq{o:Option V}{u:Option Value}(r:RelO o u):o.isSome=u.isSome:=by
 cases o with
 |none=>cases u with
  |none=>rfl|some _=>exact(show False from r).elim
 |some _=>cases u with
  |none=>exact(show False from r).elim|some _=>rfl
theorem KV.val{kvs:List (κ×V)}{vs:List (κ×Value)}(r:KV kvs vs)(k:κ):RelO (valV kvs k) (valueAt vs k):=by
 unfold KV at r
 induction r with
 |nil=>exact True.intro|@cons p q ps c h t L =>
  obtain⟨d,g⟩:=h;by_cases e:p.1=k
  ·have J:q.1=k:=d.symm.trans e;have b:valueAt (q::c) k=some q.2:=by simp[valueAt,zxO,J]
   rw[nS e,b];exact g
  ·have J:¬q.1=k:=λz=>e (d.trans z);have b:valueAt (q::c) k=valueAt c k:=by simp[valueAt,zxO,J]
   rw[kF e,b];exact L
theorem KV.any{kvs:List (κ×V)}{vs:List (κ×Value)}(r:KV kvs vs)(k:κ):(kvs.any λJ=>decide (J.1=k))=vs.any λJ=>decide (J.1=k):=by
 unfold KV at r
 induction r with
 |nil=>rfl|cons h t L=>rw[zwm,zwm,L,h.1]
theorem KV.repl{kvs:List (κ×V)}{vs:List (κ×Value)}(r:KV kvs vs)(k:κ)(U:RelV y u) :
  KV (kvs.map λJ=>if J.1=k then(J.1,y) else J) (vs.map λJ=>if J.1=k then(J.1,u) else J):=by
 unfold KV at r ⊢
 induction r with
 |nil=>exact .nil|@cons p q ps qs h t L =>
  rw[zzh,zzh];refine .cons ?_ L;obtain⟨c,d⟩:=h;by_cases e:p.1=k
  ·rw[zzn e,zzn (c.symm.trans e)];exact⟨c,U⟩
  ·rw[zzi e,zzi (λz=>e (c.trans z))];exact⟨c,d⟩
theorem KV.put{kvs:List (κ×V)}{vs:List (κ×Value)}(r:KV kvs vs)(k:κ)(J:RelV y u):KV (putK kvs k y) (stored vs k u):=by
 unfold putK stored;rw[r.any k];by_cases e:(vs.any λL=>decide (L.1=k))=true
 ·rw[zzn e,zzn e];exact r.repl k J
 ·rw[zzi e,zzi e];exact Paired.snoc r ⟨rfl,J⟩
theorem KV.length{kvs:List (κ×V)}{vs:List (κ×Value)}(r:KV kvs vs):kvs.length=vs.length:=zwA r
end
theorem FY{P:Program}{k:Key}(r:RelV (kV k) u):(bK P w).is k u=true:=by
 cases k with
 |inl i=>obtain⟨t,e⟩:=(show ∃t,u=Value.int i t from r);subst e;exact om P w i t
 |inr x=>obtain⟨t,e⟩:=(show ∃t,u=Value.str x t from r);subst e;exact wc P w x t
theorem uI{P:Program}{w:World}:∀{ks:List Key} {us:List Value},Vals (ks.map kV) us->ItemsAre (bK P w) ks us
 |[],_,r=>by rw[zyf]at r;cases r;exact .nil
 |k::ks,_,r=>by
  rw[zzh]at r;cases r with
  |cons h t=>exact .cons (FY h) (uI t)
abbrev KT(H:Hp):List (List Key×V)->List (List Key×Addr×Value)->Prop:=Paired λp q=>p.1=q.1/\H q.2.1=some (.tup (p.1.map kV))/\RelV p.2 q.2.2
theorem KT.val(r:KT H kvs xs)(k:List Key):RelO (valV kvs k) ((atKey xs k).map (·.2)):=by
 induction r with
 |nil=>exact True.intro|@cons p q ps c h t L =>
  obtain⟨d,_,g⟩:=h;by_cases e:p.1=k
  ·have J:q.1=k:=d.symm.trans e;have b:atKey (q::c) k=some q.2:=by simp[atKey,zxO,J]
   rw[nS e,b];exact g
  ·have J:¬q.1=k:=λz=>e (d.trans z);have b:atKey (q::c) k=atKey c k:=by simp[atKey,zxO,J]
   rw[kF e,b];exact L
theorem KT.repl(r:KT H kvs xs)(k:List Key)(U:RelV y u) :
  KT H (kvs.map λJ=>if J.1=k then(J.1,y) else J) (xs.map (putAt k u)):=by
 induction r with
 |nil=>exact .nil|@cons p q ps qs h t L =>
  rw[zzh,zzh];refine .cons ?_ L;obtain⟨c,d,g⟩:=h;unfold putAt;by_cases e:p.1=k
  ·rw[zzn e,zzn (c.symm.trans e)];exact⟨c,d,U⟩
  ·rw[zzi e,zzi (λz=>e (c.trans z))];exact⟨c,d,g⟩
theorem KT.put(r:KT H kvs xs)(k:List Key)(L:H b=some (.tup (k.map kV)))(J:RelV y u) :
  KT H (putK kvs k y) (storedH xs k b u):=by
 have e:(kvs.any λU=>decide (U.1=k))=(atKey xs k).isSome:=by rw[sw,(r.val k).isSome_eq,Option.isSome_map]
 unfold putK storedH;rw[e];by_cases q:(atKey xs k).isSome=true
 ·rw[zzn q,zzn q];exact r.repl k J
 ·rw[zzi q,zzi q];exact Paired.snoc r ⟨rfl,L,J⟩
theorem KT.keeps(r:KT H kvs xs)(J:∀b ys,H b=some (.tup ys)->H' b=some (.tup ys)):KT H' kvs xs :=
 Paired.mapP r λ_ _ z=>⟨z.1,J _ _ z.2.1,z.2.2⟩
section
variable{P:Program}{w:World}{h:Heap}
theorem Iw{u:HO}(ok:HOk P w H h)(e:Rd H a u):ObjOk P w H h a u:=e.ok ok
theorem FZ{kvs:List (Key×V)}(ok:HOk P w H h)(e:Rd H a (.dK kvs)):kvs.length <= sizeLine/\(a == sysModules)=false/\∃vs,KV kvs vs/\h.DictOf (bK P w) a vs :=
 show ObjOk P w H h a (.dK kvs) from Iw ok e
theorem KA{kvs:List (Key×V)}(ok:HOk P w H h)(e:H a=some (.dK kvs)):kvs.length <= sizeLine/\(a == sysModules)=false/\∃vs,KV kvs vs/\h.DictOf (bK P w) a vs:=FZ ok (.inl e)
theorem xy{ks:List Key}(ok:HOk P w H h)(e:H a=some (.tup (ks.map kV))):(tupleKind (bK P w)).is h ks a:=by obtain⟨_,its,r,o,c,d,n,g⟩:=(show ObjOk P w H h a (.tup (ks.map kV)) from ok a _ e);exact⟨o,its.toArray,n,c,d,g,by simpa using uI r⟩
theorem CU(ok:HOk P w H h)(e:Rd H a (.dT kvs)):kvs.length <= sizeLine/\(a == sysModules)=false /\
  ∃xs,KT H kvs xs/\h.DictOfH (tupleKind (bK P w)) a xs:=by
 obtain⟨z,y,xs,r,o,d,c,g,i,n,U,Y⟩:=(show ObjOk P w H h a (.dT kvs) from Iw ok e);refine⟨z,y,xs,r,o,d,c,g,i,n,U,λx J=>?_,Y⟩;have all:∀{l:List (List Key×V)} {m:List (List Key×Addr×Value)},KT H l m->∀x∈m,(tupleKind (bK P w)).is h x.1 x.2.1:=by
  intro l m q
  induction q with
  |nil=>intro x J;exact nomatch J
  |@cons p q ps qs L t s =>
   intro x J;rcases zzk.mp J with e|J
   ·subst e;exact xy ok (by rw[←L.1];exact L.2.1)
   ·exact s x J
 exact all r x J
theorem Ix(ok:HOk P w H h)(e:H a=some (.dT kvs)):kvs.length <= sizeLine/\(a == sysModules)=false /\
  ∃xs,KT H kvs xs/\h.DictOfH (tupleKind (bK P w)) a xs:=CU ok (.inl e)
end
def DGet(H:Hp)(a:Addr)(y:V)(r:Option V):Prop :=
 (∃kvs k,Rd H a (.dK kvs)/\y=kV k/\r=valV kvs k)∨∃kvs k b,Rd H a (.dT kvs)/\y=.ref b/\H b=some (.tup (k.map kV))/\r=valV kvs k
def DPut(H:Hp)(a:Addr)(y v:V)(H':Hp):Prop :=
 (∃kvs k,H a=some (.dK kvs)/\y=kV k/\kvs.length<sizeLine/\H'=upd H a (.dK (putK kvs k v))) ∨
 ∃kvs k b,H a=some (.dT kvs)/\y=.ref b/\H b=some (.tup (k.map kV))/\kvs.length<sizeLine/\H'=upd H a (.dT (putK kvs k v))
theorem DGet.k{H:Hp}{a:Addr}{kvs:List (Key×V)}{k:Key}(e:H a=some (.dK kvs)):DGet H a (kV k) (valV kvs k):=.inl ⟨kvs,k,.inl e,rfl,rfl⟩
theorem DPut.k{H:Hp}{a:Addr}{kvs:List (Key×V)}{k:Key}{v:V}(e:H a=some (.dK kvs))(c:kvs.length<sizeLine):DPut H a (kV k) v (upd H a (.dK (putK kvs k v))):=.inl ⟨kvs,k,e,rfl,c,rfl⟩
theorem DPut.t{k:List Key}{v:V}(e:H a=some (.dT kvs))(c:H b=some (.tup (k.map kV)))(d:kvs.length<sizeLine) :
  DPut H a (.ref b) v (upd H a (.dT (putK kvs k v))):=.inr ⟨kvs,k,b,e,rfl,c,d,rfl⟩
section
variable{s:Shared}{y v:V}{u r:Value}{o:Option V}{A:Around}{E:Value->Shared->Prop}
theorem Inv.big(I:Inv X pins σ H s):sysModules<s.heap.objs.size:=by have h:mainGlobals<s.heap.objs.size:=(I.mod.glob.keeps I.bk).lt;exact Nat.lt_trans (by decide) h
theorem zZ(q:A.units+1<cLine)(I:Inv X pins σ H s)(g:DGet H a y (some v))(i:RelV y u)(h:∀L s',Inv X pins σ H s'->RelV v L->Q L s') :
  wpAny (model X.prog X.w) A (getItem (.ref a) u) Q E s:=by
 rcases g with ⟨kvs,k,e,U,l⟩|⟨kvs,k,b,e,U,m,l⟩
 ·subst U;obtain⟨z,hd,B,rel,c⟩:=FZ I.hok e;obtain⟨L,d,J⟩:=RelO.some_of (v:=v) (o:=valueAt B k) (by rw[l];exact rel.val k);exact wpAny_getItem_of (FY i) c.mapOf d (h L _ (I.tok _) J)
 ·subst U;cases (show u=Value.ref b from i);obtain⟨z,hd,xs,rel,c⟩:=CU I.hok e;obtain⟨L,d,J⟩:=RelO.some_of (v:=v) (o:=(atKey xs k).map (·.2)) (by rw[l];exact rel.val k);obtain⟨p,n,Y⟩:=zxV.mp d;refine wpAny_getItem_heap (zwX q) (xy I.hok m) c n ?_;rw[Y];exact h L _ (I.tok _) J
theorem wj{h':Heap}{ob:HO}(I:Inv X pins σ H s)(L:Mut (H a))(hs:Heap.SameBut a s.heap h')(he:∃q,h'.get? a=some q)(new:ObjOk X.prog X.w (upd H a ob) h' a ob) :
  Inv X pins σ (upd H a ob) { s with heap:=h',toks:=t' } :=
 I.write (x:=a) (e:=a) L (.inl rfl) (λb q J z=>(hs.2 b J).trans z) he new
theorem Iy{P:Program}{h':Heap}{kvs:List (Key×V)}{vs:List (Key×Value)}(z:kvs.length <= sizeLine)(hd:(a == sysModules)=false)(rel:KV kvs vs)(c:h'.DictOf (bK P w) a vs) :
  ObjOk P w H' h' a (.dK kvs):=⟨z,hd,vs,rel,c⟩
theorem Aa{Q:Unit->Shared->Prop}(hu:A.units+1<cLine)(I:Inv X pins σ H s)(g:DPut H a y v H')(M:RelV y u)(G:RelV v r)(h:∀s',Inv X pins σ H' s'->Q () s') :
  wpAny (model X.prog X.w) A (setItem (.ref a) u r) Q E s:=by
 rcases g with ⟨kvs,k,e,Y,l,U⟩|⟨kvs,k,b,e,Y,p,l,U⟩
 ·subst Y U;obtain⟨z,hd,vs,rel,d⟩:=KA I.hok e;have n:vs.length <= sizeLine:=by rw[←rel.length];exact z
  have i:(putK kvs k v).length <= sizeLine:=by have:=jC kvs k v;lia
  refine wpAny_setItem_pairs (hsz:=n) (FY M) d λC J m=>h _ ?_;have he:∃q,C.get? a=some q:=by obtain⟨q,_,_,L,_⟩:=J;exact⟨q,L⟩
  exact wj I (by rw[e];exact True.intro) m he (Iy i hd (rel.put k G) J)
 ·subst Y U;cases (show u=Value.ref b from M);obtain⟨z,hd,xs,rel,d⟩:=Ix I.hok e;have n:xs.length <= sizeLine:=by rw[←zwA rel];exact z
  have i:(putK kvs k v).length <= sizeLine:=by have:=jC kvs k v;lia
  refine wpAny_setItem_heap (hsz:=n) (zwX hu) (xy I.hok p) d λC J m=>h _ ?_;obtain⟨q,j,N,L,o,x,T,_,h5⟩:=J;refine wj I (by rw[e];exact True.intro) m ⟨q,L⟩ ⟨i,hd,_,(rel.put k p G).keeps λc ys B=>?_,q,j,N,L,o,x,T,h5⟩;rw[ah (qK B e (λz=>nomatch z))];exact B
end
def NoSl(i:Expr):Prop:=∀c J,subscripted i false c J=operate [c,J] (getItem c J)
theorem Ga{prog:Program}{s:Shared}{c:Env}{value slice:Expr}{pos:Pos}{id:String}(m:typeLookup (.type T) "__getitem__" = pure (some (.builtin id)))(hs:NoSl slice)(h:wpAny (model prog w) A (eval value c) (λo U=>wpAny (model prog w) A (eval slice c) (λi J=>J.TypeIs o T/\wpAny (model prog w) A (getItem o i) Q E J) E U) E s) :
  wpAny (model prog w) A (eval (.Subscript value slice pos) c) Q E s:=by
 refine Subscript_ (zyS h (λo U d=>zyS d (λi J L=>?_) λ_ _ x=>x) λ_ _ x=>x);obtain⟨g,L⟩:=L;unfold subscriptTail;refine zzb ?_;rw[getitemInPython_of_ne g.not_modules];refine zzb (wpAny_specialOf g m ?_);have fin:wpAny (model prog w) A (subscripted slice false o i) (λr Y=>wpAny (model prog w) A (letTemporaryGo value o r >>= λ_=>pure r) Q E Y) E J:=by rw[hs o i];exact wpAny_operating (zyS L (λr Y l=>zzb (wpAny_letTemporaryGo (zzp l))) λ_ _ x=>x)
 first
  |exact zzp (zzb fin)
  |exact zzb (zzp (zzb fin))
  |exact zzb fin
theorem wk{X:Cx}{pins:List (Addr×Obj)}{s:Shared}{o:Option V}(I:Inv X pins σ H s)(g:DGet H a y o):s.TypeIs (.ref a) "dict":=by
 rcases g with ⟨kvs,k,e,_,_⟩|⟨kvs,k,b,e,_,_,_⟩
 ·obtain⟨_,_,vs,_,c⟩:=FZ I.hok e;exact c.typeIs
 ·obtain⟨_,_,xs,_,c⟩:=CU I.hok e;exact c.typeIs
def KB(td ty:TE):TE:=λσ H Q=>td σ H λx d=>ty σ d λy c=>∃a v,x=.ref a/\DGet c a y (some v)/\Q v c
def KC(td ty tv:TE):TS:=λD σ H=>tv σ H λv c=>td σ c λx d=>ty σ d λy g=>∃a J,x=.ref a/\DPut g a y v J/\D.nx σ J
section
variable{i value:Expr}{pos':Pos}{td ty tv:TE}
theorem Gb(p:X.A.units+1<cLine)(n:PE X o td)(m:PE X i ty)(hs:NoSl i):PE X (.Subscript o i pos) (KB td ty):=by intro pins s σ H Q I h;refine Ga PySem.F.slot_dict_getitem.lookup hs (thnE (n pins s σ H _ I h) λu G x c U B r=>thn (m pins G σ c _ U r) λiv s2 q=>?_);obtain⟨y,d,L,C,a,v,l,g,z⟩:=q;subst l;obtain rfl:u=Value.ref a:=B;exact⟨wk L g,zZ p L g C λw' s3 Y J=>⟨v,d,Y,J,z⟩⟩
theorem Gc(q:X.A.units+1<cLine)(p:PE X o td)(n:PE X i ty)(z:PE X value tv)(hs:swapsWith value (some (.Subscript o i pos')) pos.line X.env=pure false) :
  PS X (.Assign [.Subscript o i pos'] value pos) (KC td ty tv):=by
 intro pins s σ H D I h;refine wpAny_Assign_Subscript (thnE (z pins s σ H _ I h) λr j v c L N C=>thnE (p pins j σ c _ L C) λu w x d U b G=>thn (n pins w σ d _ U G) λiv s3 B=>?_) hs;obtain⟨y,H3,Y,e,a,J,m,g,M⟩:=B;subst m;obtain rfl:u=Value.ref a:=b;exact Aa q Y g e N λs4 l=>⟨σ,J,l,M⟩
end
theorem CV{P:Program}(h:Heap)(J:sysModules<h.objs.size):ObjOk P w H (h.push { cls:=.type "dict",data:=.dict #[] }) h.objs.size (.dK []) :=
 ⟨zya _,zxn.mpr (Ne.symm (zzL J)),[],.nil,Heap.DictOf.new h⟩
theorem CW{P:Program}(h:Heap)(J:sysModules<h.objs.size):ObjOk P w H (h.push { cls:=.type "dict",data:=.dict #[] }) h.objs.size (.dT []) :=
 ⟨zya _,zxn.mpr (Ne.symm (zzL J)),[],.nil,_,#[],0,zzy _ rfl,⟨rfl,rfl,rfl⟩,rfl,rfl,zwU⟩
def Iz:TE:=λ_ H Q=>∀p,H p=none->Q (.ref p) (upd H p (.dK []))
def IA:TE:=λ_ H Q=>∀p,H p=none->Q (.ref p) (upd H p (.dT []))
theorem CY:PE X (.Dict [] [] pos) Iz:=λpins s σ H Q I h =>
 wpAny_Dict_empty ⟨.ref s.heap.objs.size,_,I.laid (a:=s.heap.objs.size) (o:=.dK []) (t':=s.toks) (λ_ _ q=>zzf _ q) (zzr _) (CV s.heap I.big),rfl,h _ (I.hok.fresh (zzr _))⟩
theorem CZ:PE X (.Dict [] [] pos) IA:=λpins s σ H Q I h =>
 wpAny_Dict_empty ⟨.ref s.heap.objs.size,_,I.laid (a:=s.heap.objs.size) (o:=.dT []) (t':=s.toks) (λ_ _ q=>zzf _ q) (zzr _) (CW s.heap I.big),rfl,h _ (I.hok.fresh (zzr _))⟩
structure M1(X:Cx)(o:Expr)(m:Str)(apos:Pos)(e:Expr)(cpos:Pos):Prop where
 base:attributeBase o m X.env (eval o X.env)=eval o X.env
 few:((backTo cpos (starEach [e] X.env)).all (λx=>!x.1) && (backToKw cpos (keywordEach [] X.env)).all (λx=>x.1.isSome)
  && decide (([e]:List Expr).length+([]:List Keyword).length+(if ([]:List Keyword).isEmpty then 0 else 1)<30))=true
 line:(apos.endLine == cpos.line)=true
 trees:backTo cpos (starEach [e] X.env)=[(false,eval e X.env)]
structure M2(X:Cx)(o:Expr)(m:Str)(apos:Pos)(e f:Expr)(cpos:Pos):Prop where
 base:attributeBase o m X.env (eval o X.env)=eval o X.env
 few:((backTo cpos (starEach [e,f] X.env)).all (λx=>!x.1) && (backToKw cpos (keywordEach [] X.env)).all (λx=>x.1.isSome)
  && decide (([e,f]:List Expr).length+([]:List Keyword).length+(if ([]:List Keyword).isEmpty then 0 else 1)<30))=true
 line:(apos.endLine == cpos.line)=true
 trees:backTo cpos (starEach [e,f] X.env)=[(false,eval e X.env),(false,eval f X.env)]
end L2
namespace Att
open PySem PySem.W PySem.Calls PyProof.Rows
theorem oH{P:Params}{h:Heap}:∀(ns:List Int) (vs:List Value),WellAll P h vs (ns.map WData.int)->IntsAre vs ns:=by
 intro ns
 induction ns with
 |nil =>
  intro vs w;rw[zyf]at w;cases w;exact .nil
 |cons n ns J =>
  intro vs w;rw[zzh]at w;cases w with
  |cons a b =>
   cases a;exact .cons _ _ (J _ b)
theorem Ab{l:OpenLaw}{n:Nat}(p:l.most=some n){P:Params}{h:Heap}{args:List WData}{vals:List Value}
  (J:l.row.toRowW.claim.pre args=true) (i:WellAll P h vals args) :
  ∃a vs b,vals=[Value.ref a]/\args=[WData.list (b.map WData.int)]/\h.get? a=some { cls:=.type "list",data:=.seq vs.toArray }/\IntsAre vs b/\b.length <= n:=by
 have g:WShape.hasAll [] args [.list .int]=true:=(pre_splitW J).1;have e:l.pre.holds [] { args:=args }=true:=(pre_splitW J).2;obtain⟨d,r,rfl,j,m⟩:=hasAllW_cons g;obtain rfl:=hasAllW_nil m;obtain⟨xs,rfl,o⟩:=hasW_list j;obtain⟨b,rfl⟩:=items_int o;have U:b.length <= n:=by
  unfold OpenLaw.pre at e;have Y:(WTm.not (.lt (.lit (.int (n:Int))) (.len (.arg 0)))).holds [] { args:=[.list (b.map .int)] }=true:=by have Y:=(holds_andW e).1;rw[p]at Y;exact Y
  have c:=condW_of Y (w_not (w_lt w_lit (w_len_list (w_arg rfl))));rw[zza]at c;refine Nat.le_of_not_lt λq=>?_;have u:(n:Int)<((b.length:Nat):Int):=by lia
  first
   |(rw[zzj u]at c;exact absurd c (by decide))
   |(simp at c;lia)
 cases i with
 |cons v w =>
  cases w;cases v with
  |list s L=>exact⟨_,_,b,rfl,rfl,s,oH b _ L,U⟩
theorem Ac(l:OpenLaw)(args:List WData):l.row.toRowW.claim.post args (.bool true) args=true :=
 postW_of (r:=l.row.toRowW) (X:=(true == true))
  (show WShape.has [] (.bool true) .bool=true by first|rfl|decide|simp[WShape.has,WShape.arms,WShape.armsAll])
  (show (WTm.eq .res (.lit (.bool true))).value [] { args:=args,res:=some (.bool true),after:=args }=some (.bool (true == true)) from w_eq_bool (w_res rfl) w_lit) rfl
theorem attach_call{l:OpenLaw}{n:Nat}{q:Program}{L:List Str}{j:(Str->Option Value)->Heap->Prop}{m:World->Heap->Prop}{d:DefRec}
  (N:l.most=some n) (y:d.params.defaults=[])
  (call:∀(w:World) (b J:Shared) (g i:Str->Option Value) (c:Addr) (o:Obj) (pm e doc:Value) (a:Addr) (vs:List Value) (h:List Int),
   Ground q L [] j w b g i J.heap->m w J.heap ->
   J.heap.get? c=some o->o.data=.func (docDef d.name d.params d.body d.scope pm e doc)->J.heap.CodeRec e d.name->g d.name=some (.ref c) ->
   J.heap.get? a=some { cls:=.type "list",data:=.seq vs.toArray }->IntsAre vs h->h.length <= n->J.gens = #[] ->
   codeAny (model l.prog w) callerA (.call (.ref c) ⟨[.ref a],[]⟩) (λr s'=>r=.ok (.ret (.bool true))/\OldK J.heap s'.heap/\s'.os=J.os/\AllBare s'.gens) J) :
  WalkO q L j m l.row.toRowW d [] (λf vs=>PySem.call f vs):=by
 intro w b J g i G Y c o pm e doc B kV Q hd x p z I args vals as v hlay hrd A hlo;obtain rfl:B=.none:=Dflts.none p y;obtain rfl:kV=.none:=Dflts.noKw p;obtain⟨a,vs,h,rfl,rfl,u,U,s⟩:=Ab N v A;refine enter_call (zxb (call w b J g i c o pm e doc a vs h G Y Q (fd_plain hd) x z u U s I) λr s' T=>?_);obtain⟨rfl,C,E,H⟩:=T;exact⟨.inl ⟨.bool true,.bool true,[],rfl,λ_=>rfl,.bool true,Ac l _,λ_=>⟨List.Pairwise.nil,λ_ M=>(nomatch M)⟩⟩,C,E,H⟩
end Att
namespace L2
open PySem PySem.Spec PyProof.Rows
theorem Ad:∀{vs:List Value} {a:List Int},IntsAre vs a->Vals (a.map V.int) vs:=by
 intro vs a h
 induction h with
 |nil=>exact .nil|cons n t h J=>exact .cons ⟨t,rfl⟩ J
end L2
namespace L2
open PySem PySem.Spec PyProof.Rows
variable{A A':Around}{C ea p:Addr}{E:Value->Shared->Prop}{H H1 H2:Hp}{M:Model}{N ps:List Str}{Q:Unit->Shared->Prop}{T ty:String}{b:Bool}{c i j y:Int}{cls e u v:Value}{dd od:Option Addr}{env:Env}{es:List Expr}{ex fp:List Addr}{h h₁:Heap}{it0 tg:Expr}{l:List (Str×Addr)}{m0 t':Nat}{mA:Str->Option Value}{ns:List Int}{o ox:Obj}{pos py:Pos}{sc:Scope}{tk:Tok}{vs:List Value}{w:World}{x:Str}{z:Shared}{α β:Type}
variable{P prog:Program}{w:World}{K:zvd}{X:Cx}{pos:Pos}{pins:List (Addr×Obj)}{σ:St}{H:Hp}{x:Str}{a C:Addr}{B h':Heap}{W:St->XK}{e:Value}{A:Around}{E:Value->Shared->Prop}
noncomputable def wm(s:Stmt)(j:Nat):Stmt:=match s with
 |.ClassDef _ _ _ body _ _ _ _ _ _ _=>body.getD j (.Pass ⟨0,0,0,0⟩)|_=>.Pass ⟨0,0,0,0⟩
def fk(s:Stmt):Arguments:=match s with
 |.FunctionDef _ a _ _ _ _ _ _ _ _=>a|_=>{ posonlyargs:=[],args:=[],vararg:=none,kwonlyargs:=[],kw_defaults:=[],kwarg:=none,defaults:=[] }
def bv(s:Stmt):List Stmt:=match s with
 |.FunctionDef _ _ b _ _ _ _ _ _ _=>b|_=>[]
noncomputable def ag(s:Stmt):Scope:=match s with
 |.FunctionDef _ _ _ _ _ _ sc _ _ _=>sc|_=>{ kind:=.function,names:=[],isGenerator:=false,isCoroutine:=false }
abbrev CX0:CXT:=λ_ _ _ _ _ _=>False
abbrev E0:XK:=λ_ _ _=>False
theorem Ae{X:Cx}:qW CX0 X E0:=λ_ _ _ _ _ _ _ h=>h.elim
structure Fun(K:zvd)(x qual:Str)(st:Stmt)(f:Addr)(fd:FuncData):Prop where
 ex:∃(oc:Value) (od:Option Addr) (kV doc pm:Value) (an:Option Addr) (cdv ct:Value) (osl:Array (Option Value)),
  fd=PySem.W.fnOf x qual (fk st) (bv st) (ag st) .none kV doc pm an cdv ct/\K.lookup f=some ⟨oc,od,.func fd,osl⟩/\PySem.W.codeIn K cdv qual=true
 kp:PySem.W.keepIn K (.ref f)=true
section
variable{mg:Str->Option Value}{base:Heap}
theorem Fun.ok{g:Str}{st:Stmt}{f:Addr}{fd:FuncData}{k:Nat}{sp:Sp}(F:Fun K x g st f fd)(S:FnScope N ps (ag st))(len:∀vs H Q E,sp vs H Q E->vs.length=ps.length)(J:∀(m:Value) (A:Around) (d:List Env) (s:Shared) (H:Hp) (vs:List V) (Q:VK) (E:XK),Room k (A.deeper (envOfC g (ag st) s.heap.objs.size f m))->sp vs H Q E ->
   ∃t,PSs (cxOf CX0 P w K mg base N g (ag st) f m A d s H E).nox (bv st) t/\t { nx:=λ_ n=>Q .non n,rt:=Q } (start N vs) H):FnOk P w K mg base CX0 (k+1) f fd ps sp:=by
 obtain⟨oc,od,kV,doc,pm,an,m,ct,osl,rfl,r,L⟩:=F.ex;refine FS r L S len λA d s H vs Q E Y U=>?_;obtain⟨t,h,q⟩:=J m A d s H vs Q E Y U;exact⟨t,h.nox,q⟩
theorem Fun.binds{d:Str}{st:Stmt}{f:Addr}{fd:FuncData}(F:Fun K x d st f fd)(h:∀(kV doc pm:Value) (m:Option Addr) (g n:Value) (us:List Value),us.length=ps.length->bindArgs (PySem.W.fnOf x d (fk st) (bv st) (ag st) .none kV doc pm m g n) ⟨us,[]⟩=pure (ps.zip us)):Binds K fd ps []:=by obtain⟨oc,od,kV,doc,pm,m,g,n,osl,rfl,lk,hcd⟩:=F.ex;exact .all (h kV doc pm m g n)
theorem oI{d:Str}{st:Stmt}{f:Addr}{g:Array (Option Value)}{cdv m:Value}(l:K.lookup f=some ⟨e,od,.func (PySem.W.fnOf x d (fk st) (bv st) (ag st) .none u v cls dd cdv m),g⟩)(c:PySem.W.codeIn K cdv d=true)(k:PySem.W.keepIn K (.ref f)=true):Fun K x d st f (PySem.W.fnOf x d (fk st) (bv st) (ag st) .none u v cls dd cdv m):=⟨⟨e,od,u,v,cls,dd,cdv,m,g,rfl,l,c⟩,k⟩
end
theorem pv(i:Nat)(d:X.N[i]? = some x:=by rfl)(L:Vis X.env.scope x:=by first|exact Or.inl rfl|exact Or.inr (Or.inl rfl)|exact Or.inr (Or.inr rfl))(hd:(x == ("__debug__" : Str))=false:=by decide)(J:(x == ("__classdict__" : Str))=false:=by decide):PE X (.Name x pos) (tVar i):=HN d L hd J
theorem iteF{A B:Prop}(h:B):if false=true then A else B:=by rw[zzi zzJ];exact h
theorem iteT{A B:Prop}(h:A):if true=true then A else B:=by rw[zzn rfl];exact h
theorem ite2{c A B:Prop}[Decidable c](d:c->A)(g:¬c->B):if c then A else B:=by
 by_cases h:c
 ·rw[zzn h];exact d h
 ·rw[zzi h];exact g h
def Same(H H':Hp):Prop:=∀b o,H b=some o->H' b=some o
theorem Same.trans(a:Same H H1)(b:Same H1 H2):Same H H2:=λc o h=>b c o (a c o h)
def gLs(K:zvd)(n:Nat)(t:TGs):TG:=λv σ H Q=>∃a d,v=.ref a/\SqL K H a d/\d.length=n/\t d σ H Q
theorem KD{k:Nat}{t:TGs}{n:Nat}(q:X.calm=true)(h:PGs X es t)(c:(assignEach es X.env).length=n:=by rfl)(J:(assignEach es X.env).findIdx? (·.1)=none:=by rfl):PG X (.Tuple es k pos) (gLs X.K n t):=by intro pins s σ H v u Q I r d;obtain⟨a,l,m,Y,G,d⟩:=d;subst m;cases r;obtain⟨g,L,j,hz⟩:=I.list Y;rw[assign_Tuple];refine zzb (zwl ?_);unfold unpack;rw[show (assignEach es X.env).length=g.toArray.size by simp[c,←G,L.length],J];refine zzb (zyz (PySem.W.kun_itemsOf (I.ok.hd q) j.isList λh' i=>?_));have U:Inv X pins σ H { s with heap:=h' }:=I.kept (t':=s.toks) λb o e=>i b o (zzL (zzz e)) e;exact h pins _ σ H l _ Q U (by simpa using L) d
def knV(H:Hp):V->Prop
 |.non=>True|.bl _=>True|.int _=>True|.str _=>True|.ref a=>(∃g,H a=some (.lst g))∨(∃o g,H a=some (.frz o (.lst g)))∨(∃g,H a=some (.tup g))∨(∃d,H a=some (.dK d))∨(∃d,H a=some (.dT d))|_=>False
def IB:V->Bool
 |.bl _=>true|_=>false
def EE:V->Bool
 |.str _=>true|_=>false
def isTupO:Option HO->Bool
 |some (.tup _)=>true|_=>false
theorem eS{K:zvd}{t:String}(h:(if (Value.type t == Value.type T)=true then some true else if PySem.W.kitMeta T=true then(PySem.fastBuiltinMro t).map (·.contains (.type T)) else none)=some b):PySem.W.kitOne K (.type t) (.type T)=some b:=h
theorem qX{f:Hp->V->Bool}(n:∀(H:Hp),PySem.W.kitOne X.K (.type "NoneType") (.type T)=some (f H .non))(U:∀(H:Hp) c,PySem.W.kitOne X.K (.type "bool") (.type T)=some (f H (.bl c)))(g:∀(H:Hp) i,PySem.W.kitOne X.K (.type "int") (.type T)=some (f H (.int i)))(hs:∀(H:Hp) x,PySem.W.kitOne X.K (.type "str") (.type T)=some (f H (.str x)))(m:∀(H:Hp) a xs,H a=some (.lst xs)->PySem.W.kitOne X.K (.type "list") (.type T)=some (f H (.ref a)))(Y:∀(H:Hp) a o xs,H a=some (.frz o (.lst xs))->PySem.W.kitOne X.K (.type "list") (.type T)=some (f H (.ref a)))(G:∀(H:Hp) a xs,H a=some (.tup xs)->PySem.W.kitOne X.K (.type "tuple") (.type T)=some (f H (.ref a)))(hd:∀(H:Hp) a kvs,H a=some (.dK kvs)->PySem.W.kitOne X.K (.type "dict") (.type T)=some (f H (.ref a)))(J:∀(H:Hp) a kvs,H a=some (.dT kvs)->PySem.W.kitOne X.K (.type "dict") (.type T)=some (f H (.ref a))) :
  fV X (.builtin "isinstance") (λxs H Q=>∃x,xs=[x,.ty T]/\knV H x/\Q (.bl (f H x)) H):=by
 intro pins s σ H xs us Q I r h;obtain⟨x,rfl,L,q⟩:=h;obtain⟨l,u2,rfl,b,j⟩:=FN r;cases j;have fin:∀t,TyOf X.K H x t->PySem.W.kitOne X.K t (.type T)=some (f H x)->wpAny (model X.prog X.w) X.A (call (.builtin "isinstance") [l,.type T]) (EP X pins σ Q) X.xe s :=
  λt ty e=>zT I b ty e λtk=>⟨.bl (f H x),H,I.tok tk,rfl,q⟩
 cases x with
 |non=>exact fin _ .non (n H)|bl c=>exact fin _ (.bl c) (U H c)|int i=>exact fin _ (.int i) (g H i)|str y=>exact fin _ (.str y) (hs H y)|ref a =>
  rcases L with ⟨d,e⟩|⟨o,d,e⟩|⟨d,e⟩|⟨d,e⟩|⟨d,e⟩
  ·exact fin _ (.lst e) (m H a d e)
  ·exact fin _ (.frz e) (Y H a o d e)
  ·exact fin _ (.tup e) (G H a d e)
  ·exact fin _ (.dK e) (hd H a d e)
  ·exact fin _ (.dT e) (J H a d e)
 |_=>exact L.elim
theorem nG{K:zvd}:PySem.W.kitOne K (.type "NoneType") (.type "bool")=some false:=eS (by decide +kernel)
theorem uJ{K:zvd}:PySem.W.kitOne K (.type "bool") (.type "bool")=some true:=eS (by decide +kernel)
theorem wn{K:zvd}:PySem.W.kitOne K (.type "int") (.type "bool")=some false:=eS (by decide +kernel)
theorem wq{K:zvd}:PySem.W.kitOne K (.type "str") (.type "bool")=some false:=eS (by decide +kernel)
theorem nv{K:zvd}:PySem.W.kitOne K (.type "list") (.type "bool")=some false:=eS (by decide +kernel)
theorem sx{K:zvd}:PySem.W.kitOne K (.type "tuple") (.type "bool")=some false:=eS (by decide +kernel)
theorem ny{K:zvd}:PySem.W.kitOne K (.type "dict") (.type "bool")=some false:=eS (by decide +kernel)
theorem oJ{K:zvd}:PySem.W.kitOne K (.type "NoneType") (.type "str")=some false:=eS (by decide +kernel)
theorem wu{K:zvd}:PySem.W.kitOne K (.type "bool") (.type "str")=some false:=eS (by decide +kernel)
theorem yR{K:zvd}:PySem.W.kitOne K (.type "int") (.type "str")=some false:=eS (by decide +kernel)
theorem yS{K:zvd}:PySem.W.kitOne K (.type "str") (.type "str")=some true:=eS (by decide +kernel)
theorem oK{K:zvd}:PySem.W.kitOne K (.type "list") (.type "str")=some false:=eS (by decide +kernel)
theorem uK{K:zvd}:PySem.W.kitOne K (.type "tuple") (.type "str")=some false:=eS (by decide +kernel)
theorem oM{K:zvd}:PySem.W.kitOne K (.type "dict") (.type "str")=some false:=eS (by decide +kernel)
theorem uL:fV X (.builtin "isinstance") (λxs H Q=>∃x,xs=[x,.ty "bool"]/\knV H x/\Q (.bl (IB x)) H) :=
 qX (f:=λ_ x=>IB x) (λ_=>nG) (λ_ _=>uJ) (λ_ _=>wn) (λ_ _=>wq) (λ_ _ _ _=>nv) (λ_ _ _ _ _=>nv) (λ_ _ _ _=>sx) (λ_ _ _ _=>ny) (λ_ _ _ _=>ny)
theorem wv:fV X (.builtin "isinstance") (λxs H Q=>∃x,xs=[x,.ty "str"]/\knV H x/\Q (.bl (EE x)) H) :=
 qX (f:=λ_ x=>EE x) (λ_=>oJ) (λ_ _=>wu) (λ_ _=>yR) (λ_ _=>yS) (λ_ _ _ _=>oK) (λ_ _ _ _ _=>oK) (λ_ _ _ _=>uK) (λ_ _ _ _=>oM) (λ_ _ _ _=>oM)
def Big(i:Int):Prop:=i.natAbs.log2<8000
theorem EF(h:i.natAbs<2^8000):Big i:=by
 unfold Big;rcases Nat.eq_zero_or_pos i.natAbs with d|J
 ·rw[d];decide
 ·exact(Nat.log2_lt (zwr J)).mpr h
theorem Big.bits(h:Big i):Builtin.Int.intBits i <= 8000:=by
 unfold Builtin.Int.intBits;unfold Big at h;split
 ·exact zya _
 ·lia
def CMulB(i j:Int):Prop:=(-(2^64)<i/\i<2^64)∨(-(2^64)<j/\j<2^64)∨(Big i/\Big j)
theorem CMulB.ok(h:CMulB i j):IntMulOk i j:=by
 rcases h with ⟨d,g⟩|⟨d,g⟩|⟨d,g⟩
 ·exact .of_left (intBits_le_64 d g)
 ·exact .of_right (intBits_le_64 d g)
 ·have b1:=d.bits;have b2:=g.bits;unfold IntMulOk;have:Builtin.Int.intTooBig (Builtin.Int.intBits i+Builtin.Int.intBits j)=false:=by
   unfold Builtin.Int.intTooBig;refine zzl ?_;have e:bitsLine=134217728:=by decide
   rw[e];lia
  rw[this];simp
theorem lR:OpR X (binaryOp .Mult) (rI CMulB λi j=>.int (i*j)):=opI λ_ _ _ _ _ _ _ d q=>mul_int q d.ok
def IC(_ j:Int):Prop:=0<j/\Big j
theorem sA:OpR X (binaryOp .FloorDiv) (rI IC λi j=>.int (i / j)):=opI λi j _ _ _ _ _ d q=>by have h1:(0:Int)<j:=d.1;exact floordiv_int (by lia) (by rw[Int.fdiv_eq_ediv_of_nonneg i (by lia)];exact q) (.inl (PyProof.noPylong_of_log2 (Nat.lt_trans d.2 (by decide))))
structure Df(K:zvd)(mg:Str->Option Value)(x:Str)(st:Stmt)(ps:List Str)(f:Addr)(fd:FuncData):Prop where
 F:Fun K x x st f fd
 m:mg x=some (.ref f)
 b:Binds K fd ps []
def SBut(p:Addr)(H H':Hp):Prop:=∀b o,b≠p->H b=some o->H' b=some o
theorem SBut.trans(x:SBut p H H1)(y:SBut p H1 H2):SBut p H H2:=λb o n e=>y b o n (x b o n e)
theorem SBut.upd{p:Addr}{H:Hp}{o:HO}:SBut p H (upd H p o):=λb u n e=>by rw[ah n];exact e
theorem xz{q:Addr}{o:HO}(h:H q=none):Same H (upd H q o):=λb u e=>by rw[ah (bp e h)];exact e
theorem lS{q:Addr}{o u:HO}(h:H p=none)(e:H q=some u):upd H p o q=some u:=by rw[ah (bp e h)];exact e
def Scr(K:zvd)(H:Hp)(a:Addr)(ns:List Int):Prop:=(∃o,H a=some (.frz o (.lst (ns.map V.int))))∨∀d,SqL K d a (ns.map V.int)
theorem Scr.sq{K:zvd}{a:Addr}(h:Scr K H a ns):SqL K H a (ns.map V.int):=by
 rcases h with ⟨o,h⟩|h
 ·exact .inl (.inr ⟨o,h⟩)
 ·exact h H
structure Pen(K:zvd)(H:Hp)(p a:Addr)(ns:List Int)(t l:Int):Prop where
 lst:H p=some (.lst [.ref a,.int t,.int l])
 scr:Scr K H a ns
 t0:0 <= t
theorem Pen.put{K:zvd}{a:Addr}{t l t':Int}(h:Pen K H p a ns t l)(d:0 <= t'):Pen K (upd H p (.lst [.ref a,.int t',.int c])) p a ns t' c:=by
 refine⟨ai,?_,d⟩;rcases h.scr with ⟨o,e⟩|e
 ·refine .inl ⟨o,?_⟩;rw[ah (qK e h.lst (by intro z;cases z))];exact e
 ·exact .inr e
theorem Pen.same{K:zvd}{a:Addr}{t l:Int}(h:Pen K H p a ns t l)(s:Same H H1):Pen K H1 p a ns t l:=by
 refine⟨s _ _ h.lst,?_,h.t0⟩;rcases h.scr with ⟨o,e⟩|e
 ·exact .inl ⟨o,s _ _ e⟩
 ·exact .inr e
theorem Af(d:0 <= i)(h:i<(ns.length:Int)):atI (ns.map V.int) i=some (.int (ns.getD i.toNat 0)):=by
 obtain⟨j,rfl⟩:=zyd d;have J:j<ns.length:=by lia
 refine wg ?_;simp[zzu,J]
def KE:R2:=λx y H Q=>∃p d i v,x=.ref p/\y=.int i/\H p=some (.tup d)/\atI d i=some v/\Q v H
def KG:R2:=λx y H Q=>∃p d i v,x=.ref p/\y=.int i/\H p=some (.lst d)/\atI d i=some v/\Q v H
theorem ww:IxR X KE:=by rintro value slice pins s σ H x y v u Q I J L ⟨p,r,i,z,d,g,h,m,q⟩ n;exact Io value slice pins s σ H x y v u Q I J L ⟨p,r,i,z,d,g,SqT.of h,m,q⟩ n
theorem Da:IxR X KG:=by rintro value slice pins s σ H x y v u Q I J L ⟨p,r,i,z,d,g,h,m,q⟩ n;exact sk value slice pins s σ H x y v u Q I J L ⟨p,r,i,z,d,g,SqL.of h,m,q⟩ n
def lenO:Option HO->Option Nat
 |some (.lst d)=>some d.length|some (.tup d)=>some d.length|_=>none
def KH:List V->Hp->VK->Prop:=λd H Q=>∃p n,d=[.ref p]/\lenO (H p)=some n/\Q (.int n) H
theorem Ag:fV X (.builtin "len") KH:=by
 intro pins s σ H xs g Q I r h;obtain⟨p,n,rfl,e,q⟩:=h;cases o:H p with
 |none=>rw[o]at e;cases e
 |some m =>
  rw[o]at e;cases m with
  |lst d=>cases e;exact cW pins s σ H _ g Q I r ⟨p,d,rfl,.inl (SqL.of o),q⟩
  |tup d=>cases e;exact cW pins s σ H _ g Q I r ⟨p,d,rfl,.inr (SqT.of o),q⟩
  |_=>cases e
def gLsH(n:Nat)(t:TGs):TG:=λv σ H Q=>∃a d,v=.ref a/\H a=some (.lst d)/\d.length=n/\t d σ H Q
theorem ID{k:Nat}{t:TGs}{n:Nat}(G:X.calm=true)(h:PGs X es t)(L:(assignEach es X.env).length=n:=by rfl)(J:(assignEach es X.env).findIdx? (·.1)=none:=by rfl):PG X (.Tuple es k pos) (gLsH n t):=by rintro pins s σ H v u Q I r ⟨a,U,d,g,m,q⟩;exact KD G h L J pins s σ H v u Q I r ⟨a,U,d,SqL.of g,m,q⟩
def KI(n:Nat)(t:TGs):TG:=λv σ H Q=>∃a d,v=.ref a/\H a=some (.tup d)/\d.length=n/\t d σ H Q
theorem Ge{k:Nat}{t:TGs}{n:Nat}(G:X.calm=true)(h:PGs X es t)(L:(assignEach es X.env).length=n:=by rfl)(J:(assignEach es X.env).findIdx? (·.1)=none:=by rfl):PG X (.Tuple es k pos) (KI n t):=by rintro pins s σ H v u Q I r ⟨a,U,d,g,m,q⟩;exact HZ G h L J pins s σ H v u Q I r ⟨a,U,d,SqT.of g,m,q⟩
def Ah(K:zvd):Sp:=λvs H Q _=>∃(p a:Addr) (ns:List Int) (t l m:Int),vs=[.ref p,.int m]/\Pen K H p a ns t l/\1 <= m/\m <= 10^60 /\
 ∀(r t' g:Int) (d:Hp),0 <= r->r<m->Pen K d p a ns t' g->SBut p H d->Q (.int r) d
def EG(K:zvd):Sp:=λvs H Q _=>∃(a:Addr) (ns:List Int),vs=[.ref a]/\Scr K H a ns/\∀(p:Addr) (d:Hp),H p=none->Pen K d p a ns 0 0->Same H d->Q (.ref p) d
theorem sB{x d:Int}(g:0<d)(h:d <= 18446744073709551616):CMulB (x % d) y:=by have h1:=zxx x (show d≠0 by lia);have h2:=zxg x g;exact .inl ⟨by lia,by lia⟩
theorem Db(h : -18446744073709551616<c/\c<18446744073709551616:=by decide):CMulB c y:=.inl h
theorem IE(h : -18446744073709551616<c/\c<18446744073709551616:=by decide):CMulB y c:=.inr (.inl h)
theorem mpos(h:0<c:=by decide):0<c:=h
theorem Ai(h0:0 <= c)(h:c <= 10^60):Big c:=EF (zzE (zzG (show c.natAbs <= 10^60 by lia) (show 10^60<2^200 by decide)) (zwk (by decide) (by decide)))
theorem oN(h0:0 <= c)(h:c <= 18446744073709551616):Big c:=EF (zzE (zzG (show c.natAbs <= 18446744073709551616 by lia) (show 18446744073709551616<2^65 by decide)) (zwk (by decide) (by decide)))
noncomputable def dU(cells:List (Str×Addr)):List (Str×NameKind)->List (Str×Addr)->Option (List (Str×Addr))
 |[],d=>some d| (n,k)::r,d=>if k == .free then(match cells.lookup n with
  |some c=>dU cells r ((n,c)::d)|none=>none) else dU cells r d
theorem kG{cl:List (Str×Addr)}(h:dU env.cells sc.names []=some cl):closureFor sc env=pure cl:=by
 simp only[closureFor];generalize ([]:List (Str×Addr))=cs at h ⊢;generalize sc.names=l at h ⊢
 induction l generalizing cs with
 |nil=>cases h;rfl
 |cons a r J =>
  obtain⟨n,k⟩:=a;unfold dU at h;rw[List.forIn_cons];by_cases d:(k == NameKind.free)=true
  ·rw[zzn d]at h;cases e:env.cells.lookup n with
   |none=>rw[e]at h;cases h
   |some c =>
    rw[e]at h;have:=J _ h;simp only[d,if_true,cellOf,e,pure_bind];exact this
  ·rw[zzi d]at h;have:=J _ h;simp only[d,zxu,zwj,pure_bind];exact this
theorem lT{cells cl:List (Str×Addr)}:∀{l:List (Str×NameKind)} {g:List (Str×Addr)},dU cells l g=some cl->(∀y c,g.lookup y=some c->cells.lookup y=some c)->∀y c,cl.lookup y=some c->cells.lookup y=some c
 |[],g,h,m,y,c,e=>by cases h;exact m y c e
 |(n,k)::r,g,h,m,y,c,e=>by
  unfold dU at h;by_cases G:(k == NameKind.free)=true
  ·rw[zzn G]at h;cases q:cells.lookup n with
   |none=>rw[q]at h;cases h
   |some c' =>
    rw[q]at h;refine lT h (λz d s=>?_) y c e;by_cases J:(z == n)=true
    ·rw[zym,J]at s;cases s;rw[eq_of_beq J];exact q
    ·rw[zym,(Bool.not_eq_true _).mp J]at s;exact m z d s
  ·rw[zzi G]at h;exact lT h m y c e
theorem jb{cells cl:List (Str×Addr)}:∀{l:List (Str×NameKind)} {d:List (Str×Addr)},dU cells l d=some cl->∀y,((y,NameKind.free)∈l∨∃c,d.lookup y=some c)->∃c,cl.lookup y=some c
 |[],d,h,y,e=>by
  cases h;rcases e with e|e
  ·simp at e
  ·exact e
 |(n,k)::r,d,h,y,e=>by
  unfold dU at h;by_cases g:(k == NameKind.free)=true
  ·rw[zzn g]at h;cases q:cells.lookup n with
   |none=>rw[q]at h;cases h
   |some m =>
    rw[q]at h;refine jb h y ?_;rcases e with e|⟨c,e⟩
    ·rcases zzk.mp e with e|e
     ·cases e;exact .inr ⟨m,by rw[zym,beq_self_eq_true]⟩
     ·exact .inl e
    ·by_cases J:(y == n)=true
     ·exact .inr ⟨m,by rw[zym,J]⟩
     ·exact .inr ⟨c,by rw[zym,(Bool.not_eq_true _).mp J];exact e⟩
  ·rw[zzi g]at h;refine jb h y ?_;rcases e with e|e
   ·rcases zzk.mp e with e|e
    ·cases e;exact absurd rfl g
    ·exact .inl e
   ·exact .inr e
inductive Cap(X:Cx)(scope:Scope):List Str->List (Option Nat)->Prop where
 |nil:Cap X scope [] []
 |own {x:Str} {N:List Str} {js:List (Option Nat)} (h:Cap X scope N js):Cap X scope (x::N) (none::js)
 |cap {x:Str} {j:Nat} {N:List Str} {js:List (Option Nat)} (h1:X.N[j]? = some x) (h2:X.env.kindOf x=some .cell∨X.env.kindOf x=some .free)
   (h3:scope.names.lookup x=some .free) (h:Cap X scope N js):Cap X scope (x::N) (some j::js)
noncomputable def sub1(σ:St):Option Nat->Option V
 |none=>none|some j=>(σ[j]?).join
noncomputable def sub(js:List (Option Nat))(σ:St):St:=js.map (sub1 σ)
theorem Cap.len{X:Cx}{d:List (Option Nat)}(h:Cap X sc N d):d.length=N.length:=by induction h<;>simp[*]
theorem Cap.at{X:Cx}{d:Scope}{N:List Str}{n:List (Option Nat)}(h:Cap X d N n):∀{i:Nat} {x:Str} {σ:St} {v:V},N[i]? = some x->(sub n σ)[i]? = some (some v) ->
  ∃j:Nat,X.N[j]? = some x/\σ[j]? = some (some v)/\(X.env.kindOf x=some .cell∨X.env.kindOf x=some .free)/\d.names.lookup x=some .free:=by
 induction h with
 |nil=>intro i x σ v h;simp at h|own h J =>
  intro i x σ v m g;cases i with
  |zero=>simp[sub,sub1]at g|succ i=>exact J (by simpa using m) (by simpa[sub]using g)
 |@cap x j N n r s L h J =>
  intro i y σ v m g;cases i with
  |zero =>
   simp at m;subst m;simp[sub,sub1]at g;refine⟨j,r,?_,s,L⟩;cases q:σ[j]? with
   |none=>rw[q]at g;simp at g|some o=>rw[q]at g;simp at g;rw[g]
  |succ i=>exact J (by simpa using m) (by simpa[sub]using g)
noncomputable def eU(X:Cx)(scope:Scope)(cl:List (Str×Addr))(C:Addr)(N':List Str)(L:Shared)(J:Hp)(fp:List Addr)(pins:List (Addr×Obj)):Cx :=
 { X with N:=N',s₀:=L,H₀:=J,env:=compEnvC scope cl C X.env,outer:=X.stack,ex:=fp,fn:=λy=>scope.names.lookup y == some .cell,pn:=X.pn++pins,xe:=λ_ _=>False }
structure Blk where
 C:Addr
 s3:Shared
 H3:Hp
 fp:List Addr
 pins:List (Addr×Obj)
noncomputable abbrev cxB(X:Cx)(scope:Scope)(cl:List (Str×Addr))(N':List Str)(B:Blk):Cx:=eU X scope (cellsFrom (B.C+1) scope.names cl) B.C N' B.s3 B.H3 B.fp B.pins
def PTs(X:Cx)(ifs:List Expr)(t:TT):Prop :=
 ∀(pins:List (Addr×Obj)) (s:Shared) (σ:St) (H:Hp) (Q:Bool->Hp->Prop),Inv X pins σ H s->t σ H Q ->
  wpAny (model X.prog X.w) X.A (forIn ifs true λc r=>if r=true then do let ok ←isTrue c X.env (eval c X.env);pure (ForInStep.yield ok) else pure (ForInStep.yield r)) (TP X pins σ Q) X.xe s
def Gf:TT:=λ_ H Q=>Q true H
theorem Gg{X:Cx}:PTs X [] Gf:=λ_ _ _ H _ I h=>wpAny_tests_nil ⟨H,I,h⟩
theorem Gh{X:Cx}{c:Expr}{t:TT}(h:PT X c t):PTs X [c] t:=λpins s σ H Q I q=>wpAny_tests_one (h pins s σ H Q I q)
def Gi(wi:TI)(js:List (Option Nat))(g:Blk->TG)(tc:Blk->TT)(te:Blk->TE):TE:=λσ H Q=>wi σ H λJ H1=>∀(B:Blk) D,H1 D=none->∃W:Nat->Nat->St->Hp->Prop,(∃m,W 0 m (sub js σ) (upd H1 D (.lst [])))/\∀i m n d,W i m n d ->
 (J.stop i d/\Q (.ref D) d)∨(J.go i d/\∃N:St->Hp->Prop,(∀U H2,N U H2->∃s,s<m/\W (i+1) s U H2)/\∀y H2,J.yld i d y H2->g B y n H2 λL G=>tc B L G λb Y =>
  if b=true then te B L Y λv r=>∃q,r D=some (.lst q)/\q.length<sizeLine/\N L (upd r D (.lst (q++[v]))) else N L Y)
theorem uM{y:Str}(h:(relabel sc env).names.lookup y=some .cell∨(relabel sc env).names.lookup y=some .free):(y,NameKind.free)∈sc.names∨(y,NameKind.cell)∈sc.names:=by
 have key:∀k,(y,k)∈(relabel sc env).names->(k=.cell∨k=.free)->(y,NameKind.free)∈sc.names∨(y,NameKind.cell)∈sc.names:=by
  intro k m g;obtain⟨⟨n,q⟩,d,e⟩:=zzs.mp m;dsimp only at e;split at e
  ·rename_i c;simp only[zzX]at c;have:q=.free:=eq_of_beq c.1.1;subst this;cases e;exact .inl d
  ·cases e;rcases g with rfl|rfl
   ·exact .inr d
   ·exact .inl d
 rcases h with h|h
 ·exact key _ (zyi h) (.inl rfl)
 ·exact key _ (zyi h) (.inr rfl)
theorem oO{y:Str}(h:sc.names.lookup y=some .free):(relabel sc env).names.lookup y=some .cell∨(relabel sc env).names.lookup y=some .free:=by
 show (List.lookup y (sc.names.map _))=_∨(List.lookup y (sc.names.map _))=_;generalize sc.names=l at h
 induction l with
 |nil=>simp at h|cons a r J =>
  obtain⟨n,k⟩:=a;rw[zym]at h;rw[zzh];cases e:y == n with
  |true =>
   rw[e]at h;cases h;dsimp only;split
   ·left;rw[zym,e]
   ·right;rw[zym,e]
  |false =>
   rw[e]at h;dsimp only;split<;>(rw[zym,e];exact J h)
theorem bI:∀(d:List (Str×NameKind)) (n:Nat) (J:List (Str×Addr)),cellsFrom n d J=cellsFrom n d []++J
 |[],_,_=>rfl|(x,k)::r,n,J=>by
  unfold cellsFrom;split
  ·rw[bI r (n+1) ((x,n)::J),bI r (n+1) [(x,n)],zzO];rfl
  ·exact bI r n J
theorem fm:∀(d:List (Str×NameKind)) (n:Nat) (y:Str) (c:Addr),(y,c)∈cellsFrom n d []->(y,NameKind.cell)∈d
 |[],_,_,_,h=>(nomatch h)|(x,k)::r,n,y,c,h=>by
  unfold cellsFrom at h;split at h
  ·rename_i g;rw[bI]at h;rcases zzo.mp h with h|h
   ·exact zzc _ (fm r _ y c h)
   ·have e:=zzw.mp h;cases e;rw[show k=.cell from eq_of_beq g];exact zzg
  ·exact zzc _ (fm r _ y c h)
theorem kH:∀{l:List (Str×Addr)} {y:Str} {c:Addr},(y,c)∈l->∃d,l.lookup y=some d
 |(x,k)::r,y,c,h=>by
  rw[zym];cases e:y == x with
  |true=>exact⟨_,rfl⟩|false =>
   rcases zzk.mp h with h|h
   ·cases h;simp at e
   ·exact kH h
theorem gl:∀(d:List (Str×NameKind)) (n:Nat) (y:Str),(y,NameKind.cell)∈d->∃c,(y,c)∈cellsFrom n d []
 |(x,k)::r,n,y,h=>by
  unfold cellsFrom;split
  ·rw[bI];rcases zzk.mp h with h|h
   ·cases h;exact⟨n,zzQ _ (zzw.mpr rfl)⟩
   ·obtain⟨c,q⟩:=gl r (n+1) y h;exact⟨c,zyn _ q⟩
  ·rename_i g;rcases zzk.mp h with h|h
   ·cases h;exact absurd rfl g
   ·exact gl r n y h
theorem fX{r:List (Str×Addr)}{y:Str}{c:Addr}(h:(l++r).lookup y=some c):l.lookup y=some c∨(l.lookup y=none/\r.lookup y=some c):=by
 rw[zwY]at h;cases e:l.lookup y with
 |none=>rw[e]at h;exact .inr ⟨rfl,h⟩|some d=>rw[e]at h;exact .inl h
theorem oP{r:List (Str×Addr)}{y:Str}{c:Addr}(h:l.lookup y=some c):(l++r).lookup y=some c:=by rw[zwY,h];rfl
theorem oQ{r:List (Str×Addr)}{y:Str}(h:l.lookup y=none):(l++r).lookup y=r.lookup y:=by rw[zwY,h];rfl
theorem nH{s:Shared}{cl:List (Str×Addr)}{Q:Env->Shared->Prop}(h:∀h₁:Heap,h₁.Ns s.heap.objs.size (λ_=>none)->(∀b o,s.heap.get? b=some o->h₁.get? b=some o)->CellsOk h₁ (s.heap.objs.size+1) (cellsFrom (s.heap.objs.size+1) sc.names []) ->
   Q (newEnv sc s.heap.objs.size ea (cellsFrom (s.heap.objs.size+1) sc.names cl) x none .none (some env) builtinsNs) { s with heap:=h₁ }) :
  wpAny M A (newFunctionEnv sc ea cl [] x none .none (some env)) Q E s:=by
 simp only[newFunctionEnv,Option.isSome_some,if_true];refine zzb (wpAny_alloc ?_);refine zzb (wpAny_layCells _ (λname kind cells=>by cases J:kind == NameKind.cell<;>simp[J]) _ _ _ _ ?_);have ok:=cellsFrom_ok sc.names (s.heap.push { cls:=.type "dict",data:=.dict #[] }) (s.heap.objs.size+1) [] ⟨λ_ _ d=>(nomatch d),List.Pairwise.nil⟩ (by rw[zyj];exact zzr _);rw[zyj]at ok;rw[show ({ s with heap:=s.heap.push { cls:=.type "dict",data:=.dict #[] } }:Shared).heap.objs.size=s.heap.objs.size+1 from zyj ..];rw[List.forIn_nil];exact zzb (zzp (zzp (h _ ((Heap.Ns.new s.heap (.type "dict")).keeps (pushCells_keeps _ _)) (λb o e=>pushCells_keeps _ _ b o (zzf _ e)) ok)))
section
variable{s:Shared}{scope:Scope}{cl:List (Str×Addr)}{N':List Str}{js:List (Option Nat)}
theorem Dc(I:Inv X pins σ H s)(J:dU X.env.cells scope.names []=some cl)(a2:∀y∈scope.names,y.2=.free->(y.1,NameKind.cell)∉scope.names)(a0:scope.kind=.function)(cap:Cap X scope N' js)(x:∀b∈fp,FpOk X pins H b)(N:∀b∈fp,∃o,s.heap.get? b=some o)(a4:h₁.Ns s.heap.objs.size (λ_=>none))(w:∀b o,s.heap.get? b=some o->h₁.get? b=some o)(Y:CellsOk h₁ (s.heap.objs.size+1) (cellsFrom (s.heap.objs.size+1) scope.names [])) :
  Inv (eU X scope (cellsFrom (s.heap.objs.size+1) scope.names cl) s.heap.objs.size N' s H fp pins) [] (sub js σ) H { s with heap:=h₁,toks:=t' }:=by
 have g:=lT J (λy c e=>by simp at e);rw[bI];generalize E:cellsFrom (s.heap.objs.size+1) scope.names []=nw at Y ⊢;have nk:∀y c,(y,c)∈nw->(y,NameKind.cell)∈scope.names:=λy c h=>by rw[←E]at h;exact fm _ _ y c h
 have nh:∀y,(y,NameKind.cell)∈scope.names->∃c,nw.lookup y=some c:=λy h=>by obtain⟨c,q⟩:=gl scope.names (s.heap.objs.size+1) y h;rw[E]at q;exact kH q
 have n:∀y c,nw.lookup y=some c->h₁.IsCell c none/\s.heap.objs.size+1 <= c:=λy c h=>Y.empty y c (zyi h);have old:∀y c,cl.lookup y=some c->c<s.heap.objs.size:=λy c h=>by obtain⟨v,o,U,G⟩:=I.cell y c (g y c h);exact zzz U
 have nf:∀y,(y,NameKind.free)∈scope.names->nw.lookup y=none:=λy h=>by
  cases e:nw.lookup y with
  |none=>rfl|some c=>exact absurd (nk y c (zyi e)) (a2 _ h rfl)
 refine⟨⟨I.ok.mod,a0,I.ok.glob,I.ok.blt,zzr _,λy z c l B=>?_,λy hy=>?_,λy c z h=>?_,I.ok.hd,I.ok.frames,.inl rfl,λb L=>⟨?_,λy c h=>?_⟩,I.bs,zzq I.ok.bsz I.sz,λb o e L=>?_,λb L=>?_,I.stack,I.stkFree⟩,
  rfl,I.bare,Un.kept w,⟨_,a4,λi y v l B h3=>?_⟩,λy c h=>?_,I.hok.fresh (zzr _),λy c h=>?_,λp C=>?_,I.hok.kept w,?_⟩
 ·rcases fX l with a|⟨_,a⟩<;>rcases fX B with b|⟨_,b⟩
  ·exact name_of_addr Y.apart (zyi a) (zyi b)
  ·exact absurd (zzE (old z c b) (zwb (n y c a).2)) (zyD _)
  ·exact absurd (zzE (old y c a) (zwb (n z c b).2)) (zyD _)
  ·exact I.ok.inj y z c (g y c a) (g z c b)
 ·show ∃c,(nw++cl).lookup y=some c;rcases uM hy with q|q
  ·obtain⟨c,e⟩:=jb J y (.inl q);exact⟨c,by rw[oQ (nf y q)];exact e⟩
  ·obtain⟨c,e⟩:=nh y q;exact⟨c,oP e⟩
 ·have z:(y,NameKind.cell)∈scope.names:=zyi (eq_of_beq z);obtain⟨d,e⟩:=nh y z;have h:(nw++cl).lookup y=some c:=h;rw[oP e]at h;have h:d=c:=zzV h;rw[←h];exact zwb (n y d e).2
 ·obtain⟨o,e⟩:=N b L;exact zzL (zzz e)
 ·rcases fX h with a|⟨_,a⟩
  ·obtain⟨o,e⟩:=N b L;rintro rfl;exact absurd (zzE (zzz e) (zwb (n y c a).2)) (zyD _)
  ·exact(x b L).2.2.2.2.1 y c (g y c a)
 ·have fb:=x b L;rcases fb.2.2.2.1 with z|z
  ·exact I.ok.noex b o e z
  ·have l:b<X.base.objs.size:=zzz e;exact absurd (zzE l (zzq I.ok.bsz z)) (zyD _)
 ·intro z;have:=I.stkSub b z;rcases zzk.mp this with z|z
  ·exact(x b L).2.1 z
  ·exact(x b L).2.2.1 z
 ·obtain⟨j,k1,k2,Q,T⟩:=cap.at l B;obtain⟨m,hm,hl⟩:=I.loc;have a5:Vis X.env.scope y:=by
   rcases Q with k|k
   ·exact .inr (.inl k)
   ·exact .inr (.inr k)
  obtain⟨u,r,lk⟩:=hl j y v k1 k2 a5;refine⟨u,r,.inr ⟨oO T,?_⟩⟩;have A:(y,NameKind.free)∈scope.names:=zyi T;rcases lk with ⟨k5,_⟩|⟨_,c,e1,e2⟩
  ·rcases Q with k|k<;>(rw[k]at k5;cases k5)
  ·obtain⟨c',M⟩:=jb J y (.inl A);have:=g y c' M;rw[e1]at this;cases this;refine⟨c,by show (nw++cl).lookup y=some c;rw[oQ (nf y A)];exact M,?_⟩;obtain⟨o,U,G⟩:=e2;exact⟨o,w _ _ U,G⟩
 ·rcases fX h with a|⟨_,a⟩
  ·exact⟨_,(n y c a).1⟩
  ·obtain⟨v,o,U,G⟩:=I.cell y c (g y c a);exact⟨v,o,w _ _ U,G⟩
 ·rcases fX h with a|⟨_,a⟩
  ·exact I.hok.fresh (zwb (n y c a).2)
  ·exact I.freeC y c (g y c a)
 ·have C:p∈X.pn++pins:=by simpa[eU]using C
  obtain⟨U,G,q3,A,q5⟩:=I.pin p C;refine⟨w _ _ U,G,zzL (zzz U),λz=>?_,q5⟩;have:=I.stkSub p.1 z;rcases zzk.mp this with z|z
  ·exact q3 z
  ·exact A z
 ·simp[sub,cap.len];rfl
theorem IF{fs:List Addr}{h':Heap}(J:C∈ex)(hs:Heap.SameBut C h h'):Un fs ex H H h h' where
 keep:=λb o e _ _ d=>by rw[hs.2 b (by rintro rfl;exact d J)];exact e
 slot:=λb o e _ _ d=>⟨o.slots,by rw[hs.2 b (by rintro rfl;exact d J)];exact e⟩
 free:=λb o _ n _=>n
 there:=λb o e d=>⟨o,by rw[hs.2 b (by rintro rfl;exact d J)];exact e⟩
 tups:=λ_ _ h=>h
 frzs:=λ_ _ _ h=>h
 tbls:=λb ps h=>⟨#[],by simpa using h⟩
theorem Inv.but{h':Heap}(I:Inv X pins σ H s)(f:FpOk X pins H C)(hs:Heap.SameBut C s.heap h'):Inv X pins σ H { s with heap:=h' }:=by
 refine I.call' (s':={ s with heap:=h' }) (ch:=[C]) rfl (IF zzg hs) ?_ I.bare (λb J=>?_)
 ·intro a o e;refine ObjOk.stay (I.hok a o e) (λb u J q=>?_) (λ_ h=>h) (λ_ _ h=>h);show h'.get? b=some u;rw[hs.2 b]
  ·exact q
  ·rintro rfl;rcases J with rfl|J
   ·rw[f.1]at e;cases e
   ·rw[f.1]at J;cases J
 ·have:b=C:=by simpa using J
  subst this;exact⟨f.2.2.2.1,f.2.1,f.2.2.2.2.1,f.2.2.2.2.2⟩
variable{elt iter:Expr}{ifs:List Expr}{wi:TI}{g:TG}{tc:TT}{te:TE}{Q:VK}{gB:Blk->TG}{tcB:Blk->TT}{teB:Blk->TE}
theorem Aj{prog:Program}{R:Result->Shared->Prop}{e:Expr}{ps:Pos}(J:Nat->Shared->Prop)(turn:∀k z,J k z->wpAny (model prog w) A (pyNext v) (λr L=>match r with
   |none=>R (.ok .next) L| some u=>wpAny (model prog w) A (letOwnedTupleGo tg v u) (λ_ n=>wpAny (model prog w) A (assign tg env u) (λ_ G =>
     wpAny (model prog w) A (forIn es true λc r=>if r=true then do let ok ←isTrue c env (eval c env);pure (ForInStep.yield ok) else pure (ForInStep.yield r)) (λb U =>
      if b=true then wpAny (model prog w) A (eval e env) (λy I =>
       wpAny (model prog w) A (call (.builtin "list.append") [cls,y]) (λ_ a=>∃m,m<k/\J m a) (λ_ _=>False) I) (λ_ _=>False) U
      else ∃m,m<k/\J m U) (λ_ _=>False) G) (λ_ _=>False) n) (λ_ _=>False) L) (λ_ _=>False) z)(k:Nat)(h:J k z):codeAny (model prog w) A (.compLoop (.ListComp e [⟨tg,it0,es,0⟩] sc ps) 0 v cls env) R z:=by
 have no:∀{α:Type} {m:Sem α} {P:α->Shared->Prop} {E:Value->Shared->Prop} {z:Shared},wpAny (model prog w) A m P (λ_ _=>False) z->wpAny (model prog w) A m P E z:=λh=>zyS h (λ_ _ q=>q) λ_ _ q=>q.elim;refine codeAny_loop rfl J (λk z g=>?_) k h;show wpAny _ A ((compTurn (.ListComp e [⟨tg,it0,es,0⟩] sc ps) 0 v cls env).onRaise (λx=>do noteFrame x env;theTreesLotGoes x)) _ _ z;refine wpAny_noted ?_;rw[compTurn_list];refine zzb (zwl (zzb (no (thn (turn k z g) λr L Y=>?_))));cases r with
 |none=>exact zzp Y|some u =>
  refine zzb (no (thn Y λ_ n i=>zzb (no (thn i λ_ G j=>zzb (no (thn j λb U d=>?_))))));cases b with
  |false=>exact zzp ⟨rfl,d⟩|true=>exact zzb (zzb (no (thn d λy I l=>zzb (no (thn l λ_ a o=>zzp (zzp ⟨rfl,o⟩))))))
theorem yT{RR:Value->Addr->Result->Shared->Prop}{s3:Shared}{D:Addr}{tn:Nat->Heap->Prop}{J:It}{W:Nat->Nat->St->Hp->Prop}(hc:X.calm=true)(a8:dU X.env.cells scope.names []=some cl)(a9:∀y∈scope.names,y.2=.free->(y.1,NameKind.cell)∉scope.names)(a4:scope.kind=.function)(cap:Cap X scope N' js)(L:PG (eU X scope (cellsFrom (s3.heap.objs.size+1) scope.names cl) s3.heap.objs.size N' s3 H fp pins) tg g/\PTs (eU X scope (cellsFrom (s3.heap.objs.size+1) scope.names cl) s3.heap.objs.size N' s3 H fp pins) ifs tc/\PE (eU X scope (cellsFrom (s3.heap.objs.size+1) scope.names cl) s3.heap.objs.size N' s3 H fp pins) elt te)(s:Inv X pins σ H s3)(T:Turn X.prog X.w X.K tg J fp ea tn)(b2:tn 0 s3.heap)(z:∀b∈fp,FpOk X pins H b)(w0:W 0 m0 (sub js σ) H)(turn:∀i m G H',W i m G H'->(J.stop i H'/\Q (.ref D) H')∨(J.go i H'/\∃N:St->Hp->Prop,(∀b5 H2,N b5 H2->∃B,B<m/\W (i+1) B b5 H2)/\∀y H2,J.yld i H' y H2->g y G H2 λa0 H=>tc a0 H λb I =>
   if b=true then te a0 I λv H5=>∃ys,H5 D=some (.lst ys)/\ys.length<sizeLine/\N a0 (upd H5 D (.lst (ys++[v]))) else N a0 I))(c1:h₁.Ns s3.heap.objs.size (λ_=>none))(hk:∀b o,s3.heap.get? b=some o->h₁.get? b=some o)(b8:CellsOk h₁ (s3.heap.objs.size+1) (cellsFrom (s3.heap.objs.size+1) scope.names []))(hR:∀s' H' m,Inv X pins σ H' s'->FpOk X pins H' s3.heap.objs.size->s'.heap.Ns s3.heap.objs.size m->Q (.ref D) H'->RR (.ref D) s3.heap.objs.size (.ok .next) s') :
  codeAny (model X.prog X.w) X.A (.compStart (.ListComp elt [⟨tg,iter,ifs,0⟩] scope pos) 0 (.ref ea) (.ref D) (compEnvC scope (cellsFrom (s3.heap.objs.size+1) scope.names cl) s3.heap.objs.size X.env)) (RR (.ref D) s3.heap.objs.size) { s3 with heap:=h₁,toks:=t' }:=by
 have b1:∀b∈fp,∃o,s3.heap.get? b=some o:=λb L=>let ⟨o,e,_⟩:=T.obj _ _ b2 b L;⟨o,e⟩
 have C:Inv (eU X scope (cellsFrom (s3.heap.objs.size+1) scope.names cl) s3.heap.objs.size N' s3 H fp pins) [] (sub js σ) H { s3 with heap:=h₁,toks:=t' }:=Dc s a8 a9 a4 cap z b1 c1 hk b8;have b4:tn 0 h₁:=T.keep _ _ _ b2 λb _ o e=>hk b o e;have l:FpOk X pins H s3.heap.objs.size:=s.fpOk (zzr _) (s.hok.fresh (zzr _));obtain⟨bg,bt,be⟩:=L;have Y:∀{H':Hp},(∀b∈fp,H' b=none)->∀b∈fp,FpOk (eU X scope (cellsFrom (s3.heap.objs.size+1) scope.names cl) s3.heap.objs.size N' s3 H fp pins) [] H' b:=λ{H'} hn b L=>by obtain⟨o,e⟩:=b1 b L;refine⟨hn b L,zzL (zzz e),C.ok.exfs b L,.inl L,λy c h=>(C.ok.exf b L).2 y c h,λp hp=>?_⟩;exact(z b L).2.2.2.2.2 p (by simpa[eU]using hp)
 have a3:codeAny (model X.prog X.w) X.A (.compLoop (.ListComp elt [⟨tg,iter,ifs,0⟩] scope pos) 0 (.ref ea) (.ref D) (compEnvC scope (cellsFrom (s3.heap.objs.size+1) scope.names cl) s3.heap.objs.size X.env)) (RR (.ref D) s3.heap.objs.size) { s3 with heap:=h₁,toks:=t' }:=by
  refine Aj (λn s'=>∃i G H',Inv (eU X scope (cellsFrom (s3.heap.objs.size+1) scope.names cl) s3.heap.objs.size N' s3 H fp pins) [] G H' s'/\tn i s'.heap/\(∀b∈fp,H' b=none)/\W i n G H') (λn s4 hJ=>?_) m0 ⟨0,sub js σ,H,C,b4,λb L=>(z b L).1,w0⟩;obtain⟨i,x,I,I4,b3,a7,w4⟩:=hJ;rcases turn i n x I w4 with ⟨stop,q⟩|⟨go,N,hN,step⟩
  ·refine thn (T.done (eU X scope (cellsFrom (s3.heap.objs.size+1) scope.names cl) s3.heap.objs.size N' s3 H fp pins) rfl rfl rfl hc i [] s4 x I _ I4 (Y a7) b3 stop) λr s5 q=>?_;obtain⟨rfl,a⟩:=q;have u:Un (frs X.stack) fp H I s3.heap s5.heap:=a.base;have free:I s3.heap.objs.size=none:=a.free;have a6:Inv X pins σ I s5:=by
    refine s.call' (s':=s5) (ch:=s3.heap.objs.size::fp) a.os (u.mono (λ_ h=>h) λb h=>zzc _ h) a.hok a.bare (λb L=>?_);rcases zzk.mp L with rfl|L
    ·exact⟨l.2.2.2.1,l.2.1,l.2.2.2.2.1,l.2.2.2.2.2⟩
    ·have:=z b L;exact⟨this.2.2.2.1,this.2.1,this.2.2.2.2.1,this.2.2.2.2.2⟩
   obtain⟨m,M,_⟩:=a.loc;exact hR s5 I m a6 ⟨free,l.2⟩ M q
  ·refine thnG (T.item (eU X scope (cellsFrom (s3.heap.objs.size+1) scope.names cl) s3.heap.objs.size N' s3 H fp pins) rfl rfl rfl hc i [] s4 x I _ I4 (Y a7) b3 go) λr s5 u hr h5=>?_;subst hr;refine thn h5 λ_ s6 q0=>?_;obtain⟨y,H6,I6,r6,y6,E,c0⟩:=q0;have b7:=I6.pinned (Y c0) (T.obj _ _ E);refine thnF (bg _ s6 x H6 y u _ b7 r6 (step y H6 y6)) λ_ s7 U H7 I7 q7=>?_;refine thnG (bt _ s7 U H7 _ I7 q7) λb s8 H8 I8 q8=>?_;have again:∀{H':Hp} {s':Shared},Inv (eU X scope (cellsFrom (s3.heap.objs.size+1) scope.names cl) s3.heap.objs.size N' s3 H fp pins) ([]++uq fp s6.heap) U H' s'->N U H'->∃m,m<n/\∃i G H',Inv (eU X scope (cellsFrom (s3.heap.objs.size+1) scope.names cl) s3.heap.objs.size N' s3 H fp pins) [] G H' s'/\tn i s'.heap/\(∀b∈fp,H' b=none)/\W i m G H':=λ{H' s'} j n9=>by
    obtain⟨B,M,w9⟩:=hN U H' n9;refine⟨B,M,i+1,U,H',j.unpinned,T.keep _ _ _ E λb L o e=>(j.pin (b,o) (zzQ _ (zzQ _ (iZ L e)))).1,λb L=>?_,w9⟩;obtain⟨o,e,d⟩:=T.obj _ _ E b L;exact(j.pin (b,o) (zzQ _ (zzQ _ (iZ L e)))).2.1
   cases b with
   |false=>exact iteF (again I8 q8)|true =>
    refine iteT (thn (be _ s8 U H8 _ I8 q8) λyv s9 q0=>?_);obtain⟨v9,H9,j,r9,ys,hD,hl,n9⟩:=q0;exact thnE (oG _ s9 U H9 (.ref D) [v9] (.ref D) [yv] (λ_ H'=>H'=upd H9 D (.lst (ys++[v9]))) j rfl (.cons r9 .nil) ⟨D,ys,v9,rfl,rfl,hD,hl,rfl⟩) λ_ s10 _ H10 b6 _ b9=>by subst b9;exact again b6 n9
 exact codeAny_compStart_list a3 (T.self _ 0 _ _ _ b4 a3)
theorem xA{RR:Value->Addr->Result->Shared->Prop}(N:X.calm=true)(u:dU X.env.cells scope.names []=some cl)(x:∀y∈scope.names,y.2=.free->(y.1,NameKind.cell)∉scope.names)(a0:scope.kind=.function)(cap:Cap X scope N' js)(hi:PI X tg iter wi)(r:∀B:Blk,PG (cxB X scope cl N' B) tg (gB B)/\PTs (cxB X scope cl N' B) ifs (tcB B)/\PE (cxB X scope cl N' B) elt (teB B))(I:Inv X pins σ H s)(h:Gi wi js gB tcB teB σ H Q)(M:∀D C s' n m,Inv X pins σ n s'->FpOk X pins n C->s'.heap.Ns C m->Q (.ref D) n->RR (.ref D) C (.ok .next) s') :
  wpAny (model X.prog X.w) X.A (eval iter X.env) (λv j=>wpAny (model X.prog X.w) X.A (pyIter v) (λi d=>wpAny (model X.prog X.w) X.A (newList []) (λc s3 =>
   wpAny (model X.prog X.w) X.A (newFunctionEnv scope X.env.globals cl [] X.env.qual none .none (some X.env)) (λY s4 =>
    codeAny (model X.prog X.w) X.A (.compStart (.ListComp elt [⟨tg,iter,ifs,0⟩] scope pos) 0 i c { Y with scope:=relabel scope X.env }) (RR c Y.locals) s4) X.xe s3) X.xe d) X.xe j) X.xe s:=by
 refine thn (hi pins s σ H _ I h) λv j E=>thn E λitv d G=>?_;obtain⟨i,fp,tn,J,H2,e,a,T,g,f2,G⟩:=G;subst e;have z:H2 d.heap.objs.size=none:=a.hok.fresh (zzr _);obtain⟨W,⟨m0,w0⟩,q⟩:=G ⟨(d.heap.push { cls:=.type "list",data:=.seq ([]:List Value).toArray }).objs.size,{ d with heap:=d.heap.push { cls:=.type "list",data:=.seq ([]:List Value).toArray } },upd H2 d.heap.objs.size (.lst []),fp,pins⟩ d.heap.objs.size z;refine zxC (nH (λh₁ U p L=>?_));have l:Inv X pins σ (upd H2 d.heap.objs.size (.lst [])) { d with heap:=d.heap.push { cls:=.type "list",data:=.seq ([]:List Value).toArray } }:=a.lnew .nil (zya _);refine yT (s3:={ d with heap:=d.heap.push { cls:=.type "list",data:=.seq ([]:List Value).toArray } }) (cl:=cl) (fp:=fp) N u x a0 cap (r ⟨(d.heap.push { cls:=.type "list",data:=.seq ([]:List Value).toArray }).objs.size,{ d with heap:=d.heap.push { cls:=.type "list",data:=.seq ([]:List Value).toArray } },upd H2 d.heap.objs.size (.lst []),fp,pins⟩) l T ?_ (λb r=>?_) w0 q U p L (λs' n m=>M _ _ s' n m)
 ·exact T.keep _ _ _ g λb _ o e=>zzf _ e
 ·have:=f2 b r;obtain⟨o,e,_⟩:=T.obj _ _ g b r;exact⟨by show upd H2 d.heap.objs.size (.lst []) b=none;rw[ah (zzL (zzz e))];exact this.1,this.2⟩
theorem Gj(b:X.calm=true)(U:dU X.env.cells scope.names []=some cl)(Y:∀y∈scope.names,y.2=.free->(y.1,NameKind.cell)∉scope.names)(J:scope.kind=.function)(cap:Cap X scope N' js)(L:∀y∈scope.names,y.2=.local->scope.names.lookup y.1=some .local)(c:PI X tg iter wi)(a:∀B:Blk,PG (cxB X scope cl N' B) tg (gB B)/\PTs (cxB X scope cl N' B) ifs (tcB B)/\PE (cxB X scope cl N' B) elt (teB B))(hs:∀v,foldedSetIterable iter X.env v=pure v:=by intro _;rfl):PE X (.ListComp elt [⟨tg,iter,ifs,0⟩] scope pos) (Gi wi js gB tcB teB):=by intro pins s σ H Q I h;rw[eval_ListComp];refine wpAny_comprehension_free (use:=none) rfl hs (kG U) J L (xA (RR:=λr C=>compPost (model X.prog X.w) X.A X.xe none (EP X pins σ Q) r C) b U Y J cap c a I h ?_);intro D C s' d m n f e q;exact⟨m,e,λh' G=>⟨.ref D,d,n.but f G,rfl,q⟩⟩
theorem Ak{i:Nat}{y:Str}{d:Pos}(E:X.N.Nodup)(hy:X.N[i]? = some y)(b:X.env.scope.names.lookup y=some .local)(T:X.calm=true)(U:dU X.env.cells scope.names []=some cl)(Y:∀y∈scope.names,y.2=.free->(y.1,NameKind.cell)∉scope.names)(J:scope.kind=.function)(cap:Cap X scope N' js)(L:∀y∈scope.names,y.2=.local->scope.names.lookup y.1=some .local)(hi:PI X tg iter wi)(M:∀B:Blk,PG (cxB X scope cl N' B) tg (gB B)/\PTs (cxB X scope cl N' B) ifs (tcB B)/\PE (cxB X scope cl N' B) elt (teB B))(x:swapsWith (.ListComp elt [⟨tg,iter,ifs,0⟩] scope pos) (some (.Name y py)) d.line X.env=pure true:=by rfl)(hs:∀v,foldedSetIterable iter X.env v=pure v:=by intro _;rfl):PS X (.Assign [.Name y py] (.ListComp elt [⟨tg,iter,ifs,0⟩] scope pos) d) (tAsg (Gi wi js gB tcB teB) (gName i)):=by
 intro pins s σ H D I h;rw[exec_Assign_Name_used _ _ _ _ x];refine zzb (zwl (zzb ?_));show wpAny _ X.A (do let _ ←comprehension (.ListComp elt [⟨tg,iter,ifs,0⟩] scope pos) scope X.env _ (newList []) false (eval iter X.env) (some (assign (.Name y py) X.env))) _ _ s;refine zzb (thn (wpAny_comprehension_free (use:=some (assign (.Name y py) X.env)) (Q:=λ_ n=>SP X pins D .next n) rfl hs (kG U) J L
  (xA (RR:=λj C=>compPost (model X.prog X.w) X.A X.xe (some (assign (.Name y py) X.env)) (λ_ n=>SP X pins D .next n) j C) T U Y J cap hi M I h ?_)) λ_ n q=>zzp (zzp q))
 intro G C n c m e f hm q;show wpAny _ X.A (assign (.Name y py) X.env (.ref G)) _ _ _;refine wpAny_assign_Name (uh e E hy (.inl b) (v:=.ref G) rfl (λs2 g o=>?_) (.inr b));obtain⟨a,u,r⟩:=o;have l:C≠a:=by
  rcases r with rfl|r
  ·exact f.2.1
  ·exact λz=>f.2.2.2.2.1 y a r z.symm
 refine⟨m,hm.sameBut u l,λh' p=>⟨_,c,g.but f p,q⟩⟩
end
def DictAt(e:Addr)(dd:Option Addr)(h:Heap):Prop:=∃o,h.get? e=some o/\o.dict=dd
def Tame{α:Type}:Sem α->Prop
 |.pure _=>True|.raise _=>True|.unsupported _=>True|.finish _=>True|.rule _ k=>Tame (k ())|.at _ k=>Tame (k ())|.load _ _ k=>∀o,Tame (k o)|.update _ _ f k=>(∀o,(f o).dict=o.dict/\(f o).isFreed=o.isFreed)/\Tame (k ())|.alloc _ k=>∀a,Tame (k a)|.loadIfAlive _ k=>∀o,Tame (k o)|.point _ k=>Tame (k ())|.register _ _=>True|.fresh k=>∀t,Tame (k t)|.ask k=>∀x,Tame (k x)|.choose _ _ k=>∀x,Tame (k x)|.os _ _ k=>∀x,Tame (k x)|.call _ _ _ _ _=>False|.handled _ k=>∀x,Tame (k x)|.newGen _ k=>∀x,Tame (k x)|.genState _ k=>∀x,Tame (k x)|.resume _ _ _ _=>False|.yield _ _ _ _=>True|.stack k=>∀x,Tame (k x)|.fork _ _=>True|.thread k=>∀x,Tame (k x)|.await _ _ _ _ _=>True
theorem aF{m:Sem α}{f:α->Sem β}(h:Tame m)(L:∀a,Tame (f a)):Tame (m >>= f):=by
 show Tame (m.bind f)
 induction m with
 |pure a=>exact L a|raise|unsupported|finish|register|yield|fork|await=>exact trivial|call|resume=>exact h.elim|rule _ k J|«at» _ k J|point _ k J=>exact J _ h|load _ _ k J|alloc _ k J|loadIfAlive _ k J|fresh k J|ask k J|choose _ _ k J|os _ _ k J|handled _ k J|newGen _ k J|genState _ k J|stack k J|thread k J=>exact λx=>J x (h x)|update a _ g k J=>exact⟨h.1,J _ h.2⟩
theorem DictAt.push{e:Addr}{dd:Option Addr}{h:Heap}{o:Obj}(x:DictAt e dd h):DictAt e dd (h.push o):=let ⟨u,a,b⟩:=x;⟨u,zzf _ a,b⟩
theorem DictAt.upd{e a:Addr}{f:Obj->Obj}(x:DictAt e dd h)(J:∀o,(f o).dict=o.dict/\(f o).isFreed=o.isFreed):DictAt e dd (h.update a f):=by
 obtain⟨u,q,b⟩:=x;by_cases z:a=e
 ·subst z;exact⟨f u,zyE f q (by rw[(J u).2];exact(zwt.mp q).2),by rw[(J u).1];exact b⟩
 ·exact⟨u,by rw[zxU _ _ z];exact q,b⟩
theorem Gk{Γ:PySem.Ctx}{t:Sem α}{e:Addr}{Q:α->Pos->Shared->Prop}{E:Value->Pos->Shared->Prop}(L:Tame t):∀{p:Pos} {s:Shared},DictAt e dd s.heap->Sem.wp M Γ t Q E p s ->
  Sem.wp M Γ t (λa d s'=>Q a d s'/\DictAt e dd s'.heap) (λv d s'=>E v d s'/\DictAt e dd s'.heap) p s:=by
 induction t with
 |pure|raise=>exact λhd h=>⟨h,hd⟩|unsupported|finish|yield|fork|await|register=>exact λ_ h=>h|call|resume=>exact L.elim|rule _ k J|«at» _ k J|point _ k J=>exact λhd h=>J _ L hd h|alloc _ k J=>exact λhd h=>J _ (L _) hd.push h|loadIfAlive _ k J|fresh k J|ask k J|os _ _ k J|handled _ k J|newGen _ k J|stack k J|thread k J=>exact λhd h=>J _ (L _) hd h|load a _ k J|genState a k J=>exact λhd ⟨o,U,h⟩=>⟨o,U,J _ (L _) hd h⟩|choose _ _ k J=>exact λhd ⟨a,h⟩=>⟨a,J _ (L _) hd h⟩|update a _ f k J=>exact λhd ⟨a,h⟩=>⟨a,J _ L.2 (hd.upd L.1) h⟩
theorem yU{t:Sem α}{e:Addr}{Q:α->Shared->Prop}{s:Shared}(L:Tame t)(hd:DictAt e dd s.heap)(h:wpAny M A t Q E s) :
  wpAny M A t (λa s'=>Q a s'/\DictAt e dd s'.heap) (λv s'=>E v s'/\DictAt e dd s'.heap) s:=fun Γ p J=>Gk L hd (h Γ p J)
theorem bi{t:Sem α}{e:Addr}{Q:α->Shared->Prop}{s:Shared}(J:Tame t)(hd:DictAt e dd s.heap)(h:wpAny M A t (λa s'=>DictAt e dd s'.heap->Q a s') E s):wpAny M A t Q E s :=
 zyS (yU J hd h) (λ_ _ q=>q.1 q.2) λ_ _ q=>q.1
section
theorem dM{c:Prop}[Decidable c]{a b:Sem α}(h1:Tame a)(h2:Tame b):Tame (if c then a else b):=by split<;>assumption
theorem jc{i:Nat}:Tame (field v i):=by
 unfold field;refine aF ?_ λxs=>?_
 ·unfold fieldsOf;split
  ·exact λo=>by dsimp only[Bind.bind,Sem.bind];split<;>exact trivial
  ·exact trivial
 ·split<;>exact trivial
theorem lU(f:Array Value->Array Value)(o:Obj):(Obj.mapFields f o).dict=o.dict/\(Obj.mapFields f o).isFreed=o.isFreed:=by obtain⟨c,d,J,sl⟩:=o;cases J<;>exact⟨rfl,rfl⟩
theorem gq{x:Value}{i:Nat}:Tame (setField v i x):=by
 unfold setField;split
 ·unfold updateField;refine aF (λo=>trivial) λo=>?_;split
  ·exact dM ⟨lU _,trivial⟩ trivial
  ·exact trivial
 ·exact trivial
theorem aZ{f:Option Addr}:Tame (setFlight e f):=by unfold setFlight;exact aF jc λtb=>dM gq trivial
theorem qL:Tame (newFields ty vs):=by
 unfold newFields newObj;dsimp only;have h:Tame (newObjAsIs (.type ty) (.fields vs.toArray)):=by unfold newObjAsIs;exact λa=>trivial
 exact dM trivial h
theorem sC{d:List Env}:Tame (behindIsImport env d):=by unfold behindIsImport;refine dM trivial (dM trivial (aF jc λ_=>trivial))
theorem Al:∀l:List Env,Tame (keptBack env b l)
 |[]=>by unfold keptBack underTheClaimsCaller;exact dM trivial (λ_=>trivial)
 |c::_=>trivial
theorem qY:∀l:List Env,Tame (readyFrames l)
 |[]=>trivial|env::g=>by
  have L:=qY g;unfold readyFrames;split
  ·refine aF (λo=>trivial) λo=>?_;refine dM trivial (aF sC λb=>aF (Al _) λback=>?_);exact aF (m:=update _ _) ⟨λo=>⟨rfl,by obtain⟨c,d,J,sl⟩:=o;cases J<;>rfl⟩,trivial⟩ λ_=>L
  ·exact trivial
theorem sD:∀l:List Env,Tame (frameObject l)
 |[]=>trivial|e::l=>by unfold frameObject;exact aF (qY _) λ_=>trivial
theorem uN:Tame (PySem.frameOf env):=by unfold PySem.frameOf PySem.frameEnvs;refine aF (aF (λx=>trivial) λx=>trivial) λr=>aF (sD _) λo=>?_;split<;>exact trivial
theorem oR{f:Addr}:Tame (entryPlaceOf f b):=by unfold entryPlaceOf;refine aF (λx=>trivial) λacts=>?_;split<;>exact trivial
theorem fq:Tame (noteFrame e env):=by
 have d:∀(f:Addr) (head:Value),Tame (do let a ←PySem.frameOf env;let g ←entryPlaceOf f (head != .none);let b ←EntryCells.newEntry head a .none (rawInt f) .none g;setField e 1 b):=λf head =>
  aF uN λ_=>aF oR λ_=>aF qL λ_=>gq
 unfold noteFrame;split
 ·rename_i f _;refine aF jc λhead=>?_;refine dM ?_ (d f head);refine aF jc λv=>dM trivial (aF gq λ_=>d f head)
 ·exact trivial
theorem uO:Tame (leaving env e):=aF fq λ_=>aZ
variable{h:Heap}{o:HO}
theorem ObjOk.there(x:ObjOk P w H h a o):∃u,h.get? a=some u:=by
 cases o with
 |lst g=>obtain⟨_,_,_,_,e⟩:=x;exact⟨_,e⟩
 |tup g=>obtain⟨_,_,_,_,e,_⟩:=x;exact⟨_,e⟩
 |dK d=>obtain⟨_,_,_,_,o,_,_,e,_⟩:=x;exact⟨_,e⟩
 |dT d=>obtain⟨_,_,_,_,o,_,_,e,_⟩:=x;exact⟨_,e⟩
 |set S n=>obtain⟨o,_,_,_,e,_⟩:=x;exact⟨_,e⟩
 |ins C dx fs=>obtain⟨_,_,_,e,_⟩:=x;exact⟨_,e⟩
 |own y=>exact x|xd fs=>obtain⟨_,⟨_,_,_,e,_⟩,_⟩:=x;exact⟨_,e⟩
 |rng lo hi=>obtain⟨_,_,_,e⟩:=x;exact⟨_,e⟩
 |frz ob u=>obtain⟨e,_⟩:=x;exact⟨_,e⟩
 |tbl ps=>exact⟨_,show h.get? a=some _ from x⟩|met f y=>exact⟨_,show h.get? a=some _ from x⟩|ext φ=>exact x.2.1
end
structure Cry(X:Cx)(H:Hp)(B:Heap):Prop where
 old:∀b o,X.s₀.heap.get? b=some o->b∉X.fs->b∉X.ex->∃o',B.get? b=some o'
 trk:∀b o,H b=some o->∃o',B.get? b=some o'
 pin:∀p∈X.pn,∃o',B.get? p.1=some o'
section
variable{s:Shared}
theorem Inv.nopin(I:Inv X pins σ H s):Inv X [] σ H s :=
 ⟨I.ok,I.os,I.bare,I.base,I.loc,I.cell,I.free,I.freeC,λp J=>I.pin p (by rw[zzv]at J;exact zyn _ J),I.hok,I.len⟩
theorem wx{b:Addr}(k:B.StaysIn h)(g:B.StaysIn h')(J:∃d,B.get? b=some d)(e:h.get? b=some o):h'.get? b=some o:=by obtain⟨d,q⟩:=J;have:=k b d q;rw[e]at this;cases this;exact g b _ q
theorem Inv.fly(I:Inv X [] σ H s)(c:Cry X H B)(k:B.StaysIn s.heap)(G:B.StaysIn h')(u:s.heap.UpToSlots h'):Inv X [] σ H { s with heap:=h' }:=by
 have L:∀c v,s.heap.IsCell c v->h'.IsCell c v:=λc v ⟨o,Q,hd⟩=>by
  obtain⟨a,q⟩:=u c o Q λvs q=>by rw[hd]at q;cases q
  exact⟨_,q,hd⟩
 have U:∀b o,X.s₀.heap.get? b=some o->b∈X.fs->∃a,h'.get? b=some { o with slots:=a }:=λb o e J=>by obtain⟨_,A,Y,hd⟩:=I.ok.funs.mem J;rw[e]at Y;cases Y;obtain⟨a,h⟩:=I.base.slot b o e (I.ok.frf b J) J λz=>I.ok.exfs b z J;obtain⟨C,j⟩:=u b _ h hd;exact⟨C,j⟩
 refine⟨I.ok,I.os,I.bare,⟨λb o e n J g=>?_,λb o e n J g=>U b o e J,I.base.free,λb o e g=>?_,I.base.tups,I.base.frzs,I.base.tbls⟩,?_,λx c e=>?_,I.free,I.freeC,λp w=>?_,λb o e=>?_,I.len⟩
 ·exact wx k G (c.old b o e J g) (I.base.keep b o e n J g)
 ·by_cases J:b∈X.fs
  ·obtain⟨a,q⟩:=U b o e J;exact⟨_,q⟩
  ·obtain⟨A,q⟩:=c.old b o e J g;exact⟨A,G b A q⟩
 ·obtain⟨m,N,M⟩:=I.loc;refine⟨m,u.ns N,λi x v h j E=>?_⟩;obtain⟨y,r,l⟩:=M i x v h j E;refine⟨y,r,?_⟩;rcases l with l|⟨T,c,e,z⟩
  ·exact .inl l
  ·exact .inr ⟨T,c,e,L c _ z⟩
 ·obtain⟨v,z⟩:=I.cell x c e;exact⟨v,L c v z⟩
 ·obtain⟨e,r⟩:=I.pin p w;rw[zzv]at w;exact⟨wx k G (c.pin p w) e,r⟩
 ·refine(I.hok b o e).stay (λd v hd q=>wx k G ?_ q) (λ_ q=>q) λ_ _ q=>q;rcases hd with rfl|hd
  ·exact c.trk d _ e
  ·exact c.trk d _ hd
end
def Ph(B:Heap)(l:List Env)(L ea C:Addr)(h:Heap):Prop :=
 (∃d,Heap.FlyingW B l ea (.ref C) d h)∨(∃d,Heap.HeldW B l ea (.ref C) d L h) ∨
 (B.StaysIn h/\B.get? ea=none/\h.FunFrames B l/\∃J vs d,h.get? ea=some J/\J.cls=.ref C/\J.data=.fields vs/\vs[1]? = some .none/\vs[0]? = some d)
theorem Ph.stays{B:Heap}{l:List Env}(x:Ph B l p ea C h):B.StaysIn h:=by
 rcases x with ⟨_,x⟩|⟨_,x⟩|x
 ·exact x.1
 ·exact x.1
 ·exact x.1
def XF(X:Cx)(W:St->XK)(e:Value)(s':Shared):Prop :=
 ∃ea C dd B σ H,e=.ref ea/\(Ph B X.stack X.env.locals ea C s'.heap/\DictAt ea dd s'.heap)/\Cry X H B/\Inv X [] σ H s'/\W σ (.ref C) dd H
def CXE(P:Program)(w:World):CXT:=λd H s E e g =>
 ∃ea C dd B m q,e=.ref ea/\(Heap.FlyingW B d ea (.ref C) q g.heap/\DictAt ea dd g.heap)/\Un (frs d) [] H m s.heap g.heap/\HOk P w m g.heap /\
  (∀b o,s.heap.get? b=some o->b∉frs d->∃n,B.get? b=some n)/\(∀b o,m b=some o->∃n,B.get? b=some n)/\g.os=s.os/\AllBare g.gens/\E (.ref C) dd m
section
variable{H':Hp}{s s':Shared}
theorem XF.mono{J:St->XK}(x:XF X W e s')(k:∀σ C dd H,W σ C dd H->J σ C dd H):XF X J e s':=by obtain⟨ea,C,dd,B,σ,H,a,b,c,d,f⟩:=x;exact⟨ea,C,dd,B,σ,H,a,b,c,d,k _ _ _ _ f⟩
theorem Inv.offstack(I:Inv X pins σ H s){b:Addr}(d:b≠X.env.locals)(g:b∉X.fs):b∉frs X.stack:=λz=>by
 rcases zzk.mp (I.stkSub b z) with q|q
 ·exact d q
 ·exact g q
theorem Inv.oldNe(I:Inv X pins σ H s){b:Addr}(e:X.s₀.heap.get? b=some o):b≠X.env.locals:=zzL (zzE (zzz e) I.ok.above)
theorem Am{E:XK}(I:Inv X pins σ H s)(h:CXE X.prog X.w X.stack H s E e s')(i:∀C dd H',E C dd H'->W σ C dd H'):XF X W e s':=by
 obtain⟨ea,C,dd,B,H',n,rfl,⟨c,fd⟩,un,m,J,L,os,bare,q⟩:=h;obtain⟨l,g,d,t,U⟩:=s';obtain rfl:U=s.os:=os;refine⟨ea,C,dd,B,σ,H',rfl,⟨.inl ⟨n,c⟩,fd⟩,⟨λb o e j v=>?_,L,λp u=>?_⟩,I.nopin.call (h':=l) (g':=g) (d':=d) (t':=t) (ch:=[]) un m bare (λb z=>absurd z (by simp)),i _ _ _ q⟩
 ·obtain⟨x,Y⟩:=I.base.there b o e v;exact J b x Y (I.offstack (I.oldNe e) j)
 ·obtain⟨r,_,G,a,_⟩:=I.pin p (zyn _ u);exact J p.1 p.2 r (I.offstack G a)
theorem Dd{P:Program}{K:zvd}{base:Heap}{m:Str}{f:Addr}{g:List Env}{E:XK}(x:XF (cxOf (CXE P w) P w K mA base N m sc f v A g s H E) (λ_=>E) e s'):(cxOf (CXE P w) P w K mA base N m sc f v A g s H E).xe e s':=by
 obtain⟨ea,C,dd,B,σ,H',rfl,⟨l,pd⟩,U,I,q⟩:=x;have fin:∀a0 L,Heap.FlyingW B g ea (.ref C) a0 L->s'.heap.UpToSlots L->DictAt ea dd L->CXE P w g H s E (.ref ea) { s' with heap:=L }:=λa0 L r u d=>by have J:=I.fly U l.stays r.1 u;exact⟨ea,C,dd,B,H',a0,rfl,⟨r,d⟩,J.base,J.hok,λb o e n=>U.old b o e n (λz=>absurd (show b∈([]:List Addr) from z) (by simp)),U.trk,J.os,J.bare,q⟩
 have h:(A.deeper (envOfC m sc s.heap.objs.size f v)).frames=some (envOfC m sc s.heap.objs.size f v::g):=I.ok.frames;show wpAny (model P w) (A.deeper (envOfC m sc s.heap.objs.size f v)) (leaving (envOfC m sc s.heap.objs.size f v) (.ref ea)) (λ_ Y=>CXE P w g H s E (.ref ea) Y) (λp Y=>CXE P w g H s E p Y) s';refine bi uO pd ?_;rcases l with ⟨a0,r⟩|⟨a0,i⟩|⟨a,G,c,oe,vs,a0,y,M,Q,T,e5⟩
 ·exact wpAny_leaves_onW h rfl r λL k u d=>fin a0 L k u d
 ·unfold leaving;refine zzb (wpAny_noteFrame_againW rfl i.2.2.2 ?_);refine wpAny_landsW i λL r u d=>?_;obtain⟨a,G,⟨_,_,c⟩,k4⟩:=r;exact fin a0 L ⟨a,G,c,k4⟩ u d
 ·refine wpAny_leaving_firstW (a0:=a0) h c rfl y a G Q T e5 λL hL d=>?_;obtain⟨l1,⟨_,_,l2⟩,j,l4⟩:=hL;rw[M]at j;exact fin a0 L ⟨l1,G,l2,j⟩ l4 d
theorem cR{l:List Env}{a0:Value}(j:B.StaysIn s.heap)(i:B.get? ea=none)(u:s.heap.FunFrames B l)(v:s.heap.TracedAtW B ea cls a0 e)(h:∀h',Heap.HeldW B l ea cls a0 C h'->s.heap.UpToSlots h'->Q () { s with heap:=h' }):wpAny M A (setFlight (.ref ea) (some C)) Q E s:=by
 obtain⟨w,vs,T,oT,a,I,c,hd,G,r,n,g,Y,p⟩:=v;have m:3<a.size:=(zwn.mp p).1;have other:∀b,b≠T->(s.heap.update T (Obj.mapFields (·.setIfInBounds 3 ((some C).elim Value.none λf=>rawInt f)))).get? b=s.heap.get? b :=
  λb L=>zxU _ _ (Ne.symm L)
 have J:∀b o,s.heap.get? b=some o->(∀vs,o.data ≠ .fields vs)->b≠T:=λb o L U q=>by rw[q,g]at L;injection L with L;subst L;exact U a Y
 unfold setFlight;refine zzb (zyR I hd G ?_);rw[zzn (show (Value.ref T != Value.none)=true from by simp)];refine zww g Y m (h _ ⟨λb o d=>(other b λq=>by rw[q,r]at d;cases d).trans (j b o d),i,
  u.of_keeps λb o L U=>⟨o,(other b (J b o L U)).trans L,rfl⟩,?_⟩ λb o L U=>⟨o.slots,(other b (J b o L U)).trans L⟩)
 exact⟨w,vs,T,_,_,(other ea (Ne.symm n)).trans I,c,hd,G,r,n,zyE _ g (Obj.isFreed_of_fields (Obj.data_mapFields Y _)),Obj.data_mapFields Y _,by simp[m]⟩
theorem xB{env:Env}{d:List Env}(J:A.frames=some (env::d))(L:env.frame=some p)(l:Ph B (env::d) p ea C s.heap)(h:∀h' a0,Heap.HeldW B (env::d) ea (.ref C) a0 p h'->s.heap.UpToSlots h'->Q () { s with heap:=h' }):wpAny M A (noteFrame (.ref ea) env) Q E s:=by
 rcases l with ⟨a0,I⟩|⟨a0,n⟩|⟨b,q,c,oe,vs,a0,g,G,m,U,Y⟩
 ·exact wpAny_looks_onW J L I λh' k u=>h h' a0 k u
 ·exact wpAny_noteFrame_againW L n.2.2.2 (h s.heap a0 n (.refl _))
 ·unfold noteFrame;simp only[L];refine zzb (zyR g m U ?_);rw[zzi (by decide)];refine wpAny_entryW J c L g b q m (zwn.mp U).1 Y λh' a=>?_;obtain⟨e,i,r,j⟩:=a;rw[G]at r;exact h h' a0 ⟨e,q,i,r⟩ j
theorem yV{l:List Env}{a0:Value}(U:env.frame=some C)(d:Heap.HeldW B l ea cls a0 C s.heap)(hd:DictAt ea dd s.heap)(h:∀h',Heap.HeldW B l ea cls a0 C h'->s.heap.UpToSlots h'->DictAt ea dd h'->E (.ref ea) { s with heap:=h' }):cameBackBy M A env E (.ref ea) s:=by
 obtain⟨f1,f2,L,oe,vs,T,oT,ts,m,hcls,J,g,hnT,hTe,hT,hdT,h3⟩:=id d;unfold cameBackBy;refine zzb (zyR m J g ?_);rw[zzi (show ¬((Value.ref T == Value.none)=true) from by simp),U]
 first
  |exact zzb (zzp (bi aZ hd (cR f1 f2 L d.2.2.2 λh' a b c=>h h' a b c)))
  |exact bi aZ hd (cR f1 f2 L d.2.2.2 λh' a b c=>h h' a b c)
theorem IG(L:A'.frames=some X.stack)(hs:X.stack=X.env::X.outer)(m:X.env.frame=some X.env.locals):PassesOwnAt M A' A X.env (XF X W):=by rintro e s' ⟨ea,C,dd,B,σ,H,rfl,⟨n,g⟩,J,I,q⟩;unfold notedBy;rw[hs]at L;have Y:=n;rw[hs]at Y;refine bi fq g (xB L m Y λa G d u g=>?_);have r:=I.fly J n.stays d.1 u;refine yV (s:={ s' with heap:=a }) m d g λh2 U b d2=>?_;exact⟨ea,C,dd,B,σ,H,rfl,⟨.inr (.inl ⟨G,by rw[hs];exact U⟩),d2⟩,J,r.fly J d.1 U.1 b,q⟩
end
def IH(sp:Sp)(dvs:List V)(W:St->XK)(t:TA):TE:=λσ H Q=>t σ H λvs H1=>sp (vs++dvs) H1 Q (W σ)
section
variable{k:Nat}{f:Addr}{fd:FuncData}{ps:List Str}{sp:Sp}{dvs:List V}{ds:List Value}{e:Expr}
theorem Gm{pins:List (Addr×Obj)}{σ:St}{s:Shared}{Q:VK}{us:List Value}{vs:List V}(F:FnOk X.prog X.w X.K X.mg X.base (CXE X.prog X.w) k f fd ps sp)(Y:Room k X.A)(U:Binds X.K fd ps ds)(hd:Vals dvs ds)(m:∀e s',XF X W e s'->X.xe e s')(I:Inv X pins σ H s)(r:Vals vs us)(h:sp (vs++dvs) H Q (W σ)):wpAny (model X.prog X.w) X.A (call (.ref f) us) (EP X pins σ Q) X.xe s:=by
 have d:Vals (vs++dvs) (us++ds):=r.append hd;have g:(us++ds).length=ps.length:=by rw[←d.length];exact F.len _ _ _ _ h
 refine zwv (zxb (F.run X.A X.stack s H ⟨us,[]⟩ (us++ds) (vs++dvs) Q (W σ) Y I.env0 (U s us I.kIn g) d h) λr s' J=>?_);cases r with
 |error e=>exact m e s' (Am I J λ_ _ _ q=>q)
 |ok L =>
  cases L with
  |ret u=>exact I.after J|next=>exact False.elim J|brk=>exact False.elim J|cont=>exact False.elim J
end
structure Exc(K:zvd)(C:Addr):Prop where
 q:PySem.W.excIn K C [.type "ValueError",.type "Exception",.type "BaseException",.type "object"] "ValueError.__new__" = true
noncomputable abbrev Cx.pinned(X:Cx)(l:List (Addr×Obj)):Cx:={ X with pn:=l }
noncomputable abbrev Cx.caught(X:Cx)(ea:Addr):Cx:={ X with A:=X.A.mark (some (.ref ea)),calm:=false,xe:=λ_ _=>False }
def excA(C:Addr)(dd:Option Addr)(ea:Addr):HO:=.ext λh=>∃o,h.get? ea=some o/\o.cls=.ref C/\o.dict=dd/\∃vs,o.data=.fields vs
abbrev excO(C ea:Addr):HO:=excA C none ea
section
variable{s s':Shared}
theorem Cx.Ok.pinned{l:List (Addr×Obj)}(ok:X.Ok):(X.pinned l).Ok :=
 ⟨ok.mod,ok.kind,ok.glob,ok.blt,ok.above,ok.inj,ok.has,ok.cab,ok.hd,ok.frames,ok.stk,ok.exf,ok.bs,ok.bsz,ok.noex,ok.exfs,ok.funs,ok.frf⟩
theorem Cx.Ok.unpinned{l:List (Addr×Obj)}(ok:(X.pinned l).Ok):X.Ok :=
 ⟨ok.mod,ok.kind,ok.glob,ok.blt,ok.above,ok.inj,ok.has,ok.cab,ok.hd,ok.frames,ok.stk,ok.exf,ok.bs,ok.bsz,ok.noex,ok.exfs,ok.funs,ok.frf⟩
theorem Inv.toPn(I:Inv X pins σ H s):Inv (X.pinned (X.pn++pins)) [] σ H s :=
 ⟨I.ok.pinned,I.os,I.bare,I.base,I.loc,I.cell,I.free,I.freeC,λp J=>I.pin p (by rw[zzv]at J;exact J),I.hok,I.len⟩
theorem Inv.ofPn(I:Inv (X.pinned (X.pn++pins)) [] σ H s):Inv X pins σ H s :=
 ⟨I.ok.unpinned,I.os,I.bare,I.base,I.loc,I.cell,I.free,I.freeC,λp J=>I.pin p (by rw[zzv];exact J),I.hok,I.len⟩
theorem Inv.caught{ea:Addr}(I:Inv X pins σ H s):Inv (X.caught ea) pins σ H s :=
 ⟨⟨I.ok.mod,I.ok.kind,I.ok.glob,I.ok.blt,I.ok.above,I.ok.inj,I.ok.has,I.ok.cab,λz=>(by cases z),I.ok.frames,I.ok.stk,I.ok.exf,I.ok.bs,I.ok.bsz,I.ok.noex,I.ok.exfs,I.ok.funs,I.ok.frf⟩,I.os,I.bare,I.base,I.loc,I.cell,I.free,I.freeC,I.pin,I.hok,I.len⟩
theorem Inv.uncaught(ok:X.Ok)(I:Inv (X.caught ea) pins σ H s):Inv X pins σ H s :=
 ⟨ok,I.os,I.bare,I.base,I.loc,I.cell,I.free,I.freeC,I.pin,I.hok,I.len⟩
theorem Inv.track{vs:Array Value}(I:Inv X [] σ H s)(c:Cry X H B)(h:B.get? ea=none)(he:s.heap.get? ea=some ox)(E:ox.cls=.ref C)(hd:ox.data=.fields vs)(J:ox.dict=dd)(hex:X.ex=[]) :
  H ea=none/\Inv X [] σ (upd H ea (excA C dd ea)) s:=by
 have U:H ea=none:=by
  cases q:H ea with
  |none=>rfl|some o=>obtain⟨j,z⟩:=c.trk ea o q;rw[h]at z;cases z
 have A:∀b o,X.s₀.heap.get? b=some o->b≠ea:=by
  rintro b o e rfl;by_cases L:b∈X.fs
  ·obtain⟨_,j,l,y⟩:=I.ok.funs.mem L;rw[e]at l;cases l;obtain⟨sl,g⟩:=I.base.slot b o e (I.ok.frf b L) L λz=>I.ok.exfs b z L;rw[he]at g;cases g;exact y _ hd
  ·obtain⟨j,z⟩:=c.old b o e L (by rw[hex];simp);rw[h]at z;cases z
 have G:∀b o,H b=some o->upd H ea (excA C dd ea) b=some o:=λb o q=>by rw[ah (bp q U)];exact q
 refine⟨U,I.ok,I.os,I.bare,⟨I.base.keep,I.base.slot,λb o e n M=>?_,I.base.there,λb w q=>G _ _ (I.base.tups b w q),λb o u q=>G _ _ (I.base.frzs b o u q),λb ps q=>?_⟩,I.loc,I.cell,?_,λx d q=>?_,λp i=>?_,λb o q=>?_,I.len⟩
 ·rw[ah (A b o e)];exact I.base.free b o e n M
 ·obtain⟨m,z⟩:=I.base.tbls b ps q;exact⟨m,G _ _ z⟩
 ·have:X.env.locals≠ea:=by
   intro z;obtain⟨m,⟨o,es,ep,Y,J,_⟩,_⟩:=I.loc;rw[z,he]at Y;cases Y;rw[hd]at J;cases J
  rw[ah this];exact I.free
 ·have:d≠ea:=by
   intro z;obtain⟨v,o,Y,J⟩:=I.cell x d q;rw[z,he]at Y;cases Y;rw[hd]at J;cases J
  rw[ah this];exact I.freeC x d q
 ·obtain⟨g,a,r⟩:=I.pin p i;have:p.1≠ea:=by
   intro z;rw[zzv]at i;obtain⟨j,q⟩:=c.pin p i;rw[z,h]at q;cases q
  exact⟨g,by rw[ah this];exact a,r⟩
 ·by_cases z:b=ea
  ·subst z;rw[ai]at q;cases q;exact⟨⟨ox,he,E,J,_,hd⟩,⟨ox,he⟩,λh1 h2 ⟨o,g,a⟩ k=>⟨o,k o g,a⟩⟩
  ·rw[ah z]at q;exact(I.hok b o q).stay (λ_ _ _ q=>q) (λd q=>G _ _ q) λd w q=>G _ _ q
theorem sE{i:Nat}(I:Inv X pins σ H s)(C:X.N.Nodup)(l:X.N[i]? = some x)(hk:X.env.kindOf x=some .local)(h:∀s',Inv X pins (σ.set i none) H s'->Q () s'):wpAny M A (do bindName X.env x .none;unbindBehindTheSuite X.env x pos) Q E s:=by
 obtain⟨m,hn,hl⟩:=id I.loc;have J:(X.env.scope.kind == .class || (X.env.scope.kind == .module && X.env.locals != X.env.globals))=false:=by rw[I.ok.kind];rfl
 have L:i<σ.length:=by rw[I.len];exact(zzx.mp l).1
 have cne:=I.cne;refine wpAny_nameGoes_keeps hk hn J λh' v w g=>?_;have old:∀b o,X.s₀.heap.get? b=some o->b≠X.env.locals:=λb o e=>I.oldNe e;refine h _ ⟨I.ok,I.os,I.bare,⟨λb o e n Y U=>?_,λb o e n Y U=>?_,I.base.free,λb o e U=>?_,I.base.tups,I.base.frzs,I.base.tbls⟩,⟨_,w,λj y v' r G B=>?_⟩,λy c e=>?_,I.free,I.freeC,λp hp=>?_,λb ob e=>?_,by simpa using I.len⟩
 ·exact(g.2 b (old b o e)).trans (I.base.keep b o e n Y U)
 ·obtain⟨sl,r⟩:=I.base.slot b o e n Y U;exact⟨sl,(g.2 b (old b o e)).trans r⟩
 ·obtain⟨o',r⟩:=I.base.there b o e U;exact⟨o',(g.2 b (old b o e)).trans r⟩
 ·by_cases a:j=i
  ·subst a;rw[zxq L]at G;cases G
  ·rw[zzH (Ne.symm a)]at G;obtain⟨u',r',q⟩:=hl j y v' r G B;refine⟨u',r',?_⟩;rcases q with ⟨k,e⟩|⟨k,c,e,z⟩
   ·refine .inl ⟨k,?_⟩;have:y≠x:=λe=>a (rZ C r (e ▸ l));simp[this,e]
   ·exact .inr ⟨k,c,e,z.sameBut g (cne y c e)⟩
 ·obtain⟨u,z⟩:=I.cell y c e;exact⟨u,z.sameBut g (cne y c e)⟩
 ·obtain⟨e,n,ne,nf,d⟩:=I.pin p hp;exact⟨(g.2 p.1 ne).trans e,n,ne,nf,d⟩
 ·refine(I.hok b ob e).stay (λc u T q=>(g.2 c ?_).trans q) (λ_ q=>q) λ_ _ q=>q;rintro rfl;rcases T with z|z
  ·rw[←z,I.free]at e;cases e
  ·rw[I.free]at z;cases z
end
def tTry(X:Cx)(body suite:List Stmt)(C0:Addr)(i:Nat)(Wo:St->XK):TS:=λD σ H =>
 ∃W:St->XK,(∀m,∃n,PSs ((X.pinned m).wish (XF (X.pinned m) W)) body n/\n D σ H) /\
  ∀d C dd g,W d C dd g->(PySem.W.exmOne X.K C (.ref C0)=some true/\∀ea L,C=.ref L->g ea=none->∃q,PSs (X.caught ea) suite q /\
   q ⟨λJ H2=>D.nx (J.set i none) H2,D.rt,λJ H2=>D.bk (J.set i none) H2,λJ H2=>D.ct (J.set i none) H2⟩ (d.set i (some (.ref ea))) (upd g ea (excA L dd ea))) ∨
  (PySem.W.exmOne X.K C (.ref C0)=some false/\Wo d C dd g)
section
variable{body suite:List Stmt}{b0:Stmt}{n:Str}{np hpos:Pos}{C0:Addr}{i:Nat}{Wo:St->XK}
theorem II(hs:X.stack=X.env::X.outer)(hf:X.env.frame=some X.env.locals)(hex:X.ex=[])(y:X.N.Nodup)(E:X.N[i]? = some n)(j:X.env.kindOf n=some .local)(hg:Gl X x)(hm:X.mg x=some (.ref C0))
  (hx:∀e s',XF X Wo e s'->X.xe e s') (a6:(x == ("__debug__" : Str))=false:=by decide) :
  PS X (.Try body [.ExceptHandler (some (.Name x np)) (some n) (b0::suite) hpos] [] [] pos) (tTry X body (b0::suite) C0 i Wo):=by
 intro pins s σ H D I h;obtain⟨W,hb,hW⟩:=h;obtain⟨tb,pb,qb⟩:=hb (X.pn++pins);refine wpAny_Try_except (zyS (pb [] s σ H D (I.toPn.wish _) qb) (λf Q Y=>?_) λe Q Y=>?_)
 ·have Y:=Y.unwish;cases f with
  |next=>obtain⟨d,m,g,q⟩:=Y;exact ou pins Q d m D g.ofPn q
  |brk=>obtain⟨d,m,g,q⟩:=Y;exact⟨d,m,g.ofPn,q⟩
  |cont=>obtain⟨d,m,g,q⟩:=Y;exact⟨d,m,g.ofPn,q⟩
  |ret u=>obtain⟨v,d,m,g,r,q⟩:=Y;exact⟨v,d,m,g.ofPn,r,q⟩
 ·obtain⟨ea,C,dd,B,d,m,rfl,⟨ph,pd⟩,J,g,q⟩:=Y;have a7:X.A.frames=some (X.env::X.outer):=by rw[←hs];exact g.ok.frames
  have a9:Ph B (X.env::X.outer) X.env.locals ea C Q.heap:=by rw[←hs];exact ph
  refine bi fq pd (xB a7 hf a9 λh1 a0 a3 u1 d1=>?_);refine bi aZ d1 (wpAny_landsW a3 λh2 L u2 d2=>?_);have I1:=g.fly J ph.stays a3.1 u1;have l:=I1.fly J a3.1 L.1 u2;obtain⟨ob,a8,a5⟩:=L.there;have LT:PySem.W.Looks (model X.prog X.w) h2 (typeOf (.ref ea)) (.ref C):=by rw[←a5];exact(PySem.W.Looks.ld a8).andThen .now
  refine wpAny_handleBy_cons (codeAny_handlers_test (hU (l.caught (ea:=ea)) hg hm ?_ a6)) (by intro q;cases q);rcases hW _ _ _ _ q with ⟨ex,q⟩|⟨ex,q⟩
  ·refine(PySem.W.exm_one l.kIn LT ex).here ?_;refine codeAny_handlers_suite_as ?_;refine bi aZ d2 (lands_againW L λh3 a2 u3 d3=>?_);have I3:=l.fly J L.1 a2.1 u3;obtain⟨oe,vs,e1,e2,e3,_⟩:=a2.first;obtain⟨od,e4,e5⟩:=d3;rw[show h3.get? ea=some oe from e1]at e4;cases e4;obtain⟨hn,I4⟩:=I3.track J a2.2.1 e1 e2 e3 e5 hex;refine se I4.ofPn y E (.inl j) (v:=.ref ea) (u:=.ref ea) rfl (λs5 I5=>?_) (.inr j);obtain⟨th,b1,qh⟩:=q ea C rfl hn;refine zyS (b1 pins s5 _ _ _ I5.caught qh) (λf s6 Y=>?_) λ_ _ z=>z.elim;show wpAny _ _ (do bindName X.env n .none;unbindBehindTheSuite X.env n hpos) _ _ s6;cases f with
   |next=>obtain⟨a4,H6,a,c⟩:=Y;exact sE (a.uncaught I.ok) y E j λs7 b=>⟨_,_,b,c⟩
   |brk=>obtain⟨a4,H6,a,c⟩:=Y;exact sE (a.uncaught I.ok) y E j λs7 b=>⟨_,_,b,c⟩|cont=>obtain⟨a4,H6,a,c⟩:=Y;exact sE (a.uncaught I.ok) y E j λs7 b=>⟨_,_,b,c⟩|ret u=>obtain⟨v,a4,H6,a,r,c⟩:=Y;exact sE (a.uncaught I.ok) y E j λs7 b=>⟨v,_,_,b,r,c⟩
  ·refine(PySem.W.exm_one l.kIn LT ex).here ?_;refine wpAny_handleBy_nil ?_;obtain⟨f1,f2,f3,oe,vs,T,oT,ts,he,hcls,hd,h1,hnT,hTe,hT,hdT,h3⟩:=id L;unfold PySem.passOn;refine zzb (zyR he hd h1 ?_);rw[zzi (show ¬((Value.ref T == Value.none)=true) from by simp),hf];have fin:∀G,Heap.HeldW B (X.env::X.outer) ea (.ref C) a0 X.env.locals G->h2.UpToSlots G->DictAt ea dd G->X.xe (.ref ea) { Q with heap:=G }:=λG U M o=>by
    have I4:=l.fly J L.1 U.1 M;exact hx _ _ ⟨ea,C,dd,B,d,m,rfl,⟨.inr (.inl ⟨a0,by rw[hs];exact U⟩),o⟩,⟨J.old,J.trk,λp hp=>J.pin p (zyn _ hp)⟩,I4.ofPn.nopin,q⟩
   first
    |exact zzb (zzp (zzb (bi aZ d2 (cR f1 f2 f3 L.2.2.2.at λG U M o=>wpAny_throw (fin G U M o)))))
    |exact zzb (bi aZ d2 (cR f1 f2 f3 L.2.2.2.at λG U M o=>wpAny_throw (fin G U M o)))
end
open PySem.W (Looks)
structure ExK(K:zvd)(D:Addr):Prop where
 ga:PySem.W.findIn K (.ref D) "__getattribute__" = some (some (.builtin "BaseException.__getattribute__"))
 gt:PySem.W.findIn K (.ref D) "__getattr__" = some none
 sub:PySem.W.subIn K (.ref D) (.type "BaseException")=some true
 ha:PySem.W.findIn K (.ref D) "__class__" = some (some (.builtin "object.__class__"))
 hn:PySem.W.specialIn K (.builtin "object.__class__") "__get__" = some (some (.builtin "getset_descriptor.__get__"))
 htk:PySem.W.takesIn K (.builtin "object.__class__")=some true
 mro:PySem.W.mroIn K D (.type "object")=some true
 cls:(PySem.W.clsIn K D).isSome=true
def IsOf(x D:Addr)(h:Heap):Prop:=∃o,h.get? x=some o/\o.cls=.ref D
theorem IsOf.type{x D:Addr}(I:IsOf x D h):Looks M h (typeOf (.ref x)) (.ref D):=by obtain⟨o,e,c⟩:=I;exact c ▸ (PySem.W.Looks.ld e).andThen .now
section
variable{s:Shared}{x D:Addr}
open PySem.W PySem.Calls Builtin Builtin.ObjectAttr Builtin.Getset_descriptor in
theorem yW{R:Result->Shared->Prop}{tp:Value}(X:K.In s.heap)(I:IsOf x D s.heap)(d:mroIn K D (.type "object")=some true)
  (h:R (.ok (.ret (.ref D))) s):codeAny (model prog w) A (.call (.builtin "getset_descriptor.__get__") ⟨[.builtin "object.__class__",.ref x,tp],[]⟩) R s:=by
 obtain⟨hh,g,dr,t,os⟩:=s;have L0:=I.type (M:=model prog w);have L1:=looks_mroIn (M:=model prog w) X d;refine zxE KF.slot_gs.plain KF.entry_gs (KF.slot_gs.check _ _ _ _ _ _ _ _ KF.type_class (KF.args_gs _ _ _) ?_);unfold Builtin.«getset_descriptor.__get__» descrGet;rw[dga_obj];refine zzb (zzp ?_);unfold descrGetter descrCheckInstance descrNameAndClass isInstance;simp only[KF.owner_class]
 repeat lk
 refine⟨Code.quiet_builtin _ (by decide +kernel),zxP KF.entry_class ?_⟩;unfold Builtin.«object.__class__» shownTypeOf
 repeat lk
 exact h
theorem De(c:ExK K D)(X:K.In h):Looks M h (Builtin.ObjectAttr.find (.ref x) (.ref D) "__class__") (.bind (.builtin "getset_descriptor.__get__") (.builtin "object.__class__")):=by have J:=zyT (M:=M) X c.ha;have L2:Looks M h (Builtin.ObjectAttr.getOf (some (.builtin "object.__class__"))) (some (.builtin "getset_descriptor.__get__")):=PySem.W.looks_specialIn X c.hn;have L:=PySem.W.looks_takesIn (M:=M) X c.htk;exact J.andThen (L2.andThen ((show Looks M h (Builtin.ObjectAttr.dataDescriptor? (some (.builtin "object.__class__")) (some (.builtin "getset_descriptor.__get__"))) (some (.builtin "getset_descriptor.__get__",.builtin "object.__class__")) from L.andThen .now).andThen (PySem.W.Looks.tag .now)))
theorem nI{R:Result->Shared->Prop}(c:ExK K D)(X:K.In s.heap)(I:IsOf x D s.heap)(h:R (.ok (.ret (.ref D))) s) :
  codeAny (model prog w) A (.call (.builtin "BaseException.__getattribute__") ⟨[.ref x,.str "__class__" tk],[]⟩) R s:=by
 obtain⟨m,g,d,t,os⟩:=s;have n:builtinKind "BaseException.__getattribute__" = some .slot:=by decide +kernel
 have J:splitId "BaseException.__getattribute__" = some ("BaseException","__getattribute__"):=by decide +kernel
 have ha:=F.args_bexc_ga (.ref x) (.str "__class__" tk);have L:=I.type (M:=model prog w);have U:=PySem.W.looks_subIn (M:=model prog w) X c.sub;have L2:=De (M:=model prog w) (x:=x) c X;refine zxE PySem.F.attr_ValueError.ga.plain F.entry_bexc_ga ?_;simp only[checkBuiltinCall,n,J];refine zzb ?_;unfold isInstance;refine zzb (L.at (U.at ?_));have Y:Looks (model prog w) m (typeOf (.ref x)) (.ref D):=L
 repeat (any_goals (first|assumption|with_reducible refine Y.at ?_|with_reducible refine L2.at ?_|wp_step))
 exact yW X I c.mro (zzp h)
theorem An{Q:Option Value->Shared->Prop}(c:ExK K D)(X:K.In s.heap)(I:IsOf x D s.heap)(h:Q (some (.ref D)) { s with toks:=s.toks+1 }):wpAny (model prog w) A (getAttr? (.ref x) "__class__") Q E s:=by
 obtain⟨m,g,d,t,os⟩:=s;have L:=I.type (M:=model prog w);have U:=zyT (M:=model prog w) X c.ga;have L2:=zyT (M:=model prog w) X c.gt;have Y:Looks (model prog w) m (typeOf (.ref x)) (.ref D):=L;have f3:=PySem.F.attr_ValueError.ga.bind (.ref x);have J:(Value.builtin "BaseException.__getattribute__" == Value.builtin "object.__getattribute__")=false:=by decide +kernel
 have hx1:(onTheHeap (Value.ref D) && Value.builtin "BaseException.__getattribute__" == Value.builtin "object.__getattribute__")=false:=by rw[J];rfl
 unfold getAttr? getAttrBy? getAttrBy;refine zzb (wpAny_mkText (zzb (zvc (zyz (zzb (L.at (zzb (U.at ?_))))))))
 repeat (any_goals (first|assumption|with_reducible refine Y.at ?_|with_reducible refine L2.at ?_|wp_step))
 exact nI (s:=⟨m,g,d,t+1,os⟩) c X I (PySem.W.handed_on rfl (zzp h))
theorem nT(c:ExK K D):PySem.W.KitX K (.ref x) (.ref D) (IsOf x D) where
 ty:=λ_ _ _ I=>I.type
 it:=λ_ _ X _=>by
  obtain⟨g,d⟩:=zws.mp c.cls;unfold PySem.W.clsIn at d;split at d
  ·rename_i J;intro A' Q' E' s' k q;unfold isType loadHead;exact zzb (wpAny_loadPart (k _ _ (X _ _ J)) (zzp q))
  ·cases d
 ne:=λh tp dd its n sl X L=>by
  obtain⟨g,d⟩:=zws.mp c.cls;refine Bool.eq_false_iff.mpr λq=>?_;have e:D=tp:=Value.ref.inj (zwi.mp q);subst e;unfold PySem.W.clsIn at d;split at d
  ·rename_i J;have z:=(X _ _ J).symm.trans L;cases z
  ·cases d
 ca:=λX I k=>An c X I k
end
noncomputable def dj:List Value->Bool
 |.ref _::r=>dj r| l=>l == [.type "ValueError",.type "Exception",.type "BaseException",.type "object"]
theorem qZ(self:Value):∀{l:List Value},dj l=true->refuseLoop self "__setattr__" l=pure ()
 |.ref c::r,e=>by rw[refuseLoop_ref];exact qZ self (by simpa[dj]using e)
 |[],e=>by simp[dj]at e
 |.type n::r,e=>by
  have:Value.type n::r=[.type "ValueError",.type "Exception",.type "BaseException",.type "object"]:=by simpa[dj]using e
  rw[this];exact PySem.F.store_ValueError.passes self
 |.none::r,e|.bool _::r,e|.int _ _::r,e|.str _ _::r,e|.float _ _::r,e|.bytes _ _::r,e|.builtin _::r,e|.ellipsis::r,e|.notImplemented::r,e=>by simp[dj]at e
theorem Ao:∀{l:List Value},dj l=true->l.contains (.type "object")=true
 |.ref c::r,e=>by rw[List.contains_cons,Ao (l:=r) (by simpa[dj]using e),Bool.or_true]
 |[],e=>by simp[dj]at e
 |.type n::r,e=>by
  have:Value.type n::r=[.type "ValueError",.type "Exception",.type "BaseException",.type "object"]:=by simpa[dj]using e
  rw[this];decide
 |.none::r,e|.bool _::r,e|.int _ _::r,e|.str _ _::r,e|.float _ _::r,e|.bytes _ _::r,e|.builtin _::r,e|.ellipsis::r,e|.notImplemented::r,e=>by simp[dj]at e
noncomputable def sF(K:zvd)(C:Addr):Bool:=(PySem.W.clsIn K C).any λd=>dj d.mro
section
variable{s:Shared}{x:Addr}{name:Str}{v:Value}
open PySem.W in
theorem Gn{R:Result->Shared->Prop}{od:Option Obj}(X:K.In s.heap)(I:InstAt s.heap x ox C od)(U:sF K C=true)(n:findIn K (.ref C) name=some none)(h:wpAny (model prog w) A.in1 (Builtin.ObjectAttr.storeInOwnDict (.ref x) (.ref C) (.str name tk) name v false)
   (λfin s'=>match fin with|.done f=>R (.ok f) s'|.again g=>g.quiet=true/\codeAny (model prog w) A g R s') (λe s'=>R (.error e) s') s) :
  codeAny (model prog w) A (.call (.builtin "object.__setattr__") ⟨[.ref x,.str name tk,v],[]⟩) R s:=by
 have J:=PySem.F.store_object;obtain⟨d,m,L⟩:=any_some U;have ne:d.mro.isEmpty=false:=by cases q:d.mro with|nil=>rw[q]at L;cases L|cons _ _=>rfl
 have sub:Looks (model prog w) s.heap (isInstance (.ref x) (.type "object")) true:=I.type.andThen (looks_mroIn X (by unfold mroIn;rw[m,Option.bind_some,zzi (by rw[ne];decide),Ao L]));refine zxE J.slot.plain J.entry (@check_slot (model prog w) _ _ s "object.__setattr__" "object" "__setattr__" (.ref x) [.str name tk,v] [] _ J.kind J.split sub (J.args (.ref x) (.str name tk) v) ?_);have r:Looks (model prog w) s.heap (mroOf (.ref C)) d.mro:=(looks_clsIn X m).andThen .now;rw[osa_eq,refuse_eq];refine zzb (zzb (I.type.here (zzb (r.here ?_))));rw[qZ _ L];refine zzp (zzb (I.type.here (zzb ((looks_findIn X n).here (zzb ?_)))));exact zzp h
noncomputable abbrev nJ(C t:Addr)(od:Option Addr):Obj:={ cls:=.ref C,dict:=od,data:=.fields #[.ref t,.none,.none,.none,.bool false,.none] }
theorem Dg{t:Addr}(X:K.In s.heap)(d:s.heap.get? x=some (nJ C t none))(hs:PySem.W.findIn K (.ref C) "__setattr__" = some (some (.builtin "object.__setattr__")))(z:sF K C=true)(c:PySem.W.findIn K (.ref C) name=some none)(p:PySem.W.hasDictIn K C=true)(h:∀h',h'.get? x=some (nJ C t (some s.heap.objs.size))->h'.Ns1 s.heap.objs.size (λy=>if y=name then some v else none)->(∀b u,b≠x->s.heap.get? b=some u->h'.get? b=some u) ->
   Q () { s with heap:=h',toks:=s.toks+2 }):wpAny (model prog w) A (setAttr (.ref x) name v) Q E s:=by
 have I:PySem.W.InstAt s.heap x (nJ C t none) C none:=⟨d,rfl,rfl,trivial⟩;refine PySem.W.set_plain X I hs (Gn (s:={ s with toks:=s.toks+1 }) X I z c ?_);obtain⟨cd,j,m⟩:=PySem.W.any_some p;have Y:x≠s.heap.objs.size:=zzL (zzz d);have J:(s.heap.push { cls:=.type "dict",data:=.dict #[] }).get? x=some (nJ C t none):=zzf _ d;refine zzb (zzp (zzb (zzb (wpAny_loadPart d (zzb (PySem.W.Looks.here (s:={ s with toks:=s.toks+1 }) (PySem.W.looks_clsIn X j) ?_))))));rw[m];dsimp only;rw[zzi (show ¬((!true)=true) by decide),zzi (by simp[typeHasDict])];refine zzb (wpAny_alloc' ?_);refine zzb (wpAny_update' J ?_);have r:((s.heap.push { cls:=.type "dict",data:=.dict #[] }).update x λo=>{ o with dict:=some s.heap.objs.size }).get? s.heap.objs.size=some { cls:=.type "dict",data:=.dict #[] } :=
  (Heap.get?_update_ne _ _ _ _ Y.symm).trans (Heap.get?_push_at rfl rfl)
 have G:((s.heap.push { cls:=.type "dict",data:=.dict #[] }).update x λo=>{ o with dict:=some s.heap.objs.size }).Ns s.heap.objs.size (λ_=>none) :=
  ⟨_,#[],_,r,rfl,λe l=>absurd l (by simp),λ_=>rfl⟩
 refine zzp ?_;show wpAny _ _ (Builtin.ObjectAttr.storeInDict s.heap.objs.size (.str name _) name v) _ _ _;unfold Builtin.ObjectAttr.storeInDict Builtin.ObjectAttr.newKeyGuard;refine zzb (zzp (zzb (wpAny_nsSet1 (Heap.Ns1.of_empty G) λh' L U=>?_)));obtain⟨oD,esD,epD,a,n,g⟩:=L.count (Within.cons name v Within.nil);refine zzb (wpAny_lookBehind a (by rw[n];exact pastItsLine_dict (zzq g (by rw[zzm,zyZ,zxT];lia))) ?_);refine zzp (h h' ?_ L λb u i q=>?_)
 ·exact(U.2 x Y).trans (zyE _ J rfl)
 ·exact(U.2 b (zzL (zzz q))).trans ((Heap.get?_update_ne _ _ _ _ i).trans (zzf _ q))
theorem wy{od:Obj}{R:Result->Shared->Prop}(c:ExK K C)(X:K.In s.heap)(I:PySem.W.InstAt s.heap x ox C (some od))(m:PySem.W.findObj K C (some od) name=some (.value v))(h:R (.ok (.ret v)) s) :
  codeAny (model prog w) A (.call (.builtin "BaseException.__getattribute__") ⟨[.ref x,.str name tk],[]⟩) R s:=by
 obtain⟨n,g,d,t,os⟩:=s;have q:builtinKind "BaseException.__getattribute__" = some .slot:=by decide +kernel
 have J:splitId "BaseException.__getattribute__" = some ("BaseException","__getattribute__"):=by decide +kernel
 have ha:=F.args_bexc_ga (.ref x) (.str name tk);have L:=I.type (M:=model prog w);have U:=PySem.W.looks_subIn (M:=model prog w) X c.sub;have L2:=PySem.W.looks_find (M:=model prog w) X I m;refine zxE PySem.F.attr_ValueError.ga.plain F.entry_bexc_ga ?_;simp only[checkBuiltinCall,q,J];refine zzb ?_;unfold isInstance;refine zzb (L.at (U.at ?_));have Y:Looks (model prog w) n (typeOf (.ref x)) (.ref C):=L
 repeat (any_goals (first|assumption|with_reducible refine Y.at ?_|with_reducible refine L2.at ?_|wp_step))
theorem Go{od:Obj}{Q:Value->Shared->Prop}(c:ExK K C)(X:K.In s.heap)(I:PySem.W.InstAt s.heap x ox C (some od))(n:PySem.W.findObj K C (some od) name=some (.value v))(q:PySem.W.handedIn v=true)(h:Q v { s with toks:=s.toks+1 }):wpAny (model prog w) A (getAttr (.ref x) name true) Q E s:=by
 obtain⟨m,g,d,t,os⟩:=s;have L:=I.type (M:=model prog w);have U:=zyT (M:=model prog w) X c.ga;have L2:=zyT (M:=model prog w) X c.gt;have Y:Looks (model prog w) m (typeOf (.ref x)) (.ref C):=L;have f3:=PySem.F.attr_ValueError.ga.bind (.ref x);have J:(Value.builtin "BaseException.__getattribute__" == Value.builtin "object.__getattribute__")=false:=by decide +kernel
 have hx1:(onTheHeap (Value.ref C) && Value.builtin "BaseException.__getattribute__" == Value.builtin "object.__getattribute__")=false:=by rw[J];rfl
 unfold getAttr getAttrBy;refine zzb (wpAny_mkText (zyz (zzb (L.at (zzb (U.at ?_))))))
 repeat (any_goals (first|assumption|with_reducible refine Y.at ?_|with_reducible refine L2.at ?_|wp_step))
 exact wy (s:=⟨m,g,d,t+1,os⟩) c X I n (PySem.W.handed_on q h)
end
structure ExA(K:zvd)(C:Addr):Prop extends ExK K C where
 sa:PySem.W.findIn K (.ref C) "__setattr__" = some (some (.builtin "object.__setattr__"))
 ov:sF K C=true
 hd:PySem.W.hasDictIn K C=true
def excN(C:Addr)(od:Option Addr)(ea:Addr):HO:=.ext λh=>∃t,h.get? ea=some (nJ C t od)
def exD(fs:List (Str×V))(dx:Addr):HO:=.ext λh=>∃mA,h.Ns1 dx mA/\(∀f,RelO (fs.lookup f) (mA f))/\PySem.Within mA (fs.map (·.1))/\fs.length <= 1000
section
variable{s:Shared}{dx:Addr}{fs:List (Str×V)}{f:Str}{v:V}
theorem IJ{P:Program}(n:h.Ns1 dx mA)(r:∀f,RelO (fs.lookup f) (mA f))(g:PySem.Within mA (fs.map (·.1)))(d:fs.length <= 1000):ObjOk P w H h dx (exD fs dx):=by refine⟨⟨mA,n,r,g,d⟩,?_,λh1 h2 ⟨m,J,L⟩ k=>⟨m,J.at k,L⟩⟩;obtain⟨o,es,ep,e,_⟩:=n;exact⟨o,e⟩
theorem Ap{P:Program}{t:Addr}(e:h.get? a=some (nJ C t od)):ObjOk P w H h a (excN C od a) :=
 ⟨⟨t,e⟩,⟨_,e⟩,λ_ _ ⟨t,q⟩ k=>⟨t,k _ q⟩⟩
theorem Dh{y:V}(r:∀f,RelO (fs.lookup f) (mA f))(J:RelV y u)(g:Str):RelO ((putF f y fs).lookup g) (if g=f then some u else mA g):=by
 rw[jB];by_cases q:g=f
 ·rw[zzn q,zzn q];exact J
 ·rw[zzi q,zzi q];exact r g
theorem wz{y:V}(d:PySem.Within mA (fs.map (·.1))):PySem.Within (λg=>if g=f then some u else mA g) ((putF f y fs).map (·.1)):=λg J=>by
 by_cases q:g=f
 ·rw[q];exact(hV f y fs).1
 ·refine(hV f y fs).2 g (d g λz=>J ?_);show (if g=f then some u else mA g)=none;rw[zzi q];exact z
theorem Di{y:V}(I:Inv X pins σ H s)(e:H a=some (excN C none a))(c:ExA X.K C)(n:NoAttr X.K C f)(N:RelV y u)(h:∀dx s',H dx=none->dx≠a->Inv X pins σ (upd (upd H dx (exD [(f,y)] dx)) a (excN C (some dx) a)) s'->Q () s'):wpAny (model X.prog X.w) A (setAttr (.ref a) f u) Q E s:=by
 obtain⟨t,d⟩:=(show ObjOk X.prog X.w H s.heap a (excN C none a) from I.hok a _ e).1;refine Dg I.kIn d c.sa c.ov n c.hd λh' m r k=>h s.heap.objs.size _ (I.hok.fresh (zzr _)) (zwr (zzz d)) ?_;obtain⟨od,L⟩:∃od,h'.get? s.heap.objs.size=some od:=let ⟨o,_,_,q,_⟩:=r;⟨o,q⟩
 have l:a≠s.heap.objs.size:=zzL (zzz d);have p:od.isFreed=false:=(zwt.mp L).2;have g1:(s.heap.push od).get? s.heap.objs.size=some od:=zzy _ p;have M:(s.heap.push od).Ns1 s.heap.objs.size (λy=>if y=f then some u else none):=r.at λo q=>by rw[L]at q;cases q;exact g1
 have i:=I.laid (a:=s.heap.objs.size) (o:=exD [(f,y)] s.heap.objs.size) (h':=s.heap.push od) (t':=s.toks+2) (λb u q=>zzf _ q) (zzr _)
  (IJ M (Dh (fs:=[]) (mA:=λ_=>none) (λ_=>trivial) N) (wz (fs:=[]) (y:=y) (mA:=λ_=>none) λg B=>absurd rfl B) (by simp))
 refine i.write (x:=a) (e:=a) (o:=excN C (some s.heap.objs.size) a) (h':=h') (t':=s.toks+2) (by rw[ah l,e];trivial) (.inl rfl) (λb q v z=>?_) ⟨_,m⟩ (Ap m);by_cases J:b=s.heap.objs.size
 ·rw[J];rw[J,show ({ s with heap:=s.heap.push od,toks:=s.toks+2 }:Shared).heap.get? s.heap.objs.size=some od from g1]at z;cases z;exact L
 ·obtain⟨U,j⟩:=zwt.mp z;refine k b q v (zwt.mpr ⟨?_,j⟩);have Y:b<s.heap.objs.size:=by
   have G:b<(s.heap.push od).objs.size:=(zwn.mp U).1;rw[zyj]at G;exact Nat.lt_of_le_of_ne (Nat.le_of_lt_succ G) J
  have:(s.heap.push od).objs[b]? = s.heap.objs[b]?:=by show (s.heap.objs.push od)[b]? = _;rw[Array.getElem?_push,zzi (zzL Y)]
  rw[←this];exact U
theorem Gp{Q:Value->Shared->Prop}(I:Inv X pins σ H s)(e:H a=some (excA C (some dx) a))(Y:H dx=some (exD fs dx))(c:ExA X.K C)(n:NoAttr X.K C f)(l:fs.lookup f=some v)
  (h:∀u s',Inv X pins σ H s'->RelV v u->Q u s'):wpAny (model X.prog X.w) A (getAttr (.ref a) f true) Q E s:=by
 obtain⟨o,m,d,hd,vs,r⟩:=(show ObjOk X.prog X.w H s.heap a (excA C (some dx) a) from I.hok a _ e).1;obtain⟨mA,G,b,w1,l1⟩:=(show ObjOk X.prog X.w H s.heap dx (exD fs dx) from I.hok dx _ Y).1;obtain⟨u,q,U⟩:=RelO.some_of (v:=v) (o:=mA f) (by rw[←l];exact b f);obtain⟨od,L,g⟩:=uu G;have J:PySem.W.InstAt s.heap a o C (some od):=⟨m,d,by unfold PySem.W.notCls;rw[r],by rw[hd];exact L⟩;exact Go c.toExK I.kIn J (PySem.W.findObj_own c.hd n rfl (by rw[g,q])) (uv U) (h u _ (I.tok _) U)
end
def IK(K:zvd)(ta:TE)(f:Str):TE:=λσ H Q=>ta σ H λx H1=>∃a C d fs v,x=.ref a/\H1 a=some (excA C (some d) a)/\H1 d=some (exD fs d)/\ExA K C/\NoAttr K C f/\fs.lookup f=some v/\Q v H1
def IL(K:zvd)(ta tv:TE)(f:Str):TS:=λD σ H=>tv σ H λy H1=>ta σ H1 λx H2=>∃a C,x=.ref a/\H2 a=some (excN C none a)/\ExA K C/\NoAttr K C f /\
 ∀d,H2 d=none->d≠a->D.nx σ (upd (upd H2 d (exD [(f,y)] d)) a (excN C (some d) a))
section
variable{o e value:Expr}{f:Str}{pos':Pos}{ta tv:TE}
theorem Gq(he:PE X e ta)(Y:attributeBase e f X.env (eval e X.env)=eval e X.env):PE X (.Attribute e f pos) (IK X.K ta f):=by intro pins s σ H Q I h;refine zR Y (thn (he pins s σ H _ I h) λu s1 d=>?_);obtain⟨x,H1,J,m,a,C,dx,fs,v,ex,ea,U,c,n,l,q⟩:=d;subst ex;obtain rfl:u=Value.ref a:=m;exact Gp J ea U c n l λu' s2 L g=>⟨v,H1,L,g,q⟩
theorem Dj(r:PE X o ta)(Y:PE X value tv)(hs:swapsWith value (some (.Attribute o f pos')) pos.line X.env=pure false):PS X (.Assign [.Attribute o f pos'] value pos) (IL X.K ta tv f):=by intro pins s σ H D I h;refine plainObj_wpAny_Assign_Attribute (thnE (Y pins s σ H _ I h) λu l y H1 J j q=>thn (r pins l σ H1 _ J q) λG s2 b=>?_) hs;obtain⟨x,H2,L,i,a,C,ex,ea,c,n,e⟩:=b;subst ex;obtain rfl:G=Value.ref a:=i;exact Di L ea c n j λd s3 g m U=>⟨σ,_,U,e d g m⟩
end
noncomputable def Aq(K:zvd)(C fI:Addr)(L:List Value)(J:String):Bool:=match K.lookup C with
 | some ⟨.type t,_,.cls d,m⟩=>(match d.mro,m.toList with
  |.ref U::g,[_,_,_,_,some (.builtin n),_]=>t == "type" && U == C && n == J && !d.hasDel && PySem.W.tailIn K L g && PySem.W.nsOkIn K d.ns && PySem.W.nsIn K d.ns "__init__" == some (some (.ref fI))|_,_=>false)
 |_=>false
structure ExcI(K:zvd)(C fI:Addr):Prop extends ExA K C where
 q:Aq K C fI [.type "ValueError",.type "Exception",.type "BaseException",.type "object"] "ValueError.__new__" = true
 fi:PySem.W.findIn K (.ref C) "__init__" = some (some (.ref fI))
 fn:PySem.W.typeIn K (.ref fI)=some (.type "function")
 kp:PySem.W.keepIn K (.ref C)=true
section
variable{fI:Addr}
theorem sG(k:K.In h)(c:ExcI K C fI):∃bm N nm q bs L r sub g col dd d k1 k2 U Y,h.get? C=some (excClassObj nm q C N bs bm L r sub g col dd d k1 k2 U Y "ValueError.__new__")/\OwnTail h [.type "ValueError",.type "Exception",.type "BaseException",.type "object"] bm:=by
 have q:=c.q;unfold Aq at q;split at q
 ·rename_i ty dd e I i;split at q
  ·rename_i C' bm d k1 k2 U n Y s G;simp only[zzX,zwi,Bool.not_eq_true']at q;obtain⟨⟨⟨⟨⟨⟨rfl,rfl⟩,rfl⟩,J⟩,j⟩,m⟩,a⟩:=q;obtain⟨nm,bs,mro,ns,o,hd,r,sub,g,col,del⟩:=e;dsimp only at s J m a;subst s J;have b:I = #[d,k1,k2,U,some (.builtin "ValueError.__new__"),Y]:=by
    obtain⟨l⟩:=I;simp only at G;rw[G]
   subst b;exact⟨bm,ns,nm,o,bs,hd,r,sub,g,col,dd,d,k1,k2,U,Y,k _ _ i,PySem.W.tail_of_in k j⟩
  ·cases q
 ·cases q
section
variable{s:Shared}
theorem yX{Q:Fin->Shared->Prop}(X:K.In s.heap)(c:ExcI K C fI)(i:∀h' e,s.heap.objs.size <= e->Heap.MadeExcOf s.heap h' e (.ref C) vs->wpAny (model prog w) A (call (.ref fI) (.ref e::vs)) (λr s'=>r=.none/\Q (.done (.ret (.ref e))) s') E { s with heap:=h' })(Y:vs.length <= sizeLine) :
  wpAny (model prog w) A (Builtin.«type.__call__» ⟨.ref C::vs,[]⟩) Q E s:=by
 obtain⟨I,N,nm,q,bs,hdct,sn,sub,ab,col,dd,k0,k1,k2,k3,k5,m,T⟩:=sG X c;have FB:=PySem.F.excBase_ValueError;obtain⟨h,g,d,t,os⟩:=s
 repeat (first|with_reducible refine zwc m ?_|with_reducible refine wpAny_madeBy_exc m ?_|wp_step)
 refine codeAny_call_builtin_code (Code.quiet_builtin _ FB.quiet) (wpAny_check_new_subU FB (by decide) T m ?_);refine codeAny_exc_new_subU FB (by decide) FB T m ?_ Y;show wpAny _ _ _ _ _ _;have n:∀b o,h.get? b=some o->((h.push { cls:=.type "tuple",data:=.seq vs.toArray }).push (nJ C h.objs.size none)).get? b=some o:=λb o e=>zzf _ (zzf _ e);have J:K.In ((h.push { cls:=.type "tuple",data:=.seq vs.toArray }).push (nJ C h.objs.size none)):=λb o e=>n b o (X b o e);have U:=n _ _ m;have L:((h.push { cls:=.type "tuple",data:=.seq vs.toArray }).push (nJ C h.objs.size none)).get? (h.objs.size+1)=some (nJ C h.objs.size none):=by heap_get
 have G:(Value.ref C::I).contains (.ref C)=true:=by simp
 unfold isInstance
 repeat (first|with_reducible refine zwc L ?_|(with_reducible refine wpAny_isSubtype_exc U ?_;rw[G])|wp_step)
 show wpAny _ _ (typeLookup (.ref C) _) _ _ _;refine(zyT (M:=model prog w) J c.fi).here ?_;refine zyz (zzb ?_);refine(PySem.W.bind_fn J _ c.fn).here ?_;refine zzb (zyS (i _ (h.objs.size+1) (zxH _) ⟨n,zwI (zxH _),h.objs.size,L,zwI (zzr _),?_⟩) (λr s' j=>?_) λ_ _ x=>x)
 ·exact zzf _ (Heap.get?_push_at rfl rfl)
 ·obtain⟨rfl,a⟩:=j
  wp_walk
  exact a
theorem KJ{Q:Value->Shared->Prop}(X:K.In s.heap)(c:ExcI K C fI)(U:∀h' e,s.heap.objs.size <= e->Heap.MadeExcOf s.heap h' e (.ref C) vs->wpAny (model prog w) (A.under (.builtin "type.__call__" ⟨.ref C::vs,[]⟩)) (call (.ref fI) (.ref e::vs)) (λr s'=>r=.none/\Q (.ref e) s') E { s with heap:=h' })(J:vs.length <= sizeLine) :
  wpAny (model prog w) A (call (.ref C) vs) Q E s:=by
 obtain⟨bm,N,nm,q,bs,hdct,sn,sub,ab,col,dd,k0,k1,k2,k3,k5,L,T⟩:=sG X c;have f1:=tc_lookup;have f2:=tc_bind (.ref C);obtain⟨h,g,d,t,os⟩:=s;have hT:(⟨h,g,d,t,os⟩:Shared).TypeIs (.ref C) "type":=⟨_,L,rfl⟩;refine zwv (codeAny_of_tree ?_);show wpAny _ _ (callAny (.ref C) _) _ _ _
 repeat (any_goals (first|assumption|with_reducible refine zwc L ?_|wp_step))
 refine⟨rfl,?_⟩;refine codeAny_call_builtin_at (Code.quiet_builtin _ (by decide +kernel)) entry_typeCall (wpAny_check_type_call_sub L (yX (s:=⟨h,g,d,t,os⟩) X c (λh' e n m=>?_) J));exact U h' e n m
theorem yY{x:Expr}{Q:Flow->Shared->Prop}(r:A.handled=none)(h:wpAny (model prog w) A (eval x env) (λv J=>∃e t od,v=.ref e/\K.In J.heap/\ExcI K C fI/\J.heap.get? e=some (nJ C t od)/\E (.ref e) J) E s) :
  wpAny (model prog w) A (exec (.Raise (some x) none pos) env) Q E s:=by
 rw[arm_exec_Raise];simp only[evalOpt,Option.map];refine zzb (zwl ?_);unfold raiseStmt;refine zzb (zzb (zyS h (λv J h₁=>zzb (zwl (zzp ?_))) λ_ _ x=>x));obtain⟨e,t,od,rfl,X,c,n,Y⟩:=h₁;obtain⟨m,N,nm,q,bs,hdct,sn,sub,ab,col,dd,k0,k1,k2,k3,k5,U,T⟩:=sG X c;have L:(Value.ref C::m).contains (.type "BaseException")=true:=by rw[List.contains_cons,T.hasType (X:="BaseException") (b:=true) (by decide),Bool.or_true]
 obtain⟨hp,g,d,tk,os⟩:=J
 repeat (first|with_reducible refine zwc n ?_|with_reducible refine zwc U ?_|(with_reducible refine wpAny_isSubtype_exc U ?_;rw[L])|wp_step)
 exact wpAny_raiseNew_none r Y
end
end
end L2
namespace L2
open PySem PySem.Spec PyProof.Rows
variable{C T ea z:Addr}{b c m:Nat}{ch:List Addr}{f0 f1:Value}{src:List (Addr×Array Value)}{vs:List Value}
variable{X:Cx}{pins:List (Addr×Obj)}{σ:St}{H:Hp}{prog:Program}{w:World}{A:Around}{E:Value->Shared->Prop}
section
variable{G:Hp}{s s':Shared}{a:Addr}{W:St->XK}
theorem Inv.unlay{i:Heap->Prop}(I:Inv X pins σ (upd G a (.ext i)) s)(j:G a=none):Inv X pins σ G s:=by
 have no:∀b,upd G a (.ext i) b=none->G b=none:=λb q=>by
  by_cases z:b=a
  ·rw[z];exact j
  ·rwa [ah z]at q
 have g:∀b o,upd G a (.ext i) b=some o->(∀U,o ≠ .ext U)->G b=some o:=λb o q h=>by
  by_cases z:b=a
  ·subst z;rw[ai]at q;cases q;exact absurd rfl (h i)
  ·rwa [ah z]at q
 have up:∀b o,G b=some o->upd G a (.ext i) b=some o:=λb o q=>by rw[ah (bp q j)];exact q
 refine⟨I.ok,I.os,I.bare,⟨I.base.keep,I.base.slot,λb o e n L=>no _ (I.base.free b o e n L),I.base.there,λb l q=>g _ _ (I.base.tups b l q) (λ_ z=>by cases z),λb o u q=>g _ _ (I.base.frzs b o u q) (λ_ z=>by cases z),λb B q=>?_⟩,I.loc,I.cell,no _ I.free,λx d q=>no _ (I.freeC x d q),λp J=>?_,λb o q=>?_,I.len⟩
 ·obtain⟨m,z⟩:=I.base.tbls b B q;exact⟨m,g _ _ z (λ_ z=>by cases z)⟩
 ·obtain⟨v,y,r⟩:=I.pin p J;exact⟨v,no _ y,r⟩
 ·exact(I.hok b o (up b o q)).stay (λ_ _ _ q=>q) (λd q=>g _ _ q (λ_ z=>by cases z)) λd l q=>g _ _ q (λ_ z=>by cases z)
theorem Dk{t:Addr}{g:Option Addr}(I:Inv X pins σ H s)(J:Inv X pins σ G s')(B:s.heap.get? ea=none)(y:G ea=none)(he:s'.heap.get? ea=some (nJ C t g))(q:W σ (.ref C) g G):XF X W (.ref ea) s':=by
 have n:∀d∈X.stack,∀b,d.frame=some b->b∈ea::frs X.stack:=λd he b Y=>zzc _ (zwW.mpr ⟨d,he,Y⟩);have U:∀b o,s'.heap.get? b=some o->b≠ea->b∉frs X.stack->(PySem.W.hideAll s'.heap (ea::frs X.stack)).get? b=some o:=λb o e M N=>PySem.W.hideAll_get _ e (by simp[M,N]);have ne:∀b o,s.heap.get? b=some o->b≠ea:=λb o e z=>by rw[z,B]at e;cases e
 refine⟨ea,C,g,PySem.W.hideAll s'.heap (ea::frs X.stack),σ,G,rfl,⟨.inr (.inr ⟨λb o e=>PySem.W.of_hideAll _ e,PySem.W.hideAll_none _ (by simp),PySem.W.funFrames_hide J.stack n,_,_,_,he,rfl,rfl,rfl,rfl⟩),_,he,rfl⟩,⟨λb o e Y j=>?_,λb o e=>?_,λp i=>?_⟩,J.nopin,q⟩
 ·obtain⟨Q,h⟩:=I.base.there b o e j;obtain⟨l,L⟩:=J.base.there b o e j;exact⟨l,U b l L (ne b Q h) (J.offstack (J.oldNe e) Y)⟩
 ·obtain⟨u,L⟩:=(J.hok b o e).there;exact⟨u,U b u L (λz=>by rw[z,y]at e;cases e) λz=>by rw[J.stkFree b z]at e;cases e⟩
 ·obtain⟨r,_,v,x,_⟩:=J.pin p (zyn _ i);obtain⟨h,_⟩:=I.pin p (zyn _ i);exact⟨p.2,U p.1 p.2 r (ne p.1 p.2 h) (J.offstack v x)⟩
end
section
variable{tg:Expr}
theorem Dm(l:X.calm=true):fV X (.builtin "sum") (λxs H Q=>∃(p:Addr) (ns:List Int),xs=[.ref p]/\SqL X.K H p (ns.map V.int)/\Q (.int ns.sum) H):=by
 intro pins s σ H xs us Q I r h;obtain⟨p,ns,rfl,o,q⟩:=h;obtain⟨u,rfl,e⟩:=nF r;cases e;obtain⟨a,U,v,_⟩:=I.list o;have g:IntsAre a ns:=fW U;obtain⟨i,e⟩:=g.allInts.items;have J:=v.isList;rw[e]at J;refine sum_intListG (I.ok.hd l) J λh' tk x n=>⟨.int ns.sum,H,I.kept n,⟨x,?_⟩,q⟩;have j:numsOf a=ns:=g.numsOf;have d:=nums_intItems i;rw[←e]at d;have L:i.toList.map (·.1)=ns:=by rw[←d,←j]
 rw[preSum_eq,zxr (by simp),L]
def iSeq(K:zvd)(tl:TE):TI:=λσ H R=>tl σ H λx d=>(∃a,x=.ref a/\(∃e,SqL K d a e)/\R (Itl K a) d)∨(∃a,x=.ref a/\(∃e,SqT K d a e)/\R (Itt K a) d)
theorem IM{l:Expr}{j:TE}(n:PE X l j):PI X tg l (iSeq X.K j):=by
 intro pins s σ H R I h;refine thn (n pins s σ H _ I h) λv d u=>?_;obtain⟨x,i,J,Y,y⟩:=u;rcases y with ⟨a,rfl,⟨G,U⟩,q⟩|⟨a,rfl,⟨G,U⟩,q⟩
 ·cases Y;obtain⟨g,B,p,r⟩:=J.list U;refine zxB p.isList ⟨d.heap.objs.size,[d.heap.objs.size],_,_,i,rfl,J.kept (t':=d.toks) (λb o e=>zzf _ e),uk a _,⟨_,zzy _ rfl,rfl,rfl⟩,λb L=>?_,q⟩;rw[show b=d.heap.objs.size by simpa using L];exact J.fpOk (zzr _) (J.hok.fresh (zzr _))
 ·cases Y;obtain⟨g,B,p,r⟩:=J.tuple U;refine zxs (show d.heap.IsTuple a g.toArray from p) ⟨d.heap.objs.size,[d.heap.objs.size],_,_,i,rfl,J.kept (t':=d.toks) (λb o e=>zzf _ e),qV a _,⟨_,zzy _ rfl,rfl,rfl⟩,λb L=>?_,q⟩;rw[show b=d.heap.objs.size by simpa using L];exact J.fpOk (zzr _) (J.hok.fresh (zzr _))
end
section
variable{s:Shared}{h':Heap}
theorem Inv.turnedN{o:HO}{t':Nat}(I:Inv X pins σ H s)(L:∀b∈ch,FpOk X pins H b)(k:∀b u,b∉ch->s.heap.get? b=some u->h'.get? b=some u)(Y:s.heap.objs.size <= T)(new:ObjOk X.prog X.w (upd H T o) h' T o):Inv X pins σ (upd H T o) { s with heap:=h',toks:=t' }:=by
 have d:=I.hok.fresh Y;refine I.call' (s':={ s with heap:=h',toks:=t' }) (ch:=ch) rfl ⟨λb u q _ _ U=>k b u U q,λb u q _ _ U=>⟨u.slots,k b u U q⟩,λb u q n _=>?_,λb u q U=>⟨u,k b u U q⟩,λb i e=>?_,λb p u e=>?_,λb ps e=>⟨#[],?_⟩⟩ (λa q e=>?_) I.bare
  (λb J=>⟨(L b J).2.2.2.1,(L b J).2.1,(L b J).2.2.2.2.1,(L b J).2.2.2.2.2⟩)
 ·rw[ah (zzL (zzE (zzz q) Y))];exact n
 ·rw[ah (by rintro rfl;rw[d]at e;cases e)];exact e
 ·rw[ah (by rintro rfl;rw[d]at e;cases e)];exact e
 ·rw[ah (by rintro rfl;rw[d]at e;cases e)];simpa using e
 ·by_cases z:a=T
  ·subst z;rw[ai]at e;cases e;exact new
  ·rw[ah z]at e;refine ObjOk.stay (I.hok a q e) (λb u J h=>k b u (λg=>?_) h) (λb J=>?_) (λb i J=>?_)
   ·have:=(L b g).1;rcases J with rfl|J
    ·rw[this]at e;cases e
    ·rw[this]at J;cases J
   ·rw[ah (by rintro rfl;rw[d]at J;cases J)];exact J
   ·rw[ah (by rintro rfl;rw[d]at J;cases J)];exact J
theorem Inv.turnedL{t':Nat}(I:Inv X pins σ H s)(L:∀b∈ch,FpOk X pins H b)(k:∀b u,b∉ch->s.heap.get? b=some u->h'.get? b=some u):Inv X pins σ H { s with heap:=h',toks:=t' }:=by
 refine I.call' (s':={ s with heap:=h',toks:=t' }) (ch:=ch) rfl ⟨λb u q _ _ U=>k b u U q,λb u q _ _ U=>⟨u.slots,k b u U q⟩,λb u q n _=>n,λb u q U=>⟨u,k b u U q⟩,λb h e=>e,λb p u e=>e,λb ps e=>⟨#[],by simpa using e⟩⟩ (λa q e=>?_) I.bare
  (λb J=>⟨(L b J).2.2.2.1,(L b J).2.1,(L b J).2.2.2.2.1,(L b J).2.2.2.2.2⟩)
 refine ObjOk.stay (I.hok a q e) (λb u J g=>k b u (λd=>?_) g) (λb J=>J) (λb h J=>J);have:=(L b d).1;rcases J with rfl|J
 ·rw[this]at e;cases e
 ·rw[this]at J;cases J
end
theorem Ar:bootBuiltins "enumerate" = some (.type "enumerate"):=by decide +kernel
theorem Dn:bootBuiltins "zip" = some (.type "zip"):=by decide +kernel
def IN:V->List V->Hp->VK->Prop:=λx vs H Q=>∃l a y j,x=.ref l/\vs=[y]/\H l=some (.lst a)/\hZ y=true/\a.all hZ=true/\(∃z,a[j]? = some z/\eqV z y=true)/\(∀m z,m<j->a[m]? = some z->eqV z y=false)/\Q (.int ((j:Nat):Int)) H
theorem Do:MtM X "list.index" IN:=by
 intro pins s σ H x vs v us Q I rx rv h;obtain⟨l,d,y,j,rfl,rfl,E,C,fs,⟨z0,L,c⟩,N,q⟩:=h;cases rx;obtain⟨u,rfl,ru⟩:=rv.one;obtain⟨z,a,n,r,G,e⟩:=I.lstM E;have A:∀(m:Nat) (z:V),d[m]? = some z->hZ z=true:=λm z T=>zyw.mp fs z (zzI T);have B:j<a.length:=by rw[←G];exact(zzx.mp L).1
 have at_:∀(m:Nat) (g:m<a.toArray.size),∃z,d[m]? = some z/\eqU y a.toArray[m]=eqV z y:=λm g=>by
  have J:m<d.length:=by rw[G];simpa using g
  obtain⟨w,p,b⟩:=r.get (show d[m]? = some d[m] by simp[J]);refine⟨d[m],by simp[J],?_⟩;have:a.toArray[m]=w:=by
   have Y:m<a.length:=by simpa using g
   have:a[m]? = some a[m]:=by simp[Y]
   rw[p]at this;cases this;simp
  rw[this];exact zW b (A m _ (by simp[J]))
 have sj:(j:Int)<2^63 - 1:=by
  have:j<sizeLine:=by lia
  have:(sizeLine:Int)<2^63 - 1:=by decide
  lia
 refine zxN F.slot_list_index ⟨_,e,rfl⟩ F.entry_list_index (F.args_list_index_2 _ _) (SeqAt.list_indexAt l a.toArray n none #[] u (eqU y) j (by simpa using B) sj ?_ (λm g U=>?_)) ⟨e,λw p=>kE ru C r fs w (by simpa using p),?_⟩
 ·obtain⟨M,i,o⟩:=at_ j (by simpa using B);rw[L]at i;cases i;rw[o];exact c
 ·obtain⟨M,i,o⟩:=at_ m g;rw[o];exact N m M U i
 ·exact⟨.int _,H,I.tok _,⟨_,rfl⟩,q⟩
abbrev dI(h:Heap)(z TI TO:Addr)(f0 f1:Value):Prop :=
 h.get? z=some { cls:=.type "zip",dict:=none,data:=.fields #[f0,f1,.bool false,.ref TI,.ref TO],slots:=#[] }
abbrev cf(h:Heap)(T:Addr)(xs:Array Value):Prop:=h.get? T=some { cls:=.type "tuple",data:=.seq xs }
def OwnF(f:Value):Prop:=f=.none∨∃a:Int,f=.int a 0
abbrev itsL(n m:Nat):List Value:=(List.range m).map λj=>Value.ref (n+j)
def KK(h:Heap)(n:Nat)(src:List (Addr×Array Value))(k c:Nat):Prop:=∀(j:Nat) (p:Addr×Array Value),src[j]? = some p->h.IsListIter (n+j) p.1 (if j<c then k+1 else k)
def KL(h:Heap)(n:Nat)(src:List (Addr×Array Value)):Prop:=∀(j:Nat) (p:Addr×Array Value),src[j]? = some p->p.1<n/\h.IsList p.1 p.2
structure ZipSt(h:Heap)(n:Nat)(src:List (Addr×Array Value))(k:Nat):Prop where
 zip:∃f0 f1,OwnF f0/\dI h (n+src.length+2) (n+src.length) (n+src.length+1) f0 f1
 ti:cf h (n+src.length) (itsL n src.length).toArray
 to:∃ws:Array Value,ws.size=src.length/\cf h (n+src.length+1) ws
 its:KK h n src k 0
 ls:KL h n src
 ne:src≠[]
def KeptZ(n m:Nat)(h h':Heap):Prop:=∀(b:Nat) o,b<n∨b=n+m∨n+m+2<b->h.get? b=some o->h'.get? b=some o
section
variable{s:Shared}
theorem lV{a:Addr}{Q:Option Obj->Shared->Prop}(h:Q (s.heap.get? a) s):wpAny (model prog w) A (loadIfAlive a) Q E s :=
 fun Γ p _=>by show Sem.wp _ Γ (.loadIfAlive a .pure) _ _ p s;rw[Sem.wp_loadIfAlive];exact h
theorem Dp{Q:Bool->Shared->Prop}(g:OwnF f0)(hz:dI s.heap z T ea f0 f1)(Y:Q true s)(d:∀h' J,dI h' z T ea f0 J->Heap.SameBut z s.heap h'->Q false { s with heap:=h' }) :
  wpAny (model prog w) A (Builtin.SmallTypes.ownedTupleIsFree (.ref z)) Q E s:=by
 unfold Builtin.SmallTypes.ownedTupleIsFree;refine zzb (zyR hz rfl (x:=f0) rfl ?_);rcases g with rfl|⟨a,rfl⟩
 ·exact zzp Y
 ·show wpAny _ _ (loadIfAlive a.toNat >>= _) _ _ _;refine zzb (lV ?_);cases e:s.heap.get? a.toNat with
  |none=>exact zzp Y|some o =>
   show wpAny _ _ (field (.ref z) 1 >>= _) _ _ _;refine zzb (zyR hz rfl (x:=f1) rfl ?_);by_cases U:(f1 != .bool true)=true
   ·rw[zzn U];refine zzb (zxv hz (by simp) λh' L h=>zzp (d h' (.bool true) ?_ h));exact L
   ·rw[zzi U];refine zzb (zzp ?_);exact zzp (d s.heap f1 hz (Heap.SameBut.refl ..))
end
theorem jD{a:Type}{l:List a}{j:Nat}{p:a}(h:l[j]? = some p):j<l.length:=(zzx.mp h).1
section
variable{s:Shared}
theorem jE{ws:Array Value}{x:Value}{k:Nat}{Q:Unit->Shared->Prop}(J:cf s.heap T ws)(hz:ws.size <= sizeLine)(h:∀h',cf h' T (ws.setIfInBounds k x)->Heap.SameBut T s.heap h'->Q () { s with heap:=h' }) :
  wpAny (model prog w) A (updateSeq T (·.setIfInBounds k x)) Q E s:=by
 refine wpAny_updateSeq J rfl (h _ ?_ (zyy ..)) hz (by simp;lia);show Heap.get? _ _=_;rw[zyE _ J rfl];simp[Obj.mapSeq]
theorem At{d:Type}{l:List d}{x:d}{r:List d}(h:l.drop c=x::r):l[c]? = some x/\l.drop (c+1)=r:=by
 have e:c<l.length:=by
  rcases Nat.lt_or_ge c l.length with a|a
  ·exact a
  ·rw[zxW a]at h;cases h
 rw[zzZ e]at h;cases h;exact⟨by simp,rfl⟩
theorem Au{n:Nat}(h:c<m):(itsL n m)[c]? = some (.ref (n+c)):=by unfold itsL;rw[zzu,zwR h];rfl
def Told(src:List (Addr×Array Value))(k c:Nat)(vs:List Value):Prop:=vs.length=c/\∀(j:Nat) (p:Addr×Array Value),j<c->src[j]? = some p->p.2[k]? = vs[j]?
theorem Told.push{k:Nat}{p:Addr×Array Value}{v:Value}(t:Told src k c vs)(a:src[c]? = some p)(L:p.2[k]? = some v):Told src k (c+1) (vs++[v]):=by
 refine⟨by simp[t.1],λj q hj J=>?_⟩;by_cases z:j=c
 ·subst z;rw[a]at J;cases J;rw[L,zzT (by rw[t.1];exact zzr _),t.1];simp
 ·rw[t.2 j q (by lia) J,zyk (by rw[t.1];lia)]
end
abbrev tuO(xs:List Value):Obj:={ cls:=.type "tuple",data:=.seq xs.toArray }
noncomputable abbrev ziO(TI TO:Addr):Obj:={ cls:=.type "zip",data:=.fields #[.none,.bool false,.bool false,.ref TI,.ref TO] }
inductive Laid:Hp->List (List V)->List Addr->Hp->Prop
 |nil {H:Hp}:Laid H [] [] H
 |snoc {H H1:Hp} {rows:List (List V)} {Ts:List Addr} {r:List V} {T:Addr}:Laid H rows Ts H1->H1 T=none->Laid H (rows++[r]) (Ts++[T]) (upd H1 T (.tup r))
def IO(xss:List (List V))(i:Nat)(r:List V):Prop:=r.length=xss.length/\∀(j:Nat) xs,xss[j]? = some xs->xs[i]? = r[j]?
def SrcV(xss:List (List V))(src:List (Addr×Array Value)):Prop:=xss.length=src.length/\∀(j:Nat) xs (p:Addr×Array Value),xss[j]? = some xs->src[j]? = some p->Vals xs p.2.toList
theorem Vals.got:∀{xs:List V} {us:List Value} {i:Nat} {u:Value},Vals xs us->us[i]? = some u->∃x,xs[i]? = some x/\RelV x u:=λ{xs us i u} r e=>by
 have a:i<us.length:=jD e;have L:xs[i]? = some (xs[i]'(by rw[r.length];exact a)):=by simp
 obtain⟨u',J,U⟩:=r.get L;rw[e]at J;cases J;exact⟨_,L,U⟩
theorem uP{i:Nat}:∀{xss:List (List V)} {src:List (Addr×Array Value)} {vs:List Value},SrcV xss src->vs.length=src.length->(∀(j:Nat) (p:Addr×Array Value),src[j]? = some p->p.2[i]? = vs[j]?)->∃r,IO xss i r/\Vals r vs
 |[],src,vs,J,a,_=>by have e:src=[]:=zzK.mp (by rw[←J.1];rfl);subst e;have g:vs=[]:=zzK.mp (by rw[a];rfl);subst g;exact⟨[],⟨rfl,λj d h=>by simp at h⟩,.nil⟩
 |d::xss,[],vs,J,a,_=>absurd J.1 (by simp)|d::xss,p::src,[],J,a,_=>absurd a (by simp)|d::xss,p::src,v::vs,J,a,h=>by
  obtain⟨r,U,n⟩:=uP (xss:=xss) (src:=src) (vs:=vs) (i:=i) ⟨by simpa using J.1,λj d p g l=>J.2 (j+1) d p (by simpa using g) (by simpa using l)⟩ (by simpa using a) λj p L=>by have:=h (j+1) p (by simpa using L);simpa using this
  have e:=h 0 p rfl;have e:p.2[i]? = some v:=by simpa using e
  obtain⟨x,Y,o⟩:=(J.2 0 d p rfl rfl).got (u:=v) (i:=i) (by rw[zyN];exact e);refine⟨x::r,⟨by simp[U.1],λj q L=>?_⟩,.cons o n⟩;cases j with
  |zero=>simp at L;subst L;simpa using Y|succ j=>simpa using U.2 j q (by simpa using L)
theorem xC{xss:List (List V)}{i:Nat}(U:SrcV xss src)(L:Told src i src.length vs):∃r,IO xss i r/\Vals r vs :=
 uP U L.1 λj p J=>L.2 j p (jD J) J
theorem xD{n:Nat}(h:b<n∨n+m+2<b):b<n∨b=n+m∨n+m+2<b:=h.imp_right .inr
theorem Laid.len{H a:Hp}{rows:List (List V)}(l:Laid H rows ch a):ch.length=rows.length:=by
 induction l with
 |nil=>rfl|snoc _ _ J=>simp[J]
theorem Av(f:Bool->Bool):∀(bs:List Bool),(List.range bs.length).all (λi=>f (bs.getD i false))=bs.all f:=by
 intro bs;rw[zyX];simp only[zyw,zxp];constructor
 ·intro h b J;obtain⟨i,a,e⟩:=List.mem_iff_getElem.mp J;have:=h i a;rw[zzC,zzt a]at this;subst e;simpa using this
 ·intro h i a;have:=h bs[i] (zyP a);rw[zzC,zzt a];simpa using this
theorem Aw:∀(bs:List Bool),(List.range bs.length).any (λi=>bs.getD i false)=bs.any id:=by
 intro bs;rw[zyX];simp only[zwF,zxp];constructor
 ·rintro⟨i,a,h⟩;rw[zzC,zzt a]at h;exact⟨bs[i],zyP a,by simpa using h⟩
 ·rintro⟨b,J,h⟩;obtain⟨i,a,e⟩:=List.mem_iff_getElem.mp J;refine⟨i,a,?_⟩;rw[zzC,zzt a];subst e;simpa using h
theorem oS{prog:Program}{w:World}{A:Around}{bs:List Bool}{its:List Value}(r:Vals (bs.map V.bl) its):TruthOf prog w A (λi v=>its.toArray[i]? = some v) (λi=>bs.getD i false):=by
 intro i v s Q E h q;have h:its[i]? = some v:=by simpa using h
 have a:i<bs.length:=by have:=r.length;have:=jD h;simp at *;lia
 obtain⟨u,J,L⟩:=r.get (i:=i) (x:=.bl bs[i]) (by simp[a]);rw[h]at J;cases J;cases L;have q:Q (bs.getD i false) s:=q;rw[zzC,zzt a]at q;exact zyW q
theorem Dq(g:X.calm=true):fV X (.builtin "all") (λxs H Q=>∃(p:Addr) (bs:List Bool),xs=[.ref p]/\SqL X.K H p (bs.map V.bl)/\Q (.bl (bs.all id)) H):=by
 intro pins s σ H xs us Q I r h;obtain⟨p,bs,rfl,j,q⟩:=h;obtain⟨u,rfl,e⟩:=nF r;cases e;obtain⟨a,U,d,_⟩:=I.list j;have J:a.toArray.size=bs.length:=by have:=U.length;simpa using this.symm
 have L:p≠s.heap.objs.size:=by obtain⟨o,l,_⟩:=d.isList;exact zzL (zzz l)
 refine call_all_walk (zxB d.isList ⟨s.heap.objs.size,_,_,_,_,_,_,rfl,Walks.list (A:=X.A.in1) (I.ok.hd g) s.heap.objs.size p L a.toArray,⟨⟨_,zzy _ rfl,rfl,rfl⟩,d.isList.push _⟩,oS U,λh' tk i=>⟨.bl (bs.all id),H,I.kept λb o e=>i b o ?_ (zzf _ e),?_,q⟩⟩)
 ·intro Y;have:b=s.heap.objs.size:=by simpa using Y
  exact absurd (zzz e) (by rw[this];exact zyD _)
 ·show Value.bool _=Value.bool _;rw[J];have:=Av id bs;simp only[id]at this ⊢;rw[this]
theorem Dr(g:X.calm=true):fV X (.builtin "any") (λxs H Q=>∃(p:Addr) (bs:List Bool),xs=[.ref p]/\SqL X.K H p (bs.map V.bl)/\Q (.bl (bs.any id)) H):=by
 intro pins s σ H xs us Q I r h;obtain⟨p,bs,rfl,j,q⟩:=h;obtain⟨u,rfl,e⟩:=nF r;cases e;obtain⟨a,U,d,_⟩:=I.list j;have J:a.toArray.size=bs.length:=by have:=U.length;simpa using this.symm
 have L:p≠s.heap.objs.size:=by obtain⟨o,l,_⟩:=d.isList;exact zzL (zzz l)
 refine call_any_walk (zxB d.isList ⟨s.heap.objs.size,_,_,_,_,_,_,rfl,Walks.list (A:=X.A.in1) (I.ok.hd g) s.heap.objs.size p L a.toArray,⟨⟨_,zzy _ rfl,rfl,rfl⟩,d.isList.push _⟩,oS U,λh' tk i=>⟨.bl (bs.any id),H,I.kept λb o e=>i b o ?_ (zzf _ e),?_,q⟩⟩)
 ·intro Y;have:b=s.heap.objs.size:=by simpa using Y
  exact absurd (zzz e) (by rw[this];exact zyD _)
 ·show Value.bool _=Value.bool _;rw[J,Aw]
section
variable{s:Shared}
theorem Gr{elts:List Expr}{x1}{pos:Pos}{Q:Unit->Shared->Prop}(a:OwnF f0)(hz:dI s.heap z ea C f0 f1)(Y:∀h' J,OwnF J->dI h' z ea C J f1->Heap.SameBut z s.heap h'->Q () { s with heap:=h' }) :
  wpAny (model prog w) A (letOwnedTupleGo (.Tuple elts x1 pos) (.ref z) (.ref T)) Q E s:=by
 unfold letOwnedTupleGo;refine zzb (wpAny_load hz ?_);show wpAny _ _ (if (["enumerate","zip","dict_itemiterator","dict_reverseitemiterator","odict_iterator","itertools.zip_longest","itertools.pairwise"].contains "zip" &&
   (#[f0,f1,.bool false,.ref ea,.ref C]:Array Value)[0]? == some (rawInt T))=true then _ else _) Q E s
 split
 ·refine zzb (wpAny_rule ?_);show wpAny _ _ (setField (.ref z) 0 .none) Q E s;exact zxv hz (by simp) λh' U L=>Y h' .none (.inl rfl) U L
 ·exact zzp (Y s.heap f0 a hz (Heap.SameBut.refl _ _))
end
structure ZipTn(n:Nat)(as:List Addr)(k:Nat)(h:Heap):Prop where
 zip:∃f0 f1,OwnF f0/\dI h (n+as.length+2) (n+as.length) (n+as.length+1) f0 f1
 ti:cf h (n+as.length) (itsL n as.length).toArray
 to:∃ws:Array Value,ws.size=as.length/\cf h (n+as.length+1) ws
 its:∀(j:Nat) (a:Addr),as[j]? = some a->h.IsListIter (n+j) a k
theorem ZipTn.st{n k:Nat}{as:List Addr}{h:Heap}(t:ZipTn n as k h)(hs:src.map (·.1)=as)(g:∀p∈src,h.IsList p.1 p.2)(U:∀a∈as,a<n)(Y:as≠[]):ZipSt h n src k:=by
 have J:src.length=as.length:=by rw[←hs,zza]
 obtain⟨z,i,l,d⟩:=t;have at_:∀(j:Nat) (p:Addr×Array Value),src[j]? = some p->as[j]? = some p.1:=λj p L=>by rw[←hs,zzu,L];rfl
 refine⟨by rw[J];exact z,by rw[J];exact i,by rw[J];exact l,λj p L=>?_,λj p L=>⟨U p.1 (zzI (at_ j p L)),g p (zzI L)⟩,λe=>Y (by rw[←hs,e];rfl)⟩;rw[zzi (zyH _)];exact d j p.1 (at_ j p L)
def fpZ(n m:Nat):List Addr:=(List.range (m+3)).map (n + ·)
theorem fpZ_mem{n:Nat}:b∈fpZ n m↔n <= b/\b<n+m+3:=by
 unfold fpZ;simp only[zzs,zxp];constructor
 ·rintro⟨a,d,e⟩;lia
 ·rintro⟨d,e⟩;exact⟨b - n,by lia,by lia⟩
theorem Ax{n:Nat}(h:c∈fpZ n m):c=n+m+2∨c=n+m∨c=n+m+1∨(c - n<m/\n+(c - n)=c):=by have:=fpZ_mem.mp h;lia
theorem wA{n:Nat}(h:b∉fpZ n m):b<n∨n+m+2<b:=by have:¬(n <= b/\b<n+m+3):=λz=>h (fpZ_mem.mpr z);lia
theorem IP{n:Nat}(h:b∉fpZ n m):b≠n+m+2:=by have:=wA h;lia
end L2
namespace PySem
section
variable{prog:Program}{w:World}{K:Type}[DecidableEq K]{knd:HeapKind prog w K}{A:Around}{E:Value->Shared->Prop}{z:Shared}
theorem Ds{c b:Addr}{ps:List (K×Addr×Value)}{q:K}{x:Value}{R:Value->Shared->Prop}(a:knd.room A)(isK:knd.is z.heap q b)(D:z.heap.DictOfH knd c ps)(d:ps.length <= sizeLine)
  (old:∀p,atKey ps q=some p->R p.2 { z with toks:=z.toks+knd.draws q })
  (new:atKey ps q=none->∀h,h.DictOfH knd c (storedH ps q b x)->Heap.SameBut c z.heap h->R x { z with heap:=h,toks:=z.toks+knd.draws q }) :
  wpAny (model prog w) A (dictSetDefault c (.ref b) x) R E z:=by
 obtain⟨ob,m,n,g1,g2,g3,Y,l,g⟩:=D;unfold dictSetDefault
 try with_reducible refine zyz ?_
 refine zzb (knd.pyHash a isK ?_);refine zzb (wpAny_dictFind_heap (s:={ z with toks:=z.toks+knd.draws q }) a isK g1 g3 Y l g (λJ=>?_) (λj p at_=>?_))
 ·have U:m.size <= sizeLine:=by rw[size_of_entries Y];exact d
  have i:=atKey_none_of_get J;refine zzb (wpAny_rule (zzb (wpAny_updateDictKeys (hz:=U) (s:={ z with toks:=z.toks+knd.draws q }) g1 g3 (zzp (new i _ ⟨_,_,n+1,zyE _ g1 (Obj.isFreed_of_dict (Obj.data_mapDictKeys g3 _)),g2.mapDictKeys _,Obj.data_mapDictKeys g3 _,?_,?_,?_⟩ (zyy ..))))))
  all_goals rw[storedH_new i]
  ·simp[Y,entryOfKey]
  ·intro y L;rcases zzo.mp L with L|L
   ·exact knd.keeps (l y L) g1 g3 (zyy ..)
   ·rw[zzw.mp L];exact knd.keeps isK g1 g3 (zyy ..)
  ·rw[zze,zxQ];refine zyK.mpr ⟨g,zyG.mpr ⟨by simp,zwU⟩,λy L u o e=>?_⟩;have e:y=q:=by rw[zzw.mp o]at e;exact e
   subst e;exact not_mem_keys_of_get J L
 ·refine zzb (zwy (s:={ z with toks:=z.toks+knd.draws q }) g1 g3 ?_);rw[entry_at Y j,at_];exact zzb (wpAny_rule (zzp (old p (atKey_of_get g at_))))
theorem qM(knd:HeapKind prog w K)(c b:Addr)(x:Value)(plain:(c == sysModules)=false) :
  MeetsIn prog w (Builtin.«dict.setdefault» ⟨[.ref c,.ref b,x],[]⟩) (λA R z=>knd.room A.in1/\∃q ps,knd.is z.heap q b/\z.heap.DictOfH knd c ps/\ps.length <= sizeLine /\
   (∀p,atKey ps q=some p->R (.ok (.ret p.2)) { z with toks:=z.toks+knd.draws q }) /\
   (atKey ps q=none->∀a,a.DictOfH knd c (storedH ps q b x)->Heap.SameBut c z.heap a->R (.ok (.ret x)) { z with heap:=a,toks:=z.toks+knd.draws q })) :=
 .of_wp λA R z h=>by obtain⟨d,q,ps,isK,D,g,old,new⟩:=h;unfold Builtin.«dict.setdefault»;refine zzb ?_;unfold Builtin.Dict.keyAndDefault;refine zzb (wpAny_notOrdered_dict D.typeIs ?_);show wpAny _ _ (pure (c,Value.ref b,some x)) _ _ z;refine zzp ?_;show wpAny _ _ (if (c == sysModules)=true then _ else(dictSetDefault c (.ref b) x >>= _)) _ _ z;rw[zzi (by rw[plain];exact zzJ)];exact zzb (Ds d isK D g (λp e=>zzp ⟨p.2,rfl,old p e⟩) λe a J i=>zzp ⟨x,rfl,new e a J i⟩)
end
end PySem
namespace L2
open PySem PySem.Spec PyProof.Rows
section
variable{X:Cx}
def KM:V->List V->Hp->VK->Prop:=λx d H Q=>∃a c k b y,x=.ref a/\d=[.ref b,y]/\H a=some (.dT c)/\H b=some (.tup (k.map kV))/\c.length<sizeLine /\
 (∀v,valV c k=some v->Q v H)/\(valV c k=none->Q y (upd H a (.dT (putK c k y))))
theorem sH(hu:X.A.units+1<cLine):MtM X "dict.setdefault" KM:=by
 intro pins s σ H x vs v us Q I rx rv h;obtain⟨a,d,k,b,y,rfl,rfl,e,i,l,C,E⟩:=h;cases rx;cases rv with
 |cons r1 rr =>
  obtain⟨u,rfl,n⟩:=Vals.one rr;cases r1;obtain⟨z,plain,o,rel,g⟩:=Ix I.hok e;have hz:o.length <= sizeLine:=by rw[←zwA rel];exact z
  have T:(putK d k y).length <= sizeLine:=by have:=jC d k y;lia
  refine call_meetsIn F.slot_dict_setdefault g.typeIs F.entry_dict_setdefault (F.args_dict_setdefault_3 _ _ _) (qM (tupleKind (bK X.prog X.w)) a b u plain) ⟨zwX hu,k,o,xy I.hok i,g,hz,λp hp=>?_,λhn h' L hs=>?_⟩
  ·have q:=rel.val k;rw[hp]at q;cases J:valV d k with
   |none=>rw[J]at q;exact q.elim|some Y =>
    rw[J]at q;exact⟨Y,H,I.tok _,q,C Y J⟩
  ·have q:=rel.val k;rw[hn]at q;cases J:valV d k with
   |some Y=>rw[J]at q;exact q.elim|none =>
    obtain⟨q,B,r,m,U,G,M,_,N⟩:=L;refine⟨y,_,wj (ob:=.dT (putK d k y)) I (by rw[e];exact True.intro) hs ⟨q,m⟩ ⟨T,plain,_,(rel.put k i n).keeps λc ys j=>?_,q,B,r,m,U,G,M,N⟩,n,E J⟩;rw[ah (qK j e (λz=>nomatch z))];exact j
end
end L2
namespace L2
open PySem PySem.Spec PyProof.Rows PySem.W
variable{H:Hp}{a:Addr}{ep i:Nat}{h h':Heap}{k1 k2:List Key}{v1 v2:Value}{α β:Type}
variable{N:Nat}{p:Array Nat}{prog:Program}{w:World}{A:Around}{E:Value->Shared->Prop}
noncomputable def kRun{α:Type}(c:Nat->Nat->Bool):KasT α->α
 |.ret a=>a|.ask i j k=>kRun c (k (c i j))
def KGood{α:Type}(N:Nat)(P:α->Prop):KasT α->Prop
 |.ret a=>P a|.ask i j k=>(i<N/\j<N)/\∀b,KGood N P (k b)
theorem KGood.bind{α β:Type}{N:Nat}{P:α->Prop}{R:β->Prop}{f:α->KasT β}(J:∀a,P a->KGood N R (f a)):∀(t:KasT α),KGood N P t->KGood N R (t.bind f)
 |.ret a,h=>J a h|.ask i j k,h=>⟨h.1,λb=>KGood.bind J (k b) (h.2 b)⟩
theorem KGood.end{α:Type}{N:Nat}{P:α->Prop}(c:Nat->Nat->Bool):∀(t:KasT α),KGood N P t->P (kRun c t)
 |.ret a,h=>h|.ask i j k,h=>KGood.end c (k (c i j)) (h.2 _)
theorem KGood.wp{α:Type}{N:Nat}{P:α->Prop}{c:Nat->Nat->Bool}{cmp:Nat->Nat->(Bool->Shared->Prop)->Shared->Prop}{s:Shared}
  (b:∀i j (C:Bool->Shared->Prop),i<N->j<N->C (c i j) s->cmp i j C s):∀(t:KasT α) (Q:α->Shared->Prop),KGood N P t->Q (kRun c t) s->t.kasWp cmp Q s
 |.ret a,Q,_,q=>q|.ask i j k,Q,h,q=>b i j _ h.1.1 h.1.2 (KGood.wp b (k (c i j)) Q (h.2 _) q)
def PmN(N:Nat)(p:Array Nat):Prop:=p.toList.Perm (List.range N)
theorem PmN.lt(h:PmN N p)(c:0<N)(i:Nat):p.getD i 0<N:=by
 by_cases b:i<p.size
 ·have e:p.getD i 0=p[i]:=by simp[Array.getD,b]
  have d:p[i]∈p.toList:=zxi.mpr (Array.getElem_mem b);rw[e];exact zxp.mp (h.mem_iff.mp d)
 ·have e:p.getD i 0=0:=by simp[Array.getD,b]
  rw[e];exact c
theorem PmN.rev(h:PmN N p)(i j:Nat):PmN N (kas_rev p i j):=(Array.perm_iff_toList_perm.mp (mirror_perm _ _ _ _)).trans h
theorem PmN.bub(h:PmN N p)(i j:Nat):PmN N (bubble p i j):=(Array.perm_iff_toList_perm.mp (bubble_perm _ _ _)).trans h
theorem sI(c:0<N)(h:PmN N p):∀(f n:Nat),KGood N (λ_=>True) (kas_asc p f n)
 |0,n=>trivial| f+1,n=>⟨⟨h.lt c _,h.lt c _⟩,λb=>by
  dsimp only;split
  ·trivial
  ·exact sI c h f (n+1)⟩
theorem kJ(c:0<N):∀(f:Nat) (p:Array Nat) (n q:Nat),PmN N p->KGood N (λr=>PmN N r.1) (kas_desc f p n q)
 |0,p,n,q,h=>h| f+1,p,n,q,h=>⟨⟨h.lt c _,h.lt c _⟩,λb=>by
  dsimp only;split
  ·split
   ·exact kJ c f _ _ _ (h.rev _ _)
   ·exact kJ c f _ _ _ h
  ·refine⟨⟨h.lt c _,h.lt c _⟩,λd=>?_⟩;dsimp only;split
   ·exact h
   ·exact kJ c f _ _ _ h⟩
theorem rf(b:0<N)(h:PmN N p)(n m:Nat):KGood N (λr=>PmN N r.2) (kas_tail3 n m p):=by unfold kas_tail3;refine KGood.bind (N:=N) (P:=λ_=>True) (R:=λ(r:Nat×Array Nat)=>PmN N r.2) ?_ _ (sI b (h.rev 0 n) _ _);intro m _;exact h.rev 0 n
theorem kK(b:0<N)(h:PmN N p)(n m:Nat):KGood N (λr=>PmN N r.2) (kas_descPart n m p):=KGood.bind (λr J=>by
 split
 ·exact rf b (J.rev _ _) _ _
 ·exact rf b J _ _) _ (kJ b _ _ _ _ h)
theorem rm(c:0<N)(h:PmN N p)(m:Nat):KGood N (λr=>PmN N r.2) (kas_count m p):=KGood.bind (λn _=>by
 split
 ·exact h
 ·split
  ·refine⟨⟨h.lt c _,h.lt c _⟩,λb=>?_⟩;dsimp only;split
   ·exact h
   ·exact kK c (h.rev _ _) _ _
  ·exact kK c h _ _) _ (sI c h _ _)
theorem lW(c:0<N)(h:PmN N p)(k:Nat):∀(f l r:Nat),KGood N (λ_=>True) (kas_place p k f l r)
 |0,l,r=>trivial|f+1,l,r=>by
  unfold kas_place;split
  ·trivial
  ·refine⟨⟨h.lt c _,h.lt c _⟩,λb=>?_⟩;dsimp only;split
   ·exact lW c h k f _ _
   ·exact lW c h k f _ _
theorem xE(b:0<N):∀(f:Nat) (p:Array Nat) (k:Nat),PmN N p->KGood N (PmN N) (kas_bin f p k)
 |0,p,k,h=>h|f+1,p,k,h=>KGood.bind (λl _=>xE b f _ _ (h.bub _ _)) _ (lW b h k _ _ _)
theorem fY(b:0<N):KGood N (PmN N) (kas_sort N):=by
 have L:PmN N (List.toArray (List.range N)):=by unfold PmN;rw[zxL]
 exact KGood.bind (λr J=>by
  split
  ·exact xE b _ _ _ J
  ·exact J) _ (rm b L N)
noncomputable def lexI:List Key->List Key->Bool
 |[],[]=>false|[],_::_=>true|_::_,[]=>false|.inl a::r,.inl b::c=>if a=b then lexI r c else decide (a<b)
 |_,_=>false
noncomputable def srtK(ks:List (List Key)):List (List Key):=if ks.length<2 then ks else(kRun (λi j=>lexI (ks.getD i []) (ks.getD j [])) (kas_sort ks.length)).toList.map λi=>ks.getD i []
theorem uQ{xs:List α}{d:α}{is:List Nat}(h:is.Perm (List.range xs.length)):(is.map λi=>xs.getD i d).Perm xs:=by
 refine(h.map _).trans ?_;have:(List.range xs.length).map (λi=>xs.getD i d)=xs:=by
  apply List.ext_getElem
  ·simp
  ·intro i h1 b;simp[b]
 rw[this]
theorem Ay(ks:List (List Key)):(srtK ks).Perm ks:=by
 unfold srtK;split
 ·exact List.Perm.refl _
 ·exact uQ (KGood.end _ _ (fY (by lia)))
def isI(k:Key)(u:Value):Prop:=∃i t,k=.inl i/\u=Value.int i t
def TupI(h:Heap)(k:List Key)(v:Value):Prop:=∃a o b n,v=.ref a/\h.get? a=some o/\o.cls=.type "tuple" /\ o.data=.seq b n/\Paired isI k b.toList
theorem lX{R:α->β->Prop}{xs:List α}{ys:List β}(h:Paired R xs ys):xs.length=ys.length:=by
 induction h with
 |nil=>rfl|cons _ _ J=>simp[J]
section
variable{s:Shared}{b fin:Bool}{Q:Bool->Shared->Prop}
theorem IQ(o:Bool){x y:Int}{t u:Tok}{Q:Bool->Shared->Prop}(h:Q (decide (x<y)) s):wpAny (model prog w) A (oneLt' o (.int x t) (.int y u)) Q E s:=by
 cases o with
 |true=>exact oneLt_int h|false=>exact kat_one _ _ (wpAny_lt_int h)
theorem Dt:∀{k1 k2:List Key} {xs ys:List Value} (i:Nat),Paired isI k1 xs->Paired isI k2 ys->fin=decide (xs.length<ys.length)->Q (lexI k1 k2) s->KatLex prog w A b fin Q (xs.zip ys) i s
 := by
 intro k1 k2 xs ys i a b e q
 induction a generalizing k2 ys i with
 |nil=>cases b<;>(subst e;exact q)
 |cons d r1 J =>
  cases b with|nil=>subst e;exact q|cons g j=>?_
  obtain⟨x,t,rfl,rfl⟩:=d;obtain⟨y,u,rfl,rfl⟩:=g;refine kat_cons (wpAny_eqBool_int ?_);by_cases z:x=y
  ·subst z;have c:(x == x)=true:=by simp
   rw[c];refine kat_yes (J (i+1) j (by rw[e];simp) ?_);simpa[lexI]using q
  ·have c:(x == y)=false:=by simpa using z
   rw[c];refine kat_no (IQ _ ?_);simpa[lexI,z]using q
theorem Gs(d:TupI s.heap k1 v1)(e:TupI s.heap k2 v2)(q:Q (lexI k1 k2) s):wpAny (model prog w) A (keyLt' (tuples' b) v1 v2) Q E s:=by obtain⟨x,ox,xs,n,rfl,L,_,c,Y⟩:=d;obtain⟨y,oy,ys,m,rfl,U,_,J,py⟩:=e;exact kat_lt L c U J (Dt 0 Y py (by simp) q)
end
def RawD(d:Addr)(es:Array DictEntry)(ep:Nat)(h:Heap):Prop:=∃o,h.get? d=some o/\o.ExactDict/\o.data=.dict es ep
theorem RawD.type{d:Addr}{b:Array DictEntry}{s:Shared}(h:RawD d b ep s.heap):s.TypeIs (.ref d) "dict":=let ⟨o,e,x,_⟩:=h;⟨o,e,x.1⟩
theorem RawD.keep{d:Addr}{b:Array DictEntry}(r:RawD d b ep h)(k:∀o,h.get? d=some o->h'.get? d=some o):RawD d b ep h':=let ⟨o,e,x⟩:=r;⟨o,k o e,x⟩
section
variable{s:Shared}{d it:Addr}{es:Array DictEntry}{ep i:Nat}
theorem Du{Q:Value->Shared->Prop}(lo:(d == sysModules)=false)(r:RawD d es ep s.heap)
  (q:Q (.ref s.heap.objs.size) { s with heap:=s.heap.push { cls:=.type "dict_keyiterator",data:=.fields #[.ref d,.int 0 0,.int es.size 0,.int ep 0] } }):wpAny (model prog w) A (pyIter (.ref d)) Q E s:=by
 have ty:=r.type;obtain⟨o,g1,_,g2⟩:=r;refine wpAny_pyIter_slot ty F.slot_dict_iter (zxc F.slot_dict_iter ty F.entry_dict_iter ?_ (F.args_dict_iter_1 _));unfold Builtin.«dict.__iter__» Builtin.Dict.dictSlotNone;refine zzb (zzb (wpAny_notOrdered_dict ty (zzp ?_)));unfold Builtin.Dict.showsAll;show wpAny _ _ ((if (d == sysModules)=true then unsupported "sys.modules:all-start-up-values-wanted" else pure ()) >>= _) _ _ s;rw[zzi (by rw[lo];exact zzJ)];refine zzb (zzp (zzb (zwy g1 g2 (zzb (wpAny_dictEpoch g1 g2 ?_)))));exact zzb (zxC (zzp ⟨_,rfl,"dict_keyiterator",_,⟨_,zzy _ rfl,rfl⟩,F.slot_dict_keyiterator_next.lookup,q⟩))
theorem Dv{n:Nat}{Q:Option Value->Shared->Prop}(e:i<es.size)(L:es.size=n)(g:s.heap.IsKeyIter it d i n ep)(r:RawD d es ep s.heap)
  (q:∀h',h'.IsKeyIter it d (i+1) n ep->Heap.SameBut it s.heap h'->Q (some es[i].key) { s with heap:=h' }):wpAny (model prog w) A (pyNext (.ref it)) Q E s:=by
 subst L;have ty:=g.typeIs;obtain⟨o,g1,g2,g3⟩:=g;obtain⟨od,J,_,c⟩:=r;unfold pyNext;refine zzb (zvc (wpAny_callSpecial?_slot (name:=Str.ofString "__next__") ty F.slot_dict_keyiterator_next (zxc F.slot_dict_keyiterator_next ty F.entry_dict_keyiterator_next ?_ (F.args_dict_keyiterator_next_1 _))));refine zzb (zzp (zzb (zzb (zzb (zxl ty (zzp (zzb (wpAny_fieldsOf g1 g3 ?_))))))));simp only[show Builtin.Dict_items.ownsTuple "dict_keyiterator" = false by decide,zxu,zwj];show wpAny _ _ (if (Value.ref d == Value.none)=true then _ else _) _ _ s;rw[zzi (show ¬((Value.ref d == Value.none)=true) from zzJ)];refine zzb (zzp (zzb (zwy J c ?_)));rw[zzi (by simp)];refine zzb (zzp (zzb (wpAny_dictEpoch J c ?_)));rw[zzi (by simp)];refine zzp ?_;simp only[show ¬((i:Int)<0) from by lia,zwj,zzM,zxF e];refine zzb (zzb (zxl ty (zzp (zzb (wpAny_isOneOf_keyiter ty ?_)))));show wpAny _ _ (setField (.ref it) 1 (rawInt ((i:Int)+1)) >>= _) _ _ s;refine zzb (zww g1 g3 (by simp) ?_);have b:(s.heap.update it (Obj.mapFields (·.setIfInBounds 1 (rawInt ((i:Int)+1))))).IsKeyIter it d (i+1) es.size ep :=
  ⟨_,zyE _ g1 (Obj.isFreed_of_fields (Obj.data_mapFields g3 _)),(Obj.cls_mapFields ..).trans g2,by rw[Obj.data_mapFields g3];simp[rawInt]⟩
 refine zzb (zyz (zzb (wpAny_isOneOf_keyiter (s:={ s with heap:=s.heap.update it (Obj.mapFields (·.setIfInBounds 1 (rawInt ((i:Int)+1)))) }) b.typeIs ?_)));show wpAny _ _ (pure es[i].key) _ _ _;exact zzp (zzp ⟨_,rfl,zzp (q _ b (zyy ..))⟩)
theorem Gu{n:Nat}{Q:Option Value->Shared->Prop}(e:A.handled=none)(j:es.size <= i)(L:es.size=n)(g:s.heap.IsKeyIter it d i n ep)(r:RawD d es ep s.heap)
  (q:∀h',Heap.ExtBut it s.heap h'->Q none { s with heap:=h' }):wpAny (model prog w) A (pyNext (.ref it)) Q E s:=by
 subst L;have ty:=g.typeIs;obtain⟨o,g1,g2,g3⟩:=g;obtain⟨od,J,_,c⟩:=r;unfold pyNext;refine zzb (zvc (wpAny_callSpecial?_slot (name:=Str.ofString "__next__") ty F.slot_dict_keyiterator_next (zxc F.slot_dict_keyiterator_next ty F.entry_dict_keyiterator_next ?_ (F.args_dict_keyiterator_next_1 _))));refine zzb (zzp (zzb (zzb (zzb (zxl ty (zzp (zzb (wpAny_fieldsOf g1 g3 ?_))))))));simp only[show Builtin.Dict_items.ownsTuple "dict_keyiterator" = false by decide,zxu,zwj];show wpAny _ _ (if (Value.ref d == Value.none)=true then _ else _) _ _ s;rw[zzi (show ¬((Value.ref d == Value.none)=true) from zzJ)];refine zzb (zzp (zzb (zwy J c ?_)));rw[zzi (by simp)];refine zzb (zzp (zzb (wpAny_dictEpoch J c ?_)));rw[zzi (by simp)];refine zzp ?_;simp only[show ¬((i:Int)<0) from by lia,zwj,zzM,zxX j];refine zzb (zzb (zxl ty (zzp ?_)));show wpAny _ _ (setField (.ref it) 0 .none >>= _) _ _ s;refine zzb (zww g1 g3 (by simp) ?_);show wpAny _ _ (newExc (.type "StopIteration") [] >>= _) _ _ _;refine zzb ?_;simp only[newExc,newTuple];refine zzb (zxC ?_ (by size_fits));refine zzb (m:=firstArgMember _ _) (wpAny_of_eq (a:=Value.none) (by first|rfl|(simp only[firstArgMember];rfl)) ?_);refine zxC ?_ (by size_fits);simp only[raiseNew];refine zzb (wpAny_handled ?_);rw[show A.in1.handled=none from e];refine zzb (zzp (wpAny_throw ?_));refine zzb (wpAny_isInstance (T:="StopIteration") (b:=true) ⟨_,zzy _ rfl,rfl⟩ isSubtype_stop ?_);exact zzp (q _ (((zyy ..).extBut.push _).push _))
theorem Gv(lo:(d == sysModules)=false)(es:Array DictEntry)(ep:Nat):KdlSrc prog w "dict" d d es.size (λi v=>(es[i]?).map (·.key)=some v) (RawD d es ep) where
 type:=λ_ r=>r.type
 there:=λ_ ⟨_,e,_⟩=>⟨zzz e,zzz e⟩
 keep:=λ_ _ r k=>r.keep λo e=>k d (.inl rfl) o e
 notList:=by decide
 notTuple:=by decide
 hint:=λ_ _ _ _ r q=>kdl_hint_dict r.type q
 iter:=λA s n r=>⟨_,λi h=>h.IsKeyIter s.heap.objs.size d i es.size ep/\RawD d es ep h,(λ_ _ q=>Du lo r q),{
  sub:=λb J=>by simp at J;simp[J]
  frame:=λ_ _ _ st k=>⟨st.1.at λo e=>k _ (by simp) o e,st.2.keep λo e=>k d (by simp) o e⟩
  item:=λi c Q E g st q=>Dv g rfl st.1 st.2 λh' m j=>by
   have ne:d≠s.heap.objs.size:=by obtain⟨_,e,_⟩:=r;exact zzL (zzz e)
   refine q es[i].key h' c.toks (by simp[g]) ⟨m,st.2.keep λo e=>(j.2 d ne).trans e⟩ λb o J e=>?_;have J:b≠s.heap.objs.size:=by simpa using J
   exact(j.2 b J).trans e
  done:=λc Q E st q=>Gu n (zzr _) rfl st.1 st.2 λh' l=>q h' c.toks λb o J e=>l b o (by simpa using J) e
  self:=λ_ _ _ _ st q=>wpAny_pyIter_keyiter st.1 q },⟨⟨_,zzy _ rfl,rfl,rfl⟩,r.keep λo e=>zzf _ e⟩⟩
end
section
variable{s:Shared}
theorem TupI.keep{k:List Key}{v:Value}{xs:Array Value}{n:Nat}(t:TupI h k v)(g:h.get? a=some (seqObj "list" xs n))(j:∀b o,b≠a->h.get? b=some o->h'.get? b=some o):TupI h' k v:=by obtain⟨b,o,l,m,rfl,e,c,d,p⟩:=t;refine⟨b,o,l,m,rfl,j b o ?_ e,c,d,p⟩;rintro rfl;rw[g]at e;cases e;simp[seqObj]at c
theorem jF{R S:α->β->Prop}{xs:List α}{ys:List β}(h:Paired R xs ys)(f:∀a b,R a b->S a b):Paired S xs ys:=by
 induction h with
 |nil=>exact .nil|cons h _ J=>exact .cons (f _ _ h) J
theorem lY{R:α->β->Prop}{d:α}{e:β}{xs:List α}{ys:List β}(h:Paired R xs ys):∀i,i<xs.length->R (xs.getD i d) (ys.getD i e):=by
 induction h with
 |nil=>intro i b;simp at b|cons h _ J =>
  intro i b;cases i with
  |zero=>simpa using h|succ i=>simpa using J i (by simpa using b)
theorem oU{α β:Type}{R:α->β->Prop}{d:α}{e:β}{xs:List α}{ys:List β}(h:Paired R xs ys):∀(is:List Nat),(∀i∈is,i<xs.length)->Paired R (is.map λi=>xs.getD i d) (is.map λi=>ys.getD i e)
 |[],_=>.nil|i::is,b=>.cons (lY h i (b i zzg)) (oU h is λj J=>b j (zzc _ J))
theorem IR:∀{ks:List (List Key)} {vs:List Value},Paired (TupI h) ks vs->(∀k∈ks,k≠[])->∃fs,KatTups h vs fs/\fs.length=vs.length/\∀v∈fs,∃i t,v=Value.int i t
 := by
 intro ks vs h ne
 induction h with
 |nil=>exact⟨[],.nil,rfl,λv J=>by simp at J⟩
 |@cons k v ks vs g r q =>
  obtain⟨fs,j,m,U⟩:=q λk b=>ne k (zzc _ b);obtain⟨a,o,y,n,rfl,e,c,d,p⟩:=g;have b:=ne k zzg;generalize L:y.toList=l at p;cases p with
  |nil=>exact absurd rfl b|@cons x u ks' us Y hr =>
   obtain⟨i,t,rfl,rfl⟩:=Y;refine⟨Value.int i t::fs,.cons e c d ?_ j,by simp[m],λv J=>?_⟩
   ·rw[←zyN,L];rfl
   ·rcases zzk.mp J with rfl|J
    ·exact⟨i,t,rfl⟩
    ·exact U v J
theorem Az{vs:List Value}{ks:List (List Key)}{n:Nat}{P:PySem.Fin->Shared->Prop}(m:s.heap.get? a=some (seqObj "list" vs.toArray n))(hp:Paired (TupI s.heap) ks vs)(a6:2 <= ks.length->∀k∈ks,k≠[])(Y:vs.length<64)(q:∀(h':Heap) (d:List Value) (c:Nat),(∀b o,b≠a->s.heap.get? b=some o->h'.get? b=some o)->h'.get? a=some (seqObj "list" d.toArray c)->(∀R:List Key->Value->Prop,Paired R ks vs->Paired R (srtK ks) d)->P (.done (.ret .none)) { s with heap:=h' }) :
  wpAny (model prog w) A (Builtin.«list.sort» ⟨[.ref a],[]⟩) P E s:=by
 have hl:=lX hp;have ha:a<s.heap.objs.size:=zzz m;have sb:=zyy s.heap a (Obj.mapSeq λ_=>(#[]:Array Value));obtain⟨y,h⟩:∃y,(s.heap.update a (Obj.mapSeq λ_=>(#[]:Array Value))).get? a=some (seqObj "list" #[] y):=⟨_,get?_update_seq m λ_=>#[]⟩;rw[list_sort_plain];refine zzb (listItems_at m rfl (zzb (listUpdate_at m rfl ?_ (by rw[zzD,zxT];lia) (zya _))));refine zzb (seqEpoch_at h rfl (zzb (wpAny_newTuple ?_ (by show vs.length <= _;rw[zxT];lia))));refine zzb (wpAny_newList (zyz ?_) (zya _));show wpAny (model prog w) A _ P E { s with heap:=((s.heap.update a (Obj.mapSeq λ_=>(#[]:Array Value))).push (seqObj "tuple" vs.toArray 0)).push (seqObj "list" #[] 0) };have M:∀b o,b≠a->s.heap.get? b=some o->(((s.heap.update a (Obj.mapSeq λ_=>(#[]:Array Value))).push (seqObj "tuple" vs.toArray 0)).push (seqObj "list" #[] 0)).get? b=some o:=λb o z e =>
  zzf _ (zzf _ ((sb.2 b z).trans e))
 have U:(((s.heap.update a (Obj.mapSeq λ_=>(#[]:Array Value))).push (seqObj "tuple" vs.toArray 0)).push (seqObj "list" #[] 0)).get? a=some (seqObj "list" #[] y):=zzf _ (zzf _ h);generalize ((s.heap.update a (Obj.mapSeq λ_=>(#[]:Array Value))).push (seqObj "tuple" vs.toArray 0)).push (seqObj "list" #[] 0)=h3 at M U;have B:Paired (TupI h3) ks vs:=jF hp λk v t=>t.keep m M;dsimp only;have fin:∀(st:SortSt) (d:List Value),(arrOf st).map (·.2)=d.toArray->failedOf st=none->d.length<64->(∀R:List Key->Value->Prop,Paired R ks vs->Paired R (srtK ks) d) ->
   wpAny (model prog w) A (do
    let L:=(←seqEpoch a) != y
    Builtin.List.listUpdate (.ref a) λ_=>(arrOf st).map (·.2)
    if let some e:=failedOf st then rule "list.sort.comparison-raised";throw e
    if L then rule "list.sort.modified";raiseError "ValueError" "list modified during sort"
    ret .none) P E { s with heap:=h3 }:=by
  intro st d e f g l;rw[e,f];refine zzb (seqEpoch_at U rfl ?_);refine zzb (listUpdate_at U rfl ?_ (zya _) (by show d.toArray.size <= _;rw[zzD,zxT];lia));simp only[bne_self_eq_false,zxu,zwj];refine zzp (q _ d _ (λb o z e=>?_) (get?_update_seq U λ_=>d.toArray) l);exact((zyy h3 a (Obj.mapSeq λ_=>d.toArray)).2 b z).trans (M b o z e)
 by_cases H:vs.length<2
 ·have g:vs.toArray.size<2:=by rw[zzD];exact H
  rw[zzn g,zzn g];refine zzb (zzp (zzb (zzp ?_)));refine fin _ vs ?_ rfl Y λR l=>?_
  ·show (vs.toArray.zip vs.toArray).map (·.2)=vs.toArray;apply Array.toList_inj.mp;simp[List.map_snd_zip]
  ·unfold srtK;rw[zzn (by lia)];exact l
 ·have g:¬vs.toArray.size<2:=by rw[zzD];exact H
  rw[zzi g,zzi g];obtain⟨fs,t1,t2,t3⟩:=IR B (a6 (by lia));refine zzb (kat_kind (s:={ s with heap:=h3 }) (T:=.type "int") t1 (by lia) (λv hv=>?_) (by decide) ?_)
  ·obtain⟨i,t,rfl⟩:=t3 v hv;exact Looks.of_pure rfl
  ·refine zzb (zyS (kat_run (Q:=λJ u=>u={ s with heap:=h3 }/\(arrOf J).map (·.2)=List.toArray ((kRun (λi j=>lexI (ks.getD i []) (ks.getD j [])) (kas_sort ks.length)).toList.map λi=>vs.getD i Value.none)/\failedOf J=none) (G:=λp u=>u={ s with heap:=h3 }/\p=kRun (λi j=>lexI (ks.getD i []) (ks.getD j [])) (kas_sort ks.length)) rfl (by lia) Y (λp J u a1 a2 a3 a4=>?_) ?_) (λr u hq=>?_) λ_ _ x=>x)
   ·obtain⟨rfl,rfl⟩:=a4;exact⟨rfl,kat_snds rfl a2,a3⟩
   ·rw[←hl];refine KGood.wp (N:=ks.length) (P:=PmN ks.length) (λi j C I hj hC=>?_) _ _ (fY (by lia)) ⟨rfl,rfl⟩;show wpAny (model prog w) A (keyLt' _ (vs.getD i Value.none) (vs.getD j Value.none)) C (λ_ _=>False) _;exact Gs (s:={ s with heap:=h3 }) (lY B i I) (lY B j hj) hC
   ·obtain⟨⟨⟩,J⟩:=r;obtain⟨rfl,e,f⟩:=hq;refine fin J _ e f ?_ λR l=>?_
    ·have:=(KGood.end (λi j=>lexI (ks.getD i []) (ks.getD j [])) _ (fY (N:=ks.length) (by lia))).length_eq;rw[List.length_range]at this;rw[zza,this,hl];exact Y
    ·unfold srtK;rw[zzi (by lia)];refine oU l _ λi I=>?_;have:=KGood.end (λi j=>lexI (ks.getD i []) (ks.getD j [])) _ (fY (N:=ks.length) (by lia));exact zxp.mp (this.mem_iff.mp I)
end
section
variable{X:Cx}
def Gw(H:Hp)(k:List Key)(v:V):Prop:=∃b,v=.ref b/\H b=some (.tup (k.map kV))
def yZ(k:List Key):Prop:=∀x∈k,∃i:Int,x=.inl i
theorem xF:∀{k:List Key} {us:List Value},yZ k->Vals (k.map kV) us->Paired isI k us
 |[],us,_,h=>by cases h;exact .nil
 |x::k,us,b,h=>by
  obtain⟨i,rfl⟩:=b _ zzg;rw[zzh]at h;cases h with
  |cons c d =>
   obtain⟨t,rfl⟩:=(show ∃t,_=Value.int i t from c);exact .cons ⟨i,t,rfl,rfl⟩ (xF (λy J=>b y (zzc _ J)) d)
theorem Inv.tupI{c:List (Addr×Obj)}{q:St}{s:Shared}{k:List Key}{b:Addr}(I:Inv X c q H s)(m:yZ k)(e:H b=some (.tup (k.map kV))):TupI s.heap k (.ref b):=by
 obtain⟨_,d,r,o,g,j,n,l⟩:=(show ObjOk X.prog X.w H s.heap b (.tup (k.map kV)) from I.hok b _ e);refine⟨b,o,d.toArray,n,rfl,g,?_,l,?_⟩
 ·exact j
 ·rw[zxL];exact xF m r
theorem Gx:∀{ks:List (List Key)} {out:List Value},Paired (λk v=>∃b,v=Value.ref b/\H b=some (.tup (k.map kV))) ks out->∃bs,Paired (Gw H) ks bs/\Vals bs out:=by
 intro ks out h
 induction h with
 |nil=>exact⟨[],.nil,.nil⟩|cons h r J =>
  obtain⟨b,rfl,e⟩:=h;obtain⟨bs,c,d⟩:=J;exact⟨.ref b::bs,.cons ⟨b,rfl,e⟩ c,.cons rfl d⟩
theorem Gy{c:List (List Key×V)}{xs:List (List Key×Addr×Value)}(r:KT H c xs):Paired (λk v=>∃b,v=Value.ref b/\H b=some (.tup (k.map kV))) (c.map (·.1)) (xs.map λx=>Value.ref x.2.1):=by
 induction r with
 |nil=>exact .nil|@cons p q ps qs h t J=>exact .cons ⟨q.2.1,rfl,h.2.1⟩ J
theorem za{R:α->β->Prop}{xs:List α}{ys:List β}(h:Paired R xs ys):Paired (λa b=>a∈xs/\R a b) xs ys:=by
 induction h with
 |nil=>exact .nil|cons h _ J=>exact .cons ⟨zzg,h⟩ (jF J λa b z=>⟨zzc _ z.1,z.2⟩)
theorem zb(hc:X.calm=true):fV X (.builtin "sorted") (λxs H Q=>∃a d,xs=[.ref a]/\Rd H a (.dT d)/\(∀k∈d.map (·.1),yZ k)/\(2 <= d.length->∀k∈d.map (·.1),k≠[])/\d.length<64 /\
  ∀l bs,H l=none->Paired (Gw H) (srtK (d.map (·.1))) bs->Q (.ref l) (upd H l (.lst bs))):=by
 intro g s σ H xs us Q I r h;obtain⟨a,d,rfl,e,hi,a0,h64,q⟩:=h;obtain⟨u,rfl,e2⟩:=nF r;cases e2;obtain⟨z,lo,xs,rel,o,B,ep,g1,g2,g3,p,g5,g6⟩:=CU I.hok e;have G:B.size=xs.length:=size_of_entries p;have hxl:d.length=xs.length:=zwA rel;refine Calls.call_function_entry kind_sorted plain_sorted entry_sorted (args_sorted1 _) ?_;unfold Builtin.«sorted»;refine zzb (m:=checkCount "sorted" 1 1 _) (zzp ?_);refine zzb (kdu_collect (Gv lo B ep) (I.ok.hd hc) ⟨o,g1,g2,g3⟩ (by rw[zxT];lia) λh' T J hk n=>?_);have L:J.toList=xs.map λx=>Value.ref x.2.1:=by
  apply List.ext_getElem?;intro i;rw[zyN];cases Y:xs[i]? with
  |none =>
   have w:xs.length <= i:=by simpa using Y
   rw[zzu,Y,zxX (by rw[n.1];lia)];rfl
  |some x =>
   have w:i<xs.length:=(zzx.mp Y).1;obtain⟨v,A⟩:∃v,J[i]? = some v:=⟨J[i]'(by rw[n.1];lia),by simp[n.1,G,w]⟩;have j:(B[i]?).map (·.key)=some v:=n.2 i v A;rw[entry_at p i,Y]at j;rw[A,zzu,Y];simpa[entryOfKey]using j.symm
 rw[L];have y:Inv X g σ H { s with heap:=h',toks:=T }:=I.kept hk;refine zzb (wpAny_newList ?_ (by rw[zza,zxT];lia));have U:(h'.push (seqObj "list" (xs.map λx=>Value.ref x.2.1).toArray 0)).get? h'.objs.size=some (seqObj "list" (xs.map λx=>Value.ref x.2.1).toArray 0):=zzy _ rfl;refine zzb (zyz (zxc slot_list_sort ⟨_,U,rfl⟩ entry_list_sort ?body (args_list_sort _)))
 case body =>
  have E:=Gy rel;refine Az (s:={ s with heap:=h'.push (seqObj "list" (xs.map λx=>Value.ref x.2.1).toArray 0),toks:=T }) U (ks:=d.map (·.1)) (jF (za E) (S:=TupI _) λk v z=>?_) (λj=>a0 (by simpa using j)) (by rw[zza];lia) λh4 M c kp ho hR=>?_
  ·obtain⟨hm,b,rfl,C⟩:=z;exact((y.kept (t':=T) λb o e=>zzf _ e).tupI (hi k hm) C)
  ·obtain⟨bs,N,p2⟩:=Gx (hR _ E);have C:bs.length <= sizeLine:=by
    rw[←lX N,(Ay _).length_eq,zza];exact z
   exact⟨_,rfl,zzp ⟨_,rfl,.ref h'.objs.size,upd H h'.objs.size (.lst bs),y.laid (o:=.lst bs) (λb u e=>kp b u (zzL (zzz e)) (zzf _ e)) (zzr _) ⟨C,M,c,p2,ho⟩,rfl,q _ bs (y.hok.fresh (zzr _)) N⟩⟩
end
theorem fZ{α β:Type}(c:Nat->Nat->Bool)(f:α->KasT β):∀t:KasT α,kRun c (t.bind f)=kRun c (f (kRun c t))
 |.ret _=>rfl|.ask i j k=>fZ c f (k (c i j))
structure StrO(N:Nat)(c:Nat->Nat->Bool):Prop where
 tr:∀i j k,i<N->j<N->k<N->c i j=true->c j k=true->c i k=true
 as:∀i j,i<N->j<N->c i j=true->c j i=false
 to:∀i j,i<N->j<N->i≠j->c i j=false->c j i=true
section
variable{c:Nat->Nat->Bool}
theorem PmN.size(h:PmN N p):p.size=N:=by have:=h.length_eq;simpa using this
theorem PmN.ne(h:PmN N p){j:Nat}(b:i<N)(J:j<N)(e:i≠j):p.getD i 0≠p.getD j 0:=by
 have l:p.toList.Nodup:=h.nodup_iff.mpr List.nodup_range;have s:=h.size;have d:p.getD i 0=p.toList[i]'(by simpa[s]using b):=by simp[Array.getD,s,b]
 have g:p.getD j 0=p.toList[j]'(by simpa[s]using J):=by simp[Array.getD,s,J]
 rw[d,g];intro z;exact e ((zwD l).mp z)
def Asc(c:Nat->Nat->Bool)(p:Array Nat)(n:Nat):Prop:=∀i j,i<j->j<n->c (p.getD i 0) (p.getD j 0)=true
def Dsc(c:Nat->Nat->Bool)(p:Array Nat)(n:Nat):Prop:=∀i j,i<j->j<n->c (p.getD j 0) (p.getD i 0)=true
theorem Asc.step(O:StrO N c)(h:PmN N p){n:Nat}(hn:1 <= n)(d:n<N)(a:Asc c p n)(e:c (p.getD n 0) (p.getD (n - 1) 0)=false):Asc c p (n+1):=by
 have b:0<N:=by lia
 have last:c (p.getD (n - 1) 0) (p.getD n 0)=true:=O.to _ _ (h.lt b _) (h.lt b _) (h.ne d (by lia) (by lia)) e;intro i j J hj;by_cases z:j=n
 ·subst z;by_cases y:i=j - 1
  ·subst y;exact last
  ·exact O.tr _ _ _ (h.lt b _) (h.lt b _) (h.lt b _) (a i (j - 1) (by lia) (by lia)) last
 ·exact a i j J (by lia)
theorem Dsc.step(O:StrO N c)(h:PmN N p){n:Nat}(hn:1 <= n)(hN:n<N)(a:Dsc c p n)(last:c (p.getD n 0) (p.getD (n - 1) 0)=true):Dsc c p (n+1):=by
 have b:0<N:=by lia
 intro i j J hj;by_cases z:j=n
 ·subst z;by_cases y:i=j - 1
  ·subst y;exact last
  ·exact O.tr _ _ _ (h.lt b _) (h.lt b _) (h.lt b _) last (a i (j - 1) (by lia) (by lia))
 ·exact a i j J (by lia)
theorem wB(O:StrO N c)(h:PmN N p):∀(f n:Nat),1 <= n->n+f <= N->Asc c p n->Asc c p (kRun c (kas_asc p f n))/\n <= kRun c (kas_asc p f n)/\kRun c (kas_asc p f n) <= n+f/\(kRun c (kas_asc p f n)=n+f∨c (p.getD (kRun c (kas_asc p f n)) 0) (p.getD (kRun c (kas_asc p f n) - 1) 0)=true)
 |0,n,_,_,a=>⟨a,zzr _,zzr _,.inl rfl⟩|f+1,n,d,hN,a=>by
  have b:kRun c (kas_asc p (f+1) n)=kRun c (if c (p.getD n 0) (p.getD (n - 1) 0)=true then .ret n else kas_asc p f (n+1)):=rfl;cases e:c (p.getD n 0) (p.getD (n - 1) 0) with
  |true =>
   rw[b,zzn e];exact⟨a,zzr _,by show n <= _;lia,.inr e⟩
  |false =>
   rw[b,zzi (by rw[e];intro z;cases z)];obtain⟨L,b2,b3,J⟩:=wB O h f (n+1) (by lia) (by lia) (a.step O h d (by lia) e);refine⟨L,by lia,by lia,?_⟩;rcases J with J|J
   ·exact .inl (by lia)
   ·exact .inr J
theorem xG(O:StrO N c)(h:PmN N p):∀(f n:Nat),1 <= n->n+f <= N->Dsc c p n->∃m,kRun c (kas_desc f p n 0)=(p,m,0)/\Dsc c p m/\n <= m/\m <= n+f
 |0,n,_,_,a=>⟨n,rfl,a,zzr _,zzr _⟩|f+1,n,l,hN,a=>by
  have b:0<N:=by lia
  have g:kRun c (kas_desc (f+1) p n 0)=kRun c (if c (p.getD n 0) (p.getD (n - 1) 0)=true then(if 0>0 then kas_desc f (kas_rev p (n - (0+1)) n) (n+1) 0 else kas_desc f p (n+1) 0)
   else .ask (p.getD (n - 1) 0) (p.getD n 0) λd=>if d=true then .ret (p,n,0) else kas_desc f p (n+1) (0+1)):=rfl
  rw[g];cases e:c (p.getD n 0) (p.getD (n - 1) 0) with
  |true =>
   rw[zzn rfl,zzi (by lia)];obtain⟨m,J,L,b3,b4⟩:=xG O h f (n+1) (by lia) (by lia) (a.step O h l (by lia) e);exact⟨m,J,L,by lia,by lia⟩
  |false =>
   rw[zzi (by intro z;cases z)];have last:c (p.getD (n - 1) 0) (p.getD n 0)=true:=O.to _ _ (h.lt b _) (h.lt b _) (h.ne (by lia) (by lia) (by lia)) e;have j:kRun c (.ask (p.getD (n - 1) 0) (p.getD n 0) λd=>if d=true then .ret (p,n,0) else kas_desc f p (n+1) (0+1))=kRun c (if c (p.getD (n - 1) 0) (p.getD n 0)=true then .ret (p,n,0) else kas_desc f p (n+1) (0+1)):=rfl;rw[j,zzn last];exact⟨n,rfl,a,zzr _,by lia⟩
theorem AA{p:Array Nat}{a b:Nat}(l:a<p.size)(J:b<p.size)(i:Nat):(p.swapIfInBounds a b).getD i 0=if i=a then p.getD b 0 else if i=b then p.getD a 0 else p.getD i 0:=by
 have e:∀(q:Array Nat) (j:Nat),q.getD j 0=(q[j]?).getD 0:=λq j=>by by_cases h:j<q.size<;>simp[Array.getD,h]
 rw[e,e,e,e,Array.swapIfInBounds_def,dif_pos l,dif_pos J,Array.getElem?_swap];by_cases g:i=a
 ·subst g;by_cases d:i=b
  ·subst d;simp[J]
  ·simp[d,J,Ne.symm d]
 ·by_cases d:i=b
  ·subst d;simp[g,l,J]
  ·simp[g,d,Ne.symm g,Ne.symm d]
theorem xH{p:Array Nat}{k:Nat}(e:k<p.size):∀(d:Nat),d <= k->∀i,(bubble p k d).getD i 0=if i=k - d then p.getD k 0 else if k - d<i/\i <= k then p.getD (i - 1) 0 else p.getD i 0
 |0,_,i=>by
  show p.getD i 0=_;by_cases h:i=k
  ·subst h;simp
  ·rw[zzi (by lia),zzi (by lia)]
 |d+1,hd,i=>by
  rw[bubble_succ,AA (by rw[bubble_size];lia) (by rw[bubble_size];lia),xH e d (by lia),xH e d (by lia),xH e d (by lia)];by_cases b:i=k - d
  ·rw[zzn b,zzi (by lia),zzi (by lia),zzi (by lia),zzn (by lia),show k - d - 1=i - 1 by lia]
  ·rw[zzi b];by_cases g:i=k - d - 1
   ·rw[zzn g,zzn rfl,zzn (by lia)]
   ·rw[zzi g,zzi b,zzi (show ¬i=k - (d+1) by lia)];by_cases j:k - d<i/\i <= k
    ·rw[zzn j,zzn (by lia)]
    ·rw[zzi j,zzi (by lia)]
theorem xI{p:Array Nat}{n:Nat}(b:n <= p.size):∀(d:Nat),d <= n / 2->∀i,(mirror p 0 n d).getD i 0=if i<d∨(n - d <= i/\i<n) then p.getD (n - 1 - i) 0 else p.getD i 0
 |0,_,i=>by show p.getD i 0=_;rw[zzi (by lia)]
 |d+1,hd,i=>by
  rw[mirror_succ,AA (by rw[mirror_size];lia) (by rw[mirror_size];lia),xI b d (by lia),xI b d (by lia),xI b d (by lia)];by_cases e:i=0+d
  ·rw[zzn e,zzi (by lia),zzn (by lia),show n - 1 - d=n - 1 - i by lia]
  ·rw[zzi e];by_cases g:i=n - 1 - d
   ·rw[zzn g,zzi (by lia),zzn (by lia),show n - 1 - i=0+d by lia]
   ·rw[zzi g];by_cases j:i<d∨(n - d <= i/\i<n)
    ·rw[zzn j,zzn (by lia)]
    ·rw[zzi j,zzi (by lia)]
theorem EH{p:Array Nat}{n:Nat}(d:n <= p.size)(i:Nat):(kas_rev p 0 n).getD i 0=if i<n then p.getD (n - 1 - i) 0 else p.getD i 0:=by
 unfold kas_rev;rw[xI d _ (by lia)];by_cases h:i<(n - 0) / 2∨(n - (n - 0) / 2 <= i/\i<n)
 ·rw[zzn h,zzn (by lia)]
 ·rw[zzi h];by_cases b:i<n
  ·rw[zzn b,show n - 1 - i=i by lia]
  ·rw[zzi b]
theorem Dsc.rev{n:Nat}(h:PmN N p)(hn:n <= N)(a:Dsc c p n):Asc c (kas_rev p 0 n) n:=by intro i j hij J;have s:=h.size;rw[EH (by lia),EH (by lia),zzn (by lia),zzn J];exact a _ _ (by lia) (by lia)
theorem AB(O:StrO N c)(h:PmN N p)(h2:2 <= N):Asc c (kRun c (kas_count N p)).2 (kRun c (kas_count N p)).1/\1 <= (kRun c (kas_count N p)).1/\(kRun c (kas_count N p)).1 <= N:=by
 obtain⟨d,L,Y,J⟩:=wB O h (N - 1) 1 (zzr _) (by lia) (λi j U s=>by lia);unfold kas_count;rw[fZ];generalize kRun c (kas_asc p (N - 1) 1)=n at d L Y J;by_cases e:(n == N)=true
 ·rw[zzn e];exact⟨d,L,by show n <= N;lia⟩
 ·rw[zzi e];have nN:n≠N:=λz=>e (by rw[z];exact beq_self_eq_true _);by_cases g:n>1
  ·rw[zzn g];have r:kRun c (.ask (p.getD 0 0) (p.getD (n - 1) 0) λb=>if b=true then .ret (n,p) else kas_descPart n N (kas_rev p 0 n))=kRun c (if c (p.getD 0 0) (p.getD (n - 1) 0)=true then .ret (n,p) else kas_descPart n N (kas_rev p 0 n)):=rfl;rw[r,zzn (d 0 (n - 1) (by lia) (by lia))];exact⟨d,L,by show n <= N;lia⟩
  ·rw[zzi g];have v:n=1:=by lia
   subst v;have last:c (p.getD 1 0) (p.getD (1 - 1) 0)=true:=by
    rcases J with J|J
    ·exact absurd J (by lia)
    ·exact J
   have d2:Dsc c p (1+1):=Dsc.step O h (zzr _) (by lia) (λi j U s=>by lia) last;unfold kas_descPart;rw[fZ];obtain⟨m,l,o,b3,b4⟩:=xG O h (N - (1+1)) (1+1) (by lia) (by lia) d2;rw[l];show Asc c (kRun c (if (0:Nat)>0 then _ else kas_tail3 m N p)).2 _/\_;rw[zzi (by lia)];have u:m <= N:=by lia
   unfold kas_tail3;rw[fZ];obtain⟨q,c2,c3,_⟩:=wB O (h.rev 0 m) (N - m) m (by lia) (by lia) (o.rev h u);exact⟨q,by show 1 <= kRun c _;lia,by show kRun c _ <= N;lia⟩
theorem oV(O:StrO N c)(h:PmN N p){k:Nat}(m:k<N)(a:Asc c p k):∀(f l r:Nat),r - l <= f->l <= r->r <= k->(∀i,i<l->c (p.getD i 0) (p.getD k 0)=true)->(∀i,r <= i->i<k->c (p.getD k 0) (p.getD i 0)=true) ->
  (kRun c (kas_place p k f l r) <= k/\(∀i,i<kRun c (kas_place p k f l r)->c (p.getD i 0) (p.getD k 0)=true)/\∀i,kRun c (kas_place p k f l r) <= i->i<k->c (p.getD k 0) (p.getD i 0)=true)
 |0,l,r,o,U,J,g,j=>by
  show l <= k/\_;have:l=r:=by lia
  subst this;exact⟨J,g,j⟩
 |f+1,l,r,o,U,J,g,j=>by
  have d:0<N:=by lia
  unfold kas_place;by_cases e:l ≥ r
  ·rw[zzn e];have:l=r:=by lia
   subst this;exact⟨J,g,j⟩
  ·rw[zzi e];have n:∀(t u:KasT Nat),kRun c (.ask (p.getD k 0) (p.getD ((l+r) / 2) 0) λb=>if b=true then t else u)=kRun c (if c (p.getD k 0) (p.getD ((l+r) / 2) 0)=true then t else u):=λ_ _=>rfl;rw[n];cases z:c (p.getD k 0) (p.getD ((l+r) / 2) 0) with
   |true =>
    rw[zzn rfl];refine oV O h m a f l ((l+r) / 2) (by lia) (by lia) (by lia) g λi q L=>?_;by_cases y:i=(l+r) / 2
    ·rw[y];exact z
    ·exact O.tr _ _ _ (h.lt d _) (h.lt d _) (h.lt d _) z (a _ _ (by lia) L)
   |false =>
    rw[zzi (by intro z;cases z)];have Y:c (p.getD ((l+r) / 2) 0) (p.getD k 0)=true:=O.to _ _ (h.lt d _) (h.lt d _) (h.ne m (by lia) (by lia)) z;refine oV O h m a f ((l+r) / 2+1) r (by lia) (by lia) J (λi q=>?_) j;by_cases y:i=(l+r) / 2
    ·rw[y];exact Y
    ·exact O.tr _ _ _ (h.lt d _) (h.lt d _) (h.lt d _) (a i _ (by lia) (by lia)) Y
theorem Asc.bub(h:PmN N p){k l:Nat}(hk:k<N)(a:Asc c p k)(hl:l <= k)(g:∀i,i<l->c (p.getD i 0) (p.getD k 0)=true)(m:∀i,l <= i->i<k->c (p.getD k 0) (p.getD i 0)=true):Asc c (bubble p k (k - l)) (k+1):=by
 intro i j J hj;have s:=h.size;have e:=xH (p:=p) (k:=k) (by lia) (k - l) (by lia);have d:k - (k - l)=l:=by lia
 rw[e i,e j,d];by_cases L:i=l
 ·rw[zzn L,zzi (by lia),zzn (by lia)];exact m (j - 1) (by lia) (by lia)
 ·rw[zzi L];by_cases Y:j=l
  ·rw[zzn Y,zzi (by lia)];exact g i (by lia)
  ·rw[zzi Y];by_cases U:l<i/\i <= k
   ·rw[zzn U,zzn (by lia)];exact a _ _ (by lia) (by lia)
   ·rw[zzi U];by_cases b:l<j/\j <= k
    ·rw[zzn b];exact a _ _ (by lia) (by lia)
    ·rw[zzi b];exact a _ _ J (by lia)
theorem AC(O:StrO N c):∀(f:Nat) (p:Array Nat) (k:Nat),PmN N p->1 <= k->k+f=N->Asc c p k->Asc c (kRun c (kas_bin f p k)) N
 |0,p,k,h,_,e,a=>by
  have:k=N:=by lia
  subst this;exact a
 |f+1,p,k,h,hk,e,a=>by unfold kas_bin;rw[fZ];obtain⟨J,L,U⟩:=oV O h (k:=k) (by lia) a k 0 k (by lia) (by lia) (zzr _) (λi b=>by lia) (λi b hik=>by lia);exact AC O f _ (k+1) (h.bub _ _) (by lia) (by lia) (a.bub h (by lia) J L U)
theorem Dw(O:StrO N c)(d:2 <= N):Asc c (kRun c (kas_sort N)) N:=by
 have L:PmN N (List.toArray (List.range N)):=by unfold PmN;rw[zxL]
 unfold kas_sort;rw[fZ];obtain⟨b,J,U⟩:=AB O L d;have pm:=KGood.end c _ (rm (N:=N) (by lia) L N);generalize kRun c (kas_count N (List.toArray (List.range N)))=r at b J U pm;by_cases e:r.1<N
 ·rw[zzn e];have em:max r.1 1=r.1:=by lia
  rw[em];exact AC O _ _ _ pm J (by lia) b
 ·rw[zzi e];have:r.1=N:=by lia
  rw[this]at b;exact b
end
end L2
namespace L2
open PySem PySem.Spec PyProof.Rows
variable{E Q:Value->Shared->Prop}{a i:Nat}{b:Bool}{h:Heap}{it l:Addr}{l':Expr}{p p1:Addr×Array Value}{pos tp:Pos}{src:List (Addr×Array Value)}{w:World}{xs:Array Value}
variable{prog:Program}{w:World}{A:Around}{E:Value->Shared->Prop}{X:Cx}
def IterX:Bool->Heap->Addr->Addr->Nat->Prop
 |true,h,i,a,k=>h.IsTupleIter i a k|false,h,i,a,k=>h.IsListIter i a k
def SeqX:Bool->Heap->Addr->Array Value->Prop
 |true,h,a,xs=>h.IsTuple a xs|false,h,a,xs=>h.IsList a xs
theorem IterX.extBut{t:Bool}{h h':Heap}{i a b:Addr}{k:Nat}(x:IterX t h i a k)(hs:Heap.ExtBut b h h')(e:i≠b):IterX t h' i a k:=by
 cases t with
 |true=>exact Heap.IsTupleIter.extBut x hs e|false=>exact Heap.IsListIter.extBut x hs e
theorem IterX.at{t:Bool}{h h':Heap}{i a:Addr}{k:Nat}(x:IterX t h i a k)(e:∀o,h.get? i=some o->h'.get? i=some o):IterX t h' i a k:=by
 cases t with
 |true=>exact Heap.IsTupleIter.at x e|false=>exact Heap.IsListIter.at x e
theorem IterX.cell{t:Bool}{h:Heap}{i a:Addr}{k:Nat}(x:IterX t h i a k):∃o,h.get? i=some o/\∀v,o.data ≠ .cell v:=by
 cases t with
 |true=>obtain⟨o,e,_,d⟩:=(show h.IsTupleIter i a k from x);exact⟨o,e,λv z=>by rw[d]at z;cases z⟩
 |false=>obtain⟨o,e,_,d⟩:=(show h.IsListIter i a k from x);exact⟨o,e,λv z=>by rw[d]at z;cases z⟩
theorem SeqX.extBut{t:Bool}{h h':Heap}{a b:Addr}{xs:Array Value}(x:SeqX t h a xs)(hs:Heap.ExtBut b h h')(e:a≠b):SeqX t h' a xs:=by
 cases t with
 |true=>exact Heap.IsTuple.extBut x hs e|false=>exact Heap.IsList.extBut x hs e
theorem SeqX.at{t:Bool}{h h':Heap}{a:Addr}{xs:Array Value}(x:SeqX t h a xs)(e:∀o,h.get? a=some o->h'.get? a=some o):SeqX t h' a xs:=by
 cases t with
 |true=>obtain⟨o,J,r⟩:=(show h.IsTuple a xs from x);exact⟨o,e o J,r⟩
 |false=>exact Heap.IsList.at x e
theorem SeqX.lt{t:Bool}{a:Addr}(x:SeqX t h a xs):a<h.objs.size:=by
 cases t with
 |true=>obtain⟨o,J,_⟩:=(show h.IsTuple a xs from x);exact zzz J
 |false=>obtain⟨o,J,_⟩:=(show h.IsList a xs from x);exact zzz J
section
variable{s:Shared}
theorem ic{t:Addr}{v:Value}(d:s.heap.IsTupleIter it t i)(e:s.heap.IsTuple t xs)(g:xs[i]? = some v)(q:∀h',h'.IsTupleIter it t (i+1)->Heap.SameBut it s.heap h'->Q v { s with heap:=h' }):wpAny (model prog w) A (Builtin.SmallTypes.nextOf (.ref it)) Q E s:=by obtain⟨ob,J,j,c⟩:=id d;obtain⟨ot,L,_,nt,U⟩:=e;unfold Builtin.SmallTypes.nextOf;refine zzb (wpAny_callSpecial?_slot (name:=Str.ofString "__next__") d.typeIs F.slot_tuple_iterator_next (zxc F.slot_tuple_iterator_next d.typeIs F.entry_tuple_iterator_next ?_ (F.args_tuple_iterator_next_1 _)));refine(show wpAny _ _ (field (.ref it) 0 >>= _) _ _ s from zzb (zyR J c (x:=.ref t) rfl ?_));refine(show wpAny _ _ (if (Value.ref t == Value.none)=true then _ else _) _ _ s from ?_);rw[zzi (show ¬((Value.ref t == Value.none)=true) from λz=>nomatch z)];refine(show wpAny _ _ (field (.ref it) 1 >>= _) _ _ s from zzb (zyR J c (x:=.int i 0) rfl ?_));refine(show wpAny _ _ (seqItems? (.ref t) >>= _) _ _ s from zzb (zwx L U ?_));simp only[zzM,g];refine zzb (zww J c (by simp) (zzp ⟨v,rfl,zzp (q _ ⟨_,zyE _ J (Obj.isFreed_of_fields (Obj.data_mapFields c _)),(Obj.cls_mapFields ..).trans j,by rw[Obj.data_mapFields c];simp[rawInt]⟩ (zyy ..))⟩))
theorem ft{t:Addr}(g:A.handled=none)(c:s.heap.IsTupleIter it t i)(j:s.heap.IsTuple t xs)(n:xs[i]? = none)(q:∀h' e,Heap.ExtBut it s.heap h'->(∃o,h'.get? e=some o/\o.cls=.type "StopIteration")->E (.ref e) { s with heap:=h' }):wpAny (model prog w) A (Builtin.SmallTypes.nextOf (.ref it)) Q E s:=by obtain⟨ob,J,oc,d⟩:=id c;obtain⟨ot,L,_,nt,U⟩:=j;unfold Builtin.SmallTypes.nextOf;refine zzb (wpAny_callSpecial?_slot (name:=Str.ofString "__next__") c.typeIs F.slot_tuple_iterator_next (zxc F.slot_tuple_iterator_next c.typeIs F.entry_tuple_iterator_next ?_ (F.args_tuple_iterator_next_1 _)));refine(show wpAny _ _ (field (.ref it) 0 >>= _) _ _ s from zzb (zyR J d (x:=.ref t) rfl ?_));refine(show wpAny _ _ (if (Value.ref t == Value.none)=true then _ else _) _ _ s from ?_);rw[zzi (show ¬((Value.ref t == Value.none)=true) from λz=>nomatch z)];refine(show wpAny _ _ (field (.ref it) 1 >>= _) _ _ s from zzb (zyR J d (x:=.int i 0) rfl ?_));refine(show wpAny _ _ (seqItems? (.ref t) >>= _) _ _ s from zzb (zwx L U ?_));simp only[zzM,n];refine zzb (wpAny_rule (zzb (zww J d (by simp) ?_)));refine(show wpAny _ _ (newExc (.type "StopIteration") [] >>= _) _ _ _ from zzb ?_);simp only[newExc,newTuple];refine zzb (zxC (zzb (m:=firstArgMember _ _) (wpAny_of_eq (a:=Value.none) (by first|rfl|(simp only[firstArgMember];rfl)) (zxC ?_ (by size_fits)))) (by size_fits));simp only[raiseNew];refine zzb (wpAny_handled ?_);(first|rw[show A.in1.handled=none from g]|rw[g]);refine zzb (zzp (wpAny_throw ?_));exact q _ _ (((zyy ..).extBut.push _).push _) ⟨_,zzy _ rfl,rfl⟩
theorem kL{t:Addr}{v:Value}(c:IterX b s.heap it t i)(d:SeqX b s.heap t xs)(e:xs[i]? = some v)(q:∀h',IterX b h' it t (i+1)->Heap.SameBut it s.heap h'->Q v { s with heap:=h' }):wpAny (model prog w) A (Builtin.SmallTypes.nextOf (.ref it)) Q E s:=by
 cases b with
 |true=>exact ic c d e q|false=>exact wpAny_nextOf_list_item c d e q
theorem nA{t:Addr}(j:A.handled=none)(c:IterX b s.heap it t i)(d:SeqX b s.heap t xs)(g:xs[i]? = none)(q:∀h' e,Heap.ExtBut it s.heap h'->(∃o,h'.get? e=some o/\o.cls=.type "StopIteration")->E (.ref e) { s with heap:=h' }):wpAny (model prog w) A (Builtin.SmallTypes.nextOf (.ref it)) Q E s:=by
 cases b with
 |true=>exact ft j c d g q|false=>exact wpAny_nextOf_list_end j c d g q
end
section
variable{tk:Addr->Bool}
def EI(tk:Addr->Bool)(h:Heap)(n:Nat)(src:List (Addr×Array Value))(k c:Nat):Prop:=∀(j:Nat) (p:Addr×Array Value),src[j]? = some p->IterX (tk p.1) h (n+j) p.1 (if j<c then k+1 else k)
def EJ(tk:Addr->Bool)(h:Heap)(n:Nat)(src:List (Addr×Array Value)):Prop:=∀(j:Nat) (p:Addr×Array Value),src[j]? = some p->p.1<n/\SeqX (tk p.1) h p.1 p.2
structure ZipStM(tk:Addr->Bool)(h:Heap)(n:Nat)(src:List (Addr×Array Value))(k:Nat):Prop where
 zip:∃f0 f1,OwnF f0/\dI h (n+src.length+2) (n+src.length) (n+src.length+1) f0 f1
 ti:cf h (n+src.length) (itsL n src.length).toArray
 to:∃ws:Array Value,ws.size=src.length/\cf h (n+src.length+1) ws
 its:EI tk h n src k 0
 ls:EJ tk h n src
 ne:src≠[]
structure ZipLpM(tk:Addr->Bool)(h0:Heap)(n:Nat)(src:List (Addr×Array Value))(k c:Nat)(h:Heap):Prop where
 ti:cf h (n+src.length) (itsL n src.length).toArray
 its:EI tk h n src k c
 ls:EJ tk h n src
 kept:KeptZ n src.length h0 h
 sz:h.objs.size=h0.objs.size
section
variable{h0 h h':Heap}{n k c:Nat}{src:List (Addr×Array Value)}
theorem ZipLpM.same(L:ZipLpM tk h0 n src k c h)(hs:Heap.SameBut a h h')(ha:a=n+src.length+1∨a=n+src.length+2):ZipLpM tk h0 n src k c h' where
 ti:=hs.extBut _ _ (by intro e;have e:(_:Nat)=(_:Nat):=e;lia) L.ti
 its:=λj p J=>(L.its j p J).extBut hs.extBut (by have:=jD J;intro e;have e:(_:Nat)=(_:Nat):=e;lia)
 ls:=λj p J=>⟨(L.ls j p J).1,(L.ls j p J).2.extBut hs.extBut (zzL (zzE (L.ls j p J).1 (show n <= a by lia)))⟩
 kept:=λb o U e=>hs.extBut _ _ (by intro e;have e:(_:Nat)=(_:Nat):=e;lia) (L.kept b o U e)
 sz:=hs.1.trans L.sz
theorem ZipLpM.next(L:ZipLpM tk h0 n src k c h)(d:src[c]? = some p)(hit:IterX (tk p.1) h' (n+c) p.1 (k+1))(hs:Heap.SameBut (n+c) h h'):ZipLpM tk h0 n src k (c+1) h':=by
 have lt:=jD d;refine⟨hs.extBut _ _ (by intro e;have e:(_:Nat)=(_:Nat):=e;lia) L.ti,λj q J=>?_,λj q J=>⟨(L.ls j q J).1,(L.ls j q J).2.extBut hs.extBut (zzL (zzE (L.ls j q J).1 (Nat.le_add_right n c)))⟩,λb o U e=>hs.extBut _ _ (by intro e;have e:(_:Nat)=(_:Nat):=e;lia) (L.kept b o U e),hs.1.trans L.sz⟩;by_cases z:j=c
 ·subst z;rw[d]at J;cases J;rw[zzn (by lia)];exact hit
 ·have:=(L.its j q J).extBut hs.extBut (by intro e;have e:(_:Nat)=(_:Nat):=e;lia);by_cases y:j<c
  ·rw[zzn y]at this;rw[zzn (by lia)];exact this
  ·rw[zzi y]at this;rw[zzi (by lia)];exact this
theorem KeptZ.stepM(L:ZipLpM tk h0 n src k c h)(hs:Heap.ExtBut a h h')(ha:(n <= a/\a<n+src.length)∨a=n+src.length+1∨a=n+src.length+2):KeptZ n src.length h0 h' :=
 λb o J e=>hs _ _ (by intro e;have e:(_:Nat)=(_:Nat):=e;lia) (L.kept b o J e)
end
section
variable{s:Shared}
set_option maxHeartbeats 1000000 in
theorem AD{n k:Nat}(hh:A.handled=none)(hsz:src.length <= sizeLine)(hs:ZipStM tk s.heap n src k)(hQ:∀vs h',Told src k src.length vs->ZipStM tk h' n src (k+1)->cf h' s.heap.objs.size vs.toArray->h'.objs.size=s.heap.objs.size+1->KeptZ n src.length s.heap h'->Q (.ref s.heap.objs.size) { s with heap:=h' })(hE:(∃(j:Nat) (p:Addr×Array Value),src[j]? = some p/\p.2[k]? = none)->∀h' e,KeptZ n src.length s.heap h'->(∃o,h'.get? e=some o/\o.cls=.type "StopIteration")->E (.ref e) { s with heap:=h' }) :
  wpAny (model prog w) A (Builtin.«zip.__next__» ⟨[.ref (n+src.length+2)],[]⟩) (λfin s'=>∃v,fin=.done (.ret v)/\Q v s') E s:=by
 obtain⟨⟨f0,f1,hf,m⟩,c2,⟨ws,I,Y⟩,hit,c8,c3⟩:=hs;show wpAny _ _ (field (.ref (n+src.length+2)) 2 >>= _) _ _ _;refine zzb (zyR m rfl (x:=.bool false) rfl ?_);show wpAny _ _ (field (.ref (n+src.length+2)) 3 >>= _) _ _ _;refine zzb (zyR m rfl (x:=.ref (n+src.length)) rfl ?_);refine zzb (zwx c2 rfl ?_);have d6:((itsL n src.length).toArray.isEmpty)=false:=by
  cases src with
  |nil=>exact absurd rfl c3|cons a l=>simp[itsL]
 simp only[d6,zxu,zwj];refine zzb (Dp hf m ?_ λB d5 d8 c9=>?_)
 ·simp only[if_true];refine zzb (wpAny_rule ?_);refine zzb (zyR m rfl (x:=.ref (n+src.length+1)) rfl ?_);refine zzb (zxv m (by simp) λu a9 b6=>?_)
  replace a9:dI u (n+src.length+2) (n+src.length) (n+src.length+1) .ellipsis f1:=a9
  have L0:ZipLpM tk s.heap n src k 0 s.heap:=⟨c2,hit,c8,λ_ _ _ e=>e,rfl⟩;have L1:=L0.same b6 (.inr rfl);have a3:cf u (n+src.length+1) ws:=b6.extBut _ _ (by intro e;have e:(_:Nat)=(_:Nat):=e;lia) Y;refine zzb (wpAny_forIn_list _ (λrest b s'=>∃c h ws vs,rest=((itsL n src.length).toArray.toList.zipIdx).drop c/\c <= src.length/\b=(none,())/\s'={ s with heap:=h }/\dI h (n+src.length+2) (n+src.length) (n+src.length+1) .ellipsis f1/\ZipLpM tk s.heap n src k c h/\Told src k c vs/\ws.size=src.length/\cf h (n+src.length+1) ws/\∀j,j<c->ws[j]? = vs[j]?) _ ?turn ?fin _ _ ⟨0,u,ws,[],rfl,zya _,rfl,rfl,a9,L1,⟨rfl,λj p d=>absurd d (zyH _)⟩,I,a3,λj d=>absurd d (zyH _)⟩)
  case turn =>
   rintro x rest b s' ⟨c,h,ws,vs,H,g,rfl,rfl,m,L,q,I,Y,hw⟩;obtain⟨C,c5⟩:=At H.symm;have g:c<src.length:=by have:=jD C;simpa using this
   rw[zxL,List.getElem?_zipIdx,Au g]at C;simp only[Option.map_some,Nat.zero_add,zwd]at C;subst C;have r:src[c]? = some src[c]:=by simp[g]
   have G:=L.its c _ r;rw[zzi (zyD _)]at G;have hl:=(L.ls c _ r).2;refine zzb (wpAny_onRaise ?_);show wpAny _ _ (Builtin.SmallTypes.nextOf (.ref (n+c)) >>= _) _ _ _;cases y:(src[c]).2[k]? with
   |none =>
    refine zzb (nA hh G hl y λU e J he=>?_);obtain⟨oe,c4,c7⟩:=he;have a4:dI U (n+src.length+2) (n+src.length) (n+src.length+1) .ellipsis f1:=J _ _ (by intro e;have e:(_:Nat)=(_:Nat):=e;lia) m;have d7:e≠n+src.length+2:=λx=>by subst x;rw[a4]at c4;cases c4;simp at c7
    refine zxv a4 (by simp) λb8 _ N=>hE ⟨c,_,r,y⟩ b8 e (λb o hb x=>N.extBut _ _ (by intro e;have e:(_:Nat)=(_:Nat):=e;lia) (KeptZ.stepM L J (.inl ⟨Nat.le_add_right _ _,by lia⟩) b o hb x)) ⟨oe,N.extBut _ _ d7 c4,c7⟩
   |some v =>
    refine zzb (kL G hl y λU a6 J=>zzp ?_);have b3:cf U (n+src.length+1) ws:=J.extBut _ _ (by intro e;have e:(_:Nat)=(_:Nat):=e;lia) Y;have a4:dI U (n+src.length+2) (n+src.length) (n+src.length+1) .ellipsis f1:=J.extBut _ _ (by intro e;have e:(_:Nat)=(_:Nat):=e;lia) m;refine zzb (zwx b3 rfl ?_);refine zzb (jE b3 (by lia) λb8 b9 N=>?_);refine zzb (wpAny_letGo (zzp ?_));refine⟨c+1,b8,_,vs++[v],c5.symm,g,rfl,rfl,N.extBut _ _ (by intro e;have e:(_:Nat)=(_:Nat):=e;lia) a4,(L.next r a6 J).same N (.inl rfl),q.push r y,by simp[I],b9,λj d=>?_⟩;rw[Array.getElem?_setIfInBounds];by_cases z:c=j
    ·subst z;rw[zzn rfl,zzn (by lia),zzT (by rw[q.1];exact zzr _),q.1];simp
    ·rw[zzi z,hw j (by lia),zyk (by rw[q.1];lia)]
  case fin =>
   rintro b s' ⟨c,h,ws,vs,H,g,rfl,rfl,m,L,q,I,Y,hw⟩;have g:c=src.length:=by have:=congrArg List.length H;simp at this;lia
   subst g;refine zzb (zwx Y rfl ?_);have d4:ws=vs.toArray:=by
    have:ws.toList=vs:=List.ext_getElem? λj=>by
     rw[zyN];by_cases z:j<src.length
     ·exact hw j z
     ·rw[zxX (by lia),List.getElem?_eq_none (by rw[q.1];lia)]
    rw[←this]
   subst d4;refine zzb (wpAny_newTuple ?_ (by simp[q.1];exact hsz));show wpAny _ _ (Builtin.SmallTypes.ownedTupleHandOut (.ref (n+src.length+2)) (.ref h.objs.size) >>= _) _ _ _;refine zzb ?_;unfold Builtin.SmallTypes.ownedTupleHandOut;have c0:n+src.length+2<h.objs.size:=zzz m;have c6:dI (h.push { cls:=.type "tuple",data:=.seq vs.toArray.toList.toArray }) (n+src.length+2) (n+src.length) (n+src.length+1) .ellipsis f1:=zzf _ m;refine zzb (zxv c6 (by simp) λd0 b1 a7=>?_)
   replace b1:dI d0 (n+src.length+2) (n+src.length) (n+src.length+1) (rawInt h.objs.size) f1:=b1
   refine zxv b1 (by simp) λT b2 a8=>?_
   replace b2:dI T (n+src.length+2) (n+src.length) (n+src.length+1) (rawInt h.objs.size) (.bool false):=b2
   have up:∀c o,c≠n+src.length+2->h.get? c=some o->T.get? c=some o:=λc o c1 e=>a8.extBut _ _ c1 (a7.extBut _ _ c1 (zzf _ e));have M:cf T h.objs.size vs.toArray:=a8.extBut _ _ (zwr c0) (a7.extBut _ _ (zwr c0) (zzy _ rfl));have b7:T.objs.size=h.objs.size+1:=by rw[a8.1,a7.1,zyj]
   have i:=L.sz;rw[i]at M b7;refine zzp ⟨_,rfl,?_⟩;show Q (.ref h.objs.size) _;rw[i];refine hQ vs T q ⟨⟨_,_,.inr ⟨_,rfl⟩,b2⟩,up _ _ (by intro e;have e:(_:Nat)=(_:Nat):=e;lia) L.ti,⟨_,I,up _ _ (by intro e;have e:(_:Nat)=(_:Nat):=e;lia) Y⟩,λj p d=>?_,λj p d=>⟨(L.ls j p d).1,(L.ls j p d).2.at λo e=>up _ o (zzL (zzE (L.ls j p d).1 (show n <= n+src.length+2 by lia))) e⟩,c3⟩ M b7 λb o hb e=>up b o (by intro e;have e:(_:Nat)=(_:Nat):=e;lia) (L.kept b o hb e);have:=jD d;have B:=(L.its j p d).at λo e=>up _ o (by intro e;have e:(_:Nat)=(_:Nat):=e;lia) e;rw[zzn this]at B;rw[zzi (zyH _)];exact B
 ·simp only[zxu,zwj];have L0:ZipLpM tk s.heap n src k 0 s.heap:=⟨c2,hit,c8,λ_ _ _ e=>e,rfl⟩;have L1:=L0.same c9 (.inr rfl);have a3:cf B (n+src.length+1) ws:=c9.extBut _ _ (by intro e;have e:(_:Nat)=(_:Nat):=e;lia) Y;refine zzb (wpAny_forIn_array' _ (λrest b s'=>∃c h vs,rest=((itsL n src.length).toArray.toList).drop c/\c <= src.length/\b=(none,vs.toArray)/\s'={ s with heap:=h }/\dI h (n+src.length+2) (n+src.length) (n+src.length+1) f0 d5/\ZipLpM tk s.heap n src k c h/\Told src k c vs/\cf h (n+src.length+1) ws) _ ?turn2 ?fin2 _ _ ⟨0,B,[],rfl,zya _,rfl,rfl,d8,L1,⟨rfl,λj p d=>absurd d (zyH _)⟩,a3⟩)
  case turn2 =>
   rintro x rest b s' ⟨c,h,vs,H,g,rfl,rfl,m,L,q,Y⟩;obtain⟨C,c5⟩:=At H.symm;have g:c<src.length:=by have:=jD C;simpa using this
   rw[zxL,Au g]at C;cases C;have r:src[c]? = some src[c]:=by simp[g]
   have G:=L.its c _ r;rw[zzi (zyD _)]at G;have hl:=(L.ls c _ r).2;refine zzb (zyz ?_);show wpAny _ _ (Builtin.SmallTypes.nextOf (.ref (n+c)) >>= _) _ _ _;cases y:(src[c]).2[k]? with
   |none =>
    refine zzb (nA hh G hl y λU e J he=>?_);exact hE ⟨c,_,r,y⟩ U e (KeptZ.stepM L J (.inl ⟨Nat.le_add_right _ _,by lia⟩)) he
   |some v =>
    refine zzb (kL G hl y λU a6 J=>zzp ?_);refine zzp ⟨c+1,U,vs++[v],c5.symm,g,by simp,rfl,J.extBut _ _ (by intro e;have e:(_:Nat)=(_:Nat):=e;lia) m,L.next r a6 J,q.push r y,J.extBut _ _ (by intro e;have e:(_:Nat)=(_:Nat):=e;lia) Y⟩
  case fin2 =>
   rintro b s' ⟨c,h,vs,H,g,rfl,rfl,m,L,q,Y⟩;have g:c=src.length:=by have:=congrArg List.length H;simp at this;lia
   subst g;refine zzb (wpAny_newTuple ?_ (by simp[q.1];exact hsz));have M:cf (h.push { cls:=.type "tuple",data:=.seq vs.toArray.toList.toArray }) h.objs.size vs.toArray:=zzy _ rfl;have up:∀c o,h.get? c=some o->(h.push { cls:=.type "tuple",data:=.seq vs.toArray.toList.toArray }).get? c=some o:=λc o e=>zzf _ e;have b7:(h.push { cls:=.type "tuple",data:=.seq vs.toArray.toList.toArray }).objs.size=h.objs.size+1:=zyj ..;have i:=L.sz;rw[i]at M b7;refine zzp ⟨_,rfl,?_⟩;show Q (.ref h.objs.size) _;rw[i];refine hQ vs _ q ⟨⟨_,_,hf,up _ _ m⟩,up _ _ L.ti,⟨_,I,up _ _ Y⟩,λj p d=>?_,λj p d=>⟨(L.ls j p d).1,(L.ls j p d).2.at λo e=>up _ o e⟩,c3⟩ M b7 λb o hb e=>up b o (L.kept b o hb e);have:=jD d;have B:=(L.its j p d).at λo e=>up _ o e;rw[zzn this]at B;rw[zzi (zyH _)];exact B
end
theorem gb{prog:Program}{A:Around}{s:Shared}{n k:Nat}{Q:Option Value->Shared->Prop}(u:A.handled=none)(hsz:src.length <= sizeLine)(hs:ZipStM tk s.heap n src k)(m:∀vs h',Told src k src.length vs->ZipStM tk h' n src (k+1)->cf h' s.heap.objs.size vs.toArray->h'.objs.size=s.heap.objs.size+1->KeptZ n src.length s.heap h'->Q (some (.ref s.heap.objs.size)) { s with heap:=h' })(g:(∃(j:Nat) (p:Addr×Array Value),src[j]? = some p/\p.2[k]? = none)->∀h',KeptZ n src.length s.heap h'->Q none { s with heap:=h' }) :
  wpAny (model prog w) A (pyNext (.ref (n+src.length+2))) Q E s:=by
 obtain⟨f0,f1,_,y⟩:=hs.zip;have J:s.TypeIs (.ref (n+src.length+2)) "zip":=⟨_,y,rfl⟩;unfold pyNext;refine zzb (zvc (wpAny_callSpecial?_slot (name:=Str.ofString "__next__") J F.slot_zip_next
  (zxc F.slot_zip_next J F.entry_zip_next (AD u hsz hs (λvs h' c L U Y d=>zzp (m vs h' c L U Y d)) λa h' e v r=>?_) (F.args_zip_next_1 _))))
 obtain⟨o,x,q⟩:=r;refine zzb (wpAny_isInstance (T:="StopIteration") (b:=true) ⟨o,x,q⟩ isSubtype_stop ?_);exact zzp (g a _ v)
def Dx(tk:Addr->Bool)(s:Shared)(src:List (Addr×Array Value))(Q:Value->Shared->Prop):Prop :=
 ∀d,ZipStM tk d s.heap.objs.size src 0->d.objs.size=s.heap.objs.size+src.length+3->(∀c o,s.heap.get? c=some o->d.get? c=some o)->Q (.ref (s.heap.objs.size+src.length+2)) { s with heap:=d }
def SqX(tk:Addr->Bool)(K:zvd)(H:Hp)(a:Addr)(xs:List V):Prop:=if tk a=true then SqT K H a xs else SqL K H a xs
theorem SqX.inj{X:Cx}{g:List (Addr×Obj)}{j:St}{H:Hp}{s:Shared}(I:Inv X g j H s){a:Addr}{xs ys:List V}(c:SqX tk X.K H a xs)(d:SqX tk X.K H a ys):xs=ys:=by
 unfold SqX at c d;cases e:tk a with
 |true=>rw[zzn e]at c d;exact I.tuple_inj c d|false=>rw[zzi (by rw[e];intro z;cases z)]at c d;exact I.list_inj c d
theorem SqX.at{X:Cx}{c:List (Addr×Obj)}{g:St}{H:Hp}{s:Shared}(I:Inv X c g H s){a:Addr}{xs:List V}(h:SqX tk X.K H a xs):∃its:List Value,Vals xs its/\SeqX (tk a) s.heap a its.toArray/\xs.length <= sizeLine:=by
 unfold SqX at h;cases e:tk a with
 |true =>
  rw[zzn e]at h;obtain⟨its,J,p,d⟩:=I.tuple h;exact⟨its,J,p,d⟩
 |false =>
  rw[zzi (by rw[e];intro z;cases z)]at h;obtain⟨its,J,p,d⟩:=I.list h;exact⟨its,J,p.isList,d⟩
theorem sJ{X:Cx}{K:zvd}{d:List (Addr×Obj)}{z:St}{H:Hp}{s:Shared}(r:X.K=K)(I:Inv X d z H s):∀{as:List Addr} {xss:List (List V)},as.length=xss.length->(∀(j:Nat) a xs,as[j]? = some a->xss[j]? = some xs->SqX tk K H a xs) ->
  ∃src:List (Addr×Array Value),src.map (·.1)=as/\SrcV xss src/\(∀p∈src,SeqX (tk p.1) s.heap p.1 p.2)/\∀xs∈xss,xs.length <= sizeLine
 |[],xss,c,_=>by have n:xss=[]:=zzK.mp (by rw[←c];rfl);subst n;exact⟨[],rfl,⟨rfl,λj xs p h=>by simp at h⟩,λp J=>by simp at J,λxs U=>by simp at U⟩
 |a::as,[],c,_=>absurd c (by simp)|a::as,xs::xss,c,h=>by
  subst r;obtain⟨src,o,m,q,Y⟩:=sJ rfl I (as:=as) (xss:=xss) (by simpa using c) λj a xs u U=>h (j+1) a xs (by simpa using u) (by simpa using U);obtain⟨e,y,x,v⟩:=(h 0 a xs rfl rfl).at I;refine⟨(a,e.toArray)::src,by simp[o],⟨by simp[m.1],λj g p L J=>?_⟩,λp J=>?_,λg L=>?_⟩
  ·cases j with
   |zero=>simp at L J;subst L J;simpa using y|succ j=>exact m.2 j g p (by simpa using L) (by simpa using J)
  ·rcases zzk.mp J with rfl|J
   ·exact x
   ·exact q p J
  ·rcases zzk.mp L with rfl|L
   ·exact v
   ·exact Y g L
noncomputable abbrev itO(t:Bool)(l:Addr):Obj:={ cls:=.type (match t with|true=>"tuple_iterator" |false=>"list_iterator"),data:=.fields #[.ref l,.int 0 0] }
noncomputable abbrev m2H(t u:Bool)(h:Heap)(l1 J:Addr):Heap:=(h.push (itO t l1)).push (itO u J)
noncomputable abbrev m2T(t u:Bool)(h:Heap)(l1 J:Addr):Heap:=(m2H t u h l1 J).push (tuO [.ref h.objs.size,.ref (h.push (itO t l1)).objs.size])
noncomputable abbrev m2U(t u:Bool)(h:Heap)(l1 J:Addr):Heap:=(m2T t u h l1 J).push (tuO [.none,.none])
noncomputable abbrev m2Z(t u:Bool)(h:Heap)(l1 J:Addr):Heap:=(m2U t u h l1 J).push (ziO (m2H t u h l1 J).objs.size (m2T t u h l1 J).objs.size)
theorem SeqX.push{t:Bool}{h:Heap}{a:Addr}{xs:Array Value}(x:SeqX t h a xs)(o:Obj):SeqX t (h.push o) a xs:=x.at λo e=>zzf _ e
theorem EK{prog:Program}{A:Around}{s:Shared}{t:Bool}(h:SeqX t s.heap l xs)(q:Q (.ref s.heap.objs.size) { s with heap:=s.heap.push (itO t l) }):wpAny (model prog w) A (pyIter (.ref l)) Q E s:=by
 cases t with
 |true=>exact zxs h q|false=>exact zxB h q
set_option maxHeartbeats 0 in
theorem qN(t u:Bool)(l1 J:Addr)(xs ys:Array Value) :
  Meets (Builtin.«zip.__new__» ⟨[.type "zip",.ref l1,.ref J],[]⟩) (λ_ R s=>SeqX t s.heap l1 xs/\SeqX u s.heap J ys /\
   R (.ok (.ret (.ref (m2U t u s.heap l1 J).objs.size))) { s with heap:=m2Z t u s.heap l1 J }) :=
 .of_wp λprog w A R s h=>by
  obtain⟨c,g,d,tok,os⟩:=s;obtain⟨Y,e,h⟩:=h;have hsub:=sub_zip;have L:SeqX t (Shared.heap ⟨c,g,d,tok,os⟩) l1 xs:=Y;have U:SeqX u (Shared.heap ⟨c.push (itO t l1),g,d,tok,os⟩) J ys:=e.push _
  wp_walk using EK L,EK U
  exact⟨_,rfl,h⟩
section
variable{s:Shared}
theorem IterX.new{t:Bool}{i a:Addr}(e:h.get? i=some (itO t a)):IterX t h i a 0:=by
 cases t with
 |true=>exact⟨_,e,rfl,rfl⟩|false=>exact⟨_,e,rfl,rfl⟩
theorem AE{p2:Addr×Array Value}(d:SeqX (tk p1.1) s.heap p1.1 p1.2)(g:SeqX (tk p2.1) s.heap p2.1 p2.2)(h:Dx tk s [p1,p2] Q) :
  wpAny (model prog w) A (call (.type "zip") [.ref p1.1,.ref p2.1]) Q E s:=by
 refine callType_new F.called_zip (by decide) (F.typeCall_zip_2 _ _) (F.newCall_zip_2 _ _) (λobj=>F.args_object_init_3 obj _ _) F.entry_zip_new (qN (tk p1.1) (tk p2.1) p1.1 p2.1 p1.2 p2.2) ⟨d,g,?_⟩;have U:(s.heap.push (itO (tk p1.1) p1.1)).objs.size=s.heap.objs.size+1:=zyj ..;have Y:(m2H (tk p1.1) (tk p2.1) s.heap p1.1 p2.1).objs.size=s.heap.objs.size+2:=by rw[zyj,U]
 have n:(m2T (tk p1.1) (tk p2.1) s.heap p1.1 p2.1).objs.size=s.heap.objs.size+3:=by rw[zyj,Y]
 have q:(m2U (tk p1.1) (tk p2.1) s.heap p1.1 p2.1).objs.size=s.heap.objs.size+4:=by rw[zyj,n]
 have u:(m2Z (tk p1.1) (tk p2.1) s.heap p1.1 p2.1).objs.size=s.heap.objs.size+5:=by rw[zyj,q]
 have up:∀c o,(m2H (tk p1.1) (tk p2.1) s.heap p1.1 p2.1).get? c=some o->(m2Z (tk p1.1) (tk p2.1) s.heap p1.1 p2.1).get? c=some o:=λc o e=>zzf _ (zzf _ (zzf _ e));have L:(m2Z (tk p1.1) (tk p2.1) s.heap p1.1 p2.1).get? (m2U (tk p1.1) (tk p2.1) s.heap p1.1 p2.1).objs.size=some _:=zzy _ rfl;have r:(m2Z (tk p1.1) (tk p2.1) s.heap p1.1 p2.1).get? (m2T (tk p1.1) (tk p2.1) s.heap p1.1 p2.1).objs.size=some _:=zzf _ (zzy _ rfl);have g3:(m2Z (tk p1.1) (tk p2.1) s.heap p1.1 p2.1).get? (m2H (tk p1.1) (tk p2.1) s.heap p1.1 p2.1).objs.size=some _:=zzf _ (zzf _ (zzy _ rfl));have g2:(m2Z (tk p1.1) (tk p2.1) s.heap p1.1 p2.1).get? (s.heap.push (itO (tk p1.1) p1.1)).objs.size=some (itO (tk p2.1) p2.1):=up _ _ (zzy _ rfl);have g1:(m2Z (tk p1.1) (tk p2.1) s.heap p1.1 p2.1).get? s.heap.objs.size=some (itO (tk p1.1) p1.1):=up _ _ (zzf _ (zzy _ rfl));have m:∀c o,s.heap.get? c=some o->(m2Z (tk p1.1) (tk p2.1) s.heap p1.1 p2.1).get? c=some o:=λc o x=>up _ _ (zzf _ (zzf _ x));show _/\_;rw[Y,n,q]at L;rw[U,Y]at g3;rw[n]at r;rw[U]at g2;rw[q];refine⟨⟨_,L,rfl⟩,h _ ⟨⟨_,_,.inl rfl,L⟩,g3,⟨_,rfl,r⟩,λj p J=>?_,λj p J=>?_,by simp⟩ u m⟩
 ·rw[zzi (zyH _)];rcases j with _|_|j
  ·simp at J;subst J;exact .new g1
  ·simp at J;subst J;exact .new g2
  ·simp at J
 ·rcases j with _|_|j
  ·simp at J;subst J;exact⟨d.lt,d.at λo e=>m _ o e⟩
  ·simp at J;subst J;exact⟨g.lt,g.at λo e=>m _ o e⟩
  ·simp at J
end
def ItzM(tk:Addr->Bool)(K:zvd)(as:List Addr):It :=
 ⟨λi H=>∀a∈as,∃xs x,SqX tk K H a xs/\xs[i]? = some x,
  λi H v c=>∃T r,H T=none/\v=.ref T/\(r.length=as.length/\∀(j:Nat) a xs,as[j]? = some a->SqX tk K H a xs->xs[i]? = r[j]?)/\c=upd H T (.tup r),
  λi H=>(∀a∈as,∃xs,SqX tk K H a xs)/\∃a∈as,∃xs,SqX tk K H a xs/\xs.length <= i⟩
structure ZipTnM(tk:Addr->Bool)(n:Nat)(as:List Addr)(k:Nat)(h:Heap):Prop where
 zip:∃f0 f1,OwnF f0/\dI h (n+as.length+2) (n+as.length) (n+as.length+1) f0 f1
 ti:cf h (n+as.length) (itsL n as.length).toArray
 to:∃ws:Array Value,ws.size=as.length/\cf h (n+as.length+1) ws
 its:∀(j:Nat) (a:Addr),as[j]? = some a->IterX (tk a) h (n+j) a k
theorem wC{K:zvd}{H:Hp}:∀{as:List Addr},(∀a∈as,∃xs,SqX tk K H a xs)->∃xss:List (List V),as.length=xss.length/\∀(j:Nat) a xs,as[j]? = some a->xss[j]? = some xs->SqX tk K H a xs
 |[],_=>⟨[],rfl,λj a xs h=>by simp at h⟩
 |a::as,h=>by
  obtain⟨xs,U⟩:=h a zzg;obtain⟨xss,c,d⟩:=wC λb J=>h b (zzc _ J);refine⟨xs::xss,by simp[c],λj b e J L=>?_⟩;cases j with
  |zero=>simp at J L;subst J L;exact U|succ j=>exact d j b e (by simpa using J) (by simpa using L)
theorem ZipTnM.st{n k:Nat}{as:List Addr}(t:ZipTnM tk n as k h)(hs:src.map (·.1)=as)(d:∀p∈src,SeqX (tk p.1) h p.1 p.2)(U:∀a∈as,a<n)(Y:as≠[]):ZipStM tk h n src k:=by
 have J:src.length=as.length:=by rw[←hs,zza]
 obtain⟨z,g,m,c⟩:=t;have at_:∀(j:Nat) (p:Addr×Array Value),src[j]? = some p->as[j]? = some p.1:=λj p L=>by rw[←hs,zzu,L];rfl
 refine⟨by rw[J];exact z,by rw[J];exact g,by rw[J];exact m,λj p L=>?_,λj p L=>⟨U p.1 (zzI (at_ j p L)),d p (zzI L)⟩,λe=>Y (by rw[←hs,e];rfl)⟩;rw[zzi (zyH _)];exact c j p.1 (at_ j p L)
theorem ZipStM.tn{n k:Nat}{as:List Addr}(z:ZipStM tk h n src k)(hs:src.map (·.1)=as):ZipTnM tk n as k h:=by
 have J:src.length=as.length:=by rw[←hs,zza]
 refine⟨by rw[←J];exact z.zip,by rw[←J];exact z.ti,by rw[←J];exact z.to,λj a c=>?_⟩;have U:j<src.length:=by rw[J];exact jD c
 have L:src[j]? = some src[j]:=by simp[U]
 have:=z.its j _ L;rw[zzi (zyH _)]at this;have e:(src[j]).1=a:=by
  have:as[j]? = some (src[j]).1:=by rw[←hs,zzu,L];rfl
  rw[c]at this;exact(zzV this).symm
 rw[←e];exact this
theorem AF{P:Program}{K:zvd}{elts:List Expr}{k:Nat}(n:Nat)(as:List Addr)(b6:∀a∈as,a<n)(h1:as≠[])(c2:as.length <= 4) :
  Turn P w K (.Tuple elts k tp) (ItzM tk K as) (fpZ n as.length) (n+as.length+2) (λi h=>ZipTnM tk n as i h) where
 mem:=fpZ_mem.mpr ⟨by lia,by lia⟩
 obj:=λi h st c hc=>by
  obtain⟨⟨f0,f1,_,hz⟩,a3,⟨ws,_,a4⟩,B⟩:=st;rcases Ax hc with rfl|rfl|rfl|⟨lt,e⟩
  ·exact⟨_,hz,λv z=>by have z':Data.fields _=Data.cell v:=z;cases z'⟩
  ·exact⟨_,a3,λv z=>by have z':Data.seq _ _=Data.cell v:=z;cases z'⟩
  ·exact⟨_,a4,λv z=>by have z':Data.seq _ _=Data.cell v:=z;cases z'⟩
  ·obtain⟨o,eo,d⟩:=(B (c - n) as[c - n] (by simp[lt])).cell;rw[e]at eo;exact⟨o,eo,d⟩
 keep:=λi h h' st kk=>by obtain⟨⟨f0,f1,T,hz⟩,a3,⟨ws,a9,a4⟩,B⟩:=st;exact⟨⟨f0,f1,T,kk _ (fpZ_mem.mpr ⟨by lia,by lia⟩) _ hz⟩,kk _ (fpZ_mem.mpr ⟨by lia,by lia⟩) _ a3,⟨ws,a9,kk _ (fpZ_mem.mpr ⟨by lia,by lia⟩) _ a4⟩,λj a m=>(B j a m).at λo e=>kk _ (fpZ_mem.mpr ⟨by lia,by have:=jD m;lia⟩) o e⟩
 item:=by
  intro X hP hw hK hc i G s σ H E I T st hg;subst hP hw hK;obtain⟨g,C,N⟩:=wC (tk:=tk) (K:=X.K) (H:=H) (as:=as) λa m=>let ⟨xs,x,h,_⟩:=hg a m;⟨xs,h⟩
  obtain⟨src,Y,hv,a7,y⟩:=sJ (tk:=tk) rfl I C N;have J:src.length=as.length:=by rw[←Y,zza]
  have a8:=st.st Y a7 b6 h1;have b3:src.length <= sizeLine:=zzq (show src.length <= 4 by lia) (by decide);rw[show n+as.length+2=n+src.length+2 by rw[J]];refine gb (I.ok.hd hc) b3 a8 (λvs h' ht b1 a6 c3 hk=>?_) (λhe h' hk=>?_)
  ·obtain⟨r,l,rv⟩:=xC hv ht;obtain⟨f0,f1,c0,c5⟩:=b1.zip;refine⟨_,rfl,Gr c0 c5 λh4 b8 b5 b7 U=>?_⟩;have hzl:n+src.length+2<s.heap.objs.size:=by
    obtain⟨_,_,_,q⟩:=st.zip;rw[J];exact zzz q
   have b2:ZipTnM tk n as (i+1) h4:=by have z0:=b1.tn Y;obtain⟨_,a3,⟨ws,a9,a4⟩,B⟩:=z0;rw[J]at b7 U;refine⟨⟨b8,f1,b5,b7⟩,U.extBut _ _ (by intro e;have e:(_:Nat)=(_:Nat):=e;lia) a3,⟨ws,a9,U.extBut _ _ (by intro e;have e:(_:Nat)=(_:Nat):=e;lia) a4⟩,λj a m=>(B j a m).extBut U.extBut (by have:=jD m;intro e;have e:(_:Nat)=(_:Nat):=e;lia)⟩
   have I2:Inv X G σ (upd H s.heap.objs.size (.tup r)) { s with heap:=h4 }:=by
    refine I.turnedN (t':=s.toks) (ch:=fpZ n as.length) T (λb o y q=>?_) (zzr _) ⟨?_,vs,rv,?_⟩
    ·rw[←J]at y;exact U.extBut _ _ (IP y) (hk b o (xD (wA y)) q)
    ·exact⟨by rw[l.1,←C];exact zzq c2 (by decide),.inl ⟨_,U.extBut _ _ (by intro e;have e:(_:Nat)=(_:Nat):=e;lia) a6,rfl⟩⟩
    ·exact⟨_,U.extBut _ _ (by intro e;have e:(_:Nat)=(_:Nat):=e;lia) a6,rfl,_,rfl⟩
   refine⟨.ref s.heap.objs.size,_,I2,rfl,⟨s.heap.objs.size,r,I.hok.fresh (zzr _),rfl,⟨by rw[l.1,C],λj a xs m hx=>?_⟩,rfl⟩,b2,λb y=>?_⟩
   ·have M:j<g.length:=by rw[←C];exact jD m
    have L:g[j]? = some g[j]:=by simp[M]
    have:=N j a g[j] m L;rw[SqX.inj I hx this];exact l.2 j _ L
   ·have:=fpZ_mem.mp y;rw[ah (by intro e;have e:(_:Nat)=(_:Nat):=e;lia)];exact(T b y).1
  ·exfalso;obtain⟨j,p,M,hp⟩:=he;have m:as[j]? = some p.1:=by rw[←Y,zzu,M];rfl
   obtain⟨xs,x,h,hx⟩:=hg p.1 (zzI m);have a5:j<g.length:=by rw[←C];exact jD m
   have L:g[j]? = some g[j]:=by simp[a5]
   rw[SqX.inj I h (N j p.1 _ m L)]at hx;obtain⟨u,hu,_⟩:=(hv.2 j _ p L M).get hx;rw[zyN,hp]at hu;cases hu
 done:=by
  intro X hP hw hK hc i G s σ H E I T st hg;subst hP hw hK;obtain⟨b4,a0,b9,xs0,c4,c1⟩:=hg;obtain⟨g,C,N⟩:=wC (tk:=tk) (K:=X.K) (H:=H) (as:=as) b4;obtain⟨src,Y,hv,a7,y⟩:=sJ (tk:=tk) rfl I C N;have J:src.length=as.length:=by rw[←Y,zza]
  have a8:=st.st Y a7 b6 h1;have b3:src.length <= sizeLine:=zzq (show src.length <= 4 by lia) (by decide);rw[show n+as.length+2=n+src.length+2 by rw[J]];refine gb (I.ok.hd hc) b3 a8 (λvs h' ht b1 a6 c3 hk=>?_) (λhe h' hk=>⟨rfl,?_⟩)
  ·exfalso;obtain⟨r,l,rv⟩:=xC hv ht;obtain⟨j,M⟩:=zyt.mp b9;have a5:j<g.length:=by rw[←C];exact jD M
   have L:g[j]? = some g[j]:=by simp[a5]
   have e:=SqX.inj I c4 (N j a0 _ M L);have:=l.2 j _ L;rw[←e,List.getElem?_eq_none c1,zzt (by rw[l.1];exact a5)]at this;cases this
  ·refine I.turnedL (t':=s.toks) (ch:=fpZ n as.length) T λb o y q=>hk b o ?_ q;rw[←J]at y;exact xD (wA y)
 self:=λA i s Q E st h=>by obtain⟨f0,f1,_,hz⟩:=st.zip;have hT:s.TypeIs (.ref (n+as.length+2)) "zip":=⟨_,hz,rfl⟩;refine wpAny_pyIter_slot hT F.slot_zip_iter (zxc F.slot_zip_iter hT F.entry_zip_iter ?_ (F.args_zip_iter_1 _));show wpAny _ _ (ret (.ref (n+as.length+2))) _ _ s;exact zzp ⟨_,rfl,"zip",_,hT,F.slot_zip_next.lookup,h⟩
end
def KN(K:zvd)(ta:TA):TI:=λg H R=>ta g H λe c=>∃(d:Addr->Bool) (a b:Addr),e=[.ref a,.ref b]/\(∃xs,SqX d K c a xs)/\(∃xs,SqX d K c b xs)/\R (ItzM d K [a,b]) c
theorem Gz{l:Expr}{y:TA}{p:Pos}{elts:List Expr}{k:Nat}(i:Gl X "zip")(Q:X.mg "zip" = none)(T:PA X [l,l'] y)(he:starEach [l,l'] X.env=(false,eval l X.env)::starEach [l'] X.env:=by rfl)(hpl:(backTo pos (starEach [l'] X.env)).any (·.1)=false:=by rfl) :
  PI X (.Tuple elts k tp) (.Call (.Name "zip" p) [l,l'] [] pos) (KN X.K y):=by
 intro d s B H R I h;refine Call_ (oq I i Q Dn (PyProof.Rows.callWith_type1 (thn (T pos d s B H _ I h) λus j q0=>?_) he hpl));obtain⟨vs,n,J,r1,q1⟩:=q0;obtain⟨tk,a,b,e,⟨xs,hq⟩,⟨ys,Y⟩,q⟩:=q1;subst e;obtain⟨u,u',rfl,ru,M⟩:=r1.two;cases ru;cases M;obtain⟨m,rv,x,v⟩:=hq.at J;obtain⟨g,rv',L,G⟩:=Y.at J;refine AE (tk:=tk) (p1:=(a,m.toArray)) (p2:=(b,g.toArray)) x L λN v G E=>?_;have C:Inv X d B n { j with heap:=N }:=J.kept (t':=j.toks) E;have U:∀c∈[a,b],c<j.heap.objs.size:=λc r=>by
  simp only[zzk,zyx,zxJ]at r;rcases r with rfl|rfl
  ·exact x.lt
  ·exact L.lt
 have z:=AF (tk:=tk) (P:=X.prog) (w:=X.w) (K:=X.K) (elts:=elts) (k:=k) (tp:=tp) j.heap.objs.size [a,b] U (by simp) (by simp);have tn:=v.tn (as:=[a,b]) rfl;exact z.self X.A 0 _ _ _ tn ⟨_,_,_,ItzM tk X.K [a,b],n,rfl,C,z,tn,λb o=>J.fpOk (fpZ_mem.mp o).1 (J.hok.fresh (fpZ_mem.mp o).1),q⟩
open AutoSeq1 (wpAny_loadPart')
noncomputable abbrev AG(t:Addr):Obj:={ cls:=.type "tuple_iterator",data:=.fields #[.ref t,.int 0 0] }
noncomputable abbrev GA(it:Addr):Obj:={ cls:=.type "enumerate",data:=.fields #[.none,.bool false,.ref it,rawInt 0,.none,.none] }
set_option maxHeartbeats 1000000 in
theorem AH(t:Addr)(xs:Array Value)(n:Nat)(e:Option Addr)(j:Array (Option Value)) :
  Meets (Builtin.«enumerate.__new__» ⟨[.type "enumerate",.ref t],[]⟩) (λ_ R s=>s.heap.get? t=some ⟨.type "tuple",e,.seq xs n,j⟩/\R (.ok (.ret (.ref (s.heap.push (AG t)).objs.size))) { s with heap:=(s.heap.push (AG t)).push (GA s.heap.objs.size) }):=by
 refine .of_wp λprog w A R s ⟨J,q⟩=>?_;obtain⟨L,g,d,m,os⟩:=s;have hs:=sub_enumerate;have it:Heap.IsTuple (Shared.heap ⟨L,g,d,m,os⟩) t xs:=⟨_,J,rfl,n,rfl⟩
 wp_walk using wpAny_loadPart' J
 refine wpAny_stack_any (λσs=>zzp ?_);split
 ·rename_i c _ _ _ _ _;rcases hcc:(c == Value.type "enumerate") with _|_
  ·(wp_walk using wpAny_loadPart' J,zxs it);exact⟨_,rfl,q⟩
  ·(wp_walk using wpAny_loadPart' J,zxs it);exact⟨_,rfl,q⟩
 ·(wp_walk using wpAny_loadPart' J,zxs it);exact⟨_,rfl,q⟩
section
variable{s:Shared}
theorem Dy{t:Addr}(L:IsTup s.heap t xs)(q:∀h',IsEnum h' (s.heap.objs.size+1) s.heap.objs.size 0 .none->h'.IsTupleIter s.heap.objs.size t 0->(∀b o,s.heap.get? b=some o->h'.get? b=some o)->Q (.ref (s.heap.objs.size+1)) { s with heap:=h' }) :
  wpAny (model prog w) A (call (.type "enumerate") [.ref t]) Q E s:=by
 obtain⟨⟨cl,g,da,j⟩,J,c,n,d⟩:=L;simp only at c d;subst c d;have z:(s.heap.push (AG t)).objs.size=s.heap.objs.size+1:=zyj ..;refine callType_new F.called_enumerate (by decide) (F.typeCall_enumerate_1 _) (F.newCall_enumerate_1 _) (λo=>F.args_object_init_2 o _) F.entry_enumerate_new (AH t xs n g j) ⟨J,?_⟩;have e:IsEnum ((s.heap.push (AG t)).push (GA s.heap.objs.size)) (s.heap.objs.size+1) s.heap.objs.size 0 .none:=by have:=zzy (s.heap.push (AG t)) (o:=GA s.heap.objs.size) rfl;rwa [z]at this
 show _/\_;rw[z];exact⟨⟨_,e,rfl⟩,q _ e ⟨_,zzf _ (zzy _ rfl),rfl,rfl⟩ λb o x=>zzf _ (zzf _ x)⟩
theorem AI(m:A.handled=none)(it t:Addr)(ne:t≠it)(xs:Array Value):Draws prog w A it [it,t] xs.size (λi v=>xs[i]? = some v) (λi h=>h.IsTupleIter it t i/\h.IsTuple t xs):=by
 refine⟨λi h x=>?_,λi h c x k=>?_,λi s Q E d x q=>?_,λs Q E x q=>ft m x.1 x.2 (by simp) q⟩
 ·obtain⟨⟨o,e,_⟩,_⟩:=x;exact⟨o,e⟩
 ·obtain⟨⟨o,e,r⟩,L,j,n⟩:=x;exact⟨⟨o,k it (by simp) o e,r⟩,L,k t (by simp) L j,n⟩
 ·refine ic x.1 x.2 (v:=xs[i]) (by simp[d]) λc J g=>?_;exact q _ c s.toks (by simp[d]) ⟨J,x.2.extBut g.extBut ne⟩ g
theorem AJ(d:A.handled=none)(it t:Addr)(U:xs[i]? = none):Draws prog w A it [it,t] 0 (λ_ _=>False) (λ_ h=>h.IsTupleIter it t i/\h.IsTuple t xs):=by
 refine⟨λj h x=>?_,λj h h' x k=>?_,λj s Q E L _ _=>absurd L (zyH _),λs Q E x q=>ft d x.1 x.2 U q⟩
 ·obtain⟨⟨o,e,_⟩,_⟩:=x;exact⟨o,e⟩
 ·obtain⟨⟨o,e,r⟩,J,c,g⟩:=x;exact⟨⟨o,k it (by simp) o e,r⟩,J,k t (by simp) J c,g⟩
end
def IteT(K:zvd)(a:Addr):It :=
 ⟨λi H=>∃xs x,SqT K H a xs/\xs[i]? = some x,λi H x c=>∃T y,H T=none/\x=.ref T/\(∀xs,SqT K H a xs->xs[i]? = some y)/\c=upd H T (.tup [.int i,y]),λi H=>∃xs,SqT K H a xs/\xs.length <= i⟩
theorem AK{a b:Addr}{its:Array Value}{o:Obj}{n:String}(g:IsTup h a its)(J:h.get? b=some o)(d:o.cls=.type n)(j:n ≠ "tuple"):a≠b:=by rintro rfl;obtain⟨o',e,c,_⟩:=g;rw[J]at e;cases e;rw[d]at c;cases c;exact j rfl
theorem zc{P:Program}{K:zvd}{elts:List Expr}{k:Nat}(a e it:Addr)(a0:e≠it):Turn P w K (.Tuple elts k tp) (IteT K a) [e,it] e (λi h=>(∃old,IsEnum h e it i old)/\h.IsTupleIter it a i) where
 mem:=by simp
 obj:=λi h st b J=>by
  obtain⟨⟨old,j⟩,ho⟩:=st;rcases zzk.mp J with rfl|J
  ·exact⟨_,j,λv z=>by have z':Data.fields _=Data.cell v:=z;cases z'⟩
  ·have:b=it:=by simpa using J
   subst this;obtain⟨o,U,c,d⟩:=ho;exact⟨o,U,λv z=>by rw[d]at z;cases z⟩
 keep:=λi h h' st k=>by obtain⟨⟨old,j⟩,o,U,r⟩:=st;exact⟨⟨old,k e (by simp) _ j⟩,o,k it (by simp) o U,r⟩
 item:=by
  intro X Y N C G i m s σ H E I n st M;subst Y N C;obtain⟨xs,x,y,l⟩:=M;obtain⟨g,Q,p,hz⟩:=I.tuple y;obtain⟨u,hu,ru⟩:=Q.get l;obtain⟨⟨old,j⟩,hit⟩:=st;have a8:a≠e:=AK p j rfl (by decide);have a9:a≠it:=by obtain⟨o,U,c,d⟩:=id hit;exact AK p U c (by decide)
  have W:=WalksT.enumerateD (prog:=X.prog) (w:=X.w) (A:=X.A) (AI (A:=X.A.in1) (I.ok.hd G) it a a9 g.toArray) e a0 (by simp[a0,Ne.symm a8]) (by simp);have hi:i<g.toArray.size:=by have:=(zzx.mp hu).1;simpa using this
  refine W.item i s _ _ hi ⟨⟨old,j⟩,hit,p⟩ λT vals B tk Y hT a7 L hk=>?_;obtain⟨t,z,a3,rfl⟩:=Y;have a6:z=u:=by
   have:g.toArray[i]? = some u:=by simpa using hu
   rw[this]at a3;cases a3;rfl
  subst a6;have ap:=W.apart i T B L;refine⟨_,rfl,W.go elts k tp i T { s with heap:=B,toks:=tk } _ _ L λh2 b2 a2=>?_⟩;obtain⟨a4,a5,_⟩:=b2;have I2:Inv X m σ (upd H T (.tup [.int i,x])) { s with heap:=h2,toks:=tk }:=by
   refine I.turnedN (ch:=[e,it]) n (λb o J q=>a2 b o J (hk b o J q)) hT ⟨?_,[.int i t,z],.cons ⟨t,rfl⟩ (.cons ru .nil),?_⟩
   ·exact⟨by show 2 <= sizeLine;decide,.inr ⟨_,_,rfl⟩⟩
   ·obtain⟨o,U,r⟩:=a7;exact⟨o,a2 T o ap U,r⟩
  refine⟨.ref T,_,I2,rfl,⟨T,x,I.hok.fresh hT,rfl,λys hy=>by rw[I.tuple_inj hy y];exact l,rfl⟩,⟨by simpa using a4,a5⟩,λb J=>?_⟩;have fb:=n b J;rw[ah]
  ·exact fb.1
  ·rintro rfl;exact ap J
 done:=by intro X Y N C G i m s σ H E I n st M;subst Y N C;obtain⟨xs,y,l⟩:=M;obtain⟨g,Q,p,hz⟩:=I.tuple y;obtain⟨⟨old,j⟩,hit⟩:=st;have hl:=Q.length;refine wpAny_pyNext_enum_endD (AJ (A:=X.A.in1) (I.ok.hd G) it a (i:=i) (xs:=g.toArray) (by simp;lia)) j ⟨hit,p⟩ λB b1=>⟨rfl,?_⟩;exact I.turnedL (t':=s.toks) (ch:=[e,it]) n λb o J q=>b1 b o (λz=>J (by simp[z])) q
 self:=λ_ _ _ _ _ st h=>let ⟨_,j⟩:=st.1;wpAny_pyIter_enum j h
def IS(K:zvd)(ta:TA):TI:=λe H R=>ta e H λd c=>∃a,d=[.ref a]/\(∃xs,SqT K c a xs)/\R (IteT K a) c
theorem DB{l:Expr}{g:TA}{p:Pos}{elts:List Expr}{k:Nat}(Y:Gl X "enumerate")(o:X.mg "enumerate" = none)(m:PA X [l] g)(he:starEach [l] X.env=(false,eval l X.env)::starEach [] X.env:=by rfl)(hpl:(backTo pos (starEach [] X.env)).any (·.1)=false:=by rfl) :
  PI X (.Tuple elts k tp) (.Call (.Name "enumerate" p) [l] [] pos) (IS X.K g):=by
 intro d s C H R I h;refine Call_ (oq I Y o Ar (PyProof.Rows.callWith_type1 (thn (m pos d s C H _ I h) λus c x=>?_) he hpl));obtain⟨vs,j,J,z,y⟩:=x;obtain⟨a,e,⟨xs,r⟩,q⟩:=y;subst e;obtain⟨u,rfl,B⟩:=z.one;cases B;obtain⟨its,rv,v,hz⟩:=J.tuple r;refine Dy v λh1 U hit n=>?_;refine wpAny_pyIter_enum U ?_;have ne:c.heap.objs.size+1≠c.heap.objs.size:=by lia
 refine⟨_,[c.heap.objs.size+1,c.heap.objs.size],_,IteT X.K a,j,rfl,J.kept (t':=c.toks) n,zc a _ _ ne,⟨⟨_,U⟩,hit⟩,λb L=>?_,q⟩;rcases zzk.mp L with rfl|L
 ·exact J.fpOk (zxH _) (J.hok.fresh (zxH _))
 ·have:b=c.heap.objs.size:=by simpa using L
  subst this;exact J.fpOk (zzr _) (J.hok.fresh (zzr _))
end L2
namespace L2
open PySem PySem.Spec PyProof.Rows
def isK(k:Int):Value->Bool
 |.int a _=>a == k|_=>false
structure Cells(scope:Scope)(cl:List (Str×Addr))(N:List Str)(vs:List V)(H:Hp)(h:Heap):Prop where
 inj:∀x y c,cl.lookup x=some c->cl.lookup y=some c->x=y
 has:∀x,(scope.names.lookup x=some .cell∨scope.names.lookup x=some .free)->∃c,cl.lookup x=some c
 cell:∀x c,cl.lookup x=some c->∃v,h.IsCell c v
 free:∀x c,cl.lookup x=some c->H c=none
 len:N.length=vs.length
 val:∀(i:Nat) x v,N[i]? = some x->vs[i]? = some v->∃u c,RelV v u/\scope.names.lookup x=some .free/\cl.lookup x=some c/\h.IsCell c (some u)
section
variable{qual:Str}{scope:Scope}{cl:List (Str×Addr)}
structure LamSc(params:Arguments)(scope:Scope):Prop where
 kind:scope.kind=.function
 co:scope.isCoroutine=false
 gen:scope.isGenerator=false
 noc:∀x∈scope.names,x.2 ≠ .cell
 par:∀name qual body cl pm cdv ct,bindArgs (PySem.W.kla_fn name qual params body scope cl pm cdv ct) ⟨[],[]⟩=pure []
end
class Bm(mg:Str->Option Value)(base:Heap):Prop where
 out:∃bm ob,mg "__builtins__" = some (.ref bm)/\bm≠builtinsNs/\base.get? bm=some ob/\ob.cls=.type "module" /\ ob.dict=some builtinsNs/\ob.data=.plain
abbrev frzO(o:Obj)(a:Addr):HO:=.frz o (.ext λh=>h.get? a=some o)
def KO(H:Hp)(c:Addr)(qual:Str):Prop:=∃a u b t,H c=some (.frz a u)/\a.data=.fields b/\b[1]? = some (.str qual t)
theorem AL{P:Program}{w:World}{K:zvd}{mg G:Str->Option Value}{CX:CXT}{k:Nat}{fa a:Addr}{fd:FuncData}{x:Str}{sp:Sp}{J:Shared}{vs:List Value}{j:List Int}{tabs:List Addr}
  (N:K.In J.heap) (a6:J.heap.Ns mainGlobals mg) (L:J.heap.Ns builtinsNs G) (c1:∀x:Str,x ≠ "__name__" -> G x=bootBuiltins x) (a5:J.heap.NoLimit) (c2:Bm mg J.heap) (hg:J.gens = #[])
  (p:J.heap.get? a=some { cls:=.type "list",data:=.seq vs.toArray }) (hi:IntsAre vs j) (hl:j.length <= sizeLine) (hr:Room k callerA)
  (B:∀P∈tabs,J.heap.get? P=some (PySem.W.tabObj #[])) (hC:∀P∈tabs,∃c,PySem.W.CodeHd J.heap c P) (b9:∀P∈tabs,K.lookup P=none)
  (F:∀base:Heap,K.In base->base.Ns mainGlobals mg->Bm mg base->FnOk P w K mg base CX k fa fd [x] sp) (a3:∀(s:Shared) (u:Value),BindsTo s fd ⟨[u],[]⟩ [(x,u)])
  (c3:∀H:Hp,(∀b,H b=none∨(∃o xs,H b=some (.frz o (.lst xs)))∨H b=some (.tbl #[]))->(∀P∈tabs,H P=some (.tbl #[]))->SqL K H a (j.map V.int)->sp [.ref a] H (λv _=>v=.bl true) λ_ _ _=>False)
  (b8:∀H e s',CX [] H J (λ_ _ _=>False) e s'->False) :
  codeAny (model P w) callerA (.call (.ref fa) ⟨[.ref a],[]⟩) (λr s'=>r=.ok (.ret (.bool true))/\OldK J.heap s'.heap/\s'.os=J.os/\AllBare s'.gens) J:=by
 have rv:=Ad hi;have a7:=hi.length;have aT:a∉tabs:=λz=>by have e:=B a z;rw[p]at e;cases e
 have core:∀H:Hp,(∀b,H b=none∨(∃o xs,H b=some (.frz o (.lst xs)))∨(H b=some (.tbl #[])/\b∈tabs))->(∀P∈tabs,H P=some (.tbl #[]))->SqL K H a (j.map V.int)->HOk P w H J.heap->(∀b,H b≠none->b=a∨b∈tabs)->(H a≠none->K.lookup a=none) ->
   codeAny (model P w) callerA (.call (.ref fa) ⟨[.ref a],[]⟩) (λr s'=>r=.ok (.ret (.bool true))/\OldK J.heap s'.heap/\s'.os=J.os/\AllBare s'.gens) J:=by
  intro H hO c0 hS y hA hK;have U:∀{b:Addr} {o:Obj},J.heap.get? b=some o->H b=none->(hidT J.heap H).get? b=some o:=λe n=>CI e n;have a8:∀{b:Addr} {o:Obj},J.heap.get? b=some o->(∀it n,o.data ≠ .seq it n)->(∀vs,o.data ≠ .fields vs)->H b=none:=λ{b o} e d d2=>by
   cases q:H b with
   |none=>rfl|some u =>
    rcases hA b (by rw[q];simp) with i|i
    ·subst i;rw[p]at e;cases e;exact absurd rfl (d _ _)
    ·rw[B b i]at e;cases e;exact absurd rfl (d2 _)
  have A:∀{b:Addr} {m:Str->Option Value},J.heap.Ns b m->(hidT J.heap H).Ns b m:=λ{b m} ⟨o,es,ep,e,d,r⟩=>⟨o,es,ep,U e (a8 e (λ_ _ z=>by rw[d]at z;cases z) λ_ z=>by rw[d]at z;cases z),d,r⟩;have T:K.In (hidT J.heap H):=λb o e=>U (N b o e) (by
   cases q:H b with
   |none=>rfl|some u =>
    rcases hA b (by rw[q];simp) with i|i
    ·subst i;rw[hK (by rw[q];simp)]at e;cases e
    ·rw[b9 b i]at e;cases e)
  have b7:Bm mg (hidT J.heap H):=by obtain⟨bm,I,b1,b2,b3,b4,b5,C⟩:=c2.out;exact⟨bm,I,b1,b2,U b3 (a8 b3 (λ_ _ z=>by rw[C]at z;cases z) λ_ z=>by rw[C]at z;cases z),b4,b5,C⟩
  have hM:Mod K mg (hidT J.heap H):=⟨T,A a6,⟨G,A L,c1⟩,let ⟨mc,h1,h2⟩:=a5;⟨mc,A h1,h2⟩⟩;have e0:Env0 P w K mg (hidT J.heap H) callerA [] J H:=⟨rfl,hM,λb o e=>FD e,Nat.le_of_eq (zJ _ _),trivial,λb L=>absurd (show b∈([]:List Addr) from L) (by simp),y,.of_eq hg⟩;refine zxb ((F _ T (A a6) b7).run callerA [] J H ⟨[.ref a],[]⟩ [.ref a] [.ref a] _ _ hr e0 (a3 J (.ref a)) (.cons rfl .nil) (c3 H (λb=>(hO b).imp id λz=>z.imp id And.left) c0 hS)) λr s' h=>?_;cases r with
  |error e=>exact(b8 H e s' h).elim|ok fl =>
   cases fl with
   |next=>exact False.elim h
   |brk=>exact False.elim h|cont=>exact False.elim h|ret u =>
    obtain⟨v,H',os,bare,un,Q,r',q⟩:=h;have q':v=.bl true:=q;subst q';obtain rfl:u=Value.bool true:=r';have key:∀b o,J.heap.get? b=some o->s'.heap.get? b=some o∨(b∈tabs/\∃more,s'.heap.get? b=some (PySem.W.tabObj more)):=λb o e=>by
     cases q:H b with
     |none=>exact .inl (un.keep b o e q (by intro z;exact absurd (show b∈([]:List Addr) from z) (by simp)) (by simp))|some u =>
      rcases hO b with z|⟨I,xs,z⟩|⟨z,zt⟩
      ·rw[q]at z;cases z
      ·have M:=un.frzs b I _ z;obtain⟨l,_⟩:=y b _ z;obtain⟨e2,_⟩:=Q b _ M;rw[e]at l;cases l;exact .inl e2
      ·obtain⟨more,M⟩:=un.tbls b _ z;exact .inr ⟨zt,_,Q b _ M⟩
    refine⟨rfl,⟨λb o e=>?_,λb o e=>?_⟩,os,bare⟩
    ·rcases key b o e with z|⟨zt,more,z⟩
     ·exact .inl z
     ·have l:=B b zt;rw[e]at l;cases l;obtain⟨c,hc⟩:=hC b zt;exact .inr (.inl ⟨(hc.tab e).isCodeTable,rfl,#[],more,rfl,by simpa using z⟩)
    ·rcases key b o e with z|⟨_,more,z⟩
     ·exact⟨_,z⟩
     ·exact⟨_,z⟩
 have a9:∀b,b∈tabs->∀H:Hp,ObjOk P w H J.heap b (.tbl #[]):=λb L H=>B b L;cases E:K.lookup a with
 |some o =>
  have e:=N a o E;rw[p]at e;cases e;refine core (λb=>if b∈tabs then some (.tbl #[]) else none) (λb=>?_) (λb L=>zzn L) (.inr ⟨_,vs.toArray,_,E,rfl,rfl,rfl,by rw[zzD,a7];exact hl,by simpa using rv⟩) (λb u z=>?_) (λb z=>?_) λz=>?_
  ·by_cases L:b∈tabs
   ·exact .inr (.inr ⟨zzn L,L⟩)
   ·exact .inl (zzi L)
  ·by_cases L:b∈tabs
   ·have g:=(zzn L).symm.trans z;cases g;exact a9 b L _
   ·have g:=(zzi L).symm.trans z;cases g
  ·by_cases L:b∈tabs
   ·exact .inr L
   ·exact absurd (zzi L) z
  ·exact absurd (zzi aT) z
 |none =>
  have ea:∀b,b∈tabs->b≠a:=λb L e=>aT (e ▸ L);refine core (λb=>if b=a then some (.frz { cls:=.type "list",data:=.seq vs.toArray } (.lst (j.map V.int))) else if b∈tabs then some (.tbl #[]) else none) (λb=>?_) (λb L=>by show (if b=a then _ else _)=_;rw[zzi (ea b L),zzn L]) (.inl (.inr ⟨{ cls:=.type "list",data:=.seq vs.toArray },zzn rfl⟩)) (λb u z=>?_) (λb z=>?_) λ_=>E
  ·show (if b=a then _ else _)=_∨_;by_cases L:b=a
   ·exact .inr (.inl ⟨_,_,zzn L⟩)
   ·by_cases Y:b∈tabs
    ·exact .inr (.inr ⟨by rw[zzi L,zzn Y],Y⟩)
    ·exact .inl (by rw[zzi L,zzi Y])
  ·have g:(if b=a then some (HO.frz { cls:=.type "list",data:=.seq vs.toArray } (.lst (j.map V.int))) else if b∈tabs then some (.tbl #[]) else none)=some u:=z;by_cases L:b=a
   ·rw[zzn L]at g;cases g;subst L;exact⟨p,by rw[zza];exact hl,vs,_,rv,p⟩
   ·rw[zzi L]at g;by_cases Y:b∈tabs
    ·rw[zzn Y]at g;cases g;exact a9 b Y _
    ·rw[zzi Y]at g;cases g
  ·by_cases L:b=a
   ·exact .inl L
   ·by_cases Y:b∈tabs
    ·exact .inr Y
    ·exact absurd (show (if b=a then _ else if b∈tabs then _ else _)=_ by rw[zzi L,zzi Y]) z
section
variable{X:Cx}
def AM:V->List V->Hp->VK->Prop:=λx b H Q=>∃l a k y,x=.ref l/\b=[.int k,y]/\H l=some (.lst a)/\0 <= k/\k <= (a.length:Int)/\a.length<1000000/\a.length<sizeLine/\Q .non (upd H l (.lst (a.take k.toNat++y::a.drop k.toNat)))
theorem AN:MtM X "list.insert" AM:=by
 intro pins s σ H x vs v p Q I o m h;obtain⟨l,xs,k,y,rfl,rfl,U,k0,k1,l6,lz,q⟩:=h;cases o;obtain⟨L,J,rfl,i,j⟩:∃L J,p=[L,J]/\RelV (.int k) L/\RelV y J:=by
  cases m with
  |cons a b=>cases b with
   |cons b c=>cases c;exact⟨_,_,rfl,a,b⟩
 obtain⟨t,rfl⟩:=i;obtain⟨z,d,n,r,g,e⟩:=I.lstM U;have Y:Builtin.List.listFitsIndex k=true:=by unfold Builtin.List.listFitsIndex;rw[zzX,zyb,zyb];lia
 refine zxN F.slot_list_insert ⟨_,e,rfl⟩ F.entry_list_insert (F.args_list_insert_3 _ _ _) (PySem.AutoSeq1.list_insert_list_int_val_1 l d.toArray n k t J (by simp[Y]) (by rw[zzD,←g];exact z)) ⟨e,?_⟩;refine⟨.non,_,I.lset (its':=d.take k.toNat++J::d.drop k.toNat) U e ?_ ((r.take _).append (.cons j (r.drop _))) ?_,rfl,q⟩
 ·show (d.toArray.extract 0 (if k<0 then(k+(d.toArray.size:Int)).toNat else min k.toNat d.toArray.size)).push J++d.toArray.extract (if k<0 then(k+(d.toArray.size:Int)).toNat else min k.toNat d.toArray.size)=_;rw[zzi (by lia),zzD,zxR (by lia)];apply Array.toList_inj.mp;simp;rw[zxr];rw[zyO];exact zzr _
 ·rw[zzd,zzm,zyl,zyO];lia
end
end L2
namespace TS
open PySem PyProof.Rows
variable{T o ra rb:List Keyed}
section
variable{r:Keyed->Nat}
abbrev Up(r:Keyed->Nat)(l:List Keyed):Prop:=l.Pairwise λx y=>r x <= r y
def Gd(r:Keyed->Nat)(T l:List Keyed):Prop:=l.Perm T/\Up r l
structure Mh(r:Keyed->Nat)(T ra rb o:List Keyed):Prop where
 pm:((ra++rb)++o).Perm T
 sa:Up r ra
 sb:Up r rb
 so:Up r o
 le:∀x∈ra++rb,∀y∈o,r x <= r y
theorem Mh.stepB{c:List Keyed}(m:Mh r T ra (rb++c) o)(h:∀x∈ra,∀y∈c,r x <= r y):Mh r T ra rb (c++o):=by
 have a:=zyU.mp m.sb;refine⟨by simpa[zzO]using m.pm,m.sa,a.1,zyU.mpr ⟨a.2.1,m.so,λx J y L=>m.le x (by simp[J]) y L⟩,λx J y L=>?_⟩;rcases zzo.mp L with L|L
 ·rcases zzo.mp J with J|J
  ·exact h x J y L
  ·exact a.2.2 x J y L
 ·exact m.le x (by simp at J ⊢;rcases J with J|J<;>simp[J]) y L
theorem Mh.stepA{c:List Keyed}(m:Mh r T (ra++c) rb o)(h:∀x∈rb,∀y∈c,r x <= r y):Mh r T ra rb (c++o):=by
 have a:=zyU.mp m.sa;refine⟨List.Perm.trans ?_ m.pm,a.1,m.sb,zyU.mpr ⟨a.2.1,m.so,λx J y L=>m.le x (by simp[J]) y L⟩,λx J y L=>?_⟩
 ·rw[←zzO];refine List.Perm.append_right _ ?_;rw[zzO,zzO];exact List.Perm.append_left _ List.perm_append_comm
 rcases zzo.mp L with L|L
 ·rcases zzo.mp J with J|J
  ·exact a.2.2 x J y L
  ·exact h x J y L
 ·exact m.le x (by simp at J ⊢;rcases J with J|J<;>simp[J]) y L
theorem Mh.doneB(m:Mh r T [] rb o):Gd r T (rb++o):=by
 have:=Mh.stepB (c:=rb) (rb:=[]) (by simpa using m) λx J=>by simp at J
 exact⟨by simpa using this.pm,this.so⟩
theorem Mh.first{x:Keyed}(m:Mh r T ra [x] o)(h:∀y∈ra,r x <= r y):Gd r T ([x]++ra++o):=by
 have:=Mh.stepA (c:=ra) (ra:=[]) (by simpa using m) λy J z a=>by simp at J;subst J;exact h z a
 have:=this.doneB;rwa [←zzO]at this
noncomputable abbrev ap(st:SortSt)(arr:Array Keyed)(p:Array (Nat×Nat×Nat))(g:Nat):SortSt:=SortSt.mk' (kindOf st) arr p g (failedOf st)
noncomputable def rk(r:Keyed->Nat)(arr:Array Keyed)(i:Nat):Nat:=(arr[i]?.map r).getD 0
def PB(r:Keyed->Nat):List (Nat×Nat×Nat)->List (List Keyed)->Nat->Prop
 |[],bs,_=>bs=[]|p::a,bs,off=>∃b J,bs=b::J/\p.1=off/\p.2.1=b.length/\0<b.length/\Up r b/\PB r a J (off+b.length)
theorem PB.len:∀{ps bs off},PB r ps bs off->ps.length=bs.length
 |[],bs,off,h=>by have h:bs=[]:=h;subst h;rfl
 |p::ps,bs,off,h=>by obtain⟨b,bs',rfl,_,_,_,_,h⟩:=h;simp[PB.len h]
end
end TS
namespace L2
open PySem PySem.Spec PyProof.Rows PySem.W
variable{k1 k2:List Key}{v v1:Value}
theorem DC{prog:Program}{w:World}:∀{k:List Key} {xs:List Value},Paired isI k xs->ItemsAre (bK prog w) k xs:=by
 intro k xs h
 induction h with
 |nil=>exact .nil|cons h r J =>
  obtain⟨i,t,rfl,rfl⟩:=h;exact .cons (om prog w i t) J
theorem TupI.key{prog:Program}{w:World}{h:Heap}{k:List Key}(t:TupI h k v):∃a,v=.ref a/\IsTupleKey (bK prog w) h k a:=by obtain⟨a,o,b,n,rfl,e,c,d,p⟩:=t;exact⟨a,rfl,o,b,n,e,c,d,DC p⟩
section
variable{prog:Program}{w:World}{A:Around}{E:Value->Shared->Prop}{s:Shared}{Q:Bool->Shared->Prop}
theorem GB(J:A.units<cLine)(b:TupI s.heap k1 v1)(d:TupI s.heap k2 v)(q:Q (decide (k1=k2)) s):wpAny (model prog w) A (eqBool v1 v) Q E s:=by obtain⟨a,rfl,L⟩:=b.key (prog:=prog) (w:=w);obtain⟨c,rfl,U⟩:=d.key (prog:=prog) (w:=w);exact wpAny_eqBool_tuple J L U q
end
end L2
namespace SS
open PySem PySem.SetTable PyProof.Rows L2
set_option maxRecDepth 100000
end SS
namespace SS
open PySem PySem.SetTable PyProof.Rows L2 PySem.W
set_option maxRecDepth 100000
end SS
namespace L2
open PySem PySem.Spec PyProof.Rows
variable{N ps:List Str}{a b:Prop}{cdv ct oc pm:Value}{l tg:Expr}{p p1 p2:Str}
structure FA(K:zvd)(x:Str)(st:Stmt)(f:Addr)(fd:FuncData):Prop where
 a:PySem.W.nsIn K mainGlobals x=some (some (.ref f))
 F:Fun K x x st f fd
section
variable{K:zvd}{x:Str}{st:Stmt}{f:Addr}{fd:FuncData}{mg:Str->Option Value}{h:Heap}
theorem fa_mk{kV doc:Value}{od e:Option Addr}{d:Array (Option Value)}(a:PySem.W.nsIn K mainGlobals x=some (some (.ref f)))(l:K.lookup f=some ⟨oc,od,.func (PySem.W.fnOf x x (fk st) (bv st) (ag st) .none kV doc pm e cdv ct),d⟩)(c:PySem.W.codeIn K cdv x=true)(k:PySem.W.keepIn K (.ref f)=true):FA K x st f (PySem.W.fnOf x x (fk st) (bv st) (ag st) .none kV doc pm e cdv ct):=⟨a,oI l c k⟩
abbrev BA(x:Str)(st:Stmt)(ps:List Str)(us:List Value):Prop:=∀(kV doc pm:Value) (c:Option Addr) (cdv ct:Value),bindArgs (PySem.W.fnOf x x (fk st) (bv st) (ag st) .none kV doc pm c cdv ct) ⟨us,[]⟩=pure (ps.zip us)
theorem FA.df(A:FA K x st f fd)(X:K.In h)(G:h.Ns mainGlobals mg)(b:∀us,us.length=ps.length->BA x st ps us):Df K mg x st ps f fd:=⟨A.F,zzW X G A.a,A.F.binds λa J c d e g us i=>b us i a J c d e g⟩
theorem FA.d1(A:FA K x st f fd)(X:K.In h)(G:h.Ns mainGlobals mg)(b:∀u,BA x st [p] [u]):Df K mg x st [p] f fd:=A.df X G λd c=>by rcases d with _|⟨u,_|_⟩<;>first|exact b _|cases c
theorem FA.d2(A:FA K x st f fd)(X:K.In h)(G:h.Ns mainGlobals mg)(b:∀u v,BA x st [p,p1] [u,v]):Df K mg x st [p,p1] f fd:=A.df X G λd c=>by rcases d with _|⟨u,_|⟨v,_|_⟩⟩<;>first|exact b _ _|cases c
theorem FA.d3(A:FA K x st f fd)(X:K.In h)(G:h.Ns mainGlobals mg)(b:∀u v w,BA x st [p,p1,p2] [u,v,w]):Df K mg x st [p,p1,p2] f fd:=A.df X G λd c=>by rcases d with _|⟨u,_|⟨v,_|⟨w,_|_⟩⟩⟩<;>first|exact b _ _ _|cases c
end
theorem bu{P:List Str}{sc:Scope}(a:sc.kind=.function:=by rfl)(b:sc.isCoroutine=false:=by rfl)(c:sc.isGenerator=false:=by rfl)(d:N.Nodup:=by decide +kernel)(e:N.take P.length=P:=by rfl)(g:∀x∈P,sc.names.lookup x=some .local∨sc.names.lookup x=some .cell:=by decide +kernel)(i:∀y∈sc.names,y.2 ≠ .free:=by decide +kernel):FnScope N P sc:=⟨a,b,c,d,e,g,i⟩
theorem oo(h:a∨b:=by first|exact Or.inl rfl|exact Or.inr rfl):a∨b:=h
theorem dk{p:Prop}(h:p:=by decide +kernel):p:=h
section
variable{X:Cx}
theorem AO:OpR X (compareOp .LtE) (λx y H Q=>∃i j,x=.str i/\y=.str j/\Q (.bl (!decide (j.cps.toList<i.cps.toList))) H):=by intro pins s σ H x y v u Q I J L h;obtain⟨i,j,rfl,rfl,q⟩:=h;obtain⟨t,rfl⟩:=J;obtain⟨t',rfl⟩:=L;exact PySem.P.le_str (bO I q rfl)
theorem uR:∀(l:List (Str×Tok)),Vals (l.map λp=>V.str p.1) (strValues l)
 |[]=>.nil|p::r=>.cons ⟨p.2,rfl⟩ (uR r)
def IT:V->List V->Hp->VK->Prop:=λx c H Q=>∃z y,x=.str z/\c=[.str y]/\(y.length == 0)=false/\z.length+2 <= sizeLine/\∀l,H l=none->Q (.ref l) (upd H l (.lst ((Txt.split z y).map V.str)))
theorem AQ(x y:Str)(hz:x.length+2 <= sizeLine):(Txt.split x y).length <= sizeLine:=by
 have e1:=StrLaws.occ_length_le x y 0 x.length (x.length+1);unfold Txt.split;split
 ·simp;lia
 ·split
  ·simp;lia
  ·rw[length_partsBetween];lia
theorem DD:MtR X "str.split" IT:=by
 intro d s m H x vs v us Q I j Y h;obtain⟨z,y,rfl,rfl,L,i,q⟩:=h;obtain⟨t,rfl⟩:=j;obtain⟨u,rfl,t',rfl⟩:=Y.one;have fin:∀(l:List (Str×Tok)) (k:Nat),l.map (·.1)=Txt.split z y->EP X d m Q (.ref s.heap.objs.size) { s with heap:=s.heap.push { cls:=.type "list",data:=.seq (strValues l).toArray },toks:=k }:=λl k e=>by
  have U:l.map (λp=>V.str p.1)=(Txt.split z y).map V.str:=by rw[←e,zzB];rfl
  refine⟨.ref _,_,I.lnew (t':=k) (U ▸ uR l) ?_,rfl,q _ I.fresh⟩;rw[zza];exact AQ z y i
 have g:(Builtin.Str.partsBetween z (Builtin.Str.occurrences z y 0 z.length (z.length+1)) y.length).length <= sizeLine:=by have e1:=StrLaws.occ_length_le z y 0 z.length (z.length+1);rw[length_partsBetween];lia
 cases c:(decide (z.length<y.length) || decide (Builtin.Str.strKind z<Builtin.Str.strKind y))
 ·cases J:(Builtin.Str.occurrences z y 0 z.length (z.length+1)).isEmpty
  ·refine zxN F.slot_str_split (zwJ _ _ _) F.entry_str_split (F.args_str_split_2 _ _) (meets_str_split_sep z y t t' c L J (by lia) g) ?_;show wants _ _ _ { s with toks:=_,heap:=s.heap.push { cls:=.type "list",data:=.seq (strsFrom s.toks (Builtin.Str.partsBetween z (Builtin.Str.occurrences z y 0 z.length (z.length+1)) y.length)).toArray } };rw[strsFrom_eq];exact fin (numbered s.toks _) _ ((numbered_texts _ _).trans ((zzi (zwS c)).trans (zzi (zwS J))).symm)
  ·exact zxN F.slot_str_split (zwJ _ _ _) F.entry_str_split (F.args_str_split_2 _ _) (meets_str_split_not_found z y t t' c L J)
    (fin [(z,t)] s.toks ((zzi (zwS c)).trans (zzn J)).symm)
 ·exact zxN F.slot_str_split (zwJ _ _ _) F.entry_str_split (F.args_str_split_2 _ _) (meets_str_split_cannot_occur z y t t' c)
   (fin [(z,t)] s.toks (zzn c).symm)
def KQ(K:zvd):V->List V->Hp->VK->Prop:=λx d H Q=>∃z p c,x=.str z/\d=[.ref p]/\SqL K H p (c.map V.str)/\JoinOk z c=true/\Q (.str (Txt.join z c)) H
theorem uS:∀{ws:List Str} {us:List Value},Vals (ws.map V.str) us->∃l:List (Str×Tok),us=strValues l/\l.map (·.1)=ws
 |[],_,h=>by cases h;exact⟨[],rfl,rfl⟩
 |w::ws,_,.cons ⟨t,e⟩ r=>by obtain⟨l,c,d⟩:=uS r;exact⟨(w,t)::l,by rw[e,c];rfl,by rw[zzh,d]⟩
theorem GC:MtR X "str.join" (KQ X.K):=by intro pins s σ H x vs v us Q I U L h;obtain⟨z,p,ws,rfl,rfl,d,c,q⟩:=h;obtain⟨t,rfl⟩:=U;obtain⟨u,rfl,J⟩:=L.one;cases J;obtain⟨its,r,g,_⟩:=I.list d;obtain⟨l,rfl,e⟩:=uS r;exact SC.join g.isList e c λt' k=>⟨.str _,H,I.tok _,⟨_,rfl⟩,q⟩
theorem uT:fV X (.type "int") (λxs H Q=>∃z n,xs=[.str z]/\intText? z=some n/\z.length <= 640/\Q (.int n) H):=by intro pins s σ H xs us Q I r h;obtain⟨z,n,rfl,c,d,q⟩:=h;obtain⟨u,rfl,t,rfl⟩:=nF r;exact PySem.W.KIN.call_text c d ⟨.int _,H,I.tok _,⟨_,rfl⟩,q⟩
def rSlS:V->Option Int->Option Int->Hp->VK->Prop:=λx lo c H Q=>∃z,x=.str z/\z.length <= sizeLine/\Q (.str (Txt.slice z lo c)) H
theorem xJ{v:Value}{o:Option Int}(h:IsPart v o):∃l:Option (Int×Tok),v=partValue l/\l.map (·.1)=o:=by
 cases h with
 |none=>exact⟨none,rfl,rfl⟩|int i t=>exact⟨some (i,t),rfl,rfl⟩
theorem IU:SlR X rSlS:=by intro pins s σ H x v vl vu lo hi sl Q I L c e J h;obtain⟨z,rfl,d,q⟩:=h;obtain⟨t,rfl⟩:=L;obtain⟨l,rfl,rfl⟩:=xJ e;obtain⟨u,rfl,rfl⟩:=xJ J;refine⟨"str",_,F.slot_str_getitem.lookup,zwJ _ _ _,wpAny_getItem_str_slice (l:=l) (u:=u) (st:=none) c rfl ?_⟩;exact post_val_or_str ⟨zzq (Txt.slice_le z _ _) d,λt' k=>⟨.str _,H,I.tok _,⟨_,rfl⟩,q⟩⟩
def Its(z:Str):It:=⟨λi _=>i<z.cps.size,λi H x d=>d=H/\∃c,z.cps[i]? = some c/\x=.str ⟨#[c]⟩,λi _=>z.cps.size <= i⟩
theorem xK{P:Program}{w:World}{K:zvd}{it:Addr}{z:Str}{t:Tok}{n:String}(C:n = "str_ascii_iterator" ∨ n = "str_iterator"):Turn P w K tg (Its z) [it] it (λi h=>h.IsStrIter it n z t i) where
 mem:=by simp
 obj:=λi h st b L=>by
  have e:b=it:=by simpa using L
  subst e;obtain⟨o,e,c,d⟩:=st;exact⟨o,e,λv z=>by rw[d]at z;cases z⟩
 keep:=λi h j st k=>let ⟨o,e,r⟩:=st;⟨o,k it (by simp) o e,r⟩
 item:=by
  intro X T l Q a i g s p H E I B st J;subst T l Q;have J:i<z.cps.size:=J;obtain⟨m,f1,f2,Y,q,y⟩:=B it (by simp);have fin:∀j:Heap,j.IsStrIter it n z t (i+1)->Heap.SameBut it s.heap j->∃u,some (Value.str ⟨#[z.cps[i]]⟩ s.toks)=some u/\wpAny (model X.prog X.w) X.A (letOwnedTupleGo tg (.ref it) u) (λ_ N=>∃x G,Inv X g p G N/\RelV x u/\(Its z).yld i H x G/\N.heap.IsStrIter it n z t (i+1)/\∀b∈[it],G b=none) E { s with heap:=j,toks:=s.toks+1 }:=λj U sb=>by have I1:Inv X g p H { s with heap:=j,toks:=s.toks+1 }:=I.turned (t':=s.toks+1) (λb o L e=>(sb.2 b L).trans e) m f1 Y q y;obtain⟨oo,e,c,dd⟩:=id U;exact⟨_,rfl,CL (s:={ s with heap:=j,toks:=s.toks+1 }) e c dd (by rcases C with rfl|rfl<;>decide) ⟨.str ⟨#[z.cps[i]]⟩,H,I1,⟨_,rfl⟩,⟨rfl,_,zxF J,rfl⟩,U,λb L=>(B b L).1⟩⟩
  rcases C with rfl|rfl
  ·exact wpAny_pyNext_ascii_item st (c:=z.cps[i]) (by simp[J]) fin
  ·exact wpAny_pyNext_wide_item st (c:=z.cps[i]) (by simp[J]) fin
 done:=by
  intro X T l Q a i g s p H E I B st J;subst T l Q;have J:z.cps.size <= i:=J;obtain⟨m,f1,f2,Y,q,y⟩:=B it (by simp);rcases C with rfl|rfl
  ·exact wpAny_pyNext_ascii_end (I.ok.hd a) st (by simp[J]) λj M=>⟨rfl,I.turned (t':=s.toks) (λb o L e=>M b o L e) m f1 Y q y⟩
  ·exact wpAny_pyNext_wide_end (I.ok.hd a) st (by simp[J]) λj M=>⟨rfl,I.turned (t':=s.toks) (λb o L e=>M b o L e) m f1 Y q y⟩
 self:=λ_ _ _ _ _ st h=>by
  rcases C with rfl|rfl
  ·exact wpAny_pyIter_striter_ascii st h
  ·exact wpAny_pyIter_striter_wide st h
def iStr(tl:TE):TI:=λd H R=>tl d H λx c=>∃z,x=.str z/\R (Its z) c
theorem IV{m:TE}(n:PE X l m):PI X tg l (iStr m):=by
 intro c s u H R I h;refine thn (n c s u H _ I h) λv d U=>?_;obtain⟨x,g,J,r,Y⟩:=U;obtain⟨z,rfl,q⟩:=Y;obtain⟨t,rfl⟩:=r;have i:∀b∈[d.heap.objs.size],FpOk X c g b:=λb L=>by
  have e:b=d.heap.objs.size:=by simpa using L
  subst e;exact J.fpOk (zzr _) (J.hok.fresh (zzr _))
 cases j:z.cps.all (· < 128)
 ·exact wpAny_pyIter_wide j ⟨d.heap.objs.size,[d.heap.objs.size],_,_,g,rfl,J.kept (t':=d.toks) λb o e=>zzf _ e,xK (.inr rfl),⟨_,zzy _ rfl,rfl,rfl⟩,i,q⟩
 ·exact wpAny_pyIter_ascii j ⟨d.heap.objs.size,[d.heap.objs.size],_,_,g,rfl,J.kept (t':=d.toks) λb o e=>zzf _ e,xK (.inl rfl),⟨_,zzy _ rfl,rfl,rfl⟩,i,q⟩
end
noncomputable def addS(a:List Str)(x:Str):List Str:=if x∈a then a else a++[x]
def metS(xs:List Str):List Str:=xs.foldl addS []
theorem oW(xs:List Str)(x:Str):metS (xs++[x])=addS (metS xs) x:=by unfold metS;rw[List.foldl_append];rfl
theorem DF(a:List Str)(x k:Str):k∈addS a x↔k∈a∨k=x:=by
 unfold addS;split
 ·exact⟨.inl,λh=>h.elim id λe=>by subst e;assumption⟩
 ·simp
theorem oX(a:List Str)(x:Str):(addS a x).length=if x∈a then a.length else a.length+1:=by unfold addS;split<;>simp
theorem fu(xs:List Str):(metS xs).length <= xs.length:=by
 have key:∀(c:List Str) (a:List Str),(c.foldl addS a).length <= a.length+c.length:=λc=>by
  induction c with
  |nil=>intro a;simp|cons y c J =>
   intro a;have:=J (addS a y);have e:=oX a y;rw[zwq,zzm];split at e<;>lia
 have:=key xs [];simpa[metS]using this
section
variable{prog:Program}{w:World}{A:Around}{R:Result->Shared->Prop}{I:Addr}{fp wr:List Addr}{G:Array GenState->Array GenState->Prop}{P:Nat->Value->Prop}{St:Nat->Shared->Prop}
theorem set_loopT{xs:List Str}(W:WalksS prog w A.in1 I fp wr G xs.length P St)(S:Addr)(r:S∉fp)
  (M:∀i v,P i v->∃x t,xs[i]? = some x/\v=.str x t) (Y:xs.length+1<scanBound) :
  ∀(k i:Nat) (s:Shared),xs.length - i=k->i <= xs.length->St i s ->
   s.heap.SetOf (PySem.strKind prog w) S (λc=>decide (c∈metS (xs.take i))) (metS (xs.take i)).length ->
   (∀s',Moved (S::wr) G s s'->s'.heap.SetOf (PySem.strKind prog w) S (λc=>decide (c∈metS xs)) (metS xs).length->R (.ok (.ret .none)) s') ->
   codeAny (model prog w) A (.builtin "set.update.loop" ⟨[.ref S,.ref I],[]⟩) R s:=by
 have u:S∉wr:=λh=>r (W.sub _ h);have J:∀b∈wr,b∈S::wr:=λb Y=>zzc _ Y;intro k
 induction k with
 |zero =>
  intro i s hk hi U g n;have l:i=xs.length:=by lia
  subst l;rw[zwG]at g;refine zxP PyProof.Rows.F.entry_set_update_loop ?_;rw[Around.under_plainId PyProof.Rows.F.plain_set_update_loop _];show wpAny _ A.in1 (pyNext (.ref I) >>= _) _ _ s;refine zzb (W.done s _ _ U λs' d=>?_);show wpAny _ A.in1 (ret Value.none) _ _ s';exact zzp (n s' (d.mono J) (by obtain⟨o,m,j,t,q,rest⟩:=g;exact⟨o,m,j,t,d.heap S _ u q,rest⟩))
 |succ k ih =>
  intro i s hk hi U g n;have y:i<xs.length:=by lia
  refine zxP PyProof.Rows.F.entry_set_update_loop ?_;rw[Around.under_plainId PyProof.Rows.F.plain_set_update_loop _];show wpAny _ A.in1 (pyNext (.ref I) >>= _) _ _ s;refine zzb (W.item i s _ _ y U λv s' hP H d=>?_);obtain⟨x,t,hx,rfl⟩:=M i v hP;have Q:s'.heap.SetOf (PySem.strKind prog w) S (λc=>decide (c∈metS (xs.take i))) (metS (xs.take i)).length:=by obtain⟨o,m,j,tb,q,rest⟩:=g;exact⟨o,m,j,tb,d.heap S _ u q,rest⟩
  have B:xs.take (i+1)=xs.take i++[x]:=by rw[List.take_add_one,hx];rfl
  show wpAny _ A.in1 (holding [Value.str x t] (setAdd S (.str x t)) >>= _) _ _ s';refine zzb (zyz ?_);unfold setAdd;refine zyz ?_;refine zzb ((PySem.strKind prog w).pyHash (k:=x) (strKind_is _ _ _ _) ?_);have L:(metS (xs.take i)).length+1<scanBound:=by have:=fu (xs.take i);rw[zyl]at this;lia
  refine wpAny_setAddHashed_of (knd:=PySem.strKind prog w) (s:={ s' with toks:=s'.toks+1 }) (strKind_is _ _ _ _) rfl Q L λN z T=>?_;have a:N.SetOf (PySem.strKind prog w) S (λc=>decide (c∈metS (xs.take (i+1)))) (metS (xs.take (i+1))).length :=
   SetOf_congr T (λc=>by rw[B,oW];simp[DF]) (by rw[B,oW,oX];simp)
  refine zzp ⟨plainId_quiet PyProof.Rows.F.plain_set_update_loop _,ih (i+1) _ (by lia) y (W.frame _ s' _ _ H (zxH _) λb Y o e=>?_) a λp E C=>?_⟩
  ·rw[z.2 b (λh:b=S=>r (by rw[←h];exact Y))];exact e
  ·refine n p (Moved.trans W.gtrans ((d.mono J).then_heap (zxH _) λb o Y e=>?_) E) C;rw[z.2 b (λh:b=S=>Y (by rw[h];exact zzg))];exact e
end
end L2
namespace PySem
section
variable{prog:Program}{w:World}{A:Around}{E:Value->Shared->Prop}{s:Shared}
set_option maxRecDepth 100000 in
set_option maxHeartbeats 3200000 in
theorem sK{b:Addr}{its:Array Value}{ks:List Str}{R:Value->Shared->Prop}(g:A.handled=none)(tp:s.heap.IsList b its)(G:∀(i:Nat) (v:Value),its[i]? = some v->∃x t,ks[i]? = some x/\v=.str x t)(C:its.size=ks.length)(j:ks.length+1<scanBound)
  (q:∀(a:Heap) (tk:Nat),a.SetOf (PySem.strKind prog w) s.heap.objs.size (λk=>decide (k∈L2.metS ks)) (L2.metS ks).length ->
   (∀c o,c<s.heap.objs.size->s.heap.get? c=some o->a.get? c=some o)->R (.ref s.heap.objs.size) { s with heap:=a,toks:=tk }):wpAny (model prog w) A (call (.type "set") [.ref b]) R E s:=by
 obtain⟨c,tl,hmro⟩:=F.called_set.mro;have hmade:=F.called_set.made;have hsub:=F.called_set.sub;refine zwv (codeAny_of_tree ?_);show wpAny _ _ (callAny (.type "set") _) _ _ _;refine zzp ⟨Code.quiet_builtin _ (by decide +kernel),zxP F.entry_type_call ?_⟩;rw[Around.under_plain (weight_type_call_type "set" [.ref b] []) rfl];have n1:=F.called_set.notType;have n2:=F.called_set.canCreate;have n3:=F.typeCall_set_1 (.ref b)
 repeat (any_goals (first|assumption|wp_step))
 refine zxb (code_set_new_1 (.ref b) (E:=E) (Q₁:=λobj z=>∃J:Bool,obj=.ref s.heap.objs.size/\z={ s with heap:=s.heap.push { cls:=.type "set",dict:=none,data:=.set #[] 0 (.fresh 0 0 J) } }) λJ=>⟨J,rfl,rfl⟩) λr z m=>?_;cases r with
 |error e=>exact m|ok fl =>
  cases fl with
  |ret obj =>
   obtain⟨J,rfl,rfl⟩:=m;have g1:(s.heap.push { cls:=.type "set",dict:=none,data:=.set #[] 0 (.fresh 0 0 J) }).get? s.heap.objs.size=some { cls:=.type "set",dict:=none,data:=.set #[] 0 (.fresh 0 0 J) }:=zzy _ rfl;have ty:Shared.TypeIs { s with heap:=s.heap.push { cls:=.type "set",dict:=none,data:=.set #[] 0 (.fresh 0 0 J) } } (.ref s.heap.objs.size) "set":=⟨_,g1,rfl⟩;have i1:=F.called_set.init.lookup;have i2:=F.called_set.init.bind (.ref s.heap.objs.size)
   repeat (any_goals (first|assumption|wp_step))
   refine zxb (zxE (R:=wants (λr z=>r=.none/\∃a tk,z={ s with heap:=a,toks:=tk } /\
     a.SetOf (PySem.strKind prog w) s.heap.objs.size (λk=>decide (k∈L2.metS ks)) (L2.metS ks).length /\
     (∀c o,c<s.heap.objs.size->s.heap.get? c=some o->a.get? c=some o)) E) F.called_set.init.plain F.entry_set_init (check_set_init_1 ty ?_)) λr2 z2 U=>?_
   ·have Y:(s.heap.push { cls:=.type "set",dict:=none,data:=.set #[] 0 (.fresh 0 0 J) }).IsList b its:=by
     obtain⟨o,e,x⟩:=tp;exact⟨o,zzf _ e,x⟩
    have d:b<s.heap.objs.size:=by obtain⟨o,e,x⟩:=tp;exact zzz e
    obtain⟨o,e,u,n,y⟩:=id Y;obtain⟨ocls,odict,odata,oslots⟩:=o;simp only at u y;subst u;subst y;have t1:=F.sub_list_set;have t2:=F.sub_list_frozenset;have t3:(Value.type "list" == Value.type "dict")=false:=by decide
    unfold Builtin.«set.__init__» noKeywords Builtin.Frozenset.updateFrom;generalize I:pyIter=PI
    wp_walk
    subst I;refine zxB Y ?_;refine zzb (wpAny_runValue ?_);have L:A.in1.in1.in1.handled=none:=by simp[g]
    have ne:b≠(s.heap.push { cls:=.type "set",dict:=none,data:=.set #[] 0 (.fresh 0 0 J) }).objs.size:=by rw[zyj];exact zzL (Nat.lt_succ_of_lt d)
    have off:s.heap.objs.size∉[(s.heap.push { cls:=.type "set",dict:=none,data:=.set #[] 0 (.fresh 0 0 J) }).objs.size,b]:=by rw[zyj];simp only[zzk,zzw,zyx,zxJ,not_or];exact⟨zzL (zwE _),zwr d⟩
    have W:=(Walks.list (prog:=prog) (w:=w) L _ b ne its).toS;rw[C]at W;refine L2.set_loopT (xs:=ks) W s.heap.objs.size off G j (ks.length - 0) 0 _ (by lia) (zya _) ⟨⟨_,zzy _ rfl,rfl,rfl⟩,?_⟩ ?s0 ?r0
    ·obtain⟨o,e,x⟩:=Y;exact⟨o,zzf _ e,x⟩
    case s0 =>
     have B:((s.heap.push { cls:=.type "set",dict:=none,data:=.set #[] 0 (.fresh 0 0 J) }).push { cls:=.type "list_iterator",data:=.fields #[.ref b,.int 0 0] }).get? s.heap.objs.size
       = some { cls:=.type "set",dict:=none,data:=.set #[] 0 (.fresh 0 0 J) }:=zzf _ g1
     exact PyProof.Rows.SetOf_congr ((PyProof.Rows.setObjOf_fresh (knd:=PySem.strKind prog w) J).setOf B (by unfold scanBound;lia)) (λ_=>rfl) rfl
    case r0 =>
     intro z h l;obtain⟨a,g',T,Q,N⟩:=z;have eg:g'=s.gens:=h.gens;have ed:T=s.drawn:=h.drawn;have eo:N=s.os:=h.os;subst eg;subst ed;subst eo;show wpAny _ _ _ _ _ _;refine zzp ?_;show wpAny _ _ (ret Value.none) _ _ _;refine zzp ⟨rfl,a,Q,rfl,l,λc o p e=>?_⟩;have M:c≠(s.heap.push { cls:=.type "set",dict:=none,data:=.set #[] 0 (.fresh 0 0 J) }).objs.size:=by rw[zyj];exact zzL (Nat.lt_succ_of_lt p)
     exact h.heap c o (by simp only[zzk,zzw,zyx,zxJ,not_or];exact⟨zzL p,M⟩) (zzf _ (zzf _ e))
   ·cases r2 with
    |error e=>exact U|ok H =>
     cases H with
     |ret r =>
      obtain⟨rfl,a,tk,rfl,l,hk⟩:=U
      repeat (any_goals (first|assumption|wp_step))
      exact q _ _ l hk
     |_=>exact U.elim
  |_=>exact m.elim
end
end PySem
namespace L2
open PySem PySem.Spec PyProof.Rows
variable{b l:Addr}
variable{X:Cx}{A:Around}
def SetN(a:Addr)(n:Nat):HO:=.ext λh=>∃o c d t,h.get? a=some o/\o.ExactSet/\o.data=.set c d t/\t.fits c.size=true/\c.size=n/\n<scanBound
theorem AR(w:X.calm=true):fV X (.type "set") (λxs H Q=>∃p ws,xs=[.ref p]/\SqL X.K H p (ws.map V.str)/\ws.length <= 1000/\∀l,H l=none->Q (.ref l) (upd H l (SetN l (metS ws).length))):=by
 intro pins s σ H xs us Q I r h;obtain⟨p,ws,rfl,e,hl,q⟩:=h;obtain⟨u,rfl,j⟩:=nF r;cases j;obtain⟨its,U,z,_⟩:=I.list e;have J:its.length=ws.length:=by have:=U.length;simpa using this.symm
 have hf:=fu ws;refine sK (its:=its.toArray) (ks:=ws) (I.ok.hd w) z.isList (λi v L=>?_) (by rw[zzD,J]) (by unfold scanBound;lia) λh' tk n y=>?_
 ·have d:i<ws.length:=by
   rw[←J];have:=zzx.mp (show its[i]? = some v by simpa using L);exact this.1
  obtain⟨v',g,t,rfl⟩:=U.get (i:=i) (x:=.str ws[i]) (by rw[zzu,zzt d];rfl);rw[show its.toArray[i]? = its[i]? by simp,g]at L;cases L;exact⟨_,_,zzt d,rfl⟩
 ·obtain⟨o,c,a,t,g1,g2,g3,_,_,g4,Y,m⟩:=n;refine⟨.ref s.heap.objs.size,_,I.laid (o:=SetN s.heap.objs.size (metS ws).length) (λb o e=>y b o (zzz e) e) (zzr _) ⟨⟨o,c,a,t,g1,g2,g3,Y,m,by unfold scanBound;lia⟩,⟨o,g1⟩,λh1 h2 q k=>by obtain⟨o,c,a,t,f1,f2⟩:=q;exact⟨o,c,a,t,k _ f1,f2⟩⟩,rfl,q _ (I.hok.fresh (zzr _))⟩
theorem AS:fV X (.builtin "len") (λxs H Q=>∃p n,xs=[.ref p]/\H p=some (SetN p n)/\Q (.int n) H):=by intro pins s σ H xs us Q I r h;obtain⟨p,n,rfl,e,q⟩:=h;obtain⟨u,rfl,a⟩:=nF r;cases a;obtain⟨⟨o,es,ep,t,g1,g2,g3,J,L,U⟩,_⟩:=(show ObjOk X.prog X.w H s.heap p (SetN p n) from I.hok p _ e);refine call_len_set g1 g2 g3 J (by unfold scanBound at U;lia) ?_;rw[L];exact⟨.int n,H,I.tok _,⟨_,rfl⟩,q⟩
theorem rn{ws:List Str}(h:ws.Nodup):metS ws=ws:=by
 have key:∀(ys a:List Str),(a++ys).Nodup->ys.foldl addS a=a++ys:=λys=>by
  induction ys with
  |nil=>intro a _;simp|cons y ys L =>
   intro a h;have J:y∉a:=λz=>by have:=(zyK.mp h).2.2 y z y zzg;exact this rfl
   rw[zwq,show addS a y=a++[y] by unfold addS;rw[zzi J],L _ (by simpa using h)];simp
 simpa[metS]using key ws [] (by simpa using h)
def GtA(A:Around)(s:Shared)(v w:Value)(b:Bool):Prop:=∀(a:Program) (J:World) (E:Value->Shared->Prop) (Q:Value->Shared->Prop),Q (.bool b) s->wpAny (model a J) A (richCompare .Gt v w) Q E s
inductive LexW(A:Around)(s:Shared):List Value->List Value->Bool->Prop
 |nn:LexW A s [] [] false
 |nc {w:Value} {ws:List Value}:LexW A s [] (w::ws) false
 |cn {v:Value} {vs:List Value}:LexW A s (v::vs) [] true
 |same {v w:Value} {vs ws:List Value} {b:Bool}:SeqAt.EqAt A s v w true->LexW A s vs ws b->LexW A s (v::vs) (w::ws) b
 |diff {v w:Value} {vs ws:List Value} {b:Bool}:SeqAt.EqAt A s v w false->GtA A s v w b->LexW A s (v::vs) (w::ws) b
section
open PySem.SeqAt
open PySem.AutoSeq1 (wpAny_loadPart')
open PySem.MeetsSeq PySem.MeetsSeq2 PySem.MeetsSeq3
theorem uU(l b:Addr)(items J:Array Value)(n N:Nat)(dd B:Option Addr)(sl E:Array (Option Value))(r:Bool) :
  Meets (Builtin.«tuple.__gt__» ⟨[.ref l,.ref b],[]⟩)
   (λA R s=>s.heap.get? l=some { cls:=.type "tuple",dict:=dd,data:=.seq items n,slots:=sl }/\s.heap.get? b=some { cls:=.type "tuple",dict:=B,data:=.seq J N,slots:=E } /\
    LexW A.in1 s items.toList J.toList r/\R (.ok (.ret (.bool r))) s) :=
 .of_wp λc w A R s h=>by
  obtain⟨v,g,d,z,os⟩:=s;obtain⟨I,G,e,h⟩:=h;have f2:=AutoSeq1.sub_tuple_tuple
  wp_walk using wpAny_loadPart' I,wpAny_loadPart' G,wpAny_forIn_list _ (λrest b u=>b.1=none/\u=⟨v,g,d,z,os⟩/\∃(i j:List Value),rest=i.zip j /\
   LexW A.in1 ⟨v,g,d,z,os⟩ i j r/\i.length+J.size=j.length+items.size) _
  case turn =>
   rintro⟨y,x⟩ rest b u ⟨Y,rfl,i,j,a,e,L⟩;cases e with
   |nn=>rw[List.zip_nil_left]at a;cases a
   |nc=>rw[List.zip_nil_left]at a;cases a
   |cn=>rw[zxw]at a;cases a
   |same p e =>
    rw[zyg]at a;injection a with o U;injection o with q m;subst q m;simp only[zzm]at L;refine zzb (p c w _ _ ?_)
    wp_walk
    exact⟨rfl,rfl,_,_,U,e,by lia⟩
   |diff p H =>
    rw[zyg]at a;injection a with o U;injection o with q m;subst q m;refine zzb (p c w _ _ ?_);have C:=H c w
    wp_walk using C
    exact⟨_,rfl,by simpa using h⟩
  case fin =>
   rintro⟨b1,b2⟩ u ⟨Y,rfl,i,j,a,e,L⟩;simp only at Y;subst Y;have M:r=decide (J.size<items.size):=by
    cases e with
    |nn=>simp only[zyZ]at L;exact(zzl (by lia)).symm|nc=>simp only[zyZ,zzm]at L;exact(zzl (by lia)).symm|cn=>simp only[zyZ,zzm]at L;exact(zzj (by lia)).symm|same _ _=>rw[zyg]at a;cases a
    |diff _ _=>rw[zyg]at a;cases a
   rw[M]at h
   wp_walk
   exact⟨_,rfl,by simpa[Builtin.Tuple.tupleCompareSizes]using h⟩
  case h =>
   exact⟨rfl,rfl,items.toList,J.toList,rfl,e,by simp;lia⟩
end
section
variable{s:Shared}
theorem EL{items J:Array Value}{r:Bool}(j:IsTup s.heap l items)(i:IsTup s.heap b J)(o:LexW A.in1 s items.toList J.toList r)(m:A.units<cLine):GtA A s (.ref l) (.ref b) r:=λprog w E Q h=>by
 obtain⟨⟨cls,g,data,q⟩,c,a,n,hd⟩:=id j;obtain⟨⟨cls2,d,data2,e⟩,Y,L,p,U⟩:=id i;simp only at a hd L U;subst a hd L U;exact richCompare_meets_room (op:=.Gt) ⟨_,c,rfl⟩ ⟨_,Y,rfl⟩ PySem.F.slot_tuple_gt PySem.F.entry_tuple_gt (PySem.F.args_tuple_gt_2 _ _) (uU l b items J n p g d q e r)
  ⟨c,Y,o,show Value.bool r≠Value.notImplemented/\Q (.bool r) s from⟨(λx=>nomatch x),h⟩⟩ m
theorem AT(a:Int)(t:Tok)(c:Int)(u:Tok):GtA A s (.int a t) (.int c u) (decide (c<a)):=λd w E Q h=>(PyProof.Rows.gt_int h:wpAny (model d w) A (compareOp .Gt (.int a t) (.int c u)) Q E s)
theorem AU:∀{vs ws:List Value} {d ms:List Int},IntsAre vs d->IntsAre ws ms->LexW A s vs ws (HT.lexLt ms d)
 := by
 intro vs ws d ms p q
 induction p generalizing ws ms with
 |nil=>(cases q with|nil=>exact .nn|cons=>exact .nc)
 |cons a t h1 J =>
  cases q with|nil=>exact .cn|cons c u g=>?_
  rw[HT.lexLt_cons];by_cases e:a=c
  ·subst e;rw[zzn rfl];exact .same (by have:=SeqAt.EqAt.int_int (A:=A) (s:=s) a t a u;simpa using this) (J g)
  ·rw[zzi (Ne.symm e)];exact .diff ((show (a == c)=false by simpa using e) ▸ SeqAt.EqAt.int_int (A:=A) (s:=s) a t c u) (AT a t c u)
end
noncomputable def gtP(ns:List Int)(i:Int)(ms:List Int)(j:Int):Bool:=if ns=ms then decide (j<i) else HT.lexLt ms ns
def rGtP(K:zvd):R2:=λx y H Q=>∃a b p q d c i j,x=.ref a/\y=.ref b/\SqT K H a [.ref p,.int i]/\SqT K H b [.ref q,.int j]/\SqT K H p (d.map V.int)/\SqT K H q (c.map V.int)/\Q (.bl (gtP d i c j)) H
theorem lZ:∀{vs:List Value} {a:List Int},IntsAre vs a->Paired isI (a.map Sum.inl) vs
 |_,_,.nil=>.nil|_,_,.cons n t h=>.cons ⟨n,t,rfl,rfl⟩ (lZ h)
theorem AV{A:Around}{s:Shared}{items J:Array Value}{ns ms:List Int}(i:IsTup s.heap l items)(a:IsTup s.heap b J)(d:IntsAre items.toList ns)(g:IntsAre J.toList ms)(m:A.units<cLine):SeqAt.EqAt A s (.ref l) (.ref b) (decide (ns=ms)):=λprog w E Q h=>by
 obtain⟨o,j,c,n,hd⟩:=i;obtain⟨q,Y,L,p,U⟩:=a;refine GB m (k1:=ns.map Sum.inl) (k2:=ms.map Sum.inl) ⟨l,o,items,n,rfl,j,c,hd,lZ d⟩ ⟨b,q,J,p,rfl,Y,L,U,lZ g⟩ ?_;have e:(decide (ns.map Sum.inl=(ms.map Sum.inl:List Key)))=decide (ns=ms):=by
  by_cases z:ns=ms
  ·rw[zzj z,zzj (by rw[z])]
  ·rw[zzl z,zzl (λw=>z ((zwZ (λ_ _ h=>Sum.inl.inj h)).mp w))]
 rw[e];exact h
theorem IW(d:X.A.units+1<cLine):OpR X (compareOp .Gt) (rGtP X.K):=by
 intro pins s σ H x y v u Q I rx ry h;obtain⟨a,b,p,q,ns,ms,i,j,rfl,rfl,C,E,G,M,k⟩:=h;cases rx;cases ry;obtain⟨its,l,N,_⟩:=I.tuple C;obtain⟨its2,r2,T,_⟩:=I.tuple E;obtain⟨J,r3,n,_⟩:=I.tuple G;obtain⟨L,r4,o,_⟩:=I.tuple M;obtain⟨u1,v1,rfl,z,c,rfl⟩:=l.two;obtain⟨u2,v2,rfl,B,U,rfl⟩:=r2.two;cases z;cases B;have g:IntsAre J.toArray.toList ns:=fW r3;have m:IntsAre L.toArray.toList ms:=fW r4;refine EL (A:=X.A) (s:=s) (r:=gtP ns i ms j) N T ?_ (by lia) X.prog X.w _ _ ⟨.bl _,H,I,rfl,k⟩;have eq:=AV (A:=X.A.in1) n o g m d;unfold gtP;split
 ·rename_i e;rw[zzj e]at eq;refine .same eq ?_;by_cases Y:i=j
  ·subst Y;rw[zzl (Int.lt_irrefl _)];exact .same (by have:=SeqAt.EqAt.int_int (A:=X.A.in1) (s:=s) i c i U;simpa using this) .nn
  ·exact .diff ((show (i == j)=false by simpa using Y) ▸ SeqAt.EqAt.int_int (A:=X.A.in1) (s:=s) i c j U) (AT i c j U)
 ·rename_i e;rw[zzl e]at eq;exact .diff eq (EL n o (AU g m) d)
def sL(C:Addr)(a1:Str):Sp:=λc H Q _=>∃e p,c=[.ref e,p]/\H e=some (excN C none e)/\∀a,H a=none->a≠e->Q .non (upd (upd H a (exD [(a1,p)] a)) e (excN C (some a) e))
def GD(C:Addr)(a1:Str)(W:St->XK)(t:TA):TS:=λ_ d H=>t d H λe c=>∃p,e=[p]/\∀a,c a=none->W d (.ref C) (some a) (upd c a (exD [(a1,p)] a))
section
variable{W:St->XK}{k:Nat}{C f:Addr}{fd:FuncData}{ps:List Str}{a1 x:Str}{np cpos pos:Pos}{e:Expr}{es:List Expr}{t:TA}
theorem AW(c:ExcI X.K C f)(F:FnOk X.prog X.w X.K X.mg X.base CX0 k f fd ps (sL C a1))(hr:Room (k+1) X.A)(hb:Binds X.K fd ps [])(hc:X.calm=true)(hg:Gl X x)(m:X.mg x=some (.ref C))(hx:∀e s',XF X W e s'->X.xe e s')(ha:PA X (e::es) t)
  (he:starEach (e::es) X.env=(false,eval e X.env)::starEach es X.env:=by rfl) (hpl:(backTo cpos (starEach es X.env)).any (·.1)=false:=by rfl)
  (hd:(x == ("__debug__" : Str))=false:=by decide):PS X (.Raise (some (.Call (.Name x np) (e::es) [] cpos)) none pos) (GD C a1 W t):=by
 intro n s σ H D I h;refine yY (K:=X.K) (C:=C) (fI:=f) (I.ok.hd hc) ?_;refine zxf (hU I hg m ?_ hd);refine zxt (h₀:=X.base) I.ok.mod.kin c.kp (thnE (ha cpos n s σ H _ I h) λj s1 vs i L r q=>⟨L.kIn,?_⟩) he hpl;obtain⟨p,rfl,q⟩:=q;refine KJ L.kIn c (λh' d Q m=>?_) (by rw[zwK,←r.length];exact(by decide:1 <= sizeLine));obtain⟨t0,a5,_,_⟩:=m.there;have a3:i d=none:=L.hok.fresh Q;have y:=L.laid (a:=d) (o:=excN C none d) (h':=h') (t':=s1.toks) (λb u q=>m.keeps b u q) Q (Ap (C:=C) (t:=t0) (od:=none) a5);have T:Vals [V.ref d,p] (Value.ref d::j):=.cons rfl r;have Y:sL C a1 [V.ref d,p] (upd i d (excN C none d)) (λv l=>v=.non/\∃g,i g=none/\g≠d/\l=upd (upd (upd i d (excN C none d)) g (exD [(a1,p)] g)) d (excN C (some g) d)) E0 :=
  ⟨d,p,rfl,ai,λg h1 N=>⟨rfl,g,by rwa [ah N]at h1,N,rfl⟩⟩
 have hl:(Value.ref d::j++[]).length=ps.length:=by rw[zzv,←T.length];exact F.len _ _ _ _ Y
 refine zwv (zxb (F.run _ X.stack _ _ ⟨Value.ref d::j,[]⟩ (Value.ref d::j++[]) _ _ E0 (hr.make C j []) (y.env0.make C j []) (hb _ (Value.ref d::j) y.kIn hl) (by rw[zzv];exact T) Y) λr' s' J=>?_);cases r' with
 |error e=>exact J.elim|ok fl =>
  cases fl with
  |ret u =>
   obtain⟨v,H',B,rv,ev,g,a2,a4,rfl⟩:=y.after J;subst ev;have ee:upd (upd (upd i d (excN C none d)) g (exD [(a1,p)] g)) d (excN C (some g) d)=upd (upd i g (exD [(a1,p)] g)) d (excN C (some g) d):=by
    funext b;by_cases z:b=d
    ·rw[z,ai,ai]
    ·rw[ah z,ah z];by_cases E:b=g
     ·rw[E,ai,ai]
     ·rw[ah E,ah E,ah z]
   rw[ee]at B;obtain⟨t3,M⟩:=(show ObjOk X.prog X.w _ s'.heap d (excN C (some g) d) from B.hok d _ ai).1;have U:upd i g (exD [(a1,p)] g) d=none:=by rw[ah (Ne.symm a4)];exact a3
   have G:=Inv.unlay B U;exact⟨rv,d,t3,some g,rfl,G.kIn,c,M,hx _ _ (Dk L G m.new U M (q g a2))⟩
  |next=>exact False.elim J
  |brk=>exact False.elim J|cont=>exact False.elim J
def IX(C:Addr)(sp:Sp)(W:St->XK)(t:TA):TE:=λd H _=>t d H λg c=>∀x a,c x=none->c a=none->a≠x->sp (.ref x::g) (upd (upd c a (.own x)) x (.ins C a [])) (λ_ _=>False) (W d)
theorem DH{p:Pos}{sp:Sp}(M:Mk X.K C f)(F:FnOk X.prog X.w X.K X.mg X.base (CXE X.prog X.w) k f fd ps sp)(E:Room (k+1) X.A)(y:Gl X x)(B:X.mg x=some (.ref C))(o:Binds X.K fd ps [])(G:∀e s',XF X W e s'->X.xe e s')
  (n:PA X (e::es) t) (Y:(x == ("__debug__" : Str))=false:=by decide) (he:starEach (e::es) X.env=(false,eval e X.env)::starEach es X.env:=by rfl) (hpl:(backTo pos (starEach es X.env)).any (·.1)=false:=by rfl) :
  PE X (.Call (.Name x p) (e::es) [] pos) (IX C sp W t):=by
 intro d s j H Q I h;refine zxf (hU I y B ?_ Y);refine zxt (h₀:=X.base) I.ok.mod.kin M.kp (thnE (n pos d s j H _ I h) λc a T H1 L r q=>⟨L.kIn,?_⟩) he hpl;have g:=q (a.heap.objs.size+1) a.heap.objs.size (L.hok.fresh (zxH _)) (L.hok.fresh (zzr _)) (zzL (zwE _));have U:=Inv.made (C:=C) L;have i:Vals (V.ref (a.heap.objs.size+1)::T) (Value.ref (a.heap.objs.size+1)::c):=.cons rfl r;have z:(Value.ref (a.heap.objs.size+1)::c++[]).length=ps.length:=by rw[zzv,←i.length];exact F.len _ _ _ _ g
 refine zwv (xu (f:=f) L.kIn M.makes M.init (zwi.mp M.fn) (zxb (F.run _ X.stack _ _ ⟨Value.ref (a.heap.objs.size+1)::c,[]⟩ (Value.ref (a.heap.objs.size+1)::c++[]) _ _ (W j) (E.make C c [])
  (U.env0.make C c []) (o _ (Value.ref (a.heap.objs.size+1)::c) U.kIn z) (by rw[zzv];exact i) g) λr s' J=>?_))
 cases r with
 |error e=>exact G e s' (Am U J λ_ _ _ q=>q)
 |ok m =>
  cases m with
  |ret u =>
   obtain⟨v,H',I3,rv,N⟩:=U.after J;exact N.elim
  |next=>exact False.elim J
  |brk=>exact False.elim J|cont=>exact False.elim J
end
def LeA(A:Around)(s:Shared)(v w:Value)(b:Bool):Prop:=∀(a:Program) (J:World) (E:Value->Shared->Prop) (Q:Value->Shared->Prop),Q (.bool b) s->wpAny (model a J) A (richCompare .LtE v w) Q E s
inductive LexL(A:Around)(s:Shared):List Value->List Value->Bool->Prop
 |nn:LexL A s [] [] true
 |same {v w:Value} {vs ws:List Value} {b:Bool}:SeqAt.EqAt A s v w true->LexL A s vs ws b->LexL A s (v::vs) (w::ws) b
 |diff {v w:Value} {vs ws:List Value} {b:Bool}:SeqAt.EqAt A s v w false->LeA A s v w b->LexL A s (v::vs) (w::ws) b
section
open PySem.SeqAt
open PySem.AutoSeq1 (wpAny_loadPart')
open PySem.MeetsSeq PySem.MeetsSeq2 PySem.MeetsSeq3
theorem GE(l b:Addr)(items J:Array Value)(n C:Nat)(dd Y:Option Addr)(sl v:Array (Option Value))(hs:items.size=J.size)(r:Bool):∀(k i:Nat),items.size - i=k ->
  Meets (Builtin.«list.__eq__.loop» ⟨[.ref l,.ref b,rawInt i,rawInt 1],[]⟩)
   (λA R s=>s.heap.get? l=some { cls:=.type "list",dict:=dd,data:=.seq items n,slots:=sl }/\s.heap.get? b=some { cls:=.type "list",dict:=Y,data:=.seq J C,slots:=v } /\
    LexL A.in1 s (items.toList.drop i) (J.toList.drop i) r/\R (.ok (.ret (.bool r))) s):=by
 intro k
 induction k with
 |zero =>
  intro i y;refine .of_wp λa w A R s h=>?_;obtain⟨z,g,d,E,os⟩:=s;obtain⟨c,U,L,h⟩:=h;have j:items[((i:Nat):Int).toNat]? = none:=zxX (by rw[zzM];lia)
  wp_walk using wpAny_loadPart' c,wpAny_loadPart' U
  rw[j];have d1:items.toList.drop i=[]:=zxW (by rw[zzF];lia);have d2:J.toList.drop i=[]:=zxW (by rw[zzF];lia);rw[d1,d2]at L;cases L
  wp_walk using wpAny_loadPart' c,wpAny_loadPart' U
  refine⟨_,rfl,?_⟩;have e:decide (items.size <= J.size)=true:=zzj (by lia);show R (.ok (.ret (.bool (decide (items.size <= J.size))))) _;rw[e];exact h
 |succ k B =>
  intro i y a w A R s h;obtain⟨z,g,d,E,os⟩:=s;obtain⟨c,U,L,h⟩:=h;have p:i<items.size:=by lia
  have q:i<J.size:=by lia
  have j:items[((i:Nat):Int).toNat]? = some items[i]:=by rw[zzM];exact zxF p
  have o:J[((i:Nat):Int).toNat]? = some J[i]:=by rw[zzM];exact zxF q
  have d1:items.toList.drop i=items[i]::items.toList.drop (i+1):=by rw[zzZ (by rw[zzF];exact p),Array.getElem_toList]
  have d2:J.toList.drop i=J[i]::J.toList.drop (i+1):=by rw[zzZ (by rw[zzF];exact q),Array.getElem_toList]
  rw[d1,d2]at L
  wp_walk using wpAny_loadPart' c,wpAny_loadPart' U
  rw[j,o];cases L with
  |same m L =>
   refine zzb (m a w _ _ ?_)
   wp_walk
   refine⟨Code.quiet_builtin _ (by decide +kernel),zxP entry_eq_loop ?_⟩;exact B (i+1) (by lia) a w A R _ ⟨c,U,L,h⟩
  |diff m x =>
   refine zzb (m a w _ _ ?_);have u:=x a w
   wp_walk using wpAny_loadPart' c,wpAny_loadPart' U
   rw[j,o]
   wp_walk using u
   exact h
theorem GF(l b:Addr)(items J:Array Value)(n e:Nat)(dd L:Option Addr)(sl U:Array (Option Value))(hs:items.size=J.size)(r:Bool) :
  Meets (Builtin.«list.__le__» ⟨[.ref l,.ref b],[]⟩)
   (λA R s=>s.heap.get? l=some { cls:=.type "list",dict:=dd,data:=.seq items n,slots:=sl }/\s.heap.get? b=some { cls:=.type "list",dict:=L,data:=.seq J e,slots:=U } /\
    LexL A.in1 s items.toList J.toList r/\R (.ok (.ret (.bool r))) s):=λa w A R s h=>by
 obtain⟨hp,g,d,tk,os⟩:=s;obtain⟨c,Y,i,h⟩:=h;have f2:=sub_list_list
 wp_walk using wpAny_loadPart' c,wpAny_loadPart' Y
 refine⟨Code.quiet_builtin _ (by decide +kernel),zxP entry_eq_loop ?_⟩;exact GE l b items J n e dd L sl U hs r items.size 0 rfl a w A R _ ⟨c,Y,i,h⟩
end
section
variable{s:Shared}
theorem GG(a:Int)(t:Tok)(c:Int)(u:Tok):LeA A s (.int a t) (.int c u) (decide (a <= c)):=λd w E Q h=>(PyProof.Rows.le_int h:wpAny (model d w) A (compareOp .LtE (.int a t) (.int c u)) Q E s)
theorem AX:∀{vs ws:List Value} {d ms:List Int},IntsAre vs d->IntsAre ws ms->d.length=ms.length->LexL A s vs ws (!HT.lexLt ms d)
 := by
 intro vs ws d ms p q h
 induction p generalizing ws ms with
 |nil=>(cases q with|nil=>exact .nn|cons=>simp at h)
 |cons a t h1 J =>
  cases q with|nil=>simp at h|cons c u g=>?_
  rw[HT.lexLt_cons];by_cases e:a=c
  ·subst e;rw[zzn rfl];exact .same (by have:=SeqAt.EqAt.int_int (A:=A) (s:=s) a t a u;simpa using this) (J g (by simpa using h))
  ·rw[zzi (Ne.symm e)];refine .diff ((show (a == c)=false by simpa using e) ▸ SeqAt.EqAt.int_int (A:=A) (s:=s) a t c u) ?_;have:=GG (A:=A) (s:=s) a t c u;rwa [show decide (a <= c)=!decide (c<a) by rw[←decide_not];exact decide_eq_decide.mpr (by lia)]at this
end
def rLeL:R2:=λx y H Q=>∃a b d c,x=.ref a/\y=.ref b/\H a=some (.lst (d.map V.int))/\H b=some (.lst (c.map V.int))/\d.length=c.length/\Q (.bl (!HT.lexLt c d)) H
theorem IY(L:X.A.units<cLine):OpR X (compareOp .LtE) rLeL:=by
 intro pins s σ H x y v u Q I z B h;obtain⟨a,b,q,n,rfl,rfl,e,J,g,k⟩:=h;cases z;cases B;obtain⟨_,U,o,r,j,c⟩:=I.lstM e;obtain⟨_,Y,p,w,m,d⟩:=I.lstM J;have i:U.toArray.size=Y.toArray.size:=by rw[zza]at j m;simp only[zzD];lia
 refine richCompare_meets_room (op:=.LtE) ⟨_,c,rfl⟩ ⟨_,d,rfl⟩ PySem.F.slot_list_le PySem.F.entry_list_le (PySem.F.args_list_le_2 _ _) (GF a b _ _ o p _ _ _ _ i (!HT.lexLt n q))
  ⟨c,d,AX (fW r) (fW w) g,(λx=>nomatch x),⟨.bl _,H,I,rfl,k⟩⟩ L
theorem zd:OpR X (binaryOp .Mult) (λx y H Q=>∃i n,x=.str i/\y=.int n/\MulOk i n/\Q (.str (Txt.mul i n)) H):=by intro pins s σ H x y v u Q I J L h;obtain⟨i,n,rfl,rfl,a,q⟩:=h;obtain⟨t,rfl⟩:=J;obtain⟨c,rfl⟩:=L;exact PySem.SB.mul a (λc tk=>⟨.str (Txt.mul i n),H,I.tok _,⟨_,rfl⟩,q⟩)
end L2
namespace DL
open PySem PySem.Spec L2
open PyProof.Rows hiding St
variable{A M:List Addr}{B:Prop}{H H':Hp}{N ps:List Str}{T:String}{a l:Addr}{e o tg:Expr}{fd:FuncData}{i ja jk m:Nat}{ifs:List Expr}{j:Int}{mg:Str->Option Value}{o' u:HO}{op op':CmpOp}{p p2 pos py:Pos}{v:V}{vs ys:List V}{w:World}{x y:Str}{α β:Type}{σ:St}
variable{K:zvd}{pp:Option Addr}{M M':List Addr}{H H':Hp}{σ:St}{X:Cx}{c e:Expr}{pos:Pos}{es:List Expr}{x:Str}{i:Nat}
section
inductive D where
 |non|bl (b:Bool)|int (i:Int)|str (x:Str)|ty (n:String)|tup (ds:List D)|lst (ds:List D)
 |dK (ks:List Key) (ds:List D)|dT (ks:List (List Key)) (ds:List D)|pen|exc (C:Addr)|cls (C:Addr)|exa (C:Addr) (fs:List (Str×V))|ins (C:Addr) (ns:List Str) (ds:List D)
inductive O where
 |val (d:D)|lst (os:List O)|dct (ks:List (List Key)) (os:List O)|tup (os:List O)|dck (ks:List Key) (os:List O)
inductive Sl where
 |nil|val (d:D)|own (ds:List D)|obj (o:O)|pin (v:V) (d:D)
section
variable(K:zvd)(pp:Option Addr)(M:List Addr)(H:Hp)
mutual
def Rep:D->V->Prop
 |.non,v=>v=.non|.bl b,v=>v=.bl b|.int i,v=>v=.int i|.str x,v=>v=.str x|.ty n,v=>v=.ty n|.tup g,v=>∃a q,v=.ref a/\H a=some (.tup q)/\Reps g q|.lst g,v=>∃a q,v=.ref a/\a∉M/\pp≠some a/\H a=some (.lst q)/\Reps g q|.dK r g,v=>∃a d,v=.ref a/\a∉M/\pp≠some a/\H a=some (.dK d)/\d.map (·.1)=r/\Reps g (d.map (·.2))|.dT r g,v=>∃a d,v=.ref a/\a∉M/\pp≠some a/\Rd H a (.dT d)/\d.map (·.1)=r/\Reps g (d.map (·.2))|.pen,v=>∃p,v=.ref p/\pp=some p/\∃a s t l,Pen K H p a s t l|.exc C,v=>∃a,v=.ref a/\a∉M/\pp≠some a/\H a=some (excO C a)|.cls C,v=>v=.ref C|.exa C fs,v=>∃a h,v=.ref a/\a∉M/\pp≠some a/\H a=some (excA C (some h) a)/\h∉M/\pp≠some h/\H h=some (exD fs h)|.ins C s g,v=>∃a h fs,v=.ref a/\a∉M/\pp≠some a/\H a=some (.ins C h fs)/\fs.map (·.1)=s/\Reps g (fs.map (·.2))
def Reps:List D->List V->Prop
 |[],b=>b=[]|d::g,b=>∃x r,b=x::r/\Rep d x/\Reps g r
end
end
section
variable{M'':List Addr}{H'':Hp}
class TB where
 tb:List (Addr×Str)
instance(priority:=low) TB.none:TB:=⟨[]⟩
def Tabs[TB](H:Hp):Prop:=∀P L,TB.tb.lookup P=some L->∃ps,H P=some (.tbl ps)/\TriplesOk ps.toList /\
 ∀pos J,codeAmong pos ps.toList=some J->∃c b u vs t,J=.ref c/\H c=some (.frz b u)/\b.data=.fields vs/\vs[1]? = some (.str L t)
def TF(o:HO):Prop:=(∃ps,o=.tbl ps)∨∃b u,o=.frz b u
theorem Tabs.of[TB](h:Tabs H)(k:∀b o,H b=some o->TF o->H' b=some o):Tabs H':=λP Y U=>by obtain⟨ps,d,g,n⟩:=h P Y U;refine⟨ps,k _ _ d (.inl ⟨_,rfl⟩),g,λpos J e=>?_⟩;obtain⟨c,q,u,vs,t,f1,f2,L⟩:=n pos J e;exact⟨c,q,u,vs,t,f1,k _ _ f2 (.inr ⟨_,_,rfl⟩),L⟩
theorem Tabs.upd[TB]{H:Hp}{l:Addr}{o o':HO}(h:Tabs H)(d:H l=some o)(J:¬TF o):Tabs (upd H l o') :=
 h.of λb x e L=>by
  rw[ah]
  ·exact e
  ·rintro rfl;rw[d]at e;cases e;exact J L
theorem Tabs.new[TB](h:Tabs H)(d:H l=none):Tabs (L2.upd H l o') :=
 h.of λb x e _=>lS d e
theorem sM{xs:List V}:¬TF (.lst xs):=by rintro(⟨_,e⟩|⟨_,_,e⟩)<;>cases e
def NT(o:HO):Prop:=∀ps,o ≠ .tbl ps
def NP(pp:Option Addr)(a:Addr)(o:HO):Prop:=pp≠some a/\NT o
theorem np{pp:Option Addr}{o:HO}(h:pp≠some a)(t:NT o:=by intro _ z;cases z):NP pp a o:=⟨h,t⟩
structure Mv[TB](K:zvd)(pp:Option Addr)(M:List Addr)(H:Hp)(M':List Addr)(H':Hp):Prop where
 tup:∀a xs,H a=some (.tup xs)->H' a=some (.tup xs)
 oth:∀a o,H a=some o->a∉M->NP pp a o->H' a=some o/\a∉M'
 pen:∀p,pp=some p->(∃a ns t l,Pen K H p a ns t l)->∃a ns t l,Pen K H' p a ns t l
 tb:Tabs H->Tabs H'
variable[TB]
theorem Mv.lst(m:Mv K pp M H M' H')(a:Addr)(xs:List V)(h:H a=some (.lst xs))(n:a∉M)(q:pp≠some a):H' a=some (.lst xs)/\a∉M':=m.oth a _ h n (np q)
theorem Mv.refl:Mv K pp M H M H:=⟨λ_ _ h=>h,λ_ _ h n _=>⟨h,n⟩,λ_ _ h=>h,λh=>h⟩
theorem Mv.trans(x:Mv K pp M H M' H')(y:Mv K pp M' H' M'' H''):Mv K pp M H M'' H'' :=
 ⟨λa b h=>y.tup a b (x.tup a b h),λa b h n q=>y.oth a b (x.oth a b h n q).1 (x.oth a b h n q).2 q,λp e h=>y.pen p e (x.pen p e h),λh=>y.tb (x.tb h)⟩
mutual
theorem Rep.mv(m:Mv K pp M H M' H'):∀(d:D) (v:V),Rep K pp M H d v->Rep K pp M' H' d v
 |.non,_,h=>by simp only[Rep]at h ⊢;exact h
 |.bl _,_,h=>by simp only[Rep]at h ⊢;exact h
 |.int _,_,h=>by simp only[Rep]at h ⊢;exact h
 |.str _,_,h=>by simp only[Rep]at h ⊢;exact h
 |.ty _,_,h=>by simp only[Rep]at h ⊢;exact h
 |.tup r,_,h=>by simp only[Rep]at h ⊢;obtain⟨a,n,e,b,q⟩:=h;exact⟨a,n,e,m.tup a n b,Reps.mv m r n q⟩
 |.lst r,_,h=>by simp only[Rep]at h ⊢;obtain⟨a,n,e,g,J,b,q⟩:=h;exact⟨a,n,e,(m.lst a n b g J).2,J,(m.lst a n b g J).1,Reps.mv m r n q⟩
 |.dK G r,_,h=>by simp only[Rep]at h ⊢;obtain⟨a,n,e,g,J,b,q,s⟩:=h;exact⟨a,n,e,(m.oth a _ b g (np J)).2,J,(m.oth a _ b g (np J)).1,q,Reps.mv m r _ s⟩
 |.dT G r,_,h=>by
  simp only[Rep]at h ⊢;obtain⟨a,n,e,g,J,b,q,s⟩:=h;rcases b with b|⟨o,b⟩
  ·exact⟨a,n,e,(m.oth a _ b g (np J)).2,J,.inl (m.oth a _ b g (np J)).1,q,Reps.mv m r _ s⟩
  ·exact⟨a,n,e,(m.oth a _ b g (np J)).2,J,.inr ⟨o,(m.oth a _ b g (np J)).1⟩,q,Reps.mv m r _ s⟩
 |.pen,_,h=>by simp only[Rep]at h ⊢;obtain⟨p,e,E,h⟩:=h;exact⟨p,e,E,m.pen p E h⟩
 |.exc C,_,h=>by simp only[Rep]at h ⊢;obtain⟨a,e,g,J,b⟩:=h;exact⟨a,e,(m.oth a _ b g (np J)).2,J,(m.oth a _ b g (np J)).1⟩
 |.cls _,_,h=>by simp only[Rep]at h ⊢;exact h
 |.exa C fs,_,h=>by simp only[Rep]at h ⊢;obtain⟨a,z,e,g,J,b,q,s,L⟩:=h;exact⟨a,z,e,(m.oth a _ b g (np J)).2,J,(m.oth a _ b g (np J)).1,(m.oth z _ L q (np s)).2,s,(m.oth z _ L q (np s)).1⟩
 |.ins C ns r,_,h=>by simp only[Rep]at h ⊢;obtain⟨a,z,n,e,g,J,b,q,s⟩:=h;exact⟨a,z,n,e,(m.oth a _ b g (np J)).2,J,(m.oth a _ b g (np J)).1,q,Reps.mv m r _ s⟩
theorem Reps.mv(m:Mv K pp M H M' H'):∀(ds:List D) (xs:List V),Reps K pp M H ds xs->Reps K pp M' H' ds xs
 |[],_,h=>by simp only[Reps]at h ⊢;exact h
 |d::ds,_,h=>by simp only[Reps]at h ⊢;obtain⟨x,r,e,b,g⟩:=h;exact⟨x,r,e,Rep.mv m d x b,Reps.mv m ds r g⟩
end
theorem Reps.length:∀{ds:List D} {xs:List V},Reps K pp M H ds xs->ds.length=xs.length
 |[],_,h=>by simp only[Reps]at h;subst h;rfl
 |_::_,_,h=>by simp only[Reps]at h;obtain⟨x,r,rfl,_,b⟩:=h;simp[Reps.length b]
theorem Reps.get':∀{ds:List D} {xs:List V} {i:Nat} {d:D},Reps K pp M H ds xs->ds[i]? = some d->∃x,xs[i]? = some x/\Rep K pp M H d x
 |[],_,_,_,h,e=>by simp at e
 |d::ds,_,0,x,h,e=>by simp only[Reps]at h;obtain⟨y,r,rfl,b,g⟩:=h;simp at e;subst e;exact⟨y,rfl,b⟩
 |d::ds,_,i+1,x,h,e=>by simp only[Reps]at h;obtain⟨y,r,rfl,b,g⟩:=h;obtain⟨n,q,s⟩:=Reps.get' (i:=i) g (by simpa using e);exact⟨n,by simpa using q,s⟩
theorem Reps.append:∀{ds es:List D} {xs ys:List V},Reps K pp M H ds xs->Reps K pp M H es ys->Reps K pp M H (ds++es) (xs++ys)
 |[],_,_,_,h,q=>by simp only[Reps]at h;subst h;exact q
 |d::ds,_,_,_,h,q=>by simp only[Reps]at h;obtain⟨y,r,rfl,b,g⟩:=h;simp only[zyu,Reps];exact⟨y,_,rfl,b,Reps.append g q⟩
theorem Reps.drop:∀{ds:List D} {xs:List V} (n:Nat),Reps K pp M H ds xs->Reps K pp M H (ds.drop n) (xs.drop n)
 |_,_,0,h=>h|[],_,n+1,h=>by simp only[Reps]at h;subst h;simp[Reps]
 |d::ds,_,n+1,h=>by simp only[Reps]at h;obtain⟨y,r,rfl,h1,b⟩:=h;exact Reps.drop n b
theorem Reps.take:∀{ds:List D} {xs:List V} (n:Nat),Reps K pp M H ds xs->Reps K pp M H (ds.take n) (xs.take n)
 |_,_,0,h=>by simp[Reps]
 |[],_,n+1,h=>by simp only[Reps]at h;subst h;simp[Reps]
 |d::ds,_,n+1,h=>by simp only[Reps]at h;obtain⟨y,r,rfl,b,g⟩:=h;simp only[List.take_succ_cons,Reps];exact⟨y,_,rfl,b,Reps.take n g⟩
theorem Reps.set{d:D}{x:V}(hd:Rep K pp M H d x):∀{ds:List D} {xs:List V} (n:Nat),Reps K pp M H ds xs->Reps K pp M H (ds.set n d) (xs.set n x)
 |[],_,n,h=>by simp only[Reps]at h;subst h;simp[Reps]
 |e::ds,_,0,h=>by simp only[Reps]at h;obtain⟨y,r,rfl,g,b⟩:=h;simp only[List.set_cons_zero,Reps];exact⟨x,r,rfl,hd,b⟩
 |e::ds,_,n+1,h=>by simp only[Reps]at h;obtain⟨y,r,rfl,g,b⟩:=h;simp only[List.set_cons_succ,Reps];exact⟨y,_,rfl,g,Reps.set hd n b⟩
theorem Reps.one{d:D}{x:V}(h:Rep K pp M H d x):Reps K pp M H [d] [x]:=by simp only[Reps];exact⟨x,[],rfl,h,rfl⟩
theorem Reps.nil:Reps K pp M H [] []:=by simp only[Reps]
theorem Reps.cons{d:D}{x:V}{ds:List D}{xs:List V}(h:Rep K pp M H d x)(q:Reps K pp M H ds xs):Reps K pp M H (d::ds) (x::xs):=by simp only[Reps];exact⟨x,xs,rfl,h,q⟩
def NW(pp:Option Addr)(b:Addr)(o:HO):Prop:=(pp=some b->∀d,o ≠ .lst d)/\NT o
theorem nw{pp:Option Addr}{b:Addr}{o:HO}(h:pp≠some b)(t:NT o:=by intro _ z;cases z):NW pp b o:=⟨λz=>absurd z h,t⟩
structure SameQ(K:zvd)(pp:Option Addr)(H H':Hp):Prop where
 keep:∀b o,H b=some o->NW pp b o->H' b=some o
 pen:∀p,pp=some p->(∃a ns t l,Pen K H p a ns t l)->∃a ns t l,Pen K H' p a ns t l
 live:∀b,H b≠none->H' b≠none
structure SameP(K:zvd)(pp:Option Addr)(H H':Hp):Prop extends SameQ K pp H H' where
 tb:Tabs H->Tabs H'
theorem SameQ.refl:SameQ K pp H H:=⟨λ_ _ h _=>h,λ_ _ h=>h,λ_ h=>h⟩
theorem SameP.refl:SameP K pp H H:=⟨.refl,λh=>h⟩
theorem SameQ.trans(x:SameQ K pp H H')(y:SameQ K pp H' H''):SameQ K pp H H'' :=
 ⟨λb o h n=>y.keep b o (x.keep b o h n) n,λp e h=>y.pen p e (x.pen p e h),λb h=>y.live b (x.live b h)⟩
theorem SameP.trans(x:SameP K pp H H')(y:SameP K pp H' H''):SameP K pp H H'':=⟨x.toSameQ.trans y.toSameQ,λh=>y.tb (x.tb h)⟩
theorem SameP.of(s:Same H H'):SameP K pp H H':=⟨⟨λb o h _=>s b o h,λ_ _ ⟨a,d,t,l,h⟩=>⟨a,d,t,l,h.same s⟩,λb h e=>by
 cases q:H b with
 |none=>exact h q|some o=>rw[s b o q]at e;cases e⟩,λh=>h.of λb o e _=>s b o e⟩
theorem SameP.new{o:HO}(h:H l=none):SameP K pp H (upd H l o):=.of (xz h)
theorem SameP.mv(s:SameP K pp H H'):Mv K pp M H M H' :=
 ⟨λa b h=>s.keep a _ h ⟨λ_ _ z=>(by cases z),λ_ z=>(by cases z)⟩,λa b h n q=>⟨s.keep a _ h ⟨λz=>absurd z q.1,q.2⟩,n⟩,s.pen,s.tb⟩
theorem Mv.new{l:Addr}{o:HO}(h:H l=none):Mv K pp M H M (upd H l o):=(SameP.new h).mv
theorem Mv.newOwn{l:Addr}{o:HO}(h:H l=none):Mv K pp M H (l::M) (upd H l o) :=
 ⟨λa b e=>lS h e,λa b e n q=>⟨lS h e,by
  intro z;rcases zzk.mp z with rfl|z
  ·rw[h]at e;cases e
  ·exact n z⟩,(SameP.new h).pen,λt=>t.new h⟩
theorem Mv.less{l:List Addr}(h:∀a∈l,a∈M):Mv K pp M H l H:=⟨λ_ _ h=>h,λa xs e n _=>⟨e,λz=>n (h a z)⟩,λ_ _ h=>h,λh=>h⟩
theorem GH{p:Addr}{xs:List V}(d:H l=some (.lst xs))(J:p≠l):(∃a b t k,Pen K H p a b t k)->∃a b t k,Pen K (upd H l (.lst ys)) p a b t k:=by
 rintro⟨a,b,t,k,h⟩;refine⟨a,b,t,k,?_,?_,h.t0⟩
 ·rw[ah J];exact h.lst
 ·rcases h.scr with ⟨o,e⟩|e
  ·refine .inl ⟨o,?_⟩;rw[ah (qK e d (by intro z;cases z))];exact e
  ·exact .inr e
theorem Mv.write{xs:List V}(b:H l=some (.lst xs))(d:l∈M)(J:pp≠some l):Mv K pp M H M (upd H l (.lst ys)) :=
 ⟨λa g e=>by rw[ah (qK e b (by intro z;cases z))];exact e,
  λa g e n q=>⟨by rw[ah (by rintro rfl;exact n d)];exact e,n⟩,
  λp e h=>GH b (by rintro rfl;exact J e) h,λt=>t.upd b sM⟩
end
section
variable(K:zvd)(pp:Option Addr)(M:List Addr)(H:Hp)
mutual
def RO:O->V->List Addr->Prop
 |.val d,v,A=>A=[]/\Rep K pp M H d v|.lst os,v,A=>∃a g B,v=.ref a/\H a=some (.lst g)/\A=a::B/\ROs os g B|.dct h os,v,A=>∃a b B,v=.ref a/\H a=some (.dT b)/\b.map (·.1)=h/\A=a::B/\ROs os (b.map (·.2)) B|.tup os,v,A=>∃a g,v=.ref a/\H a=some (.tup g)/\ROs os g A|.dck h os,v,A=>∃a b B,v=.ref a/\H a=some (.dK b)/\b.map (·.1)=h/\A=a::B/\ROs os (b.map (·.2)) B
def ROs:List O->List V->List Addr->Prop
 |[],b,A=>b=[]/\A=[]|o::os,b,A=>∃x r B C,b=x::r/\A=B++C/\RO o x B/\ROs os r C
end
end
section
variable[TB]
mutual
theorem RO.mv(m:Mv K pp M H M' H'):∀(q:O) (v:V) (A:List Addr),(∀a∈A,∀o,H a=some o->NT o->H' a=some o)->RO K pp M H q v A->RO K pp M' H' q v A
 |.val d,v,A,_,h=>by simp only[RO]at h ⊢;exact⟨h.1,Rep.mv m d v h.2⟩
 |.lst os,v,A,k,h=>by simp only[RO]at h ⊢;obtain⟨a,s,B,e,g,rfl,r⟩:=h;exact⟨a,s,B,e,k a zzg _ g (by intro _ z;cases z),rfl,ROs.mv m os s B (λb J=>k b (zzc _ J)) r⟩
 |.dct E os,v,A,k,h=>by simp only[RO]at h ⊢;obtain⟨a,n,B,e,g,C,rfl,r⟩:=h;exact⟨a,n,B,e,k a zzg _ g (by intro _ z;cases z),C,rfl,ROs.mv m os _ B (λb J=>k b (zzc _ J)) r⟩
 |.tup os,v,A,k,h=>by simp only[RO]at h ⊢;obtain⟨a,s,e,g,r⟩:=h;exact⟨a,s,e,m.tup a s g,ROs.mv m os s A k r⟩
 |.dck E os,v,A,k,h=>by simp only[RO]at h ⊢;obtain⟨a,n,B,e,g,C,rfl,r⟩:=h;exact⟨a,n,B,e,k a zzg _ g (by intro _ z;cases z),C,rfl,ROs.mv m os _ B (λb J=>k b (zzc _ J)) r⟩
theorem ROs.mv(m:Mv K pp M H M' H'):∀(os:List O) (xs:List V) (A:List Addr),(∀a∈A,∀o,H a=some o->NT o->H' a=some o)->ROs K pp M H os xs A->ROs K pp M' H' os xs A
 |[],xs,A,_,h=>by simp only[ROs]at h ⊢;exact h
 |o::os,xs,A,k,h=>by simp only[ROs]at h ⊢;obtain⟨x,r,B,C,e,rfl,d,g⟩:=h;exact⟨x,r,B,C,e,rfl,RO.mv m o x B (λb J=>k b (zzo.mpr (.inl J))) d,ROs.mv m os r C (λb J=>k b (zzo.mpr (.inr J))) g⟩
end
mutual
def fzO:O->D
 |.val d=>d|.lst os=>.lst (fzOs os)|.dct b os=>.dT b (fzOs os)|.tup os=>.tup (fzOs os)|.dck b os=>.dK b (fzOs os)
def fzOs:List O->List D
 |[]=>[]|o::os=>fzO o::fzOs os
end
mutual
theorem RO.fz(m:Mv K pp M H M' H):∀(q:O) (v:V) (A:List Addr),(∀a∈A,a∉M'/\pp≠some a)->RO K pp M H q v A->Rep K pp M' H (fzO q) v
 |.val d,v,A,_,h=>by simp only[RO]at h;simp only[fzO];exact Rep.mv m d v h.2
 |.lst os,v,A,k,h=>by simp only[RO]at h;simp only[fzO,Rep];obtain⟨a,s,B,e,g,rfl,r⟩:=h;exact⟨a,s,e,(k a zzg).1,(k a zzg).2,g,ROs.fz m os s B (λb J=>k b (zzc _ J)) r⟩
 |.dct C os,v,A,k,h=>by simp only[RO]at h;simp only[fzO,Rep];obtain⟨a,n,B,e,g,z,rfl,r⟩:=h;exact⟨a,n,e,(k a zzg).1,(k a zzg).2,.inl g,z,ROs.fz m os _ B (λb J=>k b (zzc _ J)) r⟩
 |.tup os,v,A,k,h=>by simp only[RO]at h;simp only[fzO,Rep];obtain⟨a,s,e,g,r⟩:=h;exact⟨a,s,e,g,ROs.fz m os s A k r⟩
 |.dck C os,v,A,k,h=>by simp only[RO]at h;simp only[fzO,Rep];obtain⟨a,n,B,e,g,z,rfl,r⟩:=h;exact⟨a,n,e,(k a zzg).1,(k a zzg).2,g,z,ROs.fz m os _ B (λb J=>k b (zzc _ J)) r⟩
theorem ROs.fz(m:Mv K pp M H M' H):∀(os:List O) (xs:List V) (A:List Addr),(∀a∈A,a∉M'/\pp≠some a)->ROs K pp M H os xs A->Reps K pp M' H (fzOs os) xs
 |[],xs,A,_,h=>by simp only[ROs]at h;simp only[fzOs,Reps];exact h.1
 |o::os,xs,A,k,h=>by simp only[ROs]at h;simp only[fzOs,Reps];obtain⟨x,r,B,C,e,rfl,d,g⟩:=h;exact⟨x,r,e,RO.fz m o x B (λb J=>k b (zzo.mpr (.inl J))) d,ROs.fz m os r C (λb J=>k b (zzo.mpr (.inr J))) g⟩
end
theorem sN:∀os:List O,fzOs os=os.map fzO
 |[]=>rfl|o::os=>by simp only[fzOs,zzh,sN os]
end
structure Fx where
 pp:Option Addr
 M0:List Addr
 H0:Hp
abbrev DS:=List Sl
variable{ρ':DS}
variable[TB]
class Frm where
 L:zvd->Fx->List Addr->Hp->Prop
 W:DS->Addr->Prop
 cl:∀K (F:Fx) M H M' H',L K F M H->Mv K F.pp M H M' H'->L K F M' H'
instance(priority:=low) Frm.free:Frm:=⟨λ_ _ _ _=>True,λ_ _=>False,λ_ _ _ _ _ _ h _=>h⟩
variable[Frm]
structure Lv0(pp:Option Addr)(M:List Addr)(H:Hp):Prop where
 m:∀a∈M,H a≠none
 p:∀p,pp=some p->H p≠none
structure Lv(pp:Option Addr)(M:List Addr)(H:Hp):Prop extends Lv0 pp M H where
 t:Tabs H
theorem Lv0.sameQ{K:zvd}{pp:Option Addr}(l:Lv0 pp M H)(s:SameQ K pp H H'):Lv0 pp M H' :=
 ⟨λa b=>s.live a (l.m a b),λp e=>s.live p (l.p p e)⟩
theorem Lv.sameP{K:zvd}{pp:Option Addr}(l:Lv pp M H)(s:SameP K pp H H'):Lv pp M H':=⟨l.toLv0.sameQ s.toSameQ,s.tb l.t⟩
theorem Lv0.fresh{pp:Option Addr}(l:Lv0 pp M H)(h:H a=none):a∉M/\pp≠some a:=⟨λz=>l.m a z h,λz=>l.p a z h⟩
structure Lk(K:zvd)(F:Fx)(M:List Addr)(H:Hp):Prop where
 l:Frm.L K F M H
 t:Tabs H
theorem Lk.cl{K:zvd}{F:Fx}{M M':List Addr}{H H':Hp}(h:Lk K F M H)(m:Mv K F.pp M H M' H'):Lk K F M' H':=⟨Frm.cl _ _ _ _ _ _ h.l m,m.tb h.t⟩
section
variable(K:zvd)(F:Fx)(M:List Addr)(H:Hp)
def RSl:Sl->Option V->Prop
 |.nil,_=>True|.val d,o=>∃v,o=some v/\Rep K F.pp M H d v|.own g,o=>∃l b,o=some (.ref l)/\l∈M/\F.H0 l=none/\F.pp≠some l/\H l=some (.lst b)/\Reps K F.pp M H g b|.obj _,o=>∃v,o=some v|.pin w d,o=>∃v,o=some v/\v=w/\Rep K F.pp M H d v
def Ow:Sl->Option V->List Addr->Prop
 |.own _,o,A=>∃l,o=some (.ref l)/\A=[l]|.obj q,o,A=>A.Nodup/\∃v,o=some v/\RO K F.pp M H q v A|_,_,_=>True
def OwF(σ:St)(ρ:DS):Prop:=∃As:Nat->List Addr,(∀(i:Nat) s o,ρ[i]? = some s->σ[i]? = some o->Ow K F M H s o (As i))/\(∀i,∀a∈As i,a∈M/\F.H0 a=none/\F.pp≠some a)/\∀i j,i≠j->∀a∈As i,a∉As j
structure RSt(σ:St)(ρ:DS):Prop where
 len:σ.length=ρ.length
 sl:∀(i:Nat) s o,ρ[i]? = some s->σ[i]? = some o->RSl K F M H s o
 ow:OwF K F M H σ ρ
 sub:∀a∈F.M0,a∈M
 same:SameQ K F.pp F.H0 H
 old:∀a∈F.M0,F.H0 a≠none
 liv0:Lv0 F.pp M H
 lk:Lk K F M H
end
section
variable{F:Fx}{ρ:DS}
theorem RSt.liv(r:RSt K F M H σ ρ):Lv F.pp M H:=⟨r.liv0,r.lk.t⟩
theorem RSt.sameT(r:RSt K F M H σ ρ):SameP K F.pp F.H0 H:=⟨r.same,λ_=>r.lk.t⟩
omit [Frm] in
theorem Ow.mv{s:Sl}{o:Option V}{A:List Addr}(m:Mv K F.pp M H M' H')(k:∀a∈A,∀x,H a=some x->NT x->H' a=some x)(h:Ow K F M H s o A):Ow K F M' H' s o A:=by
 cases s with
 |nil=>trivial|val d=>trivial|pin w d=>trivial|own ds=>exact h|obj q =>
  obtain⟨b,v,e,h⟩:=h;exact⟨b,v,e,RO.mv m q v A k h⟩
omit [Frm] in
theorem OwF.keep(h:OwF K F M H σ ρ)(m:Mv K F.pp M H M' H')(k:∀a,a∈M->F.pp≠some a->F.H0 a=none->a∈M'/\∀x,H a=some x->NT x->H' a=some x):OwF K F M' H' σ ρ:=by obtain⟨As,q,d,r⟩:=h;refine⟨As,λi s o g n=>(q i s o g n).mv m λa b=>(k a (d i a b).1 (d i a b).2.2 (d i a b).2.1).2,λi a b=>⟨(k a (d i a b).1 (d i a b).2.2 (d i a b).2.1).1,(d i a b).2⟩,r⟩
omit [Frm] in
theorem OwF.step{n:St}(h:OwF K F M H σ ρ)(m:Mv K F.pp M H M' H')(i:Nat)(U:∀j,j≠i->n[j]? = σ[j]?)(L:∀j,j≠i->ρ'[j]? = ρ[j]?)(k:∀A,(∀s o,ρ[i]? = some s->σ[i]? = some o->Ow K F M H s o A)->(∀a∈A,a∈M/\F.H0 a=none/\F.pp≠some a)->∃B,(∀s o,ρ'[i]? = some s->n[i]? = some o->Ow K F M' H' s o B) /\
   (∀b∈B,b∈M'/\F.H0 b=none/\F.pp≠some b/\(b∈A∨b∉M))/\∀a,a∈M->F.pp≠some a->F.H0 a=none->a∉A->a∈M'/\∀x,H a=some x->NT x->H' a=some x):OwF K F M' H' n ρ':=by
 obtain⟨As,G,g,E⟩:=h;obtain⟨B,I,C,Y⟩:=k (As i) (G i) (g i);have old:∀j,j≠i->∀a∈As j,a∈M'/\∀x,H a=some x->NT x->H' a=some x:=λj e a d=>Y a (g j a d).1 (g j a d).2.2 (g j a d).2.1 (E j i e a d);refine⟨λj=>if j=i then B else As j,λj s o q r=>?_,λj a d=>?_,λj l e a d J=>?_⟩
 ·show Ow K F M' H' s o (if j=i then B else As j);by_cases e:j=i
  ·subst e;rw[zzn rfl];exact I s o q r
  ·rw[zzi e];rw[L j e]at q;rw[U j e]at r;exact(G j s o q r).mv m λa d=>(old j e a d).2
 ·replace d:a∈(if j=i then B else As j):=d
  by_cases e:j=i
  ·subst e;rw[zzn rfl]at d;exact⟨(C a d).1,(C a d).2.1,(C a d).2.2.1⟩
  ·rw[zzi e]at d;exact⟨(old j e a d).1,(g j a d).2⟩
 ·replace d:a∈(if j=i then B else As j):=d
  replace J:a∈(if l=i then B else As l):=J
  by_cases q:j=i
  ·subst q;rw[zzn rfl]at d;rw[zzi (Ne.symm e)]at J;rcases (C a d).2.2.2 with z|z
   ·exact E j l e a z J
   ·exact z (g l a J).1
  ·rw[zzi q]at d;by_cases r:l=i
   ·subst r;rw[zzn rfl]at J;rcases (C a J).2.2.2 with z|z
    ·exact E j l e a d z
    ·exact z (g j a d).1
   ·rw[zzi r]at J;exact E j l e a d J
omit [Frm] in
theorem OwF.none(h:∀(i:Nat) s,ρ[i]? = some s->(∀ds,s ≠ .own ds)/\∀q,s ≠ .obj q):OwF K F M H σ ρ:=by
 refine⟨λ_=>[],λi s o b _=>?_,λ_ _ h=>(by simp at h),λ_ _ _ _ h=>(by simp at h)⟩;cases s with
 |nil=>trivial|val d=>trivial|pin w d=>trivial|own ds=>exact absurd rfl ((h i _ b).1 ds)|obj q=>exact absurd rfl ((h i _ b).2 q)
theorem RSt.own(r:RSt K F M H σ ρ)(i j:Nat)(ds es:List D)(a:Addr)(h:ρ[i]? = some (.own ds))(n:ρ[j]? = some (.own es))(q:σ[i]? = some (some (.ref a)))(J:σ[j]? = some (some (.ref a))):i=j:=by
 obtain⟨As,b,k2,L⟩:=r.ow;obtain⟨l,e,d⟩:=b i _ _ h q;cases e;obtain⟨l,e,g⟩:=b j _ _ n J;cases e;by_cases z:i=j
 ·exact z
 ·exact absurd (by rw[g];simp) (L i j z a (by rw[d];simp))
omit [Frm] in
theorem SameP.ow(s:SameP K F.pp H H')(a:Addr)(_:a∈M)(p:F.pp≠some a)(_:F.H0 a=none):a∈M/\∀x,H a=some x->NT x->H' a=some x:=⟨‹_›,λx e n=>s.keep a x e (nw p n)⟩
theorem RSt.sameP(r:RSt K F M H σ ρ)(s:SameP K F.pp H H'):RSt K F M H' σ ρ:=by
 refine⟨r.len,λi q o b g=>?_,r.ow.keep s.mv λa b g z=>s.ow a b g z,r.sub,r.same.trans s.toSameQ,r.old,r.liv0.sameQ s.toSameQ,r.lk.cl s.mv⟩;have:=r.sl i q o b g;cases q with
 |nil=>trivial|val d=>obtain⟨v,e,h⟩:=this;exact⟨v,e,h.mv s.mv⟩
 |pin w d=>obtain⟨v,e,L,h⟩:=this;exact⟨v,e,L,h.mv s.mv⟩
 |own ds =>
  obtain⟨l,G,e,E,n,J,C,U⟩:=this;exact⟨l,G,e,E,n,J,s.keep l _ C (nw J),U.mv s.mv⟩
 |obj q=>exact this
theorem RSt.at(r:RSt K F M H σ ρ){s:Sl}(h:ρ[i]? = some s):∃o,σ[i]? = some o/\RSl K F M H s o:=by
 have b:i<σ.length:=by rw[r.len];exact(zzx.mp h).1
 exact⟨σ[i],by simp[b],r.sl i s _ h (by simp[b])⟩
omit [Frm] in
theorem OwF.drop{b:St}(h:OwF K F M H σ ρ)(i:Nat)(L:∀j,j≠i->b[j]? = σ[j]?)(J:∀j,j≠i->ρ'[j]? = ρ[j]?)(g:∀s,ρ'[i]? = some s->(∀ds,s ≠ .own ds)/\∀q,s ≠ .obj q):OwF K F M H b ρ' :=
 h.step .refl i L J λA _ _=>⟨[],λs o e _=>(by
  cases s with
  |nil=>trivial|val d=>trivial|pin w d=>trivial|own ds=>exact absurd rfl ((g _ e).1 ds)|obj q=>exact absurd rfl ((g _ e).2 q)),λ_ h=>(by simp at h),λa n _ _ _=>⟨n,λ_ e _=>e⟩⟩
omit [Frm] in
theorem aL{l:List α}{x y:α}(h:(l.set i x)[i]? = some y):y=x:=by
 have b:i<l.length:=by have:=(zzx.mp h).1;simpa using this
 simp[b]at h;exact h.symm
theorem RSt.set(r:RSt K F M H σ ρ){d:D}{v:V}(h:Rep K F.pp M H d v)(i:Nat):RSt K F M H (σ.set i (some v)) (ρ.set i (.val d)):=by
 refine⟨by simp[r.len],λj s o b g=>?_,r.ow.drop i (λj e=>zzH (Ne.symm e)) (λj e=>zzH (Ne.symm e)) (λs e=>?_),r.sub,r.same,r.old,r.liv0,r.lk⟩
 ·by_cases e:i=j
  ·subst e;rw[aL b,aL g];exact⟨v,rfl,h⟩
  ·rw[zzH e]at b g;exact r.sl j s o b g
 ·rw[aL e];exact⟨λds z=>(by cases z),λq z=>(by cases z)⟩
end
end
variable[TB]
section
variable[Frm]
abbrev DE:=DS->(D->DS->Prop)->Prop
variable{ta te:DE}
abbrev DT:=DS->(Bool->DS->Prop)->Prop
abbrev DA:=DS->(List D->DS->Prop)->Prop
structure DEnds where
 nx:DS->Prop
 rt:D->Prop
 bk:DS->Prop:=λ_=>False
 ct:DS->Prop:=λ_=>False
variable{E:DEnds}
abbrev DTS:=DEnds->DS->Prop
variable{tb:DTS}
noncomputable def slot:DS->Nat->Sl
 |[],_=>.nil|s::_,0=>s|_::r,n+1=>slot r n
theorem aG:∀{ρ:DS} {i:Nat} {s:Sl},slot ρ i=s->s ≠ .nil->ρ[i]? = some s
 |[],_,_,h,n=>absurd h.symm n|_::_,0,_,h,_=>by subst h;rfl
 |_::r,i+1,s,h,n=>by simpa using aG (ρ:=r) (i:=i) h n
section
variable{F:Fx}
structure PED(X:Cx)(e:Expr)(t:DE):Prop where
 mono:∀ρ P P',(∀d ρ',P d ρ'->P' d ρ')->t ρ P->t ρ P'
 run:∃T:TE,PE X e T/\∀{F:Fx} M H σ ρ (Q:VK),RSt X.K F M H σ ρ ->
  (t ρ λd ρ'=>∀M' H' v,Mv X.K F.pp M H M' H'->RSt X.K F M' H' σ ρ'->Rep X.K F.pp M' H' d v->Q v H')->T σ H Q
structure PTD(X:Cx)(e:Expr)(t:DT):Prop where
 mono:∀ρ P P',(∀b ρ',P b ρ'->P' b ρ')->t ρ P->t ρ P'
 run:∃T:TT,PT X e T/\∀{F:Fx} M H σ ρ (Q:Bool->Hp->Prop),RSt X.K F M H σ ρ ->
  (t ρ λb ρ'=>∀M' H',Mv X.K F.pp M H M' H'->RSt X.K F M' H' σ ρ'->Q b H')->T σ H Q
structure PWD(X:Cx)(e:Expr)(t:DT):Prop where
 mono:∀ρ P P',(∀b ρ',P b ρ'->P' b ρ')->t ρ P->t ρ P'
 run:∃T:TT,PW X e T/\∀{F:Fx} M H σ ρ (Q:Bool->Hp->Prop),RSt X.K F M H σ ρ ->
  (t ρ λb ρ'=>∀M' H',Mv X.K F.pp M H M' H'->RSt X.K F M' H' σ ρ'->Q b H')->T σ H Q
structure PAD(X:Cx)(es:List Expr)(t:DA):Prop where
 mono:∀ρ P P',(∀d ρ',P d ρ'->P' d ρ')->t ρ P->t ρ P'
 run:∃T:TA,PA X es T/\∀{F:Fx} M H σ ρ (Q:List V->Hp->Prop),RSt X.K F M H σ ρ ->
  (t ρ λds ρ'=>∀M' H' vs,Mv X.K F.pp M H M' H'->RSt X.K F M' H' σ ρ'->Reps X.K F.pp M' H' ds vs->Q vs H')->T σ H Q
abbrev dC(d:D):DE:=λb Q=>Q d b
theorem PED.con{d:D}(h:PE X e (tC v))(r:∀pp M H,Rep X.K pp M H d v):PED X e (dC d) :=
 ⟨λ_ _ _ f h=>f _ _ h,_,h,λ{F} M H _ _ _ J q=>q M H v .refl J (r _ M H)⟩
theorem ae{i j pos}:PED X (.Constant (.int i) j pos) (dC (.int i)):=.con bq λ_ _ _=>by simp only[Rep]
theorem gr{i j pos}:PED X (.Constant (.bool i) j pos) (dC (.bl i)):=.con Kj λ_ _ _=>by simp only[Rep]
theorem cq{j pos}:PED X (.Constant .none j pos) (dC .non):=.con HP λ_ _ _=>by simp only[Rep]
theorem al{i j pos}:PED X (.Constant (.str i) j pos) (dC (.str i)):=.con HQ λ_ _ _=>by simp only[Rep]
theorem AY{n:String}(J:Gl X x)(b:X.mg x=none)(L:bootBuiltins x=some (.type n))(d:x ≠ "__name__":=by decide)(hd:(x == ("__debug__" : Str))=false:=by decide):PED X (.Name x pos) (dC (.ty n)) :=
 .con (FF (v:=.ty n) J b L rfl d hd) λ_ _ _=>by simp only[Rep]
def GI(i:Nat)(ρ:DS)(Q:D->DS->Prop):Sl->Prop
 |.val d=>Q d ρ|.own b=>Q (.lst b) (ρ.set i (.val (.lst b)))|.obj q=>Q (fzO q) (ρ.set i (.val (fzO q)))|.pin _ d=>Q d ρ|.nil=>False
abbrev dVar(i:Nat):DE:=λb Q=>GI i b Q (slot b i)
theorem RSt.freeze{K:zvd}{ρ:DS}{ds:List D}(r:RSt K F M H σ ρ)(h:ρ[i]? = some (.own ds)) :
  ∃M' v,σ[i]? = some (some v)/\Mv K F.pp M H M' H/\RSt K F M' H σ (ρ.set i (.val (.lst ds)))/\Rep K F.pp M' H (.lst ds) v:=by
 obtain⟨o,J,l,xs,rfl,hm,y,T,E,hr⟩:=r.at h;have m:Mv K F.pp M H (M.filter λa=>decide (a≠l)) H:=.less λa b=>(zzY.mp b).1;have G:Rep K F.pp (M.filter λa=>decide (a≠l)) H (.lst ds) (.ref l):=by simp only[Rep];exact⟨l,xs,rfl,by simp,T,E,hr.mv m⟩
 refine⟨_,_,J,m,⟨by simp[r.len],λj s o g n=>?_,r.ow.step m i (λ_ _=>rfl) (λj e=>zzH (Ne.symm e)) (λA B _=>⟨[],λs o e _=>?_,λ_ h=>(by simp at h),λa b _ _ N=>⟨?_,λ_ e _=>e⟩⟩),λa b=>?_,r.same,r.old,?_,r.lk.cl m⟩,G⟩
 ·by_cases e:i=j
  ·subst e;rw[J]at n;rw[aL g];cases n;exact⟨_,rfl,G⟩
  ·rw[zzH e]at g;have q:=r.sl j s o g n;cases s with
   |nil=>trivial|val d=>obtain⟨v,e,q⟩:=q;exact⟨v,e,q.mv m⟩
   |pin w d=>obtain⟨v,e,x,q⟩:=q;exact⟨v,e,x,q.mv m⟩
   |own es =>
    obtain⟨C,ys,rfl,Y,L,I,U,Q⟩:=q;refine⟨C,ys,rfl,zzY.mpr ⟨Y,?_⟩,L,I,U,Q.mv m⟩;by_cases z:C=l
    ·subst z;exact absurd (r.own i j _ _ _ h g J n) e
    ·simpa using z
   |obj q=>exact ‹_›
 ·rw[aL e];trivial
 ·obtain⟨l2,c,u⟩:=B _ _ h J;cases c;refine zzY.mpr ⟨b,?_⟩;by_cases z:a=l
  ·subst z;exact absurd (by rw[u];simp) N
  ·simpa using z
 ·refine zzY.mpr ⟨r.sub a b,?_⟩;by_cases z:a=l
  ·subst z;exact absurd y (r.old a b)
  ·simpa using z
 ·exact⟨λa b=>r.liv.m a (zzY.mp b).1,r.liv.p⟩
theorem RSt.objAt{K:zvd}{ρ:DS}{q:O}(r:RSt K F M H σ ρ)(h:ρ[i]? = some (.obj q)) :
  ∃v A,σ[i]? = some (some v)/\A.Nodup/\RO K F.pp M H q v A/\(∀a∈A,a∈M/\F.H0 a=none/\F.pp≠some a)/\∀(j:Nat) s o,j≠i->ρ[j]? = some s->σ[j]? = some o->∀l,(∃ds,s=.own ds)->o=some (.ref l)->l∉A:=by
 obtain⟨o,L,_⟩:=r.at h;obtain⟨As,b,I,Y⟩:=r.ow;obtain⟨Q,v,rfl,U⟩:=b i _ _ h L;refine⟨v,As i,L,Q,U,I i,λj s o e n z l G J C=>?_⟩;obtain⟨ds,rfl⟩:=G;subst J;obtain⟨l2,d,g⟩:=b j _ _ n z;cases d;exact Y j i e l (by rw[g];simp) C
theorem RSt.freezeO{K:zvd}{ρ:DS}{q:O}(r:RSt K F M H σ ρ)(h:ρ[i]? = some (.obj q)) :
  ∃M' v,σ[i]? = some (some v)/\Mv K F.pp M H M' H/\RSt K F M' H σ (ρ.set i (.val (fzO q)))/\Rep K F.pp M' H (fzO q) v:=by
 obtain⟨As,c,I,u⟩:=r.ow;obtain⟨o,Q,_⟩:=r.at h;obtain⟨nd,v,rfl,hq⟩:=c i _ _ h Q;have m:Mv K F.pp M H (M.filter λa=>decide (a∉As i)) H:=.less λa b=>(zzY.mp b).1;have B:Rep K F.pp (M.filter λa=>decide (a∉As i)) H (fzO q) v:=RO.fz m q v (As i) (λa b=>⟨λz=>absurd b (by simpa using(zzY.mp z).2),(I i a b).2.2⟩) hq;refine⟨_,_,Q,m,⟨by simp[r.len],λj s o C G=>?_,⟨λj=>if j=i then[] else As j,λj s o g n=>?_,λj a b=>?_,λj l e a b J=>?_⟩,λa b=>?_,r.same,r.old,?_,r.lk.cl m⟩,B⟩
 ·by_cases e:i=j
  ·subst e;rw[Q]at G;rw[aL C];cases G;exact⟨_,rfl,B⟩
  ·rw[zzH e]at C;have y:=r.sl j s o C G;cases s with
   |nil=>trivial|val d=>obtain⟨v,e,q⟩:=y;exact⟨v,e,q.mv m⟩
   |pin w d=>obtain⟨v,e,ew,q⟩:=y;exact⟨v,e,ew,q.mv m⟩
   |own es =>
    obtain⟨A,ys,rfl,Y,L,E,U,N⟩:=y;refine⟨A,ys,rfl,zzY.mpr ⟨Y,?_⟩,L,E,U,N.mv m⟩;obtain⟨l2,n,T⟩:=c j _ _ C G;cases n;simpa using u j i (Ne.symm e) A (by rw[T];simp)
   |obj q=>exact ‹_›
 ·show Ow K F _ H s o (if j=i then[] else As j);by_cases e:j=i
  ·subst e;rw[aL g];trivial
  ·rw[zzi e];rw[zzH (Ne.symm e)]at g;exact(c j s o g n).mv m λa _ x z _=>z
 ·replace b:a∈(if j=i then[] else As j):=b
  by_cases e:j=i
  ·rw[zzn e]at b;simp at b
  ·rw[zzi e]at b;exact⟨zzY.mpr ⟨(I j a b).1,by simpa using u j i e a b⟩,(I j a b).2⟩
 ·replace b:a∈(if j=i then[] else As j):=b
  replace J:a∈(if l=i then[] else As l):=J
  by_cases g:j=i
  ·rw[zzn g]at b;simp at b
  ·by_cases n:l=i
   ·rw[zzn n]at J;simp at J
   ·rw[zzi g]at b;rw[zzi n]at J;exact u j l e a b J
 ·refine zzY.mpr ⟨r.sub a b,?_⟩;have:a∉As i:=λz=>r.old a b (I i a z).2.1;simpa using this
 ·exact⟨λa b=>r.liv.m a (zzY.mp b).1,r.liv.p⟩
theorem IZ(i:Nat)(h:PE X e (tVar i)):PED X e (dVar i):=by
 refine⟨λb P P' f h=>?_,_,h,λ{F} M H σ b Q U h=>?_⟩
 ·unfold dVar at h ⊢;cases e:slot b i with
  |nil=>rw[e]at h;exact h|val d=>rw[e]at h;exact f _ _ h|own g=>rw[e]at h;exact f _ _ h|obj q=>rw[e]at h;exact f _ _ h|pin w d=>rw[e]at h;exact f _ _ h
 ·unfold dVar at h;cases e:slot b i with
  |nil=>rw[e]at h;exact h.elim|val d =>
   rw[e]at h;obtain⟨o,J,v,rfl,r⟩:=U.at (aG e (by intro z;cases z));exact⟨v,J,h M H v .refl U r⟩
  |pin w d =>
   rw[e]at h;obtain⟨o,J,v,rfl,_,r⟩:=U.at (aG e (by intro z;cases z));exact⟨v,J,h M H v .refl U r⟩
  |own g =>
   rw[e]at h;obtain⟨M',v,J,m,L,r⟩:=U.freeze (aG e (by intro z;cases z));exact⟨v,J,h M' H v m L r⟩
  |obj q =>
   rw[e]at h;obtain⟨M',v,J,m,L,r⟩:=U.freezeO (aG e (by intro z;cases z));exact⟨v,J,h M' H v m L r⟩
structure OpD(X:Cx)(f:Value->Value->Sem Value)(g:D->D->(D->Prop)->Prop):Prop where
 mono:∀x y P P',(∀d,P d->P' d)->g x y P->g x y P'
 run:∃r:R2,OpR X f r/\∀{pp:Option Addr} M H x y v u (Q:VK),Lv pp M H->Rep X.K pp M H x v->Rep X.K pp M H y u ->
  g x y (λd=>∀H' w,SameP X.K pp H H'->Rep X.K pp M H' d w->Q w H')->r v u H Q
abbrev dOp(g:D->D->(D->Prop)->Prop)(ta tb:DE):DE:=λb Q=>ta b λx J=>tb J λy L=>g x y λd=>Q d L
variable{a b:Expr}{ta tb tc:DE}{g g':D->D->(D->Prop)->Prop}
theorem gs{g:D->D->(D->Prop)->Prop}(L:∀x y P P',(∀d,P d->P' d)->g x y P->g x y P')(q:PED X a ta)(J:PED X b tb):∀ρ P P',(∀d n,P d n->P' d n)->dOp g ta tb ρ P->dOp g ta tb ρ P' :=
 λρ _ _ f h=>q.mono _ _ _ (λ_ _ h=>J.mono _ _ _ (λ_ _ h=>L _ _ _ _ (λ_ h=>f _ _ h) h) h) h
theorem ma{g:D->D->(D->Prop)->Prop}{r:R2}{z C:TE}(j:∀M H x y v u (Q:VK),Lv F.pp M H->Rep X.K F.pp M H x v->Rep X.K F.pp M H y u ->
   g x y (λd=>∀H' w,SameP X.K F.pp H H'->Rep X.K F.pp M H' d w->Q w H')->r v u H Q)(L:∀x y P q,(∀d,P d->q d)->g x y P->g x y q)(e:PED X a ta)(i:PED X b tb)(ra:∀M H σ ρ (Q:VK),RSt X.K F M H σ ρ->(ta ρ λd n=>∀M' H' v,Mv X.K F.pp M H M' H'->RSt X.K F M' H' σ n->Rep X.K F.pp M' H' d v->Q v H')->z σ H Q)(rb:∀M H σ ρ (Q:VK),RSt X.K F M H σ ρ->(tb ρ λd n=>∀M' H' v,Mv X.K F.pp M H M' H'->RSt X.K F M' H' σ n->Rep X.K F.pp M' H' d v->Q v H')->C σ H Q){ρ:DS}{Q:VK}(p:RSt X.K F M H σ ρ)(h:dOp g ta tb ρ λd n=>∀M' H' v,Mv X.K F.pp M H M' H'->RSt X.K F M' H' σ n->Rep X.K F.pp M' H' d v->Q v H'):tOp r z C σ H Q:=by
 refine ra M H σ ρ _ p (e.mono _ _ _ (λx Y h M1 I v l U m=>?_) h);refine rb M1 I σ Y _ U (i.mono _ _ _ (λy ρ2 h M2 c u G J o=>?_) h);refine j M2 c x y v u _ J.liv (m.mv G) o (L _ _ _ _ (λd h H' w s r=>?_) h);exact h M2 H' w ((l.trans G).trans s.mv) (J.sameP s) r
theorem bc{op:Operator}(L:OpD X (binaryOp op) g)(d:PED X a ta)(J:PED X b tb):PED X (.BinOp a op b pos) (dOp g ta tb):=by obtain⟨r,Y,U⟩:=L.run;obtain⟨Ta,n,s⟩:=d.run;obtain⟨Tb,q,z⟩:=J.run;exact⟨gs L.mono d J,_,dL Y n q,λ{F} M H σ ρ Q C h=>ma U L.mono d J s z C h⟩
theorem gc(L:OpD X (compareOp op) g)(d:PED X a ta)(J:PED X b tb)(n:behindInMarks op b=false):PED X (.Compare a [op] [b] pos) (dOp g ta tb):=by obtain⟨r,Y,U⟩:=L.run;obtain⟨Ta,q,z⟩:=d.run;obtain⟨Tb,s,C⟩:=J.run;exact⟨gs L.mono d J,_,FM Y q s n,λ{F} M H σ ρ Q G h=>ma U L.mono d J z C G h⟩
def blD:D->(Bool->Prop)->Prop
 |.bl b,P=>P b|_,_=>False
theorem nU{d:D}{P P':Bool->Prop}(f:∀b,P b->P' b)(h:blD d P):blD d P':=by cases d<;>first|exact h|exact f _ h
abbrev dB(t:DE):DT:=λn Q=>t n λd h=>blD d λb=>Q b h
theorem me{K:zvd}{pp:Option Addr}{d:D}{P:Bool->Prop}(r:Rep K pp M H d v)(h:blD d P):∃k,v=.bl k/\P k:=by cases d<;>first|exact h.elim|(simp only[Rep]at r;exact⟨_,r,h⟩)
theorem wD(n:PED X a ta):∀ρ P P',(∀b d,P b d->P' b d)->dB ta ρ P->dB ta ρ P':=λ_ _ _ f h=>n.mono _ _ _ (λ_ _ h=>nU (λ_ h=>f _ _ h) h) h
theorem az(L:OpD X (compareOp op) g)(n:PED X a ta)(J:PED X b tb)(q:behindInMarks op b=false):PTD X (.Compare a [op] [b] pos) (dB (dOp g ta tb)):=by obtain⟨r,s,Y⟩:=L.run;obtain⟨Ta,z,G⟩:=n.run;obtain⟨Tb,C,I⟩:=J.run;refine⟨wD (X:=X) (a:=.Compare a [op] [b] pos) (gc L n J q),_,oA s z C q,λ{F} M H σ ρ Q c h=>?_⟩;refine ma Y L.mono n J G I c (gs L.mono n J _ _ _ (λd ρ' h M' H' v m U r=>?_) h);obtain⟨k,e,h⟩:=me r h;exact⟨k,e,h M' H' m U⟩
theorem br{t:DE}(h:PED X e t)(he:∀whole,isTrue e X.env whole=(do let v ←whole;standAt e.pos;holding [v] (truthy v)):=by intro _;rfl):PTD X e (dB t):=by obtain⟨T,p,r⟩:=h.run;refine⟨wD h,_,HR p he,λ{F} M H σ n Q L q=>?_⟩;refine r M H σ n _ L (h.mono _ _ _ (λd ρ' h M' H' v m J r=>?_) q);obtain⟨k,e,h⟩:=me r h;exact⟨k,e,h M' H' m J⟩
structure Br(b:Bool)(A B:Prop):Prop where
 yes:b=true->A
 no:b=false->B
theorem Br.t{A:Prop}(h:A):Br true A B:=⟨λ_=>h,λe=>nomatch e⟩
theorem Br.f{A:Prop}(h:B):Br false A B:=⟨(λe=>nomatch e),λ_=>h⟩
abbrev dNot(t:DT):DT:=λh Q=>t h λb d=>Q (!b) d
abbrev dAnd(t u:DT):DT:=λh Q=>t h λb d=>Br b (u d Q) (Q false d)
abbrev dOr(t u:DT):DT:=λh Q=>t h λb d=>Br b (Q true d) (u d Q)
variable{tA tB:DT}{rest:List Expr}
theorem bQ(h:PTD X a tA):PTD X (.UnaryOp .Not a pos) (dNot tA):=by obtain⟨T,p,r⟩:=h.run;exact⟨λ_ _ _ f q=>h.mono _ _ _ (λ_ _ q=>f _ _ q) q,_,HV p,λ{F} M H σ d Q J q=>r M H σ d _ J q⟩
theorem PWD.pt{e:Expr}{t:DT}(h:PWD X e t):PTD X e t:=by obtain⟨T,p,r⟩:=h.run;exact⟨h.mono,T,p.pt,r⟩
theorem sO(h:PTD X a tA):PWD X (.BoolOp .And [a] pos) tA:=by obtain⟨T,p,r⟩:=h.run;exact⟨h.mono,T,FG p,r⟩
theorem bR(h:PTD X a tA):PWD X (.BoolOp .Or [a] pos) tA:=by obtain⟨T,p,r⟩:=h.run;exact⟨h.mono,T,EA p,r⟩
theorem xL(d:PTD X a tA)(L:PWD X (.BoolOp .And (b::rest) pos) tB):PWD X (.BoolOp .And (a::b::rest) pos) (dAnd tA tB):=by
 obtain⟨T,p,r⟩:=d.run;obtain⟨U,q,s⟩:=L.run;refine⟨λ_ _ _ f h=>d.mono _ _ _ (λ_ _ h=>⟨λe=>L.mono _ _ _ f (h.yes e),λe=>f _ _ (h.no e)⟩) h,_,HS p q,λ{F} M H σ i Q g h=>?_⟩;refine r M H σ i _ g (d.mono _ _ _ (λc G h M1 n z J=>?_) h);cases c with
 |true=>exact iteT (s M1 n σ G _ J (L.mono _ _ _ (λc ρ2 h M2 C I Y=>h M2 C (z.trans I) Y) (h.yes rfl)))
 |false=>exact iteF (h.no rfl M1 n z J)
theorem cX(d:PTD X a tA)(L:PWD X (.BoolOp .Or (b::rest) pos) tB):PWD X (.BoolOp .Or (a::b::rest) pos) (dOr tA tB):=by
 obtain⟨T,p,r⟩:=d.run;obtain⟨U,q,s⟩:=L.run;refine⟨λ_ _ _ f h=>d.mono _ _ _ (λ_ _ h=>⟨λe=>f _ _ (h.yes e),λe=>L.mono _ _ _ f (h.no e)⟩) h,_,HU p q,λ{F} M H σ i Q g h=>?_⟩;refine r M H σ i _ g (d.mono _ _ _ (λc G h M1 n z J=>?_) h);cases c with
 |true=>exact iteT (h.yes rfl M1 n z J)|false=>exact iteF (s M1 n σ G _ J (L.mono _ _ _ (λc ρ2 h M2 C I Y=>h M2 C (z.trans I) Y) (h.no rfl)))
abbrev KR(t u:DE):DE:=λn Q=>t n λd h=>blD d λb=>Br b (u h Q) (Q (.bl false) h)
abbrev dOrV(t u:DE):DE:=λn Q=>t n λd h=>blD d λb=>Br b (Q (.bl true) h) (u h Q)
theorem bz{K:zvd}{pp:Option Addr}{b:Bool}:Rep K pp M H (.bl b) (.bl b):=by simp only[Rep]
theorem bL{K:zvd}{pp:Option Addr}{b:Int}:Rep K pp M H (.int b) (.int b):=by simp only[Rep]
theorem ie{K:zvd}{pp:Option Addr}{b:Str}:Rep K pp M H (.str b) (.str b):=by simp only[Rep]
theorem oY{op}{t:DE}(h:PED X a t):PED X (.BoolOp op [a] pos) t:=by obtain⟨T,p,r⟩:=h.run;exact⟨h.mono,T,HW p,r⟩
theorem oZ(n:PED X a ta)(L:PED X (.BoolOp .And (b::rest) pos) tb):PED X (.BoolOp .And (a::b::rest) pos) (KR ta tb):=by
 obtain⟨T,p,r⟩:=n.run;obtain⟨U,q,s⟩:=L.run;refine⟨λ_ _ _ f h=>n.mono _ _ _ (λ_ _ h=>nU (λ_ h=>⟨λe=>L.mono _ _ _ f (h.yes e),λe=>f _ _ (h.no e)⟩) h) h,_,HX p q,λ{F} M H σ l Q j h=>?_⟩;refine r M H σ l _ j (n.mono _ _ _ (λd I h M1 z v C J i=>?_) h);obtain⟨c,e,h⟩:=me i h;refine⟨c,e,?_⟩;cases c with
 |true=>exact iteT (s M1 z σ I _ J (L.mono _ _ _ (λc ρ2 h M2 G v g Y=>h M2 G v (C.trans g) Y) (h.yes rfl)))
 |false=>exact iteF (h.no rfl M1 z _ C J bz)
theorem Ja(n:PED X a ta)(L:PED X (.BoolOp .Or (b::rest) pos) tb):PED X (.BoolOp .Or (a::b::rest) pos) (dOrV ta tb):=by
 obtain⟨T,p,r⟩:=n.run;obtain⟨U,q,s⟩:=L.run;refine⟨λ_ _ _ f h=>n.mono _ _ _ (λ_ _ h=>nU (λ_ h=>⟨λe=>f _ _ (h.yes e),λe=>L.mono _ _ _ f (h.no e)⟩) h) h,_,Kl p q,λ{F} M H σ l Q j h=>?_⟩;refine r M H σ l _ j (n.mono _ _ _ (λd I h M1 z v C J i=>?_) h);obtain⟨c,e,h⟩:=me i h;refine⟨c,e,?_⟩;cases c with
 |true=>exact iteT (h.yes rfl M1 z _ C J bz)|false=>exact iteF (s M1 z σ I _ J (L.mono _ _ _ (λc ρ2 h M2 G v g Y=>h M2 G v (C.trans g) Y) (h.no rfl)))
abbrev rq(g g':D->D->(D->Prop)->Prop)(ta tb tc:DE):DE:=λh Q=>ta h λx L=>tb L λy J=>g x y λd=>blD d λk=>Br k (tc J λz U=>g' y z λd=>Q d U) (Q (.bl false) J)
theorem pf(U:∀x y P P',(∀d,P d->P' d)->g x y P->g x y P')(J:∀x y P P',(∀d,P d->P' d)->g' x y P->g' x y P')(q:PED X a ta)(L:PED X b tb)(r:PED X c tc) :
  ∀ρ P P',(∀d n,P d n->P' d n)->rq g g' ta tb tc ρ P->rq g g' ta tb tc ρ P' :=
 λ_ _ _ f h=>q.mono _ _ _ (λ_ _ h=>L.mono _ _ _ (λ_ _ h=>U _ _ _ _ (λ_ h=>nU (λ_ h=>⟨λe=>r.mono _ _ _ (λ_ _ h=>J _ _ _ _ (λ_ h=>f _ _ h) h) (h.yes e),λe=>f _ _ (h.no e)⟩) h) h) h) h
theorem rA(o:OpD X (compareOp op) g)(J:OpD X (compareOp op') g')(j:PED X a ta)(l:PED X b tb)(m:PED X c tc)  :
  ∃(r G:R2) (n q C:TE),OpR X (compareOp op) r/\OpR X (compareOp op') G/\PE X a n/\PE X b q/\PE X c C/\∀{F:Fx} M H σ ρ (Q:VK),RSt X.K F M H σ ρ ->
  (rq g g' ta tb tc ρ λd I=>∀M' H' v,Mv X.K F.pp M H M' H'->RSt X.K F M' H' σ I->Rep X.K F.pp M' H' d v->Q v H')->zQ r G n q C σ H Q:=by
 obtain⟨r,hr,hg⟩:=o.run;obtain⟨G,a2,a0⟩:=J.run;obtain⟨n,pa,ra⟩:=j.run;obtain⟨q,pb,rb⟩:=l.run;obtain⟨C,pc,rc⟩:=m.run;refine⟨r,G,n,q,C,hr,a2,pa,pb,pc,λ{F} M H σ ρ Q rs h=>?_⟩;refine ra M H σ ρ _ rs (j.mono _ _ _ (λx a4 h M1 N v m1 a3 r1=>?_) h);refine rb M1 N σ a4 _ a3 (l.mono _ _ _ (λy a5 h M2 T u p L E=>?_) h);refine hg M2 T x y v u _ L.liv (r1.mv p) E (o.mono _ _ _ _ (λd h H' w s r=>?_) h);obtain⟨k,e,h⟩:=me r h;refine⟨k,e,?_⟩;have U:=L.sameP s;have A:Mv X.K F.pp M H M2 H':=(m1.trans p).trans s.mv;cases k with
 |false=>exact iteF (h.no rfl M2 H' _ A U bz)|true =>
  refine iteT (rc M2 H' σ a5 _ U (m.mono _ _ _ (λz ρ3 h i H4 w' B Y r4=>?_) (h.yes rfl)));refine a0 i H4 y z u w' _ Y.liv ((E.mv s.mv).mv B) r4 (J.mono _ _ _ _ (λd h H5 w s r=>?_) h);exact h i H5 w ((A.trans B).trans s.mv) (Y.sameP s) r
theorem kM(Y:OpD X (compareOp op) g)(J:OpD X (compareOp op') g')(d:PED X a ta)(U:PED X b tb)(n:PED X c tc)(q:lastMarks [op,op'] [b,c]=false:=by with_unfolding_all rfl):PED X (.Compare a [op,op'] [b,c] pos) (rq g g' ta tb tc):=by obtain⟨r,r',Ta,Tb,Tc,s,L,z,C,G,h⟩:=rA Y J d U n;exact⟨pf Y.mono J.mono d U n,_,CM s L z C G q,h⟩
theorem xM(U:OpD X (compareOp op) g)(J:OpD X (compareOp op') g')(n:PED X a ta)(L:PED X b tb)(s:PED X c tc)(z:lastMarks [op,op'] [b,c]=false:=by with_unfolding_all rfl):PTD X (.Compare a [op,op'] [b,c] pos) (dB (rq g g' ta tb tc)):=by obtain⟨r,r',Ta,Tb,Tc,G,Y,I,i,j,h⟩:=rA U J n L s;refine⟨wD (X:=X) (a:=.Compare a [op,op'] [b,c] pos) (kM U J n L s z),_,CN G Y I i j z,λ{F} M H σ o Q l q=>?_⟩;refine h M H σ o _ l (pf U.mono J.mono n L s _ _ _ (λd ρ' h M' H' v m C r=>?_) q);obtain⟨k,e,h⟩:=me r h;exact⟨k,e,h M' H' m C⟩
variable{tL:DA}
abbrev AZ:DA:=λd Q=>Q [] d
abbrev xN(t:DE)(u:DA):DA:=λh Q=>t h λx J=>u J λd L=>Q (x::d) L
theorem ac:PAD X [] AZ:=⟨λ_ _ _ f h=>f _ _ h,_,bP,λ{F} M H _ _ _ J h=>h M H [] .refl J .nil⟩
theorem aa(d:PED X e ta)(J:PAD X es tL)(hs:starEach (e::es) X.env=(false,eval e X.env)::starEach es X.env:=by rfl):PAD X (e::es) (xN ta tL):=by obtain⟨T,p,r⟩:=d.run;obtain⟨U,q,s⟩:=J.run;refine⟨λ_ _ _ f h=>d.mono _ _ _ (λ_ _ h=>J.mono _ _ _ (λ_ _ h=>f _ _ h) h) h,_,aU p q hs,λ{F} M H σ g Q c h=>?_⟩;refine r M H σ g _ c (d.mono _ _ _ (λx G h M1 z v I L a=>?_) h);exact s M1 z σ G _ L (J.mono _ _ _ (λds ρ2 h M2 C vs n Y b=>h M2 C (v::vs) (I.trans n) Y (.cons (a.mv n) b)) h)
abbrev dTup(t:DA):DE:=λh Q=>t h λd J=>d.length <= sizeLine/\Q (.tup d) J
theorem bA{x1}(h:PAD X es tL):PED X (.Tuple es x1 pos) (dTup tL):=by obtain⟨T,p,r⟩:=h.run;refine⟨λ_ _ _ f q=>h.mono _ _ _ (λ_ _ q=>⟨q.1,f _ _ q.2⟩) q,_,Il p,λ{F} M H σ n Q Y q=>?_⟩;refine r M H σ n _ Y (h.mono _ _ _ (λds ρ1 q M1 H1 vs U J L=>?_) q);refine⟨by rw[←L.length];exact q.1,λl d=>?_⟩;refine q.2 M1 _ _ (U.trans (.new d)) (J.sameP (.new d)) ?_;simp only[Rep];exact⟨l,vs,rfl,ai,L.mv (.new d)⟩
structure PLD(X:Cx)(e:Expr)(t:DA):Prop where
 mono:∀ρ P P',(∀d ρ',P d ρ'->P' d ρ')->t ρ P->t ρ P'
 run:∃T:TE,PE X e T/\∀{F:Fx} M H σ ρ (Q:VK),RSt X.K F M H σ ρ ->
  (t ρ λds ρ'=>∀M' H1 H' l xs,Mv X.K F.pp M H M' H1->RSt X.K F M' H1 σ ρ'->H1 l=none->H'=upd H1 l (.lst xs)->Reps X.K F.pp M' H1 ds xs->Q (.ref l) H')->T σ H Q
abbrev dLst(t:DA):DA:=λh Q=>t h λd J=>d.length <= sizeLine/\Q d J
theorem aN(h:PAD X es tL):PLD X (.List es pos) (dLst tL):=by obtain⟨T,p,r⟩:=h.run;refine⟨λ_ _ _ f q=>h.mono _ _ _ (λ_ _ q=>⟨q.1,f _ _ q.2⟩) q,_,xv p,λ{F} M H σ s Q Y q=>?_⟩;refine r M H σ s _ Y (h.mono _ _ _ (λds ρ1 q M1 d vs U J L=>?_) q);exact⟨by rw[←L.length];exact q.1,λl n=>q.2 M1 d _ l vs U J n rfl L⟩
abbrev dFrz(t:DA):DE:=λh Q=>t h λd J=>Q (.lst d) J
theorem ao(h:PLD X e tL):PED X e (dFrz tL):=by obtain⟨T,p,r⟩:=h.run;refine⟨λ_ _ _ f q=>h.mono _ _ _ (λ_ _ q=>f _ _ q) q,T,p,λ{F} M H σ s Q Y q=>?_⟩;refine r M H σ s _ Y (h.mono _ _ _ (λds ρ1 q M1 H1 H' l n L J d e U=>?_) q);subst e;refine q M1 _ _ (L.trans (.new d)) (J.sameP (.new d)) ?_;simp only[Rep];exact⟨l,n,rfl,(J.liv.fresh d).1,(J.liv.fresh d).2,ai,U.mv (.new d)⟩
end
abbrev DSp:=List D->(D->Prop)->Prop
def spD(K:zvd)(n:Nat)(g:DSp):Sp:=λvs H Q _=>∃pp M b,Lv pp M H/\Reps K pp M H b vs/\b.length=n/\g b (λd=>∀H' v,SameP K pp H H'->Rep K pp M H' d v->Q v H')
def bb(g:DSp):Prop:=∀h P b,(∀d,P d->b d)->g h P->g h b
structure CallD(X:Cx)(f:Value)(g:DSp):Prop where
 mono:bb g
 run:∃r:List V->Hp->VK->Prop,fV X f r/\∀{pp:Option Addr} M H ds vs (Q:VK),Lv pp M H->Reps X.K pp M H ds vs->g ds (λd=>∀H' w,SameP X.K pp H H'->Rep X.K pp M H' d w->Q w H')->r vs H Q
abbrev dCB(g:DSp)(t:DA):DE:=λh Q=>t h λb J=>g b λd=>Q d J
abbrev Jb(n:Nat)(g:DSp)(t:DA):DE:=λh Q=>t h λb J=>b.length=n/\g b λd=>Q d J
section
variable{F:Fx}{p:Pos}{t:DA}{id T:String}{g:DSp}
theorem aj(n:CallD X (.builtin id) g)(U:Gl X x)(G:X.mg x=none)(a:bootBuiltins x=some (.builtin id))(b:PAD X (e::es) t)(I:x ≠ "__name__":=by decide)(L:(x == ("__debug__" : Str))=false:=by decide)
  (he:starEach (e::es) X.env=(false,eval e X.env)::starEach es X.env:=by rfl) (hpl:(backTo pos (starEach es X.env)).any (·.1)=false:=by rfl):PED X (.Call (.Name x p) (e::es) [] pos) (dCB g t):=by
 obtain⟨r,Y,h⟩:=n.run;obtain⟨T,i,l⟩:=b.run;refine⟨λ_ _ _ f q=>b.mono _ _ _ (λ_ _ q=>n.mono _ _ _ (λ_ q=>f _ _ q) q) q,_,kD Y U G a i I L he hpl,λ{F} M H σ o Q m q=>?_⟩;refine l M H σ o _ m (b.mono _ _ _ (λC ρ1 q M1 z vs c J j=>?_) q);exact h M1 z C vs _ J.liv j (n.mono _ _ _ (λd q H' w s r=>q M1 H' w (c.trans s.mv) (J.sameP s) r) q)
theorem aQ(n:CallD X (.type T) g)(U:Gl X x)(G:X.mg x=none)(a:bootBuiltins x=some (.type T))(b:PAD X (e::es) t)(I:x ≠ "__name__":=by decide)(L:(x == ("__debug__" : Str))=false:=by decide)
  (he:starEach (e::es) X.env=(false,eval e X.env)::starEach es X.env:=by rfl) (hpl:(backTo pos (starEach es X.env)).any (·.1)=false:=by rfl):PED X (.Call (.Name x p) (e::es) [] pos) (dCB g t):=by
 obtain⟨r,Y,h⟩:=n.run;obtain⟨T,i,l⟩:=b.run;refine⟨λ_ _ _ f q=>b.mono _ _ _ (λ_ _ q=>n.mono _ _ _ (λ_ q=>f _ _ q) q) q,_,oE Y U G a i I L he hpl,λ{F} M H σ o Q m q=>?_⟩;refine l M H σ o _ m (b.mono _ _ _ (λC ρ1 q M1 z vs c J j=>?_) q);exact h M1 z C vs _ J.liv j (n.mono _ _ _ (λd q H' w s r=>q M1 H' w (c.trans s.mv) (J.sameP s) r) q)
theorem GJ{k n:Nat}{f:Addr}(Y:FnOk X.prog X.w X.K X.mg X.base CX0 k f fd ps (spD X.K n g))(U:bb g)(a:Room k X.A)(C:Gl X x)(I:X.mg x=some (.ref f))(G:PySem.W.keepIn X.K (.ref f)=true)(z:Binds X.K fd ps [])(b:PAD X (e::es) t)(L:(x == ("__debug__" : Str))=false:=by decide)(he:starEach (e::es) X.env=(false,eval e X.env)::starEach es X.env:=by rfl)(hpl:(backTo pos (starEach es X.env)).any (·.1)=false:=by rfl) :
  PED X (.Call (.Name x p) (e::es) [] pos) (Jb n g t):=by
 obtain⟨T,i,l⟩:=b.run;refine⟨λ_ _ _ f q=>b.mono _ _ _ (λ_ _ q=>⟨q.1,U _ _ _ (λ_ q=>f _ _ q) q.2⟩) q,_,we Y a C I G z .nil Ae i L he hpl,λ{F} M H σ o Q m q=>?_⟩;refine l M H σ o _ m (b.mono _ _ _ (λh ρ1 q M1 H1 vs c J j=>?_) q);rw[zzv];exact⟨F.pp,M1,h,J.liv,j,q.1,U _ _ _ (λd q H' w s r=>q M1 H' w (c.trans s.mv) (J.sameP s) r) q.2⟩
end
structure EO(K:zvd)(F:Fx)(M:List Addr)(H:Hp)(E:DEnds)(D:Ends):Prop where
 nx:∀M' H' σ' ρ',Mv K F.pp M H M' H'->RSt K F M' H' σ' ρ'->E.nx ρ'->D.nx σ' H'
 bk:∀M' H' σ' ρ',Mv K F.pp M H M' H'->RSt K F M' H' σ' ρ'->E.bk ρ'->D.bk σ' H'
 ct:∀M' H' σ' ρ',Mv K F.pp M H M' H'->RSt K F M' H' σ' ρ'->E.ct ρ'->D.ct σ' H'
 rt:∀M' H' σ' ρ' d v,Mv K F.pp M H M' H'->RSt K F M' H' σ' ρ'->Rep K F.pp M' H' d v->E.rt d->D.rt v H'
theorem EO.mv{K:zvd}{F:Fx}{D:Ends}(o:EO K F M H E D)(m:Mv K F.pp M H A H'):EO K F A H' E D :=
 ⟨λ_ _ _ _ J=>o.nx _ _ _ _ (m.trans J),λ_ _ _ _ J=>o.bk _ _ _ _ (m.trans J),λ_ _ _ _ J=>o.ct _ _ _ _ (m.trans J),λ_ _ _ _ _ _ J=>o.rt _ _ _ _ _ _ (m.trans J)⟩
def PSD(X:Cx)(st:Stmt)(t:DTS):Prop:=∃T:TS,PS X st T/\∀{F:Fx} M H σ ρ (E:DEnds) (D:Ends),RSt X.K F M H σ ρ->EO X.K F M H E D->t E ρ->T D σ H
def PSsD(X:Cx)(st:List Stmt)(t:DTS):Prop:=∃T:TS,PSs X st T/\∀{F:Fx} M H σ ρ (E:DEnds) (D:Ends),RSt X.K F M H σ ρ->EO X.K F M H E D->t E ρ->T D σ H
section
variable{F:Fx}{st:Stmt}{rest a b:List Stmt}{t u:DTS}{te:DE}{tc:DT}{tl:DA}
abbrev Ba:DTS:=λE d=>E.nx d
abbrev dSeq(t u:DTS):DTS:=λE d=>t { E with nx:=u E } d
abbrev dMid(t u:DTS):DTS:=λE g=>∃N:DS->Prop,t { E with nx:=N } g/\∀d,N d->u E d
theorem aw:PSsD X [] Ba:=⟨_,ou,λ{F} M H σ d E D J o h=>o.nx M H σ d .refl J h⟩
theorem af(h:PSD X st t):PSsD X [st] t:=by obtain⟨T,p,r⟩:=h;exact⟨T,gj p,r⟩
theorem ad(n:PSD X st t)(z:PSsD X rest u):PSsD X (st::rest) (dSeq t u):=by obtain⟨T,p,r⟩:=n;obtain⟨U,q,s⟩:=z;refine⟨_,aW p q,λ{F} M H σ C E D L o h=>r M H σ C { E with nx:=u E } { D with nx:=U D } L ⟨λM' H' g d m J h=>?_,o.bk,o.ct,o.rt⟩ h⟩;exact s M' H' g d E D J (o.mv m) h
theorem aO(n:PSD X st t)(z:PSsD X rest u):PSsD X (st::rest) (dMid t u):=by obtain⟨T,p,r⟩:=n;obtain⟨U,q,s⟩:=z;refine⟨_,aW p q,λ{F} M H σ G E D L o h=>?_⟩;obtain⟨N,h,C⟩:=h;refine r M H σ G { E with nx:=N } { D with nx:=U D } L ⟨λM' H' g d m J h=>?_,o.bk,o.ct,o.rt⟩ h;exact s M' H' g d E D J (o.mv m) (C _ h)
abbrev Jc:DTS:=λ_ _=>False
theorem aJ:PSD X st Jc:=⟨_,CK,λ_ _ _ _ _ _ _ _ h=>h⟩
abbrev dRet(te:DE):DTS:=λE g=>te g λd _=>E.rt d
theorem aA(h:PED X e te):PSD X (.Return (some e) pos) (dRet te):=by obtain⟨T,p,r⟩:=h.run;refine⟨_,ui p,λ{F} M H σ s E D L o q=>r M H σ s _ L (h.mono _ _ _ (λd g q M' H' v m J n=>?_) q)⟩;exact o.rt M' H' σ g d v m J n q
abbrev KS(te:DE):DTS:=λE g=>te g λ_ d=>E.nx d
theorem wE(h:PED X e te)(hs:swapsWith e none pos.line X.env=pure false:=by rfl):PSD X (.Expr e pos) (KS te):=by obtain⟨T,p,r⟩:=h.run;refine⟨_,sf p hs,λ{F} M H σ n E D L o q=>r M H σ n _ L (h.mono _ _ _ (λd g q M' H' v m J r'=>?_) q)⟩;exact o.nx M' H' σ g m J q
abbrev dIfS(c:DT)(t u:DTS):DTS:=λE g=>c g λb d=>Br b (t E d) (u E d)
theorem aI(g:PTD X c tc)(n:PSsD X a t)(z:PSsD X b u):PSD X (.If c a b pos) (dIfS tc t u):=by
 obtain⟨T,p,r⟩:=g.run;obtain⟨U,q,s⟩:=n;obtain⟨U',C,I⟩:=z;refine⟨_,CJ p q C,λ{F} M H σ Q E D G o h=>r M H σ Q _ G (g.mono _ _ _ (λk L h M1 d Y J=>?_) h)⟩;cases k with
 |true=>exact iteT (s M1 d σ L E D J (o.mv Y) (h.yes rfl))|false=>exact iteF (I M1 d σ L E D J (o.mv Y) (h.no rfl))
abbrev dSet(i:Nat)(te:DE):DTS:=λE h=>te h λd g=>E.nx (g.set i (.val d))
theorem Jd(g:X.N.Nodup)(n:X.N[i]? = some x)(U:Loc X.env.scope x)(h:PED X e te)(hs:swapsWith e (some (.Name x py)) pos.line X.env=pure false:=by rfl)(L:X.fn x=true∨X.env.scope.names.lookup x=some .local:=by first|exact .inl rfl|exact .inr rfl|assumption) :
  PSD X (.Assign [.Name x py] e pos) (dSet i te):=by
 obtain⟨T,p,r⟩:=h.run;refine⟨_,jr g n U p hs L,λ{F} M H σ z E D Y o q=>r M H σ z _ Y (h.mono _ _ _ (λd ρ' q M' H' v m J s=>?_) q)⟩;exact o.nx M' H' _ _ m (J.set s i) q
abbrev dOwn(i:Nat)(t:DA):DTS:=λE h=>t h λg d=>E.nx (d.set i (.own g))
theorem RSt.newOwn{K:zvd}{M:List Addr}{H:Hp}{σ:St}{ρ:DS}{l:Addr}{xs:List V}{ds:List D}(r:RSt K F M H σ ρ)(g:H l=none)(hd:Reps K F.pp M H ds xs)(i:Nat) :
  RSt K F (l::M) (upd H l (.lst xs)) (σ.set i (some (.ref l))) (ρ.set i (.own ds)):=by
 have m:Mv K F.pp M H (l::M) (upd H l (.lst xs)):=.newOwn g;have s:SameP K F.pp H (upd H l (.lst xs)):=.new g;have I:F.H0 l=none:=by
  cases e:F.H0 l with
  |none=>rfl|some o=>exact absurd g (r.same.live l (by rw[e];intro z;cases z))
 refine⟨by simp[r.len],λj q o C G=>?_,r.ow.step m i (λj e=>zzH (Ne.symm e)) (λj e=>zzH (Ne.symm e)) (λA _ _=>⟨[l],λs o c u=>?_,λb B=>?_,λa h hp J _=>⟨zzc _ h,λx e _=>lS g e⟩⟩),λa h=>zzc _ (r.sub a h),r.same.trans s.toSameQ,r.old,?_,r.lk.cl m⟩
 ·by_cases e:i=j
  ·subst e;rw[aL C,aL G];exact⟨l,xs,rfl,zzg,I,(r.liv.fresh g).2,ai,hd.mv m⟩
  ·rw[zzH e]at C G;have n:=r.sl j q o C G;cases q with
   |nil=>trivial|val d=>obtain⟨v,e,q⟩:=n;exact⟨v,e,q.mv m⟩
   |pin w d=>obtain⟨v,e,y,q⟩:=n;exact⟨v,e,y,q.mv m⟩
   |own es =>
    obtain⟨E,ys,rfl,U,J,Y,L,Q⟩:=n;exact⟨E,ys,rfl,zzc _ U,J,Y,lS g L,Q.mv m⟩
   |obj q=>exact n
 ·rw[aL c,aL u];exact⟨l,rfl,rfl⟩
 ·rw[zzw.mp B];exact⟨zzg,I,(r.liv.fresh g).2,.inr (r.liv.fresh g).1⟩
 ·refine⟨λa h=>?_,λp e=>s.live p (r.liv.p p e)⟩;rcases zzk.mp h with rfl|h
  ·rw[ai];intro z;cases z
  ·exact s.live a (r.liv.m a h)
theorem Je(g:X.N.Nodup)(n:X.N[i]? = some x)(U:Loc X.env.scope x)(h:PLD X e tl)(hs:swapsWith e (some (.Name x py)) pos.line X.env=pure false:=by rfl)(L:X.fn x=true∨X.env.scope.names.lookup x=some .local:=by first|exact .inl rfl|exact .inr rfl|assumption) :
  PSD X (.Assign [.Name x py] e pos) (dOwn i tl):=by
 obtain⟨T,p,r⟩:=h.run;refine⟨_,jr g n U p hs L,λ{F} M H σ z E D Y o q=>r M H σ z _ Y (h.mono _ _ _ (λds ρ' q M' H1 H' l xs m J d e s=>?_) q)⟩;subst e;exact o.nx _ _ _ _ (m.trans (.newOwn d)) (J.newOwn d s i) q
abbrev DG:=D->DS->(DS->Prop)->Prop
structure PGD(X:Cx)(tg:Expr)(g:DG):Prop where
 mono:∀d ρ P P',(∀ρ',P ρ'->P' ρ')->g d ρ P->g d ρ P'
 run:∃G:TG,PG X tg G/\∀{F:Fx} M H σ ρ d v (Q:St->Hp->Prop),RSt X.K F M H σ ρ->Rep X.K F.pp M H d v->(g d ρ λρ'=>∀M' H' σ',Mv X.K F.pp M H M' H'->RSt X.K F M' H' σ' ρ'->Q σ' H')->G v σ H Q
abbrev cH(i:Nat):DG:=λd g Q=>Q (g.set i (.val d))
theorem Bb(g:X.N.Nodup)(n:X.N[i]? = some x)(L:Loc X.env.scope x)(J:X.fn x=true∨X.env.scope.names.lookup x=some .local:=by first|exact .inl rfl|exact .inr rfl|assumption):PGD X (.Name x pos) (cH i) :=
 ⟨λ_ _ _ _ f h=>f _ h,_,sg g n L J,λ{F} M H σ ρ d v Q U r h=>h M H _ .refl (U.set r i)⟩
abbrev DGs:=List D->DS->(DS->Prop)->Prop
structure PGsD(X:Cx)(tg:List Expr)(g:DGs):Prop where
 mono:∀d ρ P P',(∀ρ',P ρ'->P' ρ')->g d ρ P->g d ρ P'
 run:∃G:TGs,PGs X tg G/\∀{F:Fx} M H σ ρ ds vs (Q:St->Hp->Prop),RSt X.K F M H σ ρ->Reps X.K F.pp M H ds vs->(g ds ρ λρ'=>∀M' H' σ',Mv X.K F.pp M H M' H'->RSt X.K F M' H' σ' ρ'->Q σ' H')->G vs σ H Q
def GK:DGs:=λd g Q=>match d with
 |[]=>Q g|_=>False
def uV(g:DG)(u:DGs):DGs:=λn q Q=>match n with
 |d::r=>g d q λh=>u r h Q|[]=>False
theorem cr:PGsD X [] GK:=by
 refine⟨λd _ _ _ f h=>?_,_,zL,λ{F} M H σ ρ d vs Q J r h=>?_⟩
 ·cases d with
  |nil=>exact f _ h|cons=>exact h
 ·cases d with
  |nil=>simp only[Reps]at r;exact⟨r,h M H σ .refl J⟩|cons=>exact h.elim
theorem aC{e:Expr}{g:DG}{u:DGs}(q:PGD X e g)(s:PGsD X ifs u)(hs:(assignEach (e::ifs) X.env).map (·.2)=assign e X.env::(assignEach ifs X.env).map (·.2):=by rfl):PGsD X (e::ifs) (uV g u):=by
 obtain⟨G,p,r⟩:=q.run;obtain⟨G',j,l⟩:=s.run;refine⟨λn _ _ _ f h=>?_,_,nR p j hs,λ{F} M H σ w n vs Q o J h=>?_⟩
 ·cases n with
  |nil=>exact h|cons=>exact q.mono _ _ _ _ (λ_ h=>s.mono _ _ _ _ f h) h
 ·cases n with
  |nil=>exact h.elim|cons d n =>
   simp only[Reps]at J;obtain⟨v,I,rfl,J,m⟩:=J;refine⟨v,I,rfl,r M H σ w d v _ o J (q.mono _ _ _ _ (λz h M1 a Y C L=>?_) h)⟩;exact l M1 a Y z n I _ L (m.mv C) (s.mono _ _ _ _ (λρ2 h M2 b c i U=>h M2 b c (C.trans i) U) h)
def GL(n:Nat)(g:DGs):DG:=λd q Q=>match d with
 |.tup h=>h.length=n/\g h q Q|_=>False
theorem eV{k:Nat}{g:DGs}{n:Nat}(I:X.calm=true)(h:PGsD X ifs g)(Y:(assignEach ifs X.env).length=n:=by rfl)(L:(assignEach ifs X.env).findIdx? (·.1)=none:=by rfl):PGD X (.Tuple ifs k pos) (GL n g):=by
 obtain⟨G,p,r⟩:=h.run;refine⟨λd _ _ _ f q=>?_,_,Ge I p Y L,λ{F} M H σ b d v Q U J q=>?_⟩
 ·cases d<;>first|exact q.elim|exact⟨q.1,h.mono _ _ _ _ f q.2⟩
 ·cases d with
  |tup z =>
   simp only[Rep]at J;obtain⟨a,s,rfl,C,J⟩:=J;exact⟨a,s,rfl,C,by rw[←J.length];exact q.1,r M H σ b z s _ U J q.2⟩
  |_=>exact q.elim
abbrev dAsg(te:DE)(g:DG):DTS:=λE n=>te n λd h=>g d h E.nx
theorem Jf{g:DG}(he:PED X e te)(J:PGD X tg g)(hs:swapsWithSole [tg] e pos.line X.env=pure false:=by rfl)(hw:swappedStores [tg] e X.env=pure none:=by rfl)(z:PS X (.Assign [tg] e pos) (tAsg (Classical.choose he.run) (Classical.choose J.run)):=by exact uj (zzU he.run).1 (zzU J.run).1):PSD X (.Assign [tg] e pos) (dAsg te g):=by obtain⟨_,r⟩:=zzU he.run;obtain⟨_,G⟩:=zzU J.run;refine⟨_,z,λ{F} M H σ a E D Q o q=>r M H σ a _ Q (he.mono _ _ _ (λd h q M' H' v m L I=>?_) q)⟩;exact G M' H' σ h d v _ L I (J.mono _ _ _ _ (λY q M2 n s C U=>o.nx M2 n s Y (m.trans C) U q) q)
def nK(g:DG)(b:DTS):List D->DEnds->DS->Prop
 |[],E,n=>E.nx n|d::r,E,n=>g d n λJ=>b { E with nx:=λh=>nK g b r E h,ct:=λh=>nK g b r E h,bk:=E.nx } J
structure ItOkV(K:zvd)(pp:Option Addr)(J:It)(M:List Addr)(H:Hp)(vs:List V):Prop where
 yld:∀M2 H2,Mv K pp M H M2 H2->∀i x H3,i<vs.length->J.yld i H2 x H3->H3=H2/\vs[i]? = some x
 go:∀M2 H2,Mv K pp M H M2 H2->∀i,i<vs.length->J.go i H2
 stop:∀M2 H2,Mv K pp M H M2 H2->∀i,vs.length <= i->J.stop i H2
structure ItOk(K:zvd)(pp:Option Addr)(J:It)(M:List Addr)(H:Hp)(ds:List D):Prop where
 yld:∀M2 H2,Mv K pp M H M2 H2->∀i d x H3,ds[i]? = some d->J.yld i H2 x H3->SameP K pp H2 H3/\Rep K pp M2 H3 d x
 go:∀M2 H2,Mv K pp M H M2 H2->∀i,i<ds.length->J.go i H2
 stop:∀M2 H2,Mv K pp M H M2 H2->∀i,ds.length <= i->J.stop i H2
theorem ItOkV.of{K:zvd}{pp:Option Addr}{J:It}{ds:List D}(o:ItOkV K pp J M H vs)(L:Reps K pp M H ds vs):ItOk K pp J M H ds where
 yld:=λM2 g m i d x s e y=>by obtain⟨v,n,r⟩:=L.get' e;obtain⟨rfl,q⟩:=o.yld M2 g m i x s (zzx.mp n).1 y;rw[n]at q;cases q;exact⟨.refl,r.mv m⟩
 go:=λM2 g m i h=>o.go M2 g m i (by rw[←L.length];exact h)
 stop:=λM2 g m i h=>o.stop M2 g m i (by rw[←L.length];exact h)
structure PID(X:Cx)(tg iter:Expr)(t:DA):Prop where
 mono:∀ρ P P',(∀d ρ',P d ρ'->P' d ρ')->t ρ P->t ρ P'
 run:∃wi:TI,PI X tg iter wi/\∀{F:Fx} M H σ ρ (R:It->Hp->Prop),RSt X.K F M H σ ρ ->
  (t ρ λds ρ'=>∀M' H' J,Mv X.K F.pp M H M' H'->RSt X.K F M' H' σ ρ'->ItOk X.K F.pp J M' H' ds->R J H')->wi σ H R
abbrev dFor(t:DA)(g:DG)(b:DTS):DTS:=λE n=>t n λh d=>nK g b h E d
theorem cI{iter:Expr}{body:List Stmt}{t:DA}{g:DG}(hp:PassesOwn (model X.prog X.w) X.A X.env X.xe)(hc:X.calm=true)(hi:PID X tg iter t)(hg:PGD X tg g)(hb:PSsD X body tb)(hs:∀x,foldedSetIterable iter X.env x=pure x:=by intro _;rfl):PSD X (.For tg iter body [] pos) (dFor t g tb):=by
 obtain⟨wi,pi,ri⟩:=hi.run;obtain⟨G,pg,rg⟩:=hg.run;obtain⟨T,p,r⟩:=hb;refine⟨_,Ib hp hc pi pg p hs,λ{F} M H σ ρ E D rs o h=>ri M H σ ρ _ rs (hi.mono _ _ _ (λd a9 h M1 H1 J m1 a7 ok=>?_) h)⟩;refine⟨λi m u q=>∃M2 Y,m=d.length - i/\i <= d.length/\Mv X.K F.pp M1 H1 M2 q/\RSt X.K F M2 q u Y/\nK g tb (d.drop i) E Y,⟨d.length,M1,a9,rfl,zya _,.refl,a7,h⟩,?_⟩;rintro i m u q ⟨M2,Y,rfl,hi2,a,a5,B⟩;by_cases j:i<d.length
 ·have e1:d[i]? = some d[i]:=by simp[j]
  rw[zzZ j]at B;refine .inr ⟨ok.go M2 q a i j,λb H'=>∃M' n,Mv X.K F.pp M1 H1 M' H'/\RSt X.K F M' H' b n/\nK g tb (d.drop (i+1)) E n,λb H' ⟨M',n,mm,a6,h'⟩=>⟨d.length - (i+1),by lia,M',n,rfl,j,mm,a6,h'⟩,λx c y=>?_⟩;obtain⟨sp,rx⟩:=ok.yld M2 q a i _ x c e1 y;have l:=a.trans (sp.mv (M:=M2));refine rg M2 c u Y _ _ _ (a5.sameP sp) rx (hg.mono _ _ _ _ (λb1 h3 M3 c b2 N a8=>?_) B);refine r M3 c b2 b1 _ _ a8 ⟨λs I Q U C L z=>⟨s,U,(l.trans N).trans C,L,z⟩,λs I Q U C L z=>?_,λs I Q U C L z=>⟨s,U,(l.trans N).trans C,L,z⟩,λs I Q U d' v C L r4 z=>?_⟩ h3
  ·exact o.nx s I Q U (((m1.trans l).trans N).trans C) L z
  ·exact o.rt s I Q U d' v (((m1.trans l).trans N).trans C) L r4 z
 ·have e:i=d.length:=by lia
  refine .inl ⟨ok.stop M2 q a i (by lia),?_⟩;have hd:d.drop i=[]:=by rw[List.drop_eq_nil_iff];lia
  rw[hd]at B;exact o.nx M2 q u Y (m1.trans a) a5 B
abbrev KU(te:DE):DA:=λn Q=>te n λd g=>match d with
 |.lst h=>Q h g|_=>False
abbrev KW(te:DE):DA:=λn Q=>te n λd g=>match d with
 |.tup h=>Q h g|_=>False
theorem aR{l:Expr}(s:PED X l te):PID X tg l (KU te):=by
 obtain⟨T,p,r⟩:=s.run;refine⟨λ_ _ _ f h=>s.mono _ _ _ (λd _ h=>?_) h,_,FH p,λ{F} M H σ I R G h=>r M H σ I _ G (s.mono _ _ _ (λd ρ' h M' H' v m Y L=>?_) h)⟩
 ·cases d<;>first|exact h.elim|exact f _ _ h
 ·cases d with
  |lst ds =>
   simp only[Rep]at L;obtain⟨a,g,rfl,z,U,n,L⟩:=L;refine⟨a,rfl,⟨g,SqL.of n⟩,h M' H' _ m Y (ItOkV.of (vs:=g) ⟨λM2 C J i x H3 _ y=>?_,λM2 C J i q=>?_,λM2 C J i q=>?_⟩ L)⟩
   ·exact⟨y.1,y.2 g (SqL.of (J.lst a g n z U).1)⟩
   ·exact⟨g,g[i],SqL.of (J.lst a g n z U).1,by simp[q]⟩
   ·exact⟨g,SqL.of (J.lst a g n z U).1,q⟩
  |_=>exact h.elim
theorem xO{l:Expr}(s:PED X l te):PID X tg l (KW te):=by
 obtain⟨T,p,r⟩:=s.run;refine⟨λ_ _ _ f h=>s.mono _ _ _ (λd _ h=>?_) h,_,Ia p,λ{F} M H σ C R Y h=>r M H σ C _ Y (s.mono _ _ _ (λd ρ' h M' H' v m U L=>?_) h)⟩
 ·cases d<;>first|exact h.elim|exact f _ _ h
 ·cases d with
  |tup ds =>
   simp only[Rep]at L;obtain⟨a,g,rfl,n,L⟩:=L;refine⟨a,rfl,⟨g,SqT.of n⟩,h M' H' _ m U (ItOkV.of (vs:=g) ⟨λM2 z J i x H3 _ y=>?_,λM2 z J i q=>?_,λM2 z J i q=>?_⟩ L)⟩
   ·exact⟨y.1,y.2 g (SqT.of (J.tup a g n))⟩
   ·exact⟨g,g[i],SqT.of (J.tup a g n),by simp[q]⟩
   ·exact⟨g,SqT.of (J.tup a g n),q⟩
  |_=>exact h.elim
noncomputable def ig(lo:Int):Nat->List D
 |0=>[]|n+1=>.int lo::ig (lo+1) n
theorem mf{K:zvd}{pp:Option Addr}{M:List Addr}{H:Hp}:∀(n:Nat) (lo:Int),Reps K pp M H (ig lo n) ((List.range n).map λ(i:Nat)=>V.int (lo+i))
 |0,_=>by simp[ig,Reps]
 |n+1,lo=>by rw[List.range_succ_eq_map,zzh,ig];refine .cons (by simp[Rep]) ?_;have:=mf (K:=K) (pp:=pp) (M:=M) (H:=H) n (lo+1);rw[zzB];refine(congrArg (Reps K pp M H (ig (lo+1) n)) (zzR λi _=>?_)).mp this;simp only[Function.comp];congr 1;lia
abbrev diR1(t:DA):DA:=λh Q=>t h λg d=>match g with
 |[.int j]=>(-(2^62) <= j/\j<2^62)/\Q (ig 0 j.toNat) d|_=>False
abbrev diR2(t:DA):DA:=λh Q=>t h λg d=>match g with
 |[.int i,.int j]=>(-(2^62) <= i/\i<2^62/\-(2^62) <= j/\j<2^62)/\Q (ig i (j - i).toNat) d|_=>False
theorem itOk_range{K:zvd}{pp:Option Addr}{n:Nat}:ItOkV K pp (Itr j n) M H ((List.range n).map λ(i:Nat)=>V.int (j+i)) where
 yld:=λM2 H2 _ i x H3 d y=>by
  obtain⟨g,h⟩:=y;refine⟨g,?_⟩;have J:i<n:=by simpa using d
  simp[J,h]
 go:=λ_ _ _ i d=>by show i<n;simpa using d
 stop:=λ_ _ _ i d=>by show n <= i;simpa using d
variable{ea eb:Expr}
theorem cu(U:Gl X "range")(n:X.mg "range" = none)(g:PAD X [ea] tl)(hs:starEach [ea] X.env=[(false,eval ea X.env)]:=by rfl):PID X tg (.Call (.Name "range" p) [ea] [] pos) (diR1 tl):=by
 obtain⟨T,Y,r⟩:=g.run;refine⟨λ_ _ _ f h=>g.mono _ _ _ (λd _ h=>?_) h,_,zN U n Y hs,λ{F} M H σ s R q h=>r M H σ s _ q (g.mono _ _ _ (λd ρ' h M' H' v m J L=>?_) h)⟩
 ·split at h
  ·exact⟨h.1,f _ _ h.2⟩
  ·exact h.elim
 ·split at h
  ·rename_i j;simp only[Reps,Rep]at L;obtain⟨x,r,rfl,rfl,rfl⟩:=L;exact⟨j,rfl,h.1.1,h.1.2,h.2 M' H' _ m J (itOk_range.of (mf _ _))⟩
  ·exact h.elim
theorem uW(Y:Gl X "range")(n:X.mg "range" = none)(g:PAD X [ea,eb] tl)(hs:starEach [ea,eb] X.env=[(false,eval ea X.env),(false,eval eb X.env)]:=by rfl)(J:starEach [eb] X.env=[(false,eval eb X.env)]:=by rfl):PID X tg (.Call (.Name "range" p) [ea,eb] [] pos) (diR2 tl):=by
 obtain⟨T,q,r⟩:=g.run;refine⟨λ_ _ _ f h=>g.mono _ _ _ (λd _ h=>?_) h,_,zO Y n q hs J,λ{F} M H σ z R s h=>r M H σ z _ s (g.mono _ _ _ (λd ρ' h M' H' v m L U=>?_) h)⟩
 ·split at h
  ·exact⟨h.1,f _ _ h.2⟩
  ·exact h.elim
 ·split at h
  ·rename_i i j;simp only[Reps,Rep]at U;obtain⟨x,r,rfl,rfl,y,r',rfl,rfl,rfl⟩:=U;exact⟨i,j,rfl,h.1,h.2 M' H' _ m L (itOk_range.of (mf _ _))⟩
  ·exact h.elim
end
noncomputable def rB(n:Nat)(ds:List D):DS:=ds.map .val++List.replicate (n - ds.length) .nil
theorem rC{K:zvd}{F:Fx}{M:List Addr}{H:Hp}:∀{ds:List D} {vs:List V},Reps K F.pp M H ds vs->∀(i:Nat) s o,(ds.map Sl.val)[i]? = some s->(vs.map some)[i]? = some o->RSl K F M H s o
 |[],_,_,_,_,_,b,_=>by simp at b
 |d::ds,_,h,0,s,o,b,g=>by simp only[Reps]at h;obtain⟨x,r,rfl,h,_⟩:=h;simp at b g;subst b g;exact⟨x,rfl,h⟩
 |d::ds,_,h,i+1,s,o,b,g=>by simp only[Reps]at h;obtain⟨x,r,rfl,_,h⟩:=h;exact rC h i s o (by simpa using b) (by simpa using g)
theorem wF{ds:List D}{n:Nat}{es:List D}(h:(ds.map Sl.val++List.replicate n Sl.nil)[i]? = some (.own es)):False:=by
 have:=zzI h;rcases zzo.mp this with h|h
 ·obtain⟨d,_,e⟩:=zzs.mp h;cases e
 ·have:=zyq h;cases this
theorem wG{ds:List D}{n:Nat}{q:O}(h:(ds.map Sl.val++List.replicate n Sl.nil)[i]? = some (.obj q)):False:=by
 have:=zzI h;rcases zzo.mp this with h|h
 ·obtain⟨d,_,e⟩:=zzs.mp h;cases e
 ·have:=zyq h;cases this
theorem pj{K:zvd}{pp:Option Addr}{ds:List D}(J:Lv pp M H)(r:Reps K pp M H ds vs)(C:Frm.L K ⟨pp,M,H⟩ M H):RSt K ⟨pp,M,H⟩ M H (L2.start N vs) (rB N.length ds):=by
 have n:=r.length;refine⟨by simp[L2.start,rB,n],λi s o b d=>?_,OwF.none (λi s e=>⟨λds z=>(wF (z ▸ e)).elim,λq z=>(wG (z ▸ e)).elim⟩),λa h=>h,.refl,J.m,J.toLv0,⟨C,J.t⟩⟩;unfold rB at b;unfold L2.start at d;by_cases g:i<ds.length
 ·rw[zyk (by simpa using g)]at b;rw[zyk (by simpa[←n]using g)]at d;exact rC (F:=⟨pp,M,H⟩) r i s o b d
 ·rw[zzT (by simp;lia)]at b;have:=zyq (zzI b);subst this;trivial
omit [Frm] in
theorem fnD{P:Program}{K:zvd}{base:Heap}{st:Stmt}{f:Addr}{k:Nat}{g:DSp}{t:DTS}(L:Fun K x y st f fd)(S:FnScope N ps (ag st))(U:∀(n:Value) (A:Around) (b:List Env) (s:Shared) (H:Hp) (E:XK),Room k (A.deeper (envOfC y (ag st) s.heap.objs.size f n)) -> @PSsD _ Frm.free (cxOf CX0 P w K mg base N y (ag st) f n A b s H E).nox (bv st) t)(Y:∀ds Q,ds.length=ps.length->g ds Q->t { nx:=λ_=>Q .non,rt:=Q } (rB N.length ds)):FnOk P w K mg base CX0 (k+1) f fd ps (spD K ps.length g):=by
 refine L.ok S (λvs H Q E h=>?_) (λn A b s H vs Q E G h=>?_)
 ·obtain⟨pp,M,ds,_,r,e,_⟩:=h;rw[←r.length,e]
 ·obtain⟨pp,M,ds,I,r,e,h⟩:=h;obtain⟨T,p,run⟩:=U n A b s H E G;refine⟨T,p,run M H _ _ _ _ (pj I r trivial) ⟨λM' H' C z m J q=>?_,λ_ _ _ _ _ _ q=>q,λ_ _ _ _ _ _ q=>q,λM' H' C z d v m J a q=>?_⟩ (Y ds _ e h)⟩
  ·exact q H' .non J.sameT (by simp only[Rep])
  ·exact q H' v J.sameT (a.mv (.less J.sub))
def g2I(C:Int->Int->Prop)(f:Int->Int->D):D->D->(D->Prop)->Prop
 |.int i,.int j,P=>C i j/\P (f i j)|_,_,_=>False
def g2I0(f:Int->Int->D):D->D->(D->Prop)->Prop
 |.int i,.int j,P=>P (f i j)|_,_,_=>False
theorem OpD.ofI{f:Value->Value->Sem Value}{C:Int->Int->Prop}{h:Int->Int->V}{h':Int->Int->D}(o:OpR X f (rI C h))(e:∀pp M H i j,Rep X.K pp M H (h' i j) (h i j)):OpD X f (g2I C h'):=by
 refine⟨λx y P P' f h=>?_,_,o,λ{pp} M H x y v u Q _ J L h=>?_⟩
 ·cases x<;>cases y<;>first|exact h.elim|exact⟨h.1,f _ h.2⟩
 ·cases x<;>first|exact h.elim|skip
  cases y<;>first|exact h.elim|skip
  simp only[Rep]at J L;exact⟨_,_,J,L,h.1,h.2 H _ .refl (e _ M H _ _)⟩
theorem OpD.ofI0{f:Value->Value->Sem Value}{h:Int->Int->V}{h':Int->Int->D}(o:OpR X f (rI0 h))(e:∀pp M H i j,Rep X.K pp M H (h' i j) (h i j)):OpD X f (g2I0 h'):=by
 refine⟨λx y P P' f h=>?_,_,o,λ{pp} M H x y v u Q _ J L h=>?_⟩
 ·cases x<;>cases y<;>first|exact h.elim|exact f _ h
 ·cases x<;>first|exact h.elim|skip
  cases y<;>first|exact h.elim|skip
  simp only[Rep]at J L;exact⟨_,_,J,L,h H _ .refl (e _ M H _ _)⟩
theorem cg:OpD X (binaryOp .Add) (g2I0 λi j=>.int (i+j)):=.ofI0 oz λ_ _ _ _ _=>bL
theorem Bc:OpD X (binaryOp .Sub) (g2I0 λi j=>.int (i - j)):=.ofI0 Ic λ_ _ _ _ _=>bL
theorem EM:OpD X (binaryOp .Mult) (g2I CMulB λi j=>.int (i*j)):=.ofI lR λ_ _ _ _ _=>bL
theorem Jg:OpD X (binaryOp .Mod) (g2I (λ_ j=>0<j) λi j=>.int (i % j)):=.ofI nu λ_ _ _ _ _=>bL
theorem GM:OpD X (binaryOp .FloorDiv) (g2I IC λi j=>.int (i / j)):=.ofI sA λ_ _ _ _ _=>bL
theorem uX:OpD X (binaryOp .Pow) (g2I CPow λi j=>.int (i^j.toNat)):=.ofI EB λ_ _ _ _ _=>bL
theorem ze:OpD X (compareOp .Lt) (g2I0 λi j=>.bl (decide (i<j))):=.ofI0 Ig λ_ _ _ _ _=>bz
theorem qO:OpD X (compareOp .LtE) (g2I0 λi j=>.bl (decide (i <= j))):=.ofI0 Ku λ_ _ _ _ _=>bz
theorem nL:OpD X (compareOp .Gt) (g2I0 λi j=>.bl (decide (j<i))):=.ofI0 Ih λ_ _ _ _ _=>bz
def GN:D->Bool
 |.non=>true|_=>false
theorem uY{K:zvd}{d:D}(r:Rep K pp M H d v):decide (v=.non)=GN d:=by
 cases d<;>simp only[Rep]at r
 case non=>subst r;rfl
 case bl=>subst r;rfl
 case int=>subst r;rfl
 case str=>subst r;rfl
 case ty=>subst r;rfl
 case tup=>obtain⟨a,b,rfl,_⟩:=r;rfl
 case lst=>obtain⟨a,b,rfl,_⟩:=r;rfl
 case dK=>obtain⟨a,b,rfl,_⟩:=r;rfl
 case dT=>obtain⟨a,b,rfl,_⟩:=r;rfl
 case pen=>obtain⟨a,rfl,_⟩:=r;rfl
 case exc=>obtain⟨a,rfl,_⟩:=r;rfl
 case exa=>obtain⟨a,g,rfl,_⟩:=r;rfl
 case ins=>obtain⟨a,g,fs,rfl,_⟩:=r;rfl
 case cls=>subst r;rfl
def gIsN(n:Bool):D->D->(D->Prop)->Prop
 |x,.non,P=>P (.bl (if n then !GN x else GN x))|_,_,_=>False
theorem xP:OpD X (compareOp .Is) (gIsN false):=by
 refine⟨λx y P P' f h=>?_,_,Ii,λ{pp} M H x y v u Q _ L J h=>?_⟩
 ·cases y<;>first|exact h.elim|exact f _ h
 ·cases y<;>first|exact h.elim|skip
  simp only[Rep]at J;exact⟨J,h H _ .refl (by rw[uY L];exact bz)⟩
theorem sP:OpD X (compareOp .IsNot) (gIsN true):=by
 refine⟨λx y P P' f h=>?_,_,FL,λ{pp} M H x y v u Q _ L J h=>?_⟩
 ·cases y<;>first|exact h.elim|exact f _ h
 ·cases y<;>first|exact h.elim|skip
  simp only[Rep]at J;exact⟨J,h H _ .refl (by rw[uY L];exact bz)⟩
structure UnD(X:Cx)(f:Value->Sem Value)(g:D->(D->Prop)->Prop):Prop where
 mono:∀x P P',(∀d,P d->P' d)->g x P->g x P'
 run:∃r,UnR X f r/\∀{pp:Option Addr} M H x v (Q:VK),Lv pp M H->Rep X.K pp M H x v->g x (λd=>∀H' w,SameP X.K pp H H'->Rep X.K pp M H' d w->Q w H')->r v H Q
abbrev dUn(g:D->(D->Prop)->Prop)(ta:DE):DE:=λb Q=>ta b λx J=>g x λd=>Q d J
theorem nM{op:UnaryOp}{g:D->(D->Prop)->Prop}{a:Expr}(L:UnD X (unaryOp op) g)(b:PED X a ta):PED X (.UnaryOp op a pos) (dUn g ta):=by obtain⟨r,Y,U⟩:=L.run;obtain⟨Ta,z,G⟩:=b.run;refine⟨λ_ _ _ f h=>b.mono _ _ _ (λ_ _ h=>L.mono _ _ _ (λ_ h=>f _ _ h) h) h,_,Ks Y z,λ{F} M H σ c Q I h=>G M H σ c _ I (b.mono _ _ _ (λx ρ1 h M1 n v q J C=>?_) h)⟩;exact U M1 n x v _ J.liv C (L.mono _ _ _ (λd h H' w s r=>h M1 H' w (q.trans s.mv) (J.sameP s) r) h)
def gNeg:D->(D->Prop)->Prop
 |.int i,P=>P (.int (-i))|_,_=>False
theorem gW:UnD X (unaryOp .USub) gNeg:=by
 refine⟨λx P P' f h=>?_,_,Id,λ{pp} M H x v Q _ J h=>?_⟩
 ·cases x<;>first|exact h.elim|exact f _ h
 ·cases x<;>first|exact h.elim|skip
  simp only[Rep]at J;exact⟨_,J,h H _ .refl bL⟩
def GO:D->Bool
 |.bl _=>true|_=>false
def xQ:D->Bool
 |.str _=>true|_=>false
noncomputable def Be:D->Bool
 |.pen=>false|.exc _=>false|.exa _ _=>false|.ins _ _ _=>false|.cls _=>false|.ty _=>false|.dT _ _=>false|_=>true
theorem Jh{K:zvd}{d:D}(r:Rep K pp M H d v)(f:Be d=true):knV H v:=by
 cases d<;>first|cases f|skip
 all_goals simp only[Rep]at r
 case non=>subst r;trivial
 case bl=>subst r;trivial
 case int=>subst r;trivial
 case str=>subst r;trivial
 case tup=>obtain⟨a,b,rfl,h,_⟩:=r;exact .inr (.inr (.inl ⟨b,h⟩))
 case lst=>obtain⟨a,b,rfl,_,_,h,_⟩:=r;exact .inl ⟨b,h⟩
 case dK=>obtain⟨a,b,rfl,_,_,h,_⟩:=r;exact .inr (.inr (.inr (.inl ⟨b,h⟩)))
def gIs(T:String)(f:D->Bool):DSp:=λb P=>match b with
 |[d,.ty J]=>J=T/\Be d=true/\P (.bl (f d))|_=>False
theorem CallD.isOf{f:Hp->V->Bool}{J:D->Bool}(q:fV X (.builtin "isinstance") (λxs H Q=>∃x,xs=[x,.ty T]/\knV H x/\Q (.bl (f H x)) H))(e:∀pp M H d v,Rep X.K pp M H d v->Be d=true->f H v=J d):CallD X (.builtin "isinstance") (gIs T J):=by
 refine⟨λg P P' f h=>?_,_,q,λ{pp} M H g vs Q _ r h=>?_⟩
 ·unfold gIs at h ⊢;split at h
  ·exact⟨h.1,h.2.1,f _ h.2.2⟩
  ·exact h.elim
 ·unfold gIs at h;split at h
  case h_2=>exact h.elim
  ·rename_i d T';obtain⟨n,b,h⟩:=h;simp only[Reps]at r;obtain⟨x,r,rfl,L,y,r',rfl,U,rfl⟩:=r;simp only[Rep]at U;subst U n;exact⟨x,rfl,Jh L b,h H _ .refl (by rw[e _ M H d x L b];exact bz)⟩
theorem zf:CallD X (.builtin "isinstance") (gIs "bool" GO):=.isOf uL λpp M H d v r _=>by
 cases d<;>simp only[Rep]at r
 case non=>subst r;rfl
 case bl=>subst r;rfl
 case int=>subst r;rfl
 case str=>subst r;rfl
 case ty=>subst r;rfl
 case tup=>obtain⟨a,b,rfl,_⟩:=r;rfl
 case lst=>obtain⟨a,b,rfl,_⟩:=r;rfl
 case dK=>obtain⟨a,b,rfl,_⟩:=r;rfl
 case dT=>obtain⟨a,b,rfl,_⟩:=r;rfl
 case pen=>obtain⟨a,rfl,_⟩:=r;rfl
 case exc=>obtain⟨a,rfl,_⟩:=r;rfl
 case exa=>obtain⟨a,g,rfl,_⟩:=r;rfl
 case ins=>obtain⟨a,g,fs,rfl,_⟩:=r;rfl
 case cls=>subst r;rfl
theorem pq:CallD X (.builtin "isinstance") (gIs "str" xQ):=.isOf wv λpp M H d v r _=>by
 cases d<;>simp only[Rep]at r
 case non=>subst r;rfl
 case bl=>subst r;rfl
 case int=>subst r;rfl
 case str=>subst r;rfl
 case ty=>subst r;rfl
 case tup=>obtain⟨a,b,rfl,_⟩:=r;rfl
 case lst=>obtain⟨a,b,rfl,_⟩:=r;rfl
 case dK=>obtain⟨a,b,rfl,_⟩:=r;rfl
 case dT=>obtain⟨a,b,rfl,_⟩:=r;rfl
 case pen=>obtain⟨a,rfl,_⟩:=r;rfl
 case exc=>obtain⟨a,rfl,_⟩:=r;rfl
 case exa=>obtain⟨a,g,rfl,_⟩:=r;rfl
 case ins=>obtain⟨a,g,fs,rfl,_⟩:=r;rfl
 case cls=>subst r;rfl
def gLen:DSp:=λd P=>match d with
 |[.tup b]=>P (.int b.length)|[.lst b]=>P (.int b.length)|_=>False
theorem aX:CallD X (.builtin "len") gLen:=by
 refine⟨λd P P' f h=>?_,_,Ag,λ{pp} M H d vs Q _ r h=>?_⟩
 ·unfold gLen at h ⊢;split at h
  ·exact f _ h
  ·exact f _ h
  ·exact h.elim
 ·unfold gLen at h;split at h
  case h_3=>exact h.elim
  ·simp only[Reps,Rep]at r;obtain⟨x,r,rfl,⟨a,ys,rfl,b,J⟩,rfl⟩:=r;exact⟨a,ys.length,rfl,by rw[b];rfl,h H _ .refl (by rw[←J.length];exact bL)⟩
  ·simp only[Reps,Rep]at r;obtain⟨x,r,rfl,⟨a,ys,rfl,_,_,b,J⟩,rfl⟩:=r;exact⟨a,ys.length,rfl,by rw[b];rfl,h H _ .refl (by rw[←J.length];exact bL)⟩
def Bf:DSp:=λd P=>match d with
 |[.tup b]=>P (.tup b)|[.lst b]=>P (.tup b)|_=>False
theorem eW:CallD X (.type "tuple") Bf:=by
 refine⟨λg P P' f h=>?_,_,sv,λ{pp} M H g vs Q _ r h=>?_⟩
 ·unfold Bf at h ⊢;split at h
  ·exact f _ h
  ·exact f _ h
  ·exact h.elim
 ·unfold Bf at h;split at h
  case h_3=>exact h.elim
  ·simp only[Reps]at r;obtain⟨x,r,rfl,J,rfl⟩:=r;have L:=J;simp only[Rep]at J;obtain⟨a,ys,rfl,b,U⟩:=J;exact⟨a,ys,rfl,.inr ⟨SqT.of b,h H _ .refl L⟩⟩
  ·simp only[Reps,Rep]at r;obtain⟨x,r,rfl,⟨a,ys,rfl,_,_,b,U⟩,rfl⟩:=r;refine⟨a,ys,rfl,.inl ⟨SqL.of b,λl d=>h _ _ (.new d) ?_⟩⟩;simp only[Rep];exact⟨l,ys,rfl,ai,U.mv (.new d)⟩
abbrev GP(te:DE):DA:=λh Q=>te h λd b=>match d with
 |.tup g=>Q g b|.lst g=>Q g b|_=>False
theorem Bg(r:Gl X x)(s:X.mg x=none)(C:bootBuiltins x=some (.type "list"))(he:PED X e te)(z:x ≠ "__name__":=by decide)(L:(x == ("__debug__" : Str))=false:=by decide)(hs:starEach [e] X.env=(false,eval e X.env)::starEach [] X.env:=by rfl)(hpl:(backTo pos (starEach [] X.env)).any (·.1)=false:=by rfl):PLD X (.Call (.Name x p) [e] [] pos) (GP te):=by
 obtain⟨T,G,I⟩:=he.run;refine⟨λ_ _ _ f h=>he.mono _ _ _ (λd _ h=>?_) h,_,oE uE r s C (aU G bP hs) z L hs hpl,λ{F} M H σ i Q c h=>I M H σ i _ c (he.mono _ _ _ (λd ρ1 h M1 n v q J U=>?_) h)⟩
 ·cases d<;>first|exact h.elim|exact f _ _ h
 ·cases d<;>first|exact h.elim|skip
  all_goals simp only[Rep]at U
  case tup xs =>
   obtain⟨a,ys,rfl,b,Y⟩:=U;exact⟨a,ys,rfl,.inr (SqT.of b),λl g=>h M1 n _ l ys q J g rfl Y⟩
  case lst xs =>
   obtain⟨a,ys,rfl,_,_,b,Y⟩:=U;exact⟨a,ys,rfl,.inl (SqL.of b),λl g=>h M1 n _ l ys q J g rfl Y⟩
def opt(o:Option D)(P:D->Prop):Prop:=match o with
 |some d=>P d|none=>False
theorem DI{o:Option D}{P P':D->Prop}(f:∀d,P d->P' d)(h:opt o P):opt o P':=by cases o<;>first|exact h.elim|exact f _ h
theorem DJ{o:Option D}{P:D->Prop}(h:opt o P):∃d,o=some d/\P d:=by cases o<;>first|exact h.elim|exact⟨_,rfl,h⟩
def gIx:D->D->(D->Prop)->Prop
 |.tup b,.int i,P=>opt (atI b i) P|.lst b,.int i,P=>opt (atI b i) P|_,_,_=>False
theorem Bi{K:zvd}{ds:List D}{xs:List V}{i:Int}{d:D}(r:Reps K pp M H ds xs)(h:atI ds i=some d):∃v,atI xs i=some v/\Rep K pp M H d v:=by
 unfold atI at h ⊢;rw[r.length]at h;cases q:ixN xs.length i with
 |none=>rw[q]at h;cases h
 |some j =>
  rw[q]at h;obtain⟨v,b,g⟩:=r.get' (i:=j) h;exact⟨v,b,g⟩
theorem KY{a b:Expr}(n:PED X a ta)(J:PED X b te)(hs:lQ b):PED X (.Subscript a b pos) (dOp gIx ta te):=by
 have C:∀x y P P',(∀d,P d->P' d)->gIx x y P->gIx x y P':=λx y P P' f h=>by
  cases x<;>first|exact h.elim|skip
  all_goals cases y<;>first|exact h.elim|exact DI f h
 obtain⟨Ta,G,c⟩:=n.run;obtain⟨Tb,I,i⟩:=J.run;refine⟨gs C n J,_,uA (IxR.or ww Da) G I hs,λ{F} M H σ ρ Q j h=>ma (λM H x y v u Q _ U Y h=>?_) C n J c i j h⟩;cases x<;>first|exact h.elim|skip
 all_goals cases y<;>first|exact h.elim|skip
 all_goals
  obtain⟨d,e,h⟩:=DJ h;simp only[Rep]at U Y
 ·obtain⟨p,s,rfl,L,r⟩:=U;obtain⟨z,g,q⟩:=Bi r e;exact .inl ⟨p,s,_,z,rfl,Y,L,g,h H z .refl q⟩
 ·obtain⟨p,s,rfl,_,_,L,r⟩:=U;obtain⟨z,g,q⟩:=Bi r e;exact .inr ⟨p,s,_,z,rfl,Y,L,g,h H z .refl q⟩
section
variable{F:Fx}
def KZ(i:Nat)(E:DEnds)(ρ:DS)(d:D):Sl->Prop
 |.own b=>b.length<sizeLine/\E.nx (ρ.set i (.own (b++[d])))|_=>False
def DK:Sl->Prop
 |.own _=>True|_=>False
abbrev dApp(i:Nat)(te:DE):DTS:=λE g=>DK (slot g i)/\te g λd b=>KZ i E b d (slot b i)
theorem RSt.write{K:zvd}{M:List Addr}{H:Hp}{σ:St}{ρ:DS}{l:Addr}{ys:List V}{ds es:List D}{i:Nat}(r:RSt K F M H σ ρ)(h:ρ[i]? = some (.own ds))(G:σ[i]? = some (some (.ref l)))(hd:Reps K F.pp M H es ys) :
  Mv K F.pp M H M (upd H l (.lst ys))/\RSt K F M (upd H l (.lst ys)) σ (ρ.set i (.own es)):=by
 obtain⟨N,xs,e,B,u,E,T,hr⟩:=r.sl i _ _ h G;cases e;have m:Mv K F.pp M H M (upd H l (.lst ys)):=.write T B E;refine⟨m,⟨by simp[r.len],λj q o g C=>?_,r.ow.step m i (λ_ _=>rfl) (λj e=>zzH (Ne.symm e)) (λA y Y=>⟨A,λs o e1 Q=>?_,λb L=>⟨(Y b L).1,(Y b L).2.1,(Y b L).2.2,.inl L⟩,λa c _ _ hn=>⟨c,λx e _=>?_⟩⟩),r.sub,?_,r.old,?_,r.lk.cl m⟩⟩
 ·by_cases e:i=j
  ·subst e;rw[G]at C;rw[aL g];cases C;exact⟨l,ys,rfl,B,u,E,ai,hd.mv m⟩
  ·rw[zzH e]at g;have I:=r.sl j q o g C;cases q with
   |nil=>trivial|val d=>obtain⟨v,e,q⟩:=I;exact⟨v,e,q.mv m⟩
   |pin w d=>obtain⟨v,e,ew,q⟩:=I;exact⟨v,e,ew,q.mv m⟩
   |own es =>
    obtain⟨N,zs,rfl,a2,U,a3,J,a4⟩:=I;refine⟨N,zs,rfl,a2,U,a3,?_,a4.mv m⟩;rw[ah]
    ·exact J
    ·rintro rfl;exact e (r.own i j _ _ _ h g G C)
   |obj q=>exact I
 ·rw[aL e1];exact y _ _ h Q
 ·obtain⟨l2,Q,e3⟩:=y _ _ h G;cases Q;rw[ah (by rintro rfl;exact hn (by rw[e3];simp))];exact e
 ·refine⟨λb o e n=>?_,λp e h=>m.pen p e (r.same.pen p e h),λb e=>?_⟩
  ·rw[ah (by rintro rfl;rw[u]at e;cases e)];exact r.same.keep b o e n
  ·by_cases z:b=l
   ·subst z;rw[ai];intro z;cases z
   ·rw[ah z];exact r.same.live b e
 ·refine⟨λa c=>?_,λp e=>?_⟩
  ·by_cases z:a=l
   ·subst z;rw[ai];intro z;cases z
   ·rw[ah z];exact r.liv.m a c
  ·by_cases z:p=l
   ·subst z;rw[ai];intro z;cases z
   ·rw[ah z];exact r.liv.p p e
theorem ii(B:PE X o (tVar i))(he:PED X e te)(J:attributeBase o "append" X.env (eval o X.env)=eval o X.env:=by rfl)(Y:((backTo py (starEach [e] X.env)).all (λx=>!x.1) && (backToKw py (keywordEach [] X.env)).all (λx=>x.1.isSome)
   && decide ([e].length+([]:List Keyword).length+(if ([]:List Keyword).isEmpty then 0 else 1)<30))=true:=by rfl)(L:(p.endLine == py.line)=true:=by rfl)(C:starEach [e] X.env=(false,eval e X.env)::starEach [] X.env:=by rfl)(hpl:(backTo py (starEach [] X.env)).any (·.1)=false:=by rfl)(hs:swapsWith (.Call (.Attribute o "append" p) [e] [] py) none pos.line X.env=pure false:=by rfl):PSD X (.Expr (.Call (.Attribute o "append" p) [e] [] py) pos) (dApp i te):=by
 have A:PE X (.Call (.Attribute o "append" p) [e] [] py) (tBM X.K "list" zY (tVar i) (CP (Classical.choose he.run) tNil)):=uF zxm PySem.F.slot_list_append PySem.F.type_list_append oG B (aU (zzU he.run).1 bP C) J Y L C hpl;obtain⟨_,r⟩:=zzU he.run;refine⟨_,sf A hs,λ{F} M H σ Q E D I oo h=>?_⟩;obtain⟨b,h⟩:=h;cases q:slot Q i with
 |nil=>rw[q]at b;exact b.elim|val d=>rw[q]at b;exact b.elim|pin w d=>rw[q]at b;exact b.elim|obj z=>rw[q]at b;exact b.elim|own ds =>
  obtain⟨oo1,U,l,xs,rfl,hm1,h01,hp1,c,hr1⟩:=I.at (aG q (by intro z;cases z));refine⟨.ref l,U,.inl ⟨rfl,xs,SqL.of c⟩,?_⟩;refine r M H σ Q _ I (he.mono _ _ _ (λd n h M' H' v m G T=>?_) h);cases g:slot n i with
  |nil=>rw[g]at h;exact h.elim|val d=>rw[g]at h;exact h.elim|pin w d=>rw[g]at h;exact h.elim|obj z=>rw[g]at h;exact h.elim|own ds' =>
   rw[g]at h;have g1:=aG g (by intro z;cases z);obtain⟨l',u,y,hm',h0',hp',a,s⟩:=G.sl i _ _ g1 U;cases y;obtain⟨N,j⟩:=G.write g1 U (s.append (.one T));exact⟨l,u,v,rfl,rfl,a,by rw[←s.length];exact h.1,oo.nx M' _ _ _ (m.trans N) j h.2⟩
end
def zg:DSp:=λb P=>match b with
 |[.pen,.int m]=>(1 <= m/\m <= 10^60)/\∀r,0 <= r->r<m->P (.int r)|_=>False
theorem Bj:bb zg:=λds P P' f h=>by
 unfold zg at h ⊢;split at h
 ·exact⟨h.1,λr b d=>f _ (h.2 r b d)⟩
 ·exact h.elim
theorem GQ{P:Program}{K:zvd}{base:Heap}{k:Nat}{f:Addr}(h:FnOk P w K mg base CX0 k f fd ps (Ah K)):FnOk P w K mg base CX0 k f fd ps (spD K 2 zg) :=
 h.imp λvs H Q E h=>by
  obtain⟨pp,M,ds,lv,r,e,h⟩:=h;unfold zg at h;split at h
  case h_2=>exact h.elim
  ·rename_i m;obtain⟨⟨U,Y⟩,h⟩:=h;simp only[Reps,Rep]at r;obtain⟨x,_,rfl,⟨p,rfl,g,a,s,t,l,pen⟩,y,_,rfl,rfl,rfl⟩:=r;refine⟨p,a,s,t,l,m,rfl,pen,U,Y,λr c I H' C G J d=>h r C G H' _ ⟨⟨λb o L n=>?_,λq e _=>?_,λb L=>?_⟩,λtb=>tb.of λb o e i=>d b o (by rintro rfl;rw[pen.lst]at e;cases e;exact sM i) e⟩ bL⟩
   ·by_cases z:b=p
    ·subst z;rw[pen.lst]at L;cases L;exact absurd rfl (n.1 g _)
    ·exact d b o z L
   ·rw[g]at e;cases e;exact⟨a,s,c,I,J⟩
   ·by_cases z:b=p
    ·subst z;rw[J.lst];intro z;cases z
    ·cases q:H b with
     |none=>exact absurd q L|some o=>rw[d b o z q];intro z;cases z
def spLaw(K:zvd):Sp:=λvs H Q _=>∃a b,vs=[.ref a]/\Scr K H a b/\Tabs H/\∀H',Q (.bl true) H'
mutual
def toPy:D->PyData
 |.non=>.none|.bl b=>.bool b|.int i=>.int i|.str x=>.str x|.tup d=>.tuple (sQ d)|.lst d=>.list (sQ d)|.ty _=>.none|.dK _ _=>.none|.dT _ _=>.none|.pen=>.none|.exc _=>.none|.exa _ _=>.none|.ins _ _ _=>.none|.cls _=>.none
def sQ:List D->List PyData
 |[]=>[]|d::b=>toPy d::sQ b
def pln:D->Bool
 |.pen=>false|.exc _=>false|.exa _ _=>false|.ins _ _ _=>false|.cls _=>false|.ty _=>false|.dK _ _=>false|.dT _ _=>false|.tup b=>plns b|.lst b=>plns b|_=>true
def plns:List D->Bool
 |[]=>true|d::b=>pln d && plns b
end
def eqD(x y:D):Bool:=PyData.eqv (toPy x) (toPy y)
def shp(d:D):Bool:=pln d && SeqAt.shaped (toPy d)
mutual
theorem kN{P:Program}{w:World}{K:zvd}{pp:Option Addr}{M:List Addr}{H:Hp}{h:Heap}(ok:HOk P w H h):∀(d:D) (v:V) (u:Value),pln d=true->Rep K pp M H d v->RelV v u->∃as,Reads h u (toPy d) as
 |.non,_,_,_,r,q=>by simp only[Rep]at r;subst r;cases q;exact⟨_,.none⟩
 |.bl b,_,_,_,r,q=>by simp only[Rep]at r;subst r;cases q;exact⟨_,.bool b⟩
 |.int i,_,_,_,r,q=>by simp only[Rep]at r;subst r;obtain⟨t,rfl⟩:=q;exact⟨_,.int i t⟩
 |.str x,_,_,_,r,q=>by simp only[Rep]at r;subst r;obtain⟨t,rfl⟩:=q;exact⟨_,.str x t⟩
 |.tup s,_,_,p,r,q=>by simp only[Rep]at r;obtain⟨a,G,rfl,C,r⟩:=r;cases q;obtain⟨_,g,vs,o,J,I,n,hd⟩:=ok a _ C;obtain⟨as,z⟩:=pr ok s G g (by simpa only[pln]using p) r vs;exact⟨_,by rw[toPy];exact .tuple J I hd (by simpa using z)⟩
 |.lst s,_,_,p,r,q=>by simp only[Rep]at r;obtain⟨a,G,rfl,_,_,C,r⟩:=r;cases q;obtain⟨_,g,n,vs,J⟩:=ok a _ C;obtain⟨as,z⟩:=pr ok s G g (by simpa only[pln]using p) r vs;exact⟨_,by rw[toPy];exact .list J rfl rfl (by simpa using z)⟩
 |.ty _,_,_,p,_,_=>by simp[pln]at p
 |.dK _ _,_,_,p,_,_=>by simp[pln]at p
 |.dT _ _,_,_,p,_,_=>by simp[pln]at p
 |.pen,_,_,p,_,_=>by simp[pln]at p
 |.exc _,_,_,p,_,_=>by simp[pln]at p
 |.exa _ _,_,_,p,_,_=>by simp[pln]at p
 |.ins _ _ _,_,_,p,_,_=>by simp[pln]at p
 |.cls _,_,_,p,_,_=>by simp[pln]at p
theorem pr{P:Program}{w:World}{K:zvd}{pp:Option Addr}{M:List Addr}{H:Hp}{h:Heap}(ok:HOk P w H h):∀(ds:List D) (vs:List V) (us:List Value),plns ds=true->Reps K pp M H ds vs->Vals vs us->∃as,ReadsAll h us (sQ ds) as
 |[],_,_,_,r,q=>by simp only[Reps]at r;subst r;cases q;exact⟨_,.nil⟩
 |d::ds,_,_,p,r,q=>by
  simp only[Reps]at r;obtain⟨x,r',rfl,U,b⟩:=r;simp only[plns,zzX]at p;cases q with
  |cons J L =>
   obtain⟨as,Y⟩:=kN ok d _ _ p.1 U J;obtain⟨bs,g⟩:=pr ok ds _ _ p.2 b L;exact⟨_,by rw[sQ];exact .cons Y g⟩
end
section
variable{k:Nat}
def rEqD(K:zvd)(n:Bool):R2:=λx y H Q=>∃pp M b J,Rep K pp M H b x/\Rep K pp M H J y/\shp b=true/\shp J=true/\Q (.bl (if n then !eqD b J else eqD b J)) H
theorem Ji(L:Room k X.A):OpR X (compareOp .Eq) (rEqD X.K false):=by intro pins s σ H x y v u Q I Y r h;obtain⟨pp,M,g,J,U,n,b,d,q⟩:=h;unfold shp at b d;rw[zzX]at b d;obtain⟨as,z⟩:=kN I.hok g x v b.1 U Y;obtain⟨bs,C⟩:=kN I.hok J y u d.1 n r;exact SeqAt.compareEq_shaped z C b.2 d.2 (by have:=L.un;lia) (bO I q rfl)
theorem Jj(L:Room k X.A):OpR X (compareOp .NotEq) (rEqD X.K true):=by intro pins s σ H x y v u Q I Y r h;obtain⟨pp,M,g,J,U,n,b,d,q⟩:=h;unfold shp at b d;rw[zzX]at b d;obtain⟨as,z⟩:=kN I.hok g x v b.1 U Y;obtain⟨bs,C⟩:=kN I.hok J y u d.1 n r;exact SeqAt.compareNe_shaped z C b.2 d.2 (by have:=L.un;lia) (bO I q rfl)
def gEq(n:Bool):D->D->(D->Prop)->Prop:=λx y P=>(shp x=true/\shp y=true)/\P (.bl (if n then !eqD x y else eqD x y))
theorem cY(J:Room k X.A):OpD X (compareOp .Eq) (gEq false) :=
 ⟨λ_ _ _ _ f h=>⟨h.1,f _ h.2⟩,_,Ji J,λ{pp} M H x y v u Q _ L U h=>⟨pp,M,x,y,L,U,h.1.1,h.1.2,h.2 H _ .refl bz⟩⟩
theorem nO(J:Room k X.A):OpD X (compareOp .NotEq) (gEq true) :=
 ⟨λ_ _ _ _ f h=>⟨h.1,f _ h.2⟩,_,Jj J,λ{pp} M H x y v u Q _ L U h=>⟨pp,M,x,y,L,U,h.1.1,h.1.2,h.2 H _ .refl bz⟩⟩
end
section
variable{F:Fx}
theorem GR:PED X (.Dict [] [] pos) (dC (.dK [] [])) :=
 ⟨λ_ _ _ f h=>f _ _ h,_,CY,λ{F} M H σ ρ Q J h l b=>h M _ _ (.new b) (J.sameP (.new b)) (by simp only[Rep];exact⟨l,[],rfl,(J.liv.fresh b).1,(J.liv.fresh b).2,ai,rfl,.nil⟩)⟩
abbrev DO:=DS->(Option Int->DS->Prop)->Prop
structure POD(X:Cx)(e:Option Expr)(t:DO):Prop where
 mono:∀ρ P P',(∀b ρ',P b ρ'->P' b ρ')->t ρ P->t ρ P'
 run:∃T:TO,PO X e T/\∀{F:Fx} M H σ ρ (Q:Option Int->Hp->Prop),RSt X.K F M H σ ρ ->
  (t ρ λo ρ'=>∀M' H',Mv X.K F.pp M H M' H'->RSt X.K F M' H' σ ρ'->Q o H')->T σ H Q
abbrev EQ:DO:=λb Q=>Q none b
abbrev ER(te:DE):DO:=λg Q=>te g λd b=>match d with
 |.int i=>Q (some i) b|_=>False
theorem bj:POD X none EQ:=⟨λ_ _ _ f h=>f _ _ h,_,FU,λ{F} M H σ ρ Q J h=>h M H .refl J⟩
theorem aS(he:PED X e te):POD X (some e) (ER te):=by
 obtain⟨T,p,r⟩:=he.run;refine⟨λ_ _ _ f h=>he.mono _ _ _ (λd _ h=>?_) h,_,FV p,λ{F} M H σ b Q U h=>r M H σ b _ U (he.mono _ _ _ (λd ρ' h M' H' v m J L=>?_) h)⟩
 ·cases d<;>first|exact h.elim|exact f _ _ h
 ·cases d<;>first|exact h.elim|skip
  simp only[Rep]at L;exact⟨_,L,h M' H' m J⟩
def cutD(xs:List D)(lo hi:Option Int):List D:=(xs.drop (HT.sIx xs.length 0 lo)).take (HT.sIx xs.length xs.length hi - HT.sIx xs.length 0 lo)
theorem Reps.cut{K:zvd}{ds:List D}{xs:List V}(lo b:Option Int)(r:Reps K pp M H ds xs):Reps K pp M H (cutD ds lo b) (cutV xs lo b):=by unfold cutD cutV;rw[r.length];exact(r.drop _).take _
end
theorem Bk{g:DG}{b:DTS}{E:DEnds}{ds:List D}(N:DS->Prop)(q:∀ρ,N ρ->E.nx ρ)
  (hs:∀d∈ds,∀(ρ:DS) (X:DS->Prop),N ρ->(∀n,N n->X n)->g d ρ λJ=>b { E with nx:=X,ct:=X,bk:=E.nx } J):∀ρ,N ρ->nK g b ds E ρ:=by
 induction ds with
 |nil=>exact q|cons d r L=>exact λρ h=>hs d zzg ρ _ h (L λd hd=>hs d (zzc _ hd))
theorem bS{g:DG}{b:DTS}{E:DEnds}{ds:List D}(N:List D->DS->Prop)(q:∀ρ,N ds ρ->E.nx ρ)
  (hs:∀(pre:List D) (d:D) (post:List D) (ρ:DS) (X:DS->Prop),ds=pre++d::post->N pre ρ->(∀n,N (pre++[d]) n->X n)->g d ρ λJ=>b { E with nx:=X,ct:=X,bk:=E.nx } J) (ρ:DS) (h:N [] ρ):nK g b ds E ρ:=by
 have key:∀(post pre:List D),ds=pre++post->∀ρ,N pre ρ->nK g b post E ρ:=by
  intro post
  induction post with
  |nil=>intro pre e ρ h;rw[zzv]at e;subst e;exact q ρ h|cons d r L=>intro pre e ρ h;exact hs pre d r ρ _ e h (L (pre++[d]) (by rw[e,zzO];rfl))
 exact key ds [] rfl ρ h
theorem xR{xs:List α}{r:Int}(b:0 <= r)(h1:r<xs.length):∃d,atI xs r=some d/\xs[r.toNat]? = some d:=by
 obtain⟨j,rfl⟩:=zyd b;have J:j<xs.length:=by lia
 exact⟨xs[j],wg (by simp[J]),by simp[J]⟩
theorem pw{xs:List D}{r:Int}{Q:D->Prop}(g:0 <= r)(n:r<xs.length)(h:∀d∈xs,Q d):opt (atI xs r) Q:=by obtain⟨d,e,b⟩:=xR g n;rw[e];exact h d (zzI b)
theorem aK{xs:List D}{r:Int}{d:D}{Q:D->Prop}(b:0 <= r)(e:xs[r.toNat]? = some d)(h:Q d):opt (atI xs r) Q:=by obtain⟨j,rfl⟩:=zyd b;rw[wg (show xs[j]? = some d from e)];exact h
theorem cpow{i:Int}(h:0 <= j/\j <= 1000000/\i.natAbs<2^64:=by decide):CPow i j:=h
theorem sz{n:Nat}(h:Nat.ble n 1000=true:=by rfl):n <= sizeLine:=zzq (Nat.le_of_ble_eq_true h) (by decide)
theorem bB{i:Int}:eqD (.int i) (.int j)=decide (i=j):=by show (i == j)=_;by_cases h:i=j<;>simp[h]
def Bd(n:Nat)(i:Int):Prop:=i.natAbs<2^n
theorem Bd.mono{n:Nat}{i:Int}(h:Bd m i)(l:m <= n):Bd n i:=zzE h (zwk (by decide) l)
theorem Bd.le{i:Int}(h:Bd m j)(l:i.natAbs <= j.natAbs):Bd m i:=zzG l h
theorem ES{i:Int}{n:Nat}(h:i.natAbs<2^n:=by decide):Bd n i:=h
end
def uZ:Sl->Sl
 |.own _=>.nil|.obj _=>.nil|s=>s
theorem jG(s:Sl):(∀ds,uZ s ≠ .own ds)/\∀q,uZ s ≠ .obj q:=by cases s<;>exact⟨λds z=>(by cases z),λq z=>(by cases z)⟩
def cZ(ρ:DS):DS:=ρ.map uZ
def Jk(ρ:DS):Option Nat->Sl
 |none=>.nil|some j=>uZ (slot ρ j)
def subD(js:List (Option Nat))(ρ:DS):DS:=js.map (Jk ρ)
def dl(g:DG)(tc:DT)(te:DE):List D->List D->DS->(List D->Prop)->Prop
 |[],J,_,Q=>Q J|d::r,J,h,Q=>g d h λU=>tc U λb L=>Br b (te L λy Y=>J.length<sizeLine/\dl g tc te r (J++[y]) (cZ Y) Q) (dl g tc te r J (cZ L) Q)
abbrev Jm(t:DA)(js:List (Option Nat))(g:DG)(tc:DT)(te:DE):DA:=λd Q=>t d λb J=>dl g tc te b [] (subD js J) λys=>Q ys J
def delH(H:Hp)(a:Addr):Hp:=λb=>if b=a then none else H b
theorem Bl:delH H a a=none:=by simp[delH]
theorem fv{b:Addr}(h:b≠a):delH H a b=H b:=by simp[delH,h]
theorem Tabs.del{o:HO}(h:Tabs H)(d:H l=some o)(J:¬TF o):Tabs (delH H l) :=
 h.of λb x e L=>by
  rw[fv]
  ·exact e
  ·rintro rfl;rw[d]at e;cases e;exact J L
theorem DM{o:HO}(h:H a=some o):upd (delH H a) a o=H:=by
 funext b;by_cases e:b=a
 ·subst e;rw[ai,h]
 ·rw[ah e,fv e]
section
variable{F:Fx}
theorem RSt.rebase{ρ:DS}(r:RSt K F M H σ ρ):RSt K ⟨F.pp,M,H⟩ M H σ (cZ ρ):=by
 refine⟨by simp[cZ,r.len],λi s o b n=>?_,OwF.none (λi s b=>?_),λa h=>h,.refl,r.liv.m,r.liv0,⟨trivial,r.lk.t⟩⟩
 ·simp only[cZ,zzu]at b;cases q:ρ[i]? with
  |none=>rw[q]at b;cases b
  |some g =>
   rw[q]at b;cases b;have:=r.sl i g o q n;cases g with
   |nil=>trivial|val d=>exact this|pin w d=>exact this|own ds=>trivial|obj q=>trivial
 ·simp only[cZ,zzu]at b;cases q:ρ[i]? with
  |none=>rw[q]at b;cases b
  |some g =>
   rw[q]at b;cases b;exact jG g
theorem RSt.writeFree{ρ:DS}{D:Addr}{xs:List V}(r:RSt K ⟨F.pp,M,H⟩ M H σ (cZ ρ))(U:D∈M)(Y:F.pp≠some D)(h:H D=some (.lst xs)) :
  RSt K ⟨F.pp,M,upd H D (.lst ys)⟩ M (upd H D (.lst ys)) σ (cZ ρ):=by
 have m:Mv K F.pp M H M (upd H D (.lst ys)):=.write h U Y;have J:Lv0 F.pp M (upd H D (.lst ys)):=by
  refine⟨λa C=>?_,λp e=>?_⟩
  ·by_cases z:a=D
   ·subst z;rw[ai];intro z;cases z
   ·rw[ah z];exact r.liv.m a C
  ·by_cases z:p=D
   ·subst z;rw[ai];intro z;cases z
   ·rw[ah z];exact r.liv.p p e
 refine⟨r.len,λi s o b n=>?_,OwF.none (λi s b=>?_),λa h=>h,.refl,J.m,J,⟨trivial,m.tb r.lk.t⟩⟩
 rotate_left
 ·simp only[cZ,zzu]at b;cases q:ρ[i]? with
  |none=>rw[q]at b;cases b
  |some g =>
   rw[q]at b;cases b;exact jG g
 have q:=r.sl i s o b n;cases s with
 |nil=>trivial|val d=>obtain⟨v,e,q⟩:=q;exact⟨v,e,q.mv m⟩
 |pin w d=>obtain⟨v,e,L,q⟩:=q;exact⟨v,e,L,q.mv m⟩
 |obj z=>exact q|own ds =>
  exfalso;simp only[cZ,zzu]at b;cases q:ρ[i]? with
  |none=>rw[q]at b;cases b
  |some g=>rw[q]at b;cases g<;>cases b
theorem wH(ρ:DS):cZ (cZ ρ)=cZ ρ:=by simp only[cZ,zzB];refine zzR λs _=>?_;cases s<;>rfl
theorem rD(b:List (Option Nat))(ρ:DS):cZ (subD b ρ)=subD b ρ:=by
 simp only[cZ,subD,zzB];refine zzR λo _=>?_;cases o with
 |none=>rfl|some j=>simp only[Function.comp,Jk];cases slot ρ j<;>rfl
theorem RSt.block{ρ:DS}{D:Addr}(r:RSt K F M H σ ρ)(g:List (Option Nat))(J:H D=none) :
  RSt K ⟨F.pp,D::M,upd H D (.lst [])⟩ (D::M) (upd H D (.lst [])) (L2.sub g σ) (subD g ρ):=by
 have m:Mv K F.pp M H (D::M) (upd H D (.lst [])):=.newOwn J;have E:Lv0 F.pp (D::M) (upd H D (.lst [])):=by
  refine⟨λa C=>?_,λp e=>(SameP.new (K:=K) (pp:=F.pp) J).live p (r.liv.p p e)⟩;rcases zzk.mp C with rfl|C
  ·rw[ai];intro z;cases z
  ·exact(SameP.new (K:=K) (pp:=F.pp) J).live a (r.liv.m a C)
 refine⟨by simp[L2.sub,subD],λi s o b n=>?_,OwF.none (λi s b=>?_),λa h=>h,.refl,E.m,E,⟨trivial,m.tb r.lk.t⟩⟩
 ·simp only[subD,zzu]at b;simp only[L2.sub,zzu]at n;cases q:g[i]? with
  |none=>rw[q]at b;cases b
  |some Y =>
   rw[q]at b n;cases b;cases n;cases Y with
   |none=>trivial|some j =>
    show RSl K _ _ _ (uZ (slot ρ j)) _;cases e:slot ρ j with
    |nil=>trivial|own G=>trivial|obj q=>trivial|val d =>
     obtain⟨o,L,v,rfl,U⟩:=r.at (aG e (by intro z;cases z));exact⟨v,by simp[sub1,L],U.mv m⟩
    |pin w d =>
     obtain⟨o,L,v,rfl,I,U⟩:=r.at (aG e (by intro z;cases z));exact⟨v,by simp[sub1,L],I,U.mv m⟩
 ·simp only[subD,zzu]at b;cases q:g[i]? with
  |none=>rw[q]at b;cases b
  |some Y =>
   rw[q]at b;cases Y with
   |none=>cases b;exact⟨λG z=>(by cases z),λq z=>(by cases z)⟩
   |some j =>
    cases b;exact jG (slot ρ j)
structure PTsD(X:Cx)(ifs:List Expr)(t:DT):Prop where
 mono:∀ρ P P',(∀b ρ',P b ρ'->P' b ρ')->t ρ P->t ρ P'
 run:∃T:TT,PTs X ifs T/\∀{F:Fx} M H σ ρ (Q:Bool->Hp->Prop),RSt X.K F M H σ ρ ->
  (t ρ λb ρ'=>∀M' H',Mv X.K F.pp M H M' H'->RSt X.K F M' H' σ ρ'->Q b H')->T σ H Q
abbrev cJ:DT:=λb Q=>Q true b
theorem aM:PTsD X [] cJ:=⟨λ_ _ _ f h=>f _ _ h,_,Gg,λ{F} M H σ ρ Q J h=>h M H .refl J⟩
theorem sR{c:Expr}{t:DT}(h:PTD X c t):PTsD X [c] t:=by obtain⟨T,p,r⟩:=h.run;exact⟨h.mono,T,Gh p,r⟩
structure PCD(X:Cx)(e:Expr)(t:DA):Prop where
 mono:∀ρ P P',(∀d ρ',P d ρ'->P' d ρ')->t ρ P->t ρ P'
 run:∃T:TE,PE X e T/\(∀(i:Nat) (y:Str) (py spos:Pos),X.N.Nodup->X.N[i]? = some y->X.env.scope.names.lookup y=some .local->swapsWith e (some (.Name y py)) spos.line X.env=pure true->PS X (.Assign [.Name y py] e spos) (tAsg T (gName i))) /\
  ∀{F:Fx} M H σ ρ (Q:VK),RSt X.K F M H σ ρ ->
  (t ρ λds ρ'=>∀M' H1 H' l xs,Mv X.K F.pp M H M' H1->RSt X.K F M' H1 σ ρ'->H1 l=none->H'=upd H1 l (.lst xs)->Reps X.K F.pp M' H1 ds xs->Q (.ref l) H')->T σ H Q
theorem PCD.pld{t:DA}(h:PCD X e t):PLD X e t:=by obtain⟨T,p,_,r⟩:=h.run;exact⟨h.mono,T,p,r⟩
theorem mh{g:DG}{s:DT}{z:DE}(L:∀d ρ P q,(∀n,P n->q n)->g d ρ P->g d ρ q)(C:∀ρ P q,(∀b n,P b n->q b n)->s ρ P->s ρ q)(he:∀ρ P q,(∀d n,P d n->q d n)->z ρ P->z ρ q){Q U:List D->Prop}(f:∀ys,Q ys->U ys) :
  ∀(ds J:List D) (ρ:DS),dl g s z ds J ρ Q->dl g s z ds J ρ U
 |[],J,ρ,h=>f _ h|d::r,J,ρ,h=>L _ _ _ _ (λρ1 h=>C _ _ _ (λb ρ2 h=>⟨λe=>he _ _ _ (λy ρ3 h=>⟨h.1,mh L C he f r _ _ h.2⟩) (h.yes e),λe=>mh L C he f r _ _ (h.no e)⟩) h) h
theorem aH{elt iter:Expr}{d:Scope}{cl:List (Str×Addr)}{N':List Str}{js:List (Option Nat)}{t:DA}{g:DG}{tc:DT}{te:DE}(hc:X.calm=true)(b5:dU X.env.cells d.names []=some cl)(b6:∀y∈d.names,y.2=.free->(y.1,NameKind.cell)∉d.names)(a9:d.kind=.function)(cap:Cap X d N' js)(a8:∀y∈d.names,y.2=.local->d.names.lookup y.1=some .local)(hi:PID X tg iter t)(hg:∀B:Blk,PGD (cxB X d cl N' B) tg g)(ht:∀B:Blk,PTsD (cxB X d cl N' B) ifs tc)(he:∀B:Blk,PED (cxB X d cl N' B) elt te)(hs:∀v,foldedSetIterable iter X.env v=pure v:=by intro _;rfl):PCD X (.ListComp elt [⟨tg,iter,ifs,0⟩] d pos) (Jm t js g tc te):=by
 obtain⟨wi,pi,ri⟩:=hi.run;have w:∀B:Blk,PG (cxB X d cl N' B) tg (Classical.choose (hg B).run)/\PTs (cxB X d cl N' B) ifs (Classical.choose (ht B).run)/\PE (cxB X d cl N' B) elt (Classical.choose (he B).run):=λB =>
  ⟨(zzU (hg B).run).1,(zzU (ht B).run).1,(zzU (he B).run).1⟩
 let B0:Blk:=⟨0,X.s₀,X.H₀,[],[]⟩
 refine⟨λ_ _ _ f h=>hi.mono _ _ _ (λE b2 h=>mh (hg B0).mono (ht B0).mono (he B0).mono (λys h=>f _ _ h) _ _ _ h) h,_,Gj hc b5 b6 a9 cap a8 pi w hs,λi y py spos hN hy hl c7=>Ak hN hy hl hc b5 b6 a9 cap a8 pi w c7 hs,λ{F} M H σ ρ Q rs h=>?_⟩;refine ri M H σ ρ _ rs (hi.mono _ _ _ (λE b2 h M1 r J m1 b8 ok=>?_) h);intro B U u;obtain⟨_,rg⟩:=zzU (hg B).run;obtain⟨_,rt⟩:=zzU (ht B).run;obtain⟨_,re⟩:=zzU (he B).run;have N:=b8.liv.fresh u;have m3:Mv X.K F.pp M1 r (U::M1) (upd r U (.lst [])):=.newOwn u;refine⟨λi m c H'=>∃M' I L ys,m=E.length - i/\i <= E.length/\Mv X.K F.pp M1 r M' H'/\SameP X.K F.pp r H'/\RSt X.K ⟨F.pp,M',H'⟩ M' H' c (cZ I)/\U∈M'/\(∀a∈M1,a∈M')/\H' U=some (.lst ys)/\Reps X.K F.pp M' H' L ys /\
  dl g tc te (E.drop i) L (cZ I) λys=>∀M' r H' l T,Mv X.K F.pp M H M' r->RSt X.K F M' r σ b2->r l=none->H'=upd r l (.lst T)->Reps X.K F.pp M' r ys T->Q (.ref l) H',
  ⟨E.length,U::M1,subD js b2,[],[],rfl,zya _,m3,.new u,by rw[rD];exact b8.block js u,zzg,λa ha=>zzc _ ha,ai,.nil,by rw[rD];exact h⟩,?_⟩
 rintro i m c H' ⟨M',I,L,ys,rfl,hil,mv,sm,d0,c0,b7,j,ra,Y⟩;by_cases b1:i<E.length
 ·have e1:E[i]? = some E[i]:=by simp[b1]
  rw[zzZ b1]at Y;refine .inr ⟨ok.go M' H' mv i b1,λc4 s=>∃M2 b3 L ys,Mv X.K F.pp M1 r M2 s/\SameP X.K F.pp r s/\RSt X.K ⟨F.pp,M2,s⟩ M2 s c4 (cZ b3)/\U∈M2/\(∀a∈M1,a∈M2)/\s U=some (.lst ys)/\Reps X.K F.pp M2 s L ys /\
   dl g tc te (E.drop (i+1)) L (cZ b3) λys=>∀M' r H' l T,Mv X.K F.pp M H M' r->RSt X.K F M' r σ b2->r l=none->H'=upd r l (.lst T)->Reps X.K F.pp M' r ys T->Q (.ref l) H',
   λc4 s q=>by obtain⟨M2,b3,L,ys,a⟩:=q;exact⟨E.length - (i+1),by lia,M2,b3,L,ys,rfl,b1,a⟩,λy s yl=>?_⟩
  obtain⟨sp,rx⟩:=ok.yld M' H' mv i _ y s e1 yl;have c1:RSt X.K ⟨F.pp,M',s⟩ M' s c (cZ I):=by have:=(d0.sameP sp).rebase;rw[wH]at this;exact this
  have c8:=mv.trans (sp.mv (M:=M'));have d6:=sm.trans sp;have c9:=ra.mv (sp.mv (M:=M'));have b9:s U=some (.lst ys):=sp.keep U _ j (nw N.2);refine rg M' s c (cZ I) _ _ _ c1 rx ((hg B).mono _ _ _ _ (λd7 h3 M3 H3 c5 m3 d4=>?_) Y);refine rt M3 H3 c5 d7 _ d4 ((ht B).mono _ _ _ (λb c3 h4 M4 H4 m4 c2=>?_) h3)
  have keep:∀{C:List Addr} {G:Hp} {c6:St} {b4:DS},Mv X.K F.pp M' s C G->RSt X.K ⟨F.pp,M',s⟩ C G c6 b4->Mv X.K F.pp M1 r C G/\SameP X.K F.pp r G/\RSt X.K ⟨F.pp,C,G⟩ C G c6 (cZ b4)/\U∈C/\(∀a∈M1,a∈C)/\G U=some (.lst ys)/\Reps X.K F.pp C G L ys:=λmm rr =>
   ⟨c8.trans mm,d6.trans rr.sameT,rr.rebase,rr.sub _ c0,λa ha=>rr.sub _ (b7 a ha),rr.same.keep U _ b9 (nw N.2),c9.mv mm⟩
  cases b with
  |false =>
   refine iteF ?_;obtain⟨a1,A,a3,a4,a5,a6,a7⟩:=keep (m3.trans m4) c2;exact⟨M4,c3,L,ys,a1,A,a3,a4,a5,a6,a7,h4.no rfl⟩
  |true =>
   refine iteT (re M4 H4 c5 c3 _ c2 ((he B).mono _ _ _ (λy b4 h5 C G v m5 d5 r5=>?_) (h4.yes rfl)));obtain⟨a1,A,a3,a4,a5,a6,a7⟩:=keep ((m3.trans m4).trans m5) d5;have mw:Mv X.K F.pp C G C (upd G U (.lst (ys++[v]))):=.write a6 a4 N.2;refine⟨ys,a6,by rw[←a7.length];exact h5.1,C,b4,L++[y],ys++[v],a1.trans mw,?_,a3.writeFree a4 N.2 a6,a4,a5,ai,(a7.append (.one r5)).mv mw,h5.2⟩;refine⟨⟨λb o e n=>?_,λp e hp=>mw.pen p e (A.pen p e hp),λb w=>?_⟩,λtb=>mw.tb (A.tb tb)⟩
   ·rw[ah (by rintro rfl;rw[u]at e;cases e)];exact A.keep b o e n
   ·by_cases z:b=U
    ·subst z;rw[ai];intro z;cases z
    ·rw[ah z];exact A.live b w
 ·have e:i=E.length:=by lia
  refine .inl ⟨ok.stop M' H' mv i (by lia),?_⟩;have hd:E.drop i=[]:=by rw[List.drop_eq_nil_iff];lia
  rw[hd]at Y;have sd:SameP X.K F.pp r (delH H' U):=by
   refine⟨⟨λb o e n=>?_,λp e hp=>?_,λb w=>?_⟩,λtb=>(sm.tb tb).del j sM⟩
   ·rw[fv (by rintro rfl;rw[u]at e;cases e)];exact sm.keep b o e n
   ·obtain⟨a,ns,t,l,x⟩:=sm.pen p e hp;have np:p≠U:=by rintro rfl;exact N.2 e
    refine⟨a,ns,t,l,by rw[fv np];exact x.lst,?_,x.t0⟩;rcases x.scr with ⟨o,q⟩|q
    ·exact .inl ⟨o,by rw[fv (qK q j (by intro z;cases z))];exact q⟩
    ·exact .inr q
   ·rw[fv (by rintro rfl;exact w u)];exact sm.live b w
  have md:Mv X.K F.pp M' H' M1 (delH H' U):=by
   refine⟨λa T q=>by rw[fv (qK q j (by intro z;cases z))];exact q,λa o q n p=>⟨by rw[fv (by rintro rfl;exact n c0)];exact q,λz=>n (b7 a z)⟩,λp e hp=>?_,λtb=>tb.del j sM⟩;obtain⟨a,ns,t,l,x⟩:=hp;have np:p≠U:=by rintro rfl;exact N.2 e
   refine⟨a,ns,t,l,by rw[fv np];exact x.lst,?_,x.t0⟩;rcases x.scr with ⟨o,q⟩|q
   ·exact .inl ⟨o,by rw[fv (qK q j (by intro z;cases z))];exact q⟩
   ·exact .inr q
  exact Y M1 (delH H' U) H' U ys (m1.trans sd.mv) (b8.sameP sd) Bl (DM j).symm (ra.mv md)
theorem jH{t:DA}(d:X.N.Nodup)(U:X.N[i]? = some y)(b:X.env.scope.names.lookup y=some .local)(h:PCD X e t)(L:swapsWith e (some (.Name y py)) pos.line X.env=pure true:=by rfl):PSD X (.Assign [.Name y py] e pos) (dSet i (dFrz t)):=by obtain⟨T,_,p,r⟩:=h.run;refine⟨_,p i y py pos d U b L,λ{F} M H σ z E D n o q=>r M H σ z _ n (h.mono _ _ _ (λds ρ1 q M1 H1 H' l s Y J b e g=>?_) q)⟩;subst e;refine o.nx M1 _ _ _ (Y.trans (.new b)) ((J.sameP (.new b)).set ?_ i) q;simp only[Rep];exact⟨l,s,rfl,(J.liv.fresh b).1,(J.liv.fresh b).2,ai,g.mv (.new b)⟩
end
section
variable[Frm]
def pz:List D->Option (List Int)
 |[]=>some []|.int i::r=>(pz r).map (i :: ·)|_=>none
theorem rE:∀b:List Int,pz (b.map D.int)=some b
 |[]=>rfl|n::r=>by simp[pz,rE r]
theorem Bn:∀{ds:List D} {b:List Int},pz ds=some b->ds=b.map D.int:=by
 intro ds
 induction ds with
 |nil=>intro _ h;cases h;rfl
 |cons d r J =>
  intro b h;cases d<;>try cases h
  simp only[pz,zxV]at h;obtain⟨ms,h,rfl⟩:=h;rw[J h];rfl
theorem vb{K:zvd}{pp:Option Addr}{M:List Addr}{H:Hp}:∀{b:List Int} {xs:List V},Reps K pp M H (b.map D.int) xs->xs=b.map V.int
 |[],xs,h=>by simpa only[zyf,Reps]using h
 |n::r,xs,h=>by simp only[zzh,Reps,Rep]at h;obtain⟨x,t,rfl,rfl,h⟩:=h;rw[vb h];rfl
def gSum:DSp:=λb P=>match b with
 |[.lst g]=>match pz g with
  |some d=>P (.int d.sum)|none=>False
 |_=>False
theorem sS{b:List Int}{P:D->Prop}(h:P (.int b.sum)):gSum [.lst (b.map D.int)] P:=by unfold gSum;simp only[rE];exact h
theorem xS{ds:List D}{P:D->Prop}(h:gSum ds P):∃b:List Int,ds=[.lst (b.map D.int)]/\P (.int b.sum):=by
 unfold gSum at h;split at h
 ·rename_i d;cases e:pz d with
  |none=>rw[e]at h;exact h.elim|some b =>
   rw[e]at h;exact⟨b,by rw[Bn e],h⟩
 ·exact h.elim
theorem Bo(q:X.calm=true:=by rfl):CallD X (.builtin "sum") gSum:=by
 refine⟨λg P P' f h=>?_,_,Dm q,λ{pp} M H g vs Q _ r h=>?_⟩
 ·obtain⟨d,rfl,b⟩:=xS h;exact sS (f _ b)
 ·obtain⟨d,rfl,b⟩:=xS h;simp only[Reps,Rep]at r;obtain⟨x,_,rfl,⟨a,ys,rfl,_,_,n,J⟩,rfl⟩:=r;refine⟨a,d,rfl,SqL.of (by rw[n,vb J]),b H _ .refl bL⟩
abbrev La(te:DE):DA:=λh Q=>te h λd b=>match d with
 |.lst g=>Q g b|.tup g=>Q g b|_=>False
theorem ET{l:Expr}{C:DE}(s:PED X l C):PID X tg l (La C):=by
 obtain⟨T,p,r⟩:=s.run;refine⟨λ_ _ _ f h=>s.mono _ _ _ (λd _ h=>?_) h,_,IM p,λ{F} M H σ I R G h=>r M H σ I _ G (s.mono _ _ _ (λd ρ' h M' H' v m U L=>?_) h)⟩
 ·cases d<;>first|exact h.elim|exact f _ _ h
 ·cases d<;>first|exact h.elim|skip
  all_goals simp only[Rep]at L
  case tup ds =>
   obtain⟨a,b,rfl,g,L⟩:=L;refine .inr ⟨a,rfl,⟨b,SqT.of g⟩,h M' H' _ m U (ItOkV.of (vs:=b) ⟨λM2 q J i x E _ y=>?_,λM2 q J i n=>?_,λM2 q J i n=>?_⟩ L)⟩
   ·exact⟨y.1,y.2 b (SqT.of (J.tup a b g))⟩
   ·exact⟨b,b[i],SqT.of (J.tup a b g),by simp[n]⟩
   ·exact⟨b,SqT.of (J.tup a b g),n⟩
  case lst ds =>
   obtain⟨a,b,rfl,z,Y,g,L⟩:=L;refine .inl ⟨a,rfl,⟨b,SqL.of g⟩,h M' H' _ m U (ItOkV.of (vs:=b) ⟨λM2 q J i x E _ y=>?_,λM2 q J i n=>?_,λM2 q J i n=>?_⟩ L)⟩
   ·exact⟨y.1,y.2 b (SqL.of (J.lst a b g z Y).1)⟩
   ·exact⟨b,b[i],SqL.of (J.lst a b g z Y).1,by simp[n]⟩
   ·exact⟨b,SqL.of (J.lst a b g z Y).1,n⟩
theorem bn{g:DG}{q:DT}{s:DE}{ds:List D}{Q:List D->Prop}(N:List D->List D->DS->Prop)(E:∀J ρ,N ds J ρ->Q J)
  (hs:∀(pre:List D) (d:D) (post J:List D) (ρ:DS) (Y:List D->DS->Prop),ds=pre++d::post->N pre J ρ->(∀L n,N (pre++[d]) L (cZ n)->Y L n) ->
   g d ρ λa0=>q a0 λb U=>Br b (s U λy z=>J.length<sizeLine/\Y (J++[y]) z) (Y J U)) (ρ:DS) (h:N [] [] ρ):dl g q s ds [] ρ Q:=by
 have key:∀(post pre J:List D),ds=pre++post->∀ρ,N pre J ρ->dl g q s post J ρ Q:=by
  intro post
  induction post with
  |nil=>intro pre J e ρ h;rw[zzv]at e;subst e;exact E J ρ h|cons d r G=>intro pre J e ρ h;exact hs pre d r J ρ (λL n=>dl g q s r L (cZ n) Q) e h (λL n C=>G (pre++[d]) L (by rw[e,zzO];rfl) _ C)
 exact key ds [] [] rfl ρ h
theorem aP{g:DG}{z:DE}{xs:List α}{em:α->D}{Q:List D->Prop}(f:α->D)(N:DS->Prop)(G:xs.length <= sizeLine)(hs:∀x∈xs,∀(ρ:DS) (Y:D->DS->Prop) (Z:DS->Prop),N ρ->(∀n,N (cZ n)->Y (f x) n)->g (em x) ρ λU=>cJ U λb L=>Br b (z L Y) (Z L))(ρ:DS)(h:N ρ)(I:Q (xs.map f)):dl g cJ z (xs.map em) [] ρ Q:=by refine bn (λpre J ρ=>J=(xs.take pre.length).map f/\N ρ) (λJ ρ h=>by rw[h.1,zza,zwG];exact I) (λpre d post J ρ Y e r E=>?_) ρ ⟨rfl,h⟩;obtain⟨l,l2,rfl,rfl,q⟩:=List.map_eq_append_iff.mp e;obtain⟨x,s,rfl,rfl,rfl⟩:=List.map_eq_cons_iff.mp q;obtain⟨rfl,r⟩:=r;rw[show (l++x::s).take (l.map em).length=l by simp];refine hs x (by simp) ρ _ _ r λn C=>⟨?_,E _ n ⟨by rw[show (l++x::s).take (l.map em++[em x]).length=l++[x] by simp[List.take_append,zxr]];simp,C⟩⟩;rw[zzd,zzm]at G;rw[zza];lia
structure Shp(n:Nat)(d:D):Prop where
 p:pln d=true
 c:(toPy d).canLay0=true
 d:(toPy d).depth <= n
theorem Shp.shp{n:Nat}{d:D}(h:Shp n d)(l:n <= 64:=by decide):shp d=true:=by unfold DL.shp SeqAt.shaped;rw[h.p,h.c,zzj (zzq h.d l)];rfl
theorem Shp.int{i:Int}{n:Nat}:Shp n (.int i):=⟨rfl,rfl,zya _⟩
theorem Bp{n:Nat}:∀{ds:List D},(∀d∈ds,Shp n d)->plns ds=true/\PyData.canLayAll0 (sQ ds)=true/\PyData.depthAll (sQ ds) <= n
 |[],_=>⟨rfl,rfl,zya _⟩|d::ds,h=>by obtain⟨a,b,c⟩:=Bp (ds:=ds) λx J=>h x (zzc _ J);have q:=h d zzg;refine⟨by simp only[plns,q.p,a,Bool.and_self],by simp only[sQ,PyData.canLayAll0,q.c,b,Bool.and_self],?_⟩;simp only[sQ,PyData.depthAll];exact Nat.max_le.mpr ⟨q.d,c⟩
theorem Shp.lst{n:Nat}{ds:List D}(h:∀d∈ds,Shp n d):Shp (n+1) (.lst ds):=by obtain⟨a,b,c⟩:=Bp h;exact⟨by simp only[pln,a],by simp only[toPy,PyData.canLay0,b],by simp only[toPy,PyData.depth];lia⟩
theorem xT{d:D}(h:shp d=true):eqD d d=true:=by unfold shp at h;rw[zzX]at h;exact SeqAt.eqv_refl _ (SeqAt.canLay_of_shaped h.2)
end
theorem Bq{X:Cx}{E:Value->Shared->Prop}{W:St->XK}{e:Value}{s':Shared}(h:XF (X.wish E) W e s'):XF X W e s':=by obtain⟨n,C,g,B,σ,H,a,b,c,d,f⟩:=h;exact⟨n,C,g,B,σ,H,a,b,⟨c.old,c.trk,c.pin⟩,d.unwish,f⟩
abbrev DSpE:=List D->(D->Prop)->(Addr->Prop)->Prop
def wI(g:DSpE):Prop:=∀h P b W J,(∀d,P d->b d)->(∀C,W C->J C)->g h P W->g h b J
abbrev Jn(n:Nat)(g:DSpE)(W:DS->Addr->Prop)(t:DA):DE:=λh Q=>t h λb J=>b.length=n/\g b (λd=>Q d J) (W J)
section
variable[fr0:Frm]
theorem RSt.setNil{K:zvd}{F:Fx}{ρ:DS}{o:Option V}(r:RSt K F M H σ ρ)(i:Nat):RSt K F M H (σ.set i o) (ρ.set i .nil):=by
 refine⟨by simp[r.len],λj s o b d=>?_,r.ow.drop i (λj e=>zzH (Ne.symm e)) (λj e=>zzH (Ne.symm e)) (λs e=>?_),r.sub,r.same,r.old,r.liv0,r.lk⟩
 ·by_cases e:i=j
  ·subst e;rw[aL b];trivial
  ·rw[zzH e]at b d;exact r.sl j s o b d
 ·rw[aL e];exact⟨λds z=>(by cases z),λq z=>(by cases z)⟩
theorem xU{fr1 J:Frm}{K:zvd}{F:Fx}{ρ:DS}(r : @RSt _ fr1 K F M H σ ρ)(l:J.L K F M H) : @RSt _ J K F M H σ ρ:=by obtain⟨a,b,c,d,e,f,g,lt⟩:=r;exact @RSt.mk _ J K F M H σ ρ a b c d e f g (@Lk.mk _ J K F M H l (@Lk.t _ fr1 K F M H lt))
theorem wJ{J:Frm}{K:zvd}{F:Fx}{ρ:DS}(r : @RSt _ J K F M H σ ρ):J.L K F M H:=by obtain⟨_,_,_,_,_,_,_,l⟩:=r;exact @Lk.l _ J K F M H l
theorem Lb{L J:Frm}{K:zvd}{F:Fx}{E:DEnds}{D:Ends}(o : @EO _ L K F M H E D)(h:∀M' H' g b,@RSt _ J K F M' H' g b -> @RSt _ L K F M' H' g b) : @EO _ J K F M H E D:=by obtain⟨s,bk,n,rt⟩:=o;exact @EO.mk _ J K F M H E D (λ_ _ _ _ m r q=>s _ _ _ _ m (h _ _ _ _ r) q) (λ_ _ _ _ m r q=>bk _ _ _ _ m (h _ _ _ _ r) q) (λ_ _ _ _ m r q=>n _ _ _ _ m (h _ _ _ _ r) q) (λ_ _ _ _ _ _ m r d q=>rt _ _ _ _ _ _ m (h _ _ _ _ r) d q)
@[reducible] def GS (F:Fx) (M:List Addr) (H:Hp) (W:DS->Addr->Prop):Frm :=
 ⟨λL J M' H'=>J=F/\Mv L F.pp M H M' H',W,λL J M1 H1 M2 H2 h m=>⟨h.1,h.2.trans (by rw[h.1]at m;exact m)⟩⟩
abbrev GT(i:Nat)(E:DEnds):DEnds:={ nx:=λb=>E.nx (b.set i .nil),rt:=E.rt,bk:=λb=>E.bk (b.set i .nil),ct:=λb=>E.ct (b.set i .nil) }
end
section
variable[Frm]
theorem eX{C:Addr}(J:Gl X x)(b:X.mg x=some (.ref C))(hd:(x == ("__debug__" : Str))=false:=by decide):PED X (.Name x pos) (dC (.cls C)) :=
 .con (zK (v:=.ref C) J b rfl hd) λ_ _ _=>by simp only[Rep]
def clD:D->Option Value
 |.cls C=>some (.ref C)|.ty T=>some (.type T)|_=>none
def clsD:List D->Option (List Value)
 |[]=>some []|d::b=>match clD d,clsD b with|some c,some r=>some (c::r)|_,_=>none
theorem Bs{K:zvd}{pp:Option Addr}{d:D}{x:V}{v u:Value}(e:clD d=some v)(r:Rep K pp M H d x)(q:RelV x u):u=v:=by
 cases d<;>simp only[clD]at e<;>cases e
 ·simp only[Rep]at r;subst r;exact q
 ·simp only[Rep]at r;subst r;exact q
theorem xV{K:zvd}{pp:Option Addr}{M:List Addr}{H:Hp}:∀{ds:List D} {xs:List V} {vs us:List Value},clsD ds=some vs->Reps K pp M H ds xs->Vals xs us->us=vs
 |[],_,_,_,e,r,q=>by simp only[Reps]at r;subst r;cases q;simp only[clsD]at e;cases e;rfl
 |d::ds,_,_,_,e,r,q=>by
  simp only[Reps]at r;obtain⟨y,r',rfl,h,n⟩:=r;cases q with
  |cons J L =>
   simp only[clsD]at e;split at e
   ·rename_i c rr b g;cases e;rw[Bs b h J,xV g n L]
   ·cases e
theorem pA{b:DE}{g:DG}(he:PED X e b)(J:PGD X tg g)(hs:swapsWithSole [tg] e pos.line X.env=pure false:=by rfl)(hw:swappedStores [tg] e X.env=pure none:=by rfl)(d:(assignEach [tg] X.env).map (·.2)=[assign tg X.env]:=by rfl):PSD X (.Assign [tg] e pos) (dAsg b g) :=
 Jf he J hs hw (uj (zzU he.run).1 (zzU J.run).1 hs hw d)
end
section
variable[Frm]
omit [Frm] in
theorem Br.di{p:Prop}[Decidable p]{A:Prop}(a:p->A)(b:¬p->B):Br (decide p) A B:=⟨λz=>a (zzP z),λz=>b (zyr z)⟩
theorem eY{g:DG}{b:DTS}{E:DEnds}(N:Int->DS->Prop):∀(n:Nat) (lo:Int),(∀ρ,N (lo+n) ρ->E.nx ρ) ->
  (∀(k:Int) (ρ:DS) (X:DS->Prop),lo <= k->k<lo+n->N k ρ->(∀d,N (k+1) d->X d)->g (.int k) ρ λJ=>b { E with nx:=X,ct:=X,bk:=E.nx } J)->∀ρ,N lo ρ->nK g b (ig lo n) E ρ
 |0,lo,q,_,ρ,h=>q ρ (by simpa using h)|n+1,lo,q,r,ρ,h=>r lo ρ _ (zye _) (by lia) h λd s=>eY N n (lo+1) (λρ h=>q ρ (by rw[show lo+((n+1:Nat):Int)=lo+1+(n:Int) by lia];exact h)) (λk ρ X h1 h2=>r k ρ X (by lia) (by lia)) d s
section
variable{F:Fx}
def fA(k:Nat):List D->List D
 |[]=>[]|d::r=>.tup [.int k,d]::fA (k+1) r
omit [Frm] in
theorem bC:∀(ds:List D) (k:Nat),(fA k ds).length=ds.length
 |[],_=>rfl|_::r,k=>by simp[fA,bC r]
omit [Frm] in
theorem vc:∀(ds:List D) (k i:Nat) (d:D),(fA k ds)[i]? = some d->∃e,ds[i]? = some e/\d=.tup [.int ((k+i:Nat):Int),e]
 |[],_,i,d,h=>by simp[fA]at h
 |e::r,k,0,d,h=>by simp[fA]at h;exact⟨e,rfl,h.symm⟩
 |e::r,k,i+1,d,h=>by simp only[fA,List.getElem?_cons_succ]at h ⊢;obtain⟨J,b,g⟩:=vc r (k+1) i d h;exact⟨J,b,by rw[g];congr 3;congr 1;lia⟩
def zipD:List D->List D->List D
 |x::b,y::ys=>.tup [x,y]::zipD b ys|_,_=>[]
omit [Frm] in
theorem pB:∀(xs ys:List D),(zipD xs ys).length=min xs.length ys.length
 |[],_=>by simp[zipD]
 |_::_,[]=>by simp[zipD]
 |_::xs,_::ys=>by simp[zipD,pB xs ys]
omit [Frm] in
theorem xW:∀(xs ys:List D) (i:Nat) (d:D),(zipD xs ys)[i]? = some d->∃x y,xs[i]? = some x/\ys[i]? = some y/\d=.tup [x,y]
 |[],_,i,d,h=>by simp[zipD]at h
 |_::_,[],i,d,h=>by simp[zipD]at h
 |x::xs,y::ys,0,d,h=>by simp[zipD]at h;exact⟨x,y,rfl,rfl,h.symm⟩
 |x::xs,y::ys,i+1,d,h=>by simp only[zipD,List.getElem?_cons_succ]at h ⊢;exact xW xs ys i d h
def Jo(k:Nat)(d:D)(ρ:DS)(Q:DS->Prop)(j:D):Sl->Prop
 |.own b=>match j with
  |.int i=>∃n,ixN b.length i=some n/\Q (ρ.set k (.own (b.set n d)))|_=>False
 |_=>False
abbrev Lc(k:Nat)(ti:DE):DG:=λd g Q=>DK (slot g k)/\ti g λj b=>Jo k d b Q j (slot b k)
theorem Bt{k:Nat}{i:Expr}{u:DE}(ho:PE X o (tVar k))(E:PED X i u)(N:∀v,assign (.Subscript o i pos) X.env v=(do
   let C ←holding [v] (eval o X.env)
   let G ←holding [v,C] (eval i X.env)
   standAt pos
   holding [v,C,G] (setItem C G v)
   release [v,C,G] []):=by intro _;rfl):PGD X (.Subscript o i pos) (Lc k u):=by
 obtain⟨T,p,r⟩:=E.run;refine⟨λd I P P' f h=>⟨h.1,E.mono _ _ _ (λj g h=>?_) h.2⟩,_,zM ho p sr N,λ{F} M H σ I d v Q c rd h=>?_⟩
 ·cases q:slot g k with
  |nil=>rw[q]at h;exact h.elim|val d=>rw[q]at h;exact h.elim|pin w d=>rw[q]at h;exact h.elim|obj z=>rw[q]at h;exact h.elim|own A =>
   rw[q]at h;cases j<;>first|exact h.elim|(obtain⟨n,e,h⟩:=h;exact⟨n,e,f _ h⟩)
 ·obtain⟨b,h⟩:=h;cases q:slot I k with
  |nil=>rw[q]at b;exact b.elim|val d=>rw[q]at b;exact b.elim|pin w d=>rw[q]at b;exact b.elim|obj z=>rw[q]at b;exact b.elim|own A =>
   obtain⟨oo1,J,l,xs,rfl,hm1,h01,hp1,hl1,hr1⟩:=c.at (aG q (by intro z;cases z));refine⟨.ref l,J,?_⟩;refine r M H σ I _ c (E.mono _ _ _ (λj g h M' H' w m U a=>?_) h);cases s:slot g k with
   |nil=>rw[s]at h;exact h.elim|val d=>rw[s]at h;exact h.elim|pin w d=>rw[s]at h;exact h.elim|obj z=>rw[s]at h;exact h.elim|own ds' =>
    rw[s]at h;cases j<;>first|exact h.elim|skip
    rename_i j;obtain⟨n,e,h⟩:=h;have g1:=aG s (by intro z;cases z);obtain⟨l',y,B,hm',h0',hp',Y,L⟩:=U.sl k _ _ g1 J;cases B;simp only[Rep]at a;subst a;obtain⟨m2,x⟩:=U.write g1 J (L.set (rd.mv m) n);exact⟨l,y,j,n,rfl,rfl,Y,by rw[←L.length];exact e,h M' _ _ (m.trans m2) x⟩
omit [Frm] in
theorem Bu{n:Nat}{i:Int}(b:0 <= i)(h:i<n):ixN n i=some i.toNat:=by unfold ixN;rw[zzn b,zzn h]
end
end
abbrev DTN:=(D->Prop)->(List D->Prop)->DS->Prop
section
variable[Frm]
structure EN(K:zvd)(F:Fx)(M:List Addr)(H:Hp)(Q:D->Prop)(L:List D->Prop)(D:Ends):Prop where
 rt:∀M' H' σ' ρ' d v,Mv K F.pp M H M' H'->RSt K F M' H' σ' ρ'->Rep K F.pp M' H' d v->Q d->D.rt v H'
 nx:∀M' H' σ' ρ',Mv K F.pp M H M' H'->RSt K F M' H' σ' ρ'->Q .non->D.nx σ' H'
 nw:∀M' H' ds l xs,SameP K F.pp F.H0 H'->(∀a∈F.M0,a∈M')->F.H0 l=none->F.pp≠some l->l∈M'->H' l=some (.lst xs)->Reps K F.pp M' H' ds xs->L ds->D.rt (.ref l) H'
theorem EN.mv{K:zvd}{F:Fx}{Q:DL.D->Prop}{L:List DL.D->Prop}{D:Ends}(o:EN K F M H Q L D)(m:Mv K F.pp M H A H'):EN K F A H' Q L D :=
 ⟨λ_ _ _ _ _ _ J=>o.rt _ _ _ _ _ _ (m.trans J),λ_ _ _ _ J=>o.nx _ _ _ _ (m.trans J),o.nw⟩
def PSsN(X:Cx)(st:List Stmt)(t:DTN):Prop:=∃T:TS,PSs X st T/\∀{F:Fx} M H σ ρ (Q:D->Prop) (L:List D->Prop) (D:Ends),RSt X.K F M H σ ρ->EN X.K F M H Q L D->t Q L ρ->T D σ H
variable{st:Stmt}{rest:List Stmt}{t:DTS}{u:DTN}{tl:DA}
theorem GU(h:PLD X e tl):PSsN X [.Return (some e) pos] (λ_ L ρ=>tl ρ λds _=>L ds):=by
 obtain⟨T,p,r⟩:=h.run;refine⟨_,gj (ui p),λ{F} M H σ ρ Q L D Y U q=>r M H σ ρ _ Y (h.mono _ _ _ (λds ρ' q M' H1 H' l s m J b e n=>?_) q)⟩;subst e;have d:F.H0 l=none:=by
  cases e:F.H0 l with
  |none=>rfl|some o=>exact absurd b (J.same.live l (by rw[e];intro z;cases z))
 exact U.nw (l::M') _ ds l s (J.sameT.trans (.new b)) (λa g=>zzc _ (J.sub a g)) d (J.liv.fresh b).2 zzg ai (n.mv (.newOwn b)) q
theorem xX(g:PSD X st t)(n:PSsN X rest u):PSsN X (st::rest) (λQ L ρ=>t { nx:=u Q L,rt:=Q } ρ):=by obtain⟨T,p,r⟩:=g;obtain⟨U,q,s⟩:=n;refine⟨_,aW p q,λ{F} M H σ ρ Q L D z Y h=>r M H σ ρ { nx:=u Q L,rt:=Q } { D with nx:=U D } z ⟨λM' H' d b m J h=>?_,λ_ _ _ _ _ _ q=>q.elim,λ_ _ _ _ _ _ q=>q.elim,Y.rt⟩ h⟩;exact s M' H' d b Q L D J (Y.mv m) h
theorem GV(g:PSD X st t)(n:PSsN X rest u):PSsN X (st::rest) (λQ L ρ=>∃N:DS->Prop,t { nx:=N,rt:=Q } ρ/\∀b,N b->u Q L b):=by obtain⟨T,p,r⟩:=g;obtain⟨U,q,s⟩:=n;refine⟨_,aW p q,λ{F} M H σ ρ Q L D C Y h=>?_⟩;obtain⟨N,h,z⟩:=h;refine r M H σ ρ { nx:=N,rt:=Q } { D with nx:=U D } C ⟨λM' H' d b m J h=>?_,λ_ _ _ _ _ _ q=>q.elim,λ_ _ _ _ _ _ q=>q.elim,Y.rt⟩ h;exact s M' H' d b Q L D J (Y.mv m) (z b h)
end
abbrev DSpN:=List D->(D->Prop)->(List D->Prop)->Prop
def spDN(K:zvd)(n:Nat)(g:DSpN):Sp:=λvs H Q _=>∃pp M b,Lv pp M H/\Reps K pp M H b vs/\b.length=n/\g b (λd=>∀H' v,SameP K pp H H'->Rep K pp M H' d v->Q v H')
 (λes=>∀M' H' l h,SameP K pp H H'->(∀a∈M,a∈M')->H l=none->pp≠some l->l∈M'->H' l=some (.lst h)->Reps K pp M' H' es h->Q (.ref l) H')
def Jp(g:DSpN):Prop:=∀h P b L J,(∀d,P d->b d)->(∀es,L es->J es)->g h P L->g h b J
theorem fnDN{P:Program}{K:zvd}{base:Heap}{st:Stmt}{f:Addr}{k:Nat}{g:DSpN}{t:DTN}(U:Fun K x y st f fd)(S:FnScope N ps (ag st))(Y:∀(n:Value) (A:Around) (b:List Env) (s:Shared) (H:Hp) (E:XK),Room k (A.deeper (envOfC y (ag st) s.heap.objs.size f n)) -> @PSsN _ Frm.free (cxOf CX0 P w K mg base N y (ag st) f n A b s H E).nox (bv st) t)(I:∀ds Q L,ds.length=ps.length->g ds Q L->t Q L (rB N.length ds)):FnOk P w K mg base CX0 (k+1) f fd ps (spDN K ps.length g):=by
 refine U.ok S (λvs H Q E h=>?_) (λn A b s H vs Q E j h=>?_)
 ·obtain⟨pp,M,ds,_,r,e,_⟩:=h;rw[←r.length,e]
 ·obtain⟨pp,M,ds,o,r,e,h⟩:=h;obtain⟨T,p,run⟩:=Y n A b s H E j;refine⟨T,p,run M H _ _ _ _ _ (pj o r trivial) ⟨λM' H' C z d v m J u q=>?_,λM' H' C z m J q=>?_,λM' H' es l xs s sub G i c a B q=>?_⟩ (I ds _ _ e h)⟩
  ·exact q H' v J.sameT (u.mv (.less J.sub))
  ·exact q H' .non J.sameT (by simp only[Rep])
  ·exact q M' H' l xs s sub G i c a B
theorem FnOk.asD{P:Program}{K:zvd}{base:Heap}{k n:Nat}{f:Addr}{g:DSpN}{g':DSp}(h:FnOk P w K mg base CX0 k f fd ps (spDN K n g))(Y:∀ds Q,g' ds Q->g ds Q (λes=>Q (.lst es)))(L:Jp g):FnOk P w K mg base CX0 k f fd ps (spD K n g') :=
 h.imp λvs H Q E h=>by obtain⟨pp,M,ds,J,r,e,h⟩:=h;refine⟨pp,M,ds,J,r,e,L _ _ _ _ _ (λd q=>q) (λes q M' H' l G s sub b z hm U C=>q H' _ s ?_) (Y _ _ h)⟩;simp only[Rep];exact⟨l,G,rfl,(J.fresh b).1,z,U,C.mv (.less sub)⟩
section
variable[Frm]
def qP:DS->Bool
 |[]=>true|.own _::_=>false|.obj _::_=>false|_::r=>qP r
def bM:Nat->DS->Bool
 |_,[]=>true|0,_::r=>qP r|_+1,.own _::_=>false|_+1,.obj _::_=>false|k+1,_::r=>bM k r
omit [Frm] in
theorem pC:∀{ρ:DS} {j:Nat} {ds:List D},qP ρ=true->ρ[j]? = some (.own ds)->False
 |[],j,ds,_,h=>by simp at h
 |s::r,0,ds,h,e=>by simp at e;subst e;simp[qP]at h
 |s::r,j+1,ds,h,e=>by cases s<;>first|(simp[qP]at h;done)|exact pC (ρ:=r) (by simpa[qP]using h) (by simpa using e)
omit [Frm] in
theorem mi:∀{ρ:DS} {k j:Nat} {ds:List D},bM k ρ=true->ρ[j]? = some (.own ds)->j=k
 |[],k,j,ds,_,h=>by simp at h
 |s::r,0,0,ds,h,e=>rfl|s::r,0,j+1,ds,h,e=>(pC (ρ:=r) (by simpa[bM]using h) (by simpa using e)).elim|s::r,k+1,0,ds,h,e=>by simp at e;subst e;simp[bM]at h
 |s::r,k+1,j+1,ds,h,e=>by cases s<;>first|(simp[bM]at h;done)|exact congrArg Nat.succ (mi (ρ:=r) (k:=k) (by simpa[bM]using h) (by simpa using e))
omit [Frm] in
theorem pD:∀{ρ:DS} {j:Nat} {q:O},qP ρ=true->ρ[j]? = some (.obj q)->False
 |[],j,b,_,h=>by simp at h
 |s::r,0,b,h,e=>by simp at e;subst e;simp[qP]at h
 |s::r,j+1,b,h,e=>by cases s<;>first|(simp[qP]at h;done)|exact pD (ρ:=r) (by simpa[qP]using h) (by simpa using e)
omit [Frm] in
theorem rF:∀{ρ:DS} {k j:Nat} {q:O},bM k ρ=true->ρ[j]? = some (.obj q)->j=k
 |[],k,j,b,_,h=>by simp at h
 |s::r,0,0,b,h,e=>rfl|s::r,0,j+1,b,h,e=>(pD (ρ:=r) (by simpa[bM]using h) (by simpa using e)).elim|s::r,k+1,0,b,h,e=>by simp at e;subst e;simp[bM]at h
 |s::r,k+1,j+1,b,h,e=>by cases s<;>first|(simp[bM]at h;done)|exact congrArg Nat.succ (rF (ρ:=r) (k:=k) (by simpa[bM]using h) (by simpa using e))
section
variable{F:Fx}{M0:List Addr}{ρ:DS}{ds:List D}{v:V}
theorem RSt.thaw(r:RSt K F M H σ ρ)(h:ρ[i]? = some (.own ds))(oo:bM i ρ=true)(y:σ[i]? = some (some v))(m0:Mv K F.pp M H M0 H)(B:Rep K F.pp M0 H (.lst ds) v)(m:Mv K F.pp M0 H M' H')(Q:RSt K F M' H' σ (ρ.set i (.val (.lst ds)))) :
  ∃G,(Mv K F.pp M H G H'/\RSt K F G H' σ ρ)/\∀b∈G,v=.ref b∨b∈M':=by
 obtain⟨o,J,l,N,rfl,hm,u,A,x,hr⟩:=r.at h;rw[J]at y;cases y;simp only[Rep]at B;obtain⟨l2,xs2,e,n2,p2,E,r2⟩:=B;cases e;rw[x]at E;cases E;obtain⟨U,hn'⟩:=m.lst l N x n2 p2;have I:=m0.trans m;have Y:Mv K F.pp M H (l::M') H':=by
  refine⟨I.tup,λa o e n p=>?_,I.pen,I.tb⟩;obtain⟨q1,q2⟩:=I.oth a o e n p;refine⟨q1,λz=>?_⟩;rcases zzk.mp z with rfl|z
  ·exact n hm
  ·exact q2 z
 refine⟨l::M',⟨Y,⟨r.len,λj s o C E=>?_,⟨λj=>if j=i then[l] else[],λj s o C E=>?_,λj a g=>?_,λj k e a g L=>?_⟩,λa g=>zzc _ (Q.sub a g),Q.same,r.old,⟨λa g=>?_,Q.liv.p⟩,r.lk.cl Y⟩⟩,λb L=>(zzk.mp L).imp (λz=>by rw[z]) id⟩
 ·have q:=r.sl j s o C E;cases s with
  |nil=>trivial|val d=>obtain⟨v,e,q⟩:=q;exact⟨v,e,q.mv Y⟩
  |pin w d=>obtain⟨v,e,T,q⟩:=q;exact⟨v,e,T,q.mv Y⟩
  |own es =>
   have e:=mi oo C;subst e;rw[h]at C;cases C;rw[J]at E;cases E;exact⟨l,N,rfl,zzg,u,A,U,hr.mv Y⟩
  |obj z=>exact q
 ·show Ow K F _ H' s o (if j=i then[l] else[]);cases s with
  |nil=>trivial|val d=>trivial|pin w d=>trivial|own es =>
   have e:=mi oo C;subst e;rw[J]at E;cases E;rw[zzn rfl];exact⟨l,rfl,rfl⟩
  |obj z =>
   have e:=rF oo C;subst e;rw[h]at C;cases C
 ·replace g:a∈(if j=i then[l] else[]):=g
  by_cases e:j=i
  ·rw[zzn e]at g;rw[zzw.mp g];exact⟨zzg,u,A⟩
  ·rw[zzi e]at g;simp at g
 ·replace g:a∈(if j=i then[l] else[]):=g
  replace L:a∈(if k=i then[l] else[]):=L
  by_cases c:j=i
  ·subst c;rw[zzi (Ne.symm e)]at L;simp at L
  ·rw[zzi c]at g;simp at g
 ·rcases zzk.mp g with rfl|g
  ·rw[U];intro z;cases z
  ·exact Q.liv.m a g
end
abbrev Jq(k:Nat)(t:DT):DT:=λd Q=>∃g,slot d k=.own g/\bM k d=true/\t (d.set k (.val (.lst g))) λb h=>h=d.set k (.val (.lst g))/\Q b d
theorem mj{t:DT}(k:Nat)(h:PTD X e t):PTD X e (Jq k t):=by
 obtain⟨T,p,r⟩:=h.run;refine⟨λa P P' f q=>?_,T,p,λ{F} M H σ a Q Y q=>?_⟩<;>obtain⟨s,e,o,q⟩:=q
 ·exact⟨s,e,o,h.mono _ _ _ (λb d q=>⟨q.1,f _ _ q.2⟩) q⟩
 have g:=aG e (by intro z;cases z);obtain⟨n,v,C,E,L,I⟩:=Y.freeze g;refine r n H σ _ Q L (h.mono _ _ _ (λb d q M' H' m J=>?_) q);obtain⟨rfl,q⟩:=q;obtain⟨M2,⟨G,U⟩,_⟩:=Y.thaw g o C E I m J;exact q M2 H' G U
end
section
def ij:D->Bool
 |.non=>true|.bl _=>true|.int _=>true|.str _=>true|_=>false
def toV:D->V
 |.bl b=>.bl b|.int i=>.int i|.str s=>.str s|_=>.non
def eqF(x y:D):Bool:=eqV (toV x) (toV y)
theorem nV{d:D}(f:ij d=true)(r:Rep K pp M H d v):v=toV d/\hZ v=true:=by
 cases d<;>first|exact absurd (show false=true from f) zzJ|skip
 all_goals
  simp only[Rep]at r;subst r;exact⟨rfl,rfl⟩
theorem kO:∀{ds:List D} {xs:List V},ds.all ij=true->Reps K pp M H ds xs->xs=ds.map toV/\xs.all hZ=true
 |[],xs,_,r=>by simp only[Reps]at r;subst r;exact⟨rfl,rfl⟩
 |d::ds,xs,f,r=>by simp only[Reps]at r;obtain⟨x,r',rfl,hd,L⟩:=r;rw[zvb,zzX]at f;obtain⟨b,g⟩:=nV f.1 hd;obtain⟨h,J⟩:=kO f.2 L;subst b h;exact⟨rfl,by rw[zvb,g,J];rfl⟩
variable[Frm]
def gIn(x y:D)(P:D->Prop):Prop:=match y with
 |.tup ys=>(ij x=true/\ys.all ij=true)/\P (.bl (ys.any λy=>eqF y x))
 |.lst ys=>(ij x=true/\ys.all ij=true)/\P (.bl (ys.any λy=>eqF y x))
 |_=>False
theorem Jr:OpD X (compareOp .In) gIn:=by
 refine⟨λx y P P' f h=>?_,_,zX,λ{pp} M H x y v u Q _ U J h=>?_⟩
 ·cases y<;>first|exact⟨h.1,f _ h.2⟩|exact False.elim h
 ·have go:∀ys:List D,(ij x=true/\ys.all ij=true)->∀b:List V,Reps X.K pp M H ys b->hZ v=true/\b.all hZ=true/\inV v b=ys.any λy=>eqF y x:=λys ⟨f1,f2⟩ b r=>by
   obtain⟨g,n⟩:=nV f1 U;obtain⟨q,L⟩:=kO f2 r;refine⟨n,L,?_⟩;unfold inV;rw[q,g,List.any_map];rfl
  cases y<;>first|exact False.elim h|skip
  ·rename_i ys;simp only[Rep]at J;obtain⟨a,b,rfl,d,r⟩:=J;obtain⟨g1,g2,g3⟩:=go ys h.1 b r;refine⟨a,b,rfl,.inr (SqT.of d),g1,g2,?_⟩;rw[zzi zzJ,g3];exact h.2 H _ .refl bz
  ·rename_i ys;simp only[Rep]at J;obtain⟨a,b,rfl,hm,hp,d,r⟩:=J;obtain⟨g1,g2,g3⟩:=go ys h.1 b r;refine⟨a,b,rfl,.inl (SqL.of d),g1,g2,?_⟩;rw[zzi zzJ,g3];exact h.2 H _ .refl bz
structure M1D(X:Cx)(name:Str)(id:String)(g:D->D->(D->Prop)->Prop):Prop where
 mono:∀x y P P',(∀d,P d->P' d)->g x y P->g x y P'
 slot:Slot "list" name id
 ty:typeOf (.builtin id)=pure (.type "method_descriptor")
 run:∃r,MtR X id r/\∀{pp:Option Addr} M H x y v u (Q:VK),Rep X.K pp M H x v->Rep X.K pp M H y u->g x y (λd=>∀w,Rep X.K pp M H d w->Q w H)->r v [u] H Q
def Ld:D->Prop
 |.lst _=>True|_=>False
abbrev dM1(g:D->D->(D->Prop)->Prop)(to te:DE):DE:=λb Q=>to b λx J=>Ld x/\te J λy L=>g x y λd=>Q d L
theorem DN{name:Str}{id:String}{g:D->D->(D->Prop)->Prop}{to G:DE}(b:M1D X name id g)(n:PED X o to)(he:PED X e G)(J:attributeBase o name X.env (eval o X.env)=eval o X.env:=by rfl)(U:((backTo p (starEach [e] X.env)).all (λx=>!x.1) && (backToKw p (keywordEach [] X.env)).all (λx=>x.1.isSome)
   && decide ([e].length+([]:List Keyword).length+(if ([]:List Keyword).isEmpty then 0 else 1)<30))=true:=by rfl)(L:(pos.endLine == p.line)=true:=by rfl)(Y:starEach [e] X.env=(false,eval e X.env)::starEach [] X.env:=by rfl)(hpl:(backTo p (starEach [] X.env)).any (·.1)=false:=by rfl) :
  PED X (.Call (.Attribute o name pos) [e] [] p) (dM1 g to G):=by
 obtain⟨r,B,l⟩:=b.run;obtain⟨To,po,ro⟩:=n.run;obtain⟨Te,N,re⟩:=he.run;refine⟨λ_ _ _ f h=>n.mono _ _ _ (λ_ _ h=>⟨h.1,he.mono _ _ _ (λ_ _ h=>b.mono _ _ _ _ (λ_ h=>f _ _ h) h) h.2⟩) h,_,uF zxm b.slot b.ty B po (aU N bP Y) J U L Y hpl,λ{F} M H σ ρ Q rs h=>?_⟩;refine ro M H σ ρ _ rs (n.mono _ _ _ (λx i h M1 H1 v A I E=>?_) h);obtain⟨m,h⟩:=h;have tv:tyV X.K "list" v H1:=by
  cases x<;>first|exact m.elim|skip
  have z:=E;simp only[Rep]at z;obtain⟨a,xs,rfl,_,_,j,_⟩:=z;exact .inl ⟨rfl,xs,SqL.of j⟩
 refine⟨tv,re M1 H1 σ i _ I (he.mono _ _ _ (λy ρ2 h M2 s u C c T=>?_) h)⟩;exact l M2 s x y v u _ (E.mv C) T (b.mono _ _ _ _ (λd q w rw=>q M2 s w (A.trans C) c rw) h)
def Le:D->D->(D->Prop)->Prop
 |.lst b,y,P=>(ij y=true/\b.all ij=true)/\∃j:Nat,((∃z,b[j]? = some z/\eqF z y=true)/\∀m z,m<j->b[m]? = some z->eqF z y=false)/\P (.int (j:Int))|_,_,_=>False
theorem nW:M1D X "index" "list.index" Le:=by
 refine⟨λx y P P' f h=>?_,PySem.F.slot_list_index,PySem.F.type_list_index,_,Do,λ{pp} M H x y v u Q L l h=>?_⟩
 ·cases x<;>first|exact h.elim|skip
  obtain⟨G,j,I,c⟩:=h;exact⟨G,j,I,f _ c⟩
 ·cases x<;>first|exact h.elim|skip
  rename_i C;simp only[Rep]at L;obtain⟨a,o,rfl,s,hp,e,r⟩:=L;obtain⟨⟨f1,f2⟩,j,⟨⟨z,i,Y⟩,J⟩,h⟩:=h;obtain⟨g,E⟩:=nV f1 l;obtain⟨n,U⟩:=kO f2 r;refine⟨a,o,u,j,rfl,rfl,e,E,U,⟨toV z,?_,?_⟩,λm w s b=>?_,h _ bL⟩
  ·rw[n,zzu,i];rfl
  ·rw[g];exact Y
  ·rw[n,zzu]at b;cases q:C[m]? with
   |none=>rw[q]at b;cases b
   |some d =>
    rw[q]at b;cases b;rw[g];exact J m d s q
variable{F:Fx}
abbrev dSlL(te:DE)(tl th:DO):DA:=λg Q=>te g λx J=>tl J λlo L=>th L λb U=>match x with
 |.lst d=>Q (cutD d lo b) U|_=>False
theorem dJ{lo d:Option Expr}{z:DE}{tl C:DO}(he:PED X e z)(b:POD X lo tl)(g:POD X d C):PLD X (.Subscript e (.Slice lo d none p2) pos) (dSlL z tl C):=by
 obtain⟨T,p,r⟩:=he.run;obtain⟨Tl,u,A⟩:=b.run;obtain⟨Th,o,y⟩:=g.run;refine⟨λ_ _ _ f h=>he.mono _ _ _ (λx _ h=>b.mono _ _ _ (λ_ _ h=>g.mono _ _ _ (λ_ _ h=>?_) h) h) h,_,xx FW p u o,λ{F} M H σ ρ Q B h=>?_⟩
 ·cases x<;>first|exact h.elim|exact f _ _ h
 refine r M H σ ρ _ B (he.mono _ _ _ (λx Y h M1 E v m J w=>?_) h);refine A M1 E σ Y _ J (b.mono _ _ _ (λlo i h M2 G n L=>?_) h);refine y M2 G σ i _ L (g.mono _ _ _ (λd ρ3 h c I q U=>?_) h);have s:=(w.mv n).mv q;cases x<;>first|exact h.elim|skip
 simp only[Rep]at s;obtain⟨a,xs,rfl,_,_,j,N⟩:=s;exact⟨a,xs,rfl,SqL.of j,λl b=>h c I _ l _ ((m.trans n).trans q) U b rfl (N.cut lo d)⟩
abbrev Lf(ta tb:DE):DA:=λd Q=>ta d λx J=>tb J λy L=>match x,y with
 |.lst b,.lst ys=>b.length+ys.length <= sizeLine/\Q (b++ys) L|_,_=>False
theorem dc{a b:Expr}{ta s:DE}(d:PED X a ta)(L:PED X b s):PLD X (.BinOp a .Add b pos) (Lf ta s):=by
 obtain⟨Ta,j,o⟩:=d.run;obtain⟨Tb,m,w⟩:=L.run;refine⟨λ_ _ _ f h=>d.mono _ _ _ (λx _ h=>L.mono _ _ _ (λy _ h=>?_) h) h,_,dL Iu j m,λ{F} M H σ N Q A h=>?_⟩
 ·cases x<;>first|exact h.elim|skip
  cases y<;>first|exact h.elim|exact⟨h.1,f _ _ h.2⟩
 refine o M H σ N _ A (d.mono _ _ _ (λx G h M1 z v i Y J=>?_) h);refine w M1 z σ G _ Y (L.mono _ _ _ (λy ρ2 h M2 C u g E n=>?_) h);have J:=J.mv g;cases x<;>first|exact h.elim|skip
 cases y<;>first|exact h.elim|skip
 simp only[Rep]at J n;obtain⟨l,B,rfl,_,_,I,q⟩:=J;obtain⟨e,ys,rfl,_,_,U,r⟩:=n;exact⟨l,e,B,ys,rfl,rfl,I,U,by rw[←q.length,←r.length];exact h.1,λp c=>h.2 M2 C _ p _ (i.trans g) E c rfl (q.append r)⟩
abbrev Lg(ta tb:DE):DA:=λd Q=>ta d λx J=>tb J λy L=>match x,y with
 |.lst b,.int k=>((-(2^63) <= k/\k<2^63)/\b.length*k.toNat <= sizeLine)/\Q (List.replicate k.toNat b).flatten L|_,_=>False
theorem Reps.reps{K:zvd}{M:List Addr}{H:Hp}{ds:List D}{xs:List V}(r:Reps K pp M H ds xs):∀k:Nat,Reps K pp M H (List.replicate k ds).flatten (List.replicate k xs).flatten
 |0=>by simp[Reps]
 |k+1=>by rw[zyC,zyC,zxk,zxk];exact r.append (Reps.reps r k)
theorem Js{a b:Expr}{ta r:DE}(d:PED X a ta)(L:PED X b r):PLD X (.BinOp a .Mult b pos) (Lg ta r):=by
 obtain⟨Ta,c,i⟩:=d.run;obtain⟨Tb,e,j⟩:=L.run;refine⟨λ_ _ _ f h=>d.mono _ _ _ (λx _ h=>L.mono _ _ _ (λy _ h=>?_) h) h,_,dL Iv c e,λ{F} M H σ w Q m h=>?_⟩
 ·cases x<;>first|exact h.elim|skip
  cases y<;>first|exact h.elim|exact⟨h.1,f _ _ h.2⟩
 refine i M H σ w _ m (d.mono _ _ _ (λx C h M1 s v I U J=>?_) h);refine j M1 s σ C _ U (L.mono _ _ _ (λy ρ2 h M2 z u g Y n=>?_) h);have J:=J.mv g;cases x<;>first|exact h.elim|skip
 cases y<;>first|exact h.elim|skip
 simp only[Rep]at J n;obtain⟨l,o,rfl,_,_,E,q⟩:=J;subst n;exact⟨l,_,o,rfl,rfl,E,h.1.1.1,h.1.1.2,by rw[←q.length];exact h.1.2,λp G=>h.2 M2 z _ p _ (I.trans g) Y G rfl (Reps.reps q _)⟩
end
section
variable[Frm]
noncomputable def wK:List D->Option (List Bool)
 |[]=>some []|.bl b::r=>(wK r).map (b :: ·)|_=>none
theorem vd:∀bs:List Bool,wK (bs.map D.bl)=some bs
 |[]=>rfl|n::r=>by simp[wK,vd r]
theorem DP:∀{ds:List D} {bs:List Bool},wK ds=some bs->ds=bs.map D.bl:=by
 intro ds
 induction ds with
 |nil=>intro _ h;cases h;rfl
 |cons d r J =>
  intro ns h;cases d<;>try cases h
  simp only[wK,zxV]at h;obtain⟨ms,h,rfl⟩:=h;rw[J h];rfl
theorem sT{K:zvd}{pp:Option Addr}{M:List Addr}{H:Hp}:∀{b:List Bool} {xs:List V},Reps K pp M H (b.map D.bl) xs->xs=b.map V.bl
 |[],xs,h=>by simpa only[zyf,Reps]using h
 |n::r,xs,h=>by simp only[zzh,Reps,Rep]at h;obtain⟨x,t,rfl,rfl,h⟩:=h;rw[sT h];rfl
def gTru(f:List Bool->Bool):DSp:=λb P=>match b with
 |[.lst d]=>match wK d with
  |some bs=>P (.bl (f bs))|none=>False
 |_=>False
theorem mq{f:List Bool->Bool}{bs:List Bool}{P:D->Prop}(h:P (.bl (f bs))):gTru f [.lst (bs.map D.bl)] P:=by unfold gTru;simp only[vd];exact h
theorem nX{f:List Bool->Bool}{ds:List D}{P:D->Prop}(h:gTru f ds P):∃bs:List Bool,ds=[.lst (bs.map D.bl)]/\P (.bl (f bs)):=by
 unfold gTru at h;split at h
 ·rename_i d;cases e:wK d with
  |none=>rw[e]at h;exact h.elim|some b =>
   rw[e]at h;exact⟨b,by rw[DP e],h⟩
 ·exact h.elim
theorem xY(q:X.calm=true:=by rfl):CallD X (.builtin "all") (gTru λbs=>bs.all id):=by
 refine⟨λg P P' f h=>?_,_,Dq q,λ{pp} M H g vs Q _ r h=>?_⟩
 ·obtain⟨d,rfl,b⟩:=nX h;exact mq (f _ b)
 ·obtain⟨d,rfl,b⟩:=nX h;simp only[Reps,Rep]at r;obtain⟨x,_,rfl,⟨a,ys,rfl,_,_,n,J⟩,rfl⟩:=r;refine⟨a,d,rfl,SqL.of (by rw[n,sT J]),b H _ .refl bz⟩
theorem Jt(q:X.calm=true:=by rfl):CallD X (.builtin "any") (gTru λbs=>bs.any id):=by
 refine⟨λg P P' f h=>?_,_,Dr q,λ{pp} M H g vs Q _ r h=>?_⟩
 ·obtain⟨d,rfl,b⟩:=nX h;exact mq (f _ b)
 ·obtain⟨d,rfl,b⟩:=nX h;simp only[Reps,Rep]at r;obtain⟨x,_,rfl,⟨a,ys,rfl,_,_,n,J⟩,rfl⟩:=r;refine⟨a,d,rfl,SqL.of (by rw[n,sT J]),b H _ .refl bz⟩
theorem jd{i:Int}{t:Tok}(J:Gl X x)(b:X.mg x=some (.int i t))(hd:(x == ("__debug__" : Str))=false:=by decide):PED X (.Name x pos) (dC (.int i)) :=
 .con (zK (v:=.int i) J b ⟨t,rfl⟩ hd) λ_ _ _=>by simp only[Rep]
mutual
def flD:D->Prop
 |.non=>True|.bl _=>True|.int _=>True|.str _=>True|.ty _=>True|.cls _=>True|.tup b=>flDs b|_=>False
def flDs:List D->Prop
 |[]=>True|d::r=>flD d/\flDs r
end
omit [Frm] in
def pinS(v:V):Sl->Sl
 |.nil=>.nil|.val d=>.pin v d|.own b=>.pin v (.lst b)|.obj q=>.pin v (fzO q)|.pin w d=>.pin w d
noncomputable def pinL(vs:Nat->V):Nat->DS->DS
 |_,[]=>[]|n,s::r=>pinS (vs n) s::pinL vs (n+1) r
inductive Unp(vs:Nat->V):Nat->DS->DS->DS->Prop
 |nil {n}:Unp vs n [] [] []
 |keep {n s r r' r2}:Unp vs (n+1) r r' r2->Unp vs n (s::r) (pinS (vs n) s::r') (s::r2)
 |drop {n s s' r r' r2}:Unp vs (n+1) r r' r2->Unp vs n (s::r) (s'::r') (.nil::r2)
 |flat {n s d r r' r2}:flD d->Unp vs (n+1) r r' r2->Unp vs n (s::r) (.val d::r') (.val d::r2)
 |ownF {n s ds r r' r2}:flDs ds->Unp vs (n+1) r r' r2->Unp vs n (s::r) (.own ds::r') (.own ds::r2)
omit [Frm] in
theorem Unp.self(vs:Nat->V):∀(ρ:DS) (n:Nat),Unp vs n ρ (pinL vs n ρ) ρ
 |[],_=>.nil|_::r,n=>.keep (Unp.self vs r (n+1))
omit [Frm] in
theorem Unp.len{vs:Nat->V}{n:Nat}{a b c:DS}(h:Unp vs n a b c):b.length=c.length/\c.length=a.length:=by
 induction h with
 |nil=>exact⟨rfl,rfl⟩|keep _ J=>simp[J.1,J.2]|drop _ J=>simp[J.1,J.2]|flat _ _ J=>simp[J.1,J.2]|ownF _ _ J=>simp[J.1,J.2]
omit [Frm] in
mutual
theorem RO.live:∀(q:O) (v:V) (A:List Addr),RO K pp M H q v A->∀a∈A,H a≠none
 |.val d,v,A,h,a,g=>by simp only[RO]at h;rw[h.1]at g;simp at g
 |.lst os,v,A,h,a,g=>by
  simp only[RO]at h;obtain⟨b,s,B,e,J,rfl,r⟩:=h;rcases zzk.mp g with rfl|g
  ·rw[J];intro z;cases z
  ·exact ROs.live os s B r a g
 |.dct E os,v,A,h,a,g=>by
  simp only[RO]at h;obtain⟨b,n,B,e,J,C,rfl,r⟩:=h;rcases zzk.mp g with rfl|g
  ·rw[J];intro z;cases z
  ·exact ROs.live os _ B r a g
 |.tup os,v,A,h,a,g=>by simp only[RO]at h;obtain⟨b,s,e,J,r⟩:=h;exact ROs.live os s A r a g
 |.dck E os,v,A,h,a,g=>by
  simp only[RO]at h;obtain⟨b,n,B,e,J,C,rfl,r⟩:=h;rcases zzk.mp g with rfl|g
  ·rw[J];intro z;cases z
  ·exact ROs.live os _ B r a g
theorem ROs.live:∀(os:List O) (xs:List V) (A:List Addr),ROs K pp M H os xs A->∀a∈A,H a≠none
 |[],xs,A,h,a,b=>by simp only[ROs]at h;rw[h.2]at b;simp at b
 |o::os,xs,A,h,a,b=>by
  simp only[ROs]at h;obtain⟨x,r,B,C,e,rfl,d,g⟩:=h;rcases zzo.mp b with b|b
  ·exact RO.live o x B d a b
  ·exact ROs.live os r C g a b
end
omit [Frm] in
theorem ROs.vals:∀{ds:List D} {xs:List V},Reps K pp M H ds xs->ROs K pp M H (ds.map O.val) xs []
 |[],xs,h=>by simp only[Reps]at h;simp only[zyf,ROs];exact⟨h,trivial⟩
 |d::ds,xs,h=>by simp only[Reps]at h;obtain⟨x,r,rfl,b,g⟩:=h;simp only[zzh,ROs,RO];exact⟨x,r,[],[],rfl,rfl,⟨rfl,b⟩,ROs.vals g⟩
section
variable{F:Fx}{ρ:DS}{q q':O}
theorem RSt.newObj{M1:List Addr}(r:RSt K F M1 H σ ρ)(s:SameP K F.pp H H')(N:A.Nodup)(h:∀a∈A,H a=none/\F.pp≠some a)(c:RO K F.pp (A++M1) H' q v A)(i:Nat) :
  Mv K F.pp M1 H (A++M1) H'/\RSt K F (A++M1) H' (σ.set i (some v)) (ρ.set i (.obj q)):=by
 have E:Mv K F.pp M1 H M1 H':=s.mv;have m:Mv K F.pp M1 H (A++M1) H':=by
  refine⟨E.tup,λa o e n p=>⟨(E.oth a o e n p).1,λz=>?_⟩,E.pen,E.tb⟩;rcases zzo.mp z with z|z
  ·rw[(h a z).1]at e;cases e
  ·exact n z
 have B:∀a∈A,F.H0 a=none:=λa g=>by
  cases e:F.H0 a with
  |none=>rfl|some o=>exact absurd (h a g).1 (r.same.live a (by rw[e];intro z;cases z))
 refine⟨m,⟨by simp[r.len],λj t o G I=>?_,r.ow.step m i (λj e=>zzH (Ne.symm e)) (λj e=>zzH (Ne.symm e)) (λA0 _ _=>⟨A,λt o u x=>?_,λb C=>⟨zzo.mpr (.inl C),B b C,(h b C).2,.inr λz=>r.liv.m b z (h b C).1⟩,λa g T z0 _=>⟨zzo.mpr (.inr g),(s.ow (M:=M1) a g T z0).2⟩⟩),λa g=>zzo.mpr (.inr (r.sub a g)),r.same.trans s.toSameQ,r.old,⟨λa g=>?_,λp e=>s.live p (r.liv.p p e)⟩,r.lk.cl m⟩⟩
 ·by_cases e:i=j
  ·subst e;rw[aL G,aL I];exact⟨v,rfl⟩
  ·rw[zzH e]at G I;have q':=r.sl j t o G I;cases t with
   |nil=>trivial|val d=>obtain⟨v,e,q⟩:=q';exact⟨v,e,q.mv m⟩
   |pin w d=>obtain⟨v,e,y,q⟩:=q';exact⟨v,e,y,q.mv m⟩
   |own es =>
    obtain⟨Q,zs,rfl,U,J,Y,L,l⟩:=q';exact⟨Q,zs,rfl,zzo.mpr (.inr U),J,Y,(s.ow (M:=M1) Q U Y J).2 _ L (by intro _ z;cases z),l.mv m⟩
   |obj q=>exact q'
 ·rw[aL u,aL x];exact⟨N,v,rfl,c⟩
 ·rcases zzo.mp g with g|g
  ·exact RO.live q v A c a g
  ·exact s.live a (r.liv.m a g)
end
abbrev DTB:=(D->Prop)->(O->Prop)->DS->Prop
omit [Frm] in
theorem Reps.erase{K:zvd}{pp:Option Addr}{M:List Addr}{H:Hp}:∀{ds:List D} {xs:List V} (n:Nat),Reps K pp M H ds xs->Reps K pp M H (ds.eraseIdx n) (xs.eraseIdx n)
 |[],xs,n,h=>by simp only[Reps]at h;subst h;simpa only[List.eraseIdx_nil,Reps]using rfl
 |d::ds,xs,0,h=>by simp only[Reps]at h;obtain⟨x,r,rfl,g,b⟩:=h;exact b
 |d::ds,xs,n+1,h=>by simp only[Reps]at h;obtain⟨x,r,rfl,g,b⟩:=h;exact .cons g (Reps.erase n b)
def Lh(i:Nat)(ρ:DS)(Q:D->DS->Prop)(j:D):Sl->Prop
 |.own b=>match j with
  |.int k=>(0 <= k/\k <= 100000)/\∃d,b[k.toNat]? = some d/\Q d (ρ.set i (.own (b.eraseIdx k.toNat)))|_=>False
 |_=>False
abbrev dPop(i:Nat)(te:DE):DE:=λd Q=>DK (slot d i)/\te d λj b=>Lh i b Q j (slot b i)
theorem EU{A:DE}(ho:PE X o (tVar i))(he:PED X e A)(J:attributeBase o "pop" X.env (eval o X.env)=eval o X.env:=by rfl)(a0:((backTo p (starEach [e] X.env)).all (λx=>!x.1) && (backToKw p (keywordEach [] X.env)).all (λx=>x.1.isSome)
   && decide ([e].length+([]:List Keyword).length+(if ([]:List Keyword).isEmpty then 0 else 1)<30))=true:=by rfl)(L:(pos.endLine == p.line)=true:=by rfl)(E:starEach [e] X.env=(false,eval e X.env)::starEach [] X.env:=by rfl)(hpl:(backTo p (starEach [] X.env)).any (·.1)=false:=by rfl) :
  PED X (.Call (.Attribute o "pop" pos) [e] [] p) (dPop i A):=by
 have hm:PE X (.Call (.Attribute o "pop" pos) [e] [] p) (tBM X.K "list" ED (tVar i) (CP (Classical.choose he.run) tNil)):=uF zxm PySem.F.slot_list_pop PySem.F.type_list_pop CT ho (aU (zzU he.run).1 bP E) J a0 L E hpl;obtain⟨_,r⟩:=zzU he.run;refine⟨λs P P' f h=>⟨h.1,he.mono _ _ _ (λj g h=>?_) h.2⟩,_,hm,λ{F} M H σ s Q u h=>?_⟩
 ·cases q:slot g i with
  |own ds =>
   rw[q]at h;cases j with
   |int k=>obtain⟨b,d,h1,h2⟩:=h;exact⟨b,d,h1,f _ _ h2⟩
   |_=>exact h.elim
  |_=>rw[q]at h;exact h.elim
 obtain⟨b,h⟩:=h;cases q:slot s i with
 |nil=>rw[q]at b;exact b.elim|val d=>rw[q]at b;exact b.elim|pin w d=>rw[q]at b;exact b.elim|obj z=>rw[q]at b;exact b.elim|own ds =>
  obtain⟨oo1,U,l,xs,rfl,hm1,h01,hp1,N,hr1⟩:=u.at (aG q (by intro z;cases z));refine⟨.ref l,U,.inl ⟨rfl,xs,SqL.of N⟩,?_⟩;refine r M H σ s _ u (he.mono _ _ _ (λj g h M' H' v m G c=>?_) h);cases n:slot g i with
  |nil=>rw[n]at h;exact h.elim|val d=>rw[n]at h;exact h.elim|pin w d=>rw[n]at h;exact h.elim|obj z=>rw[n]at h;exact h.elim|own ds' =>
   rw[n]at h;cases j with
   |int k =>
    obtain⟨⟨k0,k1⟩,d,hd,h⟩:=h;simp only[Rep]at c;subst c;have g1:=aG n (by intro z;cases z);obtain⟨l',Y,e',hm',h0',hp',B,C⟩:=G.sl i _ _ g1 U;cases e';obtain⟨y,I,ry⟩:=C.get' hd;obtain⟨a,T⟩:=G.write g1 U (C.erase k.toNat);have hlt:k.toNat<Y.length:=(zzx.mp I).1;refine⟨l,Y,k,k.toNat,y,rfl,rfl,B,by lia,by lia,?_,I,h M' _ y (m.trans a) T (ry.mv a)⟩;unfold seqIndex?;have c1:¬k<0:=by lia
    have c2:k<(Y.length:Int):=by lia
    simp[c1,k0,c2]
   |_=>exact h.elim
end
def Ju:HO->Prop
 |.lst _=>True|.dT _=>True|_=>False
theorem Mv.writeX{o:HO}(b:H l=some o)(J:Ju o)(d:l∈M)(L:pp≠some l):Mv K pp M H M (upd H l u):=by
 refine⟨λa s e=>by rw[ah (qK e b (by rintro rfl;exact J))];exact e,λa s e n q=>⟨by rw[ah (by rintro rfl;exact n d)];exact e,n⟩,λp e h=>?_,λr=>r.upd b (by rintro(⟨_,rfl⟩|⟨_,_,rfl⟩)<;>exact J)⟩;obtain⟨a,g,t,k,h⟩:=h;refine⟨a,g,t,k,?_,?_,h.t0⟩
 ·rw[ah (by rintro rfl;exact L e)];exact h.lst
 ·rcases h.scr with ⟨o',e⟩|e
  ·refine .inl ⟨o',?_⟩;rw[ah (qK e b (by rintro rfl;exact J))];exact e
  ·exact .inr e
def k1D:Key->D
 |.inl i=>.int i|.inr x=>.str x
def keyD(k:List Key):D:=.tup (k.map k1D)
theorem sU{K:zvd}{pp:Option Addr}{M:List Addr}{H:Hp}:∀{k:List Key} {xs:List V},Reps K pp M H (k.map k1D) xs->xs=k.map kV
 |[],xs,h=>by simpa only[zyf,Reps]using h
 |.inl i::r,xs,h=>by simp only[zzh,k1D,Reps,Rep]at h;obtain⟨x,t,rfl,rfl,h⟩:=h;rw[sU h];rfl
 |.inr i::r,xs,h=>by simp only[zzh,k1D,Reps,Rep]at h;obtain⟨x,t,rfl,rfl,h⟩:=h;rw[sU h];rfl
theorem sV{K:zvd}{pp:Option Addr}{M:List Addr}{H:Hp}:∀(k:List Key),Reps K pp M H (k.map k1D) (k.map kV)
 |[]=>by simp only[zyf,Reps]
 |.inl i::r=>by simp only[zzh,k1D,kV,Reps,Rep];exact⟨_,_,rfl,rfl,sV r⟩
 |.inr i::r=>by simp only[zzh,k1D,kV,Reps,Rep];exact⟨_,_,rfl,rfl,sV r⟩
theorem sW{K:zvd}{pp:Option Addr}{k:List Key}(h:Rep K pp M H (keyD k) v):∃b,v=.ref b/\H b=some (.tup (k.map kV)):=by simp only[keyD,Rep]at h;obtain⟨b,xs,rfl,J,h⟩:=h;rw[sU h]at J;exact⟨b,rfl,J⟩
theorem DQ{K:zvd}{pp:Option Addr}{k:List Key}{b:Addr}(h:H b=some (.tup (k.map kV))):Rep K pp M H (keyD k) (.ref b):=by simp only[keyD,Rep];exact⟨b,_,rfl,h,sV k⟩
section
variable{α β:Type}
def my(ps:List (List Key×α))(k:List Key):Option α:=(ps.find? λp=>decide (p.1=k)).map (·.2)
def putA(ps:List (List Key×α))(k:List Key)(x:α):List (List Key×α) :=
 if (ps.any λp=>decide (p.1=k))=true then ps.map (λp=>if p.1=k then(p.1,x) else p) else ps++[(k,x)]
abbrev PK(R:α->β->Prop):List (List Key×α)->List (List Key×β)->Prop:=Paired λp q=>p.1=q.1/\R p.2 q.2
theorem PK.find{R:α->β->Prop}{ps:List (List Key×α)}{b:List (List Key×β)}(h:PK R ps b)(k:List Key):(my ps k=none/\my b k=none)∨∃x y,my ps k=some x/\my b k=some y/\R x y:=by
 induction h with
 |nil=>exact .inl ⟨rfl,rfl⟩|@cons p q ps b h _ L =>
  unfold my at L ⊢;by_cases e:p.1=k
  ·have J:q.1=k:=h.1.symm.trans e;refine .inr ⟨p.2,q.2,?_,?_,h.2⟩
   ·rw[zyo (by simpa using e)];rfl
   ·rw[zyo (by simpa using J)];rfl
  ·have J:¬q.1=k:=λz=>e (h.1.trans z);rw[zyp (by simpa using e),zyp (by simpa using J)];exact L
theorem PK.any{R:α->β->Prop}{ps:List (List Key×α)}{b:List (List Key×β)}(h:PK R ps b)(k:List Key):(ps.any λp=>decide (p.1=k))=b.any λp=>decide (p.1=k):=by
 induction h with
 |nil=>rfl|@cons p q ps b h _ J=>simp only[zwm,J,h.1]
theorem PK.put{R:α->β->Prop}{ps:List (List Key×α)}{b:List (List Key×β)}(h:PK R ps b)(k:List Key){x:α}{y:β}(r:R x y):PK R (putA ps k x) (putA b k y):=by
 unfold putA;rw[h.any k];by_cases e:(b.any λp=>decide (p.1=k))=true
 ·rw[zzn e,zzn e];clear e
  induction h with
  |nil=>exact .nil|@cons p q ps b h _ J =>
   rw[zzh,zzh];refine .cons ?_ J;by_cases e:p.1=k
   ·rw[zzn e,zzn (h.1.symm.trans e)];exact⟨h.1,r⟩
   ·rw[zzi e,zzi (λz=>e (h.1.trans z))];exact h
 ·rw[zzi e,zzi e];exact Paired.snoc h ⟨rfl,r⟩
theorem PK.keys{R:α->β->Prop}{ps:List (List Key×α)}{b:List (List Key×β)}(h:PK R ps b):ps.map (·.1)=b.map (·.1):=by
 induction h with
 |nil=>rfl|cons h _ J=>simp only[zzh,J,h.1]
end
theorem DR(b:List (List Key×V))(k:List Key):my b k=valV b k:=rfl
theorem GW:∀{J:List (List Key×D)} {b:List (List Key×V)},b.map (·.1)=J.map (·.1)->Reps K pp M H (J.map (·.2)) (b.map (·.2))->PK (Rep K pp M H) J b
 |[],[],_,_=>.nil|[],_::_,h,_=>by simp at h
 |_::_,[],h,_=>by simp at h
 |p::ps,q::qs,h,r=>by simp only[zzh,zxy]at h;simp only[zzh,Reps]at r;obtain⟨x,t,e,L,n⟩:=r;injection e with d g;subst d g;exact .cons ⟨h.1.symm,L⟩ (GW h.2 n)
theorem GX{J:List (List Key×D)}{b:List (List Key×V)}(h:PK (Rep K pp M H) J b):Reps K pp M H (J.map (·.2)) (b.map (·.2)):=by
 induction h with
 |nil=>simp only[zyf,Reps]|cons h _ L=>exact .cons h.2 L
theorem PK.imp{R S:α->β->Prop}{ps:List (List Key×α)}{qs:List (List Key×β)}(h:PK R ps qs)(f:∀a b,R a b->S a b):PK S ps qs:=by
 induction h with
 |nil=>exact .nil|cons h _ J=>exact .cons ⟨h.1,f _ _ h.2⟩ J
def dvO(J:List (List Key×D)):O:=.dct (J.map (·.1)) (J.map λp=>.val p.2)
theorem ro_dv{J:List (List Key×D)}:RO K pp M H (dvO J) v A↔∃a kvs,v=.ref a/\H a=some (.dT kvs)/\A=[a]/\PK (Rep K pp M H) J kvs:=by
 have vals:∀{J:List (List Key×D)} {xs:List V} {B:List Addr},ROs K pp M H (J.map λp=>O.val p.2) xs B->B=[]/\Reps K pp M H (J.map (·.2)) xs:=by
  intro J
  induction J with
  |nil=>intro xs B h;simp only[zyf,ROs]at h;exact⟨h.2,by simp only[zyf,Reps];exact h.1⟩|cons p ps U =>
   intro xs B h;simp only[zzh,ROs,RO]at h;obtain⟨x,r,B1,C,rfl,rfl,⟨rfl,d⟩,g⟩:=h;obtain⟨rfl,n⟩:=U g;exact⟨rfl,.cons d n⟩
 constructor
 ·intro h;simp only[dvO,RO]at h;obtain⟨a,kvs,B,rfl,b,L,rfl,r⟩:=h;obtain⟨rfl,q⟩:=vals r;exact⟨a,kvs,rfl,b,rfl,GW L q⟩
 ·rintro⟨a,kvs,rfl,b,rfl,r⟩;simp only[dvO,RO];refine⟨a,kvs,[],rfl,b,r.keys.symm,rfl,?_⟩;have:=ROs.vals (GX r);rw[zzB]at this;exact this
def dlO(J:List (List Key×List D)):O:=.dct (J.map (·.1)) (J.map λp=>.lst (p.2.map .val))
def PL(K:zvd)(pp:Option Addr)(M:List Addr)(H:Hp):List (List Key×List D)->List (List Key×V)->List Addr->Prop
 |[],b,d=>b=[]/\d=[]|p::ps,b,d=>∃l g r t,b=(p.1,.ref l)::r/\d=l::t/\H l=some (.lst g)/\Reps K pp M H p.2 g/\PL K pp M H ps r t
theorem DU{ds:List D}{xs:List V}{B:List Addr}(h:ROs K pp M H (ds.map O.val) xs B):B=[]/\Reps K pp M H ds xs:=by
 induction ds generalizing xs B with
 |nil=>simp only[zyf,ROs]at h;exact⟨h.2,by simp only[Reps];exact h.1⟩|cons d ds J =>
  simp only[zzh,ROs,RO]at h;obtain⟨x,r,B1,C,rfl,rfl,⟨rfl,b⟩,g⟩:=h;obtain⟨rfl,n⟩:=J g;exact⟨rfl,.cons b n⟩
theorem Jv:∀{J:List (List Key×List D)} {b:List (List Key×V)} {B:List Addr},b.map (·.1)=J.map (·.1)->ROs K pp M H (J.map λp=>O.lst (p.2.map .val)) (b.map (·.2)) B->PL K pp M H J b B
 |[],[],B,_,h=>by simp only[zyf,ROs]at h;exact⟨rfl,h.2⟩
 |[],_::_,_,h,_=>by simp at h
 |_::_,[],_,h,_=>by simp at h
 |p::ps,q::I,B,e,h=>by simp only[zzh,zxy]at e;simp only[zzh,ROs,RO]at h;obtain⟨x,r,B1,C,d,rfl,⟨l,L,B2,rfl,G,rfl,s⟩,z⟩:=h;injection d with g n;subst n;obtain⟨rfl,E⟩:=DU s;exact⟨l,L,I,C,by rw[←e.1,←g],rfl,G,E,Jv e.2 z⟩
theorem Jw:∀{J:List (List Key×List D)} {b:List (List Key×V)} {B:List Addr},PL K pp M H J b B->b.map (·.1)=J.map (·.1)/\ROs K pp M H (J.map λp=>O.lst (p.2.map .val)) (b.map (·.2)) B
 |[],b,B,h=>by obtain⟨rfl,rfl⟩:=h;simp only[zyf,ROs];exact⟨trivial,trivial,trivial⟩
 |p::ps,b,B,h=>by obtain⟨l,s,r,t,rfl,rfl,q,d,g⟩:=h;obtain⟨e,n⟩:=Jw g;refine⟨by simp only[zzh,e],?_⟩;simp only[zzh,ROs,RO];exact⟨.ref l,_,[l],t,rfl,rfl,⟨l,s,[],rfl,q,rfl,ROs.vals d⟩,n⟩
theorem ro_dl{J:List (List Key×List D)}:RO K pp M H (dlO J) v A↔∃a b ls,v=.ref a/\H a=some (.dT b)/\A=a::ls/\PL K pp M H J b ls:=by
 constructor
 ·intro h;simp only[dlO,RO]at h;obtain⟨a,b,B,rfl,d,L,rfl,r⟩:=h;exact⟨a,b,B,rfl,d,rfl,Jv L r⟩
 ·rintro⟨a,b,ls,rfl,d,rfl,r⟩;simp only[dlO,RO];obtain⟨e,r⟩:=Jw r;exact⟨a,b,ls,rfl,d,e,rfl,r⟩
section
variable[Frm]
section
variable{F:Fx}{ρ:DS}{q q':O}
theorem RSt.objStep(r:RSt K F M H σ ρ)(h:ρ[i]? = some (.obj q))(m:Mv K F.pp M H M' H')
  (k:∀v A,σ[i]? = some (some v)->A.Nodup->RO K F.pp M H q v A->(∀a∈A,a∈M/\F.H0 a=none/\F.pp≠some a)->∃A',A'.Nodup/\RO K F.pp M' H' q' v A'/\(∀b∈A',b∈M'/\F.H0 b=none/\F.pp≠some b/\(b∈A∨b∉M)) /\
   ∀a,a∈M->F.pp≠some a->F.H0 a=none->a∉A->a∈M'/\∀x,H a=some x->NT x->H' a=some x)
  (sub:∀a∈F.M0,a∈M') (same:SameQ K F.pp F.H0 H') (liv:Lv0 F.pp M' H'):RSt K F M' H' σ (ρ.set i (.obj q')):=by
 obtain⟨v,A,U,nd,hq,hA,Y⟩:=r.objAt h;obtain⟨_,_,_,_,ke⟩:=k v A U nd hq hA;refine⟨by simp[r.len],λj s o g n=>?_,r.ow.step m i (λ_ _=>rfl) (λj e=>zzH (Ne.symm e)) (λQ c l=>?_),sub,same,r.old,liv,r.lk.cl m⟩
 ·by_cases e:i=j
  ·subst e;rw[U]at n;rw[aL g];cases n;exact⟨v,rfl⟩
  ·rw[zzH e]at g;have q':=r.sl j s o g n;cases s with
   |nil=>trivial|val d=>obtain⟨v,e,q⟩:=q';exact⟨v,e,q.mv m⟩
   |pin w d=>obtain⟨v,e,T,q⟩:=q';exact⟨v,e,T,q.mv m⟩
   |own es =>
    obtain⟨E,zs,rfl,p,J,G,L,y⟩:=q';have nl:E∉A:=Y j _ _ (Ne.symm e) g n _ ⟨es,rfl⟩ rfl;obtain⟨k1,k2⟩:=ke E p G J nl;exact⟨E,zs,rfl,k1,J,G,k2 _ L (by intro _ z;cases z),y.mv m⟩
   |obj q=>exact q'
 ·obtain⟨N,v1,C,u⟩:=c _ _ h U;cases C;obtain⟨A',B,ro,hb,ha⟩:=k v Q U N u l;refine⟨A',λs o C I=>?_,hb,ha⟩;rw[U]at I;cases I;rw[aL C];exact⟨B,v,rfl,ro⟩
theorem Lv0.upd{pp:Option Addr}{l:Addr}{o:HO}(h:Lv0 pp M H):Lv0 pp M (L2.upd H l o):=by
 refine⟨λa b=>?_,λp e=>?_⟩
 ·by_cases z:a=l
  ·subst z;rw[ai];intro z;cases z
  ·rw[ah z];exact h.m a b
 ·by_cases z:p=l
  ·subst z;rw[ai];intro z;cases z
  ·rw[ah z];exact h.p p e
theorem RSt.sameW{o:HO}(r:RSt K F M H σ ρ)(d:F.H0 l=none)(m:Mv K F.pp M H M' (L2.upd H l o)):SameQ K F.pp F.H0 (L2.upd H l o):=by
 refine⟨λb o e n=>?_,λp e h=>m.pen p e (r.same.pen p e h),λb e=>?_⟩
 ·rw[ah (by rintro rfl;rw[d]at e;cases e)];exact r.same.keep b o e n
 ·by_cases z:b=l
  ·subst z;rw[ai];intro z;cases z
  ·rw[ah z];exact r.same.live b e
end
def Jy:Sl->Prop
 |.obj _=>True|_=>False
omit [Frm] in
theorem DV{s:Sl}(h:Jy s):∃q,s=.obj q:=by cases s<;>first|exact⟨_,rfl⟩|exact h.elim
abbrev Li(i:Nat):DTS:=λE b=>E.nx (b.set i (.obj (.dct [] [])))
theorem Bv(b:X.N.Nodup)(g:X.N[i]? = some y)(h:Loc X.env.scope y)(hs:swapsWith (.Dict [] [] p2) (some (.Name y py)) pos.line X.env=pure false:=by rfl)(Y:X.fn y=true∨X.env.scope.names.lookup y=some .local:=by first|exact .inl rfl|exact .inr rfl|assumption):PSD X (.Assign [.Name y py] (.Dict [] [] p2) pos) (Li i):=by refine⟨_,jr b g h CZ hs Y,λ{F} M H σ ρ E D U o q p J=>?_⟩;have lf:=U.liv.fresh J;obtain⟨m,L⟩:=U.newObj (q:=.dct [] []) (A:=[p]) (v:=.ref p) (.new J) (by simp) (λa d=>by rw[zzw.mp d];exact⟨J,lf.2⟩) (by simp only[RO,ROs];exact⟨p,[],[],rfl,ai,rfl,rfl,rfl,rfl⟩) i;exact o.nx _ _ _ _ m L q
abbrev Lj(i:Nat)(tk te:DE):DTS:=λE b=>te b λd L=>Jy (slot L i)/\tk L λdk U=>∃J k,slot U i=.obj (dvO J)/\dk=keyD k/\J.length<sizeLine/\E.nx (U.set i (.obj (dvO (putA J k d))))
omit [Frm] in
theorem Jz{R:α->β->Prop}{ps:List (List Key×α)}{b:List (List Key×β)}(h:PK R ps b):ps.length=b.length:=lX h
theorem GY{r:Nat}{tk w:DE}(hr:Room r X.A)(ho:PE X o (tVar i))(m:PED X tg tk)(he:PED X e w)(hs:swapsWith e (some (.Subscript o tg p)) pos.line X.env=pure false:=by rfl) :
  PSD X (.Assign [.Subscript o tg p] e pos) (Lj i tk w):=by
 obtain⟨Tk,G,rk⟩:=m.run;obtain⟨Te,pe,re⟩:=he.run;refine⟨_,Gc (by have:=hr.units;lia) ho G pe hs,λ{F} M H σ ρ E D rs oo h=>re M H σ ρ _ rs (he.mono _ _ _ (λd a6 h M1 B v m1 l r1=>?_) h)⟩;obtain⟨q0,e0⟩:=DV h.1;obtain⟨v0,_,L,_⟩:=l.objAt (aG e0 (by intro z;cases z));refine⟨v0,L,rk M1 B σ a6 _ l (m.mono _ _ _ (λdk ρ2 h M2 I y u J r2=>?_) h.2)⟩;obtain⟨kds,k,es,rfl,hl,h⟩:=h;obtain⟨b,rfl,hb⟩:=sW r2;have g:=aG es (by intro z;cases z);obtain⟨v1,A,j,nd,hq,hA,_⟩:=J.objAt g;rw[L]at j;cases j;obtain⟨a,C,rfl,q,rfl,G⟩:=ro_dv.mp hq;obtain⟨am,Q,ap⟩:=hA a (by simp);have n:Mv X.K F.pp M2 I M2 (upd I a (.dT (putK C k v))):=.writeX q trivial am ap;refine⟨a,_,rfl,DPut.t q hb (by rw[←Jz G];exact hl),oo.nx M2 _ σ _ ((m1.trans u).trans n) ?_ h⟩;refine J.objStep g n (λv' A' Y _ N hA'=>?_) J.sub (J.sameW Q n) J.liv.upd;rw[L]at Y;cases Y;obtain⟨a',kvs',e,U,rfl,T⟩:=ro_dv.mp N;cases e;rw[q]at U;cases U;refine⟨[a],by simp,ro_dv.mpr ⟨a,_,rfl,ai,rfl,(T.imp λx y z=>z.mv n).put k ((r1.mv u).mv n)⟩,λc s=>?_,λc s _ _ hn=>⟨s,λx e _=>?_⟩⟩
 ·rw[zzw.mp s];exact⟨am,Q,ap,.inl (by simp)⟩
 ·rw[ah (by rintro rfl;exact hn (by simp))];exact e
def gIxT:D->D->(D->Prop)->Prop:=λx y P=>∃(J:List (List Key×D)) (k:List Key) (d:D),x=.dT (J.map (·.1)) (J.map (·.2))/\y=keyD k/\my J k=some d/\P d
theorem EV{r:Nat}{a b:Expr}{ta E:DE}(T:Room r X.A)(q:PED X a ta)(J:PED X b E)(hs:NoSl b):PED X (.Subscript a b pos) (dOp gIxT ta E):=by
 have m:∀x y P P',(∀d,P d->P' d)->gIxT x y P->gIxT x y P':=λx y P P' f ⟨L,k,d,o,p,w,B⟩=>⟨L,k,d,o,p,w,f _ B⟩;obtain⟨Ta,pa,ra⟩:=q.run;obtain⟨Tb,pb,rb⟩:=J.run;refine⟨gs m q J,_,Gb (by have:=T.units;lia) pa pb hs,λ{F} M H σ ρ Q rs h=>?_⟩;refine ra M H σ ρ _ rs (q.mono _ _ _ (λx j h M1 G v m1 Y U=>?_) h);refine rb M1 G σ j _ Y (J.mono _ _ _ (λy ρ2 h M2 I u C e r2=>?_) h);obtain⟨L,k,d,rfl,rfl,z,h⟩:=h;obtain⟨b,rfl,J⟩:=sW r2;have U:=U.mv C;simp only[Rep]at U;obtain⟨c,s,rfl,_,_,N,l,rr⟩:=U;rcases (GW l rr).find k with ⟨g,n⟩|⟨x,y,g,n,i⟩
 ·rw[z]at g;cases g
 ·rw[z]at g;cases g;rw[DR]at n;exact⟨c,y,rfl,n ▸ .inr ⟨s,k,b,N,rfl,J,rfl⟩,h M2 I y (m1.trans C) e i⟩
def Bw:DSp:=λd P=>match d with
 |[.dT b _]=>((∀k∈b,yZ k)/\(2 <= b.length->∀k∈b,k≠[])/\b.length<64)/\P (.lst ((srtK b).map keyD))|_=>False
omit [Frm] in
theorem Bx{K:zvd}{pp:Option Addr}{ks:List (List Key)}{bs:List V}(h:Paired (Gw H) ks bs):Reps K pp M H (ks.map keyD) bs:=by
 induction h with
 |nil=>simp only[zyf,Reps]|cons h _ L =>
  obtain⟨b,rfl,J⟩:=h;exact .cons (DQ J) L
theorem xZ(C:X.calm=true:=by rfl):CallD X (.builtin "sorted") Bw:=by
 refine⟨λq P P' f h=>?_,_,zb C,λ{pp} M H q vs Q J r h=>?_⟩
 ·unfold Bw at h ⊢;split at h
  ·exact⟨h.1,f _ h.2⟩
  ·exact h.elim
 ·unfold Bw at h;split at h
  ·rename_i ks es;obtain⟨⟨s,g,n⟩,h⟩:=h;simp only[Reps,Rep]at r;obtain⟨x,t,rfl,⟨a,d,rfl,_,_,z,rfl,_⟩,rfl⟩:=r;rw[zza]at g n;refine⟨a,d,rfl,z,s,g,n,λl bs b L=>h _ _ (.new b) ?_⟩;simp only[Rep];exact⟨l,bs,rfl,(J.fresh b).1,(J.fresh b).2,ai,(Bx L).mv (.new b)⟩
  ·exact h.elim
omit [Frm] in
theorem dS{K:zvd}{pp:Option Addr}{M:List Addr}{H:Hp}:∀{b:List Int} {xs:List V},Reps K pp M H (b.map D.int) xs->xs=b.map V.int
 |[],xs,h=>by simpa only[zyf,Reps]using h
 |n::r,xs,h=>by simp only[zzh,Reps,Rep]at h;obtain⟨x,t,rfl,rfl,h⟩:=h;rw[dS h];rfl
omit [Frm] in
theorem PL.mv(m:Mv K pp M H M' H'):∀{J:List (List Key×List D)} {d:List (List Key×V)} {ls:List Addr},(∀b∈ls,∀o,H b=some o->H' b=some o)->PL K pp M H J d ls->PL K pp M' H' J d ls
 |[],d,ls,_,h=>h|p::ps,d,ls,g,h=>by obtain⟨l,z,r,t,rfl,rfl,s,n,q⟩:=h;exact⟨l,z,r,t,rfl,rfl,g l zzg _ s,n.mv m,PL.mv m (λb L=>g b (zzc _ L)) q⟩
omit [Frm] in
theorem PL.snoc{k:List Key}{es:List D}{l:Addr}{xs:List V}(d:H l=some (.lst xs))(Y:Reps K pp M H es xs):∀{J:List (List Key×List D)} {b:List (List Key×V)} {ls:List Addr},PL K pp M H J b ls->PL K pp M H (J++[(k,es)]) (b++[(k,.ref l)]) (ls++[l])
 |[],b,ls,h=>by obtain⟨rfl,rfl⟩:=h;exact⟨l,xs,[],[],rfl,rfl,d,Y,rfl,rfl⟩
 |p::ps,b,ls,h=>by obtain⟨q,U,r,t,rfl,rfl,L,g,n⟩:=h;exact⟨q,U,r++[(k,.ref l)],t++[l],rfl,rfl,L,g,PL.snoc d Y n⟩
def qQ(k:List Key)(d:D):List (List Key×List D)->List (List Key×List D)
 |[]=>[(k,[d])]|p::r=>if p.1=k then(p.1,p.2++[d])::r else p::qQ k d r
omit [Frm] in
theorem PL.add(k:List Key)(d:D):∀{J:List (List Key×List D)} {g:List (List Key×V)} {ls:List Addr},PL K pp M H J g ls->ls.Nodup ->
  (valV g k=none/\qQ k d J=J++[(k,[d])])∨∃L xs,valV g k=some (.ref L)/\L∈ls/\H L=some (.lst xs)/\(∃p∈J,p.1=k/\p.2.length=xs.length) /\
   ∀{M':List Addr} {H':Hp} {v:V},Mv K pp M H M' H'->Rep K pp M' H' d v->H' L=some (.lst (xs++[v]))->(∀b∈ls,b≠L->∀o,H b=some o->H' b=some o)->PL K pp M' H' (qQ k d J) g ls
 |[],g,ls,h,_=>by obtain⟨rfl,rfl⟩:=h;exact .inl ⟨rfl,rfl⟩
 |p::ps,g,ls,h,j=>by
  obtain⟨l,xs,r,t,rfl,rfl,G,s,E⟩:=h;obtain⟨I,i⟩:=zyG.mp j;by_cases e:p.1=k
  ·refine .inr ⟨l,xs,nS (p:=(p.1,V.ref l)) e,zzg,G,⟨p,zzg,e,s.length⟩,λ{M' H' v} m C z n=>?_⟩;unfold qQ;rw[zzn e];exact⟨l,_,r,t,rfl,rfl,z,(s.mv m).append (.one C),PL.mv m (λb Y=>n b (zzc _ Y) (by rintro rfl;exact I Y)) E⟩
  ·rcases PL.add k d E i with ⟨q,U⟩|⟨L,ys,q,U,Q,⟨u,a,c⟩,f⟩
   ·refine .inl ⟨by rw[kF (p:=(p.1,V.ref l)) e];exact q,?_⟩;unfold qQ;rw[zzi e,U];rfl
   ·refine .inr ⟨L,ys,by rw[kF (p:=(p.1,V.ref l)) e];exact q,zzc _ U,Q,⟨u,zzc _ a,c⟩,λ{M' H' v} m C z n=>?_⟩;unfold qQ;rw[zzi e];exact⟨l,xs,r,t,rfl,rfl,n l zzg (by rintro rfl;exact I U) _ G,s.mv m,f m C z λb Y=>n b (zzc _ Y)⟩
abbrev dSda(i jk ja:Nat):DTS:=λE b=>∃(J:List (List Key×List D)) (k:List Key) (d:D),slot b i=.obj (dlO J)/\slot b jk=.val (keyD k)/\slot b ja=.val d/\J.length<sizeLine/\(∀p∈J,p.2.length<sizeLine)/\E.nx (b.set i (.obj (dlO (qQ k d J))))
omit [Frm] in
theorem PL.len{K:zvd}{pp:Option Addr}{M:List Addr}{H:Hp}:∀{J:List (List Key×List D)} {b:List (List Key×V)} {ls:List Addr},PL K pp M H J b ls->J.length=b.length
 |[],b,ls,h=>by rw[h.1];rfl
 |p::ps,b,ls,h=>by obtain⟨l,xs,r,t,rfl,rfl,hl,h1,d⟩:=h;simp[PL.len d]
theorem JA{r:Nat}{ea:Expr}{p1 p3 j:Pos}(hr:Room r X.A)(ho:PE X o (tVar i))(hk:PE X tg (tVar jk))(ha:PE X ea (tVar ja))(b1:attributeBase o "setdefault" X.env (eval o X.env)=eval o X.env:=by rfl)(f1:((backTo p2 (starEach [tg,.List [] py] X.env)).all (λx=>!x.1) && (backToKw p2 (keywordEach [] X.env)).all (λx=>x.1.isSome)
   && decide ([tg,.List [] py].length+([]:List Keyword).length+(if ([]:List Keyword).isEmpty then 0 else 1)<30))=true:=by rfl)(l1:(p1.endLine == p2.line)=true:=by rfl)(s1:starEach [tg,.List [] py] X.env=(false,eval tg X.env)::starEach [.List [] py] X.env:=by rfl)(d9:starEach [.List [] py] X.env=(false,eval (.List [] py) X.env)::starEach [] X.env:=by rfl)(q1:(backTo p2 (starEach [.List [] py] X.env)).any (·.1)=false:=by rfl)(b2:attributeBase (.Call (.Attribute o "setdefault" p1) [tg,.List [] py] [] p2) "append" X.env (eval (.Call (.Attribute o "setdefault" p1) [tg,.List [] py] [] p2) X.env)=eval (.Call (.Attribute o "setdefault" p1) [tg,.List [] py] [] p2) X.env:=by rfl)(f2:((backTo j (starEach [ea] X.env)).all (λx=>!x.1) && (backToKw j (keywordEach [] X.env)).all (λx=>x.1.isSome)
   && decide ([ea].length+([]:List Keyword).length+(if ([]:List Keyword).isEmpty then 0 else 1)<30))=true:=by rfl)(l2:(p3.endLine == j.line)=true:=by rfl)(s2:starEach [ea] X.env=(false,eval ea X.env)::starEach [] X.env:=by rfl)(q2:(backTo j (starEach [] X.env)).any (·.1)=false:=by rfl)(hs:swapsWith (.Call (.Attribute (.Call (.Attribute o "setdefault" p1) [tg,.List [] py] [] p2) "append" p3) [ea] [] j) none pos.line X.env=pure false:=by rfl) :
  PSD X (.Expr (.Call (.Attribute (.Call (.Attribute o "setdefault" p1) [tg,.List [] py] [] p2) "append" p3) [ea] [] j) pos) (dSda i jk ja):=by
 have hm:=uF zxm PySem.F.slot_list_append PySem.F.type_list_append oG (uF PySem.F.plainAttrs_dict PySem.F.slot_dict_setdefault PySem.F.type_dict_setdefault (sH (X:=X) (by have:=hr.units;lia)) ho (aU hk (aU (xv (pos:=py) bP) bP d9) s1) b1 f1 l1 s1 q1) (aU ha bP s2) b2 f2 l2 s2 q2;refine⟨_,sf hm hs,λ{F} M H σ ρ E D G oo h=>?_⟩;obtain⟨kls,k,d,e1,e2,e3,c4,b6,h9⟩:=h;have g1:=aG e1 (by intro z;cases z);obtain⟨v0,A,b8,nd,hq,hA,_⟩:=G.objAt g1;obtain⟨a,g,ls,rfl,hd,rfl,pl⟩:=ro_dl.mp hq;obtain⟨_,d0,vk,rfl,rk⟩:=G.at (aG e2 (by intro z;cases z));obtain⟨_,c0,C,rfl,ra⟩:=G.at (aG e3 (by intro z;cases z));obtain⟨b,rfl,hb⟩:=sW rk;obtain⟨am,a0,ap⟩:=hA a zzg;obtain⟨nd1,d8⟩:=zyG.mp nd;refine⟨.ref a,b8,.inr (.inr (.inl ⟨rfl,.inr ⟨g,hd⟩⟩)),.ref b,d0,zya _,λl s=>?_⟩;have la:a≠l:=by rintro rfl;rw[hd]at s;cases s
 have lb:b≠l:=by rintro rfl;rw[hb]at s;cases s
 have lf:=G.liv.fresh s;have b3:upd H l (.lst []) a=some (.dT g):=by rw[ah la];exact hd
 have mn:Mv X.K F.pp M H M (upd H l (.lst [])):=.new s;have a9:RSt X.K F M (upd H l (.lst [])) σ ρ:=G.sameP (.new s);have f0:F.H0 l=none:=by
  cases e:F.H0 l with
  |none=>rfl|some o=>exact absurd s (G.same.live l (by rw[e];intro z;cases z))
 refine⟨a,g,k,b,.ref l,rfl,rfl,b3,by rw[ah lb];exact hb,by rw[←pl.len];exact c4,λv hv=>?_,λQ=>?_⟩
 ·rcases pl.add k d d8 with ⟨u,_⟩|⟨l0,T,u,a2,a3,⟨p',c1,c2,c3⟩,_⟩
  ·rw[hv]at u;cases u
  rw[hv]at u;cases u;obtain⟨lm,d5,d6⟩:=hA l0 (zzc _ a2);have n0:l0≠l:=by rintro rfl;rw[s]at a3;cases a3
  have b4:upd H l (.lst []) l0=some (.lst T):=by rw[ah n0];exact a3
  have mw:Mv X.K F.pp M (upd H l (.lst [])) M (upd (upd H l (.lst [])) l0 (.lst (T++[C]))):=.writeX b4 trivial lm d6;have m:=mn.trans mw;refine⟨.inl ⟨rfl,T,SqL.of b4⟩,C,c0,l0,T,C,rfl,rfl,b4,by rw[←c3];exact b6 p' c1,oo.nx M _ σ _ m ?_ h9⟩;refine G.objStep g1 m (λv' A' B a7 b7 Y=>?_) G.sub (a9.sameW d5 mw) a9.liv.upd;rw[b8]at B;cases B;obtain⟨a',c6,a4,e,w,rfl,a8⟩:=ro_dl.mp b7;cases e;rw[hd]at w;cases w;obtain⟨L,U⟩:=zyG.mp a7;rcases a8.add k d U with ⟨z,_⟩|⟨d4,e4,z1,z2,z3,_,f⟩
  ·rw[hv]at z;cases z
  rw[hv]at z1;cases z1;rw[a3]at z3;cases z3;have na:a≠l0:=by rintro rfl;exact L z2
  have keep:∀c x,c≠l0->H c=some x->upd (upd H l (.lst [])) l0 (.lst (T++[C])) c=some x:=λc x N I=>by rw[ah N,ah (by rintro rfl;rw[s]at I;cases I)];exact I
  refine⟨a::a4,a7,ro_dl.mpr ⟨a,g,a4,rfl,keep a _ na hd,rfl,f m (ra.mv m) ai λc _ N x I=>keep c x N I⟩,λc q=>⟨(Y c q).1,(Y c q).2.1,(Y c q).2.2,.inl q⟩,λc q _ _ Q=>⟨q,λx e _=>keep c x (by rintro rfl;exact Q (zzc _ z2)) e⟩⟩
 ·have c5:putK g k (.ref l)=g++[(k,.ref l)]:=by
   unfold putK;rw[sw,Q];rfl
  rw[c5];have m1:Mv X.K F.pp M H (l::M) (upd H l (.lst [])):=.newOwn s;have m2:Mv X.K F.pp (l::M) (upd H l (.lst [])) (l::M) (upd (upd H l (.lst [])) a (.dT (g++[(k,.ref l)]))):=.writeX b3 trivial (zzc _ am) ap;have d7:Mv X.K F.pp M (upd H l (.lst [])) M (upd (upd H l (.lst [])) a (.dT (g++[(k,.ref l)]))):=.writeX b3 trivial am ap;have b5:upd (upd H l (.lst [])) a (.dT (g++[(k,.ref l)])) l=some (.lst []):=by rw[ah (Ne.symm la),ai]
  have m3:Mv X.K F.pp (l::M) (upd (upd H l (.lst [])) a (.dT (g++[(k,.ref l)]))) (l::M) (upd (upd (upd H l (.lst [])) a (.dT (g++[(k,.ref l)]))) l (.lst ([]++[C]))):=.writeX b5 trivial zzg lf.2;have m:=(m1.trans m2).trans m3;have J:=a9.sameW a0 d7;have b9:SameQ X.K F.pp F.H0 (upd (upd (upd H l (.lst [])) a (.dT (g++[(k,.ref l)]))) l (.lst ([]++[C]))):=by
   refine⟨λc x e n=>?_,λp e h=>m3.pen p e (J.pen p e h),λc e=>?_⟩
   ·rw[ah (by rintro rfl;rw[f0]at e;cases e)];exact J.keep c x e n
   ·by_cases z:c=l
    ·subst z;rw[ai];intro z;cases z
    ·rw[ah z];exact J.live c e
  have c8:=(a9.liv.upd (l:=a) (o:=.dT (g++[(k,.ref l)]))).upd (l:=l) (o:=.lst ([]++[C]));refine⟨.inl ⟨rfl,[],SqL.of b5⟩,C,c0,l,[],C,rfl,rfl,b5,by decide,oo.nx (l::M) _ σ _ m ?_ h9⟩;refine G.objStep g1 m (λv' A' B a7 b7 Y=>?_) (λc q=>zzc _ (G.sub c q)) b9 ⟨λc q=>?_,c8.p⟩
  ·rw[b8]at B;cases B;obtain⟨a',c6,a4,e,w,rfl,a8⟩:=ro_dl.mp b7;cases e;rw[hd]at w;cases w;obtain⟨L,U⟩:=zyG.mp a7;have c7:l∉a4:=λz=>lf.1 (Y l (zzc _ z)).1;rcases a8.add k d U with ⟨_,z⟩|⟨d4,e4,z1,_⟩
   ·have keep:∀c x,c≠a->c≠l->H c=some x->upd (upd (upd H l (.lst [])) a (.dT (g++[(k,.ref l)]))) l (.lst ([]++[C])) c=some x:=λc x N I h3=>by
     rw[ah I,ah N,ah I];exact h3
    have c9:upd (upd (upd H l (.lst [])) a (.dT (g++[(k,.ref l)]))) l (.lst ([]++[C])) a=some (.dT (g++[(k,.ref l)])):=by rw[ah la,ai]
    refine⟨a::(a4++[l]),?_,ro_dl.mpr ⟨a,_,a4++[l],rfl,c9,rfl,?_⟩,λc q=>?_,λc q _ _ Q=>⟨zzc _ q,λx e _=>keep c x (by rintro rfl;exact Q zzg) (by rintro rfl;exact lf.1 q) e⟩⟩
    ·refine zyG.mpr ⟨λz=>?_,zyK.mpr ⟨U,by simp,λx hx y hy e=>?_⟩⟩
     ·rcases zzo.mp z with z|z
      ·exact L z
      ·exact la (zzw.mp z)
     ·rw[zzw.mp hy]at e;subst e;exact c7 hx
    ·rw[z];exact PL.snoc ai (.one (ra.mv m)) (a8.mv m λc q x e=>keep c x (by rintro rfl;exact L q) (by rintro rfl;exact c7 q) e)
    ·rcases zzk.mp q with rfl|q
     ·exact⟨zzc _ am,a0,ap,.inl zzg⟩
     rcases zzo.mp q with q|q
     ·have:=Y c (zzc _ q);exact⟨zzc _ this.1,this.2.1,this.2.2,.inl (zzc _ q)⟩
     ·rw[zzw.mp q];exact⟨zzg,f0,lf.2,.inr lf.1⟩
   ·rw[Q]at z1;cases z1
  ·rcases zzk.mp q with rfl|q
   ·rw[ai];intro z;cases z
   ·exact c8.m c q
end
section
variable[Frm]{st:Stmt}
abbrev GZ(k:Nat)(t:DTS):DTS:=λE d=>∃b,slot d k=.own b/\t E (d.set k (.val (.lst b)))
theorem By{k:Nat}{t:DTS}(h:PSD X st t):PSD X st (GZ k t):=by obtain⟨T,p,r⟩:=h;refine⟨T,p,λ{F} M H σ ρ E D s o q=>?_⟩;obtain⟨ds,e,q⟩:=q;obtain⟨M',v,_,m,g,_⟩:=s.freeze (aG e (λz=>by cases z));exact r M' H σ _ E D g ⟨λM1 b L J U Y q=>o.nx M1 b L J (m.trans U) Y q,λM1 b L J U Y q=>o.bk M1 b L J (m.trans U) Y q,λM1 b L J U Y q=>o.ct M1 b L J (m.trans U) Y q,λM1 b L J d v U Y n q=>o.rt M1 b L J d v (m.trans U) Y n q⟩ q
end
end DL
namespace DL
open PySem PySem.Spec PyProof.Rows L2
variable[TB]
variable{l l':Expr}{p pos tp:Pos}
section
variable[Frm]
def seqD:D->Option (List D)
 |.lst a=>some a|.tup a=>some a|_=>none
omit [Frm] in
theorem EW{K:zvd}{pp:Option Addr}{M:List Addr}{H:Hp}{d:D}{v:V}{ds:List D}(r:Rep K pp M H d v)(e:seqD d=some ds) :
  ∃a xs,v=.ref a/\Reps K pp M H ds xs/\∀M2 g,Mv K pp M H M2 g->SqX (λc=>L2.isTupO (H c)) K g a xs:=by
 cases d<;>simp only[seqD]at e<;>cases e
 all_goals simp only[Rep]at r
 ·obtain⟨a,xs,rfl,b,L⟩:=r;refine⟨a,xs,rfl,L,λM2 g J=>?_⟩;unfold SqX;rw[zzn (show L2.isTupO (H a)=true by rw[b];rfl)];exact SqT.of (J.tup a xs b)
 ·obtain⟨a,xs,rfl,h,U,b,L⟩:=r;refine⟨a,xs,rfl,L,λM2 g J=>?_⟩;unfold SqX;rw[zzi (show ¬L2.isTupO (H a)=true by rw[b];intro z;cases z)];exact SqL.of (J.lst a xs b h U).1
section
variable{X:Cx}
abbrev JB(t:DA):DA:=λh Q=>t h λg c=>match g with
 |[a,b]=>∃d e,seqD a=some d/\seqD b=some e/\Q (zipD d e) c|_=>False
theorem Bz{N:DA}{elts:List Expr}{k:Nat}(hg:Gl X "zip")(hm:X.mg "zip" = none)(w:PAD X [l,l'] N)(he:starEach [l,l'] X.env=(false,eval l X.env)::starEach [l'] X.env:=by rfl)(hpl:(backTo pos (starEach [l'] X.env)).any (·.1)=false:=by rfl) :
  PID X (.Tuple elts k tp) (.Call (.Name "zip" p) [l,l'] [] pos) (JB N):=by
 obtain⟨T,pa,r⟩:=w.run;refine⟨λ_ _ _ f h=>w.mono _ _ _ (λd _ h=>?_) h,_,Gz hg hm pa he hpl,λ{F} M H σ ρ R rs h=>r M H σ ρ _ rs (w.mono _ _ _ (λd ρ' h M' B v m a7 Y=>?_) h)⟩
 ·split at h
  ·obtain⟨g,j,a,b,h⟩:=h;exact⟨g,j,a,b,f _ _ h⟩
  ·exact h.elim
 ·split at h
  case h_2=>exact h.elim
  rename_i d1 d2;obtain⟨G,E,e1,e2,h⟩:=h;simp only[Reps]at Y;obtain⟨x,r0,rfl,hx,x',r0',rfl,a6,rfl⟩:=Y;obtain⟨a,g,rfl,Y,o⟩:=EW hx e1;obtain⟨b,j,rfl,U,s⟩:=EW a6 e2;have L:=pB G E;refine⟨λc=>L2.isTupO (B c),a,b,rfl,⟨g,o _ _ .refl⟩,⟨j,s _ _ .refl⟩,h M' B _ m a7 ⟨λM2 C J i d y H3 e yl=>?_,λM2 C J i A=>?_,λM2 C J i A=>?_⟩⟩
  ·obtain⟨T,r,u,rfl,⟨hr,I⟩,rfl⟩:=yl;obtain⟨d1,d2,a2,a3,rfl⟩:=xW G E i d e;obtain⟨v1,a4,a8⟩:=Y.get' a2;obtain⟨v2,a5,a9⟩:=U.get' a3;have Q:=I 0 a g rfl (o _ _ J);have z2:=I 1 b j rfl (s _ _ J);rw[a4]at Q;rw[a5]at z2;have er:r=[v1,v2]:=by
    rcases r with _|⟨p,_|⟨q,_|_⟩⟩<;>cases hr
    cases Q;cases z2;rfl
   subst er;refine⟨.new u,?_⟩;simp only[Rep];exact⟨T,_,rfl,ai,.cons ((a8.mv J).mv (.new u)) (.one ((a9.mv J).mv (.new u)))⟩
  ·rw[L,Y.length,U.length]at A;intro c n;simp only[zzk,zyx,zxJ]at n;rcases n with rfl|rfl
   ·exact⟨g,g[i]'(by lia),o _ _ J,by simp⟩
   ·exact⟨j,j[i]'(by lia),s _ _ J,by simp⟩
  ·rw[L,Y.length,U.length]at A;refine⟨λc n=>?_,?_⟩
   ·simp only[zzk,zyx,zxJ]at n;rcases n with rfl|rfl
    ·exact⟨g,o _ _ J⟩
    ·exact⟨j,s _ _ J⟩
   ·rcases Nat.lt_or_ge j.length g.length with z|z
    ·exact⟨b,by simp,j,s _ _ J,by lia⟩
    ·exact⟨a,by simp,g,o _ _ J,by lia⟩
abbrev Ll(t:DA):DA:=λe Q=>t e λb a=>match b with
 |[.lst c,.lst d]=>Q (zipD c d) a|_=>False
theorem JC{b:DA}{elts:List Expr}{k:Nat}(J:Gl X "zip")(c:X.mg "zip" = none)(a:PAD X [l,l'] b)(he:starEach [l,l'] X.env=(false,eval l X.env)::starEach [l'] X.env:=by rfl)(hpl:(backTo pos (starEach [l'] X.env)).any (·.1)=false:=by rfl) :
  PID X (.Tuple elts k tp) (.Call (.Name "zip" p) [l,l'] [] pos) (Ll b):=by
 obtain⟨mo,T,p,r⟩:=Bz (elts:=elts) (k:=k) (tp:=tp) (p:=p) J c a he hpl;refine⟨λ_ _ _ f h=>a.mono _ _ _ (λd _ h=>?_) h,T,p,λ{F} M H g e R L h=>r M H g e R L (a.mono _ _ _ (λd ρ' h=>?_) h)⟩
 ·split at h
  ·exact f _ _ h
  ·exact h.elim
 ·split at h
  ·exact⟨_,_,rfl,rfl,h⟩
  ·exact h.elim
end
end
end DL
namespace DL
open PySem PySem.Spec L2
open PyProof.Rows hiding St
variable[TB]
variable{N ps:List Str}{e:Expr}{g g1:DSpE}{p pos tp:Pos}{x:Str}
variable{X:Cx}{x:Str}{pos:Pos}{K:zvd}
abbrev XI:=Addr->Addr×List (Str×V)
variable{xi:XI}
def WLA[Frm](xi:XI)(K:zvd):St->XK:=λd C c H=>∃F M b n a,(C=.ref (xi n).1/\c=some a)/\(a∉M/\F.pp≠some a/\H a=some (exD (xi n).2 a))/\RSt K F M H d b/\Frm.W b n
def XkA[Frm](xi:XI)(X:Cx):Prop:=∀e a,XF X (WLA xi X.K) e a->X.xe e a
theorem DW{X:Cx} : @XkA _ Frm.free xi X:=by rintro _ _ ⟨_,_,_,_,_,_,_,_,_,_,_,_,_,_,_,_,_,_,w⟩;exact w.elim
theorem gu[Frm]{X:Cx}:XkA xi (X.wish (XF X (WLA xi X.K))):=λ_ _ h=>Bq h
def spDA(xi:XI)(K:zvd)(n:Nat)(g:DSpE):Sp:=λi H Q E=>∃pp M h,Lv pp M H/\Reps K pp M H h i/\h.length=n/\g h (λd=>∀a v,SameP K pp H a->Rep K pp M a d v->Q v a)
 (λc=>∀a b,SameP K pp H a->b∉M->pp≠some b->a b=some (exD (xi c).2 b)->E (.ref (xi c).1) (some b) a)
section
variable[Frm]{xi:XI}{p:Pos}{e:Expr}{es:List Expr}{t:DA}{g:DSpE}{W:DS->Addr->Prop}
theorem sX{k n:Nat}{f:Addr}{fd:FuncData}(m:FnOk X.prog X.w X.K X.mg X.base (CXE X.prog X.w) k f fd ps (spDA xi X.K n g))(l:wI g)(hx:XkA xi X)(C:W=Frm.W)(hr:Room k X.A)(G:Gl X x)(hm:X.mg x=some (.ref f))(N:PySem.W.keepIn X.K (.ref f)=true)(E:Binds X.K fd ps [])(b:PAD X (e::es) t)(L:(x == ("__debug__" : Str))=false:=by decide)(he:starEach (e::es) X.env=(false,eval e X.env)::starEach es X.env:=by rfl)(hpl:(backTo pos (starEach es X.env)).any (·.1)=false:=by rfl) :
  PED X (.Call (.Name x p) (e::es) [] pos) (Jn n g W t):=by
 subst C;obtain⟨T,pa,ra⟩:=b.run;refine⟨λ_ _ _ f q=>b.mono _ _ _ (λ_ _ q=>⟨q.1,l _ _ _ _ _ (λ_ q=>f _ _ q) (λ_ q=>q) q.2⟩) q,IH (spDA xi X.K n g) [] (WLA xi X.K) T,λa s i H Q I h=>?_,λ{F} M H i ρ Q rs q=>?_⟩
 ·refine zxf (hU I G hm ?_ L);refine zxt (h₀:=X.base) I.ok.mod.kin N (thnE (pa pos a s i H _ I h) λus s1 vs o Y r q=>⟨Y.kIn,?_⟩) he hpl;exact Gm m hr E .nil hx Y r q
 ·refine ra M H i ρ _ rs (b.mono _ _ _ (λu U q M1 o vs m1 J r1=>?_) q);rw[zzv];exact⟨F.pp,M1,u,J.liv,r1,q.1,l _ _ _ _ _ (λd q j w s r=>q M1 j w (m1.trans s.mv) (J.sameP s) r) (λc w j v s y z B=>⟨F,M1,U,c,v,⟨rfl,rfl⟩,⟨y,z,B⟩,J.sameP s,w⟩) q.2⟩
def vD:D->V->Prop
 |.non,v=>v=.non|.int i,v=>v=.int i|_,_=>False
theorem JD{K:zvd}{pp:Option Addr}{M:List Addr}{H:Hp}{d:D}{v x:V}(h:vD d v)(r:Rep K pp M H d x):x=v:=by
 cases d<;>simp only[vD]at h
 ·simp only[Rep]at r;rw[h,r]
 ·simp only[Rep]at r;rw[h,r]
end
theorem fnDA{P:Program}{w:World}{K:zvd}{y:Str->Option Value}{base:Heap}{b:Str}{st:Stmt}{f:Addr}{fd:FuncData}{k:Nat}{t:(DS->Addr->Prop)->DTS}(Fn:Fun K x b st f fd)(S:FnScope N ps (ag st))(hb:∀(L:Frm) (W:DS->Addr->Prop) (hW:W=L.W) (i:Value) (A:Around) (a:List Env) (s:Shared) (H:Hp) (E:XK),Room k (A.deeper (envOfC b (ag st) s.heap.objs.size f i)) ->
   PSsD ((cxOf (CXE P w) P w K y base N b (ag st) f i A a s H E).wish (XF (cxOf (CXE P w) P w K y base N b (ag st) f i A a s H E) (WLA xi K))) (bv st) (t W))(hg:∀ds Q W,ds.length=ps.length->g ds Q W->t (λ_ C=>W C) { nx:=λ_=>Q .non,rt:=Q } (rB N.length ds)):FnOk P w K y base (CXE P w) (k+1) f fd ps (spDA xi K ps.length g):=by
 obtain⟨oc,od,kV,doc,pm,an,i,ct,osl,rfl,lk,U⟩:=Fn.ex;refine FS lk U S (λvs H Q E h=>?_) λA a s H vs Q E hr h=>?_
 ·obtain⟨pp,M,ds,_,r,e,_⟩:=h;rw[←r.length,e]
 ·obtain⟨pp,M,ds,lv,r,e,h⟩:=h
  let L:Frm:=⟨λ_ F _ _=>F=⟨pp,M,H⟩,λ_ c=>∀j n,SameP K pp H j->n∉M->pp≠some n->j n=some (exD (xi c).2 n)->E (.ref (xi c).1) (some n) j,λ_ _ _ _ _ _ h _=>h⟩
  obtain⟨T,p,run⟩:=hb L _ rfl i A a s H E hr;refine⟨T,λo s1 Y H1 D I q=>zyS (p o s1 Y H1 D (I.wish _) q) (λ_ _ q=>q.unwish) λe s' z=>Dd (z.mono λu C dd j q=>?_),run M H _ _ _ _ (pj lv r rfl) ⟨λG j u B m J q=>?_,λ_ _ _ _ _ _ q=>q,λ_ _ _ _ _ _ q=>q,λG j u B d v m J rd q=>?_⟩ (hg ds _ _ e h)⟩
  ·obtain⟨F,G,ρ,c,n,⟨rfl,rfl⟩,⟨h1,h2,h3⟩,J,w⟩:=q;have e2:F=⟨pp,M,H⟩:=J.lk.l;subst e2;exact w j n J.sameT (λz=>h1 (J.sub n z)) h2 h3
  ·exact q j .non J.sameT (by simp only[Rep])
  ·exact q j v J.sameT (rd.mv (.less J.sub))
section
variable{xi:XI}{P:Program}{w:World}{mg:Str->Option Value}{base:Heap}{k:Nat}{f:Addr}{fd:FuncData}{ps:List Str}{n:Nat}
theorem FnOk.asA{g:DSp}(F:FnOk P w K mg base CX0 k f fd ps (spD K n g)):FnOk P w K mg base (CXE P w) k f fd ps (spDA xi K n λds Q _=>g ds Q):=by
 refine⟨λb H Q E q=>F.len b H Q E q,λA a s H args h b Q E U c L Y d=>zxb (F.run A a s H args h b Q E U c L Y d) λr s' J=>?_⟩;cases r with
 |ok v=>cases v<;>exact J
 |error e=>exact False.elim J
theorem FnOk.orA(F:FnOk P w K mg base (CXE P w) k f fd ps (spDA xi K n g1))(G:FnOk P w K mg base (CXE P w) k f fd ps (spDA xi K n g)):FnOk P w K mg base (CXE P w) k f fd ps (spDA xi K n λds Q W=>g1 ds Q W∨g ds Q W):=by
 refine⟨λb H Q E q=>?_,λA a s H args d b Q E U c L Y q=>?_⟩<;>obtain⟨pp,M,ds,J,r,e,h|h⟩:=q
 ·exact F.len b H Q E ⟨pp,M,ds,J,r,e,h⟩
 ·exact G.len b H Q E ⟨pp,M,ds,J,r,e,h⟩
 ·exact F.run A a s H args d b Q E U c L Y ⟨pp,M,ds,J,r,e,h⟩
 ·exact G.run A a s H args d b Q E U c L Y ⟨pp,M,ds,J,r,e,h⟩
end
section
variable[fr0:Frm]{xi:XI}{body suite:List Stmt}{b0:Stmt}{n:Str}{np hpos:Pos}{C0:Addr}{i:Nat}{tb:(DS->Addr->Prop)->DTS}{th:DTS}
abbrev Lm(xi:XI)(K:zvd)(C0:Addr)(i:Nat)(tb:(DS->Addr->Prop)->DTS)(th:DTS)(Wo:DS->Addr->Prop):DTS:=λE a =>
 tb (λJ c=>(PySem.W.exmOne K (.ref (xi c).1) (.ref C0)=some true/\th (GT i E) (J.set i (.val (.exa (xi c).1 (xi c).2))))∨(PySem.W.exmOne K (.ref (xi c).1) (.ref C0)=some false/\Wo J c)) E a
theorem Ha(hK:K=X.K)(hs:X.stack=X.env::X.outer)(hf:X.env.frame=some X.env.locals)(hex:X.ex=[])(hN:X.N.Nodup)(hi:X.N[i]? = some n)(hl:X.env.kindOf n=some .local)(hg:Gl X x)(hm:X.mg x=some (.ref C0))(hx:XkA xi X)
  (hb:∀(I:Frm) (W:DS->Addr->Prop) (hW:W=I.W) B,@PSsD _ I ((X.pinned B).wish (XF (X.pinned B) (@WLA _ I xi X.K))) body (tb W)) (hh:∀ea,PSsD (X.caught ea) (b0::suite) th) (g:(x == ("__debug__" : Str))=false:=by decide) :
  PSD X (.Try body [.ExceptHandler (some (.Name x np)) (some n) (b0::suite) hpos] [] [] pos) (Lm xi K C0 i tb th Frm.W):=by
 subst hK;refine⟨_,II hs hf hex hN hi hl hg hm hx g,λ{F} M H σ ρ E D Q o q=>?_⟩;have U:∀{Wd b h a ρ'},@RSt _ (GS F M H Wd) X.K F b h a ρ'->Mv X.K F.pp M H b h/\@RSt _ fr0 X.K F b h a ρ':=λ{Wd b h a ρ'} r=>⟨(wJ r).2,xU r (Q.lk.cl (wJ r).2).l⟩;refine⟨@WLA _ (GS F M H λJ c=>(PySem.W.exmOne X.K (.ref (xi c).1) (.ref C0)=some true/\th (GT i E) (J.set i (.val (.exa (xi c).1 (xi c).2))))∨(PySem.W.exmOne X.K (.ref (xi c).1) (.ref C0)=some false/\fr0.W J c)) xi X.K,λB=>?_,λa C dd h hw=>?_⟩
 ·obtain⟨T,p,run⟩:=hb (GS F M H _) _ rfl B;exact⟨T,p,run M H σ ρ E D (xU Q ⟨rfl,.refl⟩) (Lb o λb h a ρ' r=>(U r).2) q⟩
 ·obtain⟨z,b,ρ',c,u,⟨rfl,rfl⟩,⟨d1,d2,d3⟩,r,w⟩:=hw;have e:z=F:=(wJ r).1;subst e;obtain⟨m,r⟩:=U r;rcases w with ⟨G,w⟩|⟨G,w⟩
  ·refine .inl ⟨G,λea a0 e y=>?_⟩;obtain rfl:(xi c).1=a0:=Value.ref.inj e;obtain⟨T,p,run⟩:=hh ea;have A:Mv X.K z.pp M H b (upd h ea (excA (xi c).1 (some u) ea)):=m.trans (.new y);have a3:u≠ea:=bp d3 y;have r2:RSt X.K z b (upd h ea (excA (xi c).1 (some u) ea)) (a.set i (some (.ref ea))) (ρ'.set i (.val (.exa (xi c).1 (xi c).2))) :=
    (r.sameP (.new y)).set (by simp only[Rep];exact⟨ea,u,rfl,(r.liv.fresh y).1,(r.liv.fresh y).2,ai,d1,d2,by rw[ah a3];exact d3⟩) i
   exact⟨T,p,run b _ _ _ (GT i E) _ r2 ⟨λM1 s L J Y j q=>o.nx M1 s (L.set i none) (J.set i .nil) (A.trans Y) (j.setNil (o:=none) i) q,λM1 s L J Y j q=>o.bk M1 s (L.set i none) (J.set i .nil) (A.trans Y) (j.setNil (o:=none) i) q,
    λM1 s L J Y j q=>o.ct M1 s (L.set i none) (J.set i .nil) (A.trans Y) (j.setNil (o:=none) i) q,λM1 s L J d v Y j rd q=>o.rt _ _ _ _ _ _ (A.trans Y) j rd q⟩ w⟩
  ·exact .inr ⟨G,z,b,ρ',c,u,⟨rfl,rfl⟩,⟨d1,d2,d3⟩,r,w⟩
end
section
variable[Frm]
abbrev Ln(K:zvd)(te:DE)(f:Str):DE:=λb Q=>te b λd J=>∃C fs a v,d=.exa C fs/\ExA K C/\NoAttr K C f/\fs.lookup f=some v/\vD a v/\Q a J
theorem BB{K:zvd}{f:Str}{i:DE}(o:K=X.K)(he:PED X e i)(r:attributeBase e f X.env (eval e X.env)=eval e X.env):PED X (.Attribute e f pos) (Ln K i f):=by
 subst o;obtain⟨T,y,z⟩:=he.run;refine⟨λ_ _ _ f q=>he.mono _ _ _ (λ_ _ q=>by obtain⟨C,fs,h,v,a,b,c,d,e,q⟩:=q;exact⟨C,fs,h,v,a,b,c,d,e,f _ _ q⟩) q,IK X.K T f,Gq y r,λ{F} M H E B Q A q=>?_⟩;refine z M H E B _ A (he.mono _ _ _ (λd ρ1 q M1 j v1 w L U=>?_) q);obtain⟨C,fs,h,v,rfl,Y,u,s,J,q⟩:=q;simp only[Rep]at U;obtain⟨a,l,rfl,h1,h2,m,h4,h5,n⟩:=U;refine⟨a,C,l,fs,v,rfl,m,n,Y,u,s,q M1 j v w L ?_⟩;cases h<;>simp only[vD]at J
 ·simp only[Rep];exact J
 ·simp only[Rep];exact J
theorem DX:PE X e (λ_ _ _=>False):=λ_ _ _ _ _ _ h=>h.elim
theorem DY:PG X e (λ_ _ _ _=>False):=λ_ _ _ _ _ _ _ _ _ h=>h.elim
theorem BC{a:List Expr}:PTs X a (λ_ _ _=>False):=λ_ _ _ _ _ _ h=>h.elim
abbrev Hb(t:DA):DA:=λd Q=>t d λb a=>match b with
 |[.tup c]=>Q (fA 0 c) a|_=>False
theorem ya{l:Expr}{s:DA}{elts:List Expr}{k:Nat}(E:Gl X "enumerate")(G:X.mg "enumerate" = none)(c:PAD X [l] s)(he:starEach [l] X.env=(false,eval l X.env)::starEach [] X.env:=by rfl)(hpl:(backTo pos (starEach [] X.env)).any (·.1)=false:=by rfl) :
  PID X (.Tuple elts k tp) (.Call (.Name "enumerate" p) [l] [] pos) (Hb s):=by
 obtain⟨T,Q,r⟩:=c.run;refine⟨λ_ _ _ f h=>c.mono _ _ _ (λd _ h=>?_) h,_,DB E G Q he hpl,λ{F} M H σ ρ R g h=>r M H σ ρ _ g (c.mono _ _ _ (λd ρ' h w u v m B L=>?_) h)⟩
 ·split at h
  ·exact f _ _ h
  ·exact h.elim
 ·split at h
  case h_2=>exact h.elim
  rename_i j;simp only[Reps,Rep]at L;obtain⟨x,r0,rfl,⟨a,b,rfl,c,L⟩,rfl⟩:=L;refine⟨a,rfl,⟨b,SqT.of c⟩,h w u _ m B ⟨λM2 o J i d y H3 e N=>?_,λM2 o J i n=>?_,λM2 o J i n=>?_⟩⟩
  ·obtain⟨T,z,q,rfl,I,rfl⟩:=N;obtain⟨d',U,rfl⟩:=vc j 0 i d e;obtain⟨v',A,C⟩:=L.get' U;have:=I b (SqT.of (J.tup a b c));rw[A]at this;cases this;refine⟨.new q,?_⟩;simp only[Rep];exact⟨T,_,rfl,ai,.cons (by rw[Nat.zero_add];exact bL) (.one ((C.mv J).mv (.new q)))⟩
  ·have Y:i<b.length:=by rw[←L.length,←bC j 0];exact n
   exact⟨b,b[i],SqT.of (J.tup a b c),by simp[Y]⟩
  ·exact⟨b,SqT.of (J.tup a b c),by rw[←L.length,←bC j 0];exact n⟩
end
def JE(x y:D)(P:D->Prop):Prop:=match y with
 |.tup a=>(ij x=true/\a.all ij=true)/\P (.bl (!(a.any λy=>eqF y x)))
 |.lst a=>(ij x=true/\a.all ij=true)/\P (.bl (!(a.any λy=>eqF y x)))
 |_=>False
theorem kP:OpD X (compareOp .NotIn) JE:=by
 refine⟨λx y P P' f h=>?_,_,uC,λ{pp} M H x y v u Q _ U J h=>?_⟩
 ·cases y<;>first|exact⟨h.1,f _ h.2⟩|exact False.elim h
 ·have go:∀c:List D,(ij x=true/\c.all ij=true)->∀b:List V,Reps X.K pp M H c b->hZ v=true/\b.all hZ=true/\inV v b=c.any λy=>eqF y x:=λc ⟨f1,f2⟩ b r=>by
   obtain⟨i,j⟩:=nV f1 U;obtain⟨l,L⟩:=kO f2 r;refine⟨j,L,?_⟩;unfold inV;rw[l,i,List.any_map];rfl
  cases y<;>first|exact False.elim h|skip
  ·rename_i c;simp only[Rep]at J;obtain⟨a,b,rfl,d,r⟩:=J;obtain⟨g1,g2,g3⟩:=go c h.1 b r;refine⟨a,b,rfl,.inr (SqT.of d),g1,g2,?_⟩;rw[zzn rfl,g3];exact h.2 H _ .refl bz
  ·rename_i c;simp only[Rep]at J;obtain⟨a,b,rfl,hm,hp,d,r⟩:=J;obtain⟨g1,g2,g3⟩:=go c h.1 b r;refine⟨a,b,rfl,.inl (SqL.of d),g1,g2,?_⟩;rw[zzn rfl,g3];exact h.2 H _ .refl bz
structure LamAt(X:Cx)(k:Nat)(fa c':Addr)(qual:Str)(params:Arguments)(body:Expr)(scope:Scope)(cl:List (Str×Addr))(N2:List Str)(vs:List V):Prop where
 S:LamSc params scope
 room:Room (k+1) X.A
 ob:∃pm ctv,X.H₀ fa=some (frzO (PySem.W.kla_obj "<lambda>" qual params body scope cl pm c' ctv) fa)
 ex:X.ex=[]
 code:KO X.H₀ c' qual
 cells:Cells scope cl N2 vs X.H₀ X.s₀.heap
structure Catcher(K:zvd)(mg:Str->Option Value)(cn a hn n xn:Str)(st:Stmt)(f C0:Addr)(fd:FuncData):Prop where
 F:Fun K cn cn st f fd
 m:mg cn=some (.ref f)
 b:Binds K fd [a] []
 body:∃p1 j p2 p3 p4 p5 p6 np p7 p8 p9 hpos tpos p10 p11,bv st=[.Assign [.Name hn p1] (.Constant .none j p2) p3,.Try [.Expr (.Call (.Name a p4) [] [] p5) p6] [.ExceptHandler (some (.Name xn np)) (some n) [.Assign [.Name hn p7] (.Name n p8) p9] hpos] [] [] tpos,.Return (some (.Name hn p10)) p11]
 kind:(ag st).kind=.function
 co:(ag st).isCoroutine=false
 gen:(ag st).isGenerator=false
 nofree:∀y∈(ag st).names,y.2 ≠ .free
 la:(ag st).names.lookup a=some .local
 lh:(ag st).names.lookup hn=some .local
 ln:(ag st).names.lookup n=some .local
 lx:(ag st).names.lookup xn=some .globalImplicit
 nd:[a,hn,n].Nodup
 mx:mg xn=some (.ref C0)
 db:(xn == ("__debug__" : Str))=false/\(a == ("__debug__" : Str))=false/\(a == ("__classdict__" : Str))=false/\(hn == ("__debug__" : Str))=false/\(hn == ("__classdict__" : Str))=false/\(n == ("__debug__" : Str))=false/\(n == ("__classdict__" : Str))=false
structure Ghosts(gn:List Str)(l:Nat)(scope:Scope)(l3:List Str):Prop where
 nd:(l3++gn).Nodup
 len:gn.length=l
 no:∀x∈gn,scope.names.lookup x=none
section
variable{N2:List Str}{scope:Scope}{cl:List (Str×Addr)}
structure LamIn(X:Cx)(scope:Scope)(cl:List (Str×Addr))(N2:List Str)(js:List Nat):Prop where
 clo:closureFor scope X.env=pure cl
 sub:∀x c,cl.lookup x=some c->X.env.cells.lookup x=some c
 all:∀x,scope.names.lookup x=some .free->x∈N2
 len:N2.length=js.length
 nam:∀(j:Nat) x,N2[j]? = some x->∃i,js[j]? = some i/\X.N[i]? = some x/\X.env.kindOf x=some .cell/\scope.names.lookup x=some .free/\∃c,cl.lookup x=some c
end
end DL
namespace DL
open PySem PySem.Spec L2
open PyProof.Rows hiding St
variable{C dx x:Addr}{N2 ps:List Str}{e e1 o:Expr}{fd:FuncData}{fs':List (Str×V)}{i:Nat}{m:Str}{p p' p2 pos:Pos}{te to:DE}
variable{X:Cx}{K:zvd}{pp:Option Addr}{M:List Addr}{H H':Hp}
theorem pE{c:Type}:∀{l:List (Addr×c)} {a:Addr} {o:c},l.lookup a=some o->(a,o)∈l
 |[],_,_,e=>by cases e
 |(b,x)::r,a,o,e=>by
  rw[zym]at e;cases J:a == b with
  |true=>rw[J]at e;cases e;rw[eq_of_beq J];exact .head _
  |false=>rw[J]at e;exact .tail _ (pE e)
theorem Hd{d:List (Addr×Str)}(K:zvd)(H:Hp)(a:Addr)(c:List Int)(g:∀b,H b=none∨(∃o xs,H b=some (.frz o (.lst xs)))∨H b=some (.tbl #[]))(J:∀P∈d.map (·.1),H P=some (.tbl #[]))(h:SqL K H a (c.map V.int)) :
  @spLaw ⟨d⟩ K [.ref a] H (λv _=>v=.bl true) λ_ _ _=>False:=by
 refine⟨a,c,rfl,?_,λP L e=>⟨#[],J P (zzs.mpr ⟨(P,L),pE e,rfl⟩),trivial,λpos cv z=>by cases z⟩,λ_=>rfl⟩;rcases h with (h|⟨o,h⟩)|h
 ·rcases g a with z|⟨o,xs,z⟩|z
  ·rw[z]at h;cases h
  ·rw[z]at h;cases h
  ·rw[z]at h;cases h
 ·exact .inl ⟨o,h⟩
 ·exact .inr λH'=>.inr h
theorem walk_ofT{l:PySem.W.OpenLaw}{n k:Nat}{q:Program}{I:(Str->Option Value)->Heap->Prop}{A:World->Heap->Prop}{d:DefRec}{K:Params->zvd}{x:Str}{E:List Addr}(hn:l.most=some n)(p:n <= sizeLine)(i:d.params.defaults=[])(hr:Room k callerA)(hY:∀(w:World) (h:Heap),A w h->(K w.params).In h)(Q:∀(w:World) (h:Heap),A w h->∀P∈E,h.get? P=some (PySem.W.tabObj #[]))(F:∀(w:World) (j:Str->Option Value) (v:Addr) (h:Heap),(K w.params).In h->h.Ns mainGlobals j->j d.name=some (.ref v) ->
   ∃(fd:FuncData) (r:List (Addr×Str)),(∀(s:Shared) (u:Value),BindsTo s fd ⟨[u],[]⟩ [(x,u)])/\(∀q∈r,(∃c,PySem.W.codeHdIn (K w.params) c q.1=true)/\q.1∈E/\(K w.params).lookup q.1=none) /\
    ∀base:Heap,(K w.params).In base->base.Ns mainGlobals j->Bm j base->FnOk l.prog w (K w.params) j base CX0 k v fd [x] (@spLaw ⟨r⟩ (K w.params))) :
  PySem.W.WalkO q ps I A l.row.toRowW d [] (λf vs=>PySem.call f vs):=by
 refine Att.attach_call hn i λw s₀ s₁ j mb v o pm cd doc a vs ns G Y ho hd hcd m N L U hg=>?_;have y:=hY w _ Y;obtain⟨fd,r,hb,ht,C⟩:=F w j v _ y G.T.g m;have B:∀P∈r.map (·.1),(∃c,PySem.W.codeHdIn (K w.params) c P=true)/\P∈E/\(K w.params).lookup P=none:=λP J=>by obtain⟨q,hq,rfl⟩:=zzs.mp J;exact ht q hq
 exact AL (tabs:=r.map (·.1)) y G.T.g G.T.b G.T.builtins G.T.nolimit ⟨G.T.bmain⟩ hg N L (zzq U p) hr (λP J=>Q w _ Y P (B P J).2.1) (λP J=>let ⟨c,e⟩:=(B P J).1;⟨c,PySem.W.codeHd_of_K y e⟩) (λP J=>(B P J).2.2) C hb
  (λH M hT hS=>Hd (K w.params) H a ns M hT hS) λH e s' z=>z
inductive Nams(X:Cx)(scope:Scope)(cl:List (Str×Addr)):List Str->List Nat->Prop
 |nil:Nams X scope cl [] []
 |cons {x:Str} {i:Nat} {c:Addr} {xs:List Str} {is:List Nat} (hN:X.N[i]? = some x) (hk:X.env.kindOf x=some .cell) (hs:scope.names.lookup x=some .free) (hc:cl.lookup x=some c) (r:Nams X scope cl xs is):Nams X scope cl (x::xs) (i::is)
theorem Nams.len{X:Cx}{a:Scope}{cl:List (Str×Addr)}{b:List Nat}(h:Nams X a cl N2 b):N2.length=b.length:=by
 induction h with
 |nil=>rfl|cons _ _ _ _ _ J=>simp[J]
section
variable[TB]
theorem Lo{P:Program}{w:World}{K:zvd}{l:Str->Option Value}{base:Heap}{st:Stmt}{f:Addr}{N:List Str}{x:Str}{k:Nat}{t:DTS}{m:Stmt}{rest:List Stmt}(M:Fun K "law" "law" st f fd)(S:FnScope N [x] (ag st))(hs:bv st=m::rest)(hN:2 <= N.length)(h1:∀(g:Value) (A:Around) (c:List Env) (s:Shared) (H:Hp) (E:XK),Room k (A.deeper (envOfC "law" (ag st) s.heap.objs.size f g))->PS (cxOf CX0 P w K l base N "law" (ag st) f g A c s H E).nox m (tAsg (Im (EG K) [] E0 (CP (tVar 0) tNil)) (gName 1)))(hb:∀(g:Value) (_:g=fd.code) (A:Around) (c:List Env) (s:Shared) (H:Hp) (E:XK),Room k (A.deeper (envOfC "law" (ag st) s.heap.objs.size f g)) -> @PSsD _ Frm.free (cxOf CX0 P w K l base N "law" (ag st) f g A c s H E).nox rest t)(hg:t { nx:=λ_=>False,rt:=λd=>d=.bl true } (.nil :: .val .pen::List.replicate (N.length - 2) .nil)):FnOk P w K l base CX0 (k+1) f fd [x] (spLaw K):=by
 obtain⟨oc,od,kV,doc,pm,an,g,ct,osl,e,lk,J⟩:=M.ex;have L:g=fd.code:=by rw[e]
 subst e;refine FS lk J S (λC H Q E h=>?_) (λA c s H C Q E Y h=>?_)
 ·obtain⟨a,y,rfl,_⟩:=h;rfl
 ·suffices hh:∃t,PSs (cxOf CX0 P w K l base N "law" (ag st) f g A c s H E).nox (bv st) t/\t { nx:=λ_ H'=>Q .non H',rt:=Q } (L2.start N C) H by
   obtain⟨t,a,b⟩:=hh;exact⟨t,a.nox,b⟩
  obtain⟨a,y,rfl,U,hT,h⟩:=h;rw[hs];refine⟨_,aW (u:=λD n H'=>∃p:Addr,@RSt _ Frm.free K ⟨some p,[],H'⟩ [] H' n (.nil :: .val .pen::List.replicate (N.length - 2) .nil)/\∀r,D.rt (.bl true) r) (h1 g A c s H E Y) ?_,?_⟩
  ·intro j s' n H' D I ⟨p,rs,q⟩;obtain⟨T,pT,run⟩:=hb g L A c s H E Y;refine pT j s' n H' D I (run [] H' n _ { nx:=λ_=>False,rt:=λd=>d=.bl true } D rs ⟨λ_ _ _ _ _ _ q=>q.elim,λ_ _ _ _ _ _ q=>q.elim,λ_ _ _ _ _ _ q=>q.elim,λM2 H2 σ2 ρ2 d v _ _ G e=>?_⟩ hg);subst e;simp only[Rep]at G;subst G;exact q H2
  ·refine⟨.ref a,?_,a,y,rfl,U,λp H' hp pen sm=>⟨p,⟨?_,λi s o e1 B=>?_,OwF.none (λi s e1=>?_),λa z=>by simp at z,.refl,λa z=>by simp at z,⟨λa z=>by simp at z,λq e=>?_⟩,⟨trivial,hT.of λb o e _=>sm b o e⟩⟩,h⟩⟩
   ·simp[L2.start]
   ·simp[L2.start];lia
   ·match i,e1 with
    |0,e1=>simp at e1;subst e1;trivial|1,e1 =>
     simp at e1;subst e1;have hi:1<(L2.start N [V.ref a]).length:=by simp[L2.start];lia
     simp[hi]at B;subst B;refine⟨_,rfl,?_⟩;simp only[Rep];exact⟨p,rfl,rfl,a,y,0,0,pen⟩
    |i+2,e1 =>
     have:=zyq (zzI (by simpa using e1));subst this;trivial
   ·have:=zzI e1;simp at this;rcases this with rfl|rfl|⟨_,rfl⟩<;>exact⟨λds z=>(by cases z),λq z=>(by cases z)⟩
   ·cases e;rw[pen.lst];intro z;cases z
end
variable[TB]
section
variable[Frm]
def tyY:D->Option Value
 | .non=>some (.type "NoneType")|.exc C=>some (.ref C)|.exa C _=>some (.ref C)|_=>none
def gIsY(K:zvd):DSp:=λh P=>match h with
 |[d,.tup g]=>∃t a b,tyY d=some t/\(∀C,t=.ref C->ExK K C)/\clsD g=some a/\PySem.W.kitAny K t a=some b/\P (.bl b)|[d,c]=>∃t v b,tyY d=some t/\(∀C,t=.ref C->ExK K C)/\clD c=some v/\PySem.W.kitOne K t v=some b/\P (.bl b)|_=>False
theorem BD{K:zvd}:bb (gIsY K):=λds P P' f h=>by
 unfold gIsY at h ⊢;split at h
 ·obtain⟨t,d,b,e1,a,c,J,q⟩:=h;exact⟨t,d,b,e1,a,c,J,f _ q⟩
 ·obtain⟨t,d,b,e1,a,c,J,q⟩:=h;exact⟨t,d,b,e1,a,c,J,f _ q⟩
 ·exact h.elim
theorem yb:CallD X (.builtin "isinstance") (gIsY X.K):=by
 refine⟨BD,λx H Q=>∃pp M u,Reps X.K pp M H u x/\gIsY X.K u (λd=>∀H' w,SameP X.K pp H H'->Rep X.K pp M H' d w->Q w H'),?_,λ{pp} M H u vs Q _ r h=>⟨pp,M,u,r,h⟩⟩;intro y s σ H x us Q I r h;obtain⟨pp,M,u,B,h⟩:=h;have fin:∀b:Bool,(∀H' w,SameP X.K pp H H'->Rep X.K pp M H' (.bl b) w->Q w H')->∀i,EP X y σ Q (.bool b) { s with toks:=i }:=λb q i=>⟨.bl b,H,I.tok i,rfl,q H _ .refl bz⟩;have J:∀{g C:Addr} {m:Option Addr},H g=some (excA C m g)->IsOf g C s.heap:=λ{g C m} e=>by have:=I.hok g _ e;obtain⟨o,e1,j,_⟩:=this.1;exact⟨o,e1,j⟩
 unfold gIsY at h;split at h
 ·rename_i d cs;obtain⟨t,vs,b,e1,j,E,U,q⟩:=h;simp only[Reps]at B;obtain⟨x1,_,rfl,L,x2,_,rfl,A,rfl⟩:=B;simp only[Rep]at A;obtain⟨a,zs,rfl,ha,rz⟩:=A;obtain⟨u1,u2,rfl,Y,T⟩:=FN r;cases T;obtain⟨_,its,vz,o,N,p,n,hd⟩:=I.hok a _ ha;have G:=xV E rz vz;subst G;obtain⟨oc,od,odt,osl⟩:=o;dsimp only at p hd;subst p hd;cases d<;>simp only[tyY]at e1<;>cases e1
  ·simp only[Rep]at L;subst L;cases Y;exact PySem.W.kia_tup PySem.W.kitx_none I.kIn True.intro N U (λz=>nomatch z) (fin b q)
  ·rename_i C;simp only[Rep]at L;obtain⟨g,rfl,_,_,l⟩:=L;cases Y;exact PySem.W.kia_tup (nT (j C rfl)) I.kIn (J l) N U (λz=>nomatch z) (fin b q)
  ·rename_i C fs;simp only[Rep]at L;obtain⟨g,dx,rfl,_,_,l,_⟩:=L;cases Y;exact PySem.W.kia_tup (nT (j C rfl)) I.kIn (J l) N U (λz=>nomatch z) (fin b q)
 ·rename_i d c _;obtain⟨t,v,b,e1,j,E,U,q⟩:=h;simp only[Reps]at B;obtain⟨x1,_,rfl,L,x2,_,rfl,A,rfl⟩:=B;obtain⟨u1,u2,rfl,Y,T⟩:=FN r;have G:=Bs E A T;subst G;cases d<;>simp only[tyY]at e1<;>cases e1
  ·simp only[Rep]at L;subst L;cases Y;exact zys PySem.W.kitx_none I.kIn True.intro U (λz=>nomatch z) (fin b q)
  ·rename_i C;simp only[Rep]at L;obtain⟨g,rfl,_,_,l⟩:=L;cases Y;exact zys (nT (j C rfl)) I.kIn (J l) U (λz=>nomatch z) (fin b q)
  ·rename_i C fs;simp only[Rep]at L;obtain⟨g,dx,rfl,_,_,l,_⟩:=L;cases Y;exact zys (nT (j C rfl)) I.kIn (J l) U (λz=>nomatch z) (fin b q)
 ·exact h.elim
def Lp(i:Nat)(E:DEnds)(ρ:DS)(J:List D):Sl->Prop
 |.own a=>∃(k:Int) (d:D),J=[.int k,d]/\0 <= k/\k <= (a.length:Int)/\a.length<1000/\E.nx (ρ.set i (.own (a.take k.toNat++d::a.drop k.toNat)))|_=>False
abbrev dIns(i:Nat)(t:DA):DTS:=λE b=>DK (slot b i)/\t b λJ a=>Lp i E a J (slot a i)
theorem BE{e2:Expr}{t:DA}(ho:PE X o (tVar i))(n:PAD X [e1,e2] t)(J:attributeBase o "insert" X.env (eval o X.env)=eval o X.env:=by rfl)(a0:((backTo p2 (starEach [e1,e2] X.env)).all (λx=>!x.1) && (backToKw p2 (keywordEach [] X.env)).all (λx=>x.1.isSome)
   && decide ([e1,e2].length+([]:List Keyword).length+(if ([]:List Keyword).isEmpty then 0 else 1)<30))=true:=by rfl)(L:(p.endLine == p2.line)=true:=by rfl)(I:starEach [e1,e2] X.env=(false,eval e1 X.env)::starEach [e2] X.env:=by rfl)(hpl:(backTo p2 (starEach [e2] X.env)).any (·.1)=false:=by rfl)(hs:swapsWith (.Call (.Attribute o "insert" p) [e1,e2] [] p2) none pos.line X.env=pure false:=by rfl):PSD X (.Expr (.Call (.Attribute o "insert" p) [e1,e2] [] p2) pos) (dIns i t):=by
 obtain⟨T,pa,r⟩:=n.run;have C:PE X (.Call (.Attribute o "insert" p) [e1,e2] [] p2) (tBM X.K "list" AM (tVar i) T):=uF zxm PySem.F.slot_list_insert PySem.F.type_list_insert AN ho pa J a0 L I hpl;refine⟨_,sf C hs,λ{F} M H σ y E D v oo h=>?_⟩;obtain⟨a,h⟩:=h;cases q:slot y i with
 |nil=>rw[q]at a;exact a.elim|val d=>rw[q]at a;exact a.elim|pin w d=>rw[q]at a;exact a.elim|obj z=>rw[q]at a;exact a.elim|own ds =>
  obtain⟨oo1,U,l,xs,rfl,hm1,h01,hp1,G,hr1⟩:=v.at (aG q (by intro z;cases z));refine⟨.ref l,U,.inl ⟨rfl,xs,SqL.of G⟩,?_⟩;refine r M H σ y _ v (n.mono _ _ _ (λds2 c h A H' vs m g u=>?_) h);cases b:slot c i with
  |nil=>rw[b]at h;exact h.elim|val d=>rw[b]at h;exact h.elim|pin w d=>rw[b]at h;exact h.elim|obj z=>rw[b]at h;exact h.elim|own ds' =>
   rw[b]at h;obtain⟨k,d,rfl,k0,k1,lz,e⟩:=h;have g1:=aG b (by intro z;cases z);obtain⟨l',j,Q,hm',h0',hp',B,Y⟩:=g.sl i _ _ g1 U;cases Q;simp only[Reps]at u;obtain⟨x1,_,rfl,s,x2,_,rfl,r2,rfl⟩:=u;simp only[Rep]at s;subst s;have hlen:=Y.length;obtain⟨m2,N⟩:=g.write g1 U ((Y.take k.toNat).append (.cons r2 (Y.drop k.toNat)));exact⟨l,j,k,x2,rfl,rfl,B,k0,by lia,by lia,zzE (show j.length<1000 by lia) (by decide),oo.nx A _ _ _ (m.trans m2) N e⟩
end
theorem Mv.more{A:List Addr}(m:Mv K pp M H M H')(J:∀a∈A,H a=none):Mv K pp M H (A++M) H' :=
 ⟨m.tup,λa o e n q=>⟨(m.oth a o e n q).1,λz=>(zzo.mp z).elim (λz=>by rw[J a z]at e;cases e) (λz=>n z)⟩,m.pen,m.tb⟩
section
variable[Frm]
omit [Frm] in
theorem ROs.len:∀{os:List O} {xs:List V} {B:List Addr},ROs K pp M H os xs B->xs.length=os.length
 |[],xs,B,h=>by simp only[ROs]at h;rw[h.1];rfl
 |o::os,xs,B,h=>by simp only[ROs]at h;obtain⟨x,r,_,_,rfl,_,_,h⟩:=h;rw[zzm,zzm,ROs.len h]
end
structure Dz(H H':Hp):Prop where
 oth:∀a u,H a=some u->(∀k,u ≠ .dT k)->(∀o k,u ≠ .frz o (.dT k))->H' a=some u
 dts:∀a k,Rd H a (.dT k)->Rd H' a (.dT k)
section
variable[Frm]
def g2S(C:Str->Str->Prop)(f:Str->Str->D):D->D->(D->Prop)->Prop
 |.str i,.str j,P=>C i j/\P (f i j)|_,_,_=>False
theorem sY{C:Str->Str->Prop}{f:Str->Str->D}{x y:D}{P P':D->Prop}(J:∀d,P d->P' d)(h:g2S C f x y P):g2S C f x y P':=by
 cases x<;>first|exact h.elim|skip
 cases y<;>first|exact h.elim|exact⟨h.1,J _ h.2⟩
theorem yc:OpD X (compareOp .LtE) (g2S (λ_ _=>True) λi j=>.bl (!decide (j.cps.toList<i.cps.toList))):=by
 refine⟨λx y P P' f h=>sY f h,_,AO,λ{pp} M H x y v u Q _ J L h=>?_⟩;cases x<;>first|exact h.elim|skip
 cases y<;>first|exact h.elim|skip
 simp only[Rep]at J L;exact⟨_,_,J,L,h.2 H _ .refl bz⟩
theorem mz:OpD X (binaryOp .Add) (g2S (λi j=>i.length+j.length <= sizeLine) λi j=>.str (i++j)):=by
 refine⟨λx y P P' f h=>sY f h,_,yK,λ{pp} M H x y v u Q _ J L h=>?_⟩;cases x<;>first|exact h.elim|skip
 cases y<;>first|exact h.elim|skip
 simp only[Rep]at J L;exact⟨_,_,J,L,h.1,h.2 H _ .refl ie⟩
def gIxS:D->D->(D->Prop)->Prop
 |.str z,.int i,P=>z.length <= sizeLine/\∃c,atI z.cps.toList i=some c/\P (.str ⟨#[c]⟩)|_,_,_=>False
theorem ve{a b:Expr}(n:PED X a te)(J:PED X b to)(hs:lQ b):PED X (.Subscript a b pos) (dOp gIxS te to):=by
 have L:∀x y P P',(∀d,P d->P' d)->gIxS x y P->gIxS x y P':=λx y P P' f h=>by
  cases x<;>first|exact h.elim|skip
  cases y<;>first|exact h.elim|skip
  obtain⟨g,c,j,l⟩:=h;exact⟨g,c,j,f _ l⟩
 obtain⟨Ta,q,s⟩:=n.run;obtain⟨Tb,r,w⟩:=J.run;refine⟨gs L n J,_,uA Ip q r hs,λ{F} M H σ ρ Q z h=>ma (λM H x y v u Q _ U Y h=>?_) L n J s w z h⟩;cases x<;>first|exact h.elim|skip
 cases y<;>first|exact h.elim|skip
 obtain⟨g,c,j,l⟩:=h;simp only[Rep]at U Y;exact⟨_,_,c,U,Y,g,j,l H _ .refl ie⟩
abbrev dSlS(te:DE)(tl th:DO):DE:=λb Q=>te b λx J=>tl J λlo L=>th L λa U=>∃z,x=.str z/\z.length <= sizeLine/\Q (.str (Txt.slice z lo a)) U
theorem vf{lo b:Option Expr}{tl j:DO}(he:PED X e te)(c:POD X lo tl)(a:POD X b j):PED X (.Subscript e (.Slice lo b none p2) pos) (dSlS te tl j):=by obtain⟨T,p,r⟩:=he.run;obtain⟨Tl,I,i⟩:=c.run;obtain⟨Th,G,N⟩:=a.run;refine⟨λ_ _ _ f h=>he.mono _ _ _ (λ_ _ h=>c.mono _ _ _ (λ_ _ h=>a.mono _ _ _ (λ_ _ ⟨z,e1,w,h⟩=>⟨z,e1,w,f _ _ h⟩) h) h) h,_,xx IU p I G,λ{F} M H d o Q m h=>?_⟩;refine r M H d o _ m (he.mono _ _ _ (λx Y h M1 l v A J g=>?_) h);refine i M1 l d Y _ J (c.mono _ _ _ (λlo u h M2 n B L=>?_) h);refine N M2 n d u _ L (a.mono _ _ _ (λb ρ3 h s q E U=>?_) h);obtain⟨z,rfl,y,h⟩:=h;simp only[Rep]at g;exact⟨z,g,y,h s q _ ((A.trans B).trans E) U ie⟩
def He:DSp:=λa P=>match a with
 |[.str z]=>z.length <= sizeLine/\P (.int z.length)|_=>False
theorem gv:CallD X (.builtin "len") He:=by
 refine⟨λa P P' f h=>?_,_,uD,λ{pp} M H a vs Q _ r h=>?_⟩
 ·unfold He at h ⊢;split at h
  ·exact⟨h.1,f _ h.2⟩
  ·exact h.elim
 ·unfold He at h;split at h
  case h_2=>exact h.elim
  ·rename_i z;simp only[Reps,Rep]at r;obtain⟨x,r,rfl,rfl,rfl⟩:=r;exact⟨z,rfl,h.1,h.2 H _ .refl bL⟩
def Hf:DSp:=λa P=>match a with
 |[.int i]=>i.natAbs.log2<1920/\P (.str (toString i))|_=>False
theorem sZ:CallD X (.type "str") Hf:=by
 refine⟨λa P P' f h=>?_,_,ut,λ{pp} M H a vs Q _ r h=>?_⟩
 ·unfold Hf at h ⊢;split at h
  ·exact⟨h.1,f _ h.2⟩
  ·exact h.elim
 ·unfold Hf at h;split at h
  case h_2=>exact h.elim
  ·rename_i z;simp only[Reps,Rep]at r;obtain⟨x,r,rfl,rfl,rfl⟩:=r;exact⟨z,rfl,h.1,h.2 H _ .refl ie⟩
def DZ:DSp:=λa P=>match a with
 |[.str z]=>z.length <= 640/\∃n,intText? z=some n/\P (.int n)|_=>False
theorem wL:CallD X (.type "int") DZ:=by
 refine⟨λd P P' f h=>?_,_,uT,λ{pp} M H d vs Q _ r h=>?_⟩
 ·unfold DZ at h ⊢;split at h
  ·obtain⟨a,n,b,c⟩:=h;exact⟨a,n,b,f _ c⟩
  ·exact h.elim
 ·unfold DZ at h;split at h
  case h_2=>exact h.elim
  ·rename_i z;simp only[Reps,Rep]at r;obtain⟨x,r,rfl,rfl,rfl⟩:=r;obtain⟨a,n,b,c⟩:=h;exact⟨z,n,rfl,b,a,c H _ .refl bL⟩
omit [Frm] in
theorem pF{K:zvd}{pp:Option Addr}{M:List Addr}{H:Hp}:∀{a:List Str} {xs:List V},Reps K pp M H (a.map D.str) xs->xs=a.map V.str
 |[],xs,h=>by simpa only[zyf,Reps]using h
 |n::a,xs,h=>by simp only[zzh,Reps,Rep]at h;obtain⟨x,r,rfl,rfl,b⟩:=h;rw[pF b,zzh]
abbrev Lq(to te:DE):DE:=λb Q=>to b λx J=>∃z,x=.str z/\te J λy L=>∃a:List Str,(y=.lst (a.map .str)/\JoinOk z a=true)/\Q (.str (Txt.join z a)) L
theorem fB(b:PED X o to)(he:PED X e te)(J:attributeBase o "join" X.env (eval o X.env)=eval o X.env:=by rfl)(U:((backTo p (starEach [e] X.env)).all (λx=>!x.1) && (backToKw p (keywordEach [] X.env)).all (λx=>x.1.isSome)
   && decide ([e].length+([]:List Keyword).length+(if ([]:List Keyword).isEmpty then 0 else 1)<30))=true:=by rfl)(L:(pos.endLine == p.line)=true:=by rfl)(Y:starEach [e] X.env=(false,eval e X.env)::starEach [] X.env:=by rfl)(hpl:(backTo p (starEach [] X.env)).any (·.1)=false:=by rfl) :
  PED X (.Call (.Attribute o "join" pos) [e] [] p) (Lq to te):=by
 obtain⟨To,po,T⟩:=b.run;obtain⟨Te,I,N⟩:=he.run;refine⟨λ_ _ _ f h=>b.mono _ _ _ (λ_ _ ⟨z,B,h⟩=>⟨z,B,he.mono _ _ _ (λ_ _ ⟨d,e1,h⟩=>⟨d,e1,f _ _ h⟩) h⟩) h,_,uF PySem.F.plainAttrs_str PySem.F.slot_str_join PySem.F.type_str_join GC po (aU I bP Y) J U L Y hpl,λ{F} M H n C Q i h=>?_⟩;refine T M H n C _ i (b.mono _ _ _ (λx A h M1 q v E s j=>?_) h);obtain⟨z,rfl,h⟩:=h;simp only[Rep]at j;subst j;refine⟨rfl,N M1 q n A _ s (he.mono _ _ _ (λy ρ2 h M2 r u G w l=>?_) h)⟩;obtain⟨d,⟨rfl,c⟩,h⟩:=h;simp only[Rep]at l;obtain⟨a,xs,rfl,_,_,g,m⟩:=l;rw[pF m]at g;exact⟨z,a,d,rfl,rfl,SqL.of g,c,h M2 r _ (E.trans G) w ie⟩
abbrev EX(to te:DE):DA:=λa Q=>to a λx J=>∃z,x=.str z/\te J λy L=>∃w,(y=.str w/\(w.length == 0)=false/\z.length+2 <= sizeLine)/\Q ((Txt.split z w).map .str) L
omit [Frm] in
theorem vg{K:zvd}{pp:Option Addr}{M:List Addr}{H:Hp}:∀{a:List Str},Reps K pp M H (a.map D.str) (a.map V.str)
 |[]=>by simp only[zyf,Reps]
 |n::a=>by simp only[zzh,Reps];exact⟨_,_,rfl,ie,vg⟩
theorem dN(a:PED X o to)(he:PED X e te)(J:attributeBase o "split" X.env (eval o X.env)=eval o X.env:=by rfl)(U:((backTo p (starEach [e] X.env)).all (λx=>!x.1) && (backToKw p (keywordEach [] X.env)).all (λx=>x.1.isSome)
   && decide ([e].length+([]:List Keyword).length+(if ([]:List Keyword).isEmpty then 0 else 1)<30))=true:=by rfl)(L:(pos.endLine == p.line)=true:=by rfl)(Y:starEach [e] X.env=(false,eval e X.env)::starEach [] X.env:=by rfl)(hpl:(backTo p (starEach [] X.env)).any (·.1)=false:=by rfl) :
  PLD X (.Call (.Attribute o "split" pos) [e] [] p) (EX to te):=by
 obtain⟨To,po,i⟩:=a.run;obtain⟨Te,N,T⟩:=he.run;refine⟨λ_ _ _ f h=>a.mono _ _ _ (λ_ _ ⟨z,s,h⟩=>⟨z,s,he.mono _ _ _ (λ_ _ ⟨C,e1,h⟩=>⟨C,e1,f _ _ h⟩) h⟩) h,_,uF PySem.F.plainAttrs_str PySem.F.slot_str_split PySem.F.type_str_split DD po (aU N bP Y) J U L Y hpl,λ{F} M H d ρ Q m h=>?_⟩;refine i M H d ρ _ m (a.mono _ _ _ (λx r h M1 g v G n b=>?_) h);obtain⟨z,rfl,h⟩:=h;simp only[Rep]at b;subst b;refine⟨rfl,T M1 g d r _ n (he.mono _ _ _ (λy ρ2 h M2 j u I q c=>?_) h)⟩;obtain⟨w,⟨rfl,B,E⟩,h⟩:=h;simp only[Rep]at c;subst c;exact⟨z,w,rfl,rfl,B,E,λl A=>h M2 j _ l _ (G.trans I) q A rfl vg⟩
noncomputable def je(z:Str):List D:=z.cps.toList.map λc=>.str ⟨#[c]⟩
abbrev JF(te:DE):DA:=λb Q=>te b λd a=>∃z,d=.str z/\Q (je z) a
theorem yd{l:Expr}(g:PED X l te):PID X o l (JF te):=by
 obtain⟨T,p,r⟩:=g.run;refine⟨λ_ _ _ f h=>g.mono _ _ _ (λd _ ⟨z,e,h⟩=>⟨z,e,f _ _ h⟩) h,_,IV p,λ{F} M H w u R s h=>r M H w u _ s (g.mono _ _ _ (λd ρ' h n H' v m J U=>?_) h)⟩;obtain⟨z,rfl,h⟩:=h;simp only[Rep]at U;refine⟨z,U,h n H' _ m J (ItOkV.of (vs:=z.cps.toList.map λc=>V.str ⟨#[c]⟩) ⟨λM2 j L i x H3 e1 y=>?_,λM2 j L i b=>?_,λM2 j L i b=>?_⟩ ?_)⟩
 ·obtain⟨rfl,c,q,rfl⟩:=y;exact⟨rfl,by rw[zzu,zyN,q];rfl⟩
 ·show i<z.cps.size;simpa using b
 ·show z.cps.size <= i;simpa using b
 ·have:∀a:List Nat,Reps X.K F.pp n H' (a.map λc=>D.str ⟨#[c]⟩) (a.map λc=>V.str ⟨#[c]⟩):=λa=>by
   induction a with
   |nil=>simp only[zyf,Reps]|cons c a Y =>
    simp only[zzh,Reps];exact⟨_,_,rfl,ie,Y⟩
  exact this _
abbrev Ea(te:DE):DE:=λc Q=>te c λd b=>∃a:List Str,d=.lst (a.map .str)/\a.length <= 1000/\Q (.int (metS a).length) b
theorem zh(y:X.calm=true)(J:Gl X "len")(U:X.mg "len" = none)(L:Gl X "set")(Y:X.mg "set" = none)(he:PED X e te)(b:starEach [e] X.env=(false,eval e X.env)::starEach [] X.env:=by rfl)(c:starEach [.Call (.Name "set" p') [e] [] p2] X.env=(false,eval (.Call (.Name "set" p') [e] [] p2) X.env)::starEach [] X.env:=by rfl)(A:(backTo pos (starEach [] X.env)).any (·.1)=false:=by rfl)(a0:(backTo p2 (starEach [] X.env)).any (·.1)=false:=by rfl) :
  PED X (.Call (.Name "len" p) [.Call (.Name "set" p') [e] [] p2] [] pos) (Ea te):=by
 obtain⟨T,G,I⟩:=he.run;refine⟨λq P P' f h=>he.mono _ _ _ (λd s ⟨E,e1,u,h⟩=>⟨E,e1,u,f _ _ h⟩) h,_,kD (he:=c) (hpl:=A) AS J U zzA (aU (oE (he:=b) (hpl:=a0) (AR y) L Y rfl (aU G bP b)) bP c),λ{F} M H o q Q i h=>?_⟩;refine I M H o q _ i (he.mono _ _ _ (λd s h M1 H1 v B r n=>?_) h);obtain⟨m,rfl,z,w⟩:=h;simp only[Rep]at n;obtain⟨a,xs,rfl,_,_,g,N⟩:=n;rw[pF N]at g;exact⟨a,m,rfl,SqL.of g,z,λl j=>⟨l,_,rfl,ai,w M1 _ _ (B.trans (.new j)) (r.sameP (.new j)) bL⟩⟩
def gGtP:D->D->(D->Prop)->Prop:=λx y P=>∃b i a j,(x=.tup [.tup (b.map .int),.int i]/\y=.tup [.tup (a.map .int),.int j])/\P (.bl (gtP b i a j))
theorem JG{k:Nat}(s:Room k X.A):OpD X (compareOp .Gt) gGtP:=by refine⟨λx y P P' f ⟨d,i,c,j,e,h⟩=>⟨d,i,c,j,e,f _ h⟩,_,IW (by have:=s.units;lia),λ{pp} M H x y v u Q _ g l h=>?_⟩;obtain⟨d,i,c,j,⟨rfl,rfl⟩,h⟩:=h;simp only[Rep,Reps]at g l;obtain⟨a,xs,rfl,n,x1,r1,rfl,⟨p,ys,rfl,U,J⟩,x2,r2,rfl,rfl,rfl⟩:=g;obtain⟨b,us,rfl,r,y1,s1,rfl,⟨q,zs,rfl,Y,L⟩,y2,s2,rfl,rfl,rfl⟩:=l;rw[dS J]at U;rw[dS L]at Y;exact⟨a,b,p,q,d,c,i,j,rfl,rfl,SqT.of n,SqT.of r,SqT.of U,SqT.of Y,h H _ .refl bz⟩
end
structure Jx(K:zvd)(pp:Option Addr)(H:Hp)(L:List Addr)(lh lm:Addr)(xs:List V)(n:Nat)(Hc:Hp):Prop where
 s:SameP K pp H Hc
 m:Hc lm=some (.lst xs)
 h:∃ys,ys.length <= n/\Hc lh=some (.lst ys)
 k:∀x∈xs,∃(t:Addr) (nm:Str) (lk:Addr) (zs:List Str),x=.ref t/\Hc t=some (.tup [.str nm,.ref lk])/\lk∉L/\pp≠some lk/\lk≠lm/\Hc lk=some (.lst (zs.map V.str))
noncomputable def fldD:List Str->List D->Str->Option D
 |n::b,d::a,f=>if f=n then some d else fldD b a f
 |_,_,_=>none
theorem ye{K:zvd}{pp:Option Addr}{M:List Addr}{H:Hp}{f:Str}{d:D}:∀{fs:List (Str×V)} {ds:List D},Reps K pp M H ds (fs.map (·.2))->fldD (fs.map (·.1)) ds f=some d->∃v,fs.lookup f=some v/\Rep K pp M H d v
 |[],ds,_,h=>by cases ds<;>simp[fldD]at h
 |p::fs,[],_,h=>by simp[fldD]at h
 |p::fs,x::ds,r,h=>by
  simp only[zzh,Reps]at r;obtain⟨y,r',e,b,c⟩:=r;injection e with e1 a;subst e1 a;simp only[zzh,fldD]at h;by_cases z:f=p.1
  ·rw[zzn z]at h;cases h;exact⟨p.2,by rw[zym,z];simp,b⟩
  ·rw[zzi z]at h;obtain⟨v,e,q⟩:=ye c h;refine⟨v,?_,q⟩;rw[zym];have:(f == p.1)=false:=by simpa using z
   rw[this];exact e
theorem vh{m:Str}:∀{fs:List (Str×V)},m∉fs.map (·.1)->fs.lookup m=none
 |[],_=>rfl|p::fs,h=>by
  rw[zym];have:(m == p.1)=false:=by have:m≠p.1:=λz=>h (by rw[z];simp);simpa using this
  rw[this];exact vh λz=>h (zzc _ z)
section
variable[Frm]
abbrev dFld(K:zvd)(te:DE)(f:Str):DE:=λg Q=>te g λd J=>∃C c b a,d=.ins C c b/\Cls K C/\NoAttr K C f/\fldD c b f=some a/\Q a J
theorem EY{K:zvd}{f:Str}(Y:K=X.K)(he:PED X e te)(s:attributeBase e f X.env (eval e X.env)=eval e X.env):PED X (.Attribute e f pos) (dFld K te f):=by subst Y;obtain⟨T,A,B⟩:=he.run;refine⟨λ_ _ _ f q=>he.mono _ _ _ (λ_ _ q=>by obtain⟨C,j,h,g,a,b,c,d,q⟩:=q;exact⟨C,j,h,g,a,b,c,d,f _ _ q⟩) q,tFld X.K T f,Ik A s,λ{F} M H I G Q E q=>?_⟩;refine B M H I G _ E (he.mono _ _ _ (λd ρ1 q M1 l v1 z J L=>?_) q);obtain⟨C,j,h,g,rfl,u,y,w,q⟩:=q;simp only[Rep]at L;obtain⟨a,dx,fs,rfl,h1,h2,r,rfl,U⟩:=L;obtain⟨v,e1,n⟩:=ye U w;exact⟨a,C,dx,fs,v,rfl,r,u,y,e1,q M1 l v z J n⟩
abbrev Hg(C:Addr)(m:Str)(n:Nat)(g:DSp)(to:DE)(t:DA):DE:=λj Q=>to j λd J=>∃b h,d=.ins C b h/\m∉b/\t J λa L=>a.length+1=n/\g (d::a) λc=>Q c L
theorem BF{pl:Sem Bool}{k n:Nat}{f:Addr}{g:DSp}{e:Expr}{h:List Expr}{t:DA}(E:FnOk X.prog X.w X.K X.mg X.base CX0 k f fd ps (spD X.K n g))(u:bb g)(hr:Room k X.A)(c:Cls X.K C)(hm:Meth X.K C m f)(hb:Binds X.K fd ps [])(L:PED X o to)(j:PAD X (e::h) t)(U:starEach (e::h) X.env=(false,eval e X.env)::starEach h X.env:=by rfl)(hpl:(backTo pos (starEach h X.env)).any (·.1)=false:=by rfl)(ht:eval (.Call (.Attribute o m p) (e::h) [] pos) X.env=(do
   let z ←eval o X.env
   standAt p.atName
   let (f,first) ←holding [z] (getMethod z m pl)
   callWith pos f first (backTo pos (starEach (e::h) X.env)) (backToKw pos (keywordEach [] X.env))):=by rfl) :
  PED X (.Call (.Attribute o m p) (e::h) [] pos) (Hg C m n g to t):=by
 obtain⟨To,po,ro⟩:=L.run;obtain⟨T,pa,ra⟩:=j.run;refine⟨λ_ _ _ f q=>L.mono _ _ _ (λ_ _ ⟨y,l,a,b,q⟩=>⟨y,l,a,b,j.mono _ _ _ (λ_ _ q=>⟨q.1,u _ _ _ (λ_ q=>f _ _ q) q.2⟩) q⟩) q,_,FQ (pl:=pl) po c hm E hr hb .nil Ae pa U hpl ht,λ{F} M H B ρ Q rs q=>?_⟩;refine ro M H B ρ _ rs (L.mono _ _ _ (λd i q M1 G v1 m1 N Y=>?_) q);obtain⟨y,l,rfl,hn,q⟩:=q;have I:=Y;simp only[Rep]at Y;obtain⟨a,dx,fs,rfl,h1,h2,x,rfl,h4⟩:=Y;refine⟨a,dx,fs,rfl,x,vh hn,ra M1 G B i _ N (j.mono _ _ _ (λh ρ2 q M2 H2 vs v J r2=>?_) q)⟩;rw[zzv];exact⟨F.pp,M2,_::h,J.liv,.cons (I.mv v) r2,by simpa using q.1,u _ _ _ (λd q H' w s r=>q M2 H' w ((m1.trans v).trans s.mv) (J.sameP s) r) q.2⟩
omit [Frm] in
theorem Hh{K:zvd}{H:Hp}{p:Addr}{fs:List (Str×V)}(J:H x=some (.ins C dx fs)):(∃a b t k,Pen K H p a b t k)->∃a b t k,Pen K (upd H x (.ins C dx fs')) p a b t k:=by
 rintro⟨a,b,t,k,h⟩;refine⟨a,b,t,k,?_,?_,h.t0⟩
 ·rw[ah (by rintro rfl;have:=h.lst;rw[J]at this;cases this)];exact h.lst
 ·rcases h.scr with ⟨o,e⟩|e
  ·refine .inl ⟨o,?_⟩;rw[ah (by rintro rfl;rw[J]at e;cases e)];exact e
  ·exact .inr e
omit [Frm] in
theorem Hi{fs:List (Str×V)}:¬TF (.ins C dx fs):=by rintro(⟨_,e⟩|⟨_,_,e⟩)<;>cases e
omit [Frm] in
theorem Mv.ins{K:zvd}{pp:Option Addr}{M:List Addr}{H:Hp}{x C dx:Addr}{fs fs':List (Str×V)}(J:H x=some (.ins C dx fs))(b:x∈M):Mv K pp M H M (upd H x (.ins C dx fs')) :=
 ⟨λa c e=>by rw[ah (by rintro rfl;rw[J]at e;cases e)];exact e,λa c e n _=>⟨by rw[ah (by rintro rfl;exact n b)];exact e,n⟩,λ_ _ h=>Hh J h,λt=>t.upd J Hi⟩
def spMk(K:zvd)(C:Addr)(ns:List Str)(g:D->(List D->Prop)->Prop):Sp:=λh H Q _=>∃pp M d x dx v,h=[.ref x,v]/\(H x=some (.ins C dx [])/\x∈M/\pp≠some x)/\Lv pp M H/\Rep K pp M H d v /\
 g d λc=>∀H' fs,(∀b o,b≠x->H b=some o->NW pp b o->H' b=some o)->(∀p,pp=some p->(∃a ns t l,Pen K H p a ns t l)->∃a ns t l,Pen K H' p a ns t l)->(∀b,H b≠none->H' b≠none)->Tabs H'->H' x=some (.ins C dx fs)->fs.map (·.1)=ns->Reps K pp M H' c (fs.map (·.2))->Q .non H'
abbrev Hj(C:Addr)(ns:List Str)(g:D->(List D->Prop)->Prop)(te:DE):DE:=λb Q=>te b λd J=>g d λa=>Q (.ins C ns a) J
theorem BG{k:Nat}{f:Addr}{g:D->(List D->Prop)->Prop}{x:Str}(M:Mk X.K C f)(y:FnOk X.prog X.w X.K X.mg X.base CX0 k f fd ps (spMk X.K C N2 g))(s:∀d P r,(∀ds,P ds->r ds)->g d P->g d r)(hr:Room (k+1) X.A)(N:Gl X x)(i:X.mg x=some (.ref C))(L:Binds X.K fd ps [])(he:PED X e te)(E:(x == ("__debug__" : Str))=false:=by decide)(U:starEach [e] X.env=(false,eval e X.env)::starEach [] X.env:=by rfl)(hpl:(backTo pos (starEach [] X.env)).any (·.1)=false:=by rfl) :
  PED X (.Call (.Name x p) [e] [] pos) (Hj C N2 g te):=by
 obtain⟨T,pe,re⟩:=he.run;refine⟨λ_ _ _ f q=>he.mono _ _ _ (λ_ _ q=>s _ _ _ (λ_ q=>f _ _ q) q) q,_,FR M y hr N i L .nil Ae (aU pe bP U) E U hpl,λ{F} M H σ ρ Q rs q=>?_⟩;refine re M H σ ρ _ rs (he.mono _ _ _ (λd ρ1 q M1 c v m1 J r1=>?_) q);intro x dx Y G ne;have j:=J.liv.fresh Y;have B:(upd c dx (.own x)) x=none:=by rw[ah (Ne.symm ne)];exact Y
 have s0:SameP X.K F.pp c (upd (upd c dx (.own x)) x (.ins C dx [])):=(SameP.new G).trans (.new B);have mm:Mv X.K F.pp M1 c (x::M1) (upd (upd c dx (.own x)) x (.ins C dx [])):=(s0.mv (M:=M1)).more (A:=[x]) λb L=>by rw[zzw.mp L];exact Y
 have lv:Lv F.pp (x::M1) (upd (upd c dx (.own x)) x (.ins C dx [])):=by
  refine⟨⟨λa l=>?_,λp e=>s0.live p (J.liv.p p e)⟩,s0.tb J.lk.t⟩;rcases zzk.mp l with rfl|l
  ·rw[ai];intro z;cases z
  ·exact s0.live a (J.liv.m a l)
 refine⟨F.pp,x::M1,d,x,dx,v,rfl,⟨ai,zzg,j.2⟩,lv,r1.mv mm,s _ _ _ (λds q H' fs k1 k2 k3 k4 k5 k6 k7=>⟨rfl,?_⟩) q⟩;have u:SameP X.K F.pp c H':=by
  refine⟨⟨λb o e n=>?_,λp e h=>k2 p e (s0.pen p e h),λb L=>k3 b (s0.live b L)⟩,λ_=>k4⟩;have I:b≠x:=by rintro rfl;rw[Y]at e;cases e
  exact k1 b o I (s0.keep b o e n) n
 refine q M1 H' (.ref x) (m1.trans u.mv) (J.sameP u) ?_;simp only[Rep];exact⟨x,dx,fs,rfl,j.1,j.2,k5,k6,k7.mv (.less λb L=>zzc _ L)⟩
end
end DL
namespace DL
open PySem PySem.Spec L2
open PyProof.Rows hiding St
open PyProof.Rows.KTD
variable[TB]
variable{a e:Expr}{h:Heap}{p pos:Pos}{ta te:DE}
def TabK(K:zvd)(a:Addr)(D:List (Str×Dat)):Prop:=tabLook (datLooks λb=>List.lookup b K) (λb=>List.lookup b K) a D=true
def BT(base:Heap)(t:Addr)(ds:List PyData):Prop:=∃b,IsTup base t (List.toArray b)/\Flats b ds/\ds.length <= 1000
theorem TabK.here{K:zvd}{a:Addr}{D:List (Str×Dat)}(k:TabK K a D)(c:K.In h):TextTab h a D:=text_of_look (λb o e=>c b o e) k
def ofPy:PyData->Option D
 |.int i=>some (.int i)|.none=>some .non|_=>none
def zi:PyData->V
 |.int i=>.int i|_=>.non
theorem EZ{v:Value}{d:PyData}{x:D}(f:PyProof.V.Flat v d)(e:ofPy d=some x):RelV (zi d) v/\∀(K:zvd) (pp:Option Addr) (M:List Addr) (H:Hp),Rep K pp M H x (zi d):=by
 cases d<;>simp only[ofPy,zwd,reduceCtorEq]at e
 ·subst e;have:=f default;cases this;exact⟨rfl,λ_ _ _ _=>by simp only[Rep,zi]⟩
 ·subst e;have:=f default;cases this;exact⟨⟨_,rfl⟩,λ_ _ _ _=>by simp only[Rep,zi]⟩
theorem tj:∀{vs:List Value} {ds:List PyData} {i:Nat} {d:PyData},Flats vs ds->ds[i]? = some d->∃v,vs[i]? = some v/\PyProof.V.Flat v d
 |_,_,_,_,.nil,h=>by simp at h
 |v::vs,d::ds,0,_,.cons f _,h=>by simp at h;subst h;exact⟨v,rfl,f⟩
 |v::vs,d::ds,i+1,_,.cons _ r,h=>by obtain⟨u,e,q⟩:=tj r (by simpa using h);exact⟨u,by simpa using e,q⟩
theorem BH:∀{vs:List Value} {ds:List PyData},Flats vs ds->vs.length=ds.length:=by
 intro vs ds h
 induction h with
 |nil=>rfl|cons _ r J=>simp[J]
theorem yf{h₀:Heap}{k:Str}{P:Value->Prop}{d:Dat}:∀{D:List (Str×Dat)},datumAt k D=some d->Opened h₀ P d->EachL h₀ k P D
 |[],_,_=>trivial|[(x,e)],h,o=>λz=>by simp only[datumAt]at h;rw[zzn (zzj z)]at h;cases h;exact o
 |(x,e)::p::D,h,o=>by
  by_cases z:k=x
  ·simp only[datumAt]at h;rw[zzn (zzj z)]at h;cases h;exact eachL_hit z o
  ·simp only[datumAt]at h;rw[zzi (by simpa using z)]at h;exact eachL_miss z (yf (D:=p::D) h o)
section
variable[Frm]{X:Cx}
def Hk(K:zvd):D->D->(D->Prop)->Prop
 |.str k,.cls a,P=>∃D,TabK K a D/\P (.bl (!inKeys k D))|_,_,_=>False
theorem wM{K:zvd}(Y:K=X.K):OpD X (compareOp .NotIn) (Hk K):=by
 subst Y;refine⟨λx y P P' f h=>?_,λx y H Q=>∃k a D,x=.str k/\y=.ref a/\TabK X.K a D/\Q (.bl (!inKeys k D)) H,λpins s σ H x y v u Q I J L h=>?_,λ{pp} M H x y v u Q _ J L h=>?_⟩
 ·cases x<;>first|exact h.elim|skip
  cases y<;>first|exact h.elim|skip
  obtain⟨D,a,b⟩:=h;exact⟨D,a,f _ b⟩
 ·obtain⟨k,a,D,rfl,rfl,U,q⟩:=h;obtain⟨t,rfl⟩:=J;cases L;exact notin_text (h₀:=X.base) ⟨U.here I.mod.kin,I.bk⟩ ⟨.bl _,H,I.tok _,rfl,q⟩
 ·cases x<;>first|exact h.elim|skip
  cases y<;>first|exact h.elim|skip
  obtain⟨D,a,b⟩:=h;simp only[Rep]at J L;exact⟨_,_,D,J,L,a,b H _ .refl bz⟩
abbrev JH(K:zvd)(base:Heap)(a:Addr)(te:DE):DE:=λc Q=>te c λx J=>∃k D b,x=.str k/\TabK K a D/\inKeys k D=true/\datumAt k D=some (.tup b)/\b.length <= 1000/\∀t,BT base t b->Q (.cls t) J
theorem Eb{K:zvd}{base:Heap}{a:Addr}{x:Str}(C:K=X.K)(A:base=X.base)(N:Gl X x)(hm:X.mg x=some (.ref a))(he:PED X e te)(hs:lQ e)(hd:(x == ("__debug__" : Str))=false:=by decide) :
  PED X (.Subscript (.Name x p) e pos) (JH K base a te):=by
 subst C A;obtain⟨T,pe,re⟩:=he.run;refine⟨λ_ _ _ f q=>he.mono _ _ _ (λ_ _ q=>by obtain⟨k,D,c,r,L,U,Y,l,q⟩:=q;exact⟨k,D,c,r,L,U,Y,l,λt h=>f _ _ (q t h)⟩) q,
  λi H Q=>T i H λy j=>∃k D c,y=.str k/\TabK X.K a D/\inKeys k D=true/\datumAt k D=some (.tup c)/\c.length <= 1000/\∀t,BT X.base t c->Q (.ref t) j,λg s i H Q I h=>?_,λ{F} M H i ρ Q rs q=>?_⟩
 ·refine Subscript_ (hU I N hm ?_ hd);refine thn (pe g s i H _ I h) λu s2 q0=>?_;obtain⟨y,n,J,ry,q⟩:=q0;obtain⟨k,D,c,rfl,B,w,o,hl,q⟩:=q;obtain⟨t,rfl⟩:=ry;refine item_text (h₀:=X.base) ⟨B.here J.mod.kin,J.bk⟩ w (yf o λb vs E G=>?_) (hs _ _);exact⟨.ref b,n,J.tok _,rfl,q b ⟨vs,E,G,hl⟩⟩
 ·refine re M H i ρ _ rs (he.mono _ _ _ (λd ρ1 q M1 j v m1 z m=>?_) q);obtain⟨k,D,c,rfl,L,U,Y,l,q⟩:=q;simp only[Rep]at m;exact⟨k,D,c,m,L,U,Y,l,λt h=>q t h M1 j (.ref t) m1 z (by simp only[Rep])⟩
def gIxB(base:Heap):D->D->(D->Prop)->Prop
 |.cls t,.int i,P=>∃b d x,BT base t b/\atI b i=some d/\ofPy d=some x/\P x|_,_,_=>False
theorem Hl:IxR X (λx y H Q=>∃t i ds d e,x=.ref t/\y=.int i/\BT X.base t ds/\atI ds i=some d/\ofPy d=some e/\Q (zi d) H):=by
 intro value slice b s c H x y v u Q I C E h A;obtain⟨t,i,ds,d,e,rfl,rfl,⟨M,B,Y,hl⟩,z,U,q⟩:=h;cases C;obtain⟨tk,rfl⟩:=E;obtain⟨j,m,n,h3,h4,h5⟩:=oF z;obtain⟨w,g,l⟩:=tj Y n;have J:=BH Y;have hn:=oB;have L:IsTup s.heap t (List.toArray M):=by obtain⟨o,U,r⟩:=B;exact⟨o,I.bk _ _ U,r⟩
 have fin:EP X b c Q w s:=⟨zi d,H,I,(EZ l U).1,q⟩;exact zwz (x:=w) L.typeIs slot_tuple_getitem.lookup
  (getItem_tuple (j:=j) (Q:=λr G=>r=w/\EP X b c Q r G) L (by lia) (by lia) (by rw[zzD,J];exact m) (by simpa using g) ⟨rfl,fin⟩) A
theorem BI{base:Heap}{b:Expr}(r:base=X.base)(m:PED X a ta)(U:PED X b te)(hs:lQ b):PED X (.Subscript a b pos) (dOp (gIxB base) ta te):=by
 subst r;have Y:∀x y P P',(∀d,P d->P' d)->gIxB X.base x y P->gIxB X.base x y P':=λx y P P' f h=>by
  cases x<;>first|exact h.elim|skip
  cases y<;>first|exact h.elim|skip
  obtain⟨l,d,e,c,g,i,L⟩:=h;exact⟨l,d,e,c,g,i,f _ L⟩
 obtain⟨Ta,z,B⟩:=m.run;obtain⟨Tb,A,C⟩:=U.run;refine⟨gs Y m U,_,uA Hl z A hs,λ{F} M H σ ρ Q E h=>ma (λM H x y v u Q _ n o h=>?_) Y m U B C E h⟩;cases x<;>first|exact h.elim|skip
 cases y<;>first|exact h.elim|skip
 obtain⟨l,d,e,c,g,i,L⟩:=h;simp only[Rep]at n o;have J:=c;obtain⟨vs,_,s,_⟩:=J;obtain⟨j,g1,g2,g3,g4,g5⟩:=oF g;obtain⟨w,ew,q⟩:=tj s g2;exact⟨_,_,l,d,e,n,o,c,g,i,L H _ .refl ((EZ q i).2 _ _ _ _)⟩
end
end DL
namespace DL
open PySem PySem.Spec L2
open PyProof.Rows hiding St
variable[TB]
variable{N':List Str}{a b e:Expr}{i k0:Nat}{pos py:Pos}{ta tb:DE}{y:Str}
variable{X:Cx}{x:Str}{p pos:Pos}{e:Expr}{es:List Expr}{xi:XI}{fd:FuncData}{ps:List Str}
section
variable[Frm]
section
variable{t:DA}{te:DE}{g:DSp}
theorem dv(i:Nat)(c:X.N[i]? = some x:=by rfl)(L:Vis X.env.scope x:=by first|exact Or.inl rfl|exact Or.inr (Or.inl rfl)|exact Or.inr (Or.inr rfl))(hd:(x == ("__debug__" : Str))=false:=by decide)(J:(x == ("__classdict__" : Str))=false:=by decide):PED X (.Name x pos) (dVar i):=IZ i (pv i c L hd J)
theorem dcl{k n:Nat}{f:Addr}{fd:FuncData}{ps:List Str}{st:Stmt}(d:Df X.K X.mg x st ps f fd)(L:FnOk X.prog X.w X.K X.mg X.base CX0 k f fd ps (spD X.K n g))(U:bb g)(j:Room k0 X.A)(c:PAD X (e::es) t)(h:k <= k0:=by decide)(Y:Gl X x:=by rfl)(J:(x == ("__debug__" : Str))=false:=by decide)(he:starEach (e::es) X.env=(false,eval e X.env)::starEach es X.env:=by rfl)(hpl:(backTo pos (starEach es X.env)).any (·.1)=false:=by rfl) :
  PED X (.Call (.Name x p) (e::es) [] pos) (Jb n g t):=GJ L U (j.mono h) Y d.m d.F.kp d.b c J he hpl
theorem dse(i:Nat)(c:X.N.Nodup)(h:PED X e te)(d:X.N[i]? = some x:=by rfl)(L:Loc X.env.scope x:=by first|exact Or.inl rfl|exact Or.inr rfl)(hs:swapsWith e (some (.Name x py)) pos.line X.env=pure false:=by rfl)(J:X.fn x=true∨X.env.scope.names.lookup x=some .local:=by first|exact .inl rfl|exact .inr rfl|assumption) :
  PSD X (.Assign [.Name x py] e pos) (dSet i te):=Jd c d L h hs J
theorem dow(i:Nat)(c:X.N.Nodup)(h:PLD X e t)(d:X.N[i]? = some x:=by rfl)(L:Loc X.env.scope x:=by first|exact Or.inl rfl|exact Or.inr rfl)(hs:swapsWith e (some (.Name x py)) pos.line X.env=pure false:=by rfl)(J:X.fn x=true∨X.env.scope.names.lookup x=some .local:=by first|exact .inl rfl|exact .inr rfl|assumption) :
  PSD X (.Assign [.Name x py] e pos) (dOwn i t):=Je c d L h hs J
theorem dgn(i:Nat)(c:X.N.Nodup)(d:X.N[i]? = some x:=by rfl)(L:Loc X.env.scope x:=by first|exact Or.inl rfl|exact Or.inr rfl)(J:X.fn x=true∨X.env.scope.names.lookup x=some .local:=by first|exact .inl rfl|exact .inr rfl|assumption):PGD X (.Name x pos) (cH i):=Bb c d L J
theorem dgb{c:Scope}{cl:List (Str×Addr)}{B:Blk}(i:Nat)(d:N'.Nodup:=by decide +kernel)(h:N'[i]? = some x:=by rfl)(L:Loc (cxB X c cl N' B).env.scope x:=by first|exact Or.inl rfl|exact Or.inr rfl)(J:(cxB X c cl N' B).fn x=true∨(cxB X c cl N' B).env.scope.names.lookup x=some .local:=by first|exact .inl rfl|exact .inr rfl|assumption):PGD (cxB X c cl N' B) (.Name x pos) (cH i):=Bb (X:=cxB X c cl N' B) d h L J
theorem dix(c:PED X a ta)(J:PED X b tb)(hs:lQ b:=by exact λ_ _=>rfl):PED X (.Subscript a b pos) (dOp gIx ta tb):=KY c J hs
end
theorem vi:OpD X (compareOp .NotIn) (g2S (λ_ _=>True) λi j=>.bl (!(!(Builtin.Str.occurrences j i 0 j.length 1).isEmpty))):=by
 refine⟨λx y P P' f h=>sY f h,_,ur,λ{pp} M H x y v u Q _ J L h=>?_⟩;cases x<;>first|exact h.elim|skip
 cases y<;>first|exact h.elim|skip
 simp only[Rep]at J L;exact⟨_,_,J,L,h.2 H _ .refl bz⟩
end
section
variable[Frm]{np cpos:Pos}{t:DA}{W:DS->Addr->Prop}{k:Nat}{C f:Addr}
abbrev Hm(xi:XI)(C:Addr)(a1:Str)(W:DS->Addr->Prop)(t:DA):DTS:=λ_ g=>t g λd J=>∃d1 v1 c,d=[d1]/\vD d1 v1/\xi c=(C,[(a1,v1)])/\W J c
theorem pG{a1:Str}(c:ExcI X.K C f)(F:FnOk X.prog X.w X.K X.mg X.base CX0 k f fd ps (sL C a1))(z:Room (k+1) X.A)(r:Binds X.K fd ps [])(s:X.calm=true)(u:Gl X x)(v:X.mg x=some (.ref C))(B:XkA xi X)(n:W=Frm.W)(d:PAD X (e::es) t)
  (he:starEach (e::es) X.env=(false,eval e X.env)::starEach es X.env:=by rfl) (J:(backTo cpos (starEach es X.env)).any (·.1)=false:=by rfl)
  (hd:(x == ("__debug__" : Str))=false:=by decide):PSD X (.Raise (some (.Call (.Name x np) (e::es) [] cpos)) none pos) (Hm xi C a1 W t):=by
 subst n;obtain⟨T,G,N⟩:=d.run;refine⟨_,AW c F z r s u v B G he J hd,λ{F} M H i b E D Q o q=>?_⟩;refine N M H i b _ Q (d.mono _ _ _ (λds h q M1 H1 vs m1 U g=>?_) q);obtain⟨d1,v1,j,rfl,m,Y,w⟩:=q;simp only[Reps]at g;obtain⟨a,_,rfl,I,rfl⟩:=g;refine⟨a,rfl,λl L=>⟨F,M1,h,j,l,⟨by rw[Y],rfl⟩,⟨(U.liv.fresh L).1,(U.liv.fresh L).2,?_⟩,U.sameP (.new L),w⟩⟩;rw[ai,Y,JD m I]
abbrev JI(C:Addr)(g:DSpE)(W:DS->Addr->Prop)(te:DE):DE:=λh _=>te h λd J=>g [.ins C [] [],d] (λ_=>False) λc=>W J c
theorem Ec{g:DSpE}(M:Mk X.K C f)(m:FnOk X.prog X.w X.K X.mg X.base (CXE X.prog X.w) k f fd ps (spDA xi X.K 2 g))(E:wI g)(Y:XkA xi X)(a:W=Frm.W)(hr:Room (k+1) X.A)(i:Gl X x)(y:X.mg x=some (.ref C))(b:Binds X.K fd ps [])(he:PED X e ta)(o:(x == ("__debug__" : Str))=false:=by decide)(J:starEach [e] X.env=(false,eval e X.env)::starEach [] X.env:=by rfl)(hpl:(backTo pos (starEach [] X.env)).any (·.1)=false:=by rfl) :
  PED X (.Call (.Name x p) [e] [] pos) (JI C g W ta):=by
 subst a;obtain⟨T,pe,re⟩:=he.run;refine⟨λ_ _ _ f q=>he.mono _ _ _ (λ_ _ q=>q) q,_,DH (W:=WLA xi X.K) M m hr i y b Y (aU pe bP J) o J hpl,λ{F} M H σ ρ Q rs q=>?_⟩;refine re M H σ ρ _ rs (he.mono _ _ _ (λd u q M1 j v m1 L r1=>?_) q);intro x h Y r ne;have l:=L.liv.fresh Y;have n:(upd j h (.own x)) x=none:=by rw[ah (Ne.symm ne)];exact Y
 have s0:SameP X.K F.pp j (upd (upd j h (.own x)) x (.ins C h [])):=(SameP.new r).trans (.new n);have U:=L.sameP s0;refine⟨F.pp,M1,[.ins C [] [],d],U.liv,.cons ?_ (.cons (r1.mv s0.mv) .nil),rfl,E _ _ _ _ _ (λ_ z=>z.elim) (λc w H' B s G I N=>⟨F,M1,u,c,B,⟨rfl,rfl⟩,⟨G,I,N⟩,U.sameP s,w⟩) q⟩;simp only[Rep];exact⟨x,h,[],rfl,l.1,l.2,ai,rfl,by simp[Reps]⟩
end
section
variable[Frm]
def gLeL:D->D->(D->Prop)->Prop:=λx y P=>∃d c:List Int,(x=.lst (d.map .int)/\y=.lst (c.map .int))/\d.length=c.length/\P (.bl (!HT.lexLt c d))
theorem JJ{k:Nat}(Y:Room k X.A):OpD X (compareOp .LtE) gLeL:=by refine⟨λx y P P' f ⟨d,c,e,l,h⟩=>⟨d,c,e,l,f _ h⟩,_,IY (by have:=Y.units;lia),λ{pp} M H x y v u Q _ L U h=>?_⟩;obtain⟨d,c,⟨rfl,rfl⟩,j,h⟩:=h;simp only[Rep]at L U;obtain⟨a,xs,rfl,_,_,g,m⟩:=L;obtain⟨b,ys,rfl,_,_,J,n⟩:=U;rw[dS m]at g;rw[dS n]at J;exact⟨a,b,d,c,rfl,rfl,g,J,j,h H _ .refl bz⟩
def Lr:D->D->(D->Prop)->Prop
 |.str i,.int n,P=>MulOk i n/\P (.str (Txt.mul i n))|_,_,_=>False
theorem BJ:OpD X (binaryOp .Mult) Lr:=by
 refine⟨λx y P P' f h=>?_,_,zd,λ{pp} M H x y v u Q _ J L h=>?_⟩
 ·cases x<;>first|exact h.elim|skip
  cases y<;>first|exact h.elim|skip
  exact⟨h.1,f _ h.2⟩
 ·cases x<;>first|exact h.elim|skip
  cases y<;>first|exact h.elim|skip
  simp only[Rep]at J L;exact⟨_,_,J,L,h.1,h.2 H _ .refl ie⟩
omit [Frm] in
theorem yg{K:zvd}{pp:Option Addr}{M:List Addr}{H:Hp}:∀c:List Int,Reps K pp M H (c.map D.int) (c.map V.int)
 |[]=>by simp only[zyf,Reps]
 |n::r=>by simp only[zzh,Reps,Rep];exact⟨_,_,rfl,rfl,yg r⟩
def scL(n:Nat):D->Prop
 |.int _=>True|.bl _=>True|.non=>True|.str _=>True|.lst c=>c.length≠n/\∃d:List Int,c=d.map .int|_=>False
abbrev JK(k:Nat)(t:DE):DE:=λc Q=>∃g,slot c k=.own g/\bM k c=true/\t (c.set k (.val (.lst g))) λd h=>(scL g.length d/\h=c.set k (.val (.lst g)))/\Q d c
theorem dO{t:DE}(k:Nat)(h:PED X e t):PED X e (JK k t):=by
 obtain⟨T,p,r⟩:=h.run;refine⟨λρ P P' f q=>?_,T,p,λ{F} M H σ ρ Q E q=>?_⟩<;>obtain⟨w,e,o,q⟩:=q
 ·exact⟨w,e,o,h.mono _ _ _ (λb c q=>⟨q.1,f _ _ q.2⟩) q⟩
 have g:=aG e (by intro z;cases z);obtain⟨N,v,B,m0,Y,rl⟩:=E.freeze g;refine r N H σ _ Q Y (h.mono _ _ _ (λd c q M' I u m L U=>?_) q);obtain⟨⟨G,rfl⟩,q⟩:=q;obtain⟨M2,⟨m2,x⟩,hM⟩:=E.thaw g o B m0 rl m L;refine q M2 I u m2 x ?_;cases d<;>first|exact G.elim|(simp only[Rep]at U ⊢;exact U)|skip
 rename_i es;obtain⟨ne,ns,rfl⟩:=G;obtain⟨ov,J,v1,e1,C⟩:=L.at (i:=k) (s:=.val (.lst w)) (zxq (zzx.mp g).1);rw[B]at J;cases J;cases e1;simp only[Rep]at U C ⊢;obtain⟨a,xs,rfl,y,a2,j,l⟩:=U;refine⟨a,xs,rfl,λz=>?_,a2,j,by rw[dS l];exact yg ns⟩;rcases hM a z with z|z
 ·obtain⟨b,ys,A,b1,b2,n,b4⟩:=C;rw[z]at A;cases A;rw[j]at n;cases n;exact ne (l.length.trans b4.length.symm)
 ·exact y z
end
section
variable{P:Program}{w:World}{K:zvd}{mg:Str->Option Value}{base:Heap}{k:Nat}{f:Addr}{n:Nat}
theorem FnOk.noX{g:DSpE}(U:wI g)(F:FnOk P w K mg base (CXE P w) k f fd ps (spDA xi K n g)):FnOk P w K mg base CX0 k f fd ps (spD K n λds Q=>g ds Q λ_=>False):=by
 have up:∀{d H Q E L},spD K n (λds Q=>g ds Q λ_=>False) d H Q E->spDA xi K n g d H Q L:=λq=>by obtain⟨pp,M,ds,u,r,e,h⟩:=q;exact⟨pp,M,ds,u,r,e,U _ _ _ _ _ (λ_ q=>q) (λ_ q=>q.elim) h⟩
 refine⟨λd H Q E q=>F.len d H Q E (up q),λA c s H args z d Q E l j Y o m=>zxb (F.run A c s H args z d Q (λ_ _ _=>False) l j Y o (up m)) λr s' J=>?_⟩;cases r with
 |ok v=>cases v<;>exact J
 |error e =>
  obtain⟨_,_,_,_,_,_,_,_,_,_,_,_,_,_,q⟩:=J;exact q.elim
end
theorem Ed[fr:Frm]{t:DA}(m:X.N.Nodup)(n:X.N[i]? = some y)(c:X.env.scope.names.lookup y=some .local)(h:PCD X e t)(L:swapsWith e (some (.Name y py)) pos.line X.env=pure true:=by rfl):PSD X (.Assign [.Name y py] e pos) (dSet i (dFrz t)):=by obtain⟨T,_,p,r⟩:=h.run;refine⟨_,p i y py pos m n c L,λ{F} M H g v E D d o q=>r M H g v _ (xU d trivial) (h.mono _ _ _ (λds U q M1 j H' l u Y J c e s=>?_) q)⟩;subst e;have J:RSt X.K F M1 j g U:=xU J (d.lk.cl Y).l;refine o.nx M1 _ _ _ (Y.trans (.new c)) ((J.sameP (.new c)).set ?_ i) q;simp only[Rep];exact⟨l,u,rfl,(J.liv.fresh c).1,(J.liv.fresh c).2,ai,s.mv (.new c)⟩
theorem Ee[Frm]{d:Pos}{g:List Expr}{c:Scope}{cl:List (Str×Addr)}{r:List (Option Nat)}{t:DA}(l:X.N.Nodup)(q:X.N[i]? = some y)(n:X.env.scope.names.lookup y=some .local)(m:X.calm=true)(U:dU X.env.cells c.names []=some cl)(Y:∀y∈c.names,y.2=.free->(y.1,NameKind.cell)∉c.names)(L:c.kind=.function)(cap:Cap X c N' r)(J:∀y∈c.names,y.2=.local->c.names.lookup y.1=some .local)(j:PID X e b t)(a0:swapsWith (.ListComp a [⟨e,b,g,0⟩] c pos) (some (.Name y py)) d.line X.env=pure true:=by rfl)(hs:∀v,foldedSetIterable b X.env v=pure v:=by intro _;rfl):PSD X (.Assign [.Name y py] (.ListComp a [⟨e,b,g,0⟩] c pos) d) (λ_ ρ=>t ρ λ_ _=>False):=by obtain⟨wi,pi,s⟩:=j.run;exact⟨_,Ak l q n m U Y L cap J pi (λB=>⟨DY,BC,DX⟩) a0 hs,λ{F} M H w ρ E D u o h=>s M H w ρ _ u (j.mono _ _ _ (λds ρ1 h=>h.elim) h)⟩
end DL
namespace My
open PySem L2
variable{B c m:Nat}{C f0 f1 fa:Addr}{Q:List D->Prop}{a x z:Str}{b ks:List Int}{bE bT cE cG:Tok}{cs:List (Int×Int)}{e0 e1 e2 e3:FuncData}{h i v:Int}{hs ws:List Str}{s5:Sl}{xs ys:List (List Int)}{α β:Type}
noncomputable def top(i:Nat):Stmt:=PySem.Challenge.pw_othersum_k52_texts_of_no_book.main.body.getD i (.Pass ⟨0,0,0,0⟩)
abbrev eZ:Stmt:=top 16
abbrev ik:Stmt:=top 25
abbrev rG:Stmt:=top 26
abbrev mB:Stmt:=top 31
theorem sc_together:FnScope ["counts","tried","well"] ["counts"] (ag mB):=bu
abbrev bV:Stmt:=top 32
theorem jq:FnScope ["many","rows"] ["many","rows"] (ag bV):=bu
abbrev mC:Stmt:=top 44
theorem sc_gathered:FnScope ["many","pairs","found","kinds","counts","cells"] ["many","pairs"] (ag mC):=bu
abbrev mD:Stmt:=top 45
theorem wN:FnScope ["counts"] ["counts"] (ag mD):=bu
abbrev dW:Stmt:=top 46
theorem sc_counts_of_row:FnScope ["row","many","counts"] ["row","many"] (ag dW):=bu
abbrev BK:Stmt:=top 54
theorem sc_show:FnScope ["names","book","lines","name","kinds","counts","words","house","count"] ["names","book"] (ag BK):=bu
abbrev BL:Stmt:=top 55
theorem sc_read:FnScope ["text","lines","marks","names","many","pairs","book"] ["text"] (ag BL):=bu
abbrev dm:Stmt:=top 56
theorem mE:FnScope ["words"] ["words"] (ag dm):=bu
abbrev mF:Stmt:=top 57
theorem sc_marks_of:FnScope ["lines","marks","words"] ["lines"] (ag mF):=bu
abbrev fC:Stmt:=top 58
theorem pH:FnScope ["words","taken"] ["words","taken"] (ag fC):=bu
abbrev pI:Stmt:=top 59
theorem sc_rows_of:FnScope ["lines","names","rows","line","row"] ["lines","names"] (ag pI):=bu
abbrev jI:Stmt:=top 60
theorem vj:FnScope ["row","other"] ["row","other"] (ag jI):=bu
abbrev tm:Stmt:=top 61
theorem sc_row_of:FnScope ["words","names","kinds","word","mark","tried","well"] ["words","names"] (ag tm):=bu
abbrev jJ:Stmt:=top 62
theorem vm:FnScope ["words"] ["words"] (ag jJ):=bu
abbrev pJ:Stmt:=top 63
theorem zj:FnScope ["word"] ["word"] (ag pJ):=bu
abbrev jK:Stmt:=top 64
theorem vn:FnScope ["word"] ["word"] (ag jK):=bu
abbrev yh:Stmt:=top 120
abbrev cx:Stmt:=top 134
theorem sc_has_right_length:FnScope ["words","bounds"] ["words"] (ag cx):=bu
abbrev tq:Stmt:=top 138
theorem BM:FnScope ["names","book","words","found","a","b","some"] ["names","book","words"] (ag tq):=bu
abbrev mG:Stmt:=top 152
theorem wO:FnScope ["_law_script"] ["_law_script"] (ag mG):=bu
abbrev jM:Stmt:=top 153
theorem sc__law_next:FnScope ["_law_pen_here","_law_many","_law_script","_law_turn","_law_left","_law_cell","_law_number"] ["_law_pen_here","_law_many"] (ag jM):=bu
abbrev im:Stmt:=top 154
theorem sc__law_count:FnScope ["_law_pen_here","_law_way","_law_tried","_law_well"] ["_law_pen_here"] (ag im):=bu
abbrev io:Stmt:=top 155
theorem sc__law_words:FnScope ["_law_pen_here","_law_many","_law_letters","_law_turn","_law_stem","_law_found","_law_k","_law_size"] ["_law_pen_here","_law_many"] (ag io):=bu
abbrev ip:Stmt:=top 156
theorem sc__law_named:FnScope ["_law_pen_here","_law_houses","_law_marks","_law_word"] ["_law_pen_here"] (ag ip):=bu
abbrev iq:Stmt:=top 157
theorem sc__law_cells:FnScope ["_law_pen_here","_law_names","_law_houses","_law_marks","_law_cells_here","_law_turn","_law_kinds","_law_counts"] ["_law_pen_here","_law_names"] (ag iq):=bu
abbrev jN:Stmt:=top 158
theorem sc__law_text:FnScope ["_law_names","_law_cells_here","_law_houses","_law_marks","_law_lines","_law_word","_law_some","_law_kinds","_law_counts","_law_told","_law_house","_law_count_here","_law_numbers"] ["_law_names","_law_cells_here"] (ag jN):=bu
abbrev fE:Stmt:=top 159
theorem pK:FnScope ["_law_word"] ["_law_word"] (ag fE):=bu
abbrev dn:Stmt:=top 160
theorem mH:FnScope ["_law_words_here","_law_least","_law_most"] ["_law_words_here","_law_least","_law_most"] (ag dn):=bu
abbrev fF:Stmt:=top 161
theorem pL:FnScope ["_law_word"] ["_law_word"] (ag fF):=bu
abbrev jO:Stmt:=top 162
theorem sc__law_case:FnScope ["_law_houses","_law_marks","_law_words_here","_law_place","_law_k","_law_tried","_law_well"] ["_law_houses","_law_marks","_law_words_here"] (ag jO):=bu
abbrev dX:Stmt:=top 163
theorem sc__law_bad_line:FnScope ["_law_text_here","_law_lines","_law_houses","_law_marks","_law_last","_law_number","_law_words_here","_law_place"] ["_law_text_here"] (ag dX):=bu
abbrev jP:Stmt:=top 164
theorem sc__law_line:FnScope ["_law_pen_here","_law_lines","_law_some"] ["_law_pen_here","_law_lines"] (ag jP):=bu
abbrev dq:Stmt:=top 165
theorem sc__law_word_bent:FnScope ["_law_pen_here","_law_line_here","_law_words_here","_law_at","_law_some","_law_word","_law_way"] ["_law_pen_here","_law_line_here"] (ag dq):=bu
abbrev fG:Stmt:=top 166
theorem sc__law_spoiled:FnScope ["_law_pen_here","_law_text_here","_law_lines","_law_at","_law_way","_law_line_here","_law_told","_law_spot","_law_sign"] ["_law_pen_here","_law_text_here"] (ag fG):=bu
abbrev dP:Stmt:=top 167
theorem sc__law_caught:FnScope ["_law_text_here","_law_is_desk","_law_caught_here","error"] ["_law_text_here","_law_is_desk"] (ag dP):=bu
abbrev fH:Stmt:=top 168
theorem sc__law_refused:FnScope ["_law_text_here","_law_line_here","_law_is_desk","_law_caught_here"] ["_law_text_here","_law_line_here"] (ag fH):=bu
abbrev Hn:Stmt:=top 169
theorem sc_law:FnScope ["_law_script","_law_pen_here","_law_turn","_law_names","_law_text_here","_law_again","_law_bad","_law_line_here","_law_found","_law_thing"] ["_law_script"] (ag Hn):=bu
abbrev dY:Stmt:=wm (top 11) 0
theorem zm:FnScope ["self","line"] ["self","line"] (ag dY):=⟨rfl,rfl,rfl,by decide +kernel,rfl,by decide +kernel,by decide +kernel⟩
abbrev bW:Stmt:=wm (top 133) 0
theorem sc_Desk_init:FnScope ["self","text","told"] ["self","text"] (ag bW):=⟨rfl,rfl,rfl,by decide +kernel,rfl,by decide +kernel,by decide +kernel⟩
abbrev cK:Stmt:=wm (top 133) 1
theorem sc_Desk_say:FnScope ["self","row","words"] ["self","row"] (ag cK):=⟨rfl,rfl,rfl,by decide +kernel,rfl,by decide +kernel,by decide +kernel⟩
noncomputable def kQ:List (Str×PyProof.Rows.KTD.Dat):=[("show",.tup [.int 1,.int 1]),("whole",.tup [.int 1,.int 1]),("ranks",.tup [.int 1,.int 1]),("back",.tup [.int 1,.int 1]),("parts",.tup [.int 1,.none]),("turn",.tup [.int 3,.none]),("push",.tup [.int 3,.none]),("gap",.tup [.int 3,.none]),("level",.tup [.int 3,.none]),("knots",.tup [.int 3,.none]),("marks",.tup [.int 3,.int 3]),("few",.tup [.int 3,.int 3]),("hide",.tup [.int 6,.int 10])]
set_option genInjectivity false in
set_option genSizeOf false in
structure Tx[DL.TB](K:zvd)(mg:Str->Option Value) where
 fj:Addr
 eL:FuncData
 lF:Df K mg "greatest_divisor" eZ ["one","other"] fj eL
 iD:Addr
 gZ:FuncData
 qC:Df K mg "common_bottom" ik ["ratios"] iD gZ
 rT:Addr
 qj:FuncData
 zG:Df K mg "top_over" rG ["ratio","bottom"] rT qj
 mT:Addr
 kx:FuncData
 mZ:Df K mg "together" mB ["counts"] mT kx
 bY:Addr
 bN:FuncData
 bX:Df K mg "together_by_house" bV ["many","rows"] bY bN
 ji:Addr
 gD:FuncData
 mV:Df K mg "gathered" mC ["many","pairs"] ji gD
 nj:Addr
 jV:FuncData
 mP:Df K mg "is_tried" mD ["counts"] nj jV
 eP:Addr
 dG:FuncData
 eE:Df K mg "counts_of_row" dW ["row","many"] eP dG
 CD:Addr
 xm:FuncData
 yH:Df K mg "show" BK ["names","book"] CD xm
 vY:Addr
 qi:FuncData
 gh:Df K mg "read" BL ["text"] vY qi
 dD:Addr
 cN:FuncData
 bU:Df K mg "is_houses_line" dm ["words"] dD cN
 mR:Addr
 kf:FuncData
 jm:Df K mg "marks_of" mF ["lines"] mR kf
 fK:Addr
 eO:FuncData
 fO:Df K mg "is_mark_line" fC ["words","taken"] fK eO
 lG:Addr
 jp:FuncData
 gf:Df K mg "rows_of" pI ["lines","names"] lG jp
 kh:Addr
 iF:FuncData
 kq:Df K mg "is_behind" jI ["row","other"] kh iF
 tW:Addr
 qv:FuncData
 tS:Df K mg "row_of" tm ["words","names"] tW qv
 kj:Addr
 iM:FuncData
 gE:Df K mg "are_names" jJ ["words"] kj iM
 qD:Addr
 mX:FuncData
 lM:Df K mg "is_name" pJ ["word"] qD mX
 kd:Addr
 iL:FuncData
 gP:Df K mg "is_number" jK ["word"] kd iL
 yG:Addr
 qo:FuncData
 Ex:Df K mg "rising" yh ["shares"] yG qo
 cD:Addr
 ce:FuncData
 cF:Df K mg "has_right_length" cx ["words"] cD ce
 tU:Addr
 qm:FuncData
 tV:Df K mg "answer" tq ["names","book","words"] tU qm
 mW:Addr
 ki:FuncData
 gi:Df K mg "_law_pen" mG ["_law_script"] mW ki
 gU:Addr
 fg:FuncData
 aq:Df K mg "_law_next" jM ["_law_pen_here","_law_many"] gU fg
 iJ:Addr
 gM:FuncData
 iV:Df K mg "_law_count" im ["_law_pen_here"] iJ gM
 iH:Addr
 gJ:FuncData
 dg:Df K mg "_law_words" io ["_law_pen_here","_law_many"] iH gJ
 iT:Addr
 gG:FuncData
 iB:Df K mg "_law_named" ip ["_law_pen_here"] iT gG
 iI:Addr
 gR:FuncData
 iQ:Df K mg "_law_cells" iq ["_law_pen_here","_law_names"] iI gR
 ky:Addr
 iC:FuncData
 kc:Df K mg "_law_text" jN ["_law_names","_law_cells_here"] ky iC
 fM:Addr
 eM:FuncData
 fP:Df K mg "_law_is_name" fE ["_law_word"] fM eM
 dH:Addr
 cP:FuncData
 bo:Df K mg "_law_are_names" dn ["_law_words_here","_law_least","_law_most"] dH cP
 fQ:Addr
 eF:FuncData
 cS:Df K mg "_law_figures" fF ["_law_word"] fQ eF
 kg:Addr
 iE:FuncData
 km:Df K mg "_law_case" jO ["_law_houses","_law_marks","_law_words_here"] kg iE
 eQ:Addr
 dE:FuncData
 eN:Df K mg "_law_bad_line" dX ["_law_text_here"] eQ dE
 jW:Addr
 iA:FuncData
 gK:Df K mg "_law_line" jP ["_law_pen_here","_law_lines"] jW iA
 dz:Addr
 cO:FuncData
 dA:Df K mg "_law_word_bent" dq ["_law_pen_here","_law_line_here"] dz cO
 fL:Addr
 eC:FuncData
 cU:Df K mg "_law_spoiled" fG ["_law_pen_here","_law_text_here"] fL eC
 dR:Addr
 fT:FuncData
 dQ:Df K mg "_law_caught" dP ["_law_text_here","_law_is_desk"] dR fT
 fN:Addr
 eA:FuncData
 cT:Df K mg "_law_refused" fH ["_law_text_here","_law_line_here"] fN eA
 HI:Addr
 CC:FuncData
 Ki:Df K mg "law" Hn ["_law_script"] HI CC
 nD:mg "ValueError" = none
 LF:mg "abs" = none
 Ey:mg "sum" = none
 gQ:mg "tuple" = none
 Kg:mg "any" = none
 CF:mg "all" = none
 ba:mg "len" = none
 dF:mg "range" = none
 HH:mg "zip" = none
 Ez:mg "int" = none
 kC:mg "enumerate" = none
 LE:mg "min" = none
 CH:mg "list" = none
 tY:mg "sorted" = none
 aY:mg "isinstance" = none
 vV:mg "str" = none
 LC:mg "max" = none
 FC:mg "bool" = none
 Kh:mg "set" = none
 aE:Addr
 tT:mg "Desk" = some (.ref aE)
 eI:Addr
 nq:mg "LENGTHS" = some (.ref eI)
 cQ:Addr
 qw:mg "SumError" = some (.ref cQ)
 ak:Addr
 iN:mg "NoText" = some (.ref ak)
 gI:Addr
 vX:mg "NoBack" = some (.ref gI)
 gT:Addr
 vZ:mg "NoBook" = some (.ref gT)
 eG:Addr
 rV:mg "NoHouse" = some (.ref eG)
 gN:Addr
 vW:mg "NoLead" = some (.ref gN)
 gz:Addr
 vT:mg "NoMark" = some (.ref gz)
 gy:Addr
 vS:mg "NoName" = some (.ref gy)
 eJ:Addr
 rS:mg "NoRatio" = some (.ref eJ)
 kB:Addr
 yF:mg "NoRow" = some (.ref kB)
 eK:Addr
 rX:mg "NoShare" = some (.ref eK)
 eR:Addr
 rY:mg "NoTable" = some (.ref eR)
 bZ:Addr
 nE:mg "NoWeights" = some (.ref bZ)
 cM:Addr
 qz:mg "TooGreat" = some (.ref cM)
 bE:Tok
 iK:mg "LEAST_HOUSES" = some (.int 2 bE)
 bT:Tok
 jA:mg "MOST_HOUSES" = some (.int 6 bT)
 cE:Tok
 lE:mg "MOST_MARKS" = some (.int 5 cE)
 cG:Tok
 lI:mg "MOST_KINDS" = some (.int 6 cG)
 bH:Tok
 iY:mg "LONGEST_NAME" = some (.int 8 bH)
 bG:Tok
 iP:mg "MOST_FIGURES" = some (.int 30 bG)
 CG:ExK K ak
 bF:Addr
 jj:FuncData
 vU:Fun K "__init__" "NoText.__init__" dY bF jj
 lL:Binds K jj ["self","line"] []
 dh:ExcI K ak bF
 cV:NoAttr K ak "line"
 iR:Cls K aE
 gS:NoAttr K aE "names"
 iG:NoAttr K aE "book"
 nC:NoAttr K aE "past"
 eD:Addr
 de:FuncData
 jZ:Fun K "__init__" "Desk.__init__" bW eD de
 gL:Binds K de ["self","text"] []
 fe:L2.Mk K aE eD
 jl:Addr
 gC:FuncData
 rW:Fun K "say" "Desk.say" cK jl gC
 mY:Binds K gC ["self","row"] []
 jY:Meth K aE "say" jl
 nr:DL.TabK K eI kQ
 xo:PySem.W.exmOne K (.ref ak) (.ref cQ)=some true
 k_k1:PySem.W.kitOne K (.ref ak) (.ref ak)=some true
 k_k2:PySem.W.kitOne K (.ref ak) (.type "ValueError")=some true
 k_k3:PySem.W.kitAny K (.ref ak) [.ref gI,.ref gT,.ref eG,.ref gN,.ref gz,.ref gy,.ref eJ,.ref kB]=some false
 k_k4:PySem.W.kitAny K (.ref ak) [.ref eK,.ref eR,.ref bZ,.ref cM]=some false
 gg:∃c P,qo.code=.ref c/\PySem.W.codeHdIn K c P=true/\DL.TB.tb.lookup P=some ("rising.<locals>.<lambda>" : Str)
open DL
section
variable{P:Program}{w:World}{K:zvd}{mg:Str->Option Value}{base:Heap}[DL.TB]
theorem wP(T:Tx K mg):FnOk P w K mg base CX0 1 T.mW T.ki ["_law_script"] (EG K):=by
 refine T.gi.F.ok wO (λg H Q E h=>?_) (λcdv A outer s H g Q E hr h=>?_)
 ·obtain⟨a,d,rfl,_⟩:=h;rfl
 ·obtain⟨a,d,rfl,hs,k⟩:=h;refine⟨_,(gj (ui (xv (aU (pv 0) (aU bq (aU bq bP)))))),?_⟩;refine⟨_,rfl,(by show (3:Nat) <= sizeLine;decide),λp J=>?_⟩;refine k p _ J ⟨ai,?_,zye 0⟩ (xz J);rcases hs with ⟨o,e⟩|e
  ·exact .inl ⟨o,lS J e⟩
  ·exact .inr e
theorem vo(T:Tx K mg):FnOk P w K mg base CX0 1 T.gU T.fg ["_law_pen_here","_law_many"] (Ah K):=by
 refine T.aq.F.ok sc__law_next (λq H Q E h=>?_) (λcdv A outer s H q Q E hr h=>?_)
 ·obtain⟨p,a,g,t,l,m,rfl,_⟩:=h;rfl
 ·obtain⟨p,a,g,t,l,m,rfl,pen,m1,m2,k⟩:=h;refine⟨_,(aW (uj (pv 0) (ID rfl (nR (sg (i:=2) sc__law_next.nd rfl (Or.inl rfl)) (nR (sg (i:=3) sc__law_next.nd rfl (Or.inl rfl)) (nR (sg (i:=4) sc__law_next.nd rfl (Or.inl rfl)) zL)))))
   (aW (CJ (oA Kt (pv 4) bq (ay _)) (aW (uj (dL oz (pv 3) bq) (zM (pv 0) bq sr))
   (aW (CJ (PW.pt (HU (oA Kv (pv 3) (kD cW rfl T.ba zzA (aU (pv 2) bP)) (ay _)) (EA (oA Ig (uA sk (pv 2) (pv 3) (λ_ _=>rfl)) (dL EB bq bq) (ay _))))) (aW (jr (i:=5) sc__law_next.nd rfl (Or.inl rfl) bq)
   (aW (CJ (oA Ih (kD cW rfl T.ba zzA (aU (pv 2) bP)) bq (ay _)) (gj (jr (i:=5) sc__law_next.nd rfl (Or.inl rfl) (dL nu (uA sk (pv 2) (dL nu (pv 3) (kD cW rfl T.ba zzA (aU (pv 2) bP))) (λ_ _=>rfl)) bq))) ou)
   (aW (jr (i:=6) sc__law_next.nd rfl (Or.inl rfl) (dL nu (dL lR (dL oz (dL oz (pv 5) (dL lR bq (pv 3))) bq) bq) bq))
   (aW (jr (i:=6) sc__law_next.nd rfl (Or.inl rfl) (dL nu (dL oz (dL oz (dL lR (pv 6) (pv 6)) (dL lR bq (pv 3))) bq) bq))
   (gj (ui (dL nu (dL sA (dL nu (dL lR (pv 6) (dL oz (pv 6) bq)) bq) bq) (pv 1)))))))) ou)
   (gj (jr (i:=4) sc__law_next.nd rfl (Or.inl rfl) (uA sk (pv 2) (pv 3) (λ_ _=>rfl)))))) ou)
   (aW (uj (dL sA (pv 4) (pv 1)) (zM (pv 0) bq sr))
   (gj (ui (dL nu (pv 4) (pv 1))))))),?_⟩
  have L:=pen.t0;have d:(0:Int)<m:=by lia
  refine⟨_,rfl,p,_,rfl,pen.lst,rfl,_,_,rfl,_,_,rfl,_,_,rfl,rfl,?_⟩
  refine⟨_,rfl,rfl,_,rfl,?_⟩;refine ite2 (λo=>?_) (λo=>?_)
  ·
   refine⟨_,rfl,_,_,rfl,rfl,_,rfl,p,_,1,1,rfl,rfl,pen.lst,rfl,?_⟩;have J:Pen K (upd H p (.lst [.ref a,.int (t+1),.int l])) p a g (t+1) l:=pen.put (by lia);have sq:=J.scr.sq
   refine⟨_,rfl,_,rfl,a,_,rfl,.inl sq,_,_,rfl,rfl,_,rfl,?_⟩;refine ite2 (λe=>iteT ?_) (λe=>⟨_,rfl,_,rfl,a,_,t,_,rfl,rfl,sq,Af L (by simp only[zyb,zza]at e;lia),_,_,rfl,rfl,⟨by decide,by decide,by decide⟩,_,_,rfl,rfl,_,rfl,ite2 (λn=>?_) (λn=>?_)⟩)
   rotate_left 2
   ·
    simp only[zyb,zza]at e;refine⟨_,rfl,_,rfl,a,_,t,_,rfl,rfl,sq,Af L (by lia),?_⟩;refine⟨_,rfl,_,rfl,_,_,rfl,rfl,⟨d,Ai (by lia) (by lia)⟩,_,rfl,p,_,2,2,rfl,rfl,J.lst,rfl,?_⟩;refine⟨_,rfl,_,rfl,_,_,rfl,rfl,d,?_⟩;exact k _ (t+1) _ _ (zxx _ (by lia)) (zxg _ d) (J.put (by lia)) (SBut.upd.trans SBut.upd)
   all_goals
    refine⟨_,rfl,a,_,rfl,.inl sq,_,_,rfl,rfl,_,rfl,?_⟩;refine ite2 (λj=>?_) (λj=>?_)
    ·simp only[zyb,zza]at j;refine⟨_,rfl,_,rfl,_,rfl,a,_,rfl,.inl sq,_,_,rfl,rfl,(by show (0:Int)<((g.map V.int).length:Int);rw[zza];lia),a,_,_,_,rfl,rfl,sq,Af (by rw[zza];exact zxx _ (by lia)) (by rw[zza];exact zxg _ (by lia)),_,_,rfl,rfl,mpos,?_⟩;refine⟨_,rfl,_,rfl,_,_,rfl,rfl,Db,_,_,rfl,rfl,_,_,rfl,rfl,_,_,rfl,rfl,IE,_,_,rfl,rfl,mpos,?_⟩;refine⟨_,rfl,_,rfl,_,_,rfl,rfl,sB (by decide) (by decide),_,rfl,_,_,rfl,rfl,Db,_,_,rfl,rfl,_,_,rfl,rfl,_,_,rfl,rfl,mpos,?_⟩;refine⟨_,rfl,_,rfl,_,_,rfl,rfl,_,_,rfl,rfl,sB (by decide) (by decide),_,_,rfl,rfl,mpos,_,_,rfl,rfl,⟨by decide,oN (by decide) (by decide)⟩,_,rfl,_,_,rfl,rfl,d,?_⟩;exact k _ (t+1) _ _ (zxx _ (by lia)) (zxg _ d) J SBut.upd
    ·refine⟨_,rfl,_,rfl,_,_,rfl,rfl,Db,_,_,rfl,rfl,_,_,rfl,rfl,_,_,rfl,rfl,IE,_,_,rfl,rfl,mpos,?_⟩;refine⟨_,rfl,_,rfl,_,_,rfl,rfl,sB (by decide) (by decide),_,rfl,_,_,rfl,rfl,Db,_,_,rfl,rfl,_,_,rfl,rfl,_,_,rfl,rfl,mpos,?_⟩;refine⟨_,rfl,_,rfl,_,_,rfl,rfl,_,_,rfl,rfl,sB (by decide) (by decide),_,_,rfl,rfl,mpos,_,_,rfl,rfl,⟨by decide,oN (by decide) (by decide)⟩,_,rfl,_,_,rfl,rfl,d,?_⟩;exact k _ (t+1) _ _ (zxx _ (by lia)) (zxg _ d) J SBut.upd
  ·
   refine⟨_,rfl,_,rfl,_,_,rfl,rfl,⟨d,Ai (by lia) (by lia)⟩,_,rfl,p,_,2,2,rfl,rfl,pen.lst,rfl,?_⟩;refine⟨_,rfl,_,rfl,_,_,rfl,rfl,d,?_⟩;exact k _ t _ _ (zxx _ (by lia)) (zxg _ d) (pen.put L) SBut.upd
theorem ar(T:Tx K mg):FnOk P w K mg base CX0 1 T.gU T.fg ["_law_pen_here","_law_many"] (spD K 2 zg):=GQ (vo T)
theorem au:bb zg:=Bj
def cm(c:Int×Int):D:=.tup [.int c.1,.int c.2]
def gTog:DSp:=λd Q=>match d with
 |[.lst xs]=>∃cs:List (Int×Int),xs=cs.map cm/\cs.length <= 1000/\Q (.tup [.int (cs.map (·.1)).sum,.int (cs.map (·.2)).sum])|[.tup xs]=>∃cs:List (Int×Int),xs=cs.map cm/\cs.length <= 1000/\Q (.tup [.int (cs.map (·.1)).sum,.int (cs.map (·.2)).sum])|_=>False
theorem zp:bb gTog:=λds P P' f h=>by
 unfold gTog at h ⊢;split at h
 ·obtain⟨cs,a,b,h⟩:=h;exact⟨cs,a,b,f _ h⟩
 ·obtain⟨cs,a,b,h⟩:=h;exact⟨cs,a,b,f _ h⟩
 ·exact h.elim
theorem JL{s:Sl}(g:cs.length <= 1000)(L:Q ((cs.map (·.1)).map D.int)):dl (cH 0) cJ (dOp gIx (dVar 0) (dC (.int 0))) (cs.map cm) [] [s] Q:=by refine aP (D.int ∘ (·.1)) (λd=>∃s,d=[s]) (zzq g (by decide)) (λc _ d Y Z e J=>?_) _ ⟨_,rfl⟩ (by rw[←zzB];exact L);obtain⟨s,rfl⟩:=e;exact Br.t (J _ ⟨_,rfl⟩)
theorem Ls{s:Sl}(g:cs.length <= 1000)(L:Q ((cs.map (·.2)).map D.int)):dl (cH 0) cJ (dOp gIx (dVar 0) (dC (.int 1))) (cs.map cm) [] [s] Q:=by refine aP (D.int ∘ (·.2)) (λd=>∃s,d=[s]) (zzq g (by decide)) (λc _ d Y Z e J=>?_) _ ⟨_,rfl⟩ (by rw[←zzB];exact L);obtain⟨s,rfl⟩:=e;exact Br.t (J _ ⟨_,rfl⟩)
theorem zq(T:Tx K mg):FnOk P w K mg base CX0 1 T.mT T.kx ["counts"] (spD K 1 gTog):=by
 refine fnD (k:=0) T.mZ.F sc_together (λcdv A outer s H E hr=>(ad (dse 1 sc_together.nd (aj Bo rfl T.Ey PyProof.Rows.boot_sum (aa (ao (PCD.pld (aH (N':=["count"]) rfl rfl (by decide +kernel) rfl (.own .nil) (by decide +kernel) (ET (dv 0)) (λB=>(dgb 0)) (λB=>aM) (λB=>(dix (dv 0) ae))))) ac)))
   (ad (dse 2 sc_together.nd (aj Bo rfl T.Ey PyProof.Rows.boot_sum (aa (ao (PCD.pld (aH (N':=["count"]) rfl rfl (by decide +kernel) rfl (.own .nil) (by decide +kernel) (ET (dv 0)) (λB=>(dgb 0)) (λB=>aM) (λB=>(dix (dv 0) ae))))) ac)))
   (af (aA (bA (aa (dv 1) (aa (dv 2) ac)))))))) (λds Q hl h=>?_)
 unfold gTog at h;split at h
 case h_3=>exact h.elim
 all_goals
  obtain⟨cs,rfl,d,h⟩:=h;refine JL d (sS ?_);refine Ls d (sS ?_);exact⟨sz,h⟩
structure Cnt(n:Nat)(t w:Int):Prop where
 lo:0 <= w
 hi:w <= t
 bt:Bd n t
 bw:Bd n w
theorem Cnt.mono{m n:Nat}{t w:Int}(h:Cnt m t w)(l:m <= n):Cnt n t w:=⟨h.lo,h.hi,h.bt.mono l,h.bw.mono l⟩
theorem vp{n:Nat}{t w:Int}(lo:0 <= w)(d:w <= t)(b:Bd n t):Cnt n t w:=⟨lo,d,b,b.le (by lia)⟩
abbrev Row:=List (Int×Int)
variable{p:List Int×Row}{ps qs:List (List Int×Row)}
def rowD(r:Row):D:=.tup (r.map cm)
def RowN(n m:Nat)(r:Row):Prop:=r.length=m/\∀c∈r,Cnt n c.1 c.2
abbrev Ho(m:Nat)(r:Row):Prop:=RowN 200 m r
theorem RowN.up{n:Nat}{r:Row}(o:RowN n m r)(h:n <= 200:=by decide):Ho m r:=⟨o.1,λc d=>(o.2 c d).mono h⟩
def at_(r:Row)(h:Nat):Int×Int:=r.getD h (0,0)
noncomputable def col(t:List Row)(h:Nat):List (Int×Int):=t.map λr=>at_ r h
noncomputable def sumP(cs:List (Int×Int)):Int×Int:=((cs.map (·.1)).sum,(cs.map (·.2)).sum)
noncomputable def sums(t:List Row)(m:Nat):Row:=(List.range m).map λh=>sumP (col t h)
theorem JM{n:Nat}{r:Row}(o:RowN n m r){h:Nat}(d:h<m):r[h]? = some (at_ r h)/\Cnt n (at_ r h).1 (at_ r h).2:=by
 have g:h<r.length:=by rw[o.1];exact d
 have e:r[h]? = some (at_ r h):=by unfold at_;rw[zzC];simp[g]
 exact⟨e,o.2 _ (zzI e)⟩
theorem JN{n:Nat}{r:Row}(o:RowN n m r){Q:D->Prop}(d:0 <= h)(h1:h<m)(q:Q (cm (at_ r h.toNat))):opt (atI (r.map cm) h) Q:=by refine aK d ?_ q;rw[zzu,(JM o (h:=h.toNat) (by lia)).1];rfl
theorem Ef{t:List Row}(U:∀r∈t,Ho m r)(A:t.length <= 1000)(u:0 <= h)(y:h<m){s:Sl}(q:Q ((col t h.toNat).map cm)) :
  dl (cH 0) cJ (dOp gIx (dVar 0) (dVar 1)) (t.map rowD) [] [s,.val (.int h)] Q:=by
 refine bn (λpre J n=>∃g j:List Row,t=g++j/\pre=g.map rowD/\J=(col g h.toNat).map cm/\∃s,n=[s,.val (.int h)]) (λJ n l=>?_) (λpre d post J n Y e l L=>?_) _ ⟨[],t,rfl,rfl,rfl,_,rfl⟩
 ·obtain⟨g,j,rfl,e,rfl,_⟩:=l;have:j=[]:=by
   have:=congrArg List.length e;simp at this;exact this
  subst this;simpa using q
 ·obtain⟨g,j,rfl,rfl,rfl,s,rfl⟩:=l;rw[zze]at e;have e:=zzN e;cases j with
  |nil=>simp at e|cons r j =>
   rw[zzh]at e;injection e with e1 e2;subst e1;have o:=U r (by simp);refine Br.t (JN o u y ⟨?_,L _ _ ⟨g++[r],j,by simp,by simp,by simp[col],_,rfl⟩⟩);rw[zza];unfold col;rw[zza];have:g.length <= 1000:=by rw[zzd]at A;lia
   exact zzG this (by decide)
def gTbh:DSp:=λd Q=>match d with
 |[.int m,.lst xs]=>∃(n:Nat) (t:List Row),m=n/\xs=t.map rowD/\(n <= 6/\t.length <= 1000/\∀r∈t,Ho n r)/\Q (rowD (sums t n))|_=>False
theorem jQ:bb gTbh:=λds P P' f h=>by
 unfold gTbh at h ⊢;split at h
 ·obtain⟨n,t,a,b,c,h⟩:=h;exact⟨n,t,a,b,c,f _ h⟩
 ·exact h.elim
theorem kR:∀(n:Nat) (lo:Int),ig lo n=(List.range n).map λ(i:Nat)=>D.int (lo+i)
 |0,_=>rfl|n+1,lo=>by
  rw[List.range_succ_eq_map,zzh,zzB,ig,kR n (lo+1)];congr 1
  ·simp
  ·apply zzR;intro i _;simp only[Function.comp];congr 1;lia
theorem jR(T:Tx K mg):FnOk P w K mg base CX0 2 T.bY T.bN ["many","rows"] (spD K 2 gTbh):=by
 refine fnD (k:=1) T.bX.F jq (λcdv A outer s H E q=>(af (aA (aQ eW rfl T.gQ rfl (aa (ao (PCD.pld (aH (N':=["house","rows"]) rfl rfl (by decide +kernel) rfl (.own (.cap (j:=1) rfl (by first|exact Or.inl rfl|exact Or.inr rfl) rfl .nil)) (by decide +kernel) (cu rfl T.dF (aa (dv 0) ac)) (λB=>(dgb 0)) (λB=>aM) (λB=>(dcl T.mZ (zq T) zp q (aa (ao (PCD.pld (aH (N':=["row","house"]) rfl rfl (by decide +kernel) rfl (.own (.cap (j:=0) rfl (by first|exact Or.inl rfl|exact Or.inr rfl) rfl .nil)) (by decide +kernel) (aR (dv 1)) (λB=>(dgb 0)) (λB=>aM) (λB=>(dix (dv 0) (dv 1)))))) ac)))))) ac))))) (λds Q hl h=>?_);unfold gTbh at h;split at h
 case h_2=>exact h.elim
 obtain⟨n,t,rfl,rfl,⟨l,J,U⟩,h⟩:=h;refine⟨⟨by lia,by lia⟩,?_⟩;rw[zzM,kR];refine aP (λi:Nat=>cm (sumP (col t (0+(i:Int)).toNat))) (λg=>∃s,g=[s,.val (.lst (t.map rowD))]) ?_ (λi d g Y Z o L=>?_) _ ⟨_,rfl⟩ ?_
 ·rw[List.length_range];exact zzq l (by decide)
 ·obtain⟨s,rfl⟩:=o;have d:=zxp.mp d;refine Br.t (Ef U J (by lia) (by lia) ⟨rfl,col t (0+(i:Int)).toNat,rfl,?_,L _ ⟨_,rfl⟩⟩);unfold col;rw[zza];exact J
 ·show Q (.tup (List.map _ (List.range n)));have e:(List.range n).map (λi:Nat=>cm (sumP (col t (0+(i:Int)).toNat)))=(sums t n).map cm:=by
   unfold sums;rw[zzB];apply zzR;intro i _;show cm (sumP (col t (0+(i:Int)).toNat))=cm (sumP (col t i));congr 3;lia
  rw[e];exact h
noncomputable def kI(ks:List Int):List Key:=ks.map .inl
def kT(ks:List Int):D:=.tup (ks.map .int)
theorem mI(ks:List Int):kT ks=keyD (kI ks):=by unfold keyD kI kT;rw[zzB];rfl
theorem yi{a:List Int}(h:kI a=kI b):a=b:=by unfold kI at h;exact(zwZ (λ_ _ e=>Sum.inl.inj e)).mp h
theorem zr{a:List Int}:(kI a=kI b)↔a=b:=⟨yi,λe=>by rw[e]⟩
theorem yj(ks:List Int):yZ (kI ks):=λx J=>by obtain⟨i,_,rfl⟩:=zzs.mp J;exact⟨i,rfl⟩
noncomputable def addG(k:List Int)(r:Row):List (List Int×List Row)->List (List Int×List Row)
 |[]=>[(k,[r])]|p::t=>if p.1=k then(p.1,p.2++[r])::t else p::addG k r t
noncomputable def grp(ps:List (List Int×Row)):List (List Int×List Row):=ps.foldl (λg p=>addG p.1 p.2 g) []
theorem yk(ps:List (List Int×Row))(p:List Int×Row):grp (ps++[p])=addG p.1 p.2 (grp ps):=by unfold grp;rw[List.foldl_append];rfl
noncomputable def emb(g:List (List Int×List Row)):List (List Key×List D):=g.map λp=>(kI p.1,p.2.map rowD)
noncomputable def embV(g:List (List Int×List Row)):List (List Key×D):=g.map λp=>(kI p.1,.lst (p.2.map rowD))
theorem BN(k:List Int)(r:Row):∀g,qQ (kI k) (rowD r) (emb g)=emb (addG k r g)
 |[]=>rfl|p::t=>by
  show qQ (kI k) (rowD r) ((kI p.1,p.2.map rowD)::emb t)=_;unfold qQ addG;by_cases e:p.1=k
  ·rw[zzn (show (kI p.1,p.2.map rowD).1=kI k by rw[e]),zzn e];simp[emb]
  ·rw[zzi (show ¬(kI p.1,p.2.map rowD).1=kI k from λz=>e (yi z)),zzi e,BN k r t];rfl
theorem nY(k:List Int)(r:Row):∀g:List (List Int×List Row),(addG k r g).map (·.1)=if k∈g.map (·.1) then g.map (·.1) else g.map (·.1)++[k]
 |[]=>rfl|p::t=>by
  unfold addG;by_cases e:p.1=k
  ·rw[zzn e,zzn (by simp[e])];rfl
  ·rw[zzi e,zzh,nY k r t];by_cases m:k∈t.map (·.1)
   ·rw[zzn m,zzn (by rw[zzh];exact zzc _ m),zzh]
   ·rw[zzi m,zzi (by rw[zzh];intro z;rcases zzk.mp z with z|z;exact e z.symm;exact m z),zzh];rfl
structure GOk(C:List Int->Prop)(R:Row->Prop)(n:Nat)(g:List (List Int×List Row)):Prop where
 nd:(g.map (·.1)).Nodup
 it:∀p∈g,C p.1/\p.2≠[]/\p.2.length <= n/\∀r∈p.2,R r
 len:g.length <= n
theorem GOk.add{C:List Int->Prop}{R:Row->Prop}{n:Nat}{g:List (List Int×List Row)}(h:GOk C R n g){k:List Int}{r:Row}(j:C k)(U:R r):GOk C R (n+1) (addG k r g):=by
 refine⟨?_,?_,?_⟩
 ·rw[nY];split
  ·exact h.nd
  ·rename_i m;refine zyK.mpr ⟨h.nd,by simp,λa d b Y e=>?_⟩;rw[zzw.mp Y]at e;exact m (e ▸ d)
 ·have key:∀g:List (List Int×List Row),(∀p∈g,C p.1/\p.2≠[]/\p.2.length <= n/\∀r∈p.2,R r)->∀p∈addG k r g,C p.1/\p.2≠[]/\p.2.length <= n+1/\∀r∈p.2,R r:=by
   intro g
   induction g with
   |nil =>
    intro _ p J;rw[zzw.mp J];exact⟨j,by simp,by simp,λx L=>by rw[zzw.mp L];exact U⟩
   |cons q t l =>
    intro h p J;unfold addG at J;split at J
    ·rcases zzk.mp J with rfl|J
     ·have:=h q zzg;refine⟨this.1,by simp,by simp;exact this.2.2.1,λx L=>?_⟩;rcases zzo.mp L with L|L
      ·exact this.2.2.2 x L
      ·rw[zzw.mp L];exact U
     ·have:=h p (zzc _ J);exact⟨this.1,this.2.1,Nat.le_succ_of_le this.2.2.1,this.2.2.2⟩
    ·rcases zzk.mp J with rfl|J
     ·have:=h p zzg;exact⟨this.1,this.2.1,Nat.le_succ_of_le this.2.2.1,this.2.2.2⟩
     ·exact l (λp J=>h p (zzc _ J)) p J
  exact key g h.it
 ·have:=congrArg List.length (nY k r g);rw[zza]at this;rw[this];split
  ·rw[zza];exact Nat.le_succ_of_le h.len
  ·rw[zzd,zza];simp;exact h.len
theorem Fa{C:List Int->Prop}{R:Row->Prop}:∀(ps:List (List Int×Row)),(∀p∈ps,C p.1/\R p.2)->GOk C R ps.length (grp ps):=by
 intro ps;generalize d:ps.length=n
 induction n generalizing ps with
 |zero =>
  intro _;have:ps=[]:=zzK.mp d;subst this;exact⟨zwU,λp J=>by simp[grp]at J,zya _⟩
 |succ n U =>
  intro h;obtain⟨qs,p,rfl⟩:∃qs p,ps=qs++[p]:=⟨ps.dropLast,ps.getLast (by intro z;rw[z]at d;simp at d),(List.dropLast_concat_getLast _).symm⟩;rw[yk];have J:=h p (by simp);exact(U qs (by simp at d;exact d) λq L=>h q (by simp[L])).add J.1 J.2
noncomputable def dZ(g:List (List Int×List Row))(k:List Int):List Row:=((g.find? λp=>decide (p.1=k)).map (·.2)).getD []
theorem Hq{g:List (List Int×List Row)}{k:List Int}(h:k∈g.map (·.1)):∃p∈g,p.1=k/\dZ g k=p.2/\my (embV g) (kI k)=some (.lst (p.2.map rowD)):=by
 induction g with
 |nil=>simp at h|cons q t L =>
  by_cases e:q.1=k
  ·refine⟨q,zzg,e,?_,?_⟩
   ·unfold dZ;rw[zyo (by simpa using e)];rfl
   ·unfold my embV;rw[zzh,zyo (by simpa[zr]using e)];rfl
  ·have j:k∈t.map (·.1):=by
    rw[zzh]at h;rcases zzk.mp h with h|h
    ·exact absurd h.symm e
    ·exact h
   obtain⟨p,l,n,d,J⟩:=L j;refine⟨p,zzc _ l,n,?_,?_⟩
   ·unfold dZ at d ⊢;rw[zyp (by simpa using e)];exact d
   ·unfold my embV at J ⊢;rw[zzh,zyp (by simpa[zr]using e)];exact J
noncomputable def gw(ks:List (List Int)):List (List Int):=if ks.length<2 then ks else(kRun (λi j=>lexI ((ks.map kI).getD i []) ((ks.map kI).getD j [])) (PySem.W.kas_sort ks.length)).toList.map λi=>ks.getD i []
theorem pM(ks:List (List Int))(i:Nat):(ks.map kI).getD i []=kI (ks.getD i []):=by rw[zzC,zzC,zzu];cases ks[i]?<;>rfl
theorem BO(ks:List (List Int)):srtK (ks.map kI)=(gw ks).map kI:=by
 unfold srtK gw;rw[zza];split
 ·rfl
 ·rw[zzB];apply zzR;intro i _;exact pM ks i
theorem ci(ks:List (List Int)):(gw ks).Perm ks:=by
 unfold gw;split
 ·exact List.Perm.refl _
 ·exact uQ (KGood.end _ _ (fY (by lia)))
def cp(c:List Int×Row):D:=.tup [kT c.1,rowD c.2]
noncomputable def bJ(m:Nat)(ps:List (List Int×Row)):List (List Int×Row):=(gw ((grp ps).map (·.1))).map λk=>(k,sums (dZ (grp ps) k) m)
def nB(r:Row):Prop:=∃c∈r,0<c.1
theorem JO(ds:List D):fzOs (ds.map O.val)=ds:=by
 induction ds with
 |nil=>rfl|cons d r J=>simp only[zzh,fzOs,fzO,J]
theorem Lu(g:List (List Int×List Row)):fzO (dlO (emb g))=.dT ((embV g).map (·.1)) ((embV g).map (·.2)):=by
 unfold dlO emb embV;simp only[fzO];refine congr (congrArg D.dT ?_) ?_
 ·rw[zzB,zzB];rfl
 ·rw[sN,zzB,zzB,zzB];apply zzR;intro p _;simp only[Function.comp,fzO,JO]
theorem BP{l:Nat}{ks:List (List Int)}(g:ks.Nodup)(e:∀k∈ks,k.length=l)(d:2 <= ks.length):∀k∈ks,k≠[]:=by
 intro k n z;subst z;have L:l=0:=(e [] n).symm;subst L
 match ks,g,e,d with
 |a::b::r,g,e,_ =>
  have j:a=[]:=zzK.mp (e a (by simp));have J:b=[]:=zzK.mp (e b (by simp));subst j J;simp at g
 |[_],_,_,d=>simp at d|[],_,_,d=>simp at d
noncomputable def ltI:List Int->List Int->Bool
 |[],[]=>false|[],_::_=>true|_::_,[]=>false|a::r,b::d=>if a=b then ltI r d else decide (a<b)
theorem pN:∀a b:List Int,lexI (kI a) (kI b)=ltI a b
 |[],[]=>rfl|[],_::_=>rfl|_::_,[]=>rfl|a::r,b::d=>by
  show (if a=b then lexI (kI r) (kI d) else decide (a<b))=if a=b then ltI r d else decide (a<b)
  rw[pN r d]
theorem tu:∀a:List Int,ltI a a=false
 |[]=>rfl|a::r=>by show (if a=a then ltI r r else _)=_;rw[zzn rfl];exact tu r
theorem BQ:∀a b c:List Int,ltI a b=true->ltI b c=true->ltI a c=true
 |[],[],_,h,_=>by cases h
 |[],_::_,[],_,h=>by cases h
 |[],_::_,_::_,_,_=>rfl|_::_,[],_,h,_=>by cases h
 |_::_,_::_,[],_,h=>by cases h
 |a::r,b::s,c::t,e,d=>by
  unfold ltI at e d ⊢;by_cases e1:a=b
  ·rw[zzn e1]at e;subst e1;by_cases e2:a=c
   ·rw[zzn e2]at d ⊢;exact BQ r s t e d
   ·rw[zzi e2]at d ⊢;exact d
  ·rw[zzi e1]at e;have e:=zzP e;by_cases e2:b=c
   ·subst e2;rw[zzi e1];exact zzj e
   ·rw[zzi e2]at d;have d:=zzP d;rw[zzi (by lia)];exact zzj (by lia)
theorem Fb{a:List Int}(h:ltI a b=true):ltI b a=false:=by
 cases e:ltI b a with
 |false=>rfl|true =>
  have:=BQ a b a h e;rw[tu]at this;cases this
theorem Fc:∀a b:List Int,a≠b->ltI a b=false->ltI b a=true
 |[],[],h,_=>absurd rfl h|[],_::_,_,h=>by cases h
 |_::_,[],_,_=>rfl|a::r,b::s,h,e=>by
  unfold ltI at e ⊢;by_cases z:a=b
  ·subst z;rw[zzn rfl]at e ⊢;exact Fc r s (λz=>h (by rw[z])) e
  ·rw[zzi z]at e;rw[zzi (Ne.symm z)];have:=zyr e;exact zzj (by lia)
theorem nZ{ks:List (List Int)}(n:ks.Nodup):(gw ks).Pairwise λa b=>ltI a b=true:=by
 unfold gw;by_cases h:ks.length<2
 ·rw[zzn h];rcases ks with _|⟨_,_|_⟩
  ·exact .nil
  ·exact List.pairwise_singleton _ _
  ·simp at h;lia
 ·rw[zzi h];have gd:∀i,i<ks.length->ks[i]? = some (ks.getD i []):=λi d=>by simp[d]
  have O:StrO ks.length (λi j=>lexI ((ks.map kI).getD i []) ((ks.map kI).getD j [])):=by
   refine⟨λi j k _ _ _ g l=>?_,λi j _ _ g=>?_,λi j d J e g=>?_⟩
   ·simp only[pM,pN]at *;exact BQ _ _ _ g l
   ·simp only[pM,pN]at *;exact Fb g
   ·simp only[pM,pN]at *;refine Fc _ _ (λz=>e ?_) g;have e1:ks.getD i []=ks[i]:=by simp[d]
    have e2:ks.getD j []=ks[j]:=by simp[J]
    rw[e1,e2]at z;exact(zwD n).mp z
  have pm:=KGood.end (λi j=>lexI ((ks.map kI).getD i []) ((ks.map kI).getD j [])) _ (fY (N:=ks.length) (by lia));have as:=Dw O (by lia);have sz:=pm.size;generalize kRun (λi j=>lexI ((ks.map kI).getD i []) ((ks.map kI).getD j [])) (PySem.W.kas_sort ks.length)=p at pm as sz;rw[List.pairwise_map,zyA];intro i j d J L;have:=as i j L (by rw[zzF]at J;lia);simp only[pM,pN]at this;rw[zzF]at d J;have e1:p.getD i 0=p[i]:=by simp[Array.getD,d]
  have e2:p.getD j 0=p[j]:=by simp[Array.getD,J]
  rw[e1,e2]at this;simpa using this
theorem Hr:∀{xs ys:List (List Int)},xs.Pairwise (λa b=>ltI a b=true)->ys.Pairwise (λa b=>ltI a b=true)->(∀k,k∈xs↔k∈ys)->xs=ys
 |[],[],_,_,_=>rfl|[],y::ys,_,_,h=>absurd ((h y).mpr zzg) (by simp)|x::xs,[],_,_,h=>absurd ((h x).mp zzg) (by simp)|x::xs,y::ys,n,o,h=>by
  obtain⟨J,j⟩:=zxh.mp n;obtain⟨L,l⟩:=zxh.mp o;have Y:x=y:=by
   rcases zzk.mp ((h x).mp zzg) with e|e
   ·exact e
   ·rcases zzk.mp ((h y).mpr zzg) with U|U
    ·exact U.symm
    ·have a:=L x e;have b:=J y U;rw[Fb a]at b;cases b
  subst Y;have g:∀{zs:List (List Int)},(∀z∈zs,ltI x z=true)->x∉zs:=λq m=>by have:=q x m;rw[tu]at this;cases this
  rw[Hr j l λk=>⟨λd=>?_,λd=>?_⟩]
  ·rcases zzk.mp ((h k).mp (zzc _ d)) with rfl|e
   ·exact absurd d (g J)
   ·exact e
  ·rcases zzk.mp ((h k).mpr (zzc _ d)) with rfl|e
   ·exact absurd d (g L)
   ·exact e
theorem BR(J:xs.Nodup)(L:ys.Nodup)(h:∀k,k∈xs↔k∈ys):gw xs=gw ys :=
 Hr (nZ J) (nZ L) λk=>by rw[(ci xs).mem_iff,(ci ys).mem_iff];exact h k
theorem BS(ps:List (List Int×Row)):((grp ps).map (·.1)).Nodup:=(Fa (C:=λ_=>True) (R:=λ_=>True) ps λ_ _=>⟨trivial,trivial⟩).nd
theorem ym(k:List Int)(r:Row)(d:List Int):∀g:List (List Int×List Row),dZ (addG k r g) d=if k=d then dZ g d++[r] else dZ g d
 |[]=>by
  unfold addG dZ;by_cases e:k=d
  ·rw[zzn e,zyo (by simpa using e)];rfl
  ·rw[zzi e,zyp (by simpa using e)]
 |p::t=>by
  have J:=ym k r d t;unfold addG;unfold dZ at J ⊢;by_cases e:p.1=k
  ·rw[zzn e];by_cases e2:k=d
   ·rw[zzn e2,zyo (by simp[e,e2]),zyo (by simp[e,e2])];rfl
   ·rw[zzi e2,zyp (by simp[e,e2]),zyp (by simp[e,e2])]
  ·rw[zzi e];by_cases e2:p.1=d
   ·rw[zyo (by simpa using e2),zyo (by simpa using e2),zzi (λz=>e (by rw[e2,z]))]
   ·rw[zyp (by simpa using e2),zyp (by simpa using e2)];exact J
theorem mJ(ps:List (List Int×Row))(k:List Int):dZ (grp ps) k=(ps.filter λp=>decide (p.1=k)).map (·.2):=by
 have key:∀(qs:List (List Int×Row)) g,dZ (qs.foldl (λg (p:List Int×Row)=>addG p.1 p.2 g) g) k=dZ g k++(qs.filter λp=>decide (p.1=k)).map (·.2):=by
  intro qs
  induction qs with
  |nil=>intro g;simp|cons q t J =>
   intro g;rw[zwq,J,ym];by_cases e:q.1=k
   ·rw[zzn e,zyI (by simpa using e),zzh,zzO];rfl
   ·rw[zzi e,zyv (by simpa using e)]
 rw[grp,key];rfl
theorem tD(ps:List (List Int×Row))(k:List Int):k∈(grp ps).map (·.1)↔k∈ps.map (·.1):=by
 have key:∀(qs:List (List Int×Row)) g,k∈(qs.foldl (λg (p:List Int×Row)=>addG p.1 p.2 g) g).map (·.1)↔k∈g.map (·.1)∨k∈qs.map (·.1):=by
  intro qs
  induction qs with
  |nil=>intro g;simp|cons q t J =>
   intro g;rw[zwq,J,nY,zzh,zzk];by_cases m:q.1∈g.map (·.1)
   ·rw[zzn m];constructor
    ·rintro(h|h)
     ·exact .inl h
     ·exact .inr (.inr h)
    ·rintro(h|h|h)
     ·exact .inl h
     ·exact .inl (h ▸ m)
     ·exact .inr h
   ·rw[zzi m,zzo,zzw];constructor
    ·rintro((h|h)|h)
     ·exact .inl h
     ·exact .inr (.inl h)
     ·exact .inr (.inr h)
    ·rintro(h|h|h)
     ·exact .inl (.inl h)
     ·exact .inl (.inr h)
     ·exact .inr h
 rw[grp,key];simp
theorem zu(d:∀k,k∈ps.map (·.1)↔k∈qs.map (·.1))(hs:∀k∈ps.map (·.1),sums ((ps.filter λp=>decide (p.1=k)).map (·.2)) m=sums ((qs.filter λp=>decide (p.1=k)).map (·.2)) m):bJ m ps=bJ m qs:=by
 unfold bJ;rw[BR (BS ps) (BS qs) λk=>by rw[tD,tD];exact d k];apply zzR;intro k h;have h:k∈ps.map (·.1):=by rw[(ci _).mem_iff,tD]at h;exact(d k).mpr h
 rw[mJ,mJ,hs k h]
noncomputable def rH(r:Row):Bool:=(r.map λc=>decide (0<c.1)).any id
theorem triedB_iff{r:Row}:rH r=true↔nB r:=by
 unfold rH nB;rw[zwF];constructor
 ·rintro⟨b,J,e⟩;obtain⟨c,d,rfl⟩:=zzs.mp J;exact⟨c,d,by simpa using e⟩
 ·rintro⟨c,d,L⟩;exact⟨true,zzs.mpr ⟨c,d,by simpa using L⟩,rfl⟩
def yn:DSp:=λd Q=>match d with
 |[.tup xs]=>∃r:Row,xs=r.map cm/\r.length <= 1000/\Q (.bl (rH r))|_=>False
theorem zv:bb yn:=λds P P' f h=>by
 unfold yn at h ⊢;split at h
 ·obtain⟨r,a,b,h⟩:=h;exact⟨r,a,b,f _ h⟩
 ·exact h.elim
theorem zw(T:Tx K mg):FnOk P w K mg base CX0 1 T.nj T.jV ["counts"] (spD K 1 yn):=by
 refine fnD (k:=0) T.mP.F wN (λcdv A outer s H E hr=>(af (aA (aj Jt rfl T.Kg PyProof.Rows.boot_any (aa (ao (PCD.pld (aH (N':=["count"]) rfl rfl (by decide +kernel) rfl (.own .nil) (by decide +kernel) (xO (dv 0)) (λB=>(dgb 0)) (λB=>aM) (λB=>(gc nL (dix (dv 0) ae) ae (ay _)))))) ac))))) (λds Q d h=>?_);unfold yn at h;split at h
 case h_2=>exact h.elim
 obtain⟨r,rfl,d,h⟩:=h;refine aP (D.bl ∘ λc=>decide (0<c.1)) (λe=>∃s,e=[s]) (zzq d (by decide)) (λc _ e Y Z g J=>?_) _ ⟨_,rfl⟩ ?_
 ·obtain⟨s,rfl⟩:=g;exact Br.t (J _ ⟨_,rfl⟩)
 ·rw[←zzB];exact mq h
noncomputable def gath(n:Nat)(ps:List (List Int×Row)):List (List Int×Row):=(bJ n ps).filter λc=>rH c.2
def vq:DSpN:=λd _ L=>match d with
 |[.int m,.lst xs]=>∃(n:Nat) (ps:List (List Int×Row)) (l:Nat),m=n/\xs=ps.map cp/\(n <= 6/\ps.length <= 60/\∀p∈ps,p.1.length=l/\RowN 110 n p.2)/\L ((gath n ps).map cp)|_=>False
theorem pO:Jp vq:=λds P P' L L' f J h=>by
 unfold vq at h ⊢;split at h
 ·obtain⟨n,ps,l,a,b,c,h⟩:=h;exact⟨n,ps,l,a,b,c,J _ h⟩
 ·exact h.elim
theorem wQ(T:Tx K mg):FnOk P w K mg base CX0 3 T.ji T.gD ["many","pairs"] (spDN K 2 vq):=by
 refine fnDN (k:=2) T.mV.F sc_gathered (λcdv A outer s H E x=>(xX (Bv (i:=2) sc_gathered.nd rfl (by first|exact Or.inl rfl|exact Or.inr rfl))
   (GV (cI zyc rfl (aR (dv 1)) (eV (n:=2) rfl (aC (dgn 3 sc_gathered.nd) (aC (dgn 4 sc_gathered.nd) cr))) (af (JA x (pv 2) (pv 3) (pv 4))))
   (xX (jH (i:=5) sc_gathered.nd rfl rfl (aH (N':=["kinds","many","found"]) rfl rfl (by decide +kernel) rfl (.own (.cap (j:=0) rfl (by first|exact Or.inl rfl|exact Or.inr rfl) rfl (.cap (j:=2) rfl (by first|exact Or.inl rfl|exact Or.inr rfl) rfl .nil))) (by decide +kernel) (aR (aj xZ rfl T.tY (by decide +kernel) (aa (dv 2) ac))) (λB=>(dgb 0)) (λB=>aM) (λB=>(bA (aa (dv 0) (aa (dcl T.bX (jR T) jQ x (aa (dv 1) (aa (EV x (dv 2) (dv 0) (λ_ _=>rfl)) ac))) ac))))))
   (GU (PCD.pld (aH (N':=["cell"]) rfl rfl (by decide +kernel) rfl (.own .nil) (by decide +kernel) (aR (dv 5)) (λB=>(dgb 0)) (λB=>(sR (br (dcl T.mP (zw T) zv x (aa (dix (dv 0) ae) ac))))) (λB=>(dv 0))))))))) (λds Q L hl h=>?_)
 unfold vq at h;split at h
 case h_2=>exact h.elim
 obtain⟨n,ps,l,rfl,rfl,⟨n6,a2,a6⟩,h⟩:=h;have a0:∀qs:List (List Int×Row),(∀p∈qs,p∈ps)->GOk (λk=>k.length=l) (λr=>RowN 110 n r) qs.length (grp qs):=λqs I=>Fa qs λp C=>a6 p (I p C);refine⟨λg=>∃a b:Sl,g=[.val (.int n),.val (.lst (ps.map cp)),.obj (dlO (emb (grp ps))),a,b,.nil],?_,?_⟩
 ·refine bS (λpre g=>∃u m:List (List Int×Row),ps=u++m/\pre=u.map cp/\∃a b:Sl,g=[.val (.int n),.val (.lst (ps.map cp)),.obj (dlO (emb (grp u))),a,b,.nil]) (λg o=>?_) (λpre d post g X e o hX=>?_) _ ⟨[],ps,rfl,rfl,_,_,rfl⟩
  ·obtain⟨u,m,rfl,e,a,b,rfl⟩:=o;have:m=[]:=by
    have:=congrArg List.length e;simp at this;exact this
   subst this;rw[zzv];exact⟨a,b,rfl⟩
  ·obtain⟨u,m,rfl,rfl,a,b,rfl⟩:=o;rw[zze]at e;have e:=zzN e;cases m with
   |nil=>simp at e|cons p m =>
    rw[zzh]at e;injection e with e1 e2;subst e1;have go:=a0 u λq I=>by simp[I]
    have pl:u.length <= 60:=by rw[zzd]at a2;lia
    refine⟨rfl,emb (grp u),kI p.1,rowD p.2,rfl,?_,rfl,?_,λq I=>?_,hX _ ⟨u++[p],m,by simp,by simp,_,_,by rw[BN,←yk];rfl⟩⟩
    ·show Sl.val (kT p.1)=_;rw[mI]
    ·unfold emb;rw[zza];exact zzG (show (grp u).length <= 60 from zzq go.len pl) (by decide)
    ·obtain⟨q',a7,rfl⟩:=zzs.mp I;rw[zza];exact zzG (show q'.2.length <= 60 from zzq (go.it q' a7).2.2.1 pl) (by decide)
 ·rintro _ ⟨a,b,rfl⟩;have go:=a0 ps λq I=>I;have v:(emb (grp ps)).map (·.1)=((grp ps).map (·.1)).map kI:=by unfold emb;rw[zzB,zzB];rfl
  have kl:((grp ps).map (·.1)).length <= 60:=by rw[zza];exact zzq go.len a2
  have a8:∀k∈(grp ps).map (·.1),k.length=l:=λk v=>by obtain⟨p,C,rfl⟩:=zzs.mp v;exact(go.it p C).1
  have sl:(gw ((grp ps).map (·.1))).length <= 60:=by rw[(ci _).length_eq];exact kl
  refine⟨⟨λk U=>?_,λh2 k U=>?_,?_⟩,?_⟩
  ·rw[v]at U;obtain⟨k',_,rfl⟩:=zzs.mp U;exact yj k'
  ·rw[v]at h2 U;rw[zza]at h2;obtain⟨k',a5,rfl⟩:=zzs.mp U;intro z;exact BP go.nd a8 h2 k' a5 (yi (b:=[]) z)
  ·rw[v,zza];lia
  ·have e1:(srtK ((emb (grp ps)).map (·.1))).map keyD=(gw ((grp ps).map (·.1))).map kT:=by
    rw[v,BO,zzB];apply zzR;intro k _;exact(mI k).symm
   show dl _ _ _ ((srtK ((emb (grp ps)).map (·.1))).map keyD) _ _ _;rw[e1];refine bn (λpre J g=>∃M N:List (List Int),gw ((grp ps).map (·.1))=M++N/\pre=M.map kT/\J=(M.map λk=>(k,sums (dZ (grp ps) k) n)).map cp/\∃s:Sl,g=[s,.val (.int n),.val (fzO (dlO (emb (grp ps))))]) (λJ g o=>?_) (λpre d post J g Y e o hY=>?_) _ ⟨[],_,rfl,rfl,rfl,_,rfl⟩
   ·obtain⟨M,N,e,e2,rfl,s,rfl⟩:=o;have:N=[]:=by
     have:=congrArg List.length e2;rw[e]at this;simp at this;exact this
    subst this;rw[zzv]at e;rw[←e];have a3:((gw ((grp ps).map (·.1))).map λk=>(k,sums (dZ (grp ps) k) n))=bJ n ps:=rfl;rw[a3];have a9:(bJ n ps).length <= 60:=by unfold bJ;rw[zza];exact sl
    refine bn (λpre J g=>∃G y:List (List Int×Row),bJ n ps=G++y/\pre=G.map cp/\J=(G.filter λc=>rH c.2).map cp/\∃s:Sl,g=[s]) (λJ g o=>?_) (λpre d post J g Y e o hY=>?_) _ ⟨[],_,rfl,rfl,rfl,_,rfl⟩
    ·obtain⟨G,y,e3,e4,rfl,s,rfl⟩:=o;have:y=[]:=by
      have:=congrArg List.length e4;rw[e3]at this;simp at this;exact this
     subst this;rw[zzv]at e3;rw[←e3];exact h
    ·obtain⟨G,y,e3,rfl,rfl,s,rfl⟩:=o;rw[e3,zze]at e;have e:=zzN e;cases y with
     |nil=>simp at e|cons c y =>
      rw[zzh]at e;injection e with e1 e2;subst e1;rw[e3,zzd]at a9;have hc:c∈bJ n ps:=by rw[e3];simp
      have a4:c.2.length <= 1000:=by obtain⟨k,_,rfl⟩:=zzs.mp hc;show (sums _ n).length <= 1000;unfold sums;rw[zza,List.length_range];lia
      refine⟨rfl,c.2,rfl,a4,?_⟩;cases z:rH c.2 with
      |true =>
       refine Br.t ⟨?_,hY _ _ ⟨G++[c],y,by rw[e3];simp,by simp,by rw[zyQ,zyI (by simpa using z)];simp,_,rfl⟩⟩;rw[zza];exact zzG (show _ <= 60 from zzq (zwg _ _) (by lia)) (by decide)
      |false=>exact Br.f (hY _ _ ⟨G++[c],y,by rw[e3];simp,by simp,by rw[zyQ,zyv (by simp[z])];simp,_,rfl⟩)
   ·obtain⟨M,N,e3,rfl,rfl,s,rfl⟩:=o;rw[e3,zze]at e;have e:=zzN e;cases N with
    |nil=>simp at e|cons k N =>
     rw[zzh]at e;injection e with e1 e2;subst e1;have U:k∈gw ((grp ps).map (·.1)):=by rw[e3];simp
     obtain⟨p,C,_,h3,h4⟩:=Hq ((ci _).mem_iff.mp U);have gp:=go.it p C;rw[e3,zzd]at sl;refine Br.t ⟨embV (grp ps),kI k,.lst (p.2.map rowD),Lu _,mI k,h4,rfl,n,p.2,rfl,rfl,⟨n6,zzq gp.2.2.1 (by lia),λr x=>(gp.2.2.2 r x).up⟩,sz,?_,hY _ _ ⟨M++[k],N,by rw[e3];simp,by simp,by rw[zze,zze,←h3];rfl,_,rfl⟩⟩;rw[zza,zza];exact zzG (show M.length <= 60 by lia) (by decide)
def JP:DSp:=λd Q=>vq d Q λe=>Q (.lst e)
theorem zx:bb JP:=λds P P' f h=>pO _ _ _ _ _ f (λes q=>f _ q) h
theorem zy(T:Tx K mg):FnOk P w K mg base CX0 3 T.ji T.gD ["many","pairs"] (spD K 2 JP):=DL.FnOk.asD (wQ T) (λds Q h=>h) pO
noncomputable def kU(lo hi:Nat)(x:Str):Bool:=x.cps.toList.all λc=>decide (lo <= c) && decide (c <= hi)
theorem BU(a c:Nat):(!decide ([c] < [a]))=decide (a <= c):=by
 by_cases h:a <= c
 ·rw[zzj h,zzl]
  ·rfl
  ·intro z;cases z with
   |rel z=>exact absurd z (by lia)|cons z=>cases z
 ·rw[zzl h,zzj]
  ·rfl
  ·exact .rel (by lia)
theorem rJ{a b:Nat}{s:Sl}(U:x.length <= 100000)(L:Q (x.cps.toList.map λc=>D.bl (decide (a <= c) && decide (c <= b)))) :
  dl (cH 0) cJ (rq (g2S (λ_ _=>True) λi j=>D.bl !decide (j.cps.toList<i.cps.toList)) (g2S (λ_ _=>True) λi j=>D.bl !decide (j.cps.toList<i.cps.toList)) (dC (.str ⟨#[a]⟩)) (dVar 0) (dC (.str ⟨#[b]⟩))) (je x) [] [s] Q:=by
 unfold je;refine aP _ (λd=>∃s,d=[s]) (by rw[zzF];exact zzq U (by decide)) (λc _ d Y Z g J=>?_) _ ⟨_,rfl⟩ L;obtain⟨s,rfl⟩:=g;refine Br.t ⟨trivial,?_⟩;show Br (!decide ([c] < [a])) _ _;rw[BU];have:=J [.val (.str ⟨#[c]⟩)] ⟨_,rfl⟩;refine⟨λe=>⟨trivial,?_⟩,λe=>?_⟩
 ·show Y (.bl (!decide ([b] < [c]))) _;simp only[e,zyJ]at this;rw[BU];exact this
 ·simp only[e,zwe]at this;exact this
noncomputable def isNm(x:Str):Bool:=decide (1 <= x.length) && decide (x.length <= 8) && kU 97 122 x
theorem vt{a b:Nat}{P:D->Prop}(h:P (.bl (kU a b x))):gTru (λbs=>bs.all id) [.lst (x.cps.toList.map λc=>D.bl (decide (a <= c) && decide (c <= b)))] P:=by
 have:=mq (f:=λbs=>bs.all id) (bs:=x.cps.toList.map λc=>decide (a <= c) && decide (c <= b)) (P:=P) (by rw[List.all_map];exact h)
 rw[zzB]at this;exact this
def gName:DSp:=λd Q=>∃x:Str,d=[.str x]/\x.length <= 100000/\Q (.bl (isNm x))
theorem vv:bb gName:=by rintro ds P P' f ⟨x,a,b,h⟩;exact⟨x,a,b,f _ h⟩
theorem vw(T:Tx K mg):FnOk P w K mg base CX0 1 T.qD T.mX ["word"] (spD K 1 gName):=by
 refine fnD (k:=0) T.lM.F zj (λcdv A outer s H E hr=>(af (aA (oZ (kM qO qO ae (aj gv rfl T.ba zzA (aa (dv 0) ac)) (jd rfl T.iY)) (oY (aj xY rfl T.CF PyProof.Rows.boot_all (aa (ao (PCD.pld (aH (N':=["sign"]) rfl rfl (by decide +kernel) rfl (.own .nil) (by decide +kernel) (yd (dv 0)) (λB=>(dgb 0)) (λB=>aM) (λB=>(kM yc yc al (dv 0) al))))) ac))))))) (λds Q hl h=>?_);obtain⟨x,rfl,J,h⟩:=h;unfold isNm at h;refine⟨(show x.length <= sizeLine from zzq J (by decide)),λe1=>⟨λe2=>?_,λe2=>?_⟩,λe1=>Br.f ?_⟩
 ·rw[zzj (p:=1 <= x.length) (by have:=zzP e1;lia),zzj (p:=x.length <= 8) (by have:=zzP e2;lia)]at h;exact⟨x,rfl,rJ J (vt h)⟩
 ·rw[zzl (p:=x.length <= 8) (by have:=zyr e2;lia),Bool.and_false]at h;exact h
 ·rw[zzl (p:=1 <= x.length) (by have:=zyr e1;lia)]at h;exact h
theorem eu{i j:Str}:eqD (.str i) (.str j)=decide (i=j):=by show (i == j)=_;by_cases h:i=j<;>simp[h]
structure TxOk(x:Str):Prop where
 le:x.length <= 100000
 ok:PyData.strOk x=true
theorem aV(h:PyData.strOk x=true):shp (.str x)=true:=by show (true && (PyData.strOk x && decide (0 <= 64)))=true;rw[h];rfl
theorem ok1(h:c<1114112):PyData.strOk ⟨#[c]⟩=true:=by simp[PyData.strOk,h]
theorem JQ(h:PyData.strOk x=true)(d:c∈x.cps.toList):c<1114112:=by have:=zxd.mp h c (zxi.mp d);simpa using this
def zA:Str:=Str.ofString "0"
theorem at0(h:1 <= z.length):∃c,atI z.cps.toList 0=some c/\z.cps.toList.head? = some c:=by obtain⟨d,e1,e2⟩:=xR (xs:=z.cps.toList) (r:=0) (zye 0) (by rw[zzF];have:z.length=z.cps.size:=rfl;lia);exact⟨d,e1,by rw[List.head?_eq_getElem?];exact e2⟩
theorem one_eq{d:Nat}:((⟨#[c]⟩:Str)=⟨#[d]⟩)↔c=d:=⟨λh=>by injection h with h;simpa using h,λh=>by rw[h]⟩
noncomputable def ir(x:Str):Bool:=decide (1 <= x.length) && decide (x.length <= 30) && kU 48 57 x && (decide (x=zA) || !decide (x.cps.toList.head? = some 48))
def gNum:DSp:=λd Q=>∃x:Str,d=[.str x]/\TxOk x/\Q (.bl (ir x))
theorem pP:bb gNum:=by rintro ds P P' f ⟨x,a,b,h⟩;exact⟨x,a,b,f _ h⟩
theorem pQ(T:Tx K mg):FnOk P w K mg base CX0 1 T.kd T.iL ["word"] (spD K 1 gNum):=by
 refine fnD (k:=0) T.gP.F vn (λcdv A outer s H E Y=>(ad (aI (PWD.pt (cX (bQ (xM qO qO ae (aj gv rfl T.ba zzA (aa (dv 0) ac)) (jd rfl T.iP))) (bR (bQ (br (aj xY rfl T.CF PyProof.Rows.boot_all (aa (ao (PCD.pld (aH (N':=["sign"]) rfl rfl (by decide +kernel) rfl (.own .nil) (by decide +kernel) (yd (dv 0)) (λB=>(dgb 0)) (λB=>aM) (λB=>(kM yc yc al (dv 0) al))))) ac))))))) (af (aA gr)) aw)
   (af (aA (Ja (gc (cY Y) (dv 0) al (ay _)) (oY (gc (nO Y) (ve (dv 0) ae (λ_ _=>rfl)) al (ay _)))))))) (λds Q hl h=>?_)
 obtain⟨x,rfl,⟨e,d⟩,h⟩:=h;unfold ir at h;have g:x.length <= sizeLine:=zzq e (by decide);refine⟨g,λe1=>?_,λe1=>Br.t (Br.t ?_)⟩
 ·have e1:=zzP e1;rw[zzj (p:=1 <= x.length) (by lia)]at h;by_cases e2:x.length <= 30
  ·rw[zzj e2]at h;have e3:decide (((x.length:Nat):Int) <= 30)=true:=zzj (by lia);show Br (!decide (((x.length:Nat):Int) <= 30)) _ _;rw[e3];refine Br.f ⟨x,rfl,rJ e (vt ?_)⟩;show Br (!kU 48 57 x) _ _;cases U:kU 48 57 x with
   |false =>
    rw[U]at h;exact Br.t h
   |true =>
    rw[U]at h;refine Br.f ⟨⟨aV d,aV (by decide +kernel)⟩,?_⟩;show Br (eqD (.str x) (.str zA)) _ _;rw[eu];refine⟨λJ=>?_,λJ=>?_⟩
    ·rw[J]at h;exact h
    ·rw[J]at h;obtain⟨c,j,L⟩:=at0 (z:=x) (by lia);refine⟨g,c,j,⟨aV (ok1 (JQ d (List.mem_of_mem_head? L))),aV (by decide +kernel)⟩,?_⟩;show Q (.bl (!eqD (.str ⟨#[c]⟩) (.str ⟨#[48]⟩)));rw[eu];rw[L]at h;have:decide ((⟨#[c]⟩:Str)=⟨#[48]⟩)=decide (some c=some 48):=by
      by_cases q:c=48
      ·subst q;simp
      ·rw[zzl (λz=>q (one_eq.mp z)),zzl (λz=>q (zzV z))]
     rw[this];exact h
  ·rw[zzl e2]at h;have e3:decide (((x.length:Nat):Int) <= 30)=false:=zzl (by lia);show Br (!decide (((x.length:Nat):Int) <= 30)) _ _;rw[e3];exact Br.t (Br.t h)
 ·have e1:=zyr e1;rw[zzl (p:=1 <= x.length) (by lia)]at h;exact h
noncomputable def nmsB(ws:List Str):Bool:=ws.all isNm && decide ((metS ws).length=ws.length)
def Fd:DSp:=λd Q=>∃ws:List Str,d=[.lst (ws.map .str)]/\ws.length <= 1000/\(∀x∈ws,x.length <= 100000)/\Q (.bl (nmsB ws))
theorem pR:bb Fd:=by rintro ds P P' f ⟨x,a,b,c,h⟩;exact⟨x,a,b,c,f _ h⟩
theorem pS(T:Tx K mg):FnOk P w K mg base CX0 2 T.kj T.iM ["words"] (spD K 1 Fd):=by
 refine fnD (k:=1) T.gE.F vm (λcdv A outer s H E J=>(af (aA (oZ (aj xY rfl T.CF PyProof.Rows.boot_all (aa (ao (PCD.pld (aH (N':=["word"]) rfl rfl (by decide +kernel) rfl (.own .nil) (by decide +kernel) (aR (dv 0)) (λB=>(dgb 0)) (λB=>aM) (λB=>(dcl T.lM (vw T) vv J (aa (dv 0) ac)))))) ac)) (oY (gc (cY J) (zh rfl rfl T.ba rfl T.Kh (dv 0)) (aj aX rfl T.ba zzA (aa (dv 0) ac)) (ay _))))))) (λds Q d h=>?_);obtain⟨ws,rfl,d,U,h⟩:=h;refine aP (D.bl ∘ isNm) (λe=>∃s,e=[s]) (zzq d (by decide)) (λx j e Y Z g L=>?_) _ ⟨_,rfl⟩ ?_
 ·obtain⟨s,rfl⟩:=g;exact Br.t ⟨rfl,x,rfl,U x j,L _ ⟨_,rfl⟩⟩
 ·rw[←zzB];refine mq ?_;unfold nmsB at h;show Br ((ws.map isNm).all id) _ _;rw[List.all_map];refine⟨λe1=>⟨ws,rfl,d,⟨rfl,rfl⟩,?_⟩,λe1=>?_⟩
  ·rw[show ws.all isNm=true from e1,zyJ]at h;show Q (.bl (eqD (.int _) (.int _)));rw[bB,zza];have:decide (((metS ws).length:Int)=(ws.length:Int))=decide ((metS ws).length=ws.length):=by
    by_cases q:(metS ws).length=ws.length
    ·rw[zzj q,zzj (by lia)]
    ·rw[zzl q,zzl (by lia)]
   rw[this];exact h
  ·rw[show ws.all isNm=false from e1,zwe]at h;exact h
theorem cy(f:α->D)(k:Nat)(ws:List α)(h:k <= ws.length):cutD (ws.map f) (some (k:Int)) none=(ws.drop k).map f:=by unfold cutD;rw[HT.sIx_none,HT.sIx_nat,zza,zxR h,←List.map_drop,zxr (by simp)]
def aB:Str:=Str.ofString "houses"
def cL:Str:=Str.ofString "mark"
def fJ:Str:=Str.ofString "case"
noncomputable def hlB(w:Str)(r:List Str):Bool:=decide (w=aB) && (decide (2 <= r.length) && decide (r.length <= 6)) && nmsB r
def gHl:DSp:=λd Q=>∃(w:Str) (r:List Str),d=[.lst ((w::r).map .str)]/\r.length <= 200000/\TxOk w/\(∀x∈r,TxOk x)/\Q (.bl (hlB w r))
theorem gX:bb gHl:=by rintro ds P P' f ⟨x,r,a,b,c,d,h⟩;exact⟨x,r,a,b,c,d,f _ h⟩
theorem gY(T:Tx K mg):FnOk P w K mg base CX0 3 T.dD T.cN ["words"] (spD K 1 gHl):=by
 refine fnD (k:=2) T.bU.F mE (λcdv A outer s H E J=>(af (aA (oZ (gc (cY J) (dix (dv 0) ae) al (ay _)) (oZ (kM qO qO (jd rfl T.iK) (bc Bc (aj aX rfl T.ba zzA (aa (dv 0) ac)) ae) (jd rfl T.jA)) (oY (dcl T.gE (pS T) pR J (aa (ao (dJ (dv 0) (aS ae) bj)) ac)))))))) (λds Q hl h=>?_);obtain⟨x,r,rfl,J,U,L,h⟩:=h;unfold hlB at h;refine aK (d:=.str x) (zye 0) rfl ⟨⟨aV U.ok,aV (by decide +kernel)⟩,?_⟩;show Br (eqD (.str x) (.str aB)) _ _;rw[eu];refine⟨λe1=>?_,λe1=>?_⟩
 ·rw[e1,zyJ]at h;have el:(((((x::r).map D.str).length:Nat):Int) - 1)=(r.length:Int):=by rw[zza,zzm];lia
  refine⟨λe2=>⟨λe3=>?_,λe3=>?_⟩,λe2=>Br.f ?_⟩
  ·have e2:=zzP e2;have e3:=zzP e3;rw[zzj (p:=2 <= r.length) (by lia),zzj (p:=r.length <= 6) (by lia)]at h;refine⟨rfl,r,?_,by lia,λy Y=>(L y Y).le,h⟩;have:=cy D.str 1 (x::r) (by simp);exact congrArg (λz=>[D.lst z]) this
  ·have e3:=zyr e3;rw[zzl (p:=r.length <= 6) (by lia),Bool.and_false]at h;exact h
  ·have e2:=zyr e2;rw[zzl (p:=2 <= r.length) (by lia)]at h;exact h
 ·rw[e1]at h;exact h
theorem bD(ws:List Str):(ws.map D.str).all ij=true:=by rw[List.all_map];exact zyw.mpr λ_ _=>rfl
theorem tE{b:Str}:eqF (.str a) (.str b)=decide (a=b):=by show (a == b)=_;by_cases h:a=b<;>simp[h]
theorem jS{n:Str}:((ws.map D.str).any λy=>eqF y (.str n))=decide (n∈ws):=by
 rw[List.any_map];by_cases h:n∈ws
 ·rw[zzj h];exact zwF.mpr ⟨n,h,by show eqF (.str n) (.str n)=true;rw[tE];simp⟩
 ·rw[zzl h];refine List.any_eq_false.mpr λy J=>?_;show ¬(eqF (.str y) (.str n)=true);rw[tE];intro z;have:=zzP z;subst this;exact h J
noncomputable def mlB(taken:List Str):List Str->Bool
 |w::n::r=>decide (w=cL) && (decide (1 <= r.length) && decide (r.length <= 6)) && isNm n && !decide (n∈taken) && nmsB r|_=>false
def gMl:DSp:=λd Q=>∃(ws taken:List Str),d=[.lst (ws.map .str),.lst (taken.map .str)]/\ws≠[]/\ws.length <= 200000/\(∀x∈ws,TxOk x)/\Q (.bl (mlB taken ws))
theorem qR:bb gMl:=by rintro ds P P' f ⟨x,r,a,b,c,d,h⟩;exact⟨x,r,a,b,c,d,f _ h⟩
theorem qS(T:Tx K mg):FnOk P w K mg base CX0 3 T.fK T.eO ["words","taken"] (spD K 2 gMl):=by
 refine fnD (k:=2) T.fO.F pH (λcdv A outer s H E J=>(ad (aI (PWD.pt (cX (az (nO J) (dix (dv 0) ae) al (ay _)) (bR (bQ (xM qO qO ae (bc Bc (aj aX rfl T.ba zzA (aa (dv 0) ac)) ae) (jd rfl T.lI)))))) (af (aA gr)) aw)
   (af (aA (oZ (dcl T.lM (vw T) vv J (aa (dix (dv 0) ae) ac)) (oZ (gc kP (dix (dv 0) ae) (dv 1) rfl) (oY (dcl T.gE (pS T) pR J (aa (ao (dJ (dv 0) (aS ae) bj)) ac))))))))) (λds Q hl h=>?_)
 obtain⟨ws,e,rfl,Y,J,g,h⟩:=h;cases ws with
 |nil=>exact absurd rfl Y|cons x r =>
 refine aK (d:=.str x) (zye 0) rfl ⟨⟨aV (g x (by simp)).ok,aV (by decide +kernel)⟩,?_⟩;show Br (!eqD (.str x) (.str cL)) _ _;rw[eu];by_cases e1:x=cL
 ·rw[zzj e1];refine Br.f ?_;have j:((((x::r).map D.str).length:Nat):Int)=(r.length:Int)+1:=by rw[zza,zzm];lia
  refine⟨λe2=>?_,λe2=>Br.t ?_⟩
  ·have e2:=zzP e2;cases r with
   |nil=>exact absurd e2 (by simp)|cons n r =>
    change Q (.bl (decide (x=cL) && (decide (1 <= r.length) && decide (r.length <= 6)) && isNm n && !decide (n∈e) && nmsB r)) at h;rw[zzj e1,zyJ]at h;have j:((((x::n::r).map D.str).length:Nat):Int) - 2=(r.length:Int):=by rw[zza,zzm,zzm];lia
    rw[zzj (p:=1 <= r.length) (by lia),zyJ]at h;by_cases e3:r.length <= 6
    ·rw[zzj e3,zyJ]at h;show Br (!decide (((((x::n::r).map D.str).length:Nat):Int) - 2 <= 6)) _ _;rw[zzj (p:=((((x::n::r).map D.str).length:Nat):Int) - 2 <= 6) (by lia)];have o:=g n (by simp);refine Br.f (aK (d:=.str n) (r:=1) (by decide) rfl ⟨rfl,n,rfl,o.le,?_⟩);refine⟨λL=>?_,λL=>?_⟩
     ·rw[L,zyJ]at h;refine aK (d:=.str n) (r:=1) (by decide) rfl ⟨⟨rfl,bD e⟩,?_⟩;rw[jS];refine⟨λU=>?_,λU=>?_⟩
      ·rw[show (!decide (n∈e))=true from U,zyJ]at h;refine⟨rfl,r,?_,by lia,λy l=>(g y (by simp[l])).le,h⟩;have:=cy D.str 2 (x::n::r) (by simp);exact congrArg (λz=>[D.lst z]) this
      ·rw[show (!decide (n∈e))=false from U,zwe]at h;exact h
     ·rw[L,zwe,zwe]at h;exact h
    ·rw[zzl e3]at h;show Br (!decide (((((x::n::r).map D.str).length:Nat):Int) - 2 <= 6)) _ _;rw[zzl (p:=((((x::n::r).map D.str).length:Nat):Int) - 2 <= 6) (by lia)];exact Br.t h
  ·have e2:=zyr e2;cases r with
   |nil=>exact h|cons n r =>
    change Q (.bl (decide (x=cL) && (decide (1 <= r.length) && decide (r.length <= 6)) && isNm n && !decide (n∈e) && nmsB r)) at h;have j:((((x::n::r).map D.str).length:Nat):Int) - 2=(r.length:Int):=by rw[zza,zzm,zzm];lia
    rw[zzl (p:=1 <= r.length) (by lia)]at h;simpa using h
 ·rw[zzl e1];refine Br.t (Br.t ?_);cases r with
  |nil=>exact h|cons n r =>
   change Q (.bl (decide (x=cL) && (decide (1 <= r.length) && decide (r.length <= 6)) && isNm n && !decide (n∈e) && nmsB r)) at h;rw[zzl e1]at h;simpa using h
theorem BV[Frm]{X:Cx}{xi:XI}(hs:X.stack=X.env::X.outer)(J:X.env.frame=some X.env.locals):PassesOwn (model X.prog X.w) X.A X.env (XF X (WLA xi X.K)):=λe d h=>by obtain⟨ea,C,dd,B,σ,H,a,b,c,I,f⟩:=id h;exact IG (M:=model X.prog X.w) (A':=X.A) (A:=X.A) I.ok.frames hs J e d h
structure Rt where
 h:Int
 ks:List Int
 t:Int
 w:Int
noncomputable def rtD(r:Rt):D:=.tup [.int r.h,.tup (r.ks.map .int),.int r.t,.int r.w]
def BW:DSp:=λd Q=>∃r o:Rt,d=[rtD r,rtD o]/\Q (.bl (gtP r.ks r.h o.ks o.h))
theorem wR:bb BW:=by rintro ds P P' f ⟨x,r,a,h⟩;exact⟨x,r,a,f _ h⟩
theorem wS(T:Tx K mg):FnOk P w K mg base CX0 1 T.kh T.iF ["row","other"] (spD K 2 BW):=by refine fnD (k:=0) T.kq.F vj (λcdv A outer s H E J=>(af (aA (gc (JG J) (bA (aa (dix (dv 0) ae) (aa (dix (dv 0) ae) ac))) (bA (aa (dix (dv 1) ae) (aa (dix (dv 1) ae) ac))) (ay _))))) (λds Q hl h=>?_);obtain⟨r,o,rfl,h⟩:=h;exact⟨sz,sz,r.ks,r.h,o.ks,o.h,⟨rfl,rfl⟩,h⟩
abbrev Mk:=Str×List Str
variable{ms:List Mk}
noncomputable abbrev mkD(m:Mk):D:=.tup [.str m.1,.lst (m.2.map .str)]
noncomputable abbrev nmD(hs:List Str)(ms:List Mk):D:=.tup [.lst (hs.map .str),.lst (ms.map mkD)]
def plc(x:Str)(ws:List Str):Nat:=ws.findIdx λy=>decide (y=x)
structure CsOk(hs:List Str)(ms:List Mk)(hn:Str)(kw:List Str)(a b:Str)(t w:Nat):Prop where
 hh:hn∈hs
 kl:kw.length=ms.length
 kk:∀(i:Nat) (x:Str) (m:Mk),kw[i]? = some x->ms[i]? = some m->x∈m.2
 na:ir a=true
 nb:ir b=true
 ta:intText? a=some (t:Int)
 tb:intText? b=some (w:Int)
 t0:0<t
 tw:w <= t
 oa:TxOk a
 ob:TxOk b
def kpl(kw:List Str)(ms:List Mk):List Int:=(kw.zip ms).map λp=>(plc p.1 p.2.2:Int)
theorem rK{xs:List α}{k:Nat}(hk:0<k){d:α}(hl:k <= xs.length)(e:xs[xs.length - k]? = some d):atI xs (-(k:Int))=some d:=by unfold atI ixN;rw[zzi (by lia),zzn (by lia),show (-(k:Int)+xs.length).toNat=xs.length - k by lia];exact e
theorem vx(h:ir x=true):x.length <= 30:=by unfold ir at h;simp only[zzX,zyb]at h;exact h.1.1.2
theorem og(h:x∈ws):(∃z,(ws.map D.str)[plc x ws]? = some z/\eqF z (.str x)=true)/\∀m z,m<plc x ws->(ws.map D.str)[m]? = some z->eqF z (.str x)=false:=by
 have d:plc x ws<ws.length:=zxe ⟨x,h,by simp⟩;refine⟨⟨.str ws[plc x ws],by rw[zzu,zzt d];rfl,?_⟩,λm z g e=>?_⟩
 ·rw[tE];exact zwL (p:=λy=>decide (y=x)) (w:=d)
 ·rw[zzu]at e;obtain⟨y,L,rfl⟩:=zxV.mp e;rw[tE];have J:m<ws.length:=by lia
  rw[zzt J]at L;cases L;have:=List.not_of_lt_findIdx (p:=λy=>decide (y=x)) g;simpa using this
structure Cs where
 hn:Str
 kw:List Str
 a:Str
 b:Str
 t:Nat
 w:Nat
noncomputable def Cs.ln(c:Cs):List Str:=fJ::c.hn::c.kw++[c.a,c.b]
noncomputable def Cs.rt(hs:List Str)(ms:List Mk)(c:Cs):Rt:=⟨plc c.hn hs,kpl c.kw ms,c.t,c.w⟩
abbrev Cs.Ok(hs:List Str)(ms:List Mk)(c:Cs):Prop:=CsOk hs ms c.hn c.kw c.a c.b c.t c.w
theorem iu{w:Str}{kw:List Str}{b:Str}{c:Cs}(e:fJ::(w::kw++[a,b])=c.ln):c.hn=w/\c.kw=kw/\c.a=a/\c.b=b:=by unfold Cs.ln at e;simp only[zyu,zxy,true_and]at e;obtain⟨e1,e2⟩:=e;obtain⟨e3,J⟩:=List.append_inj' e2 rfl;simp only[zxy,and_true]at J;exact⟨e1.symm,e3.symm,J.1.symm,J.2.symm⟩
theorem BX{c d:Cs}(e:c.ln=d.ln)(o:c.Ok hs ms)(p:d.Ok hs ms):d=c:=by
 obtain⟨g,J,L,U⟩:=iu (w:=c.hn) (kw:=c.kw) (a:=c.a) (b:=c.b) (c:=d) e;obtain⟨h1,k1,x1,y1,t1,w1⟩:=c;obtain⟨h2,k2,x2,y2,j,l⟩:=d;simp only at g J L U;subst g J L U;have e1:=o.ta.symm.trans p.ta;have e2:=o.tb.symm.trans p.tb;simp only[zwd]at e1 e2;have e3:j=t1:=by lia
 have Y:l=w1:=by lia
 rw[e3,Y]
theorem Hs{r:List Str}{n:Nat}(h:r.length=n+3):∃w kw a b,r=w::kw++[a,b]/\kw.length=n:=by
 match r,h with
 |w::q,h =>
  have hq:q.length=n+2:=by simpa using h
  refine⟨w,q.take n,q[n],q[n+1],?_,by rw[zyl];lia⟩;have:q.drop n=[q[n],q[n+1]]:=by rw[zzZ (by lia),zzZ (by lia),List.drop_of_length_le (by lia)]
  rw[zyu,←this,zxz]
theorem wT(h:ir x=true):∃t:Nat,intText? x=some (t:Int):=by unfold ir kU at h;simp only[zzX,zyb,zyw]at h;obtain⟨⟨⟨h1,h2⟩,d⟩,h4⟩:=h;have J:x.cps.toList.length=x.length:=zzF;exact⟨_,zwM (x:=x) (λc e=>d c e) (λz=>by rw[z]at J;simp at J;lia) (by lia)⟩
structure LnOk(ws:List Str):Prop where
 ne:ws≠[]
 le:ws.length <= 200000
 ok:∀x∈ws,TxOk x
def Fe:DSp:=λd Q=>∃(hs:List Str) (ms:List Mk) (ws:List Str),d=[.lst (ws.map .str),nmD hs ms]/\LnOk ws/\(ms.length <= 5/\hs.length <= 6/\∀m∈ms,m.2.length <= 6)/\(∀c:Cs,ws=c.ln->c.Ok hs ms->Q (rtD (c.rt hs ms)))/\((∀c:Cs,ws=c.ln->¬c.Ok hs ms)->Q .non)
theorem Eg:bb Fe:=by rintro ds P P' f ⟨hs,ms,ws,e,o,z,d,g⟩;exact⟨hs,ms,ws,e,o,z,λc e o=>f _ (d c e o),λn=>f _ (g n)⟩
theorem Eh(T:Tx K mg):FnOk P w K mg base CX0 2 T.tW T.qv ["words","names"] (spD K 2 Fe):=by
 refine fnD (k:=1) T.tS.F sc_row_of (λcdv A outer s H E I=>(ad (aI (PWD.pt (cX (az (nO I) (dix (dv 0) ae) al (ay _)) (bR (az (nO I) (aj aX rfl T.ba zzA (aa (dv 0) ac)) (bc cg ae (aj aX rfl T.ba zzA (aa (dix (dv 1) ae) ac))) (ay _))))) (af (aA cq)) aw)
   (ad (aI (PWD.pt (cX (az kP (dix (dv 0) ae) (dix (dv 1) ae) rfl) (cX (bQ (br (dcl T.gP (pQ T) pP I (aa (dix (dv 0) (nM gW ae)) ac)))) (bR (bQ (br (dcl T.gP (pQ T) pP I (aa (dix (dv 0) (nM gW ae)) ac)))))))) (af (aA cq)) aw)
   (ad (dow 2 sc_row_of.nd (aN ac))
   (aO (cI zyc rfl (JC rfl T.HH (aa (ao (dJ (dv 0) (aS ae) (aS (nM gW ae)))) (aa (dix (dv 1) ae) ac))) (eV (n:=2) rfl (aC (dgn 3 sc_row_of.nd) (aC (dgn 4 sc_row_of.nd) cr))) (ad (aI (az kP (dv 3) (dix (dv 4) ae) rfl) (af (aA cq)) aw)
   (af (ii (pv 2) (DN nW (dix (dv 4) ae) (dv 3))))))
   (ad (dse 5 sc_row_of.nd (aQ wL rfl T.Ez rfl (aa (dix (dv 0) (nM gW ae)) ac)))
   (ad (dse 6 sc_row_of.nd (aQ wL rfl T.Ez rfl (aa (dix (dv 0) (nM gW ae)) ac)))
   (ad (aI (PWD.pt (cX (az (cY I) (dv 5) ae (ay _)) (bR (az nL (dv 6) (dv 5) (ay _))))) (af (aA cq)) aw)
   (af (aA (bA (aa (DN nW (dix (dv 1) ae) (dix (dv 0) ae)) (aa (aQ eW rfl T.gQ rfl (aa (dv 2) ac)) (aa (dv 5) (aa (dv 6) ac))))))))))))))) (λds Q hl h=>?_)
 obtain⟨hs,ms,ws,rfl,⟨a3,hl9,C⟩,⟨z1,z2,z3⟩,hy,j⟩:=h;cases ws with
 |nil=>exact absurd rfl a3|cons x r =>
 refine aK (d:=.str x) (zye 0) rfl ⟨⟨aV (C x (by simp)).ok,aV (by decide +kernel)⟩,?_⟩;show Br (!eqD (.str x) (.str fJ)) _ _;rw[eu];by_cases e1:x=fJ
 case neg =>
  rw[zzl e1];exact Br.t (Br.t (j λc e _=>e1 (zwB e).1))
 subst e1;rw[zzj rfl];refine Br.f ⟨⟨rfl,rfl⟩,?_⟩;show Br (!eqD (.int _) (.int _)) _ _;rw[bB];by_cases e2:r.length=ms.length+3
 case neg =>
  rw[zzl (by simp only[zza,zzm];lia)];refine Br.t (j λc e o=>e2 ?_);have e3:=congrArg List.length e;have:=o.kl;simp[Cs.ln]at e3;lia
 obtain⟨w,g,a,b,rfl,ek⟩:=Hs e2;rw[zzj (by simp only[zza,zzm];lia)];refine Br.f ?_;have a2:∀{Q:D->Prop},Q (.str a)->opt (atI ((fJ::(w::g++[a,b])).map D.str) (-2)) Q:=λq=>by show opt (atI _ (-((2:Nat):Int))) _;rw[rK (k:=2) (by decide) (d:=.str a) (by simp) (by simp)];exact q
 have a0:∀{Q:D->Prop},Q (.str b)->opt (atI ((fJ::(w::g++[a,b])).map D.str) (-1)) Q:=λq=>by show opt (atI _ (-((1:Nat):Int))) _;rw[rK (k:=1) (by decide) (d:=.str b) (by simp) (by simp)];exact q
 have oa:=C a (by simp);have ob:=C b (by simp);refine aK (d:=.str w) (r:=1) (by decide) rfl ⟨⟨rfl,bD hs⟩,?_⟩;rw[jS];by_cases e3:w∈hs
 case neg =>
  rw[zzl e3];exact Br.t (Br.t (j λc e o=>e3 (by rw[←(iu e).1];exact o.hh)))
 rw[zzj e3];refine Br.f (a2 ⟨rfl,a,rfl,oa,?_⟩);cases L:ir a with
 |false=>exact Br.t (Br.t (j λc e o=>by have:=o.na;rw[(iu e).2.2.1,L]at this;cases this))
 |true =>
 refine Br.f (a0 ⟨rfl,b,rfl,ob,?_⟩);cases y:ir b with
 |false=>exact Br.t (j λc e o=>by have:=o.nb;rw[(iu e).2.2.2,y]at this;cases this)
 |true =>
 refine Br.f ⟨sz,?_⟩;refine⟨λM=>∃u U s5 Y:Sl,(∀p∈g.zip ms,p.1∈p.2.2)/\M=[.val (.lst ((fJ::(w::g++[a,b])).map .str)),.val (nmD hs ms),.own ((kpl g ms).map D.int),u,U,s5,Y],?_,?_⟩
 ·show nK _ _ (zipD _ _) _ _;have e1:cutD ((fJ::(w::g++[a,b])).map D.str) (some 2) (some (-2))=g.map D.str:=by
   unfold cutD;have l1:((fJ::(w::g++[a,b])).map D.str).length=g.length+4:=by simp
   have l2:HT.sIx (g.length+4) 0 (some 2)=2:=by show (if (2:Int)<0 then((2:Int)+((g.length+4:Nat):Int)).toNat else min (2:Int).toNat (g.length+4))=2;rw[zzi (by decide)];lia
   have l3:HT.sIx (g.length+4) (g.length+4) (some (-2))=g.length+2:=by show (if (-2:Int)<0 then((-2:Int)+((g.length+4:Nat):Int)).toNat else min (-2:Int).toNat (g.length+4))=g.length+2;rw[zzn (by decide)];lia
   rw[l1,l2,l3];show ((g++[a,b]).map D.str).take (g.length+2 - 2)=_;rw[zze,Nat.add_sub_cancel,List.take_left' (by rw[zza])]
  have e2:∀(ws:List Str) (ms:List Mk),zipD (ws.map D.str) (ms.map mkD)=(ws.zip ms).map λp=>D.tup [.str p.1,mkD p.2]:=λws=>by
   induction ws with
   |nil=>intro ms;cases ms<;>rfl
   |cons x ws ih =>
    intro ms;cases ms with
    |nil=>rfl|cons m ms=>rw[zzh,zzh,zipD,ih,zyg,zzh]
  rw[e1,e2];refine bS (λpre M=>∃(J l:List (Str×Mk)) (u U s5 Y:Sl),(g.zip ms=J++l/\∀p∈J,p.1∈p.2.2)/\pre=J.map (λp=>D.tup [.str p.1,mkD p.2])/\M=[.val (.lst ((fJ::(w::g++[a,b])).map .str)),.val (nmD hs ms),.own ((J.map λp=>(plc p.1 p.2.2:Int)).map D.int),u,U,s5,Y]) (λM N=>?_) (λpre d post M X e N hX=>?_) _ ⟨[],_,_,_,_,_,⟨rfl,λ_ h=>nomatch h⟩,rfl,rfl⟩
  ·obtain⟨J,l,u,U,s5,Y,⟨e3,em⟩,L,rfl⟩:=N;have:l=[]:=by
    have:=congrArg List.length L;rw[e3]at this;simp at this;exact this
   subst this;rw[zzv]at e3;unfold kpl;rw[e3];exact⟨_,_,_,_,em,rfl⟩
  ·obtain⟨J,l,u,U,s5,Y,⟨e3,em⟩,rfl,rfl⟩:=N;rw[e3,zze]at e;have e:=zzN e;cases l with
   |nil=>simp at e|cons p l =>
    rw[zzh]at e;injection e with L y;subst L;refine⟨rfl,⟨rfl,bD p.2.2⟩,?_⟩;rw[jS];by_cases G:p.1∈p.2.2
    case neg =>
     rw[zzl G];refine Br.t (j λc e o=>G ?_);obtain⟨i,B⟩:=zyt.mp (show p∈g.zip ms by rw[e3];simp);rw[zyB]at B;exact o.kk i p.1 p.2 (by rw[(iu e).2.1];exact B.1) B.2
    rw[zzj G];refine Br.f ⟨trivial,trivial,⟨rfl,bD p.2.2⟩,plc p.1 p.2.2,og G,?_,hX _ ⟨J++[p],l,_,_,_,_,⟨by rw[e3,zzO];rfl,λq hq=>(zzo.mp hq).elim (em q) λz=>by rw[zzw.mp z];exact G⟩,by rw[zze];rfl,by rw[show ((J++[p]).map λp=>(plc p.1 p.2.2:Int)).map D.int=(J.map λp=>(plc p.1 p.2.2:Int)).map D.int++[.int (plc p.1 p.2.2)] by rw[zze,zze];rfl];rfl⟩⟩;have:J.length <= 5:=by have:=congrArg List.length e3;rw[zyM,zzd]at this;lia
    rw[zza,zza];exact zzG this (by decide)
 ·rintro _ ⟨u,U,s5,Y,em,rfl⟩;obtain⟨t,ta⟩:=wT L;obtain⟨v,tb⟩:=wT y;refine a2 ⟨zzq (vx L) (by decide),t,ta,a0 ⟨zzq (vx y) (by decide),v,tb,⟨⟨rfl,rfl⟩,?_⟩⟩⟩;have no:¬(0<t/\v <= t)->Q .non:=λz=>j λc e o=>by
   obtain⟨-,-,c1,c2⟩:=iu e;have q1:=o.ta;have q2:=o.tb;have q3:=o.t0;have q4:=o.tw;rw[c1,ta]at q1;rw[c2,tb]at q2;simp only[zwd]at q1 q2;lia
  show Br (eqD (.int t) (.int 0)) _ _;rw[bB];by_cases t0:(t:Int)=0
  ·rw[zzj t0];exact Br.t (Br.t (no (by lia)))
  rw[zzl t0];refine Br.f ?_;show Br (decide ((t:Int)<(v:Int))) _ _;by_cases tw:(t:Int)<(v:Int)
  ·rw[zzj tw];exact Br.t (no (by lia))
  rw[zzl tw];refine Br.f ?_;refine⟨trivial,aK (d:=.str w) (r:=1) (by decide) rfl ⟨⟨rfl,bD hs⟩,plc w hs,og e3,?_⟩⟩;refine⟨sz,hy ⟨w,g,a,b,t,v⟩ rfl ⟨e3,ek,λi x m h1 h2=>em (x,m) (zyt.mpr ⟨i,by rw[zyB];exact⟨h1,h2⟩⟩),L,y,ta,tb,by show 0<t;lia,by show v <= t;lia,oa,ob⟩⟩
abbrev lnD(ws:List Str):D:=.lst (ws.map .str)
def mkLn(m:Mk):List Str:=cL::m.1::m.2
structure MsT(ms:List Mk):Prop where
 l5:ms.length <= 5
 nd:(ms.map (·.1)).Nodup
 nm:∀m∈ms,isNm m.1=true/\1 <= m.2.length/\m.2.length <= 6/\nmsB m.2=true/\TxOk m.1/\∀x∈m.2,TxOk x
def Ff:DSp:=λd Q=>∃(J:List Str) (ms:List Mk) (cs:List (List Str)),d=[.lst ((J::ms.map mkLn++cs).map lnD)]/\MsT ms/\(∀l∈cs.head?,LnOk l/\(ms.length=5∨mlB (ms.map (·.1)) l=false))/\Q (.lst (ms.map mkD))
theorem rL:bb Ff:=by rintro ds P P' f ⟨J,ms,cs,a,b,c,h⟩;exact⟨J,ms,cs,a,b,c,f _ h⟩
theorem rM(T:Tx K mg):FnOk P w K mg base CX0 4 T.mR T.kf ["lines"] (spD K 1 Ff):=by
 refine fnD (k:=3) T.jm.F sc_marks_of (λcdv A outer s H E M=>(ad (dow 1 sc_marks_of.nd (aN ac))
   (aO (cI zyc rfl (aR (ao (dJ (dv 0) (aS ae) bj))) (dgn 2 sc_marks_of.nd) (ad (aI (PWD.pt (cX (mj 1 (az (cY M) (aj aX rfl T.ba zzA (aa (dv 1) ac)) (jd rfl T.lE) (ay _))) (bR (bQ (mj 1 (br (dcl T.fO (qS T) qR M (aa (dv 2) (aa (ao (PCD.pld (aH (N':=["name","kinds"]) rfl rfl (by decide +kernel) rfl (.own (.own .nil)) (by decide +kernel) (aR (dv 1)) (λB=>(eV (n:=2) rfl (aC (dgb 0) (aC (dgb 1) cr)))) (λB=>aM) (λB=>(dv 0))))) ac))))))))) (af (aA (dv 1))) aw)
   (af (ii (pv 1) (bA (aa (dix (dv 2) ae) (aa (ao (dJ (dv 2) (aS ae) bj)) ac)))))))
   (af (aA (dv 1)))))) (λds Q hl h=>?_)
 obtain⟨y,ms,cs,rfl,G,co,h⟩:=h;have hw:∀m∈ms,∀x∈mkLn m,TxOk x:=λm o x u=>by
  obtain⟨_,_,_,_,o1,o2⟩:=G.nm m o;rcases zzk.mp u with rfl|u
  ·exact⟨by decide +kernel,by decide +kernel⟩
  ·rcases zzk.mp u with rfl|u
   ·exact o1
   ·exact o2 x u
 have l5:=G.l5;refine⟨sz,λρ=>∃s:Sl,ρ=[.val (.lst ((y::ms.map mkLn++cs).map lnD)),.own (ms.map mkD),s],?_,?_⟩
 ·have e0:cutD ((y::ms.map mkLn++cs).map lnD) (some 1) none=(ms.map mkLn++cs).map lnD:=cy lnD 1 (y::(ms.map mkLn++cs)) (by simp);show nK _ _ (cutD ((y::ms.map mkLn++cs).map lnD) (some 1) none) _ _;rw[e0];have j:∀{g:List Mk} {ρ:DS} {a b:Sl} {Q:List D->Prop},g.length <= 5->Q ((g.map (·.1)).map D.str)->dl (GL 2 (uV (cH 0) (uV (cH 1) GK))) cJ (dVar 0) (g.map mkD) [] [a,b] Q:=λ{g ρ a b Q} o hq=>by
   refine aP (D.str ∘ (·.1)) (λρ=>∃a b,ρ=[a,b]) (zzq o (by decide)) (λm _ ρ Y Z q hY=>?_) _ ⟨_,_,rfl⟩ (by rw[←zzB];exact hq);obtain⟨a,b,rfl⟩:=q;exact⟨rfl,Br.t (hY _ ⟨_,_,rfl⟩)⟩
  refine bS (λpre ρ=>∃(g L:List Mk) (s:Sl),ms=g++L/\pre=g.map (λm=>lnD (mkLn m))/\ρ=[.val (.lst ((y::ms.map mkLn++cs).map lnD)),.own (g.map mkD),s]) (λρ q=>?_) (λpre d post ρ X e q hX=>?_) _ ⟨[],ms,_,rfl,rfl,rfl⟩
  ·obtain⟨g,L,s,e3,U,rfl⟩:=q;have:=congrArg List.length U;rw[e3]at this;simp only[zza,zzd]at this;have:L=[]:=zzK.mp (by lia);subst this;rw[zzv]at e3;subst e3;exact⟨_,rfl⟩
  ·obtain⟨g,L,s,e3,rfl,rfl⟩:=q;have J:g.length <= 5:=by
    have:=congrArg List.length e3;rw[zzd]at this;lia
   have elen:(((g.map mkD).length:Nat):Int)=(g.length:Int):=by rw[zza]
   refine⟨_,rfl,rfl,⟨rfl,rfl⟩,rfl,?_⟩;show Br (eqD (.int _) (.int 5)) _ _;rw[bB];cases L with
   |nil =>
    rw[zzv]at e3;subst e3;refine⟨λ_=>Br.t h,λh5=>?_⟩;rw[zze,zzB]at e;have e:=zzN e;cases cs with
    |nil=>simp at e|cons l cs =>
     rw[zzh]at e;injection e with U e5;subst U;obtain⟨I,r2⟩:=co l rfl;refine⟨_,rfl,rfl,j (ρ:=[]) J ⟨rfl,l,_,rfl,I.ne,I.le,I.ok,?_⟩⟩;have:mlB (ms.map (·.1)) l=false:=r2.resolve_left λz=>by have:=zyr h5;rw[zza]at this;lia
     rw[this];exact⟨rfl,Br.t h⟩
   |cons m L =>
    have c:¬((((g.map mkD).length:Nat):Int)=5):=by have:=congrArg List.length e3;rw[zzd,zzm]at this;lia
    rw[zzl c];refine Br.f ?_;have o:m∈ms:=by rw[e3];simp
    rw[zze,e3,zze,zze,zzB,zzO]at e;have e:=zzN e;rw[zzh,zzh,zyu]at e;injection e with U e5;subst U;obtain⟨i,p,v,C,a5,a6⟩:=G.nm m o;refine⟨_,rfl,rfl,j (ρ:=[]) J ⟨rfl,mkLn m,_,rfl,by simp[mkLn],by simp[mkLn];lia,hw m o,?_⟩⟩;have:mlB (g.map (·.1)) (mkLn m)=true:=by show (decide (cL=cL) && (decide (1 <= m.2.length) && decide (m.2.length <= 6)) && isNm m.1 && !decide (m.1∈g.map (·.1)) && nmsB m.2)=true;have N:=G.nd;rw[e3,zze,zzh]at N;have a7:m.1∉g.map (·.1):=λz=>(zyK.mp N).2.2 m.1 z m.1 (by simp) rfl;rw[zzj rfl,zzj p,zzj v,i,zzl a7,C];rfl
    rw[this];refine⟨rfl,Br.f ⟨trivial,?_⟩⟩;have e6:cutD ((mkLn m).map D.str) (some 2) none=m.2.map D.str:=cy D.str 2 (mkLn m) (by simp[mkLn]);refine aK (d:=.str m.1) (r:=1) (by decide) rfl ?_;refine⟨sz,?_,hX _ ⟨g++[m],L,_,by rw[e3,zzO];rfl,by rw[zze];rfl,by rw[show (g++[m]).map mkD=g.map mkD++[.tup [.str m.1,.lst (cutD ((mkLn m).map D.str) (some 2) none)]] by rw[zze,e6];rfl];rfl⟩⟩;rw[zza];exact zzG J (by decide)
 ·rintro _ ⟨s,rfl⟩;exact h
theorem gx(T:Tx K mg):FnOk P w K mg base CX0 1 T.bF T.jj ["self","line"] (sL T.ak "line"):=by
 refine T.vU.ok zm (λj H Q E h=>?_) (λcdv A outer s H j Q E hr h=>?_)
 ·obtain⟨e,p,rfl,_⟩:=h;rfl
 ·obtain⟨e,p,rfl,g,h⟩:=h;refine⟨_,gj (Dj (pv 0) (pv 1) rfl),?_⟩;exact⟨_,rfl,_,rfl,e,T.ak,rfl,g,T.dh.toExA,T.cV,λd hd J=>h d hd J⟩
noncomputable abbrev xiN(C:Addr):XI:=λn=>(C,[("line",V.int ((n:Nat):Int))])
theorem mK{W:Addr->Prop}{k:Nat}(e:i=k)(h:W k):∃d1 v1 c,[D.int i]=[d1]/\vD d1 v1/\xiN C c=(C,[(("line" : Str),v1)])/\W c:=⟨_,.int i,k,rfl,rfl,by rw[e],h⟩
abbrev Bh(hs:List Str)(ms:List Mk)(x y:Cs):Prop:=gtP (kpl y.kw ms) (plc y.hn hs) (kpl x.kw ms) (plc x.hn hs)=true
def yp(hs:List Str)(ms:List Mk)(cs:List Cs)(l:List Str):Prop:=∀c:Cs,l=c.ln->c.Ok hs ms->∃p,cs.getLast? = some p/\¬Bh hs ms p c
def BY:DSpE:=λd Q W=>∃(hs:List Str) (ms:List Mk) (cs:List Cs) (rest:List (List Str)) (J:List Str),d=[.lst ((J::ms.map mkLn++(cs.map Cs.ln++rest)).map lnD),nmD hs ms]/\(ms.length <= 5/\hs.length <= 6/\∀m∈ms,m.2.length <= 6)/\cs.length+rest.length <= 200 /\
 (∀c∈cs,c.Ok hs ms/\LnOk c.ln)/\cs.Pairwise (Bh hs ms)/\((rest=[]/\Q (.lst ((cs.map (Cs.rt hs ms)).map rtD)))∨∃l r,rest=l::r/\LnOk l/\yp hs ms cs l/\W (1+ms.length+cs.length))
theorem mL:wI BY:=by rintro ds P P' W W' f J ⟨hs,ms,cs,rest,L,a,b,c,d,e,h⟩;exact⟨hs,ms,cs,rest,L,a,b,c,d,e,h.imp (λh=>⟨h.1,f _ h.2⟩) λ⟨l,r,x,y,z,w⟩=>⟨l,r,x,y,z,J _ w⟩⟩
theorem rN(T:Tx K mg):FnOk P w K mg base (CXE P w) 4 T.lG T.jp ["lines","names"] (spDA (xiN T.ak) K 2 BY):=by
 refine fnDA (xi:=xiN T.ak) (k:=3) T.gf.F sc_rows_of (λfr W hW cdv A outer s H E u=>(ad (dow 2 sc_rows_of.nd (aN ac))
   (aO (cI (BV rfl rfl) rfl (uW rfl T.dF (aa (bc cg ae (aj aX rfl T.ba zzA (aa (dix (dv 1) ae) ac))) (aa (aj aX rfl T.ba zzA (aa (dv 0) ac)) ac))) (dgn 3 sc_rows_of.nd) (ad (dse 4 sc_rows_of.nd (dcl T.tS (Eh T) Eg u (aa (dix (dv 0) (dv 3)) (aa (dv 1) ac))))
   (ad (aI (PWD.pt (cX (az xP (dv 4) cq (ay _)) (bR (PWD.pt (xL (mj 2 (az nL (aj aX rfl T.ba zzA (aa (dv 2) ac)) ae (ay _))) (sO (bQ (mj 2 (br (dcl T.kq (wS T) wR u (aa (dv 4) (aa (dix (dv 2) (nM gW ae)) ac)))))))))))) (af (pG (xi:=xiN T.ak) (a1:="line") T.dh (gx T) (u.mono (by decide)) T.lL rfl rfl T.iN gu hW (aa (dv 3) ac))) aw)
   (af (ii (pv 2) (dv 4))))))
   (af (aA (dv 2)))))) (λds Q W hl h=>?_)
 obtain⟨hs,ms,cs,rest,l0,rfl,z,cl,co,v,h⟩:=h;obtain⟨L,I⟩:∃L,L=(l0::ms.map mkLn++(cs.map Cs.ln++rest)).map lnD:=⟨_,rfl⟩;have e1:(L.length:Int)=1+ms.length+(cs.length+rest.length):=by rw[I];simp only[zza,zzd,zzm];lia
 have e2:(((ms.map mkD).length:Nat):Int)=ms.length:=by rw[zza]
 have z1:=z.1;rw[←I];refine⟨sz,λy=>∃g Y:Sl,rest=[]/\y=[.val (.lst L),.val (nmD hs ms),.own ((cs.map (Cs.rt hs ms)).map rtD),g,Y],?_,?_⟩
 ·refine⟨⟨by lia,by lia,by lia,by lia⟩,?_⟩;refine eY (λk y=>∃(J j:List Cs) (g Y:Sl),cs=J++j/\k=1+ms.length+J.length/\y=[.val (.lst L),.val (nmD hs ms),.own ((J.map (Cs.rt hs ms)).map rtD),g,Y]) _ _ (λy M=>?_) (λk y X k0 k1 M hX=>?_) _ ⟨[],cs,_,_,rfl,by rw[e2];simp,rfl⟩
  ·obtain⟨J,j,g,Y,e3,e4,rfl⟩:=M;have:=congrArg List.length e3;rw[zzd]at this;have h1:j=[]:=zzK.mp (by lia);subst h1;rw[zzv]at e3;subst e3;exact⟨_,_,zzK.mp (by lia),rfl⟩
  ·obtain⟨J,j,g,Y,e3,rfl,rfl⟩:=M;have N:=congrArg List.length e3;rw[zzd]at N;have el:(((J.map (Cs.rt hs ms)).map rtD).length:Int)=J.length:=by rw[zza,zza]
   have b:((J.map (Cs.rt hs ms)).map rtD).length<sizeLine:=by rw[zza,zza];exact zzG (show J.length <= 200 by lia) (by decide)
   have a:∀{l:List Str} {r:List (List Str)},j.map Cs.ln++rest=l::r->L[(1+(ms.length:Int)+(J.length:Int)).toNat]? = some (lnD l):=λ{l r} e=>by rw[I,show (1+(ms.length:Int)+(J.length:Int)).toNat=(ms.length+J.length)+1 by lia];show ((ms.map mkLn++(cs.map Cs.ln++rest)).map lnD)[ms.length+J.length]? = _;rw[show cs.map Cs.ln++rest=J.map Cs.ln++l::r by rw[e3,zze,zzO,e],zze,zzT (by simp)];simp
   have last:∀{p:Cs},J.getLast? = some p->∀{Q:D->Prop},Q (rtD (p.rt hs ms))->opt (atI ((J.map (Cs.rt hs ms)).map rtD) (-1)) Q:=λ{p} o Q q=>by
    have m:J≠[]:=by rintro rfl;cases o
    have hp3:=(zwa m).symm.trans o;have hpos:0<J.length:=zxo.mpr m;show opt (atI _ (-((1:Nat):Int))) _;rw[rK (k:=1) (by decide) (d:=rtD (p.rt hs ms)) (by rw[zza,zza];lia) ?_]
    ·exact q
    ·rw[zzu,zzu,zza,zza,←List.getLast?_eq_getElem?,o];rfl
   cases j with
   |nil =>
    rw[zzv]at e3;subst e3;rw[zyZ]at N;rcases h with ⟨h,_⟩|⟨l,r,u,lo,no,hw⟩
    ·rw[h,zyZ]at e1;lia
    have raise:=mK (C:=T.ak) (i:=1+(ms.length:Int)+(cs.length:Int)) (by lia) hw;refine aK (d:=lnD l) (by lia) (a (l:=l) (r:=r) (by rw[u];rfl)) ⟨rfl,hs,ms,l,rfl,lo,z,λc ec G=>?_,λ_=>Br.t (Br.t raise)⟩;obtain⟨p,o,nb⟩:=no c ec G;refine Br.f ⟨_,rfl,rfl,rfl,?_⟩;refine⟨λn=>?_,λn=>?_⟩
    ·refine⟨_,rfl,rfl,last o ⟨rfl,c.rt hs ms,p.rt hs ms,rfl,?_⟩⟩;rw[show gtP (c.rt hs ms).ks (c.rt hs ms).h (p.rt hs ms).ks (p.rt hs ms).h=false from Bool.eq_false_iff.mpr nb];exact⟨rfl,Br.t raise⟩
    ·have n:=zyr n;have:cs≠[]:=by rintro rfl;cases o
     have:=zxo.mpr this;lia
   |cons c j =>
    have hc:c∈cs:=by rw[e3];simp
    obtain⟨G,ol⟩:=co c hc;refine aK (d:=lnD c.ln) (by lia) (a (l:=c.ln) rfl) ⟨rfl,hs,ms,c.ln,rfl,ol,z,λd ed od=>?_,λno=>absurd G (no c rfl)⟩;have B:d=c:=BX ed G od;subst B;refine Br.f ⟨_,rfl,rfl,rfl,?_⟩;have em:((J++[d]).map (Cs.rt hs ms)).map rtD=(J.map (Cs.rt hs ms)).map rtD++[rtD (d.rt hs ms)]:=by rw[zze,zze];rfl
    have fin:∀g Y:Sl,X [.val (.lst L),.val (nmD hs ms),.own ((J.map (Cs.rt hs ms)).map rtD++[rtD (d.rt hs ms)]),g,Y]:=λg Y=>hX _ ⟨J++[d],j,g,Y,by rw[e3,zzO];rfl,by rw[zzd];simp;lia,by rw[em]⟩;refine⟨λn=>?_,λn=>Br.f ⟨trivial,b,fin _ _⟩⟩;have n:=zzP n;have U:J≠[]:=by rintro rfl;exact absurd n (by simp)
    have o:=zwa U;refine⟨_,rfl,rfl,last o ⟨rfl,d.rt hs ms,(J.getLast U).rt hs ms,rfl,?_⟩⟩;have x:Bh hs ms (J.getLast U) d:=by rw[e3]at v;exact(zyU.mp v).2.2 _ (List.getLast_mem U) d zzg
    rw[show gtP (d.rt hs ms).ks (d.rt hs ms).h ((J.getLast U).rt hs ms).ks ((J.getLast U).rt hs ms).h=true from x];exact⟨rfl,Br.f ⟨trivial,b,fin _ _⟩⟩
 ·rintro _ ⟨g,Y,u,rfl⟩;rcases h with ⟨_,h⟩|⟨l,r,h,_⟩
  ·exact h
  ·rw[u]at h;cases h
abbrev JR:DSp:=λd Q=>BY d Q λ_=>False
theorem BZ:bb JR:=λe P d f h=>mL e P d _ _ f (λ_ q=>q) h
theorem Cb(T:Tx K mg):FnOk P w K mg base CX0 4 T.lG T.jp ["lines","names"] (spD K 2 JR):=DL.FnOk.noX mL (rN T)
noncomputable def iw(n:Nat)(r:Rt):Row:=(List.replicate n (0,0)).set r.h.toNat (r.t,r.w)
structure RtOk(n:Nat)(r:Rt):Prop where
 h0:0 <= r.h
 h1:r.h<n
 w0:0 <= r.w
 wt:r.w <= r.t
 t1:r.t<10^30
def gCoR:DSp:=λd Q=>∃(r:Rt) (n:Nat),d=[rtD r,.int n]/\RtOk n r/\n <= 6/\Q (rowD (iw n r))
theorem pU:bb gCoR:=by rintro ds P P' f ⟨r,n,a,b,c,h⟩;exact⟨r,n,a,b,c,f _ h⟩
theorem pV(T:Tx K mg):FnOk P w K mg base CX0 1 T.eP T.dG ["row","many"] (spD K 2 gCoR):=by
 refine fnD (k:=0) T.eE.F sc_counts_of_row (λcdv A outer s H E hr=>(ad (dow 2 sc_counts_of_row.nd (Js (ao (aN (aa (bA (aa ae (aa ae ac))) ac))) (dv 1)))
   (ad (pA (bA (aa (dix (dv 0) ae) (aa (dix (dv 0) ae) ac))) (Bt (pv 2) (dix (dv 0) ae)))
   (af (aA (aQ eW rfl T.gQ rfl (aa (dv 2) ac))))))) (λds Q hl h=>?_)
 obtain⟨r,n,rfl,o,n6,h⟩:=h;have d:=o.h0;have g:=o.h1;have e:∀k:Nat,(List.replicate k [D.tup [.int 0,.int 0]]).flatten=(List.replicate k ((0,0):Int×Int)).map cm:=λk=>by
  induction k with
  |zero=>rfl|succ k J=>rw[zyC,zyC,zxk,zzh,J];rfl
 refine⟨sz,sz,⟨⟨by lia,by lia⟩,?_⟩,?_⟩
 ·rw[zzM];exact zzq (show 1*n <= 6 by lia) (by decide)
 rw[zzM,e];refine⟨sz,trivial,r.h.toNat,Bu d (by rw[zza,zwf];exact g),?_⟩;show Q (.tup (((List.replicate n ((0,0):Int×Int)).map cm).set r.h.toNat (cm (r.t,r.w))));rw[←List.map_set];exact h
theorem Ht{n:Nat}{r:Rt}(o:RtOk n r):RowN 110 n (iw n r):=by
 refine⟨by unfold iw;simp,λc d=>?_⟩;unfold iw at d;rcases zxG d with d|rfl
 ·rw[zyq d];exact vp (zye 0) (zye 0) (by unfold Bd;exact Nat.two_pow_pos _)
 ·refine vp o.w0 o.wt ?_;have:=o.t1;have:=o.w0;have:=o.wt;unfold Bd;have e:(2:Nat)^110=1298074214633706907132624082305024:=by decide
  rw[e];show r.t.natAbs<_;lia
def nlS:Str:=Str.ofString "\n"
def spS:Str:=Str.ofString " "
def numS(n:Int):Str:=Str.ofString (toString n)
noncomputable def wds(ms:List Mk)(ks:List Int):List Str:=(ms.zip ks).map λp=>p.1.2.getD p.2.toNat Str.empty
noncomputable def csOf(hs:List Str)(ms:List Mk)(c:List Int×Row):List Cs:=((hs.zip c.2).filter λp=>decide (0<p.2.1)).map λp=>⟨p.1,wds ms c.1,numS p.2.1,numS p.2.2,p.2.1.toNat,p.2.2.toNat⟩
noncomputable def aD(hs:List Str)(ms:List Mk)(cells:List (List Int×Row)):List (List Str):=(aB::hs)::ms.map mkLn++(cells.flatMap (csOf hs ms)).map Cs.ln
noncomputable def cz(hs:List Str)(ms:List Mk)(cells:List (List Int×Row)):Str:=Txt.join nlS ((aD hs ms cells).map (Txt.join spS))
structure ShOk(hs:List Str)(ms:List Mk)(cells:List (List Int×Row)):Prop where
 h6:hs.length <= 6
 m5:ms.length <= 5
 ln:(aD hs ms cells).length <= 60
 hl:∀x∈hs,x.length <= 8
 ml:∀m∈ms,m.1.length <= 8/\m.2.length <= 6/\∀x∈m.2,x.length <= 8
 kl:∀c∈cells,c.1.length=ms.length/\RowN 100 hs.length c.2
 kk:∀c∈cells,∀(i:Nat) (k:Int) (m:Mk),c.1[i]? = some k->ms[i]? = some m->0 <= k/\k<m.2.length
theorem tF(ms:List Mk)(ks:List Int):(wds ms ks).length <= ms.length:=by unfold wds;rw[zza,zyM];lia
theorem tG{n:Int}(d:0 <= n)(b:Bd 100 n):(numS n).length <= 31:=by
 refine PyProof.Rows.toString_length_le d (by decide) ?_;unfold Bd at b;have e:(2:Nat)^100=1267650600228229401496703205376:=by decide
 rw[e]at b;lia
theorem Lw(o:ShOk hs ms ps)(ks:List Int):∀x∈wds ms ks,x.length <= 8:=λx J=>by
 unfold wds at J;obtain⟨p,L,rfl⟩:=zzs.mp J;have d:=(o.ml p.1 (zyY L).1).2.2;rw[zzC];cases q:p.1.2[p.2.toNat]? with
 |none=>exact zya _|some y=>exact d y (zzI q)
theorem tH(o:ShOk hs ms ps):∀l∈aD hs ms ps,l.length <= 12/\∀x∈l,x.length <= 40:=λl d=>by
 have h6:=o.h6;have m5:=o.m5;unfold aD at d;rcases zzo.mp d with d|d
 ·rcases zzk.mp d with rfl|d
  ·refine⟨by simp;lia,λx J=>?_⟩;rcases zzk.mp J with rfl|J
   ·decide +kernel
   ·exact zzq (o.hl x J) (by decide)
  ·obtain⟨m,g,rfl⟩:=zzs.mp d;obtain⟨a1,a2,Y⟩:=o.ml m g;refine⟨by simp[mkLn];lia,λx J=>?_⟩;rcases zzk.mp J with rfl|J
   ·decide +kernel
   ·rcases zzk.mp J with rfl|J
    ·lia
    ·exact zzq (Y x J) (by decide)
 ·obtain⟨c,e,rfl⟩:=zzs.mp d;obtain⟨cl,U,e⟩:=zxK.mp e;unfold csOf at e;obtain⟨p,L,rfl⟩:=zzs.mp e;have L:=zyY (zzY.mp L).1;have cn:=(o.kl cl U).2.2 p.2 L.2;have wl:=tF ms cl.1;have lo:=cn.lo;have hi:=cn.hi;refine⟨by simp[Cs.ln];lia,λx J=>?_⟩;unfold Cs.ln at J;simp only[zzo,zzk,zyx,zxJ]at J;rcases J with (rfl|rfl|J)|rfl|rfl
  ·decide +kernel
  ·exact zzq (o.hl _ L.1) (by decide)
  ·exact zzq (Lw o cl.1 x J) (by decide)
  ·exact zzq (tG (by lia) cn.bt) (by decide)
  ·exact zzq (tG (by lia) cn.bw) (by decide)
theorem kW(o:ShOk hs ms ps):(aD hs ms ps).length <= 60:=o.ln
theorem pW(J:∀y∈ws,y.length <= B)(h:ws.length*B+ws.length*x.length <= 16777216):JoinOk x ws=true:=by unfold JoinOk;rw[StrLaws.joinFits J h];rfl
theorem oh(J:∀y∈ws,y.length <= B)(g:ws.length <= 12):(Txt.join spS ws).length <= 12*B+12:=by
 have d:=zxY spS ws;have h2:=StrLaws.sumLen_le ws J;have e:spS.length=1:=by decide +kernel
 have h3:ws.length*B <= 12*B:=Nat.mul_le_mul_right B g;have e2:Txt.join spS ws=Str.join spS ws:=zyh ..;rw[e2];rw[e]at d;lia
def JS:DSp:=λe Q=>∃(hs:List Str) (ms:List Mk) (d:List (List Int×Row)) (a b:D),e=[nmD hs ms,.tup [a,b,.tup (d.map cp)]]/\ShOk hs ms d/\Q (.str (cz hs ms d))
theorem Ei{xs:List α}{ys:List β}(h:ys.length<xs.length)(y:β):xs.zip (ys++[y])=xs.zip ys++[(xs[ys.length],y)]:=by
 have J:xs=xs.take ys.length++xs[ys.length]::xs.drop (ys.length+1):=by rw[←zzZ h,zxz]
 have L:(xs.take ys.length).length=ys.length:=by rw[zyl];lia
 have U:(xs.take ys.length++xs[ys.length]::xs.drop (ys.length+1)).zip (ys++[y])=_:=zwN L;have Y:(xs.take ys.length++xs[ys.length]::xs.drop (ys.length+1)).zip (ys++[])=_:=zwN L;rw[←J,zyg,zxw]at U;rw[←J,zzv,zxw,zzv]at Y;rw[U,Y]
theorem yq{n:Int}(b:Bd m n)(h:m<1920):n.natAbs.log2<1920:=by
 unfold Bd at b;by_cases z:n.natAbs=0
 ·rw[z];decide
 ·have:=(Nat.log2_lt z).mpr b;lia
theorem ge:∀(xs ys:List D) (k:Nat),fA k (xs++ys)=fA k xs++fA (k+xs.length) ys
 |[],ys,k=>by simp[fA]
 |x::xs,ys,k=>by rw[zyu,fA,fA,ge xs ys (k+1),zyu,zzm,show k+1+xs.length=k+(xs.length+1) by lia]
theorem Ej(o:ShOk hs ms ps){c:List Int×Row}(n:c∈ps){s s':Sl}(q:Q ((wds ms c.1).map D.str)) :
  dl (GL 2 (uV (cH 0) (uV (cH 1) GK))) cJ (dOp gIx (dOp gIx (dOp gIx (dOp gIx (dVar 2) (dC (.int 1))) (dVar 0)) (dC (.int 1))) (dVar 1)) (fA 0 (c.1.map D.int)) [] [s,s',.val (nmD hs ms)] Q:=by
 have m5:=o.m5;have kl:=(o.kl c n).1;refine bn (λpre J l=>∃(k0 g:List Int) (s s':Sl),c.1=k0++g/\pre=fA 0 (k0.map D.int)/\J=(wds ms k0).map D.str/\l=[s,s',.val (nmD hs ms)]) (λJ l j=>?_) (λpre d post J l Y e j E=>?_) _ ⟨[],c.1,_,_,rfl,rfl,by unfold wds;rw[zxw];rfl,rfl⟩
 ·obtain⟨k0,g,s,s',e1,e2,rfl,rfl⟩:=j;have:=congrArg List.length e2;rw[bC,bC,e1,zza,zza,zzd]at this;have:g=[]:=zzK.mp (by lia);subst this;rw[zzv]at e1;rw[←e1];exact q
 ·obtain⟨k0,g,s,s',e1,rfl,rfl,rfl⟩:=j;rw[e1,zze,ge]at e;have e:=zzN e;cases g with
  |nil=>simp[fA]at e|cons k g =>
   rw[zzh,fA]at e;injection e with u e5;subst u;have G:=congrArg List.length e1;rw[zzd,zzm]at G;have L:k0.length<ms.length:=by lia
   have em:ms[k0.length]? = some ms[k0.length]:=zzt L;obtain⟨r,b1⟩:=o.kk c n k0.length k ms[k0.length] (by rw[e1,zzT (zzr _)];simp) em;have y:(ms[k0.length]).2[k.toNat]? = some ((ms[k0.length]).2.getD k.toNat Str.empty):=by rw[zzC,zzt (by lia)];rfl
   have A:wds ms (k0++[k])=wds ms k0++[(ms[k0.length]).2.getD k.toNat Str.empty]:=by
    unfold wds;have:ms=ms.take k0.length++ms[k0.length]::ms.drop (k0.length+1):=by rw[←zzZ L,zxz]
    have U:(ms.take k0.length).length=k0.length:=by rw[zyl];lia
    have H:ms.zip (k0++[k])=(ms.take k0.length).zip k0++[(ms[k0.length],k)]:=by
     conv=>lhs;rw[this]
     rw[zwN U,zyg,zxw]
    have I:ms.zip k0=(ms.take k0.length).zip k0:=by have h:(ms.take k0.length++ms[k0.length]::ms.drop (k0.length+1)).zip (k0++[])=_:=zwN U;rw[←this,zzv,zxw,zzv]at h;exact h
    rw[H,I,zze];rfl
   refine⟨rfl,Br.t ?_⟩;refine aK (d:=mkD ms[k0.length]) (by simp) (by rw[zza,Nat.zero_add,zzM,zzu,em];rfl) ?_;refine aK (d:=.str ((ms[k0.length]).2.getD k.toNat Str.empty)) r (by rw[zzu,y];rfl) ⟨?_,E _ _ ⟨k0++[k],g,_,_,by rw[e1];simp,by rw[zze,ge];rfl,by rw[A,zze];rfl,rfl⟩⟩;rw[zza];have:=tF ms k0;exact zzG (show _ <= 5 by lia) (by decide)
theorem Fg:bb JS:=by rintro ds P P' f ⟨hs,ms,cs,a,b,c,d,h⟩;exact⟨hs,ms,cs,a,b,c,d,f _ h⟩
theorem Fh(T:Tx K mg):FnOk P w K mg base CX0 1 T.CD T.xm ["names","book"] (spD K 2 JS):=by
 refine fnD (k:=0) T.yH.F sc_show (λcdv A outer s H E hr=>(ad (dow 2 sc_show.nd (aN (aa (ao (dc (ao (aN (aa al ac))) (ao (Bg rfl T.CH rfl (dix (dv 0) ae))))) ac)))
   (aO (cI zyc rfl (aR (dix (dv 0) ae)) (eV (n:=2) rfl (aC (dgn 3 sc_show.nd) (aC (dgn 4 sc_show.nd) cr))) (af (ii (pv 2) (ao (dc (ao (aN (aa al (aa (dv 3) ac)))) (ao (Bg rfl T.CH rfl (dv 4))))))))
   (aO (cI zyc rfl (xO (dix (dv 1) ae)) (eV (n:=2) rfl (aC (dgn 4 sc_show.nd) (aC (dgn 5 sc_show.nd) cr))) (ad (jH (i:=6) sc_show.nd rfl rfl (aH (N':=["mark","kind","names"]) rfl rfl (by decide +kernel) rfl (.own (.own (.cap (j:=0) rfl (by first|exact Or.inl rfl|exact Or.inr rfl) rfl .nil))) (by decide +kernel) (ya rfl T.kC (aa (dv 4) ac)) (λB=>(eV (n:=2) rfl (aC (dgb 0) (aC (dgb 1) cr)))) (λB=>aM) (λB=>(dix (dix (dix (dix (dv 2) ae) (dv 0)) ae) (dv 1)))))
   (af (cI zyc rfl (ya rfl T.kC (aa (dv 5) ac)) (eV (n:=2) rfl (aC (dgn 7 sc_show.nd) (aC (dgn 8 sc_show.nd) cr))) (af (aI (az nL (dix (dv 8) ae) ae (ay _)) (af (ii (pv 2) (ao (dc (ao (dc (ao (aN (aa al (aa (dix (dix (dv 0) ae) (dv 7)) ac)))) (dv 6))) (ao (aN (aa (aQ sZ rfl T.vV rfl (aa (dix (dv 8) ae) ac)) (aa (aQ sZ rfl T.vV rfl (aa (dix (dv 8) ae) ac)) ac)))))))) aw))))))
   (af (aA (fB al (ao (PCD.pld (aH (N':=["line"]) rfl rfl (by decide +kernel) rfl (.own .nil) (by decide +kernel) (aR (dv 2)) (λB=>(dgb 0)) (λB=>aM) (λB=>(fB al (dv 0))))))))))))) (λds Q p h=>?_)
 obtain⟨hs,ms,cells,a,b,rfl,o,h⟩:=h;have a0:∀{n:Nat},n <= 1000->n <= sizeLine:=λh=>zzq h (by decide);have h6:=o.h6;have m5:=o.m5;refine⟨sz,⟨a0 (by simp;lia),sz,?_⟩⟩;refine⟨λu=>∃g U s5 G J L:Sl,u=[.val (nmD hs ms),.val (.tup [a,b,.tup (cells.map cp)]),.own (((aB::hs)::ms.map mkLn).map lnD),g,U,s5,G,J,L],?_,?_⟩
 ·refine bS (λpre u=>∃(z m1:List Mk) (g U s5 G J L:Sl),ms=z++m1/\pre=z.map mkD/\u=[.val (nmD hs ms),.val (.tup [a,b,.tup (cells.map cp)]),.own (((aB::hs)::z.map mkLn).map lnD),g,U,s5,G,J,L]) (λu I=>?_) (λpre d post u X e I hX=>?_) _ ⟨[],ms,_,_,_,_,_,_,rfl,rfl,rfl⟩
  ·obtain⟨z,m1,g,U,s5,G,J,L,e3,e4,rfl⟩:=I;have:=congrArg List.length e4;rw[e3]at this;simp only[zza,zzd]at this;have:m1=[]:=zzK.mp (by lia);subst this;rw[zzv]at e3;subst e3;exact⟨_,_,_,_,_,_,rfl⟩
  ·obtain⟨z,m1,g,U,s5,G,J,L,e3,rfl,rfl⟩:=I;rw[e3,zze]at e;have e:=zzN e;cases m1 with
   |nil=>simp at e|cons m m1 =>
    rw[zzh]at e;injection e with e4 e5;subst e4;have hm:=(o.ml m (by rw[e3];simp)).2.1;have p:=congrArg List.length e3;rw[zzd]at p;refine⟨rfl,trivial,sz,a0 (by simp;lia),?_,hX _ ⟨z++[m],m1,_,_,_,_,_,_,by rw[e3,zzO];rfl,by rw[zze];rfl,by rw[show ((aB::hs)::(z++[m]).map mkLn).map lnD=((aB::hs)::z.map mkLn).map lnD++[lnD (mkLn m)] by simp];rfl⟩⟩;exact zzG (show (((aB::hs)::z.map mkLn).map lnD).length <= 100 by simp;lia) (by decide)
 ·rintro _ ⟨g,U,s5,G,J,L,rfl⟩;refine⟨λu=>∃g U s5 G J L:Sl,u=[.val (nmD hs ms),.val (.tup [a,b,.tup (cells.map cp)]),.own ((aD hs ms cells).map lnD),g,U,s5,G,J,L],?_,?_⟩
  ·have base:∀M N,cells=M++N->((aB::hs)::ms.map mkLn++(M.flatMap (csOf hs ms)).map Cs.ln).length <= 60:=λM N e=>by
    have:=kW o;unfold aD at this;rw[e,zwo,zze,←zzO,zzd]at this;lia
   refine bS (λpre u=>∃(M N:List (List Int×Row)) (g U s5 G J L:Sl),cells=M++N/\pre=M.map cp/\u=[.val (nmD hs ms),.val (.tup [a,b,.tup (cells.map cp)]),.own (((aB::hs)::ms.map mkLn++(M.flatMap (csOf hs ms)).map Cs.ln).map lnD),g,U,s5,G,J,L]) (λu I=>?_) (λpre d post u X e I hX=>?_) _ ⟨[],cells,g,U,s5,G,J,L,rfl,rfl,by simp⟩
   ·obtain⟨M,N,g,U,s5,G,J,L,e3,e4,rfl⟩:=I;have:=congrArg List.length e4;rw[e3]at this;simp only[zza,zzd]at this;have:N=[]:=zzK.mp (by lia);subst this;rw[zzv]at e3;subst e3;exact⟨_,_,_,_,_,_,rfl⟩
   ·obtain⟨M,N,g,U,s5,G,J,L,e3,rfl,rfl⟩:=I;have e':=e;rw[e3,zze]at e;have e:=zzN e;cases N with
    |nil=>simp at e|cons c N =>
     rw[zzh]at e;injection e with e4 e5;subst e4;have hc:c∈cells:=by rw[e3];simp
     refine⟨rfl,Ej o hc ?_⟩;have hr:=(o.kl c hc).2;have hbase:=base M _ e3;have lf:=kW o;refine bS (λpre u=>∃(r C:Row) (g J L:Sl),c.2=r++C/\pre=fA 0 (r.map cm)/\u=[.val (nmD hs ms),.val (.tup [a,b,.tup (cells.map cp)]),.own (((aB::hs)::ms.map mkLn++(M.flatMap (csOf hs ms)).map Cs.ln).map lnD++((csOf hs ms (c.1,r)).map Cs.ln).map lnD),g,.val (kT c.1),.val (rowD c.2),.val (.lst ((wds ms c.1).map .str)),J,L]) (λu I=>?_) (λpre d post u X' e I a2=>?_) _ ⟨[],c.2,g,J,L,rfl,rfl,by unfold csOf;simp⟩
     ·obtain⟨r,C,g,J,L,v,e7,rfl⟩:=I;have:=congrArg List.length e7;rw[bC,bC,v,zza,zza,zzd]at this;have:C=[]:=zzK.mp (by lia);subst this;rw[zzv]at v;refine hX _ ⟨M++[c],N,g,.val (kT c.1),.val (rowD c.2),.val (.lst ((wds ms c.1).map .str)),J,L,by rw[e3];simp,by rw[zze];rfl,?_⟩;rw[←v,←zze,zzO,←zze,zwo,zyL,List.flatMap_nil,zzv]
     ·obtain⟨r,C,g,J,L,v,rfl,rfl⟩:=I;rw[v,zze,ge]at e;have e:=zzN e;cases C with
      |nil=>simp[fA]at e|cons x C =>
       rw[zzh,fA]at e;injection e with e7 e8;subst e7;have p:=congrArg List.length v;rw[zzd,zzm,hr.1]at p;have a3:r.length<hs.length:=by lia
       have cn:=hr.2 x (by rw[v];simp);have ez:csOf hs ms (c.1,r++[x])=csOf hs ms (c.1,r)++(if 0<x.1 then[⟨hs[r.length],wds ms c.1,numS x.1,numS x.2,x.1.toNat,x.2.toNat⟩] else[]):=by
        unfold csOf;show ((hs.zip (r++[x])).filter _).map _=_;rw[Ei a3,zyQ,zze];by_cases q:0<x.1
        ·rw[zzn q];simp[q]
        ·rw[zzi q];simp[q]
       refine⟨rfl,λe9=>?_,λe9=>?_⟩
       ·have e9:=zzP e9;rw[zzn e9]at ez;have wl:=tF ms c.1;have hcs:(csOf hs ms (c.1,r)).length <= 6:=by
         unfold csOf;rw[zza];refine zzq (zwg _ _) ?_;rw[zyM];lia
        refine⟨trivial,aK (d:=.str hs[r.length]) (by lia) (by rw[zza,Nat.zero_add,zzM,zzu,zzt a3];rfl) ⟨sz,a0 (by simp;lia),yq cn.bt (by decide),yq cn.bw (by decide),sz,a0 (by simp;lia),?_,a2 _ ⟨r++[x],C,g,.val (.int ((0+(r.map cm).length:Nat):Int)),.val (cm x),by rw[v];simp,by rw[zze,ge];rfl,?_⟩⟩⟩
        ·rw[zzd,zza,zza,zza];exact zzG (show _ <= 100 by lia) (by decide)
        ·have el:((csOf hs ms (c.1,r++[x])).map Cs.ln).map lnD=((csOf hs ms (c.1,r)).map Cs.ln).map lnD++[.lst (([.str fJ,.str hs[r.length]]++(wds ms c.1).map D.str)++[.str (numS x.1),.str (numS x.2)])]:=by
          rw[ez,zze,zze];simp[Cs.ln]
         rw[el,←zzO];rfl
       ·have e9:=zyr e9;rw[zzi e9,zzv]at ez;refine a2 _ ⟨r++[x],C,g,_,_,by rw[v];simp,by rw[zze,ge];rfl,by rw[ez];rfl⟩
  ·rintro _ ⟨g,U,s5,G,J,L,rfl⟩;have lb:=tH o;have ll:=kW o;have a5:spS.length=1:=by decide +kernel
   have a4:nlS.length=1:=by decide +kernel
   refine⟨nlS,rfl,?_⟩;refine aP (D.str ∘ Txt.join spS) (λu=>∃s,u=[s]) (a0 (by lia)) (λl p u Y Z I hY=>?_) _ ⟨_,rfl⟩ ?_
   ·obtain⟨s,rfl⟩:=I;refine Br.t ⟨spS,rfl,l,⟨rfl,pW (lb l p).2 ?_⟩,hY _ ⟨_,rfl⟩⟩;have:=(lb l p).1;rw[a5];lia
   ·rw[←zzB];refine⟨_,⟨rfl,pW (B:=492) (λy hy=>?_) ?_⟩,h⟩
    ·obtain⟨l,p,rfl⟩:=zzs.mp hy;exact oh (B:=40) (lb l p).2 (lb l p).1
    ·rw[zza,a4];lia
noncomputable def jn(c:Nat):List (List Nat)->List Nat
 |[]=>[]|[x]=>x|x::y::r=>x++c::jn c (y::r)
theorem Cc{c:Nat}:∀{a L b J:List Nat},c∉a->c∉L->a++c::b=L++c::J->a=L/\b=J
 |[],[],b,J,_,_,h=>by simpa using h
 |[],x::L,b,J,_,e,h=>by simp only[zwK,zyu,zxy]at h;exact absurd (by simp[h.1]) e
 |x::a,[],b,J,d,_,h=>by simp only[zwK,zyu,zxy]at h;exact absurd (by simp[h.1]) d
 |x::a,y::L,b,J,d,e,h=>by simp only[zyu,zxy]at h;obtain⟨e1,e2⟩:=Cc (λz=>d (zzc _ z)) (λz=>e (zzc _ z)) h.2;exact⟨by rw[h.1,e1],e2⟩
theorem Fi{c:Nat}:∀{xs ys:List (List Nat)},xs≠[]->ys≠[]->(∀x∈xs,c∉x)->(∀y∈ys,c∉y)->jn c xs=jn c ys->xs=ys
 |[],_,h,_,_,_,_=>absurd rfl h|_,[],_,h,_,_,_=>absurd rfl h|[x],[y],_,_,_,_,h=>by rw[show x=y from h]
 |[x],y::Y::r,_,_,J,_,h=>by have h:x=y++c::jn c (Y::r):=h;exact absurd (by rw[h];simp) (J x (by simp))
 |x::U::r,[y],_,_,_,L,h=>by have h:x++c::jn c (U::r)=y:=h;exact absurd (by rw[←h];simp) (L y (by simp))
 |x::U::r,y::Y::e,_,_,J,L,h=>by obtain⟨e1,e2⟩:=Cc (J x (by simp)) (L y (by simp)) (show x++c::jn c (U::r)=y++c::jn c (Y::e) from h);have e3:=Fi (xs:=U::r) (ys:=Y::e) (by simp) (by simp) (λz d=>J z (zzc _ d)) (λz d=>L z (zzc _ d)) e2;rw[e1,e3]
theorem pX(c:Nat):∀ls:List Str,(Str.join ⟨#[c]⟩ ls).cps.toList=jn c (ls.map λl=>l.cps.toList)
 |[]=>rfl|[x]=>rfl|x::y::r=>by have J:=pX c (y::r);show (x++⟨#[c]⟩++Str.join ⟨#[c]⟩ (y::r)).cps.toList=x.cps.toList++c::jn c ((y::r).map λl=>l.cps.toList);rw[zxI,zxI,zxa,zxa,J];simp
theorem wU{b:Str}(h:a.cps.toList=b.cps.toList):a=b:=by cases a;cases b;simp only at h;rw[Array.toList_inj.mp h]
theorem rO{ls:List Str}(J:ls≠[])(h:∀l∈ls,c∉l.cps.toList):Txt.split (Txt.join ⟨#[c]⟩ ls) ⟨#[c]⟩=ls:=by
 have e0:Txt.join ⟨#[c]⟩ ls=Str.join ⟨#[c]⟩ ls:=zyh ..;have e1:=zxS (Txt.join ⟨#[c]⟩ ls) ⟨#[c]⟩;have U:=zva (Txt.join ⟨#[c]⟩ ls) c;have Y:Txt.split (Txt.join ⟨#[c]⟩ ls) ⟨#[c]⟩≠[]:=λz=>by have:=PyProof.Rows.split_pos (Txt.join ⟨#[c]⟩ ls) ⟨#[c]⟩;rw[z]at this;exact absurd this (by decide)
 generalize Txt.split (Txt.join ⟨#[c]⟩ ls) ⟨#[c]⟩=ps at e1 U Y;rw[e0]at e1;have e2:=congrArg (λz:Str=>z.cps.toList) e1;simp only[pX]at e2;have e3:=Fi (by simpa using Y) (by simpa using J) (λx L=>by obtain⟨l,d,rfl⟩:=zzs.mp L;exact U l d) (λx L=>by obtain⟨l,d,rfl⟩:=zzs.mp L;exact h l d) e2;exact zwZ (λ_ _=>wU) |>.mp e3
theorem jf(m:Nat):NumText.AllDigits (numS ((m:Nat):Int)).cps.toList:=λc d=>by unfold numS at d;rw[zxA]at d;obtain⟨ch,J,e⟩:=zzs.mp d;have r:=PyProof.Rows.digit_range (Nat.isDigit_of_mem_toDigits (by decide) (by decide) J);rw[←e];exact r
theorem Fj(m:Nat):(numS ((m:Nat):Int)).cps.toList≠[]:=by unfold numS;rw[zxA];intro e;have h:=PySem.toDigits_len_ge 10 m;rw[zwT.mp e]at h;exact absurd h (by decide)
theorem vy{n:Int}(d:0 <= n)(b:Bd 100 n):intText? (numS n)=some n:=by have g:=tG d b;obtain⟨m,rfl⟩:=zyd d;have e:=zwM (jf m) (Fj m) (zzq g (by decide));unfold numS at e ⊢;rw[zxA,PySem.W.KIN.val_back]at e;exact e
theorem Ek(m:Nat)(g:0<m):((Nat.toDigits 10 m).map Char.toNat).head? ≠ some 48:=by
 induction m using Nat.strongRecOn with
 |_ m Y =>
  by_cases h:m<10
  ·rw[Nat.toDigits_of_lt_base h];have key:∀d:Nat,d<10->0<d->(Nat.digitChar d).toNat≠48:=by decide
   intro z;have z:some (Nat.digitChar m).toNat=some 48:=z;exact key m h g (zzV z)
  ·have U:m % 10<10:=Nat.mod_lt m (by decide);have t:Nat.toDigits 10 (m / 10)++Nat.toDigits 10 (m % 10)=Nat.toDigits 10 (10*(m / 10)+m % 10):=Nat.toDigits_append_toDigits (by decide) (by lia) U;rw[Nat.div_add_mod]at t;have L:=Y (m / 10) (by lia) (by lia);have J:(Nat.toDigits 10 (m / 10)).map Char.toNat≠[]:=λe=>by
    have h:=PySem.toDigits_len_ge 10 (m / 10);rw[zwT.mp e]at h;exact absurd h (by decide)
   rw[←t,zze];cases q:(Nat.toDigits 10 (m / 10)).map Char.toNat with
   |nil=>exact absurd q J|cons c r =>
    rw[q]at L;exact L
theorem yr{a b:Nat}(h:∀c∈x.cps.toList,a <= c/\c <= b):kU a b x=true:=by unfold kU;rw[zyw];intro c d;rw[zzj (h c d).1,zzj (h c d).2];rfl
theorem vA{n:Int}(d:0 <= n)(h:n<10^30):ir (numS n)=true:=by
 have j:(numS n).length <= 30:=PyProof.Rows.toString_length_le d (by decide) h;obtain⟨m,rfl⟩:=zyd d;have g:1 <= (numS (m:Int)).length:=by
  have:=Fj m;cases q:(numS (m:Int)).cps.toList with
  |nil=>exact absurd q this|cons c r =>
   have e:(numS (m:Int)).cps.toList.length=(numS (m:Int)).length:=zzF;rw[q,zzm]at e;lia
 unfold ir;rw[zzj g,zzj j,yr (jf m)];by_cases z:m=0
 ·subst z;rw[show decide (numS ((0:Nat):Int)=zA)=true by decide +kernel];rfl
 ·have:=Ek m (by lia);have e:(numS (m:Int)).cps.toList.head? ≠ some 48:=by
   unfold numS;rw[zxA];exact this
  rw[zzl e];simp
theorem Cd{n:Int}(d:0 <= n)(b:Bd 100 n):TxOk (numS n):=by refine⟨zzq (tG d b) (by decide),?_⟩;obtain⟨m,rfl⟩:=zyd d;refine zxd.mpr λc e=>?_;have:=(jf m c (zxi.mpr e)).2;exact zzj (by lia)
def Wd(x:Str):Prop:=∀c∈x.cps.toList,33 <= c/\c<128
theorem kX:nlS=⟨#[10]⟩:=by decide +kernel
theorem mM:spS=⟨#[32]⟩:=by decide +kernel
theorem Fk{c d:Nat}:∀{xs:List (List Nat)},d∈jn c xs->d=c∨∃x∈xs,d∈x
 |[],h=>by simp[jn]at h
 |[x],h=>.inr ⟨x,by simp,h⟩|x::y::r,h=>by
  have h:d∈x++c::jn c (y::r):=h;rcases zzo.mp h with h|h
  ·exact .inr ⟨x,by simp,h⟩
  ·rcases zzk.mp h with h|h
   ·exact .inl h
   ·rcases Fk h with h|⟨z,e,h⟩
    ·exact .inl h
    ·exact .inr ⟨z,zzc _ e,h⟩
theorem kY{d:Nat}{ls:List Str}(h:d∈(Txt.join ⟨#[c]⟩ ls).cps.toList):d=c∨∃x∈ls,d∈x.cps.toList:=by
 have e0:Txt.join ⟨#[c]⟩ ls=Str.join ⟨#[c]⟩ ls:=zyh ..;rw[e0,pX]at h;rcases Fk h with h|⟨x,J,h⟩
 ·exact .inl h
 ·obtain⟨l,e,rfl⟩:=zzs.mp J;exact .inr ⟨l,e,h⟩
theorem zB{L:List (List Str)}(h:L≠[])(d:∀l∈L,l≠[])(hw:∀l∈L,∀x∈l,Wd x):Txt.split (Txt.join nlS (L.map (Txt.join spS))) nlS=L.map (Txt.join spS)/\(L.map (Txt.join spS)).map (λl=>Txt.split l spS)=L:=by
 rw[kX,mM];refine⟨rO (by simpa using h) λl U=>?_,?_⟩
 ·obtain⟨ws,J,rfl⟩:=zzs.mp U;intro z;rcases kY z with z|⟨x,Y,z⟩
  ·exact absurd z (by decide)
  ·have:=hw ws J x Y 10 z;lia
 ·rw[zzB]
  conv=>rhs;rw[←zwV L]
  refine zzR λws J=>?_;show Txt.split (Txt.join ⟨#[32]⟩ ws) ⟨#[32]⟩=ws;refine rO (d ws J) λx Y z=>?_;have:=hw ws J x Y 32 z;lia
theorem Wd.num{n:Int}(d:0 <= n):Wd (numS n):=λc e=>by obtain⟨m,rfl⟩:=zyd d;have:=jf m c e;lia
theorem vB(h:isNm x=true):∀c∈x.cps.toList,97 <= c/\c <= 122:=λc d=>by unfold isNm kU at h;rw[zzX,zyw]at h;have:=h.2 c d;simpa using this
theorem oi(h:isNm x=true):1 <= x.length/\x.length <= 8:=by unfold isNm at h;simp only[zzX,zyb]at h;exact h.1
theorem Wd.nm(h:isNm x=true):Wd x:=λc d=>by have:=vB h c d;lia
theorem Fl(h:isNm x=true):TxOk x:=by refine⟨zzq (oi h).2 (by decide),zxd.mpr λc d=>?_⟩;have:=vB h c (zxi.mpr d);exact zzj (by lia)
structure BkT(hs:List Str)(ms:List Mk)(cells:List (List Int×Row)):Prop where
 h2:2 <= hs.length
 h6:hs.length <= 6
 hn:∀x∈hs,isNm x=true
 hd:hs.Nodup
 m5:ms.length <= 5
 mn:∀m∈ms,isNm m.1=true/\1 <= m.2.length/\m.2.length <= 6/\(∀x∈m.2,isNm x=true)/\m.2.Nodup
 md:(ms.map (·.1)).Nodup
 ln:(aD hs ms cells).length <= 60
 kl:∀c∈cells,c.1.length=ms.length/\RowN 100 hs.length c.2/\nB c.2
 kb:∀c∈cells,∀x∈c.2,x.1<10^30
 kk:∀c∈cells,∀(i:Nat) (k:Int) (m:Mk),c.1[i]? = some k->ms[i]? = some m->0 <= k/\k<m.2.length
 up:∀(i j:Nat) (x y:List Int×Row),i<j->cells[i]? = some x->cells[j]? = some y->HT.lexLt x.1 y.1=true
theorem BkT.sh(o:BkT hs ms ps):ShOk hs ms ps where
 h6:=o.h6
 m5:=o.m5
 ln:=o.ln
 hl:=λx J=>(oi (o.hn x J)).2
 ml:=λm e=>⟨(oi (o.mn m e).1).2,(o.mn m e).2.2.1,λx J=>(oi ((o.mn m e).2.2.2.1 x J)).2⟩
 kl:=λc d=>⟨(o.kl c d).1,(o.kl c d).2.1.1,λx J=>((o.kl c d).2.1.2 x J).mono (by decide)⟩
 kk:=o.kk
theorem El:∀(n:Nat) (ds:List Nat),ds.length=n+1->(∀c∈ds,48 <= c/\c <= 57)->(ds=[48]∨ds.head? ≠ some 48)->(Nat.toDigits 10 (NumText.digitsVal ds)).map Char.toNat=ds/\NumText.digitsVal ds<10^(n+1):=by
 have key:∀d:Nat,d<10->(Nat.toDigits 10 d).map Char.toNat=[d+48]:=by decide +kernel
 intro n
 induction n with
 |zero =>
  intro ds l j _
  match ds,l with
  |[c],_ =>
   have:=j c (by simp);have e:NumText.digitsVal [c]=c - 48:=by show 0*10+(c - 48)=_;lia
   rw[e,key _ (by lia)];exact⟨by rw[show c - 48+48=c by lia],by lia⟩
 |succ n s =>
  intro ds l j g;rcases zwH ds with rfl|⟨p,c,rfl⟩
  ·simp at l
  rw[zwh]at l j g ⊢;have L:p.length=n+1:=by simpa using l
  have J:∀x∈p,48 <= x/\x <= 57:=λx Y=>j x (by simp[Y]);have hc:=j c (by simp)
  match p,L with
  |q::r,L =>
   have U:q≠48:=by
    rintro rfl;rcases g with g|g
    ·have:=congrArg List.length g;simp at this
    ·exact g rfl
   have q1:=J q (by simp);obtain⟨o,i2⟩:=s (q::r) L J (.inr λz=>U (zzV z));have pos:0<NumText.digitsVal (q::r):=NumText.digitsVal_pos (by lia);rw[NumText.digitsVal_snoc,Nat.mul_comm,←Nat.toDigits_append_toDigits (by decide) pos (by lia),zze,o,key _ (by lia),show c - 48+48=c by lia];refine⟨rfl,?_⟩;rw[Nat.pow_succ];lia
theorem tI{t:Nat}(h:ir a=true)(e:intText? a=some (t:Int)):numS (t:Int)=a/\t<10^30:=by
 unfold ir kU at h;simp only[zzX,zyb,zyw,Bool.or_eq_true,Bool.not_eq_true',decide_eq_false_iff_not]at h;obtain⟨⟨⟨h1,h2⟩,d⟩,g⟩:=h;have L:a.cps.toList.length=a.length:=zzF;have J:a.cps.toList≠[]:=λz=>by rw[z]at L;simp at L;lia
 have e2:=zwM (x:=a) (λc j=>d c j) J (by lia);rw[e]at e2;have e3:t=NumText.digitsVal a.cps.toList:=by have:=zzV e2;lia
 obtain⟨U,Y⟩:=El (a.length - 1) a.cps.toList (by lia) d (g.imp (λz=>by rw[z];decide +kernel) id);rw[←e3]at U Y;refine⟨wU ?_,zzE Y (zwk (by decide) (by lia))⟩;unfold numS;rw[zxA];exact U
abbrev linW(z:Str):List (List Str):=(Txt.split z nlS).map λl=>Txt.split l spS
structure Zt(z:Str):Prop where
 le:z.length <= 100000
 asc:∀c∈z.cps.toList,c<128
 nl:(Txt.split z nlS).length <= 60
structure Gd(hs:List Str)(ms:List Mk)(cs:List Cs):Prop where
 h2:2 <= hs.length
 h6:hs.length <= 6
 hn:nmsB hs=true
 mo:MsT ms
 co:∀c∈cs,c.Ok hs ms
 cb:cs.Pairwise (Bh hs ms)
def JT(z:Str)(k:Nat):Prop:=(k=0/\∃w r rest,linW z=(w::r)::rest/\hlB w r=false) ∨
 ∃hs ms cs l rest,linW z=(aB::hs)::ms.map mkLn++(cs.map Cs.ln++l::rest)/\Gd hs ms cs/\(cs=[]->ms.length=5∨mlB (ms.map (·.1)) l=false)/\yp hs ms cs l/\k=1+ms.length+cs.length
theorem wV{c:Nat}:∀{xs:List (List Nat)} {x:List Nat},x∈xs->(x.length <= (jn c xs).length/\∀d∈x,d∈jn c xs)/\xs.length <= (jn c xs).length+1
 |[y],x,h=>by rw[zzw.mp h];exact⟨⟨zzr _,λd hd=>hd⟩,by simp⟩
 |y::J::r,x,h=>by
  have e:jn c (y::J::r)=y++c::jn c (J::r):=rfl;have L:=(wV (c:=c) (xs:=J::r) (x:=J) zzg).2;rw[e,zzd,zzm];rcases zzk.mp h with rfl|h
  ·exact⟨⟨by lia,λd hd=>zyn _ hd⟩,by simp only[zzm]at L ⊢;lia⟩
  ·obtain⟨⟨i1,U⟩,Y⟩:=wV (c:=c) (xs:=J::r) h;exact⟨⟨by lia,λd hd=>zzQ _ (zzc _ (U d hd))⟩,by simp only[zzm]at Y ⊢;lia⟩
theorem tJ(z:Str)(c:Nat):jn c ((Txt.split z ⟨#[c]⟩).map λl=>l.cps.toList)=z.cps.toList:=by rw[←pX,zxS]
theorem cj{l:Str}(h:l∈Txt.split z ⟨#[c]⟩):l.length <= z.length/\(∀d∈l.cps.toList,d∈z.cps.toList)/\(Txt.split z ⟨#[c]⟩).length <= z.length+1:=by have e:=tJ z c;obtain⟨⟨a,b⟩,d⟩:=wV (c:=c) (zzs.mpr ⟨l,h,rfl⟩:l.cps.toList∈(Txt.split z ⟨#[c]⟩).map λl=>l.cps.toList);rw[e]at a b d;rw[zza]at d;have h1:z.cps.toList.length=z.length:=zzF;have h2:l.cps.toList.length=l.length:=zzF;exact⟨by lia,b,by lia⟩
theorem jg(z:Str)(c:Nat):Txt.split z ⟨#[c]⟩≠[]:=λq=>by have:=PyProof.Rows.split_pos z ⟨#[c]⟩;rw[q]at this;exact absurd this (by decide)
theorem vC(h:∀c∈x.cps.toList,c<128):PyData.strOk x=true:=zxd.mpr λc d=>zzj (by have:=h c (zxi.mpr d);lia)
theorem Zt.ln(o:Zt z)(h:ws∈linW z):LnOk ws:=by
 obtain⟨l,d,rfl⟩:=zzs.mp h;rw[kX]at d;rw[mM];obtain⟨a1,J,_⟩:=cj d;have:=o.le;refine⟨jg _ _,?_,λx U=>?_⟩
 ·cases q:Txt.split l ⟨#[32]⟩ with
  |nil=>exact zya _|cons y r =>
   have:=(cj (c:=32) (z:=l) (l:=y) (by rw[q];exact zzg)).2.2;rw[←q];lia
 ·obtain⟨b1,L,_⟩:=cj U;exact⟨by lia,vC λc e=>o.asc c (J c (L c e))⟩
theorem mO(o:Zt z){s:Sl}(q:Q ((linW z).map lnD)):dl (cH 0) cJ (dFrz (EX (dVar 0) (dC (.str spS)))) ((Txt.split z nlS).map D.str) [] [s] Q:=by refine aP (λl=>.lst ((Txt.split l spS).map .str)) (λe=>∃s,e=[s]) (zzq o.nl (by decide)) (λl d e Y Z g J=>?_) _ ⟨_,rfl⟩ (by rw[zzB]at q;exact q);obtain⟨s,rfl⟩:=g;rw[kX]at d;have:=(cj d).1;have:=o.le;exact Br.t ⟨l,rfl,spS,⟨rfl,by decide +kernel,zzq (show l.length+2 <= 100002 by lia) (by decide)⟩,J _ ⟨_,rfl⟩⟩
noncomputable def Hu(hs:List Str)(ms:List Mk)(cs:List Cs):D:=.tup [nmD hs ms,.tup [.int hs.length,.tup (ms.map λm=>.int m.2.length),.tup ((gath hs.length (cs.map λc=>(kpl c.kw ms,iw hs.length (c.rt hs ms)))).map cp)]]
def Ce:DSp:=λd Q=>∃(z:Str) (hs:List Str) (ms:List Mk) (cs:List Cs),d=[.str z]/\(Zt z/\linW z=(aB::hs)::ms.map mkLn++cs.map Cs.ln)/\Gd hs ms cs/\Q (Hu hs ms cs)
theorem yt:bb Ce:=by rintro ds P P' f ⟨z,hs,ms,cs,a,b,c,h⟩;exact⟨z,hs,ms,cs,a,b,c,f _ h⟩
theorem Cf(tk:List Str)(r:List Str):mlB tk (fJ::r)=false:=by
 cases r with
 |nil=>rfl|cons n r =>
  show (decide (fJ=cL) && (decide (1 <= r.length) && decide (r.length <= 6)) && isNm n && !decide (n∈tk) && nmsB r)=false;rw[show decide (fJ=cL)=false by decide +kernel];simp
theorem JU{cs:List Cs}(o:Gd hs ms cs):hlB aB hs=true:=by unfold hlB;rw[zzj rfl,zzj o.h2,zzj o.h6,o.hn];rfl
theorem z_sp{n:Nat}(h:n <= 100000):n+2 <= sizeLine:=zzq (Nat.add_le_add_right h 2) (by decide)
theorem Cg(T:Tx K mg):FnOk P w K mg base CX0 5 T.vY T.qi ["text"] (spD K 1 Ce):=by
 refine fnD (k:=4) T.gh.F sc_read (λcdv A outer s H E J=>(ad (aI (bQ (br (aj pq rfl T.aY rfl (aa (dv 0) (aa (AY (n:="str") rfl T.vV rfl) ac))))) (af aJ) aw)
   (ad (jH (i:=1) sc_read.nd rfl rfl (aH (N':=["line"]) rfl rfl (by decide +kernel) rfl (.own .nil) (by decide +kernel) (aR (ao (dN (dv 0) al))) (λB=>(dgb 0)) (λB=>aM) (λB=>(ao (dN (dv 0) al)))))
   (ad (aI (bQ (br (dcl T.bU (gY T) gX J (aa (dix (dv 1) ae) ac)))) (af aJ) aw)
   (ad (dse 2 sc_read.nd (dcl T.jm (rM T) rL J (aa (dv 1) ac)))
   (ad (dse 3 sc_read.nd (bA (aa (ao (dJ (dix (dv 1) ae) (aS ae) bj)) (aa (dv 2) ac))))
   (ad (dse 4 sc_read.nd (aj aX rfl T.ba zzA (aa (dix (dv 3) ae) ac)))
   (ad (jH (i:=5) sc_read.nd rfl rfl (aH (N':=["row","many"]) rfl rfl (by decide +kernel) rfl (.own (.cap (j:=4) rfl (by first|exact Or.inl rfl|exact Or.inr rfl) rfl .nil)) (by decide +kernel) (aR (dcl T.gf (Cb T) BZ J (aa (dv 1) (aa (dv 3) ac)))) (λB=>(dgb 0)) (λB=>aM) (λB=>(bA (aa (dix (dv 0) ae) (aa (dcl T.eE (pV T) pU J (aa (dv 0) (aa (dv 1) ac))) ac))))))
   (ad (dse 6 sc_read.nd (bA (aa (dv 4) (aa (aQ eW rfl T.gQ rfl (aa (ao (PCD.pld (aH (N':=["name","kinds"]) rfl rfl (by decide +kernel) rfl (.own (.own .nil)) (by decide +kernel) (aR (dv 2)) (λB=>(eV (n:=2) rfl (aC (dgb 0) (aC (dgb 1) cr)))) (λB=>aM) (λB=>(aj aX rfl T.ba zzA (aa (dv 1) ac)))))) ac)) (aa (aQ eW rfl T.gQ rfl (aa (dcl T.mV (zy T) zx J (aa (dv 4) (aa (dv 5) ac))) ac)) ac)))))
   (af (aA (bA (aa (dv 3) (aa (dv 6) ac)))))))))))))) (λds Q G h=>?_)
 obtain⟨z,hs,ms,cs,rfl,⟨U,sp⟩,o,h⟩:=h;refine⟨rfl,rfl,Br.f ⟨z,rfl,nlS,⟨rfl,by decide +kernel,z_sp U.le⟩,mO U ?_⟩⟩;have lo:=λws C=>U.ln (ws:=ws) C;have cl:=U.nl;rw[←zza (f:=λl=>Txt.split l spS),show (Txt.split z nlS).map (λl=>Txt.split l spS)=linW z from rfl,sp]at cl;simp only[zzd,zzm,zza]at cl;rw[sp]at lo ⊢;have b:=lo _ zzg;have a:∀c∈cs,LnOk c.ln:=λc e=>lo _ (zzQ _ (zzs.mpr ⟨c,e,rfl⟩));refine aK (d:=lnD (aB::hs)) (zye 0) rfl ⟨rfl,aB,hs,rfl,by have:=o.h6;lia,b.ok _ zzg,λx hx=>b.ok x (zzc _ hx),?_⟩;rw[JU o];refine Br.f ⟨rfl,aB::hs,ms,cs.map Cs.ln,rfl,o.mo,λl G=>?_,?_⟩
 ·cases cs with
  |nil=>cases G
  |cons c cs =>
   cases G;exact⟨a c zzg,.inr (Cf _ _)⟩
 have e1:cutD ((aB::hs).map D.str) (some 1) none=hs.map D.str:=cy D.str 1 (aB::hs) (by simp);refine aK (d:=lnD (aB::hs)) (zye 0) rfl ?_;refine⟨sz,?_⟩;rw[e1];have q:=o.h6;have I:∀c∈cs,RtOk hs.length (c.rt hs ms):=λc e=>by have L:=o.co c e;have c2:=(tI L.na L.ta).2;have N:plc c.hn hs<hs.length:=zxe ⟨c.hn,L.hh,by simp⟩;have:=L.tw;exact⟨by show (0:Int) <= (plc c.hn hs:Nat);lia,by show ((plc c.hn hs:Nat):Int)<_;lia,by show (0:Int) <= (c.w:Nat);lia,by show ((c.w:Nat):Int) <= (c.t:Nat);lia,by show ((c.t:Nat):Int)<_;lia⟩
 refine⟨rfl,hs,ms,cs,[],aB::hs,by rw[zzv],⟨o.mo.l5,q,λm M=>(o.mo.nm m M).2.2.1⟩,by simp only[zyZ];lia,λc e=>⟨o.co c e,a c e⟩,o.cb,.inl ⟨rfl,?_⟩⟩;refine aP (λr=>cp (r.ks,iw hs.length r)) (λg=>∃s,g=[s,.val (.int hs.length)]) (by rw[zza];exact zzq (show cs.length <= 60 by lia) (by decide)) (λr J g Y Z u y=>?_) _ ⟨_,by rw[zza];rfl⟩ ?_
 ·obtain⟨s,rfl⟩:=u;obtain⟨c,e,rfl⟩:=zzs.mp J;exact Br.t ⟨rfl,c.rt hs ms,hs.length,rfl,I c e,q,sz,y _ ⟨_,rfl⟩⟩
 have e2:((cs.map (Cs.rt hs ms)).map λr=>cp (r.ks,iw hs.length r))=(cs.map λc=>(kpl c.kw ms,iw hs.length (c.rt hs ms))).map cp:=by rw[zzB,zzB];rfl
 rw[e2];refine aP (λm=>.int (m.2.map D.str).length) (λg=>∃s v,g=[s,v]) (zzq o.mo.l5 (by decide)) (λm M g Y Z u y=>?_) _ ⟨_,_,rfl⟩ ?_
 ·obtain⟨s,v,rfl⟩:=u;exact⟨rfl,Br.t (y _ ⟨_,_,rfl⟩)⟩
 have e3:(ms.map λm=>D.int (m.2.map D.str).length)=ms.map λm=>.int m.2.length:=by simp only[zza]
 rw[e3,show (hs.map D.str).length=hs.length from zza ..];refine⟨rfl,hs.length,_,ms.length,rfl,rfl,⟨q,by rw[zza];lia,λp N=>?_⟩,sz,sz,h⟩;obtain⟨c,e,rfl⟩:=zzs.mp N;refine⟨?_,Ht (I c e)⟩;have:=(o.co c e).kl;show (kpl c.kw ms).length=_;unfold kpl;rw[zza,zyM];lia
def BadD(d:D)(k:Nat):Prop:=(Be d=true/\xQ d=false/\k=0)∨∃z,d=.str z/\Zt z/\JT z k
def yu:DSpE:=λe _ W=>∃d k,e=[d]/\BadD d k/\W k
theorem Hv:wI yu:=by rintro ds P P' W W' f J ⟨d,k,a,b,h⟩;exact⟨d,k,a,b,J _ h⟩
theorem Hw(T:Tx K mg):FnOk P w K mg base (CXE P w) 5 T.vY T.qi ["text"] (spDA (xiN T.ak) K 1 yu):=by
 refine fnDA (xi:=xiN T.ak) (k:=4) T.gh.F sc_read (λfr W Y cdv A outer s H E L=>(ad (aI (bQ (br (aj pq rfl T.aY rfl (aa (dv 0) (aa (AY (n:="str") rfl T.vV rfl) ac))))) (af (pG (xi:=xiN T.ak) (a1:="line") T.dh (gx T) (L.mono (by decide)) T.lL rfl rfl T.iN gu Y (aa ae ac))) aw)
   (ad (Ed (i:=1) sc_read.nd rfl rfl (by letI:Frm:=Frm.free;exact(aH (N':=["line"]) rfl rfl (by decide +kernel) rfl (.own .nil) (by decide +kernel) (aR (ao (dN (dv 0) al))) (λB=>(dgb 0)) (λB=>aM) (λB=>(ao (dN (dv 0) al))))))
   (ad (aI (bQ (br (dcl T.bU (gY T) gX L (aa (dix (dv 1) ae) ac)))) (af (pG (xi:=xiN T.ak) (a1:="line") T.dh (gx T) (L.mono (by decide)) T.lL rfl rfl T.iN gu Y (aa ae ac))) aw)
   (ad (dse 2 sc_read.nd (dcl T.jm (rM T) rL L (aa (dv 1) ac)))
   (ad (dse 3 sc_read.nd (bA (aa (ao (dJ (dix (dv 1) ae) (aS ae) bj)) (aa (dv 2) ac))))
   (ad (dse 4 sc_read.nd (aj aX rfl T.ba zzA (aa (dix (dv 3) ae) ac)))
   (ad (Ee (i:=5) sc_read.nd rfl rfl (N':=["row","many"]) rfl rfl (by decide +kernel) rfl (.own (.cap (j:=4) rfl (by first|exact Or.inl rfl|exact Or.inr rfl) rfl .nil)) (by decide +kernel) (aR (sX (xi:=xiN T.ak) (x:="rows_of") (rN T) mL gu Y (L.mono (by decide)) rfl T.gf.m T.gf.F.kp T.gf.b (aa (dv 1) (aa (dv 3) ac)))))
   (ad aJ
   (af aJ)))))))))) (λds Q W hl h=>?_)
 obtain⟨d,k,rfl,⟨y,N,rfl⟩|⟨z,rfl,U,bad⟩,h⟩:=h
 ·refine⟨rfl,y,?_⟩;show Br (!xQ d) _ _;rw[N];exact Br.t (mK (k:=0) rfl h)
 refine⟨rfl,rfl,Br.f ⟨z,rfl,nlS,⟨rfl,by decide +kernel,z_sp U.le⟩,mO U ?_⟩⟩;have lo:=λws M=>U.ln (ws:=ws) M;rcases bad with ⟨rfl,w,r,rest,sp,G⟩|⟨hs,ms,cs,l,rest,sp,o,nm,nc,rfl⟩
 ·rw[sp]at lo ⊢;have e:=lo _ zzg;refine aK (d:=lnD (w::r)) (zye 0) rfl ⟨rfl,w,r,rfl,by have:=e.le;simp only[zzm]at this;lia,e.ok _ zzg,λx J=>e.ok x (zzc _ J),?_⟩;rw[G];exact Br.t (mK (k:=0) rfl h)
 have cl:=U.nl;rw[←zza (f:=λl=>Txt.split l spS),show (Txt.split z nlS).map (λl=>Txt.split l spS)=linW z from rfl,sp]at cl;simp only[zzd,zzm,zza]at cl;rw[sp]at lo ⊢;have e:=lo _ zzg;have q:∀c∈cs,LnOk c.ln:=λc g=>lo _ (zzQ _ (zyn _ (zzs.mpr ⟨c,g,rfl⟩)));have u:LnOk l:=lo _ (zzQ _ (zzQ _ zzg));refine aK (d:=lnD (aB::hs)) (zye 0) rfl ⟨rfl,aB,hs,rfl,by have:=o.h6;lia,e.ok _ zzg,λx J=>e.ok x (zzc _ J),?_⟩;rw[JU o];refine Br.f ⟨rfl,aB::hs,ms,cs.map Cs.ln++l::rest,rfl,o.mo,λx J=>?_,?_⟩
 ·cases cs with
  |nil =>
   cases J;exact⟨u,nm rfl⟩
  |cons c cs =>
   cases J;exact⟨q c zzg,.inr (Cf _ _)⟩
 have e1:cutD ((aB::hs).map D.str) (some 1) none=hs.map D.str:=cy D.str 1 (aB::hs) (by simp);refine aK (d:=lnD (aB::hs)) (zye 0) rfl ?_;refine⟨sz,?_⟩;rw[e1];exact⟨rfl,hs,ms,cs,l::rest,aB::hs,rfl,⟨o.mo.l5,o.h6,λm I=>(o.mo.nm m I).2.2.1⟩,by simp only[zzm];lia,λc g=>⟨o.co c g,q c g⟩,o.cb,.inr ⟨l,rest,rfl,u,nc,h⟩⟩
theorem Ci(T:Tx K mg):FnOk P w K mg base (CXE P w) 5 T.vY T.qi ["text"] (spDA (xiN T.ak) K 1 λds Q W=>Ce ds Q∨yu ds Q W):=DL.FnOk.orA (DL.FnOk.asA (Cg T)) (Hw T)
theorem Cj:wI (λds Q W=>Ce ds Q∨yu ds Q W):=λds P d W J f L h=>h.imp (yt ds P d f) (Hv ds P d W J f L)
theorem vE(j:ws.Nodup){k:Nat}(d:k<ws.length):plc ws[k] ws=k:=by
 have g:plc ws[k] ws<ws.length:=zxe ⟨ws[k],zyP d,by simp⟩;have e:ws[plc ws[k] ws]=ws[k]:=by have:=zwL (p:=λy=>decide (y=ws[k])) (xs:=ws) (w:=g);exact zzP this
 exact(zwD j).mp e
theorem tK:∀(ms:List Mk) (ks:List Int),ks.length=ms.length->(∀m∈ms,m.2.Nodup)->(∀(i:Nat) (k:Int) (m:Mk),ks[i]? = some k->ms[i]? = some m->0 <= k/\k<m.2.length)->kpl (wds ms ks) ms=ks
 |[],[],_,_,_=>rfl|[],_::_,h,_,_=>by simp at h
 |_::_,[],h,_,_=>by simp at h
 |m::ms,k::ks,h,e,d=>by
  have U:=tK ms ks (by simpa using h) (λx L=>e x (zzc _ L)) (λi a b g j=>d (i+1) a b (by simpa using g) (by simpa using j));obtain⟨k0,k1⟩:=d 0 k m rfl rfl;have J:k.toNat<m.2.length:=by lia
  show (plc (m.2.getD k.toNat Str.empty) m.2:Int)::kpl (wds ms ks) ms=_;rw[U,zzC,zzt J,Option.getD_some,vE (e m (by simp)) J];congr 1;lia
theorem Fm:∀(ms:List Mk) (ks:List Int),ks.length=ms.length->(∀(i:Nat) (k:Int) (m:Mk),ks[i]? = some k->ms[i]? = some m->0 <= k/\k<m.2.length)->(wds ms ks).length=ms.length/\∀(i:Nat) (x:Str) (m:Mk),(wds ms ks)[i]? = some x->ms[i]? = some m->x∈m.2
 |[],[],_,_=>⟨rfl,λi x m h=>by simp[wds]at h⟩
 |[],_::_,h,_=>by simp at h
 |_::_,[],h,_=>by simp at h
 |m::ms,k::ks,h,j=>by
  obtain⟨L,U⟩:=Fm ms ks (by simpa using h) (λi a b d g=>j (i+1) a b (by simpa using d) (by simpa using g));obtain⟨k0,k1⟩:=j 0 k m rfl rfl;have J:k.toNat<m.2.length:=by lia
  have e:wds (m::ms) (k::ks)=m.2[k.toNat]::wds ms ks:=by unfold wds;rw[zyg,zzh,zzC,zzt J];rfl
  rw[e];refine⟨by rw[zzm,zzm,L],λi x a d g=>?_⟩;cases i with
  |zero =>
   simp at d g;subst d g;exact zyP J
  |succ i=>exact U i x a (by simpa using d) (by simpa using g)
theorem zC(o:BkT hs ms ps){c:List Int×Row}(g:c∈ps){d:Cs}(hd:d∈csOf hs ms c) :
  CsOk hs ms d.hn d.kw d.a d.b d.t d.w/\d.t<10^30/\(∀x∈d.hn::d.kw,isNm x=true)/\kpl d.kw ms=c.1:=by
 unfold csOf at hd;obtain⟨p,U,rfl⟩:=zzs.mp hd;obtain⟨U,e⟩:=zzY.mp U;have e:0<p.2.1:=zzP e;obtain⟨n,q⟩:=zyY U;obtain⟨l,s,a3⟩:=o.kl c g;have cn:=s.2 p.2 q;obtain⟨Y,r⟩:=Fm ms c.1 l (o.kk c g);have lo:=cn.lo;have j:=cn.hi;have b1:=o.kb c g p.2 q;have y:∀x∈wds ms c.1,isNm x=true:=λx L=>by
  obtain⟨i,j⟩:=zyt.mp L;have J:i<ms.length:=by rw[←Y];exact(zzx.mp j).1
  have:=r i x ms[i] j (zzt J);exact(o.mn _ (zyP J)).2.2.2.1 x this
 refine⟨⟨n,Y,r,vA (by lia) (by lia),vA (by lia) (by lia),?_,?_,by show 0<p.2.1.toNat;lia,by show p.2.2.toNat <= p.2.1.toNat;lia,Cd (by lia) (cn.bt.mono (by decide)),Cd (by lia) (cn.bw.mono (by decide))⟩,by show p.2.1.toNat<_;lia,λx L=>?_,tK ms c.1 l (λm u=>(o.mn m u).2.2.2.2) (o.kk c g)⟩
 ·rw[vy (by lia) (cn.bt.mono (by decide))];exact congrArg some (by show p.2.1=((p.2.1.toNat:Nat):Int);lia)
 ·rw[vy (by lia) (cn.bw.mono (by decide))];exact congrArg some (by show p.2.2=((p.2.2.toNat:Nat):Int);lia)
 ·rcases zzk.mp L with rfl|L
  ·exact o.hn _ n
  ·exact y x L
theorem pY:∀ks:List Int,HT.lexLt ks ks=false
 |[]=>rfl|k::ks=>by rw[HT.lexLt_cons,zzn rfl,pY ks]
theorem JV(d:hs.Nodup)(r:Row):(hs.zip r).Pairwise λp q=>plc p.1 hs<plc q.1 hs:=by
 rw[zyA];intro i j e Y L;have J:i<hs.length:=by rw[zyM]at e;lia
 have U:j<hs.length:=by rw[zyM]at Y;lia
 rw[List.getElem_zip,List.getElem_zip];show plc hs[i] hs<plc hs[j] hs;rw[vE d J,vE d U];exact L
theorem Hx(o:BkT hs ms ps):(ps.flatMap (csOf hs ms)).Pairwise λx y=>gtP (kpl y.kw ms) (plc y.hn hs) (kpl x.kw ms) (plc x.hn hs)=true:=by
 rw[List.pairwise_flatMap];refine⟨λc d=>?_,?_⟩
 ·have hk:kpl (wds ms c.1) ms=c.1:=tK ms c.1 (o.kl c d).1 (λm g=>(o.mn m g).2.2.2.2) (o.kk c d);unfold csOf;rw[List.pairwise_map];refine List.Pairwise.imp ?_ ((JV o.hd c.2).filter _);intro p q hpq;show gtP (kpl (wds ms c.1) ms) _ (kpl (wds ms c.1) ms) _=true;unfold gtP;rw[zzn rfl];exact zzj (show ((plc p.1 hs:Nat):Int)<((plc q.1 hs:Nat):Int) by lia)
 ·rw[zyA];intro i j e L J x U y Y;have e1:=(zC o (zyP e) U).2.2.2;have e2:=(zC o (zyP L) Y).2.2.2;have lt:=o.up i j ps[i] ps[j] J (zzt e) (zzt L);rw[e1,e2];unfold gtP;rw[zzi (λz=>by rw[z,pY]at lt;exact zzJ lt)];exact lt
theorem Fo(h:∀x∈ws,isNm x=true)(d:ws.Nodup):nmsB ws=true:=by unfold nmsB;rw[zyw.mpr h,rn d,zzj rfl];rfl
theorem Em(o:BkT hs ms ps):∀l∈aD hs ms ps,l≠[]/\∀x∈l,Wd x:=λl e=>by
  unfold aD at e;rcases zzo.mp e with e|e
  ·rcases zzk.mp e with rfl|e
   ·refine⟨by simp,λx J=>?_⟩;rcases zzk.mp J with rfl|J
    ·unfold Wd;decide +kernel
    ·exact Wd.nm (o.hn x J)
   ·obtain⟨m,n,rfl⟩:=zzs.mp e;obtain⟨j,a2,a3,U,a5⟩:=o.mn m n;refine⟨by simp[mkLn],λx J=>?_⟩;rcases zzk.mp J with rfl|J
    ·unfold Wd;decide +kernel
    ·rcases zzk.mp J with rfl|J
     ·exact Wd.nm j
     ·exact Wd.nm (U x J)
  ·obtain⟨d,hd,rfl⟩:=zzs.mp e;obtain⟨c,g,hd⟩:=zxK.mp hd;obtain⟨b1,b2,Y,b4⟩:=zC o g hd;refine⟨by simp[Cs.ln],λx J=>?_⟩;unfold Cs.ln at J;have L:Wd d.a/\Wd d.b:=by
    unfold csOf at hd;obtain⟨p,q,rfl⟩:=zzs.mp hd;have cn:=(o.kl c g).2.1.2 p.2 (zyY (zzY.mp q).1).2;have lo:=cn.lo;have hi:=cn.hi;exact⟨Wd.num (by lia),Wd.num (by lia)⟩
   rcases zzo.mp J with J|J
   ·rcases zzk.mp J with rfl|J
    ·unfold Wd;decide +kernel
    ·exact Wd.nm (Y x J)
   ·simp only[zzk,zyx,zxJ]at J;rcases J with rfl|rfl
    ·exact L.1
    ·exact L.2
theorem tM(o:BkT hs ms ps):(Zt (cz hs ms ps)/\linW (cz hs ms ps)=(aB::hs)::ms.map mkLn++(ps.flatMap (csOf hs ms)).map Cs.ln)/\Gd hs ms (ps.flatMap (csOf hs ms)):=by
 have r:=tH o.sh;have I:=o.ln;have ln:aD hs ms ps≠[]:=by unfold aD;simp
 have U:=Em o;obtain⟨s,M⟩:=zB ln (λl j=>(U l j).1) (λl j=>(U l j).2);have H:∀l∈(aD hs ms ps).map (Txt.join spS),l.length <= 492:=λl j=>by obtain⟨ws,J,rfl⟩:=zzs.mp j;exact oh (B:=40) (r ws J).2 (r ws J).1
 refine⟨⟨⟨?_,λc g=>?_,?_⟩,?_⟩,⟨o.h2,o.h6,Fo o.hn o.hd,⟨o.m5,o.md,λm G=>?_⟩,λd hd=>?_,Hx o⟩⟩
 ·have q:=zxY nlS ((aD hs ms ps).map (Txt.join spS));have E:=StrLaws.sumLen_le _ H;have e:nlS.length=1:=by decide +kernel
  have e2:cz hs ms ps=Str.join nlS ((aD hs ms ps).map (Txt.join spS)):=zyh ..;rw[e2];rw[e]at q;rw[zza]at q E;lia
 ·unfold cz at g;rw[kX,mM]at g;rcases kY g with rfl|⟨l,j,g⟩
  ·decide
  ·obtain⟨ws,J,rfl⟩:=zzs.mp j;rcases kY g with rfl|⟨x,L,g⟩
   ·decide
   ·exact((U ws J).2 x L c g).2
 ·unfold cz;rw[s,zza];exact I
 ·unfold cz linW;rw[s,M];rfl
 ·obtain⟨n,u,y,Y,A⟩:=o.mn m G;exact⟨n,u,y,Fo Y A,Fl n,λx L=>Fl (Y x L)⟩
 ·obtain⟨c,g,hd⟩:=zxK.mp hd;exact(zC o g hd).1
theorem Hy{n h:Nat}(d:h<n)(x:Int×Int)(j:Nat)(J:j<n)(ks:List Int):at_ (iw n ⟨h,ks,x.1,x.2⟩) j=if j=h then x else(0,0):=by
 unfold at_ iw;rw[zzC,show ((h:Nat):Int).toNat=h by lia,List.getElem?_set];by_cases e:h=j
 ·subst e;simp[d]
 ·rw[zzi e,zzi (Ne.symm e)];simp[J]
theorem yw:sumP []=(0,0):=rfl
theorem kZ(c:Int×Int)(cs:List (Int×Int)):sumP (c::cs)=(c.1+(sumP cs).1,c.2+(sumP cs).2):=by unfold sumP;rw[zzh,zzh,zwC,zwC]
theorem En(a b:List (Int×Int)):sumP (a++b)=((sumP a).1+(sumP b).1,(sumP a).2+(sumP b).2):=by
 induction a with
 |nil=>simp[yw]|cons c a J =>
  rw[zyu,kZ,J,kZ];simp only[Prod.mk.injEq];constructor<;>lia
theorem Eo(d:α)(l:List α):(List.range l.length).map (λi=>l.getD i d)=l:=by
 apply List.ext_getElem
 ·simp
 ·intro i h1 e;simp[e]
theorem rP(m:Nat)(ps:List (List Int×Row)):(bJ m ps).map (·.1)=gw ((grp ps).map (·.1)):=by unfold bJ;rw[zzB];exact zwV _
theorem Ep(m:Nat)(ps:List (List Int×Row)):((bJ m ps).map (·.1)).Pairwise λa b=>ltI a b=true:=by rw[rP];exact nZ (BS _)
theorem Ck{k:List Int}:k∈(bJ m ps).map (·.1)↔k∈ps.map (·.1):=by rw[rP,(ci _).mem_iff,tD]
theorem Cl{c:List Int×Row}(h:c∈bJ m ps):c.2=sums ((ps.filter λp=>decide (p.1=c.1)).map (·.2)) m:=by unfold bJ at h;obtain⟨k,_,rfl⟩:=zzs.mp h;show sums (dZ (grp ps) k) m=_;rw[mJ]
theorem Er(m:Nat)(ps:List (List Int×Row)):bJ m ps=((bJ m ps).map (·.1)).map λk=>(k,sums ((ps.filter λp=>decide (p.1=k)).map (·.2)) m):=by
 rw[zzB]
 conv=>lhs;rw[←zwV (bJ m ps)]
 apply zzR;intro c d;show c=(c.1,_);rw[←Cl d]
theorem sum1{r:Row}(h:r.length=m):sums [r] m=r:=by
 subst h;unfold sums;have:(List.range r.length).map (λh=>sumP (col [r] h))=(List.range r.length).map λh=>r.getD h (0,0):=by apply zzR;intro h _;unfold sumP col at_;simp
 rw[this];exact Eo (0,0) r
theorem zD(e:(ps.map (·.1)).Nodup)(J:p∈ps):ps.filter (λq=>decide (q.1=p.1))=[p]:=by
 induction ps with
 |nil=>simp at J|cons q ps Y =>
  obtain⟨U,d⟩:=zyG.mp (by simpa using e:(q.1::ps.map (·.1)).Nodup);rcases zzk.mp J with rfl|J
  ·rw[zyI (by simp),zxZ.mpr];intro g L z;exact U (zzs.mpr ⟨g,L,by simpa using z⟩)
  ·rw[zyv,Y d J];intro z;have z:q.1=p.1:=by simpa using z
   exact U (zzs.mpr ⟨p,J,z.symm⟩)
theorem Lx{l:List (List Int)}(h:l.Pairwise λa b=>ltI a b=true):l.Nodup:=h.imp λ{a b} J z=>by rw[z,tu]at J;cases J
theorem zE(up:(ps.map (·.1)).Pairwise λa b=>ltI a b=true)(d:∀p∈ps,p.2.length=m):bJ m ps=ps:=by
 rw[Er];have L:(bJ m ps).map (·.1)=ps.map (·.1):=Hr (Ep m ps) up λk=>Ck;rw[L,zzB]
 conv=>rhs;rw[←zwV ps]
 apply zzR;intro p J;show (p.1,sums ((ps.filter λq=>decide (q.1=p.1)).map (·.2)) m)=p;rw[zD (Lx up) J,zxQ,sum1 (d p J)]
theorem wW:∀a b:List Int,a.length=b.length->HT.lexLt a b=ltI a b
 |[],[],_=>rfl|[],_::_,h=>by simp at h
 |_::_,[],h=>by simp at h
 |a::r,b::s,h=>by rw[HT.lexLt_cons,wW r s (by simpa using h)];rfl
theorem yx{hs:List Str}{n h:Nat}(l:h<n)(ks:List Int):∀(J:List Str) (r:Row) (s:Nat),J.length=r.length->s+J.length <= n->(∀(i:Nat) (j:i<J.length),plc J[i] hs=s+i)->(∀c∈r,0 <= c.2/\c.2 <= c.1) ->
  sumP (((J.zip r).filter λp=>decide (0<p.2.1)).map λp=>at_ (iw n ⟨(plc p.1 hs:Nat),ks,(p.2.1.toNat:Nat),(p.2.2.toNat:Nat)⟩) h)=if s <= h then at_ r (h - s) else(0,0)
 |[],[],s,_,_,_,_=>by unfold at_;simp[yw]
 |[],_::_,_,h,_,_,_=>by simp at h
 |_::_,[],_,h,_,_,_=>by simp at h
 |x::J,c::r,s,A,L,U,g=>by
  have Y:=yx (hs:=hs) l ks J r (s+1) (by simpa using A) (by simp at L;lia) (λi j=>by have:=U (i+1) (by simpa using j);simp only[List.getElem_cons_succ]at this;lia) (λd hd=>g d (zzc _ hd));have E:plc x hs=s:=by have:=U 0 (by simp);simpa using this
  obtain⟨c0,c1⟩:=g c zzg;have G:s<n:=by simp at L;lia
  have u:=Hy (n:=n) (h:=s) G (((c.1.toNat:Nat):Int),((c.2.toNat:Nat):Int)) h l ks;rw[zyg];have o:(((c.1.toNat:Nat):Int),((c.2.toNat:Nat):Int))=c:=Prod.ext (by show ((c.1.toNat:Nat):Int)=c.1;lia) (by show ((c.2.toNat:Nat):Int)=c.2;lia);have y:(if s <= h then at_ (c::r) (h - s) else(0,0))=if h=s then c else if s+1 <= h then at_ r (h - (s+1)) else(0,0):=by
   unfold at_;by_cases e:h=s
   ·subst e;rw[zzn (zzr _),zzn rfl,zwO];rfl
   ·rw[zzi e];by_cases q:s <= h
    ·rw[zzn q,zzn (by lia),show h - s=(h - (s+1))+1 by lia];rfl
    ·rw[zzi q,zzi (by lia)]
  rw[y];by_cases z:0<c.1
  ·rw[zyI (by simpa using z),zzh,kZ,Y];show ((at_ (iw n ⟨(plc x hs:Nat),ks,(c.1.toNat:Nat),(c.2.toNat:Nat)⟩) h).1+_,_)=_;rw[E,u,o];by_cases e:h=s
   ·rw[zzn e,zzn e,zzi (by lia)];simp
   ·rw[zzi e,zzi e];simp
  ·rw[zyv (by simpa using z),Y];by_cases e:h=s
   ·rw[zzn e,zzi (by lia)];exact Prod.ext (by show (0:Int)=c.1;lia) (by show (0:Int)=c.2;lia)
   ·rw[zzi e]
theorem Hz(a b:List Row)(h:Nat):col (a++b) h=col a h++col b h:=by unfold col;rw[zze]
theorem yy{h:Nat}{k:List Int}(f:List Int×Row->List (List Int×Row)):∀L:List (List Int×Row),(∀x∈L,(∀p∈f x,p.1=x.1)/\sumP (col ((f x).map (·.2)) h)=at_ x.2 h) ->
  sumP (col (((L.flatMap f).filter λp=>decide (p.1=k)).map (·.2)) h)=sumP (col ((L.filter λp=>decide (p.1=k)).map (·.2)) h)
 |[],_=>rfl|x::L,H=>by
  obtain⟨d,g⟩:=H x zzg;have Y:=yy (k:=k) f L λy U=>H y (zzc _ U);rw[zyL,zyQ,zze,Hz,En,Y];by_cases e:x.1=k
  ·rw[zyI (by simpa using e),zzh];have:(f x).filter (λp=>decide (p.1=k))=f x:=List.filter_eq_self.mpr λp J=>by rw[d p J];simpa using e
   rw[this,g];exact(kZ _ _).symm
  ·rw[zyv (by simpa using e)];have:(f x).filter (λp=>decide (p.1=k))=[]:=zxZ.mpr λp J=>by rw[d p J];simpa using e
   rw[this];show (0+_,0+_)=_;simp
theorem Cm(o:BkT hs ms ps):gath hs.length ((ps.flatMap (csOf hs ms)).map λc=>(kpl c.kw ms,iw hs.length (c.rt hs ms)))=ps:=by
 have y:(ps.flatMap (csOf hs ms)).map (λc=>(kpl c.kw ms,iw hs.length (c.rt hs ms)))=ps.flatMap λx=>(csOf hs ms x).map λc=>(kpl c.kw ms,iw hs.length (c.rt hs ms)):=by rw[List.map_flatMap]
 have E:∀x∈ps,∀c∈x.2,0 <= c.2/\c.2 <= c.1:=λx J c d=>by have:=(o.kl x J).2.1.2 c d;exact⟨this.lo,this.hi⟩
 have key:∀x∈ps,∀p∈(csOf hs ms x).map (λc=>(kpl c.kw ms,iw hs.length (c.rt hs ms))),p.1=x.1:=λx J p L=>by obtain⟨c,d,rfl⟩:=zzs.mp L;exact(zC o J d).2.2.2
 have up:(ps.map (·.1)).Pairwise λa b=>ltI a b=true:=by rw[List.pairwise_map,zyA];intro i j e q Y;have:=o.up i j ps[i] ps[j] Y (zzt e) (zzt q);rw[wW _ _ (by rw[(o.kl _ (zyP e)).1,(o.kl _ (zyP q)).1])]at this;exact this
 have e1:bJ hs.length ((ps.flatMap (csOf hs ms)).map λc=>(kpl c.kw ms,iw hs.length (c.rt hs ms)))=bJ hs.length ps:=by
  rw[y];refine zu (λk=>⟨λn=>?_,λn=>?_⟩) λk _=>?_
  ·obtain⟨p,L,rfl⟩:=zzs.mp n;obtain⟨x,J,L⟩:=zxK.mp L;rw[key x J p L];exact zzs.mpr ⟨x,J,rfl⟩
  ·obtain⟨x,J,rfl⟩:=zzs.mp n;obtain⟨c,d,g⟩:=(o.kl x J).2.2;obtain⟨i,e⟩:=zyt.mp d;obtain⟨U,hi2⟩:=zzx.mp e;have u:i<hs.length:=by rw[←(o.kl x J).2.1.1];exact U
   have G:(hs[i],c)∈hs.zip x.2:=zyt.mpr ⟨i,by rw[zyB];exact⟨zzt u,e⟩⟩;have r:(⟨hs[i],wds ms x.1,numS c.1,numS c.2,c.1.toNat,c.2.toNat⟩:Cs)∈csOf hs ms x:=zzs.mpr ⟨(hs[i],c),zzY.mpr ⟨G,by simpa using g⟩,rfl⟩;refine zzs.mpr ⟨_,zxK.mpr ⟨x,J,zzs.mpr ⟨_,r,rfl⟩⟩,?_⟩;exact(zC o J r).2.2.2
  ·unfold sums;apply zzR;intro h l;have l:=zxp.mp l;refine yy _ ps λx J=>⟨key x J,?_⟩;have A:=(o.kl x J).2.1.1;have s:=yx (hs:=hs) l (kpl (wds ms x.1) ms) hs x.2 0 A.symm (by lia) (λi e=>by rw[vE o.hd e];lia) (E x J);rw[zzn (zya _),Nat.sub_zero]at s;rw[←s];unfold col csOf;rw[zzB,zzB,zzB];rfl
 unfold gath;rw[e1,zE up λp L=>(o.kl p L).2.1.1];exact List.filter_eq_self.mpr λc d=>triedB_iff.mpr (o.kl c d).2.2
theorem vF(o:BkT hs ms ps):Hu hs ms (ps.flatMap (csOf hs ms))=.tup [nmD hs ms,.tup [.int hs.length,.tup (ms.map λm=>.int m.2.length),.tup (ps.map cp)]]:=by unfold Hu;rw[Cm o]
theorem Cn(h:x∈ws):∃d:plc x ws<ws.length,ws[plc x ws]=x:=by have d:plc x ws<ws.length:=zxe ⟨x,h,by simp⟩;exact⟨d,zzP (zwL (p:=λy=>decide (y=x)) (w:=d))⟩
theorem Co:∀(ms:List Mk) (kw:List Str),kw.length=ms.length->(∀(i:Nat) (x:Str) (m:Mk),kw[i]? = some x->ms[i]? = some m->x∈m.2) ->
  wds ms (kpl kw ms)=kw/\(kpl kw ms).length=ms.length/\∀(i:Nat) (k:Int) (m:Mk),(kpl kw ms)[i]? = some k->ms[i]? = some m->0 <= k/\k<m.2.length
 |[],[],_,_=>⟨rfl,rfl,λi k m h=>by simp[kpl]at h⟩
 |[],_::_,h,_=>by simp at h
 |_::_,[],h,_=>by simp at h
 |m::ms,x::kw,h,j=>by
  obtain⟨J,L,U⟩:=Co ms kw (by simpa using h) (λi a b d g=>j (i+1) a b (by simpa using d) (by simpa using g));obtain⟨l,n⟩:=Cn (j 0 x m rfl rfl);have e:kpl (x::kw) (m::ms)=(plc x m.2:Int)::kpl kw ms:=rfl;rw[e];refine⟨?_,by rw[zzm,zzm,L],λi k b d g=>?_⟩
  ·show m.2.getD ((plc x m.2:Nat):Int).toNat Str.empty::wds ms (kpl kw ms)=_;rw[J,zzM,zzC,zzt l,n];rfl
  ·cases i with
   |zero =>
    simp at d g;subst d g;lia
   |succ i=>exact U i k b (by simpa using d) (by simpa using g)
theorem vG{x:Int×Int}(J:0<x.1):∀(h:Nat) (hs:List Str) (r:Row) (e:h<hs.length),hs.length=r.length->(∀(j:Nat) (y:Int×Int),j <= h->r[j]? = some y->y.1 <= 0) ->
  (hs.zip (r.set h x)).filter (λp=>decide (0<p.2.1))=(hs[h],x)::(hs.zip r).filter λp=>decide (0<p.2.1)
 |_,[],_,e,_,_=>by simp at e
 |_,_::_,[],_,g,_=>by simp at g
 |0,n::hs,y::r,_,_,d=>by have:=d 0 y (zzr 0) rfl;rw[List.set_cons_zero,zyg,zyg,zyI (by simpa using J),zyv (by simp;lia)];rfl
 |h+1,n::hs,y::r,e,g,d=>by have:=d 0 y (zya _) rfl;rw[List.set_cons_succ,zyg,zyg,zyv (by simp;lia),zyv (by simp;lia)];exact vG J h hs r (by simpa using e) (by simpa using g) λj z hj l=>d (j+1) z (by lia) (by simpa using l)
theorem jT:∀{a b c:List Int},HT.lexLt a b=true->HT.lexLt b c=true->HT.lexLt a c=true
 |a::as,b::bs,c::cs,e,d=>by
  rw[HT.lexLt_cons]at e d ⊢;by_cases e1:a=b
  ·subst e1;rw[zzn rfl]at e;by_cases e2:a=c
   ·rw[zzn e2]at d ⊢;exact jT e d
   ·rw[zzi e2]at d ⊢;exact d
  ·rw[zzi e1]at e;have e:=zzP e;by_cases e2:b=c
   ·subst e2;rw[zzi e1];exact zzj e
   ·rw[zzi e2]at d;have d:=zzP d;rw[zzi (by lia)];exact zzj (by lia)
 |[],_::_,_::_,_,_=>rfl|[],_::_,[],_,h=>by simp[HT.lexLt]at h
 |_::_,_::_,[],_,h=>by simp[HT.lexLt]at h
 |[],[],_,h,_=>by simp[HT.lexLt]at h
 |_::_,[],_,h,_=>by simp[HT.lexLt]at h
theorem Cp{a c:List Int}{j k:Int}(e:gtP b j a i=true)(d:gtP c k b j=true):gtP c k a i=true:=by
 unfold gtP at *;by_cases e1:b=a
 ·subst e1;rw[zzn rfl]at e;by_cases e2:c=b
  ·rw[zzn e2]at d ⊢;exact zzj (by have:=zzP e;have:=zzP d;lia)
  ·rw[zzi e2]at d ⊢;exact d
 ·rw[zzi e1]at e;by_cases e2:c=b
  ·subst e2;rw[zzi e1];exact e
  ·rw[zzi e2]at d;have t:=jT e d;rw[zzi (λz=>by rw[z,pY]at t;exact zzJ t)];exact t
structure ClOk(hs:List Str)(ms:List Mk)(cells:List (List Int×Row)):Prop where
 kl:∀c∈cells,c.1.length=ms.length/\RowN 100 hs.length c.2/\nB c.2
 kb:∀c∈cells,∀x∈c.2,x.1<10^30
 kk:∀c∈cells,∀(i:Nat) (k:Int) (m:Mk),c.1[i]? = some k->ms[i]? = some m->0 <= k/\k<m.2.length
 up:cells.Pairwise λx y=>HT.lexLt x.1 y.1=true
theorem Ly{ms:List Mk}{k:List Int}{r:Row}{j:Nat}{y:Int×Int}(J:j<hs.length)(e:r[j]? = some y)(L:0<y.1):(⟨hs[j],wds ms k,numS y.1,numS y.2,y.1.toNat,y.2.toNat⟩:Cs)∈csOf hs ms (k,r) :=
 zzs.mpr ⟨(hs[j],y),zzY.mpr ⟨zyt.mpr ⟨j,by rw[zyB];exact⟨zzt J,e⟩⟩,by simpa using L⟩,rfl⟩
theorem yA{hs:List Str}{ms:List Mk}(H:hs.Nodup)(G:∀m∈ms,m.2.Nodup):∀cs:List Cs,(∀c∈cs,CsOk hs ms c.hn c.kw c.a c.b c.t c.w)->cs.Pairwise (Bh hs ms)->∃cells,cells.flatMap (csOf hs ms)=cs/\ClOk hs ms cells
 |[],_,_=>⟨[],rfl,⟨λ_ h=>(nomatch h),λ_ h=>(nomatch h),λ_ h=>(nomatch h),.nil⟩⟩
 |c::cs,co,s=>by
  obtain⟨T,s⟩:=zxh.mp s;obtain⟨cells,e,ok⟩:=yA H G cs (λd hd=>co d (zzc _ hd)) s;have o:=co c zzg;obtain⟨w1,w2,w3⟩:=Co ms c.kw o.kl o.kk;obtain⟨I,p2⟩:=Cn o.hh;obtain⟨N,a2⟩:=tI o.na o.ta;obtain⟨Q,b2⟩:=tI o.nb o.tb;have t0:=o.t0;have tw:=o.tw;have cc:(⟨hs[plc c.hn hs],wds ms (kpl c.kw ms),numS (c.t:Int),numS (c.w:Int),(c.t:Int).toNat,(c.w:Int).toNat⟩:Cs)=c:=by rw[p2,w1,N,Q,zzM,zzM]
  have cn:Cnt 100 (c.t:Int) (c.w:Int):=vp (by lia) (by lia) (by
   unfold Bd;have e:(2:Nat)^100=1267650600228229401496703205376:=by decide
   rw[e];show ((c.t:Nat):Int).natAbs<_;lia)
  have key:∀{k:List Int} {r:Row},r.length=hs.length->k=kpl c.kw ms->(∀(j:Nat) (y:Int×Int),j <= plc c.hn hs->r[j]? = some y->y.1 <= 0)->csOf hs ms (k,r.set (plc c.hn hs) (c.t,c.w))=c::csOf hs ms (k,r):=λ{k r} hl Y h0=>by subst Y;unfold csOf;rw[vG (by show (0:Int)<(c.t:Nat);lia) _ hs r I hl.symm h0,zzh];exact congrArg (· :: _) cc
  have row:∀{r:Row},RowN 100 hs.length r->(∀x∈r,x.1<10^30)->RowN 100 hs.length (r.set (plc c.hn hs) (c.t,c.w))/\nB (r.set (plc c.hn hs) ((c.t:Int),(c.w:Int)))/\∀x∈r.set (plc c.hn hs) ((c.t:Int),(c.w:Int)),x.1<10^30:=λ{r} h hb=>by
   refine⟨⟨by rw[List.length_set];exact h.1,λx J=>?_⟩,⟨((c.t:Int),(c.w:Int)),?_,by show (0:Int)<(c.t:Nat);lia⟩,λx J=>?_⟩
   ·rcases zxG J with J|rfl
    ·exact h.2 x J
    ·exact cn
   ·exact zyt.mpr ⟨plc c.hn hs,by rw[zxq (by rw[h.1];exact I)]⟩
   ·rcases zxG J with J|rfl
    ·exact hb x J
    ·show ((c.t:Nat):Int)<_;lia
  have z0:RowN 100 hs.length (List.replicate hs.length ((0,0):Int×Int)):=⟨zwf,λx J=>by rw[zyq J];exact vp (zye 0) (zye 0) (by unfold Bd;exact Nat.two_pow_pos _)⟩;have z1:csOf hs ms (kpl c.kw ms,List.replicate hs.length ((0,0):Int×Int))=[]:=by unfold csOf;rw[zwT,zxZ];intro p hp;rw[zyq (zyY hp).2];decide
  have z2:∀x∈List.replicate hs.length ((0,0):Int×Int),x.1<10^30:=λx J=>by rw[zyq J];decide
  have M:=key (k:=kpl c.kw ms) (r:=List.replicate hs.length ((0,0):Int×Int)) zwf rfl λ(j:Nat) (y:Int×Int) _ U=>by have e:=zyq (zzI U);rw[e];exact zye 0
  rw[z1]at M;obtain⟨z,B,C⟩:=row z0 z2;have new:(∀x∈cells,HT.lexLt (kpl c.kw ms) x.1=true)->∃cells,cells.flatMap (csOf hs ms)=c::cs/\ClOk hs ms cells:=λi=>by
   refine⟨(kpl c.kw ms,(List.replicate hs.length ((0,0):Int×Int)).set (plc c.hn hs) (c.t,c.w))::cells,by rw[zyL,M,e];rfl,⟨λx J=>?_,λx J=>?_,λx J=>?_,zxh.mpr ⟨i,ok.up⟩⟩⟩
   ·rcases zzk.mp J with rfl|J
    ·exact⟨w2,z,B⟩
    ·exact ok.kl x J
   ·rcases zzk.mp J with rfl|J
    ·exact C
    ·exact ok.kb x J
   ·rcases zzk.mp J with rfl|J
    ·exact w3
    ·exact ok.kk x J
  cases cells with
  |nil=>exact new λ_ h=>nomatch h
  |cons g l =>
   obtain⟨g,r⟩:=g;obtain⟨ol,L,v⟩:=ok.kl (g,r) zzg;have A:=ok.kk (g,r) zzg;have E:∀(j:Nat) (y:Int×Int),r[j]? = some y->0<y.1->gtP g (j:Int) (kpl c.kw ms) (plc c.hn hs)=true:=λj y q U=>by
    have u:j<hs.length:=by rw[←L.1];exact(zzx.mp q).1
    have:=T _ (by rw[←e,zyL];exact zyn _ (Ly (hs:=hs) (ms:=ms) (k:=g) u q U));unfold Bh at this;rw[show kpl (wds ms g) ms=g from tK ms g ol G A,vE H u]at this;exact this
   by_cases Y:g=kpl c.kw ms
   ·obtain⟨r1,r2,r3⟩:=row L (ok.kb (g,r) zzg);refine⟨(g,r.set (plc c.hn hs) (c.t,c.w))::l,?_,⟨λx J=>?_,λx J=>?_,λx J=>?_,zxh.mpr (zxh.mp ok.up)⟩⟩
    ·rw[zyL,key L.1 Y λj y u q=>?_,←e,zyL]
     ·rfl
     ·apply Int.not_lt.mp;intro U;have:=E j y q U;unfold gtP at this;rw[zzn Y]at this;have:=zzP this;lia
    ·rcases zzk.mp J with rfl|J
     ·exact⟨ol,r1,r2⟩
     ·exact ok.kl x (zzc _ J)
    ·rcases zzk.mp J with rfl|J
     ·exact r3
     ·exact ok.kb x (zzc _ J)
    ·rcases zzk.mp J with rfl|J
     ·exact A
     ·exact ok.kk x (zzc _ J)
   ·obtain⟨y,U,n⟩:=v;obtain⟨j,ej⟩:=zyt.mp U;have lt:=E j y ej n;unfold gtP at lt;rw[zzi Y]at lt;refine new λx J=>?_;rcases zzk.mp J with rfl|J
    ·exact lt
    ·exact jT lt ((zxh.mp ok.up).1 x J)
theorem tN:∀{n:Nat} {ws:List Str},ws.length=n->(metS ws).length=n->ws.Nodup/\∀x,x∈metS ws↔x∈ws
 |0,ws,h,_=>by rw[zzK.mp h];exact⟨.nil,λx=>Iff.rfl⟩
 |n+1,ws,h,d=>by
  rcases zwH ws with rfl|⟨p,x,rfl⟩
  ·simp at h
  rw[zwh]at h d ⊢;have Y:p.length=n:=by simpa using h
  have le:=fu p;rw[oW]at d ⊢;unfold addS at d ⊢;by_cases J:x∈metS p
  ·rw[zzn J]at d;lia
  ·rw[zzi J]at d ⊢;obtain⟨g,L⟩:=tN Y (by simpa using d);refine⟨zyK.mpr ⟨g,by simp,λa e b U=>?_⟩,λy=>?_⟩
   ·rw[zzw.mp U];rintro rfl;exact J ((L a).mpr e)
   ·rw[zzo,zzo,L]
theorem Cq(z:Str):Txt.join nlS ((linW z).map (Txt.join spS))=z:=by unfold linW;rw[zzB];have:(Txt.join spS ∘ λl=>Txt.split l spS)=id:=funext λl=>(zyh ..).trans (zxS l spS);rw[this,zwV];exact(zyh ..).trans (zxS z nlS)
theorem yB(h:nmsB ws=true):(∀x∈ws,isNm x=true)/\ws.Nodup:=by unfold nmsB at h;simp only[zzX,zyw,zyb]at h;exact⟨h.1,(tN rfl h.2).1⟩
theorem HA{cs:List Cs}(G:Zt z)(sp:linW z=(aB::hs)::ms.map mkLn++cs.map Cs.ln)(g:Gd hs ms cs):∃d,BkT hs ms d/\cz hs ms d=z:=by
 obtain⟨r,n⟩:=yB g.hn;obtain⟨d,e,ok⟩:=yA n (λm l=>(yB (g.mo.nm m l).2.2.2.1).2) cs g.co g.cb;have U:aD hs ms d=linW z:=by unfold aD;rw[e,sp]
 refine⟨d,⟨g.h2,g.h6,r,n,g.mo.l5,λm l=>?_,g.mo.nd,by rw[U,zza];exact G.nl,ok.kl,ok.kb,ok.kk,λi j x y J A E=>?_⟩,?_⟩
 ·obtain⟨o,Y,q,L,_⟩:=g.mo.nm m l;exact⟨o,Y,q,(yB L).1,(yB L).2⟩
 ·obtain⟨s,rfl⟩:=zzx.mp A;obtain⟨u,rfl⟩:=zzx.mp E;exact zyA.mp ok.up i j s u J
 ·unfold cz;rw[U];exact Cq z
def Fp:DSp:=λd Q=>d=[.pen]/\∀t w:Int,Cnt 95 t w->Q (.tup [.int t,.int w])
theorem vH:bb Fp:=by rintro ds P P' f ⟨a,h⟩;exact⟨a,λx y l=>f _ (h x y l)⟩
theorem HB{t r:Int}(J:0 <= t)(d:0 <= r)(h1:r <= 1000000):0 <= t*r / 1000000/\t*r / 1000000 <= t:=by have e:0 <= t*r:=Int.mul_nonneg J d;have g:t*r <= t*1000000:=Int.mul_le_mul_of_nonneg_left (by lia) J;exact⟨Int.ediv_nonneg e (by decide),Int.ediv_le_of_le_mul (by decide) g⟩
theorem vI(T:Tx K mg):FnOk P w K mg base CX0 2 T.iJ T.gM ["_law_pen_here"] (spD K 1 Fp):=by
 refine fnD (k:=1) T.iV.F sc__law_count (λcdv A outer s H E J=>(ad (dse 1 sc__law_count.nd (dcl T.aq (ar T) au J (aa (dv 0) (aa ae ac))))
   (ad (aI (az (cY J) (dv 1) ae (ay _)) (af (aA (bA (aa ae (aa ae ac))))) aw)
   (ad (dse 2 sc__law_count.nd (bc cg ae (dcl T.aq (ar T) au J (aa (dv 0) (aa ae ac)))))
   (aO (aI (az (cY J) (dv 1) ae (ay _)) (af (dse 2 sc__law_count.nd (bc cg (bc EM (bc cg ae (dcl T.aq (ar T) au J (aa (dv 0) (aa (bc uX ae ae) ac)))) (bc uX ae ae)) (dcl T.aq (ar T) au J (aa (dv 0) (aa (bc uX ae ae) ac)))))) aw)
   (ad (dse 3 sc__law_count.nd (bc GM (bc EM (dv 2) (dcl T.aq (ar T) au J (aa (dv 0) (aa (bc cg (bc uX ae ae) ae) ac)))) (bc uX ae ae)))
   (aO (aI (az nL (dv 1) ae (ay _)) (af (dse 3 sc__law_count.nd (dix (ao (aN (aa ae (aa (dv 2) ac)))) (dcl T.aq (ar T) au J (aa (dv 0) (aa ae ac)))))) aw)
   (af (aA (bA (aa (dv 2) (aa (dv 3) ac)))))))))))) (λds Q hl h=>?_)
 obtain⟨rfl,h⟩:=h;have y:Cnt 95 0 0:=⟨by decide,by decide,ES,ES⟩;refine⟨rfl,⟨by decide,by decide⟩,λL o Y=>⟨⟨rfl,rfl⟩,λ_=>⟨sz,h 0 0 y⟩,λ_=>⟨rfl,⟨by decide,by decide⟩,λr n U=>?_⟩⟩⟩;refine⟨λj=>∃t:Int,0 <= t/\t <= 3*10^28/\j=[.val .pen,.val (.int L),.val (.int t),.nil],⟨⟨rfl,rfl⟩,λ_=>?_,λ_=>⟨1+r,by lia,by lia,rfl⟩⟩,?_⟩
 ·refine⟨cpow,rfl,⟨by decide,by decide⟩,λp p0 p1=>⟨cpow,?_,cpow,rfl,⟨by decide,by decide⟩,λq q0 q1=>⟨_,?_,?_,rfl⟩⟩⟩
  all_goals simp only[Int.reduceToNat,Int.reducePow]at *
  ·exact .inl ⟨by lia,by lia⟩
  ·lia
  ·lia
 rintro _ ⟨t,g,t1,rfl⟩;have u:Bd 95 t:=by
  show t.natAbs<2^95;have e:(2:Nat)^95=39614081257132168796771975168:=by decide
  rw[e];lia
 refine⟨cpow,rfl,⟨by decide,by decide⟩,λr n U=>?_⟩;simp only[Int.reduceToNat,Int.reducePow,Int.reduceAdd]at U;refine⟨.inr (.inl ⟨by lia,by lia⟩),cpow,⟨by decide,oN (by decide) (by decide)⟩,?_⟩;have l:=HB g n (by lia);refine⟨λj=>∃w:Int,0 <= w/\w <= t/\j=[.val .pen,.val (.int L),.val (.int t),.val (.int w)],Br.di (λ_=>?_) (λ_=>⟨t*r / 1000000,l.1,l.2,rfl⟩),?_⟩
 ·refine⟨sz,rfl,⟨by decide,by decide⟩,λk G I=>pw G I λd hd=>?_⟩;simp only[zzk,zyx,zxJ]at hd;rcases hd with rfl|rfl
  ·exact⟨0,by decide,g,rfl⟩
  ·exact⟨t,g,zye _,rfl⟩
 rintro _ ⟨w,o,Y,rfl⟩;exact⟨sz,h t w (vp o Y u)⟩
theorem ck:∀(n:Nat) (lo:Int),(ig lo n).length=n
 |0,_=>rfl|n+1,lo=>by rw[ig,zzm,ck n]
def abcS:Str:=Str.ofString "abcdefghijklmnopqrstuvwxyz"
theorem Fq(e:0 <= i)(g:i<26):∃c,atI abcS.cps.toList i=some c/\c=97+i.toNat:=by
 have l:abcS.cps.toList.length=26:=by decide +kernel
 obtain⟨d,e1,e2⟩:=xR (xs:=abcS.cps.toList) e (by rw[l];exact g);refine⟨d,e1,?_⟩;have key:∀i:Fin 26,abcS.cps.toList[i.val]? = some (97+i.val):=by decide +kernel
 have:=key ⟨i.toNat,by lia⟩;rw[e2]at this;exact zzV this
def Sm(x:Str):Prop:=∀c∈x.cps.toList,97 <= c/\c <= 122
theorem Sm.one(h:97 <= c/\c <= 122):Sm ⟨#[c]⟩:=λd hd=>by
 have:d=c:=by simpa using hd
 lia
theorem Sm.nm(h:Sm x)(d:1 <= x.length)(J:x.length <= 8):isNm x=true:=by unfold isNm;rw[zzj d,zzj J,yr h];rfl
theorem zF(h:∀x∈ws,Sm x/\x.length=1):Sm (Txt.join Str.empty ws)/\(Txt.join Str.empty ws).length=ws.length:=by
 have e0:Txt.join Str.empty ws=Str.join Str.empty ws:=zyh ..;rw[e0]
 induction ws with
 |nil=>exact⟨λc d=>(by cases d),rfl⟩
 |cons x r j =>
  cases r with
  |nil=>exact⟨(h x (by simp)).1,(h x (by simp)).2⟩|cons y r =>
   obtain⟨U,Y⟩:=j (λz g=>h z (zzc _ g)) (zyh ..);obtain⟨l,n⟩:=h x (by simp);have e:Str.join Str.empty (x::y::r)=x++Str.empty++Str.join Str.empty (y::r):=rfl;have L:(Str.join Str.empty (x::y::r)).cps.toList=x.cps.toList++(Str.join Str.empty (y::r)).cps.toList:=by rw[e,zxI,zxI,zxa,zxa];show (x.cps.toList++[])++_=_;rw[zzv]
   refine⟨λc d=>?_,?_⟩
   ·rw[L]at d;rcases zzo.mp d with d|d
    ·exact l c d
    ·exact U c d
   ·have J:∀z:Str,z.length=z.cps.toList.length:=λz=>zzF.symm;rw[J,L,zzd,←J,←J,Y,n,zzm,zzm,zzm];lia
theorem HC(hs:Sm x)(j:x.length <= 7){n:Int}(Y:0 <= n)(l:n <= x.length)(g:97 <= c/\c <= 122) :
  isNm (Txt.slice x none (some n)++⟨#[c]⟩)=true/\(Txt.slice x none (some n)++(⟨#[c]⟩:Str)).cps.toList.getLast? = some c/\(Txt.slice x none (some n)).length <= 7:=by
 have U:x.cps.toList.length=x.length:=zzF;have e:Txt.slice x none (some n)=⟨((x.cps.toList.drop 0).take (n - 0).toNat).toArray⟩:=StrLaws.sliceText_to ⟨Y,by rw[U];exact l⟩;have J:(Txt.slice x none (some n)++(⟨#[c]⟩:Str)).cps.toList=x.cps.toList.take n.toNat++[c]:=by rw[e,zxI,zxa];simp
 have L:(Txt.slice x none (some n)++(⟨#[c]⟩:Str)).length=(x.cps.toList.take n.toNat++[c]).length:=by rw[←J];exact zzF.symm
 refine⟨Sm.nm (λd hd=>?_) ?_ ?_,?_,zzq (Txt.slice_le _ _ _) j⟩
 ·rw[J]at hd;rcases zzo.mp hd with hd|hd
  ·exact hs d (zyV hd)
  ·rw[zzw.mp hd];exact g
 ·rw[L,zzd];simp
 ·rw[L,zzd,zyl];simp;lia
 ·rw[J];simp
structure Wds(n:Int)(ws:List Str):Prop where
 l:(ws.length:Int)=n
 m:∀x∈ws,isNm x=true
 d:ws.Nodup
def Fr:DSp:=λd Q=>∃n:Int,d=[.pen,.int n]/\(0 <= n/\n <= 7)/\∀ws,Wds n ws->Q (.lst (ws.map .str))
theorem ix:bb Fr:=by rintro ds P P' f ⟨n,a,b,h⟩;exact⟨n,a,b,λws o=>f _ (h ws o)⟩
theorem iy(T:Tx K mg):FnOk P w K mg base CX0 2 T.iH T.gJ ["_law_pen_here","_law_many"] (spD K 2 Fr):=by
 refine fnD (k:=1) T.dg.F sc__law_words (λcdv A outer s H E G=>(ad (dse 2 sc__law_words.nd al)
   (ad (dse 3 sc__law_words.nd (dcl T.aq (ar T) au G (aa (dv 0) (aa ae ac))))
   (ad (dse 4 sc__law_words.nd (fB al (ao (PCD.pld (aH (N':=["_law_j","_law_letters","_law_pen_here"]) rfl rfl (by decide +kernel) rfl (.own (.cap (j:=2) rfl (by first|exact Or.inl rfl|exact Or.inr rfl) rfl (.cap (j:=0) rfl (by first|exact Or.inl rfl|exact Or.inr rfl) rfl .nil))) (by decide +kernel) (cu rfl T.dF (aa (dcl T.aq (ar T) au G (aa (dv 0) (aa ae ac))) ac)) (λB=>(dgb 0)) (λB=>aM) (λB=>(ve (dv 1) (dcl T.aq (ar T) au G (aa (dv 2) (aa ae ac))) (λ_ _=>rfl))))))))
   (ad (dow 5 sc__law_words.nd (aN ac))
   (aO (cI zyc rfl (cu rfl T.dF (aa (dv 1) ac)) (dgn 6 sc__law_words.nd) (ad (dse 7 sc__law_words.nd (dcl T.aq (ar T) au G (aa (dv 0) (aa (bc cg (aj gv rfl T.ba zzA (aa (dv 4) ac)) ae) ac))))
   (af (ii (pv 5) (bc mz (vf (dv 4) bj (aS (dv 7))) (ve (dv 2) (bc Jg (bc cg (dv 3) (dv 6)) ae) (λ_ _=>rfl)))))))
   (af (aA (dv 5))))))))) (λds Q hl h=>?_)
 obtain⟨n,rfl,⟨n0,n7⟩,h⟩:=h;refine⟨rfl,⟨by decide,by decide⟩,λl t0 t1=>⟨Str.empty,rfl,rfl,⟨by decide,by decide⟩,λm m0 m1=>⟨⟨by lia,by lia⟩,?_⟩⟩⟩;refine bn (λpre L o=>∃ws:List Str,L=ws.map .str/\ws.length=pre.length/\(∀x∈ws,Sm x/\x.length=1)/\∃s,o=[s,.val (.str abcS),.val .pen]) (λL o p=>?_) (λpre d post L o Y e p hY=>?_) _ ⟨[],rfl,rfl,λx J=>by simp at J,_,rfl⟩
 rotate_left
 ·obtain⟨ws,rfl,M,N,s,rfl⟩:=p;have pl:pre.length<8:=by
   have:=congrArg List.length e;rw[ck,zzd,zzm]at this;lia
  refine Br.t ⟨rfl,⟨by decide,by decide⟩,λi i0 i1=>?_⟩;obtain⟨c,b,C⟩:=Fq i0 i1;refine⟨by decide +kernel,c,b,?_,hY _ _ ⟨ws++[⟨#[c]⟩],by rw[zze];rfl,by simp[M],λx J=>?_,_,rfl⟩⟩
  ·rw[zza,M];exact zzE pl (by decide)
  ·rcases zzo.mp J with J|J
   ·exact N x J
   ·rw[zzw.mp J];exact⟨Sm.one (by lia),rfl⟩
 ·obtain⟨ws,rfl,M,N,s,rfl⟩:=p;rw[ck]at M;obtain⟨so,sl⟩:=zF N;refine⟨ws,⟨rfl,pW (B:=1) (λy hy=>by rw[(N y hy).2];exact zzr _) ?_⟩,?_⟩
  ·have:Str.empty.length=0:=rfl;rw[this];lia
  generalize Txt.join Str.empty ws=stem at so sl;have u:stem.length <= 7:=by lia
  refine⟨sz,λo=>∃(g:List Str) (U u:Sl),Wds n g/\o=[.val .pen,.val (.int n),.val (.str abcS),.val (.int l),.val (.str stem),.own (g.map .str),U,u],⟨⟨by lia,by lia⟩,?_⟩,?_⟩
  ·refine eY (λk o=>∃(g:List Str) (U u:Sl),(g.length:Int)=k/\(∀x∈g,isNm x=true)/\(∀(j:Nat) (x:Str),g[j]? = some x->x.cps.toList.getLast? = some (97+((l+j) % 26).toNat))/\o=[.val .pen,.val (.int n),.val (.str abcS),.val (.int l),.val (.str stem),.own (g.map .str),U,u]) _ _ ?_ ?_ _ ⟨[],_,_,rfl,λx J=>by simp at J,λj x J=>by simp at J,rfl⟩
   ·rintro o ⟨g,U,a,ul,v,I,rfl⟩;refine⟨g,U,a,⟨by lia,v,?_⟩,rfl⟩;refine zyA.mpr λi j hi hj hij z=>?_;have e1:=I j g[j] (zzt hj);have e2:=I i g[j] (by rw[←z];exact zzt hi);rw[e1]at e2;have:=zzV e2;lia
   ·rintro k o X k0 k1 ⟨g,U,a,ul,v,I,rfl⟩ hX;refine⟨zzq u (by decide),rfl,⟨by lia,by lia⟩,λz z0 z1=>?_⟩;obtain⟨c,b,C⟩:=Fq (i:=(l+k) % 26) (zxx _ (by decide)) (zxg _ (by decide));have hc:97 <= c/\c <= 122:=by lia
    obtain⟨o1,o2,o3⟩:=HC so u z0 (by lia) hc;refine⟨trivial,stem,rfl,zzq u (by decide),show (0:Int)<26 by decide,by decide +kernel,c,b,?_,?_,hX _ ⟨g++[Txt.slice stem none (some z)++⟨#[c]⟩],_,_,by simp;lia,λx J=>?_,λj x J=>?_,by rw[zze];rfl⟩⟩
    ·exact zzq (show _ <= 8 by show _+1 <= 8;lia) (by decide)
    ·rw[zza];exact zzG (show g.length <= 10 by lia) (by decide)
    ·rcases zzo.mp J with J|J
     ·exact v x J
     ·rw[zzw.mp J];exact o1
    ·by_cases q:j<g.length
     ·rw[zyk q]at J;exact I j x J
     ·rw[zzT (by lia)]at J;have q2:j - g.length=0:=by
       cases q3:j - g.length with
       |zero=>rfl|succ r=>rw[q3]at J;simp at J
      rw[q2]at J;have J:Txt.slice stem none (some z)++(⟨#[c]⟩:Str)=x:=by simpa using J
      subst J;rw[o2,C,show (j:Int)=k by lia]
  ·rintro _ ⟨g,U,a,wd,rfl⟩;exact h g wd
structure NmT(hs:List Str)(ms:List Mk):Prop where
 h2:2 <= hs.length
 h6:hs.length <= 6
 hn:∀x∈hs,isNm x=true
 hd:hs.Nodup
 m5:ms.length <= 5
 mn:∀m∈ms,isNm m.1=true/\1 <= m.2.length/\m.2.length <= 6/\(∀x∈m.2,isNm x=true)/\m.2.Nodup
 md:(ms.map (·.1)).Nodup
def Fs:DSp:=λd Q=>d=[.pen]/\∀hs ms,NmT hs ms->Q (nmD hs ms)
theorem vJ:bb Fs:=by rintro ds P P' f ⟨a,h⟩;exact⟨a,λhs ms o=>f _ (h hs ms o)⟩
theorem vK(T:Tx K mg):FnOk P w K mg base CX0 3 T.iT T.gG ["_law_pen_here"] (spD K 1 Fs):=by
 refine fnD (k:=2) T.iB.F sc__law_named (λcdv A outer s H E L=>(ad (dse 1 sc__law_named.nd (dcl T.dg (iy T) ix L (aa (dv 0) (aa (bc cg ae (dcl T.aq (ar T) au L (aa (dv 0) (aa ae ac)))) ac))))
   (ad (dow 2 sc__law_named.nd (aN ac))
   (aO (cI zyc rfl (aR (dcl T.dg (iy T) ix L (aa (dv 0) (aa (dcl T.aq (ar T) au L (aa (dv 0) (aa ae ac))) ac)))) (dgn 3 sc__law_named.nd) (af (ii (pv 2) (bA (aa (dv 3) (aa (dcl T.dg (iy T) ix L (aa (dv 0) (aa (bc cg ae (dcl T.aq (ar T) au L (aa (dv 0) (aa ae ac)))) ac))) ac))))))
   (af (aA (bA (aa (dv 1) (aa (dv 2) ac))))))))) (λds Q hl h=>?_)
 obtain⟨rfl,h⟩:=h;refine⟨rfl,⟨by decide,by decide⟩,λr r0 r1=>⟨rfl,2+r,rfl,⟨by lia,by lia⟩,λhs U=>⟨sz,?_⟩⟩⟩;have hl1:=U.l;refine⟨λo=>∃(ms:List Mk) (j:Sl),NmT hs ms/\o=[.val .pen,.val (.lst (hs.map .str)),.own (ms.map mkD),j],⟨rfl,⟨by decide,by decide⟩,λn n0 n1=>⟨rfl,n,rfl,⟨by lia,by lia⟩,λM I=>?_⟩⟩,?_⟩
 ·have hl2:=I.l;refine bS (λpre o=>∃(ms:List Mk) (J:List Str) (j:Sl),M=ms.map (·.1)++J/\pre=(ms.map (·.1)).map D.str/\(∀m∈ms,1 <= m.2.length/\m.2.length <= 6/\(∀x∈m.2,isNm x=true)/\m.2.Nodup)/\o=[.val .pen,.val (.lst (hs.map .str)),.own (ms.map mkD),j]) (λo y=>?_) (λpre d post o X e y a=>?_) _ ⟨[],M,_,rfl,rfl,λm g=>by simp at g,rfl⟩
  ·obtain⟨ms,J,j,e1,e2,G,rfl⟩:=y;have:J=[]:=by
    have:=congrArg List.length e2;rw[e1]at this;simp at this;exact this
   subst this;rw[zzv]at e1;have N:ms.length=M.length:=by rw[e1,zza]
   exact⟨ms,j,⟨by lia,by lia,U.m,U.d,by lia,λm g=>⟨I.m m.1 (by rw[e1];exact zzs.mpr ⟨m,g,rfl⟩),G m g⟩,by rw[←e1];exact I.d⟩,rfl⟩
  ·obtain⟨ms,J,j,e1,rfl,G,rfl⟩:=y;rw[e1,zze]at e;have e:=zzN e;cases J with
   |nil=>simp at e|cons u J =>
    rw[zzh]at e;injection e with e2 e3;subst e2;have N:=congrArg List.length e1;rw[zzd,zza]at N;refine⟨trivial,rfl,⟨by decide,by decide⟩,λq q0 q1=>⟨rfl,1+q,rfl,⟨by lia,by lia⟩,λks Y=>?_⟩⟩;have kl:=Y.l;refine⟨sz,?_,a _ ⟨ms++[(u,ks)],J,_,by rw[e1];simp,by rw[zze,zze];rfl,λm g=>?_,by rw[zze];rfl⟩⟩
    ·rw[zza];exact zzG (show ms.length <= 10 by lia) (by decide)
    ·rcases zzo.mp g with g|g
     ·exact G m g
     ·rw[zzw.mp g];exact⟨by show 1 <= ks.length;lia,by show ks.length <= 6;lia,Y.m,Y.d⟩
 ·rintro _ ⟨ms,j,no,rfl⟩;exact⟨sz,h hs ms no⟩
noncomputable def embB(f:List (List Int×Row)):List (List Key×D):=f.map λp=>(kI p.1,rowD p.2)
def KsOk(ms ks:List Int):Prop:=ks.length=ms.length/\∀i,i<ks.length->0 <= ks.getD i 0/\ks.getD i 0<ms.getD i 0
theorem KsOk.snoc{ms:List Int}(h:KsOk ms ks){x r:Int}(r0:0 <= r)(J:r<x):KsOk (ms++[x]) (ks++[r]):=by
 obtain⟨d,g⟩:=h;refine⟨by simp[d],λi j=>?_⟩;rw[zzd,zyF]at j;rw[zzC,zzC];by_cases z:i<ks.length
 ·have:=g i z;rw[zzC,zzC]at this;rw[zyk z,zyk (by lia)];exact this
 ·have e:i=ks.length:=by lia
  subst e;rw[zzT (zzr _),zzT (by lia),zwO,←d,zwO];exact⟨r0,J⟩
structure FOk(m:Nat)(ms:List Int)(f:List (List Int×Row)):Prop where
 nd:(f.map (·.1)).Nodup
 it:∀p∈f,KsOk ms p.1/\RowN 95 m p.2/\nB p.2
theorem FOk.put{ms:List Int}{f:List (List Int×Row)}(h:FOk m ms f){k:List Int}{r:Row}(d:KsOk ms k)(g:RowN 95 m r/\nB r):∃L,putA (embB f) (kI k) (rowD r)=embB L/\FOk m ms L/\L.length <= f.length+1:=by
 have j:((embB f).any λq=>decide (q.1=kI k))=f.any λq=>decide (q.1=k):=by unfold embB;rw[List.any_map];congr 1;funext q;simp[zr]
 unfold putA;rw[j];by_cases a:(f.any λq=>decide (q.1=k))=true
 ·rw[zzn a];refine⟨f.map λp=>if p.1=k then(p.1,r) else p,?_,⟨?_,λp J=>?_⟩,by rw[zza];lia⟩
  ·unfold embB;rw[zzB,zzB];apply zzR;intro p _;simp only[Function.comp,zr];split<;>rfl
  ·rw[zzB];have:f.map ((λx=>x.1) ∘ λp=>if p.1=k then(p.1,r) else p)=f.map (·.1):=by
    apply zzR;intro p _;simp only[Function.comp];split<;>rfl
   rw[this];exact h.nd
  ·obtain⟨q,U,rfl⟩:=zzs.mp J;split
   ·rename_i e;exact⟨by rw[e];exact d,g⟩
   ·exact h.it q U
 ·rw[zzi a];refine⟨f++[(k,r)],by unfold embB;rw[zze];rfl,⟨?_,λp J=>?_⟩,by simp⟩
  ·rw[zze];refine zyK.mpr ⟨h.nd,by simp,λx l y Y e=>?_⟩;have Y:y=k:=by simpa using Y
   subst Y;subst e;obtain⟨q,U,e⟩:=zzs.mp l;exact a (zwF.mpr ⟨q,U,by simpa using e⟩)
  ·rcases zzo.mp J with J|J
   ·exact h.it p J
   ·rw[zzw.mp J];exact⟨d,g⟩
theorem JW{f:List (List Int×Row)}{k:List Int}(h:k∈f.map (·.1)):∃p∈f,p.1=k/\my (embB f) (kI k)=some (rowD p.2):=by
 induction f with
 |nil=>simp at h|cons q t L =>
  by_cases e:q.1=k
  ·refine⟨q,zzg,e,?_⟩;unfold my embB;rw[zzh,zyo (by simpa[zr]using e)];rfl
  ·have d:k∈t.map (·.1):=by
    rw[zzh]at h;rcases zzk.mp h with h|h
    ·exact absurd h.symm e
    ·exact h
   obtain⟨p,g,j,J⟩:=L d;refine⟨p,zzc _ g,j,?_⟩;unfold my embB at J ⊢;rw[zzh,zyp (by simpa[zr]using e)];exact J
theorem vL{r:Row}(h:0<(r.map (·.1)).sum):nB r:=by
 induction r with
 |nil=>simp at h|cons c t L =>
  rw[zzh,zwC]at h;by_cases e:0<c.1
  ·exact⟨c,zzg,e⟩
  ·obtain⟨d,hd,J⟩:=L (by lia);exact⟨d,zzc _ hd,J⟩
theorem HD(d:cs.length <= 1000){x:Sl}(q:Q ((cs.map (·.1)).map D.int)):dl (cH 0) cJ (dOp gIx (dVar 0) (dC (.int 0))) (cs.map cm) [] [x] Q:=by exact JL d q
theorem Lz(J:List (List Key×D)):fzO (dvO J)=.dT (J.map (·.1)) (J.map (·.2)):=by unfold dvO;simp only[fzO];congr 1;rw[sN,zzB];apply zzR;intro p _;simp only[Function.comp,fzO]
noncomputable abbrev mkN(ms:List Mk):List Int:=ms.map λm=>(m.2.length:Int)
theorem JX{n:Int}(h:Bd 95 n):n<10^30:=by
 unfold Bd at h;have e:(2:Nat)^95=39614081257132168796771975168:=by decide
 rw[e]at h;lia
theorem yC{hs:List Str}{ms:List Mk}(d:hs.length <= 6):∀cs:List (List Int×Row),(cs.flatMap (csOf hs ms)).length <= 6*cs.length
 |[]=>by simp
 |c::cs=>by
  have ih:=yC (ms:=ms) d cs;rw[zyL,zzd,zzm];have:(csOf hs ms c).length <= 6:=by unfold csOf;rw[zza];refine zzq (zwg _ _) ?_;rw[zyM];lia
  lia
def Ft:DSp:=λe Q=>∃hs ms,e=[.pen,nmD hs ms]/\NmT hs ms/\∀d,BkT hs ms d->(aD hs ms d).length <= 48->Q (.tup (d.map cp))
theorem vM:bb Ft:=by rintro ds P P' f ⟨hs,ms,a,b,h⟩;exact⟨hs,ms,a,b,λc o l=>f _ (h c o l)⟩
theorem vN(T:Tx K mg):FnOk P w K mg base CX0 3 T.iI T.gR ["_law_pen_here","_law_names"] (spD K 2 Ft):=by
 refine fnD (k:=2) T.iQ.F sc__law_cells (λcdv A outer s H E hr=>(ad (pA (dv 1) (eV (n:=2) rfl (aC (dgn 2 sc__law_cells.nd) (aC (dgn 3 sc__law_cells.nd) cr))))
   (ad (Bv (i:=4) sc__law_cells.nd rfl (by first|exact Or.inl rfl|exact Or.inr rfl))
   (aO (cI zyc rfl (cu rfl T.dF (aa (dcl T.aq (ar T) au hr (aa (dv 0) (aa ae ac))) ac)) (dgn 5 sc__law_cells.nd) (ad (dse 6 sc__law_cells.nd (aQ eW rfl T.gQ rfl (aa (ao (PCD.pld (aH (N':=["_law_word","_law_some","_law_pen_here"]) rfl rfl (by decide +kernel) rfl (.own (.own (.cap (j:=0) rfl (by first|exact Or.inl rfl|exact Or.inr rfl) rfl .nil))) (by decide +kernel) (aR (dv 3)) (λB=>(eV (n:=2) rfl (aC (dgb 0) (aC (dgb 1) cr)))) (λB=>aM) (λB=>(dcl T.aq (ar T) au hr (aa (dv 2) (aa (aj aX rfl T.ba zzA (aa (dv 1) ac)) ac))))))) ac)))
   (ad (jH (i:=7) sc__law_cells.nd rfl rfl (aH (N':=["_law_house","_law_pen_here"]) rfl rfl (by decide +kernel) rfl (.own (.cap (j:=0) rfl (by first|exact Or.inl rfl|exact Or.inr rfl) rfl .nil)) (by decide +kernel) (aR (dv 2)) (λB=>(dgb 0)) (λB=>aM) (λB=>(dcl T.iV (vI T) vH hr (aa (dv 1) ac)))))
   (af (aI (az nL (aj Bo rfl T.Ey PyProof.Rows.boot_sum (aa (ao (PCD.pld (aH (N':=["_law_count_here"]) rfl rfl (by decide +kernel) rfl (.own .nil) (by decide +kernel) (aR (dv 7)) (λB=>(dgb 0)) (λB=>aM) (λB=>(dix (dv 0) ae))))) ac)) ae (ay _)) (af (GY hr (pv 4) (dv 6) (aQ eW rfl T.gQ rfl (aa (dv 7) ac)))) aw)))))
   (af (aA (aQ eW rfl T.gQ rfl (aa (ao (PCD.pld (aH (N':=["_law_kinds","_law_cells_here"]) rfl rfl (by decide +kernel) rfl (.own (.cap (j:=4) rfl (by first|exact Or.inl rfl|exact Or.inr rfl) rfl .nil)) (by decide +kernel) (aR (aj xZ rfl T.tY (by decide +kernel) (aa (dv 4) ac))) (λB=>(dgb 0)) (λB=>aM) (λB=>(bA (aa (dv 0) (aa (EV hr (dv 1) (dv 0) (λ_ _=>rfl)) ac))))))) ac)))))))) (λds Q hl h=>?_)
 obtain⟨hs,ms,rfl,no,h⟩:=h;have m5:=no.m5;have h6:=no.h6;refine⟨rfl,λg=>∃f:List (List Int×Row),FOk hs.length (mkN ms) f/\f.length <= 7/\∃a b c:Sl,g=[.val .pen,.val (nmD hs ms),.val (.lst (hs.map .str)),.val (.lst (ms.map mkD)),.obj (dvO (embB f)),a,b,c],⟨rfl,⟨by decide,by decide⟩,λn n0 n1=>⟨⟨by lia,by lia⟩,?_⟩⟩,?_⟩
 ·refine eY (λk g=>∃f:List (List Int×Row),FOk hs.length (mkN ms) f/\(f.length:Int) <= k/\∃a b c:Sl,g=[.val .pen,.val (nmD hs ms),.val (.lst (hs.map .str)),.val (.lst (ms.map mkD)),.obj (dvO (embB f)),a,b,c]) _ _ ?_ ?_ _ ⟨[],⟨zwU,λp M=>by simp at M⟩,by simp,_,_,_,rfl⟩
  ·rintro g ⟨f,l,fl,a,b,c,rfl⟩;exact⟨f,l,by lia,a,b,c,rfl⟩
  ·rintro k g X G I ⟨f,l,fl,a,b,c,rfl⟩ hX;refine bn (λpre L g=>∃(v C:List Mk) (ks:List Int),ms=v++C/\pre=v.map mkD/\L=ks.map D.int/\KsOk (mkN v) ks/\∃s s',g=[s,s',.val .pen]) (λL g u=>?_) (λpre d post L g Y e u hY=>?_) _ ⟨[],ms,[],rfl,rfl,rfl,⟨rfl,λi hi=>absurd hi (zyH i)⟩,_,_,rfl⟩
   ·obtain⟨v,C,ks,e1,e2,rfl,N,s,s',rfl⟩:=u;have:C=[]:=by
     have:=congrArg List.length e2;rw[e1]at this;simp at this;exact this
    subst this;rw[zzv]at e1;rw[←e1]at N;refine bn (λpre L g=>∃r:Row,L=r.map cm/\r.length=pre.length/\(∀c∈r,Cnt 95 c.1 c.2)/\∃s,g=[s,.val .pen]) (λL g u=>?_) (λpre d post L g Y e u hY=>?_) _ ⟨[],rfl,rfl,λc o=>by simp at o,_,rfl⟩
    ·obtain⟨r,rfl,hl,o,_⟩:=u;rw[zza]at hl;refine HD (by lia) (sS (Br.di (λz=>?_) (λz=>hX _ ⟨f,l,by lia,_,_,_,rfl⟩)));obtain⟨f',e,a4,fl'⟩:=l.put (k:=ks) (r:=r) N ⟨⟨hl,o⟩,vL z⟩;refine⟨trivial,embB f,kI ks,rfl,mI ks,?_,?_⟩
     ·unfold embB;rw[zza];exact zzG (show f.length <= 100 by lia) (by decide)
     ·have e':putA (embB f) (kI ks) (.tup (r.map cm))=embB f':=e;rw[e'];exact hX _ ⟨f',a4,by lia,_,_,_,rfl⟩
    ·obtain⟨r,rfl,hl,o,s,rfl⟩:=u;refine Br.t ⟨rfl,rfl,λt w cw=>⟨?_,hY _ _ ⟨r++[(t,w)],by simp[cm],by simp[hl],λc J=>?_,_,rfl⟩⟩⟩
     ·have a2:(hs.map D.str).length=pre.length+(post.length+1):=by rw[e];simp
      rw[zza]at a2;rw[zza];exact zzG (show r.length <= 100 by lia) (by decide)
     ·rcases zzo.mp J with J|J
      ·exact o c J
      ·rw[zzw.mp J];exact cw
   ·obtain⟨v,C,ks,e1,rfl,rfl,N,s,s',rfl⟩:=u;rw[e1,zze]at e;have e:=zzN e;cases C with
    |nil=>simp at e|cons x C =>
     rw[zzh]at e;injection e with e3 e4;subst e3;have hx:=no.mn x (by rw[e1];simp);rw[e1,zzd]at m5;have xl:((x.2.map D.str).length:Int)=x.2.length:=by rw[zza]
     refine⟨rfl,Br.t ⟨rfl,⟨by lia,by lia⟩,λr r0 r1=>⟨?_,hY _ _ ⟨v++[x],C,ks++[r],by rw[e1];simp,by simp,by simp,?_,_,_,rfl⟩⟩⟩⟩
     ·rw[zza,N.1,zza];exact zzG (show v.length <= 10 by lia) (by decide)
     ·rw[mkN,zze];exact N.snoc r0 (by show r<(x.2.length:Int);lia)
 rintro _ ⟨f,l,fl,a,b,c,rfl⟩;have hk:(embB f).map (·.1)=(f.map (·.1)).map kI:=by unfold embB;rw[zzB,zzB];rfl
 have N:(f.map (·.1)).length <= 7:=by rw[zza];exact fl
 have a7:∀k∈f.map (·.1),k.length=(mkN ms).length:=λk hk=>by obtain⟨p,M,rfl⟩:=zzs.mp hk;exact(l.it p M).1.1
 have sl:(gw (f.map (·.1))).length <= 7:=by rw[(ci _).length_eq];exact N
 have cA:∀k∈(embB f).map (·.1),yZ k:=λk U=>by rw[hk]at U;obtain⟨k',_,rfl⟩:=zzs.mp U;exact yj k'
 have cB:2 <= ((embB f).map (·.1)).length->∀k∈(embB f).map (·.1),k≠[]:=λh2 k U=>by rw[hk]at h2 U;rw[zza]at h2;obtain⟨k',a6,rfl⟩:=zzs.mp U;intro z;exact BP l.nd a7 h2 k' a6 (yi (b:=[]) z)
 have cC:((embB f).map (·.1)).length<64:=by rw[hk,zza];lia
 have e1:(srtK ((embB f).map (·.1))).map keyD=(gw (f.map (·.1))).map kT:=by rw[hk,BO,zzB];apply zzR;intro k _;exact(mI k).symm
 refine⟨⟨cA,cB,cC⟩,?_⟩;show dl _ _ _ ((srtK ((embB f).map (·.1))).map keyD) _ _ _;rw[e1];refine bn (λpre L g=>∃G I:List (List Int),∃cs:List (List Int×Row),gw (f.map (·.1))=G++I/\pre=G.map kT/\L=cs.map cp/\cs.map (·.1)=G/\(∀p∈cs,p∈f)/\∃s:Sl,g=[s,.val (fzO (dvO (embB f)))]) (λL g u=>?_) (λpre d post L g Y e u hY=>?_) _ ⟨[],_,[],rfl,rfl,rfl,rfl,λp M=>by simp at M,_,rfl⟩
 ·obtain⟨G,I,cs,e3,e4,rfl,cl,o,s,rfl⟩:=u;have:I=[]:=by
   have:=congrArg List.length e4;rw[e3]at this;simp at this;exact this
  subst this;rw[zzv]at e3;have up:=nZ l.nd;rw[e3]at sl up;have a0:cs.length <= 7:=by rw[←zza (·.1) (as:=cs),cl];exact sl
  have ln:(aD hs ms cs).length <= 48:=by have:=yC (ms:=ms) h6 cs;unfold aD;simp only[zzd,zzm,zza];lia
  refine h cs ⟨no.h2,no.h6,no.hn,no.hd,no.m5,no.mn,no.md,by lia,λc J=>⟨?_,⟨(l.it c (o c J)).2.1.1,λx hx=>((l.it c (o c J)).2.1.2 x hx).mono (by decide)⟩,(l.it c (o c J)).2.2⟩,λc J x hx=>JX ((l.it c (o c J)).2.1.2 x hx).bt,λc J i k m U hm=>?_,λi j x y a5 hi hj=>?_⟩ ln
  ·rw[(l.it c (o c J)).1.1,zza]
  ·have kk:=(l.it c (o c J)).1;obtain⟨i1,i2⟩:=zzx.mp U;obtain⟨i3,i4⟩:=zzx.mp hm;have:=kk.2 i i1;rw[zzC,zzC,U,zzu,hm]at this;exact this
  ·obtain⟨i1,i2⟩:=zzx.mp hi;obtain⟨j1,j2⟩:=zzx.mp hj;rw[←cl]at up;have:=zyA.mp up i j (by simpa using i1) (by simpa using j1) a5;rw[List.getElem_map,List.getElem_map,i2,j2]at this;rw[wW _ _ (by rw[(l.it x (o x (zzI hi))).1.1,(l.it y (o y (zzI hj))).1.1])];exact this
 ·obtain⟨G,I,cs,e3,rfl,rfl,cl,o,s,rfl⟩:=u;rw[e3,zze]at e;have e:=zzN e;cases I with
  |nil=>simp at e|cons k I =>
   rw[zzh]at e;injection e with e4 e5;subst e4;have U:k∈gw (f.map (·.1)):=by rw[e3];simp
   obtain⟨p,M,a3,h4⟩:=JW ((ci _).mem_iff.mp U);rw[e3,zzd]at sl;refine Br.t ⟨embB f,kI k,rowD p.2,Lz _,mI k,h4,sz,?_,hY _ _ ⟨G++[k],I,cs++[p],by rw[e3];simp,by simp,by rw[zze,←a3];rfl,by rw[zze,cl];show G++[p.1]=_;rw[a3],λq hq=>?_,_,rfl⟩⟩
   ·have a0:cs.length <= 7:=by rw[←zza (·.1) (as:=cs),cl];lia
    rw[zza];exact zzG a0 (by decide)
   ·rcases zzo.mp hq with hq|hq
    ·exact o q hq
    ·rw[zzw.mp hq];exact M
abbrev jL(L:List (List Str)):List D:=(L.map (Txt.join spS)).map D.str
theorem Cr(L:List (List Str))(l:List Str):jL (L++[l])=jL L++[.str (Txt.join spS l)]:=by simp
theorem Ct(o:ShOk hs ms ps){c:List Int×Row}(l:c∈ps){s:Sl}(q:Q ((wds ms c.1).map D.str)) :
  dl (cH 0) cJ (dOp gIx (dOp gIx (dOp gIx (dVar 1) (dVar 0)) (dC (.int 1))) (dOp gIx (dVar 2) (dVar 0))) (ig 0 ((c.1.map D.int).length:Int).toNat) [] [s,.val (.lst (ms.map mkD)),.val (kT c.1)] Q:=by
 have m5:=o.m5;have kl:=(o.kl c l).1;have H:(wds ms c.1).length=c.1.length:=by unfold wds;rw[zza,zyM];lia
 have n:(ig 0 ((c.1.map D.int).length:Int).toNat).length=c.1.length:=by rw[ck,zza];lia
 refine bn (λpre J j=>J=((wds ms c.1).map D.str).take pre.length/\∃s,j=[s,.val (.lst (ms.map mkD)),.val (kT c.1)]) (λJ j g=>?_) (λpre d post J j Y e g E=>?_) _ ⟨by simp,_,rfl⟩
 ·obtain⟨rfl,_⟩:=g;rw[n,←H,←zza (f:=D.str),zwG];exact q
 ·obtain⟨rfl,s,rfl⟩:=g;have G:pre.length<c.1.length:=by
   have:=congrArg List.length e;rw[n,zzd,zzm]at this;lia
  have u:d=.int pre.length:=by
   have e1:(ig 0 ((c.1.map D.int).length:Int).toNat)[pre.length]? = some d:=by rw[e,zzT (zzr _)];simp
   rw[kR,zzu,zwR (by rw[zza];lia)]at e1;have:=zzV e1;rw[←this];simp
  subst u;have U:pre.length<ms.length:=by lia
  have em:ms[pre.length]? = some ms[pre.length]:=zzt U;have L:c.1[pre.length]? = some c.1[pre.length]:=zzt G;obtain⟨r,b1⟩:=o.kk c l pre.length c.1[pre.length] ms[pre.length] L em;have y:(ms[pre.length]).2[(c.1[pre.length]).toNat]? = some ((ms[pre.length]).2.getD (c.1[pre.length]).toNat Str.empty):=by rw[zzC,zzt (by lia)];rfl
  have A:(wds ms c.1)[pre.length]? = some ((ms[pre.length]).2.getD (c.1[pre.length]).toNat Str.empty):=by unfold wds;rw[zzu,(zyB (z:=(ms[pre.length],c.1[pre.length]))).mpr ⟨em,L⟩];rfl
  refine Br.t (aK (d:=mkD ms[pre.length]) (by lia) (by rw[zzM,zzu,em];rfl) ?_);refine aK (d:=.int c.1[pre.length]) (by lia) (by rw[zzM,zzu,L];rfl) ?_;refine aK (d:=.str ((ms[pre.length]).2.getD (c.1[pre.length]).toNat Str.empty)) r (by rw[zzu,y];rfl) ⟨?_,E _ _ ⟨?_,_,rfl⟩⟩
  ·rw[zyl];exact zzG (show _ <= 5 by lia) (by decide)
  ·rw[zzd,zyF,List.take_succ,zzu,A];rfl
def JY:DSp:=λe Q=>∃(hs:List Str) (ms:List Mk) (d:List (List Int×Row)),e=[nmD hs ms,.tup (d.map cp)]/\ShOk hs ms d/\Q (.str (cz hs ms d))
theorem wX:bb JY:=by rintro ds P P' f ⟨hs,ms,cs,c,d,h⟩;exact⟨hs,ms,cs,c,d,f _ h⟩
theorem wY(T:Tx K mg):FnOk P w K mg base CX0 1 T.ky T.iC ["_law_names","_law_cells_here"] (spD K 2 JY):=by
 refine fnD (k:=0) T.kc.F sc__law_text (λcdv A outer s H E hr=>(ad (pA (dv 0) (eV (n:=2) rfl (aC (dgn 2 sc__law_text.nd) (aC (dgn 3 sc__law_text.nd) cr))))
   (ad (dow 4 sc__law_text.nd (aN (aa (fB al (ao (dc (ao (aN (aa al ac))) (dv 2)))) ac)))
   (aO (cI zyc rfl (aR (dv 3)) (eV (n:=2) rfl (aC (dgn 5 sc__law_text.nd) (aC (dgn 6 sc__law_text.nd) cr))) (af (ii (pv 4) (fB al (ao (dc (ao (aN (aa al (aa (dv 5) ac)))) (dv 6)))))))
   (aO (cI zyc rfl (xO (dv 1)) (eV (n:=2) rfl (aC (dgn 7 sc__law_text.nd) (aC (dgn 8 sc__law_text.nd) cr))) (ad (jH (i:=9) sc__law_text.nd rfl rfl (aH (N':=["_law_k","_law_marks","_law_kinds"]) rfl rfl (by decide +kernel) rfl (.own (.cap (j:=3) rfl (by first|exact Or.inl rfl|exact Or.inr rfl) rfl (.cap (j:=7) rfl (by first|exact Or.inl rfl|exact Or.inr rfl) rfl .nil))) (by decide +kernel) (cu rfl T.dF (aa (aj aX rfl T.ba zzA (aa (dv 7) ac)) ac)) (λB=>(dgb 0)) (λB=>aM) (λB=>(dix (dix (dix (dv 1) (dv 0)) ae) (dix (dv 2) (dv 0))))))
   (af (cI zyc rfl (Bz rfl T.HH (aa (dv 2) (aa (dv 8) ac))) (eV (n:=2) rfl (aC (dgn 10 sc__law_text.nd) (aC (dgn 11 sc__law_text.nd) cr))) (af (aI (az nL (dix (dv 11) ae) ae (ay _)) (ad (dse 12 sc__law_text.nd (ao (aN (aa (aQ sZ rfl T.vV rfl (aa (dix (dv 11) ae) ac)) (aa (aQ sZ rfl T.vV rfl (aa (dix (dv 11) ae) ac)) ac)))))
   (af (ii (pv 4) (fB al (ao (dc (ao (dc (ao (aN (aa al (aa (dv 10) ac)))) (dv 9))) (dv 12))))))) aw))))))
   (af (aA (fB al (dv 4))))))))) (λds Q z h=>?_)
 obtain⟨hs,ms,cells,rfl,o,h⟩:=h;have a2:∀{n:Nat},n <= 1000->n <= sizeLine:=λh=>zzq h (by decide);have h6:=o.h6;have m5:=o.m5;have lb:=tH o;have lf:=kW o;have a9:spS.length=1:=by decide +kernel
 have a8:nlS.length=1:=by decide +kernel
 have a3:∀l,l∈aD hs ms cells->JoinOk spS l=true:=λl z=>pW (lb l z).2 (by have:=(lb l z).1;rw[a9];lia);refine⟨rfl,spS,rfl,sz,a2 (by simp;lia),aB::hs,⟨rfl,a3 _ (by unfold aD;simp)⟩,sz,?_⟩;refine⟨λq=>∃s5 Y u G I L U J:Sl,q=[.val (nmD hs ms),.val (.tup (cells.map cp)),.val (.lst (hs.map .str)),.val (.lst (ms.map mkD)),.own (jL ((aB::hs)::ms.map mkLn)),s5,Y,u,G,I,L,U,J],?_,?_⟩
 ·refine bS (λpre q=>∃(m0 m1:List Mk) (s5 Y u G I L U J:Sl),ms=m0++m1/\pre=m0.map mkD/\q=[.val (nmD hs ms),.val (.tup (cells.map cp)),.val (.lst (hs.map .str)),.val (.lst (ms.map mkD)),.own (jL ((aB::hs)::m0.map mkLn)),s5,Y,u,G,I,L,U,J]) (λq N=>?_) (λpre d post q X e N hX=>?_) _ ⟨[],ms,_,_,_,_,_,_,_,_,rfl,rfl,rfl⟩
  ·obtain⟨m0,m1,s5,Y,u,G,I,L,U,J,e3,e4,rfl⟩:=N;have:=congrArg List.length e4;rw[e3]at this;simp only[zza,zzd]at this;have:m1=[]:=zzK.mp (by lia);subst this;rw[zzv]at e3;subst e3;exact⟨_,_,_,_,_,_,_,_,rfl⟩
  ·obtain⟨m0,m1,s5,Y,u,G,I,L,U,J,e3,rfl,rfl⟩:=N;rw[e3,zze]at e;have e:=zzN e;cases m1 with
   |nil=>simp at e|cons m m1 =>
    rw[zzh]at e;injection e with e4 e5;subst e4;have hm:m∈ms:=by rw[e3];simp
    have hlen:=(o.ml m hm).2.1;have z:=congrArg List.length e3;rw[zzd]at z;refine⟨rfl,trivial,spS,rfl,sz,a2 (by simp;lia),mkLn m,⟨rfl,a3 _ (by unfold aD;simp;exact .inr (.inl ⟨m.1,m.2,hm,rfl⟩))⟩,?_,hX _ ⟨m0++[m],m1,_,_,_,_,_,_,_,_,by rw[e3,zzO];rfl,by rw[zze];rfl,by rw[zze,zxQ,←zyu,Cr];rfl⟩⟩;exact zzG (show (jL ((aB::hs)::m0.map mkLn)).length <= 100 by simp;lia) (by decide)
 ·rintro _ ⟨s5,Y,u,G,I,L,U,J,rfl⟩;refine⟨λq=>∃s5 Y u G I L U J:Sl,q=[.val (nmD hs ms),.val (.tup (cells.map cp)),.val (.lst (hs.map .str)),.val (.lst (ms.map mkD)),.own (jL (aD hs ms cells)),s5,Y,u,G,I,L,U,J],?_,?_⟩
  ·refine bS (λpre q=>∃(v C:List (List Int×Row)) (s5 Y u G I L U J:Sl),cells=v++C/\pre=v.map cp/\q=[.val (nmD hs ms),.val (.tup (cells.map cp)),.val (.lst (hs.map .str)),.val (.lst (ms.map mkD)),.own (jL ((aB::hs)::ms.map mkLn++(v.flatMap (csOf hs ms)).map Cs.ln)),s5,Y,u,G,I,L,U,J]) (λq N=>?_) (λpre d post q X e N hX=>?_) _ ⟨[],cells,s5,Y,u,G,I,L,U,J,rfl,rfl,by simp⟩
   ·obtain⟨v,C,s5,Y,u,G,I,L,U,J,e3,e4,rfl⟩:=N;have:=congrArg List.length e4;rw[e3]at this;simp only[zza,zzd]at this;have:C=[]:=zzK.mp (by lia);subst this;rw[zzv]at e3;subst e3;exact⟨_,_,_,_,_,_,_,_,rfl⟩
   ·obtain⟨v,C,s5,Y,u,G,I,L,U,J,e3,rfl,rfl⟩:=N;rw[e3,zze]at e;have e:=zzN e;cases C with
    |nil=>simp at e|cons c C =>
     rw[zzh]at e;injection e with e4 e5;subst e4;have hc:c∈cells:=by rw[e3];simp
     have kl:=(o.kl c hc).1;have hr:=(o.kl c hc).2;have e6:((c.1.map D.int).length:Int)=c.1.length:=by rw[zza]
     refine⟨rfl,⟨by lia,by lia⟩,Ct o hc ⟨_,_,rfl,rfl,?_⟩⟩;have ez:∀(ws:List Str) (r:Row),zipD (ws.map D.str) (r.map cm)=(ws.zip r).map λp=>D.tup [.str p.1,cm p.2]:=λws=>by
      induction ws with
      |nil=>intro r;cases r<;>rfl
      |cons x ws ih =>
       intro r;cases r with
       |nil=>rfl|cons m r=>rw[zzh,zzh,zipD,ih,zyg,zzh]
     rw[ez];have a4:∀g:List (Str×(Int×Int)),hs.zip c.2=g->csOf hs ms c=(g.filter λp=>decide (0<p.2.1)).map λp=>⟨p.1,wds ms c.1,numS p.2.1,numS p.2.2,p.2.1.toNat,p.2.2.toNat⟩:=λg h=>by rw[←h];rfl
     have a7:∀M g:List (Str×(Int×Int)),hs.zip c.2=M++g->((aB::hs)::ms.map mkLn++(v.flatMap (csOf hs ms)).map Cs.ln++((M.filter λp=>decide (0<p.2.1)).map λp=>(⟨p.1,wds ms c.1,numS p.2.1,numS p.2.2,p.2.1.toNat,p.2.2.toNat⟩:Cs)).map Cs.ln).length <= 60:=λM g h=>by have:=lf;unfold aD at this;rw[e3,zwo,zyL,a4 _ h,zyQ,zze]at this;simp only[zzd,zza,zzm]at this ⊢;lia
     refine bS (λpre q=>∃(M g:List (Str×(Int×Int))) (s5 Y L U J:Sl),hs.zip c.2=M++g/\pre=M.map (λp=>D.tup [.str p.1,cm p.2])/\q=[.val (nmD hs ms),.val (.tup (cells.map cp)),.val (.lst (hs.map .str)),.val (.lst (ms.map mkD)),.own (jL ((aB::hs)::ms.map mkLn++(v.flatMap (csOf hs ms)).map Cs.ln++((M.filter λp=>decide (0<p.2.1)).map λp=>(⟨p.1,wds ms c.1,numS p.2.1,numS p.2.2,p.2.1.toNat,p.2.2.toNat⟩:Cs)).map Cs.ln)),s5,Y,.val (kT c.1),.val (rowD c.2),.val (.lst ((wds ms c.1).map .str)),L,U,J]) (λq N=>?_) (λpre d post q X' e N a5=>?_) _ ⟨[],_,s5,Y,L,U,J,rfl,rfl,by simp⟩
     ·obtain⟨M,g,s5,Y,L,U,J,a,e8,rfl⟩:=N;have:=congrArg List.length e8;rw[a]at this;simp only[zza,zzd]at this;have:g=[]:=zzK.mp (by lia);subst this;rw[zzv]at a;refine hX _ ⟨v++[c],C,s5,Y,.val (kT c.1),.val (rowD c.2),.val (.lst ((wds ms c.1).map .str)),L,U,J,by rw[e3];simp,by rw[zze];rfl,?_⟩;rw[zwo,zyL,List.flatMap_nil,zzv,a4 _ a,zze,←zzO]
     ·obtain⟨M,g,s5,Y,L,U,J,a,rfl,rfl⟩:=N;rw[a,zze]at e;have e:=zzN e;cases g with
      |nil=>simp at e|cons p g =>
       rw[zzh]at e;injection e with e8 e9;subst e8;have hp:p∈hs.zip c.2:=by rw[a];simp
       obtain⟨hp1,b1⟩:=zyY hp;have cn:=hr.2 p.2 b1;refine⟨rfl,λb=>?_,λb=>?_⟩
       ·have b:=zzP b;have wl:=tF ms c.1;have a6:(⟨p.1,wds ms c.1,numS p.2.1,numS p.2.2,p.2.1.toNat,p.2.2.toNat⟩:Cs).ln∈aD hs ms cells:=by
         unfold aD;refine zzQ _ (zzs.mpr ⟨_,zxK.mpr ⟨c,hc,zzs.mpr ⟨p,zzY.mpr ⟨hp,by simpa using b⟩,rfl⟩⟩,rfl⟩)
        refine⟨yq cn.bt (by decide),yq cn.bw (by decide),sz,trivial,spS,rfl,sz,a2 (by simp;lia),a2 (by simp;lia),(⟨p.1,wds ms c.1,numS p.2.1,numS p.2.2,p.2.1.toNat,p.2.2.toNat⟩:Cs).ln,⟨?_,a3 _ a6⟩,?_,a5 _ ⟨M++[p],g,s5,Y,.val (.str p.1),.val (cm p.2),.val (.lst [.str (numS p.2.1),.str (numS p.2.2)]),by rw[a];simp,by rw[zze];rfl,?_⟩⟩
        ·unfold Cs.ln;rw[zze];rfl
        ·rw[zza,zza];exact zzG (zzq (a7 M _ a) (by decide)) (show 100<sizeLine by decide)
        ·rw[zyQ,zyI (by simpa using b),List.filter_nil,zze,zze,zxQ,zxQ,←zzO,Cr];rfl
       ·have b:=zyr b;refine a5 _ ⟨M++[p],g,s5,Y,.val (.str p.1),.val (cm p.2),J,by rw[a];simp,by rw[zze];rfl,?_⟩;rw[zyQ,zyv (by simpa using b),List.filter_nil,zzv];rfl
  ·rintro _ ⟨s5,Y,u,G,I,L,U,J,rfl⟩;refine⟨nlS,rfl,_,⟨rfl,pW (B:=492) (λy hy=>?_) ?_⟩,h⟩
   ·obtain⟨l,z,rfl⟩:=zzs.mp hy;exact oh (B:=40) (lb l z).2 (lb l z).1
   ·rw[zza,a8];lia
structure As(x:Str):Prop where
 le:x.length <= 100000
 asc:∀c∈x.cps.toList,c<128
theorem As.tx(h:As x):TxOk x:=⟨h.le,vC h.asc⟩
theorem Zt.as(o:Zt z)(h:ws∈linW z):∀x∈ws,As x:=λx J=>by obtain⟨l,d,rfl⟩:=zzs.mp h;rw[kX]at d;rw[mM]at J;obtain⟨a1,L,_⟩:=cj d;obtain⟨b1,U,_⟩:=cj J;have:=o.le;exact⟨by lia,λc e=>o.asc c (L c (U c e))⟩
def azS:Str:=Str.ofString "abcdefghijklmnopqrstuvwxyz"
def figS:Str:=Str.ofString "0123456789"
theorem LA:∀c:Nat,c<128->(Builtin.Str.occurrences azS ⟨#[c]⟩ 0 azS.length 1).isEmpty=!(decide (97 <= c) && decide (c <= 122)):=by decide +kernel
theorem JZ:∀c:Nat,c<128->(Builtin.Str.occurrences figS ⟨#[c]⟩ 0 figS.length 1).isEmpty=!(decide (48 <= c) && decide (c <= 57)):=by decide +kernel
theorem yD{j:Str}{a b:Nat}(E:∀c:Nat,c<128->(Builtin.Str.occurrences j ⟨#[c]⟩ 0 j.length 1).isEmpty=!(decide (a <= c) && decide (c <= b)))(U:As x){s:Sl}(q:∀ys:List Nat,(∀y∈ys,y<128)->ys.isEmpty=kU a b x->Q (ys.map λc=>D.str ⟨#[c]⟩)) :
  dl (cH 0) (dB (dOp (g2S (λ_ _=>True) λi j=>.bl (!(!(Builtin.Str.occurrences j i 0 j.length 1).isEmpty))) (dVar 0) (dC (.str j)))) (dVar 0) (je x) [] [s] Q:=by
 refine bn (λpre L o=>∃(J g:List Nat) (s:Sl),x.cps.toList=J++g/\pre=J.map (λc=>D.str ⟨#[c]⟩)/\L=(J.filter λc=>!(decide (a <= c) && decide (c <= b))).map (λc=>D.str ⟨#[c]⟩)/\o=[s]) (λL o n=>?_) (λpre d post L o Y e n u=>?_) _ ⟨[],_,s,rfl,rfl,rfl,rfl⟩
 ·obtain⟨J,g,s,e1,e2,rfl,rfl⟩:=n;have:g=[]:=by
   have:=congrArg List.length e2;unfold je at this;rw[e1]at this;simp at this;exact this
  subst this;rw[zzv]at e1;refine q _ (λy H=>U.asc y (by rw[e1];exact(zzY.mp H).1)) ?_;unfold kU;rw[e1,zyX,List.isEmpty_iff,zxZ,zyw];exact⟨λh c l=>by have:=h c l;simpa using this,λh c l=>by have:=h c l;simpa using this⟩
 ·obtain⟨J,g,s,e1,rfl,rfl,rfl⟩:=n;unfold je at e;rw[e1,zze]at e;have e:=zzN e;cases g with
  |nil=>simp at e|cons c g =>
   rw[zzh]at e;injection e with e2 e3;subst e2;have l:=U.asc c (by rw[e1];simp);have G:J.length <= 100000:=by have:=U.le;have A:x.cps.toList.length=x.length:=zzF;rw[e1,zzd]at A;lia
   have r:(J++[c]).filter (λc=>!(decide (a <= c) && decide (c <= b)))=J.filter (λc=>!(decide (a <= c) && decide (c <= b)))++(if (!(decide (a <= c) && decide (c <= b)))=true then[c] else[]):=by rw[zyQ,List.filter_cons,List.filter_nil]
   refine⟨trivial,?_⟩;show Br (!(!(Builtin.Str.occurrences j ⟨#[c]⟩ 0 j.length 1).isEmpty)) _ _;rw[Bool.not_not,E c l];refine⟨λh=>⟨?_,u _ _ ⟨J++[c],g,_,by rw[e1];simp,by rw[zze];rfl,by rw[r,zzn h,zze];rfl,rfl⟩⟩,λh=>u _ _ ⟨J++[c],g,_,by rw[e1];simp,by rw[zze];rfl,by rw[r,zzi (by rw[h];decide),zzv],rfl⟩⟩;rw[zza];exact zzG (zzq (zwg _ _) G) (by decide)
theorem wZ(ys:List D):eqD (.lst ys) (.lst [])=ys.isEmpty:=by cases ys<;>rfl
theorem Es(h:∀x∈ws,PyData.strOk x=true):shp (.lst (ws.map .str))=true:=(Shp.lst (n:=0) λd hd=>by obtain⟨x,J,rfl⟩:=zzs.mp hd;exact⟨rfl,h x J,zya _⟩).shp
theorem vO{ys:List Nat}(h:∀y∈ys,y<128):shp (.lst (ys.map λc=>D.str ⟨#[c]⟩))=true:=by
 have:=Es (ws:=ys.map λc=>⟨#[c]⟩) λx J=>by obtain⟨c,d,rfl⟩:=zzs.mp J;exact ok1 (by have:=h c d;lia)
 rwa [zzB]at this
def gLNm:DSp:=λd Q=>∃x:Str,d=[.str x]/\As x/\Q (.bl (isNm x))
theorem qT:bb gLNm:=by rintro ds P P' f ⟨x,a,b,h⟩;exact⟨x,a,b,f _ h⟩
theorem qU(T:Tx K mg):FnOk P w K mg base CX0 1 T.fM T.eM ["_law_word"] (spD K 1 gLNm):=by
 refine fnD (k:=0) T.fP.F pK (λcdv A outer s H E U=>(ad (aI (PWD.pt (cX (az ze (aj gv rfl T.ba zzA (aa (dv 0) ac)) ae (ay _)) (bR (az nL (aj gv rfl T.ba zzA (aa (dv 0) ac)) ae (ay _))))) (af (aA gr)) aw)
   (af (aA (gc (cY U) (ao (PCD.pld (aH (N':=["_law_sign"]) rfl rfl (by decide +kernel) rfl (.own .nil) (by decide +kernel) (yd (dv 0)) (λB=>(dgb 0)) (λB=>(sR (az vi (dv 0) al rfl))) (λB=>(dv 0))))) (ao (aN ac)) (ay _)))))) (λds Q hl h=>?_)
 obtain⟨x,rfl,J,h⟩:=h;have d:x.length <= sizeLine:=zzq J.le (by decide);have:=J.le;unfold isNm at h;refine⟨d,?_⟩;by_cases e1:1 <= x.length
 case neg =>
  rw[zzl e1]at h;refine Br.di (λz=>Br.t h) (λz=>absurd z (by simp;lia))
 refine Br.di (λz=>absurd z (by simp;lia)) λ_=>⟨d,?_⟩;rw[zzj e1]at h;by_cases e2:x.length <= 8
 case neg =>
  rw[zzl e2]at h;refine Br.di (λz=>h) (λz=>absurd z (by simp;lia))
 rw[zzj e2]at h;refine Br.di (λz=>absurd z (by simp;lia)) λ_=>?_;refine⟨x,rfl,yD LA J λys Y L=>⟨sz,⟨vO Y,rfl⟩,?_⟩⟩;show Q (.bl (eqD (.lst _) (.lst [])));rw[wZ,List.isEmpty_map,L];exact h
theorem oj{k:Nat}(h:k <= ws.length):cutD (ws.map D.str) none (some (k:Int))=(ws.take k).map .str:=by unfold cutD;rw[HT.sIx_none,HT.sIx_nat,zza,zxR h];show ((ws.map D.str).drop 0).take (k - 0)=_;rw[List.drop_zero,Nat.sub_zero,List.map_take]
theorem Et(hl:ws.length <= 6){s:Sl}(q:∀ys:List Int,ys.isEmpty=decide ws.Nodup->Q (ys.map .int)) :
  dl (cH 0) (dB (dOp gIn (dOp gIx (dVar 1) (dVar 0)) (dFrz (dSlL (dVar 1) EQ (ER (dVar 0)))))) (dVar 0) (ig 0 ws.length) [] [s,.val (.lst (ws.map .str))] Q:=by
 refine bn (λpre J l=>∃(ys:List Int) (s:Sl),pre.length <= ws.length/\J=ys.map .int/\ys.length <= pre.length/\(ys=[]↔(ws.take pre.length).Nodup)/\l=[s,.val (.lst (ws.map .str))]) (λJ l j=>?_) (λpre d post J l Y e j n=>?_) _ ⟨[],s,zya _,rfl,zzr _,by simp,rfl⟩
 ·obtain⟨ys,s,H,rfl,I,g,rfl⟩:=j;rw[ck,zwG]at g;refine q ys ?_;rw[zyX,List.isEmpty_iff,zyb];exact g
 ·obtain⟨ys,s,H,rfl,I,g,rfl⟩:=j;have L:=congrArg List.length e;rw[ck,zzd,zzm]at L;have lt:pre.length<ws.length:=by lia
  have E:d=.int (pre.length:Int):=by
   have o:(ig 0 ws.length)[pre.length]? = some d:=by rw[e,zzT (zzr _),zwO];rfl
   rw[kR,zzu,zwR lt]at o;have:D.int (0+(pre.length:Int))=d:=by simpa using o
   rw[←this,Int.zero_add]
  subst E;have G:ws.take (pre.length+1)=ws.take pre.length++[ws[pre.length]]:=by rw[List.take_append_getElem lt]
  have u:(ws.take (pre.length+1)).Nodup↔(ws.take pre.length).Nodup/\ws[pre.length]∉ws.take pre.length:=by rw[G,zyK];exact⟨λ⟨a,_,c⟩=>⟨a,λz=>c _ z _ (by simp) rfl⟩,λ⟨a,c⟩=>⟨a,by simp,λx r y M z=>by rw[zzw.mp M]at z;rw[z]at r;exact c r⟩⟩
  have A:cutD (ws.map D.str) none (some (pre.length:Int))=(ws.take pre.length).map .str:=oj (by lia);refine aK (d:=.str ws[pre.length]) (by lia) (by rw[zzM,zzu,zzt lt];rfl) ?_;have U:∀{R:D->Prop},R (.bl (decide (ws[pre.length]∈ws.take pre.length)))->gIn (.str ws[pre.length]) (.lst (cutD (ws.map D.str) none (some (pre.length:Int)))) R:=λ{R} q=>by rw[A];refine⟨⟨rfl,bD _⟩,?_⟩;rw[jS];exact q
  show gIn (.str ws[pre.length]) (.lst (cutD (ws.map D.str) none (some (pre.length:Int)))) λd=>blD d λb=>Br b ((ys.map D.int).length<sizeLine/\Y (ys.map D.int++[.int pre.length]) [.val (.int pre.length),.val (.lst (ws.map .str))]) (Y (ys.map D.int) [.val (.int pre.length),.val (.lst (ws.map .str))]);refine U ?_;refine Br.di (λh=>⟨?_,n _ _ ⟨ys++[(pre.length:Int)],_,by simp;lia,by rw[zze];rfl,by simp;lia,?_,rfl⟩⟩) λh=>n _ _ ⟨ys,_,by simp;lia,rfl,by simp;lia,?_,rfl⟩
  ·rw[zza];exact zzG (show ys.length <= 6 by lia) (by decide)
  ·rw[zzd,zyF,u];exact⟨λz=>by simp at z,λz=>absurd h z.2⟩
  ·rw[zzd,zyF,u,g];exact⟨λz=>⟨z,h⟩,λz=>z.1⟩
theorem Cu(ws:List Str):nmsB ws=(ws.all isNm && decide ws.Nodup):=by unfold nmsB;congr 1;rw[zyX,zyb,zyb];exact⟨λh=>(tN rfl h).1,λh=>by rw[rn h]⟩
def gLNs:DSp:=λd Q=>∃(ws:List Str) (a b:Nat),d=[.lst (ws.map .str),.int a,.int b]/\(∀x∈ws,As x)/\b <= 6/\Q (.bl (decide (a <= ws.length) && decide (ws.length <= b) && nmsB ws))
theorem du:bb gLNs:=by rintro ds P P' f ⟨x,a,b,c,d,e,h⟩;exact⟨x,a,b,c,d,e,f _ h⟩
theorem dw(T:Tx K mg):FnOk P w K mg base CX0 2 T.dH T.cP ["_law_words_here","_law_least","_law_most"] (spD K 3 gLNs):=by
 refine fnD (k:=1) T.bo.F mH (λcdv A outer s H E L=>(ad (aI (PWD.pt (cX (az ze (aj aX rfl T.ba zzA (aa (dv 0) ac)) (dv 1) (ay _)) (bR (az nL (aj aX rfl T.ba zzA (aa (dv 0) ac)) (dv 2) (ay _))))) (af (aA gr)) aw)
   (ad (aI (bQ (br (aj xY rfl T.CF PyProof.Rows.boot_all (aa (ao (PCD.pld (aH (N':=["_law_word"]) rfl rfl (by decide +kernel) rfl (.own .nil) (by decide +kernel) (aR (dv 0)) (λB=>(dgb 0)) (λB=>aM) (λB=>(dcl T.fP (qU T) qT L (aa (dv 0) ac)))))) ac)))) (af (aA gr)) aw)
   (af (aA (gc (cY L) (ao (PCD.pld (aH (N':=["_law_k","_law_words_here"]) rfl rfl (by decide +kernel) rfl (.own (.cap (j:=0) rfl (by first|exact Or.inl rfl|exact Or.inr rfl) rfl .nil)) (by decide +kernel) (cu rfl T.dF (aa (aj aX rfl T.ba zzA (aa (dv 0) ac)) ac)) (λB=>(dgb 0)) (λB=>(sR (az Jr (dix (dv 1) (dv 0)) (ao (dJ (dv 1) bj (aS (dv 0)))) rfl))) (λB=>(dv 0))))) (ao (aN ac)) (ay _))))))) (λds Q hl h=>?_)
 obtain⟨ws,a,b,rfl,r,b6,h⟩:=h;have U:(((ws.map D.str).length:Nat):Int)=(ws.length:Int):=by rw[zza]
 by_cases e1:a <= ws.length
 case neg =>
  rw[zzl e1]at h;exact Br.di (λz=>Br.t h) (λz=>absurd z (by simp;lia))
 refine Br.di (λz=>absurd z (by simp;lia)) λ_=>?_;rw[zzj e1]at h;by_cases e2:ws.length <= b
 case neg =>
  rw[zzl e2]at h;exact Br.di (λz=>h) (λz=>absurd z (by simp;lia))
 rw[zzj e2,Cu]at h;refine Br.di (λz=>absurd z (by simp;lia)) λ_=>?_;refine aP (D.bl ∘ isNm) (λe=>∃s,e=[s]) (zzq (show ws.length <= 6 by lia) (by decide)) (λx q e Y Z l o=>?_) _ ⟨_,rfl⟩ ?_
 ·obtain⟨s,rfl⟩:=l;exact Br.t ⟨rfl,x,rfl,r x q,o _ ⟨_,rfl⟩⟩
 ·rw[←zzB];refine mq ?_;show Br (!(ws.map isNm).all id) _ _;rw[List.all_map];cases J:ws.all (id ∘ isNm) with
  |false =>
   rw[show ws.all isNm=false from J]at h;exact Br.t h
  |true =>
   rw[show ws.all isNm=true from J]at h;refine Br.f ⟨⟨by lia,by lia⟩,?_⟩;rw[U,zzM];refine Et (by lia) λys g=>⟨sz,⟨?_,rfl⟩,?_⟩
   ·exact(Shp.lst (n:=0) λd hd=>by obtain⟨i,_,rfl⟩:=zzs.mp hd;exact⟨rfl,rfl,zya _⟩).shp
   ·show Q (.bl (eqD (.lst _) (.lst [])));rw[wZ,List.isEmpty_map,g];exact h
def gFig:DSp:=λd Q=>∃x:Str,d=[.str x]/\As x/\(∀n:Nat,ir x=true->intText? x=some (n:Int)->Q (.int n))/\(ir x=false->Q (.int (-1)))
theorem jt:bb gFig:=by rintro ds P P' f ⟨x,a,b,c,d⟩;exact⟨x,a,b,λn e1 e2=>f _ (c n e1 e2),λe=>f _ (d e)⟩
theorem ju(T:Tx K mg):FnOk P w K mg base CX0 1 T.fQ T.eF ["_law_word"] (spD K 1 gFig):=by
 refine fnD (k:=0) T.cS.F pL (λcdv A outer s H E o=>(ad (aI (PWD.pt (cX (az ze (aj gv rfl T.ba zzA (aa (dv 0) ac)) ae (ay _)) (cX (az nL (aj gv rfl T.ba zzA (aa (dv 0) ac)) ae (ay _)) (bR (PWD.pt (xL (az (cY o) (ve (dv 0) ae (λ_ _=>rfl)) al (ay _)) (sO (az nL (aj gv rfl T.ba zzA (aa (dv 0) ac)) ae (ay _))))))))) (af (aA (nM gW ae))) aw)
   (ad (aI (az (nO o) (ao (PCD.pld (aH (N':=["_law_sign"]) rfl rfl (by decide +kernel) rfl (.own .nil) (by decide +kernel) (yd (dv 0)) (λB=>(dgb 0)) (λB=>(sR (az vi (dv 0) al rfl))) (λB=>(dv 0))))) (ao (aN ac)) (ay _)) (af (aA (nM gW ae))) aw)
   (af (aA (aQ wL rfl T.Ez rfl (aa (dv 0) ac))))))) (λds Q hl h=>?_)
 obtain⟨x,rfl,U,M,e⟩:=h;have g:x.length <= sizeLine:=zzq U.le (by decide);have J:ir x=(decide (1 <= x.length) && decide (x.length <= 30) && kU 48 57 x && (decide (x=zA) || !decide (x.cps.toList.head? = some 48))):=rfl;refine⟨g,?_⟩;by_cases e1:1 <= x.length
 case neg =>
  rw[zzl e1]at J;exact Br.di (λz=>Br.t (e J)) (λz=>absurd z (by simp;lia))
 refine Br.di (λz=>absurd z (by simp;lia)) λ_=>⟨g,?_⟩;rw[zzj e1]at J;by_cases e2:x.length <= 30
 case neg =>
  rw[zzl e2]at J;exact Br.di (λz=>Br.t (e J)) (λz=>absurd z (by simp;lia))
 rw[zzj e2]at J;refine Br.di (λz=>absurd z (by simp;lia)) λ_=>?_;obtain⟨c,r,L⟩:=at0 (z:=x) e1;refine⟨g,c,r,⟨aV (ok1 (by have:=U.asc c (List.mem_of_mem_head? L);lia)),aV (by decide +kernel)⟩,?_⟩;have rest:(decide (x=zA) || !decide (x.cps.toList.head? = some 48))=true->dSeq (dIfS (dB (dOp (gEq true) (dFrz (Jm (JF (dVar 0)) [none] (cH 0) (dB (dOp (g2S (λ_ _=>True) λi j=>.bl (!(!(Builtin.Str.occurrences j i 0 j.length 1).isEmpty))) (dVar 0) (dC (.str figS)))) (dVar 0))) (dFrz (dLst AZ)))) (dRet (dUn gNeg (dC (.int 1)))) Ba) (dRet (dCB DZ (xN (dVar 0) AZ))) { nx:=λ_=>Q .non,rt:=Q } [.val (.str x)]:=λok=>by
  rw[ok,Bool.and_true,zyJ,zyJ]at J;refine⟨x,rfl,yD JZ U λys Y G=>⟨sz,⟨vO Y,rfl⟩,?_⟩⟩;show Br (!eqD (.lst _) (.lst [])) _ _;rw[wZ,List.isEmpty_map,G];cases e3:kU 48 57 x with
  |false=>exact Br.t (e (J.trans e3))|true =>
   obtain⟨n,l⟩:=wT (J.trans e3);exact Br.f ⟨zzq e2 (by decide),n,l,M n (J.trans e3) l⟩
 show Br (eqD (.str ⟨#[c]⟩) (.str ⟨#[48]⟩)) _ _;rw[eu];by_cases e3:c=48
 ·rw[zzj (one_eq.mpr e3)];refine Br.t ⟨g,?_⟩;by_cases u:x.length=1
  ·have I:x=zA:=by
    apply wU;have d:x.cps.toList.length=x.length:=zzF
    match q:x.cps.toList,d with
    |[y],_ =>
     rw[q]at L;have:y=c:=zzV L;rw[this,e3];decide +kernel
    |[],d=>simp at d;lia|_::_::_,d=>simp at d;lia
   exact Br.di (λz=>absurd z (by simp;lia)) λ_=>rest (by rw[zzj I];rfl)
  ·refine Br.di (λz=>e ?_) λz=>absurd z (by simp;lia);rw[J,L,e3,zzl (λz=>u (by rw[z];decide +kernel))];simp
 ·rw[zzl (λz=>e3 (one_eq.mp z))];exact Br.f (Br.f (rest (by rw[L,zzl (p:=some c=some 48) (λz=>e3 (zzV z))];simp)))
abbrev plI(hs:List Str)(ms:List Mk)(c:Cs):List Int:=kpl c.kw ms++[(plc c.hn hs:Int)]
def Ka:DSp:=λd Q=>∃(hs:List Str) (ms:List Mk) (ws:List Str),d=[.lst (hs.map .str),.lst (ms.map mkD),.lst (ws.map .str)]/\(ws≠[]/\∀x∈ws,As x)/\ms.length <= 5/\(∀c:Cs,ws=c.ln->c.Ok hs ms->Q (.lst ((plI hs ms c).map .int)))/\((∀c:Cs,ws=c.ln->¬c.Ok hs ms)->Q .non)
theorem xa:bb Ka:=by rintro ds P P' f ⟨hs,ms,ws,e,o,z,d,g⟩;exact⟨hs,ms,ws,e,o,z,λc e o=>f _ (d c e o),λn=>f _ (g n)⟩
theorem xb(T:Tx K mg):FnOk P w K mg base CX0 2 T.kg T.iE ["_law_houses","_law_marks","_law_words_here"] (spD K 3 Ka):=by
 refine fnD (k:=1) T.km.F sc__law_case (λcdv A outer s H E N=>(ad (aI (PWD.pt (cX (az (nO N) (dix (dv 2) ae) al (ay _)) (cX (az (nO N) (aj aX rfl T.ba zzA (aa (dv 2) ac)) (bc cg ae (aj aX rfl T.ba zzA (aa (dv 1) ac))) (ay _)) (bR (az kP (dix (dv 2) ae) (dv 0) rfl))))) (af (aA cq)) aw)
   (ad (dow 3 sc__law_case.nd (aN ac))
   (aO (cI zyc rfl (cu rfl T.dF (aa (aj aX rfl T.ba zzA (aa (dv 1) ac)) ac)) (dgn 4 sc__law_case.nd) (ad (aI (az kP (dix (dv 2) (bc cg ae (dv 4))) (dix (dix (dv 1) (dv 4)) ae) rfl) (af (aA cq)) aw)
   (af (ii (pv 3) (DN nW (dix (dix (dv 1) (dv 4)) ae) (dix (dv 2) (bc cg ae (dv 4))))))))
   (ad (dse 5 sc__law_case.nd (dcl T.cS (ju T) jt N (aa (dix (dv 2) (nM gW ae)) ac)))
   (ad (dse 6 sc__law_case.nd (dcl T.cS (ju T) jt N (aa (dix (dv 2) (nM gW ae)) ac)))
   (ad (aI (PWD.pt (cX (az ze (dv 5) ae (ay _)) (cX (az ze (dv 6) ae (ay _)) (bR (az nL (dv 6) (dv 5) (ay _)))))) (af (aA cq)) aw)
   (af (By (k:=3) (aA (ao (dc (dv 3) (ao (aN (aa (DN nW (dv 0) (dix (dv 2) ae)) ac))))))))))))))) (λds Q hl h=>?_)
 obtain⟨hs,ms,ws,rfl,⟨a3,ho⟩,a5,hy,l⟩:=h;cases ws with
 |nil=>exact absurd rfl a3|cons x r =>
 refine aK (d:=.str x) (zye 0) rfl ⟨⟨aV (ho x (by simp)).tx.ok,aV (by decide +kernel)⟩,?_⟩;show Br (!eqD (.str x) (.str fJ)) _ _;rw[eu];by_cases e1:x=fJ
 case neg =>
  rw[zzl e1];exact Br.t (Br.t (l λc e _=>e1 (zwB e).1))
 subst e1;rw[zzj rfl];refine Br.f ⟨⟨rfl,rfl⟩,?_⟩;show Br (!eqD (.int _) (.int _)) _ _;rw[bB];by_cases e2:r.length=ms.length+3
 case neg =>
  rw[zzl (by simp only[zza,zzm];lia)];refine Br.t (Br.t (l λc e o=>e2 ?_));have e3:=congrArg List.length e;have:=o.kl;simp[Cs.ln]at e3;lia
 obtain⟨w,g,a,b,rfl,ek⟩:=Hs e2;rw[zzj (by simp only[zza,zzm];lia)];refine Br.f ?_;refine aK (d:=.str w) (r:=1) (by decide) rfl ⟨⟨rfl,bD hs⟩,?_⟩;rw[jS];by_cases e3:w∈hs
 case neg =>
  rw[zzl e3];exact Br.t (l λc e o=>e3 (by rw[←(iu e).1];exact o.hh))
 rw[zzj e3];have oa:=ho a (by simp);have ob:=ho b (by simp);have B:(g.zip ms).length=ms.length:=by rw[zyM];lia
 have em:(((ms.map mkD).length:Nat):Int)=ms.length:=by rw[zza]
 refine Br.f ⟨sz,λM=>∃u s5 y:Sl,(∀p∈g.zip ms,p.1∈p.2.2)/\M=[.val (.lst (hs.map .str)),.val (.lst (ms.map mkD)),.val (.lst ((fJ::(w::g++[a,b])).map .str)),.own ((kpl g ms).map D.int),u,s5,y],?_,?_⟩
 ·refine⟨⟨by lia,by lia⟩,?_⟩;refine eY (λk M=>∃(J n:List (Str×Mk)) (u s5 y:Sl),(g.zip ms=J++n/\∀p∈J,p.1∈p.2.2)/\k=J.length/\M=[.val (.lst (hs.map .str)),.val (.lst (ms.map mkD)),.val (.lst ((fJ::(w::g++[a,b])).map .str)),.own ((J.map λp=>(plc p.1 p.2.2:Int)).map D.int),u,s5,y]) _ _ (λM C=>?_) (λk M X k0 k1 C hX=>?_) _ ⟨[],_,_,_,_,⟨rfl,λ_ h=>nomatch h⟩,rfl,rfl⟩
  ·obtain⟨J,n,u,s5,y,⟨Y,L⟩,e5,rfl⟩:=C;have U:=congrArg List.length Y;rw[B,zzd]at U;have:n=[]:=zzK.mp (by lia);subst this;rw[zzv]at Y;unfold kpl;rw[Y];exact⟨_,_,_,L,rfl⟩
  ·obtain⟨J,n,u,s5,y,⟨Y,L⟩,rfl,rfl⟩:=C;have U:=congrArg List.length Y;rw[B,zzd]at U;cases n with
   |nil =>
    simp at U;lia
   |cons p n =>
    have j:(g.zip ms)[J.length]? = some p:=by rw[Y,zzT (zzr _),zwO];rfl
    have hi':=j;rw[zyB]at j;have g1:∀{Q:D->Prop},Q (.str p.1)->opt (atI ((fJ::(w::g++[a,b])).map D.str) (2+(J.length:Int))) Q:=λ{Q} q=>by refine aK (d:=.str p.1) (by lia) ?_ q;rw[show (2+(J.length:Int)).toNat=J.length+1+1 by lia];show ((g++[a,b]).map D.str)[J.length]? = _;rw[zzu,zyk (zzx.mp j.1).1,j.1];rfl
    have g2:∀{Q:D->Prop},Q (mkD p.2)->opt (atI (ms.map mkD) (J.length:Int)) Q:=λ{Q} q=>by refine aK (d:=mkD p.2) (by lia) ?_ q;rw[zzM,zzu,j.2];rfl
    refine g1 (g2 ⟨⟨rfl,bD p.2.2⟩,?_⟩);rw[jS];by_cases G:p.1∈p.2.2
    case neg =>
     rw[zzl G];exact Br.t (l λc e o=>G (o.kk J.length p.1 p.2 (by rw[(iu e).2.1];exact j.1) j.2))
    rw[zzj G];refine Br.f ⟨trivial,g2 ⟨trivial,g1 ⟨⟨rfl,bD p.2.2⟩,plc p.1 p.2.2,og G,?_,hX _ ⟨J++[p],n,_,_,_,⟨by rw[Y,zzO];rfl,λq hq=>(zzo.mp hq).elim (L q) λz=>by rw[zzw.mp z];exact G⟩,by rw[zzd];simp,by rw[show ((J++[p]).map λp=>(plc p.1 p.2.2:Int)).map D.int=(J.map λp=>(plc p.1 p.2.2:Int)).map D.int++[.int (plc p.1 p.2.2)] by rw[zze,zze];rfl];rfl⟩⟩⟩⟩;rw[zza,zza];exact zzG (show J.length <= 5 by lia) (by decide)
 ·rintro _ ⟨u,s5,y,L,rfl⟩;have a4:∀{Q:D->Prop},Q (.str a)->opt (atI ((fJ::(w::g++[a,b])).map D.str) (-2)) Q:=λq=>by
   show opt (atI _ (-((2:Nat):Int))) _;rw[rK (k:=2) (by decide) (d:=.str a) (by simp) (by simp)];exact q
  have a2:∀{Q:D->Prop},Q (.str b)->opt (atI ((fJ::(w::g++[a,b])).map D.str) (-1)) Q:=λq=>by show opt (atI _ (-((1:Nat):Int))) _;rw[rK (k:=1) (by decide) (d:=.str b) (by simp) (by simp)];exact q
  refine a4 ⟨rfl,a,rfl,oa,λt na ta=>?_,λna=>?_⟩
  case refine_2 =>
   have no:Q .non:=l λc e o=>by have:=o.na;rw[(iu e).2.2.1,na]at this;cases this
   exact a2 ⟨rfl,b,rfl,ob,λv I tb=>Br.di (λ_=>Br.t no) λz=>absurd (show (-1:Int)<1 by decide) z,λI=>Br.di (λ_=>Br.t no) λz=>absurd (show (-1:Int)<1 by decide) z⟩
  refine a2 ⟨rfl,b,rfl,ob,λv I tb=>?_,λI=>?_⟩
  case refine_2 =>
   have no:Q .non:=l λc e o=>by have:=o.nb;rw[(iu e).2.2.2,I]at this;cases this
   exact Br.di (λ_=>Br.t no) λ_=>Br.di (λ_=>Br.t no) λz=>absurd (show (-1:Int)<0 by decide) z
  have no:¬(0<t/\v <= t)->Q .non:=λz=>l λc e o=>by obtain⟨-,-,c1,c2⟩:=iu e;have q1:=o.ta;have q2:=o.tb;have q3:=o.t0;have q4:=o.tw;rw[c1,ta]at q1;rw[c2,tb]at q2;simp only[zwd]at q1 q2;lia
  refine Br.di (λz=>Br.t (no (by lia))) λz1=>Br.di (λz=>absurd z (by lia)) λz2=>Br.di (λz=>no (by lia)) λz3=>?_;refine⟨_,rfl,trivial,aK (d:=.str w) (r:=1) (by decide) rfl ⟨⟨rfl,bD hs⟩,plc w hs,og e3,sz,?_,?_⟩⟩
  ·have:((kpl g ms).map D.int).length <= 5:=by
    unfold kpl;rw[zza,zza,B];exact a5
   exact zzq (Nat.add_le_add_right this 1) (by decide)
  ·have:=hy ⟨w,g,a,b,t,v⟩ rfl ⟨e3,ek,λi x m h1 h2=>L (x,m) (zyt.mpr ⟨i,by rw[zyB];exact⟨h1,h2⟩⟩),na,I,ta,tb,by show 0<t;lia,by show v <= t;lia,oa.tx,ob.tx⟩;unfold plI at this;rw[zze]at this;exact this
noncomputable def tO(hs:List Str)(ms:List Mk)(cs:List Cs):D:=match cs.getLast? with
 |none=>.non|some c=>.lst ((plI hs ms c).map .int)
theorem yE:∀(a b:List Int) (i j:Int),a.length=b.length->HT.lexLt (a++[i]) (b++[j])=gtP b j a i
 |[],[],i,j,_=>by
  show HT.lexLt [i] [j]=_;rw[HT.lexLt_cons];unfold gtP;rw[zzn rfl];by_cases e:i=j
  ·rw[zzn e,zzl (by lia)];rfl
  ·rw[zzi e]
 |[],_::_,_,_,h=>by simp at h
 |_::_,[],_,_,h=>by simp at h
 |x::a,y::b,i,j,h=>by
  rw[zyu,zyu,HT.lexLt_cons,yE a b i j (by simpa using h)];unfold gtP;by_cases e:x=y
  ·subst e;rw[zzn rfl];by_cases e2:b=a
   ·rw[zzn e2,zzn (by rw[e2])]
   ·rw[zzi e2,zzi (λz=>e2 (zwB z).2),HT.lexLt_cons,zzn rfl]
  ·rw[zzi e,zzi (λz=>e (zwB z).1.symm),HT.lexLt_cons,zzi e]
theorem xc{c:Cs}(o:c.Ok hs ms):(kpl c.kw ms).length=ms.length:=by have:=o.kl;unfold kpl;rw[zza,zyM];lia
theorem MsT.snoc(o:MsT ms){n:Str}{r:List Str}(h5:ms.length≠5)(h:mlB (ms.map (·.1)) (cL::n::r)=true)(q:TxOk n)(Y:∀x∈r,TxOk x):MsT (ms++[(n,r)]):=by
 have h:(decide (cL=cL) && (decide (1 <= r.length) && decide (r.length <= 6)) && isNm n && !decide (n∈ms.map (·.1)) && nmsB r)=true:=h;simp only[zzX,zyb,Bool.not_eq_true',decide_eq_false_iff_not]at h;obtain⟨⟨⟨⟨_,e,g⟩,j⟩,U⟩,l⟩:=h;have:=o.l5;refine⟨by rw[zzd,zyF];lia,?_,λm d=>?_⟩
 ·rw[zze,zyK];exact⟨o.nd,by simp,λx J y L z=>by simp only[zzh,zyf,zzw]at L;rw[z,L]at J;exact U J⟩
 ·rcases zzo.mp d with d|d
  ·exact o.nm m d
  ·rw[zzw.mp d];exact⟨j,e,g,l,q,Y⟩
theorem Gd.snoc{cs:List Cs}(g:Gd hs ms cs){c:Cs}(o:c.Ok hs ms)(h:∀p,cs.getLast? = some p->Bh hs ms p c):Gd hs ms (cs++[c]):=by
 refine⟨g.h2,g.h6,g.hn,g.mo,λd hd=>(zzo.mp hd).elim (g.co d) λz=>by rw[zzw.mp z];exact o,zyU.mpr ⟨g.cb,List.pairwise_singleton ..,λx L y l=>?_⟩⟩;rw[zzw.mp l];have J:cs≠[]:=by rintro rfl;cases L
 have U:=h _ (zwa J);rcases zwH cs with z|⟨p0,p,e⟩
 ·exact absurd z J
 ·have Y:cs.getLast J=p:=by simp[e]
  rw[Y]at U;rw[e,zwh]at L;have j:=g.cb;rw[e,zwh]at j;rcases zzo.mp L with L|L
  ·exact Cp ((zyU.mp j).2.2 x L p (by simp)) U
  ·rw[zzw.mp L];exact U
def gBad:DSp:=λd Q=>∃z:Str,d=[.str z]/\Zt z/\(∀k:Nat,JT z k->Q (.int k))/\(∀hs ms cs,linW z=(aB::hs)::ms.map mkLn++cs.map Cs.ln->Gd hs ms cs->Q .non)
theorem pZ:bb gBad:=by rintro ds P P' f ⟨z,a,b,c,d⟩;exact⟨z,a,b,λk h=>f _ (c k h),λhs ms cs e g=>f _ (d hs ms cs e g)⟩
theorem xf(g:ms.length <= 5){s:Sl}(q:Q ((ms.map (·.1)).map D.str)):dl (cH 0) cJ (dOp gIx (dVar 0) (dC (.int 0))) (ms.map mkD) [] [s] Q:=by refine aP (D.str ∘ (·.1)) (λd=>∃a,d=[a]) (zzq g (by decide)) (λm _ d Y Z e J=>?_) _ ⟨_,rfl⟩ (by rw[←zzB];exact q);obtain⟨a,rfl⟩:=e;exact Br.t (J _ ⟨_,rfl⟩)
theorem qa(T:Tx K mg):FnOk P w K mg base CX0 3 T.eQ T.dE ["_law_text_here"] (spD K 1 gBad):=by
 refine fnD (k:=2) T.eN.F sc__law_bad_line (λcdv A outer s H E M=>(ad (jH (i:=1) sc__law_bad_line.nd rfl rfl (aH (N':=["_law_line_here"]) rfl rfl (by decide +kernel) rfl (.own .nil) (by decide +kernel) (aR (ao (dN (dv 0) al))) (λB=>(dgb 0)) (λB=>aM) (λB=>(ao (dN (dv 0) al)))))
   (ad (dse 2 sc__law_bad_line.nd (ao (dJ (dix (dv 1) ae) (aS ae) bj)))
   (ad (aI (PWD.pt (cX (az (nO M) (dix (dix (dv 1) ae) ae) al (ay _)) (bR (bQ (br (dcl T.bo (dw T) du M (aa (dv 2) (aa ae (aa ae ac))))))))) (af (aA ae)) aw)
   (ad (dow 3 sc__law_bad_line.nd (aN ac))
   (ad (dse 4 sc__law_bad_line.nd cq)
   (aO (cI zyc rfl (uW rfl T.dF (aa ae (aa (aj aX rfl T.ba zzA (aa (dv 1) ac)) ac))) (dgn 5 sc__law_bad_line.nd) (ad (dse 6 sc__law_bad_line.nd (dix (dv 1) (dv 5)))
   (af (aI (az (cY M) (dix (dv 6) ae) al (ay _)) (ad (aI (PWD.pt (cX (az sP (dv 4) cq (ay _)) (cX (mj 3 (az (cY M) (aj aX rfl T.ba zzA (aa (dv 3) ac)) ae (ay _))) (bR (bQ (br (dcl T.bo (dw T) du M (aa (ao (dJ (dv 6) (aS ae) (aS ae))) (aa ae (aa ae ac)))))))))) (af (aA (dv 5))) aw)
   (ad (aI (PWD.pt (cX (mj 3 (az Jr (dix (dv 6) ae) (ao (PCD.pld (aH (N':=["_law_mark"]) rfl rfl (by decide +kernel) rfl (.own .nil) (by decide +kernel) (aR (dv 3)) (λB=>(dgb 0)) (λB=>aM) (λB=>(dix (dv 0) ae))))) rfl)) (bR (bQ (br (dcl T.bo (dw T) du M (aa (ao (dJ (dv 6) (aS ae) bj)) (aa ae (aa ae ac))))))))) (af (aA (dv 5))) aw)
   (af (ii (pv 3) (bA (aa (dix (dv 6) ae) (aa (ao (dJ (dv 6) (aS ae) bj)) ac))))))) (ad (dse 7 sc__law_bad_line.nd (dO 3 (dcl T.km (xb T) xa M (aa (dv 2) (aa (dv 3) (aa (dv 6) ac))))))
   (ad (aI (PWD.pt (cX (az xP (dv 7) cq (ay _)) (bR (PWD.pt (xL (az sP (dv 4) cq (ay _)) (sO (az (JJ M) (dv 7) (dv 4) (ay _)))))))) (af (aA (dv 5))) aw)
   (af (dse 4 sc__law_bad_line.nd (dv 7)))))))))
   (af (aA cq))))))))) (λds Q hl h=>?_)
 obtain⟨z,rfl,zo,hb,hg⟩:=h;refine⟨z,rfl,nlS,⟨rfl,by decide +kernel,z_sp zo.le⟩,mO zo ?_⟩;have lo:=λws hw=>zo.ln (ws:=ws) hw;have la:=λws hw=>zo.as (ws:=ws) hw;have cl:=zo.nl;rw[←zza (f:=λl=>Txt.split l spS),show (Txt.split z nlS).map (λl=>Txt.split l spS)=linW z from rfl]at cl;obtain⟨L,G⟩:∃L,L=linW z:=⟨_,rfl⟩;rw[←G]at lo la cl ⊢
 match L,G with
 |[],G=>exact absurd G.symm (by unfold linW;rw[kX];simpa using jg z 10)|[]::_,G=>exact absurd rfl (lo [] zzg).ne|(w::hs)::L,G =>
 have a0:=la _ zzg;have e1:cutD ((w::hs).map D.str) (some 1) none=hs.map D.str:=cy D.str 1 (w::hs) (by simp);refine aK (d:=lnD (w::hs)) (zye 0) rfl ?_;show opt (atI _ 0) _;refine aK (d:=lnD (w::hs)) (zye 0) rfl (aK (d:=.str w) (zye 0) rfl ⟨⟨aV (a0 w (by simp)).tx.ok,aV (by decide +kernel)⟩,?_⟩);rw[e1];show Br (!eqD (.str w) (.str aB)) _ _;rw[eu];have a4:hlB w hs=false->Q (.int 0):=λh=>hb 0 (.inl ⟨rfl,w,hs,L,G.symm,h⟩);by_cases ew:w=aB
 case neg =>
  rw[zzl ew];exact Br.t (Br.t (a4 (by unfold hlB;rw[zzl ew];rfl)))
 rw[zzj ew];have eh:hlB w hs=(decide (2 <= hs.length) && decide (hs.length <= 6) && nmsB hs):=by unfold hlB;rw[zzj ew,zyJ]
 refine Br.f ⟨rfl,hs,2,6,rfl,λx hx=>a0 x (zzc _ hx),by decide,?_⟩;rw[←eh];cases eg:hlB w hs with
 |false=>exact Br.t (a4 eg)|true =>
 rw[eh]at eg;simp only[zzX,zyb]at eg;obtain⟨⟨g1,g2⟩,g3⟩:=eg;subst ew;obtain⟨N,a6⟩:∃N,N=((aB::hs)::L).map lnD:=⟨_,rfl⟩;have elen:(N.length:Int)=1+L.length:=by rw[a6];simp only[zza,zzm];lia
 rw[←a6];refine Br.f ⟨sz,λρ=>∃(ms:List Mk) (cs:List Cs) (s5 j u:Sl),(L=ms.map mkLn++cs.map Cs.ln/\Gd hs ms cs)/\ρ=[.val (.str z),.val (.lst N),.val (.lst (hs.map .str)),.own (ms.map mkD),.val (tO hs ms cs),s5,j,u],?_,?_⟩
 case refine_2 =>
  rintro _ ⟨ms,cs,s5,j,u,⟨e,g⟩,rfl⟩;exact hg hs ms cs (by rw[←G,e];rfl) g
 simp only[zzm]at cl;refine⟨⟨by lia,by lia,by lia,by lia⟩,?_⟩;refine eY (λk ρ=>∃(ms:List Mk) (cs:List Cs) (rest:List (List Str)) (s5 j u:Sl),(L=ms.map mkLn++(cs.map Cs.ln++rest)/\Gd hs ms cs/\(u=.nil∨∃d,u=.val d))/\k=1+ms.length+cs.length/\ρ=[.val (.str z),.val (.lst N),.val (.lst (hs.map .str)),.own (ms.map mkD),.val (tO hs ms cs),s5,j,u]) _ _ (λρ hN=>?_) (λk ρ X k0 k1 hN hX=>?_) _ ⟨[],[],L,_,_,_,⟨rfl,⟨g1,g2,g3,⟨by decide,by simp,λ_ h=>(nomatch h)⟩,λ_ h=>(nomatch h),.nil⟩,.inl rfl⟩,rfl,rfl⟩
 ·obtain⟨ms,cs,rest,s5,j,u,⟨e,g,_⟩,ek,rfl⟩:=hN;have a:=congrArg List.length e;simp only[zzd,zza]at a;have:rest=[]:=zzK.mp (by lia);subst this;rw[zzv]at e;exact⟨ms,cs,_,_,_,⟨e,g⟩,rfl⟩
 obtain⟨ms,cs,rest,s5,j,u,⟨e,g,h7⟩,rfl,rfl⟩:=hN;have oo:∀d0 d1 d2 es d4 d5 d6,bM 3 [.val d0,.val d1,.val d2,.own es,.val d4,.val d5,.val d6,u]=true:=λd0 d1 d2 es d4 d5 d6=>by rcases h7 with rfl|⟨d,rfl⟩<;>rfl
 have a:=congrArg List.length e;simp only[zzd,zza]at a;have l5:=g.mo.l5
 match rest,e,a with
 |[],_,a =>
  simp only[zyZ]at a;lia
 |l::rest,e,a =>
 have Y:l∈(aB::hs)::L:=zzc _ (by rw[e];simp);have a5:N[(1+(ms.length:Int)+(cs.length:Int)).toNat]? = some (lnD l):=by rw[a6,show (1+(ms.length:Int)+(cs.length:Int)).toNat=(ms.length+cs.length)+1 by lia,e];show ((ms.map mkLn++(cs.map Cs.ln++l::rest)).map lnD)[ms.length+cs.length]? = _;rw[←zzO,zze,zzT (by simp)];simp
 match l,Y,a5,e with
 |[],Y,_,_=>exact absurd rfl (lo [] Y).ne|x::q,Y,a5,e =>
 have I:=la _ Y;have bad:(cs=[]->ms.length=5∨mlB (ms.map (·.1)) (x::q)=false)->yp hs ms cs (x::q)->Q (.int (1+(ms.length:Int)+(cs.length:Int))):=λh1 h2=>by have:=hb (1+ms.length+cs.length) (.inr ⟨hs,ms,cs,x::q,rest,by rw[←G,e];rfl,g,h1,h2,rfl⟩);rwa [show ((1+ms.length+cs.length:Nat):Int)=1+(ms.length:Int)+(cs.length:Int) by lia]at this
 refine aK (d:=lnD (x::q)) (by lia) a5 (aK (d:=.str x) (zye 0) rfl ⟨⟨aV (I x (by simp)).tx.ok,aV (by decide +kernel)⟩,?_⟩);show Br (eqD (.str x) (.str cL)) _ _;rw[eu];by_cases ex:x=cL
 ·subst ex;rw[zzj rfl];have m:yp hs ms cs (cL::q):=λc e _=>absurd (zwB e).1 (by decide +kernel);refine Br.t ?_;cases J:cs.getLast? with
  |some p =>
   have b1:cs≠[]:=by rintro rfl;cases J
   have C:tO hs ms cs=.lst ((plI hs ms p).map .int):=by unfold tO;rw[J]
   rw[C];exact Br.t (Br.t (bad (λz=>absurd z b1) m))
  |none =>
  have J:cs=[]:=by simpa using J
  subst J;refine Br.f ⟨_,rfl,oo _ _ _ _ _ _ _,⟨rfl,rfl⟩,rfl,?_⟩;show Br (eqD (.int _) (.int 5)) _ _;rw[bB,zza];by_cases h5:(ms.length:Int)=5
  ·rw[zzj h5];exact Br.t (Br.t (bad (λ_=>.inl (by lia)) m))
  rw[zzl h5];refine Br.f ?_;have U:mlB (ms.map (·.1)) (cL::q)=false->Q (.int (1+(ms.length:Int)+(([]:List Cs).length:Int))):=λh=>bad (λ_=>.inr h) m;have a9:cutD ((cL::q).map D.str) (some 1) (some 2)=(q.take 1).map .str:=by
   cases q with
   |nil=>rfl|cons n r =>
    unfold cutD;rw[show (some (1:Int))=some ((1:Nat):Int) from rfl,show (some (2:Int))=some ((2:Nat):Int) from rfl,HT.sIx_nat,HT.sIx_nat,zza,zzm,zzm,zxR (show 1 <= r.length+1+1 by lia),zxR (show 2 <= r.length+1+1 by lia)];rfl
  refine⟨rfl,q.take 1,1,1,congrArg (λy=>[D.lst y,.int 1,.int 1]) a9,λy hy=>I y (zzc _ (zyV hy)),by decide,?_⟩
  match q,I,e,U with
  |[],_,_,U=>exact Br.t (U rfl)|n::r,I,e,U =>
  have emb:mlB (ms.map (·.1)) (cL::n::r)=(decide (cL=cL) && (decide (1 <= r.length) && decide (r.length <= 6)) && isNm n && !decide (n∈ms.map (·.1)) && nmsB r):=rfl;rw[zzj rfl,zyJ]at emb;show Br (!(true && true && nmsB [n])) _ _;rw[show nmsB [n]=isNm n by rw[Cu];simp];cases en:isNm n with
  |false=>exact Br.t (U (by rw[emb,en];simp))|true =>
  rw[en,Bool.and_true]at emb;refine Br.f ⟨_,rfl,oo _ _ _ _ _ _ _,aK (d:=.str n) (r:=1) (by decide) rfl (xf l5 ⟨⟨rfl,bD _⟩,?_⟩)⟩;rw[jS];by_cases a3:n∈ms.map (·.1)
  ·rw[zzj a3];rw[zzj a3]at emb;exact⟨rfl,Br.t (Br.t (U (by rw[emb];simp)))⟩
  rw[zzl a3];rw[zzl a3,Bool.not_false,Bool.and_true]at emb;have a7:cutD ((cL::n::r).map D.str) (some 2) none=r.map D.str:=cy D.str 2 (cL::n::r) (by simp);refine⟨rfl,Br.f ⟨rfl,r,1,6,congrArg (λy=>[D.lst y,.int 1,.int 6]) a7,λy hy=>I y (by simp[hy]),by decide,?_⟩⟩;rw[←emb];cases er:mlB (ms.map (·.1)) (cL::n::r) with
  |false=>exact Br.t (U er)|true =>
  refine Br.f ⟨trivial,aK (d:=.str n) (r:=1) (by decide) rfl ⟨sz,?_,hX _ ⟨ms++[(n,r)],[],rest,_,_,u,⟨by rw[e];simp[mkLn],⟨g.h2,g.h6,g.hn,g.mo.snoc (by lia) er (I n (by simp)).tx λy hy=>(I y (by simp[hy])).tx,λ_ h=>(nomatch h),.nil⟩,h7⟩,by rw[zzd];simp;lia,by rw[show (ms++[(n,r)]).map mkD=ms.map mkD++[.tup [.str n,.lst (cutD ((cL::n::r).map D.str) (some 2) none)]] by rw[zze,a7];rfl];rfl⟩⟩⟩;rw[zza];exact zzG l5 (by decide)
 ·rw[zzl ex];refine Br.f ?_;have b2:mlB (ms.map (·.1)) (x::q)=false:=by
   cases q with
   |nil=>rfl|cons n r =>
    show (decide (x=cL) && (decide (1 <= r.length) && decide (r.length <= 6)) && isNm n && !decide (n∈ms.map (·.1)) && nmsB r)=false;rw[zzl ex];simp
  have fin:∀{c:Cs},x::q=c.ln->c.Ok hs ms->(∀p,cs.getLast? = some p->Bh hs ms p c)->∀(s5 j:Sl) (d:D),X [.val (.str z),.val (.lst N),.val (.lst (hs.map .str)),.own (ms.map mkD),.val (.lst ((plI hs ms c).map .int)),s5,j,.val d]:=λ{c} ec v b s5 j d=>hX _ ⟨ms,cs++[c],rest,s5,j,.val d,⟨by rw[e,ec];simp,g.snoc v b,.inr ⟨d,rfl⟩⟩,by rw[zzd];simp;lia,by unfold tO;rw[List.getLast?_append];rfl⟩;refine⟨_,rfl,oo _ _ _ _ _ _ _,rfl,hs,ms,x::q,rfl,⟨by simp,I⟩,l5,λc ec v=>⟨⟨⟨?_,_,rfl⟩,rfl⟩,?_⟩,λno=>⟨⟨trivial,rfl⟩,Br.t (Br.t (bad (λ_=>.inr b2) λc e o=>absurd o (no c e)))⟩⟩
  ·have:=xc v;rw[zza,zza,zzd,zyF];lia
  refine Br.f ?_;cases J:cs.getLast? with
  |none =>
   have C:tO hs ms cs=.non:=by unfold tO;rw[J]
   rw[C];exact Br.f (Br.f (fin ec v (λp b=>by rw[J]at b;cases b) _ _ _))
  |some p =>
   have C:tO hs ms cs=.lst ((plI hs ms p).map .int):=by unfold tO;rw[J]
   rw[C];have op:=g.co p (List.mem_of_getLast? J);have lp:=xc op;have lc:=xc v;refine Br.t ⟨plI hs ms c,plI hs ms p,⟨rfl,rfl⟩,by simp only[plI,zzd,zyF];lia,?_⟩;rw[show HT.lexLt (plI hs ms p) (plI hs ms c)=gtP (kpl c.kw ms) (plc c.hn hs) (kpl p.kw ms) (plc p.hn hs) from yE _ _ _ _ (by lia)];cases a8:gtP (kpl c.kw ms) (plc c.hn hs) (kpl p.kw ms) (plc p.hn hs) with
   |true=>exact Br.f (fin ec v (λp' b=>by rw[J]at b;cases b;exact a8) _ _ _)
   |false =>
    refine Br.t (bad (λz=>by rw[z]at J;cases J) λd ed od=>⟨p,J,?_⟩);have e7:d=c:=BX (ec.symm.trans ed) v od;subst e7;unfold Bh;rw[a8];decide
noncomputable def tot(ws:List Str):Nat:=(ws.map λx=>x.length).sum+ws.length
theorem iz(a b:List Str):tot (a++b)=tot a+tot b:=by unfold tot;rw[zze,List.sum_append,zzd];lia
theorem jh(x:Str)(b:List Str):tot (x::b)=x.length+1+tot b:=by unfold tot;rw[zzh,zwC,zzm];lia
theorem qc(ws:List Str)(k:Nat):tot (ws.take k)+tot (ws.drop k)=tot ws:=by rw[←iz,zxz]
theorem Cv(h:x∈ws):x.length+1 <= tot ws:=by obtain⟨a,b,rfl⟩:=List.append_of_mem h;rw[iz,jh];lia
theorem tP(c:Nat)(ws:List Str):(Txt.join ⟨#[c]⟩ ws).length <= tot ws:=by have h:=zxY ⟨#[c]⟩ ws;rw[show Txt.join ⟨#[c]⟩ ws=Str.join ⟨#[c]⟩ ws from zyh ..];have e:(⟨#[c]⟩:Str).length=1:=rfl;rw[e,Nat.mul_one]at h;exact h
theorem Cw(h:tot ws <= 1000000):JoinOk ⟨#[c]⟩ ws=true:=by
 unfold JoinOk;have e:(⟨#[c]⟩:Str).length=1:=rfl;rw[StrLaws.joinTotal,e,Nat.mul_one];have:Builtin.Str.tooLong (tot ws)=false:=by
  unfold Builtin.Str.tooLong;have:(1000000:Nat)<sizeLine:=by decide
  exact zzl (by lia)
 show (!Builtin.Str.tooLong (tot ws))=true;rw[this];rfl
theorem Fu{c:Nat}:∀{xs:List (List Nat)},xs≠[]->(jn c xs).length+1=(xs.map λx=>x.length).sum+xs.length
 |[],h=>absurd rfl h|[x],_=>by simp[jn]
 |x::y::r,_=>by have ih:=Fu (c:=c) (xs:=y::r) (by simp);show (x++c::jn c (y::r)).length+1=_;rw[zzd,zzm,zzh,zwC,zzm];lia
theorem vP(z:Str)(c:Nat):tot (Txt.split z ⟨#[c]⟩)=z.length+1:=by have h:=Fu (c:=c) (xs:=(Txt.split z ⟨#[c]⟩).map λl=>l.cps.toList) (by simpa using jg z c);rw[tJ,zzB,zza]at h;unfold tot;have e:((λx:List Nat=>x.length) ∘ λl:Str=>l.cps.toList)=λx=>x.length:=funext λl=>zzF;rw[e]at h;rw[←h];exact congrArg (· + 1) zzF
def Pl(x:Str):Prop:=∀c∈x.cps.toList,c<128/\c≠10
theorem Pl.join{c:Nat}(e:c<128/\c≠10){ws:List Str}(h:∀x∈ws,Pl x):Pl (Txt.join ⟨#[c]⟩ ws):=λd hd=>by
 rcases kY hd with rfl|⟨x,J,hd⟩
 ·exact e
 ·exact h x J d hd
theorem Pl.app{y:Str}(J:Pl x)(L:Pl y):Pl (x++y):=λc d=>by
 rw[zxI,zxa]at d;rcases zzo.mp d with d|d
 ·exact J c d
 ·exact L c d
def Kb:DSp:=λe Q=>∃(d:List Str) (B:Nat),e=[.pen,.lst (d.map .str)]/\(d≠[]/\B <= 100000/\∀l∈d,Pl l/\l.length <= B)/\∀x:Str,Pl x->x.length <= B+31->Q (.str x)
theorem qd:bb Kb:=by rintro ds P P' f ⟨g,B,a,b,h⟩;exact⟨g,B,a,b,λx d e=>f _ (h x d e)⟩
theorem Fv{ls:List Str}(h:(ls.all λx=>x.cps.toList.all (λc=>decide (c<128) && decide (c≠10)) && decide (x.length <= 31))=true):∀d∈ls.map D.str,∃x:Str,d=.str x/\Pl x/\x.length <= 31:=λd hd=>by obtain⟨x,J,rfl⟩:=zzs.mp hd;have h:=zyw.mp h x J;rw[zzX,zyw]at h;exact⟨_,rfl,λc e=>by simpa using h.1 c e,zzP h.2⟩
theorem qe(T:Tx K mg):FnOk P w K mg base CX0 2 T.jW T.iA ["_law_pen_here","_law_lines"] (spD K 2 Kb):=by
 refine fnD (k:=1) T.gK.F sc__law_line (λcdv A outer s H E o=>(ad (dse 2 sc__law_line.nd (ao (aN (aa al (aa al (aa al (aa al (aa al (aa al (aa al (aa al ac)))))))))))
   (ad (dse 2 sc__law_line.nd (ao (dc (dv 2) (ao (aN (aa al (aa al (aa al (aa al (aa al ac))))))))))
   (ad (dse 2 sc__law_line.nd (ao (dc (dv 2) (ao (aN (aa al (aa al (aa al (aa al (aa al (aa al (aa al ac))))))))))))
   (ad (dse 2 sc__law_line.nd (ao (dc (dv 2) (ao (aN (aa (bc mz (dix (dv 1) (nM gW ae)) al) (aa (dix (dv 1) ae) (aa (dix (dv 1) (nM gW ae)) ac))))))))
   (af (aA (dix (dv 2) (dcl T.aq (ar T) au o (aa (dv 0) (aa ae ac))))))))))) (λds Q hl h=>?_)
 obtain⟨ls,B,rfl,⟨Y,hB,l⟩,h⟩:=h;have e:0<ls.length:=zxo.mpr Y;have g:ls[0]? = some ls[0]:=zzt e;have j:ls[ls.length - 1]? = some ls[ls.length - 1]:=zzt (by lia);obtain⟨U,e0⟩:∃U,U=ls[0]:=⟨_,rfl⟩;obtain⟨J,e1⟩:∃J,J=ls[ls.length - 1]:=⟨_,rfl⟩;rw[←e0]at g;rw[←e1]at j;have n:=l U (zzI g);have L:=l J (zzI j);have last:∀{Q:D->Prop},Q (.str J)->opt (atI (ls.map D.str) (-1)) Q:=λq=>by show opt (atI _ (-((1:Nat):Int))) _;rw[rK (k:=1) (by decide) (d:=.str J) (by rw[zza];lia) (by rw[zza,zzu,j];rfl)];exact q
 have u:(Str.ofString " 0").length=2:=by decide +kernel
 refine⟨sz,sz,sz,sz,sz,last ⟨zzq (show J.length+(Str.ofString " 0").length <= 100002 by lia) (by decide),aK (d:=.str U) (zye 0) (by rw[zzu];exact congrArg (Option.map _) g) (last ⟨sz,sz,rfl,⟨by decide,by decide⟩,λr y G=>pw y G λd hd=>?_⟩)⟩⟩;rcases zzo.mp hd with hd|hd
 ·obtain⟨x,rfl,a,b⟩:=Fv (ls:=[""," ","houses","houses a","houses a b","houses a b c d e f g","houses a a","mark","mark a","mark a a","mark a b c d e f g","mark a b c d e f g h","mark A b","mark a b b","mark  a","case","case a 1 1","case a 0 0","Case a 1 0","case a 1 2"].map Str.ofString) (by decide +kernel) d hd;exact h x a (by lia)
 ·simp only[zzk,zyx,zxJ]at hd;rcases hd with rfl|rfl|rfl
  ·refine h _ (L.1.app (by unfold Pl;decide +kernel)) ?_;show (J.cps++_).size <= _;rw[Array.size_append];have:(Str.ofString " 0").cps.size=2:=u;have:J.cps.size <= B:=L.2;lia
  ·exact h _ n.1 (by have:=n.2;lia)
  ·exact h _ L.1 (by have:=L.2;lia)
def Kc:DSp:=λd Q=>∃l:Str,d=[.pen,.str l]/\(Pl l/\l.length <= 100000)/\∀x:Str,Pl x->x.length <= 2*l.length+40->Q (.str x)
theorem nP:bb Kc:=by rintro ds P P' f ⟨l,a,b,h⟩;exact⟨l,a,b,λx d e=>f _ (h x d e)⟩
theorem nQ(T:Tx K mg):FnOk P w K mg base CX0 2 T.dz T.cO ["_law_pen_here","_law_line_here"] (spD K 2 Kc):=by
 refine fnD (k:=1) T.dA.F sc__law_word_bent (λcdv A outer s H E j=>(ad (dse 2 sc__law_word_bent.nd (ao (dN (dv 1) al)))
   (ad (dse 3 sc__law_word_bent.nd (dcl T.aq (ar T) au j (aa (dv 0) (aa (aj aX rfl T.ba zzA (aa (dv 2) ac)) ac))))
   (ad (dse 4 sc__law_word_bent.nd (ao (aN (aa al (aa al (aa al (aa al (aa al (aa al (aa al (aa (bc BJ al ae) (aa (bc BJ al ae) (aa al (aa al (aa al ac)))))))))))))))
   (ad (dse 4 sc__law_word_bent.nd (ao (dc (dv 4) (ao (aN (aa al (aa al (aa al ac))))))))
   (ad (dse 5 sc__law_word_bent.nd (dix (ao (dc (dv 4) (dv 2))) (dcl T.aq (ar T) au j (aa (dv 0) (aa (bc cg ae (aj aX rfl T.ba zzA (aa (dv 2) ac))) ac)))))
   (ad (dse 6 sc__law_word_bent.nd (dcl T.aq (ar T) au j (aa (dv 0) (aa ae ac))))
   (ad (aI (az (cY j) (dv 6) ae (ay _)) (af (aA (fB al (ao (dc (ao (dJ (dv 2) bj (aS (dv 3)))) (ao (dJ (dv 2) (aS (bc cg (dv 3) ae)) bj))))))) aw)
   (af (aA (fB al (ao (dc (ao (dc (ao (dJ (dv 2) bj (aS (dv 3)))) (ao (aN (aa (dv 5) ac))))) (ao (dJ (dv 2) (aS (bc Bc (bc cg (dv 3) (dv 6)) ae)) bj))))))))))))))) (λds Q hl h=>?_)
 obtain⟨l,rfl,⟨p,i⟩,h⟩:=h;obtain⟨ws,L⟩:∃ws,ws=Txt.split l spS:=⟨_,rfl⟩;have tw:tot ws=l.length+1:=by rw[L,mM];exact vP l 32
 have u:ws≠[]:=by rw[L,mM];exact jg l 32
 have U:∀x∈ws,Pl x:=λx g c M=>by rw[L,mM]at g;exact p c ((cj g).2.1 c M)
 have wl:ws.length <= l.length+1:=by rw[←tw];unfold tot;lia
 have wpos:0<ws.length:=zxo.mpr u;have el:(((ws.map D.str).length:Nat):Int)=ws.length:=by rw[zza]
 refine⟨l,rfl,spS,⟨rfl,by decide +kernel,z_sp i⟩,?_⟩;rw[←L];refine⟨rfl,⟨by lia,by lia⟩,λat_ q a1=>?_⟩;obtain⟨k,rfl⟩:=zyd q;have kl:k<ws.length:=by lia
 refine⟨by unfold PySem.MulOk;decide +kernel,by unfold PySem.MulOk;decide +kernel,sz,sz,sz,?_,rfl,⟨by lia,by lia⟩,λr C r1=>pw C (by rw[zzd,zza];show r<((15+ws.length:Nat):Int);lia) λd hd=>?_⟩
 ·rw[zza];exact zzq (show 15+ws.length <= 100016 by lia) (by decide)
 have G:∃x:Str,d=.str x/\Pl x/\x.length <= l.length+31:=by
  rcases zzo.mp hd with hd|hd
  ·obtain⟨x,e,a,b⟩:=Fv (ls:=["","0","1","00","01","-1","+1"].map Str.ofString++[Txt.mul (Str.ofString "1") 30,Txt.mul (Str.ofString "1") 31]++["a","A","abcdefgh","abcdefghi","case","mark"].map Str.ofString) (by decide +kernel) d hd;exact⟨x,e,a,by lia⟩
  ·obtain⟨x,g,rfl⟩:=zzs.mp hd;have:=Cv g;exact⟨x,rfl,U x g,by lia⟩
 obtain⟨x,rfl,B,lx⟩:=G;have Y:∀m,k <= m->tot (ws.take k)+tot (ws.drop m) <= tot ws:=λm N=>by have h1:=qc ws m;have I:=qc (ws.take m) k;rw[List.take_take,zxR N]at I;lia
 have n:∀m,(ws.take k).length+(ws.drop m).length <= 300000:=λm=>by rw[zyl,zyO];lia
 refine⟨rfl,⟨by decide,by decide⟩,λv v0 v1=>⟨⟨rfl,rfl⟩,?_⟩⟩;show Br (eqD (.int v) (.int 0)) _ _;rw[bB];refine Br.di (λz=>?_) λz=>?_
 ·have e2:cutD (ws.map D.str) none (some (k:Int))++cutD (ws.map D.str) (some ((k:Int)+1)) none=(ws.take k++ws.drop (k+1)).map .str:=by
   rw[oj (by lia),show ((k:Int)+1)=((k+1:Nat):Int) by lia,cy D.str (k+1) ws (by lia),zze]
  have o:=Y (k+1) (by lia);rw[←iz]at o;refine⟨spS,rfl,?_⟩;refine⟨?_,ws.take k++ws.drop (k+1),⟨congrArg D.lst e2,by rw[mM];exact Cw (by lia)⟩,h _ (by rw[mM];exact Pl.join (by decide) λy J=>U y ((zzo.mp J).elim zyV zxj)) (by rw[mM];have:=tP 32 (ws.take k++ws.drop (k+1));lia)⟩;have:=n (k+1);rw[oj (by lia),show ((k:Int)+1)=((k+1:Nat):Int) by lia,cy D.str (k+1) ws (by lia),zza,zza];exact zzq this (by decide)
 ·obtain⟨m,em⟩:∃m:Nat,(k:Int)+v - 1=(m:Int):=zyd (by lia);have e1:=oj (ws:=ws) (k:=k) (by lia);have e3:cutD (ws.map D.str) (some ((k:Int)+v - 1)) none=(ws.drop m).map .str:=by rw[em];exact cy D.str m ws (by lia)
  have e2:(cutD (ws.map D.str) none (some (k:Int))++[D.str x])++cutD (ws.map D.str) (some ((k:Int)+v - 1)) none=(ws.take k++[x]++ws.drop m).map .str:=by rw[e1,e3,zze,zze];rfl
  have o:=Y m (by lia);have t1:tot (ws.take k++[x]++ws.drop m)=tot (ws.take k)+(x.length+1)+tot (ws.drop m):=by rw[iz,iz,jh];rfl
  have l1:=n m;refine⟨spS,rfl,sz,?_,?_,ws.take k++[x]++ws.drop m,⟨congrArg D.lst e2,by rw[mM];exact Cw (by lia)⟩,h _ ?_ ?_⟩
  ·rw[e1,zza];exact zzq (show (ws.take k).length+1 <= 300001 by lia) (by decide)
  ·rw[e1,e3,zzd,zza,zza];exact zzq (show (ws.take k).length+1+(ws.drop m).length <= 300001 by lia) (by decide)
  ·rw[mM];refine Pl.join (by decide) λy J=>?_;rcases zzo.mp J with J|J
   ·rcases zzo.mp J with J|J
    ·exact U y (zyV J)
    ·rw[zzw.mp J];exact B
   ·exact U y (zxj J)
  ·rw[mM];have:=tP 32 (ws.take k++[x]++ws.drop m);lia
structure Sp(B N:Nat)(z:Str):Prop where
 le:z.length <= B
 asc:∀c∈z.cps.toList,c<128
 nl:z.cps.toList.count 10 <= N
theorem tQ{c:Nat}:∀{xs:List (List Nat)},(∀x∈xs,c∉x)->(jn c xs).count c=xs.length - 1
 |[],_=>rfl|[x],h=>List.count_eq_zero.mpr (h x zzg)|x::y::r,h=>by have J:=tQ (c:=c) (xs:=y::r) λz d=>h z (zzc _ d);show (x++c::jn c (y::r)).count c=_;rw[zxD,List.count_cons_self,J,List.count_eq_zero.mpr (h x zzg)];simp
theorem jU(z:Str)(c:Nat):(Txt.split z ⟨#[c]⟩).length=z.cps.toList.count c+1:=by
 have h:=tQ (c:=c) (xs:=(Txt.split z ⟨#[c]⟩).map λl=>l.cps.toList) λx J=>by obtain⟨l,d,rfl⟩:=zzs.mp J;exact zva z c l d
 rw[tJ,zza]at h;have:=zxo.mpr (jg z c);lia
theorem Sp.zt{N:Nat}(o:Sp B N z)(J:B <= 100000)(hN:N <= 59):Zt z:=by refine⟨zzq o.le J,o.asc,?_⟩;have:=o.nl;rw[kX,jU];lia
theorem tR(x y:Str):(x++y).cps.toList=x.cps.toList++y.cps.toList:=by rw[zxI,zxa]
theorem Kd{i:Nat}(h:i <= z.length):(Txt.slice z none (some (i:Int))).cps.toList=z.cps.toList.take i:=by have el:z.cps.toList.length=z.length:=zzF;have e:Txt.slice z none (some (i:Int))=⟨((z.cps.toList.drop 0).take ((i:Int) - 0).toNat).toArray⟩:=StrLaws.sliceText_to ⟨by lia,by lia⟩;rw[e];simp
theorem Cy{i:Nat}(h:i <= z.length+1):(Txt.slice z (some (i:Int)) none).cps.toList=z.cps.toList.drop i:=by
 have J:z.cps.toList.length=z.length:=zzF;by_cases e0:i=z.length+1
 ·have e:Txt.slice z (some (i:Int)) none=Txt.slice z (some (z.length:Int)) none:=by
   have e1:Builtin.Str.strSliceIndices (some (i:Int)) none 1 z.length=Builtin.Str.strSliceIndices (some (z.length:Int)) none 1 z.length:=by unfold Builtin.Str.strSliceIndices;simp only[zzi (show ¬((i:Int)<0) by lia),zzi (show ¬((z.length:Int)<0) by lia),Int.min_eq_right (show (z.length:Int) <= i by lia),Int.min_self];rfl
   unfold Txt.slice;rw[e1]
  have e2:Txt.slice z (some (z.length:Int)) none=⟨((z.cps.toList.drop (z.length:Int).toNat).take ((z.cps.toList.length:Int) - (z.length:Int)).toNat).toArray⟩:=StrLaws.sliceText_from ⟨by lia,by lia⟩;rw[e,e2,zxW (i:=i) (by lia)];simp[J]
 ·have e2:Txt.slice z (some (i:Int)) none=⟨((z.cps.toList.drop (i:Int).toNat).take ((z.cps.toList.length:Int) - (i:Int)).toNat).toArray⟩:=StrLaws.sliceText_from ⟨by lia,by lia⟩;rw[e2];show ((z.cps.toList.drop (i:Int).toNat).take ((z.cps.toList.length:Int) - (i:Int)).toNat)=_;rw[zzM,zxr (by rw[zyO];lia)]
theorem Sp.of{N:Nat}{cs:List Nat}(e:z.cps.toList=cs)(h1:cs.length <= B)(d:∀c∈cs,c<128)(g:cs.count 10 <= N):Sp B N z:=by subst e;have:z.cps.toList.length=z.length:=zzF;exact⟨by lia,d,g⟩
structure Ch(B N:Nat)(ls:List Str):Prop where
 pl:∀l∈ls,Pl l
 tt:tot ls <= 2*B+90
 ln:ls.length <= N+2
theorem Ch.sp{N:Nat}{ls:List Str}(o:Ch B N ls):Sp (2*B+100) (N+2) (Txt.join nlS ls):=by
 rw[kX];refine⟨?_,λc d=>?_,?_⟩
 ·have:=tP 10 ls;have:=o.tt;lia
 ·rcases kY d with rfl|⟨x,J,d⟩
  ·decide
  ·exact(o.pl x J c d).1
 ·rw[show Txt.join ⟨#[10]⟩ ls=Str.join ⟨#[10]⟩ ls from zyh ..,pX,tQ λx J=>?_]
  ·have:=o.ln;rw[zza];lia
  ·obtain⟨l,e,rfl⟩:=zzs.mp J;exact λz=>(o.pl l e 10 z).2 rfl
def Jl(B N:Nat)(ls0 ls:List Str)(v k:Int):Prop:=ls=ls0∨(Ch B N ls/\v<k)
theorem Jl.up{N:Nat}{ls:List Str}{k:Int}(h:Jl B N hs ls v k):Jl B N hs ls v (k+1):=h.imp id λh=>⟨h.1,by have:=h.2;lia⟩
theorem Jl.at{N:Nat}{ls:List Str}{k:Int}(h:Jl B N hs ls v k)(e:v=k):ls=hs:=h.elim id λh=>absurd h.2 (by lia)
theorem HE{ls:List Str}{k:Nat}{l:Str}(h:ls[k]? = some l):tot (ls.set k x)+(l.length+1)=tot ls+(x.length+1):=by obtain⟨d,e⟩:=zzx.mp h;have g:=qc ls k;rw[zzZ d,jh,e]at g;rw[List.set_eq_take_append_cons_drop,zzn d,iz,jh];lia
theorem Cz{ls:List Str}(k:Nat)(x:Str):tot (ls.take k++x::ls.drop k)=tot ls+(x.length+1):=by have:=qc ls k;rw[iz,jh];lia
theorem HF{ls:List Str}{k:Nat}{l:Str}(h:ls[k]? = some l):tot (ls.eraseIdx k)+(l.length+1)=tot ls:=by obtain⟨g,e⟩:=zzx.mp h;have d:=qc ls k;rw[zzZ g,jh,e]at d;rw[zxM,iz];lia
def gSpo:DSp:=λd Q=>∃(z:Str) (B N:Nat),d=[.pen,.str z]/\(Sp B N z/\B <= 50000/\N <= 50)/\∀y:Str,Sp (2*B+100) (N+2) y->Q (.str y)
theorem jv:bb gSpo:=by rintro ds P P' f ⟨z,B,N,a,b,h⟩;exact⟨z,B,N,a,b,λx d=>f _ (h x d)⟩
noncomputable abbrev frS(z:Str)(ls:List Str)(k:Nat)(v:Int)(s5:Sl):DS:=[.val .pen,.val (.str z),.own (ls.map .str),.val (.int k),.val (.int v),s5,.nil,.nil,.nil]
abbrev NS(B N:Nat)(z:Str)(J:List Str)(k:Nat)(v j:Int):DS->Prop:=λg=>∃(e:List Str) (s5:Sl),(Jl B N J e v j/\(s5=.nil∨∃d,s5=.val d))/\g=frS z e k v s5
theorem oo_S{e:List D}{d3 J:D}(h:s5=.nil∨∃d,s5=.val d):bM 2 [.val .pen,.val (.str z),.own e,.val d3,.val J,s5,.nil,.nil,.nil]=true:=by rcases h with rfl|⟨d,rfl⟩<;>rfl
theorem jw(T:Tx K mg):FnOk P w K mg base CX0 3 T.fL T.eC ["_law_pen_here","_law_text_here"] (spD K 2 gSpo):=by
 refine fnD (k:=2) T.cU.F sc__law_spoiled (λcdv A outer s H E L=>(ad (dow 2 sc__law_spoiled.nd (dN (dv 1) al))
   (ad (dse 3 sc__law_spoiled.nd (dcl T.aq (ar T) au L (aa (dv 0) (aa (dO 2 (aj aX rfl T.ba zzA (aa (dv 2) ac))) ac))))
   (ad (dse 4 sc__law_spoiled.nd (dcl T.aq (ar T) au L (aa (dv 0) (aa ae ac))))
   (aO (aI (az ze (dv 4) ae (ay _)) (af (pA (dcl T.dA (nQ T) nP L (aa (dv 0) (aa (dO 2 (dix (dv 2) (dv 3))) ac))) (Bt (pv 2) (dv 3)))) aw)
   (aO (aI (az (cY L) (dv 4) ae (ay _)) (af (wE (EU (pv 2) (dv 3)))) aw)
   (aO (aI (az (cY L) (dv 4) ae (ay _)) (af (BE (pv 2) (aa (dcl T.aq (ar T) au L (aa (dv 0) (aa (bc cg (dO 2 (aj aX rfl T.ba zzA (aa (dv 2) ac))) ae) ac))) (aa (dO 2 (dix (dv 2) (dv 3))) ac)))) aw)
   (aO (aI (az (cY L) (dv 4) ae (ay _)) (ad (dse 5 sc__law_spoiled.nd (EU (pv 2) (dv 3)))
   (af (BE (pv 2) (aa (dcl T.aq (ar T) au L (aa (dv 0) (aa (bc cg (dO 2 (aj aX rfl T.ba zzA (aa (dv 2) ac))) ae) ac))) (aa (dv 5) ac))))) aw)
   (aO (aI (az (cY L) (dv 4) ae (ay _)) (af (pA (dO 2 (dcl T.gK (qe T) qd L (aa (dv 0) (aa (dv 2) ac)))) (Bt (pv 2) (dv 3)))) aw)
   (aO (aI (az (cY L) (dv 4) ae (ay _)) (af (BE (pv 2) (aa (dv 3) (aa (dO 2 (dcl T.gK (qe T) qd L (aa (dv 0) (aa (dv 2) ac)))) ac)))) aw)
   (ad (dse 6 sc__law_spoiled.nd (dO 2 (fB al (dv 2))))
   (ad (dse 7 sc__law_spoiled.nd (dcl T.aq (ar T) au L (aa (dv 0) (aa (bc cg (aj gv rfl T.ba zzA (aa (dv 6) ac)) ae) ac))))
   (ad (dse 8 sc__law_spoiled.nd (ve al (dcl T.aq (ar T) au L (aa (dv 0) (aa ae ac))) (λ_ _=>rfl)))
   (ad (aI (az (cY L) (dv 4) ae (ay _)) (af (aA (bc mz (bc mz (vf (dv 6) bj (aS (dv 7))) (dv 8)) (vf (dv 6) (aS (dv 7)) bj)))) aw)
   (ad (aI (az (cY L) (dv 4) ae (ay _)) (af (aA (bc mz (vf (dv 6) bj (aS (dv 7))) (vf (dv 6) (aS (bc cg (dv 7) ae)) bj)))) aw)
   (ad (aI (az (cY L) (dv 4) ae (ay _)) (af (aA (bc mz (dv 6) (dix (ao (aN (aa al (aa al (aa al (aa al ac)))))) (dcl T.aq (ar T) au L (aa (dv 0) (aa ae ac))))))) aw)
   (af (aA (dv 6))))))))))))))))))) (λds Q hl h=>?_)
 obtain⟨z,B,N,rfl,⟨zo,hB,hN⟩,h⟩:=h;have zl:=zo.le;obtain⟨g,Y⟩:∃g,g=Txt.split z nlS:=⟨_,rfl⟩;have tz:tot g=z.length+1:=by rw[Y,kX];exact vP z 10
 have ne:g≠[]:=by rw[Y,kX];exact jg z 10
 have ln:g.length <= N+1:=by have:=zo.nl;rw[Y,kX,jU];lia
 have M:∀l∈g,Pl l/\l.length <= z.length:=λl hl=>by rw[Y,kX]at hl;obtain⟨a,b,_⟩:=cj hl;exact⟨λc hc=>⟨zo.asc c (b c hc),by rintro rfl;exact zva z 10 l hl hc⟩,a⟩
 have hpos:0<g.length:=zxo.mpr ne;have el:(((g.map D.str).length:Nat):Int)=g.length:=by rw[zza]
 refine⟨z,rfl,nlS,⟨rfl,by decide +kernel,z_sp (by lia)⟩,?_⟩;rw[←Y];refine⟨_,rfl,rfl,⟨trivial,rfl⟩,rfl,⟨by lia,by lia⟩,λat_ a0 a1=>?_⟩;obtain⟨k,rfl⟩:=zyd a0;have hk:k<g.length:=by lia
 have ek:g[k]? = some g[k]:=zzt hk;obtain⟨l,hl⟩:∃l,l=g[k]:=⟨_,rfl⟩;rw[←hl]at ek;obtain⟨a8,lel⟩:=M l (zzI ek);have tl:=Cv (zzI ek);refine⟨rfl,⟨by decide,by decide⟩,λv v0 v1=>?_⟩;have a9:∀{Q:D->Prop},Q (.str l)->opt (atI (g.map D.str) (k:Int)) Q:=λ{Q} q=>aK (d:=.str l) (by lia) (by rw[zzM,zzu,ek];rfl) q;have gk:(g.map D.str)[(k:Int).toNat]? = some (.str l):=by rw[zzM,zzu,ek];rfl
 have er:=HF ek;have a2:(g.map D.str).eraseIdx (k:Int).toNat=(g.eraseIdx k).map D.str:=by rw[zzM,zxM,zxM,zze,List.map_take,List.map_drop]
 have erl:(g.eraseIdx k).length+1=g.length:=by rw[List.length_eraseIdx,zzn hk];lia
 have a7:∀{x:Str},Pl x->x.length <= l.length+z.length+80->Ch B N (g.set k x):=λ{x} p lx=>by
  have:=HE (x:=x) ek;refine⟨λy G=>?_,by lia,by rw[List.length_set];lia⟩;rcases zxG G with G|rfl
  ·exact(M y G).1
  ·exact p
 have a6:∀(m:Nat) {x:Str},Pl x->x.length <= z.length+80->Ch B N (g.take m++x::g.drop m):=λm {x} p lx=>by
  refine⟨λy G=>?_,by rw[Cz];lia,by rw[zzd,zzm,zyl,zyO];lia⟩;rcases zzo.mp G with G|G
  ·exact(M y (zyV G)).1
  ·rcases zzk.mp G with rfl|G
   ·exact p
   ·exact(M y (zxj G)).1
 have a3:∀{us:List Str} {m:Nat} {x:Str},(us.take m++x::us.drop m).map D.str=(us.map D.str).take m ++ .str x::(us.map D.str).drop m:=λ{us m x}=>by rw[zze,zzh,List.map_take,List.map_drop]
 refine⟨NS B N z g k v 2,?_,?_⟩
 ·refine Br.di (λz2=>?_) λz2=>⟨g,_,⟨.inl rfl,.inl rfl⟩,rfl⟩;refine⟨_,rfl,rfl,a9 ⟨⟨trivial,rfl⟩,?_⟩⟩;refine⟨rfl,l,rfl,⟨a8,by lia⟩,λx p lx=>⟨trivial,k,Bu (by lia) (by rw[zza];lia),g.set k x,_,⟨.inr ⟨a7 p (by lia),z2⟩,.inl rfl⟩,by unfold frS;rw[List.map_set];rfl⟩⟩
 rintro _ ⟨U,s5,⟨j,J⟩,rfl⟩;refine⟨NS B N z g k v 3,⟨⟨rfl,rfl⟩,?_⟩,?_⟩
 ·show Br (eqD (.int v) (.int 2)) _ _;rw[bB];refine Br.di (λe=>?_) λe=>⟨U,s5,⟨j.up,J⟩,rfl⟩;rw[j.at e];exact⟨trivial,⟨by lia,by lia⟩,.str l,gk,g.eraseIdx k,s5,⟨.inr ⟨⟨λx I=>(M x (zwu I)).1,by lia,by lia⟩,by lia⟩,J⟩,by unfold frS;rw[←a2];rfl⟩
 rintro _ ⟨U,s5,⟨j,J⟩,rfl⟩;refine⟨NS B N z g k v 4,⟨⟨rfl,rfl⟩,?_⟩,?_⟩
 ·show Br (eqD (.int v) (.int 3)) _ _;rw[bB];refine Br.di (λe=>?_) λe=>⟨U,s5,⟨j.up,J⟩,rfl⟩;rw[j.at e];refine⟨trivial,_,rfl,oo_S J,⟨trivial,rfl⟩,rfl,⟨by lia,by lia⟩,λr r0 r1=>⟨_,rfl,oo_S J,a9 ⟨⟨trivial,rfl⟩,r,.str l,rfl,r0,by lia,by rw[zza];lia,g.take r.toNat++l::g.drop r.toNat,s5,⟨.inr ⟨a6 _ a8 (by lia),by lia⟩,J⟩,by unfold frS;rw[a3];rfl⟩⟩⟩
 rintro _ ⟨U,s5,⟨j,J⟩,rfl⟩;refine⟨NS B N z g k v 5,⟨⟨rfl,rfl⟩,?_⟩,?_⟩
 ·show Br (eqD (.int v) (.int 4)) _ _;rw[bB];refine Br.di (λe=>?_) λe=>⟨U,s5,⟨j.up,J⟩,rfl⟩;rw[j.at e];have eel:(((g.map D.str).eraseIdx (k:Int).toNat).length:Nat)=(g.eraseIdx k).length:=by rw[a2,zza]
  refine⟨trivial,⟨by lia,by lia⟩,.str l,gk,trivial,_,rfl,rfl,⟨trivial,rfl⟩,rfl,⟨by lia,by lia⟩,λr r0 r1=>⟨r,.str l,rfl,r0,by lia,by lia,(g.eraseIdx k).take r.toNat++l::(g.eraseIdx k).drop r.toNat,.val (.str l),⟨.inr ⟨⟨λx I=>?_,by rw[Cz];lia,?_⟩,by lia⟩,.inr ⟨_,rfl⟩⟩,by unfold frS;rw[a3,←a2];rfl⟩⟩
  ·rcases zzo.mp I with I|I
   ·exact(M x (zwu (zyV I))).1
   ·rcases zzk.mp I with rfl|I
    ·exact a8
    ·exact(M x (zwu (zxj I))).1
  ·rw[zzd,zzm,zyl,zyO];lia
 rintro _ ⟨U,s5,⟨j,J⟩,rfl⟩;refine⟨NS B N z g k v 6,⟨⟨rfl,rfl⟩,?_⟩,?_⟩
 ·show Br (eqD (.int v) (.int 5)) _ _;rw[bB];refine Br.di (λe=>?_) λe=>⟨U,s5,⟨j.up,J⟩,rfl⟩;rw[j.at e];exact⟨_,rfl,oo_S J,rfl,g,z.length,rfl,⟨ne,by lia,M⟩,λx p lx=>⟨⟨trivial,rfl⟩,trivial,k,Bu (by lia) (by rw[zza];lia),g.set k x,s5,⟨.inr ⟨a7 p (by lia),by lia⟩,J⟩,by unfold frS;rw[List.map_set];rfl⟩⟩
 rintro _ ⟨U,s5,⟨j,J⟩,rfl⟩;refine⟨NS B N z g k v 7,⟨⟨rfl,rfl⟩,?_⟩,?_⟩
 ·show Br (eqD (.int v) (.int 6)) _ _;rw[bB];refine Br.di (λe=>?_) λe=>⟨U,s5,⟨j.up,J⟩,rfl⟩;rw[j.at e];exact⟨trivial,_,rfl,oo_S J,rfl,g,z.length,rfl,⟨ne,by lia,M⟩,λx p lx=>⟨⟨trivial,rfl⟩,k,.str x,rfl,by lia,by lia,by rw[zza];lia,g.take k++x::g.drop k,s5,⟨.inr ⟨a6 _ p (by lia),by lia⟩,J⟩,by unfold frS;rw[a3];rfl⟩⟩
 rintro _ ⟨U,s5,⟨j,J⟩,rfl⟩;have jz:Txt.join nlS g=z:=by rw[Y];exact(zyh ..).trans (zxS z nlS)
 have t1:tot U <= 1000000:=by
  rcases j with rfl|⟨o,_⟩
  ·lia
  ·have:=o.tt;lia
 have C:Sp (2*B+100) (N+2) (Txt.join nlS U)/\(7 <= v->Txt.join nlS U=z):=by
  rcases j with rfl|⟨o,o2⟩
  ·exact⟨by rw[jz];exact⟨by lia,zo.asc,by have:=zo.nl;lia⟩,λ_=>jz⟩
  ·exact⟨o.sp,λz=>absurd z (by lia)⟩
 obtain⟨C,a5⟩:=C;have b1:=C.le;refine⟨_,rfl,oo_S J,nlS,rfl,U,⟨rfl,by rw[kX];exact Cw t1⟩,⟨trivial,rfl⟩,?_⟩;obtain⟨y,G⟩:∃y,y=Txt.join nlS U:=⟨_,rfl⟩;rw[←G]at C a5 b1 ⊢;have yz:y.length <= sizeLine:=zzq (show y.length <= 200000 by lia) (by decide);have yl:y.cps.toList.length=y.length:=zzF;refine⟨yz,rfl,⟨by lia,by lia⟩,λr r0 r1=>?_⟩;obtain⟨i,rfl⟩:=zyd r0;have il:i <= y.length:=by lia
 refine⟨rfl,⟨by decide,by decide⟩,λu u0 u1=>?_⟩;have l21:(Str.ofString "0123456789abcmnh \n-A.").cps.toList.length=21:=by decide +kernel
 obtain⟨c,c1,c2⟩:=xR (xs:=(Str.ofString "0123456789abcmnh \n-A.").cps.toList) u0 (by lia);have hc:c<128:=(show ∀c∈(Str.ofString "0123456789abcmnh \n-A.").cps.toList,c<128 by decide +kernel) c (zzI c2);refine⟨by decide +kernel,c,c1,⟨rfl,rfl⟩,?_⟩;have a4:∀lo hi,(Txt.slice y lo hi).length <= y.length:=λlo hi=>Txt.slice_le y lo hi;have zz:∀{n:Nat},n <= 400000->n <= sizeLine:=λh=>zzq h (by decide);have mt:∀d∈y.cps.toList.take i,d<128:=λd hd=>C.asc d (zyV hd);have ct:(y.cps.toList.take i).count 10+(y.cps.toList.drop i).count 10=y.cps.toList.count 10:=by rw[←zxD,zxz]
 show Br (eqD (.int v) (.int 7)) _ _;rw[bB];refine Br.di (λe=>?_) λe7=>⟨⟨rfl,rfl⟩,?_⟩
 ·have ez:=a5 (by lia);have zn:=zo.nl;rw[←ez]at zl zn;have U:=a4 none (some (i:Int));have l2:=a4 (some (i:Int)) none;refine⟨y,rfl,yz,zz (show (Txt.slice y none (some (i:Int))).length+1 <= _ by lia),y,rfl,yz,zz ?_,h _ (Sp.of (by rw[tR,tR,Kd il,Cy (by lia)]) ?_ (λd hd=>?_) ?_)⟩
  ·have:(Txt.slice y none (some (i:Int))++(⟨#[c]⟩:Str)).length=(Txt.slice y none (some (i:Int))).length+1:=Array.size_append;lia
  ·rw[zzd,zzd,zyl,zyO];show _+1+_ <= _;lia
  ·rcases zzo.mp hd with hd|hd
   ·rcases zzo.mp hd with hd|hd
    ·exact mt d hd
    ·rw[zzw.mp hd];exact hc
   ·exact C.asc d (zxj hd)
  ·rw[zxD,zxD];have:List.count 10 ([c]:List Nat) <= 1:=List.count_le_length;show _+List.count 10 [c]+_ <= _;lia
 show Br (eqD (.int v) (.int 8)) _ _;rw[bB];refine Br.di (λe=>?_) λe8=>⟨⟨rfl,rfl⟩,?_⟩
 ·have ez:=a5 (by lia);have zn:=zo.nl;rw[←ez]at zl zn;have U:=a4 none (some (i:Int));have l2:=a4 (some ((i:Int)+1)) none;refine⟨y,rfl,yz,y,rfl,yz,zz (by lia),h _ (Sp.of (by rw[tR,Kd il,show ((i:Int)+1)=((i+1:Nat):Int) by lia,Cy (by lia)]) ?_ (λd hd=>?_) ?_)⟩
  ·rw[zzd,zyl,zyO];lia
  ·rcases zzo.mp hd with hd|hd
   ·exact mt d hd
   ·exact C.asc d (zxj hd)
  ·rw[zxD];have:(y.cps.toList.drop (i+1)).count 10 <= (y.cps.toList.drop i).count 10:=by
    rw[←List.drop_drop];exact(List.drop_sublist 1 _).count_le 10
   lia
 show Br (eqD (.int v) (.int 9)) _ _;rw[bB];refine Br.di (λe=>?_) λe9=>h y C;have ez:=a5 (by lia);have zn:=zo.nl;rw[←ez]at zl zn;refine⟨sz,rfl,⟨by decide,by decide⟩,λt t0 t1=>pw t0 t1 λd hd=>?_⟩;have hd:∃x:Str,d=.str x/\x.length <= 5/\(∀c∈x.cps.toList,c<128)/\x.cps.toList.count 10 <= 2:=by simp only[zzk,zyx,zxJ]at hd;rcases hd with rfl|rfl|rfl|rfl<;>exact⟨_,rfl,by decide +kernel,by decide +kernel,by decide +kernel⟩
 obtain⟨x,rfl,x1,x2,x3⟩:=hd;have xl:x.cps.toList.length=x.length:=zzF;refine⟨zz (by lia),h _ (Sp.of (tR y x) (by rw[zzd];lia) (λd hd=>(zzo.mp hd).elim (C.asc d) (x2 d)) (by rw[zxD];lia))⟩
theorem s0(x:String)(h:PyData.strOk (Str.ofString x)=true:=by decide +kernel):shp (.str (Str.ofString x))=true:=aV h
noncomputable abbrev bkD(hs:List Str)(ms:List Mk)(cells:List (List Int×Row)):D:=.tup [.int hs.length,.tup (ms.map λm=>.int m.2.length),.tup (cells.map cp)]
abbrev shD:D:=.lst [.str (Str.ofString "show")]
def gHrl:DSp:=λd Q=>d=[shD]/\Q (.bl true)
theorem lg:bb gHrl:=by rintro ds P P' f ⟨a,h⟩;exact⟨a,f _ h⟩
theorem Fw:PyProof.Rows.KTD.datumAt (Str.ofString "show") kQ=some (.tup [.int 1,.int 1]):=rfl
theorem Ke:PyProof.Rows.KTD.inKeys (Str.ofString "show") kQ=true:=by rw[←PyProof.Rows.KTD.isSome_datumAt,Fw];rfl
theorem li(T:Tx K mg):FnOk P w K mg base CX0 1 T.cD T.ce ["words"] (spD K 1 gHrl):=by
 refine fnD (k:=0) T.cF.F sc_has_right_length (λcdv A outer s H E hr=>(ad (dse 1 sc_has_right_length.nd (Eb (K:=K) (base:=base) rfl rfl rfl T.nq (dix (dv 0) ae) (λ_ _=>rfl)))
   (af (aA (oZ (gc qO (BI (base:=base) rfl (dv 1) ae (λ_ _=>rfl)) (aj aX rfl T.ba zzA (aa (dv 0) ac)) (ay _)) (oY (Ja (gc xP (BI (base:=base) rfl (dv 1) ae (λ_ _=>rfl)) cq (ay _)) (oY (gc qO (aj aX rfl T.ba zzA (aa (dv 0) ac)) (BI (base:=base) rfl (dv 1) ae (λ_ _=>rfl)) (ay _)))))))))) (λds Q hl h=>?_)
 obtain⟨rfl,h⟩:=h;refine⟨_,_,_,rfl,T.nr,Ke,Fw,by simp,λt d=>?_⟩;exact⟨_,.int 1,_,d,rfl,rfl,Br.t ⟨_,.int 1,_,d,rfl,rfl,Br.f ⟨_,.int 1,_,d,rfl,rfl,h⟩⟩⟩
def gAns:DSp:=λe Q=>∃(hs:List Str) (ms:List Mk) (d:List (List Int×Row)),e=[nmD hs ms,bkD hs ms d,shD]/\BkT hs ms d/\Q (.str (cz hs ms d))
theorem Eu:bb gAns:=by rintro ds P P' f ⟨hs,ms,d,a,b,h⟩;exact⟨hs,ms,d,a,b,f _ h⟩
theorem Ev(T:Tx K mg):FnOk P w K mg base CX0 2 T.tU T.qm ["names","book","words"] (spD K 3 gAns):=by
 refine fnD (k:=1) T.tV.F BM (λcdv A outer s H E J=>(ad (aI (az (cY J) (dix (dv 2) ae) al (ay _)) (af (aA (dcl T.yH (Fh T) Fg J (aa (dv 0) (aa (dv 1) ac))))) aw)
   (ad aJ
   (ad aJ
   (ad aJ
   (ad aJ
   (ad aJ
   (ad aJ
   (ad aJ
   (ad aJ
   (ad aJ
   (af aJ)))))))))))) (λds Q hl h=>?_)
 obtain⟨hs,ms,d,rfl,o,h⟩:=h;refine⟨⟨s0 "show",s0 "show"⟩,?_⟩;show Br (eqD (.str _) (.str _)) _ _;rw[eu,zzj rfl];exact Br.t ⟨rfl,hs,ms,d,_,_,rfl,o.sh,h⟩
noncomputable abbrev dkD(C:Addr)(hs:List Str)(ms:List Mk)(cells:List (List Int×Row)):D:=.ins C ["names","book","past"] [nmD hs ms,bkD hs ms cells,.lst []]
def gSay(C:Addr):DSp:=λe Q=>∃(hs:List Str) (ms:List Mk) (d:List (List Int×Row)),e=[dkD C hs ms d,.str (Str.ofString "show")]/\BkT hs ms d/\Q (.str (cz hs ms d))
theorem rQ:bb (gSay C):=by rintro ds P P' f ⟨hs,ms,d,a,b,h⟩;exact⟨hs,ms,d,a,b,f _ h⟩
theorem Ew:Txt.split (Str.ofString "show") spS=[Str.ofString "show"]:=by decide +kernel
theorem rR(T:Tx K mg):FnOk P w K mg base CX0 3 T.jl T.gC ["self","row"] (spD K 2 (gSay T.aE)):=by
 refine fnD (k:=2) T.rW sc_Desk_say (λcdv A outer s H E J=>(ad (aI (bQ (br (aj pq rfl T.aY rfl (aa (dv 1) (aa (AY (n:="str") rfl T.vV rfl) ac))))) (af aJ) aw)
   (ad (dse 2 sc_Desk_say.nd (ao (dN (dv 1) al)))
   (ad (aI (az (cY J) (dix (dv 2) ae) al (ay _)) (af aJ) aw)
   (ad (aI (PWD.pt (cX (az (wM (K:=K) rfl) (dix (dv 2) ae) (eX rfl T.nq) rfl) (bR (bQ (br (dcl T.cF (li T) lg J (aa (dv 2) ac))))))) (af aJ) aw)
   (ad (aI (az (cY J) (dix (dv 2) ae) al (ay _)) (af aJ) aw)
   (ad (aI (az (cY J) (dix (dv 2) ae) al (ay _)) (af aJ) aw)
   (af (aA (dcl T.tV (Ev T) Eu J (aa (EY (K:=K) rfl (dv 0) rfl) (aa (EY (K:=K) rfl (dv 0) rfl) (aa (dv 2) ac))))))))))))) (λds Q hl h=>?_)
 obtain⟨hs,ms,d,rfl,o,h⟩:=h;refine⟨rfl,rfl,Br.f ⟨_,rfl,spS,⟨rfl,by decide +kernel,by decide +kernel⟩,?_⟩⟩;rw[Ew];have no:∀{q:String} {X Y:Prop},Str.ofString "show" ≠ Str.ofString q->Y->Br (eqD (.str (Str.ofString "show")) (.str (Str.ofString q))) X Y:=λne y=>by rw[eu,zzl ne];exact Br.f y
 refine⟨⟨s0 "show",s0 "case"⟩,no (by decide +kernel) ?_⟩;refine⟨_,T.nr,?_⟩;rw[Ke];refine Br.f ⟨rfl,rfl,Br.f ?_⟩;refine⟨⟨s0 "show",s0 "hide"⟩,no (by decide +kernel) ?_⟩;refine⟨⟨s0 "show",s0 "back"⟩,no (by decide +kernel) ?_⟩;exact⟨_,_,_,_,rfl,T.iR,T.gS,rfl,_,_,_,_,rfl,T.iR,T.iG,rfl,rfl,hs,ms,d,rfl,o,h⟩
def CA:D->(List D->Prop)->Prop:=λd Q=>Ce [d] λr=>∃d1 d2,r=.tup [d1,d2]/\Q [d1,d2,.lst []]
theorem qf:∀d P P',(∀ds,P ds->P' ds)->CA d P->CA d P':=λd P P' f h=>yt _ _ _ (λr ⟨d1,d2,a,b⟩=>⟨d1,d2,a,f _ b⟩) h
theorem qg(T:Tx K mg):FnOk P w K mg base CX0 6 T.eD T.de ["self","text"] (spMk K T.aE ["names","book","past"] CA):=by
 refine T.jZ.ok (k:=5) sc_Desk_init (λvs H Q E h=>?_) (λcdv A outer s H vs Q E hr h=>?_)
 ·obtain⟨pp,M,d,x,j,v,rfl,_⟩:=h;rfl
 obtain⟨pp,M,d,x,j,v,rfl,⟨hx,hm,hp⟩,lv,r,g⟩:=h;refine⟨_,aW (jr (i:=2) sc_Desk_init.nd rfl (by first|exact Or.inl rfl|exact Or.inr rfl) (we (Cg T) (hr.mono (by decide)) rfl T.gh.m T.gh.F.kp T.gh.b .nil Ae (aU (pv 1) bP)))
  (aW (zS (pv 0) (uA ww (pv 2) bq (λ_ _=>rfl)) rfl) (aW (zS (pv 0) (uA ww (pv 2) bq (λ_ _=>rfl)) rfl) (gj (zS (pv 0) (xv bP) rfl)))),?_⟩
 refine⟨v,rfl,pp,M,[d],lv,.cons r .nil,rfl,yt _ _ _ (λq ⟨d1,d2,e,k⟩ l u G B=>?_) g⟩;subst e;have U:l x=some (.ins T.aE j []):=G.keep x _ hx (nw hp);simp only[Rep,Reps]at B;obtain⟨t,_,rfl,ht,v1,_,rfl,B,y,_,rfl,r2,rfl⟩:=B;have nt:∀{C:Hp} {fs:List (Str×V)},C x=some (.ins T.aE j fs)->∀{xs:List V},C t=some (.tup xs)->∀I,upd C x (.ins T.aE j I) t=some (.tup xs):=λa xs b I=>by rw[ah (by rintro rfl;rw[a]at b;cases b)];exact b
 have a3:=nt U ht [("names",v1)];have m2:Mv K pp M l M (upd l x (.ins T.aE j [("names",v1)])):=.ins U hm;have a0:upd l x (.ins T.aE j [("names",v1)]) x=some (.ins T.aE j [("names",v1)]):=ai;refine⟨_,rfl,t,_,0,v1,rfl,rfl,ht,rfl,_,rfl,x,_,j,[],rfl,U,T.iR,T.gS,by decide,?_⟩;refine⟨_,rfl,t,_,1,y,rfl,rfl,a3,rfl,_,rfl,x,_,j,_,rfl,a0,T.iR,T.iG,by simp,?_⟩;have m3:Mv K pp M _ M (upd (upd l x (.ins T.aE j [("names",v1)])) x (.ins T.aE j [("names",v1),("book",y)])):=.ins a0 hm;refine⟨by decide,λp J=>?_⟩;have m4:=Mv.new (K:=K) (pp:=pp) (M:=M) (o:=.lst []) J;have c:x≠p:=by rintro rfl;rw[ai]at J;cases J
 have a2:upd (upd (upd l x (.ins T.aE j [("names",v1)])) x (.ins T.aE j (putF "book" y [("names",v1)]))) p (.lst []) x=some (.ins T.aE j [("names",v1),("book",y)]):=by rw[ah c];exact ai
 refine⟨_,rfl,x,_,j,_,rfl,a2,T.iR,T.nC,by simp,?_⟩;have m5:Mv K pp M _ M (upd (upd (upd (upd l x (.ins T.aE j [("names",v1)])) x (.ins T.aE j (putF "book" y [("names",v1)]))) p (.lst [])) x (.ins T.aE j [("names",v1),("book",y),("past",.ref p)])):=.ins a2 hm;have N:=((m2.trans m3).trans m4).trans m5;have Y:l p=none:=by rw[ah (Ne.symm c),ah (Ne.symm c)]at J;exact J
 have kp:∀b o,b≠x->l b=some o->upd (upd (upd (upd l x (.ins T.aE j [("names",v1)])) x (.ins T.aE j (putF "book" y [("names",v1)]))) p (.lst [])) x (.ins T.aE j [("names",v1),("book",y),("past",.ref p)]) b=some o:=λb o L e=>by rw[ah L,ah (by rintro rfl;rw[Y]at e;cases e),ah L,ah L];exact e
 refine k _ [("names",v1),("book",y),("past",.ref p)] (λb o L e n=>kp b o L (G.keep b o e n)) (λq e h=>N.pen q e (G.pen q e h)) (λb hb=>?_) (N.tb (G.tb lv.t)) ai rfl ?_
 ·by_cases L:b=x
  ·subst L;rw[ai];intro z;cases z
  ·have:=G.live b hb;cases e:l b with
   |none=>exact absurd e this|some o=>exact λz=>by have:=kp b o L e;exact nomatch this.symm.trans z
 ·have fp:=(lv.sameP G).fresh Y;refine .cons (B.mv N) (.cons (r2.mv N) (.cons ?_ .nil));simp only[Rep,Reps];exact⟨p,[],rfl,fp.1,fp.2,by rw[ah (Ne.symm c)];exact ai,rfl⟩
def Fy:DSpE:=λe _ W=>∃s d k,e=[s,d]/\BadD d k/\W k
theorem vQ:wI Fy:=by rintro ds P P' W W' f J ⟨s,d,k,a,b,h⟩;exact⟨s,d,k,a,b,J _ h⟩
theorem vR(T:Tx K mg):FnOk P w K mg base (CXE P w) 6 T.eD T.de ["self","text"] (spDA (xiN T.ak) K 2 Fy):=by
 refine fnDA (xi:=xiN T.ak) (k:=5) T.jZ sc_Desk_init (λfr W J cdv A outer s H E L=>(ad (dse 2 sc_Desk_init.nd (sX (xi:=xiN T.ak) (x:="read") (Ci T) Cj gu J (L.mono (by decide)) rfl T.gh.m T.gh.F.kp T.gh.b (aa (dv 1) ac)))
   (ad aJ
   (ad aJ
   (af aJ))))) (λds Q W hl h=>?_)
 obtain⟨s,d,k,rfl,b,h⟩:=h;exact⟨rfl,.inr ⟨d,k,rfl,b,h⟩⟩
def gCgt(C:Addr):DSp:=λe Q=>∃(d:D) (b:Bool),e=[d,.bl b]/\((∃z hs ms cs,d=.str z/\b=false/\(Zt z/\linW z=(aB::hs)::ms.map mkLn++cs.map Cs.ln)/\Gd hs ms cs/\Q .non)∨∃k:Nat,BadD d k/\Q (.exa C [("line",.int k)]))
theorem lq:bb (gCgt C):=by
 rintro ds P P' f ⟨d,b,a,h⟩;refine⟨d,b,a,h.imp (λq=>?_) λq=>?_⟩
 ·obtain⟨z,hs,ms,cs,x,y,u,v,h⟩:=q;exact⟨z,hs,ms,cs,x,y,u,v,f _ h⟩
 ·exact⟨q.choose,q.choose_spec.1,f _ q.choose_spec.2⟩
theorem lr(T:Tx K mg):FnOk P w K mg base CX0 8 T.dR T.fT ["_law_text_here","_law_is_desk"] (spD K 2 (gCgt T.ak)):=by
 refine fnD (k:=7) T.dQ.F sc__law_caught (λj A e s H E U=>(ad (dse 2 sc__law_caught.nd cq)
   (ad (Ha (xi:=xiN T.ak) (X:=(cxOf CX0 P w K mg base ["_law_text_here","_law_is_desk","_law_caught_here","error"] "_law_caught" (ag dP) T.dR j A e s H E).nox) (K:=K) (i:=3) (x:="SumError") rfl rfl rfl rfl sc__law_caught.nd rfl rfl rfl T.qw DW (λfr W L pn=>(af (aI (br (dv 1)) (af (wE (Ec (xi:=xiN T.ak) (x:="Desk") T.fe (vR T) vQ gu L (U.mono (by decide)) rfl T.tT T.gL (dv 0)))) (af (wE (sX (xi:=xiN T.ak) (x:="read") (Ci T) Cj gu L (U.mono (by decide)) rfl T.gh.m T.gh.F.kp T.gh.b (aa (dv 0) ac))))))) (λea=>(af (dse 2 sc__law_caught.nd (dv 3)))))
   (af (aA (dv 2)))))) (λds Q hl h=>?_)
 obtain⟨d,b,rfl,⟨z,hs,ms,cs,rfl,rfl,Y,g,h⟩|⟨k,J,h⟩⟩:=h
 ·exact Br.f ⟨rfl,.inl ⟨z,hs,ms,cs,rfl,Y,g,h⟩⟩
 ·cases b with
  |true=>exact Br.t ⟨_,d,k,rfl,J,.inl ⟨T.xo,h⟩⟩|false=>exact Br.f ⟨rfl,.inr ⟨d,k,rfl,J,.inl ⟨T.xo,h⟩⟩⟩
def gRef:DSp:=λe Q=>∃(d:D) (k:Nat),e=[d,.int k]/\BadD d k/\Q (.bl true)
theorem jx:bb gRef:=by rintro ds P P' f ⟨d,k,a,b,h⟩;exact⟨d,k,a,b,f _ h⟩
theorem jy(T:Tx K mg):FnOk P w K mg base CX0 9 T.fN T.eA ["_law_text_here","_law_line_here"] (spD K 2 gRef):=by
 refine fnD (k:=8) T.cT.F sc__law_refused (λcdv A outer s H E L=>(aO (cI zyc rfl (xO (bA (aa gr (aa gr ac)))) (dgn 2 sc__law_refused.nd) (ad (dse 3 sc__law_refused.nd (dcl T.dQ (lr T) lq L (aa (dv 0) (aa (dv 2) ac))))
   (ad (aI (PWD.pt (cX (bQ (br (aj (id:="isinstance") (g:=gIsY K) yb rfl T.aY rfl (aa (dv 3) (aa (eX rfl T.iN) ac))))) (bR (bQ (br (aj (id:="isinstance") (g:=gIsY K) yb rfl T.aY rfl (aa (dv 3) (aa (AY (n:="ValueError") rfl T.nD rfl) ac)))))))) (af (aA gr)) aw)
   (ad (aI (br (aj (id:="isinstance") (g:=gIsY K) yb rfl T.aY rfl (aa (dv 3) (aa (bA (aa (eX rfl T.vX) (aa (eX rfl T.vZ) (aa (eX rfl T.rV) (aa (eX rfl T.vW) (aa (eX rfl T.vT) (aa (eX rfl T.vS) (aa (eX rfl T.rS) (aa (eX rfl T.yF) ac))))))))) ac)))) (af (aA gr)) aw)
   (ad (aI (br (aj (id:="isinstance") (g:=gIsY K) yb rfl T.aY rfl (aa (dv 3) (aa (bA (aa (eX rfl T.rX) (aa (eX rfl T.rY) (aa (eX rfl T.nE) (aa (eX rfl T.qz) ac))))) ac)))) (af (aA gr)) aw)
   (af (aI (PWD.pt (cX (br (aj zf rfl T.aY rfl (aa (BB (K:=K) rfl (dv 3) rfl) (aa (AY (n:="bool") rfl T.FC rfl) ac)))) (bR (az (nO L) (BB (K:=K) rfl (dv 3) rfl) (dv 1) (ay _))))) (af (aA gr)) aw)))))))
   (af (aA gr)))) (λds Q hl h=>?_)
 obtain⟨d,k,rfl,U,h⟩:=h;refine⟨λo=>∃j l:Sl,o=[.val d,.val (.int k),j,l],?_,?_⟩
 ·refine⟨sz,?_⟩;show nK _ _ [D.bl false,D.bl true] _ _;refine Bk (λo=>∃j l:Sl,o=[.val d,.val (.int k),j,l]) (λo h=>h) (λb J o X q r=>?_) _ ⟨_,_,rfl⟩;obtain⟨j,l,rfl⟩:=q;have J:∃v:Bool,b=.bl v:=by
   simp only[zzk,zyx,zxJ]at J;rcases J with rfl|rfl<;>exact⟨_,rfl⟩
  obtain⟨v,rfl⟩:=J;have Y:=T.dh.toExA.toExK;have ok:∀C,Value.ref T.ak=.ref C->ExK K C:=λC e=>by cases e;exact Y
  refine⟨rfl,d,v,rfl,.inr ⟨k,U,?_⟩⟩;refine⟨_,_,_,rfl,ok,rfl,T.k_k1,Br.f ⟨_,_,_,rfl,ok,rfl,T.k_k2,Br.f ?_⟩⟩;refine⟨sz,_,_,_,rfl,ok,rfl,T.k_k3,Br.f ⟨sz,_,_,_,rfl,ok,rfl,T.k_k4,Br.f ?_⟩⟩;refine⟨_,_,.int k,_,rfl,T.dh.toExA,T.cV,rfl,rfl,rfl,rfl,Br.f ⟨_,_,.int k,_,rfl,T.dh.toExA,T.cV,rfl,rfl,⟨rfl,rfl⟩,?_⟩⟩;show Br (!eqD (.int k) (.int k)) _ _;rw[bB,zzj rfl];exact Br.f (r _ ⟨_,_,rfl⟩)
 ·rintro _ ⟨j,l,rfl⟩;exact h
theorem HG(o:BkT hs ms ps)(h:(aD hs ms ps).length <= 48):Sp 24000 47 (cz hs ms ps):=by
 obtain⟨⟨Y,e⟩,_⟩:=tM o;have L:=tH o.sh;refine⟨?_,Y.asc,?_⟩
 ·have U:∀l∈(aD hs ms ps).map (Txt.join spS),l.length <= 492:=λl j=>by
   obtain⟨ws,J,rfl⟩:=zzs.mp j;exact oh (B:=40) (L ws J).2 (L ws J).1
  have d:=zxY nlS ((aD hs ms ps).map (Txt.join spS));have g:=StrLaws.sumLen_le _ U;have e1:nlS.length=1:=by decide +kernel
  have e2:cz hs ms ps=Str.join nlS ((aD hs ms ps).map (Txt.join spS)):=zyh ..;rw[e2];rw[e1]at d;rw[zza]at d g;lia
 ·have d:=congrArg List.length e;rw[zza,kX,jU]at d;have g:(aD hs ms ps).length=((aB::hs)::ms.map mkLn++(ps.flatMap (csOf hs ms)).map Cs.ln).length:=rfl;lia
theorem Fz{i:Nat}{ρ:DS}(o:BkT hs ms ps)(e:slot ρ i=.val (.str (cz hs ms ps))){R:Bool->DS->Prop}(q:R false ρ) :
  dB (dOp (gEq true) (Hg C "say" 2 (gSay C) (Hj C ["names","book","past"] CA (dVar i)) (xN (dC (.str (Str.ofString "show"))) AZ)) (dVar i)) ρ R:=by
 obtain⟨d,g⟩:=tM o;have J:shp (.str (cz hs ms ps))=true:=aV (vC d.1.asc);show GI i ρ _ (slot ρ i);rw[e];refine⟨_,hs,ms,_,rfl,d,g,?_⟩;rw[vF o];refine⟨_,_,rfl,_,_,rfl,by decide,rfl,hs,ms,ps,rfl,o,?_⟩;show GI i ρ _ (slot ρ i);rw[e];refine⟨⟨J,J⟩,?_⟩;show R (!eqD (.str _) (.str _)) ρ;rw[xT J];exact q
theorem Kf{i:Nat}{ρ:DS}(o:BkT hs ms ps)(e:slot ρ i=.val (.str (cz hs ms ps))){s:DTS}{E:DEnds}(q:E.nx ρ) :
  dIfS (dB (dOp (gEq true) (Hg C "say" 2 (gSay C) (Hj C ["names","book","past"] CA (dVar i)) (xN (dC (.str (Str.ofString "show"))) AZ)) (dVar i))) s Ba E ρ:=Fz o e (R:=λb d=>Br b (s E d) (Ba E d)) (Br.f q)
theorem LB(T:Tx K mg)(B:Bm mg base):FnOk P w K mg base CX0 12 T.HI T.CC ["_law_script"] (DL.spLaw K):=by
 refine Lo (k:=11) T.Ki.F sc_law rfl (by decide) (λc A q s H E J=>jr (i:=1) sc_law.nd rfl (by first|exact Or.inl rfl|exact Or.inr rfl) (we (wP T) (J.mono (by decide)) rfl T.gi.m T.gi.F.kp T.gi.b .nil Ae (aU (pv 0) bP))) (λc hcd A q s H E J=>(aO (cI zyc rfl (cu rfl T.dF (aa ae ac)) (dgn 2 sc_law.nd) (ad (dse 3 sc_law.nd (dcl T.iB (vK T) vJ J (aa (dv 1) ac)))
   (ad (dse 4 sc_law.nd (dcl T.kc (wY T) wX J (aa (dv 3) (aa (dcl T.iQ (vN T) vM J (aa (dv 1) (aa (dv 3) ac))) ac))))
   (aO (cI zyc rfl (cu rfl T.dF (aa ae ac)) (dgn 5 sc_law.nd) (ad (dse 6 sc_law.nd (dcl T.cU (jw T) jv J (aa (dv 1) (aa (dv 4) ac))))
   (aO (aI (az (cY J) (dcl T.aq (ar T) au J (aa (dv 1) (aa ae ac))) ae (ay _)) (af (dse 6 sc_law.nd (dcl T.cU (jw T) jv J (aa (dv 1) (aa (dv 6) ac))))) aw)
   (ad (dse 7 sc_law.nd (dcl T.eN (qa T) pZ J (aa (dv 6) ac)))
   (ad (aI (PWD.pt (xL (az sP (dv 7) cq (ay _)) (sO (bQ (br (dcl T.cT (jy T) jx J (aa (dv 6) (aa (dv 7) ac)))))))) (af (aA gr)) aw)
   (af (aI (az xP (dv 7) cq (ay _)) (ad (dse 8 sc_law.nd (dcl T.gh (Cg T) yt J (aa (dv 6) ac)))
   (af (aI (PWD.pt (cX (az (nO J) (dcl T.yH (Fh T) Fg J (aa (dix (dv 8) ae) (aa (dix (dv 8) ae) ac))) (dv 6) (ay _)) (bR (az (nO J) (BF (rR T) rQ (J.mono (by decide)) T.iR T.jY T.mY (BG T.fe (qg T) qf (J.mono (by decide)) rfl T.tT T.gL (dv 6)) (aa al ac)) (dv 6) (ay _))))) (af (aA gr)) aw))) aw)))))))
   (ad (dse 9 sc_law.nd (dix (ao (aN (aa cq (aa ae (aa gr (aa (ao (aN (aa (dv 4) ac))) (aa (bA (aa (dv 4) ac)) (aa GR ac)))))))) (dcl T.aq (ar T) au J (aa (dv 1) (aa ae ac)))))
   (ad (aI (PWD.pt (cX (bQ (br (dcl T.cT (jy T) jx J (aa (dv 9) (aa ae ac))))) (bR (az sP (dcl T.dQ (lr T) lq J (aa (dv 4) (aa gr ac))) cq (ay _))))) (af (aA gr)) aw)
   (af (aI (az (nO J) (BF (rR T) rQ (J.mono (by decide)) T.iR T.jY T.mY (BG T.fe (qg T) qf (J.mono (by decide)) rfl T.tT T.gL (dv 4)) (aa al ac)) (dv 4) (ay _)) (af (aA gr)) aw))))))))
   (af (aA gr)))) ?_
 refine⟨λj=>∃G I M s5 l L U Y:Sl,j=[.nil,.val .pen,G,I,M,s5,l,L,U,Y],⟨⟨by decide,by decide⟩,?_⟩,?_⟩
 case refine_2 =>
  rintro _ ⟨G,I,M,s5,l,L,U,Y,rfl⟩;rfl
 refine eY (λk j=>∃G I M s5 l L U Y:Sl,j=[.nil,.val .pen,G,I,M,s5,l,L,U,Y]) _ _ (λj h=>h) ?_ _ ⟨_,_,_,_,_,_,_,_,rfl⟩;rintro k j X k0 k1 ⟨G,I,M,s5,l,L,U,Y,rfl⟩ hX;refine⟨rfl,rfl,λhs ms no=>⟨rfl,hs,ms,rfl,no,λcells o ln=>⟨rfl,hs,ms,cells,rfl,o.sh,?_⟩⟩⟩;have a6:=HG o ln;obtain⟨x,tg⟩:=tM o;have st:shp (.str (cz hs ms cells))=true:=aV (vC x.1.asc);obtain⟨z,hz⟩:∃z,z=cz hs ms cells:=⟨_,rfl⟩;rw[←hz]at a6 x st ⊢;refine⟨λj=>∃s5 l L U Y:Sl,j=[.nil,.val .pen,.val (.int k),.val (nmD hs ms),.val (.str z),s5,l,L,U,Y],⟨⟨by decide,by decide⟩,?_⟩,?_⟩
 ·refine eY (λk' j=>∃s5 l L U Y:Sl,j=[.nil,.val .pen,.val (.int k),.val (nmD hs ms),.val (.str z),s5,l,L,U,Y]) _ _ (λj h=>h) ?_ _ ⟨_,_,_,_,_,rfl⟩;rintro k' j X' k0' k1' ⟨s5,l,L,U,Y,rfl⟩ Q;refine⟨rfl,z,24000,47,rfl,⟨a6,by decide,by decide⟩,λy u=>?_⟩;refine⟨λj=>∃(y:Str) (L U Y:Sl),Sp 96300 51 y/\j=[.nil,.val .pen,.val (.int k),.val (nmD hs ms),.val (.str z),.val (.int k'),.val (.str y),L,U,Y],?_,?_⟩
  ·refine⟨rfl,⟨by decide,by decide⟩,λr r0 r1=>⟨⟨rfl,rfl⟩,?_⟩⟩;show Br (eqD (.int r) (.int 0)) _ _;rw[bB];exact Br.di (λ_=>⟨rfl,y,_,_,rfl,⟨u,by decide,by decide⟩,λy2 a=>⟨y2,_,_,_,⟨a.le,a.asc,a.nl⟩,rfl⟩⟩) λ_=>⟨y,_,_,_,⟨by have:=u.le;lia,u.asc,by have:=u.nl;lia⟩,rfl⟩
  rintro _ ⟨y,L,U,Y,u,rfl⟩;have zt:=u.zt (by decide) (by decide);refine⟨rfl,y,rfl,zt,λn bad=>?_,λa4 a5 cs e g=>?_⟩
  ·exact Br.t ⟨rfl,.str y,n,rfl,.inr ⟨y,rfl,zt,bad⟩,Br.f (Br.f (Q _ ⟨_,_,_,_,_,rfl⟩))⟩
  obtain⟨a0,N,p⟩:=HA zt e g;have v:shp (.str y)=true:=aV (vC zt.asc);obtain⟨t1,g1⟩:=tM N;have rt:=vF N;rw[p]at t1;refine Br.f (Br.f (Br.t ⟨rfl,y,a4,a5,_,rfl,t1,g1,?_⟩));rw[rt];refine⟨rfl,a4,a5,a0,_,_,rfl,N.sh,?_⟩;rw[p];refine⟨⟨v,v⟩,?_⟩;show Br (!eqD (.str y) (.str y)) _ _;rw[xT v];refine Br.f (Fz N ?_ (Br.f (Q _ ⟨_,_,_,_,_,rfl⟩)));exact congrArg (λz=>Sl.val (.str z)) p.symm
 rintro _ ⟨s5,l,L,U,Y,rfl⟩;refine⟨sz,sz,sz,rfl,⟨by decide,by decide⟩,λr r0 r1=>pw r0 r1 λd hd=>?_⟩;have hd:Be d=true/\xQ d=false:=by simp only[zzk,zyx,zxJ]at hd;rcases hd with rfl|rfl|rfl|rfl|rfl|rfl<;>exact⟨rfl,rfl⟩
 refine⟨rfl,d,0,rfl,.inl ⟨hd.1,hd.2,rfl⟩,Br.f ⟨rfl,.str z,false,rfl,.inl ⟨z,hs,ms,_,rfl,rfl,x,tg,Br.f ?_⟩⟩⟩;dsimp only[Ba];refine Kf (C:=T.aE) (i:=4) o ?_ ?_
 ·exact congrArg (λz=>Sl.val (.str z)) hz
 ·exact hX _ ⟨_,_,_,_,_,_,_,_,rfl⟩
end
set_option maxHeartbeats 0 in
theorem all_mk{l:PySem.W.OpenLaw}{w:World}{K:zvd}{h:Heap}{mg:Str->Option Value}{f3 f4 f5 f6 f7 f8 f9 f10 f11 f12 f13 f14 f15 f16 f17 f18 f19 f20 f21 f22 f23 f24 f25 f26 f27 f28 f29 f30 f31 f32 f33 f34 f35 f36 f37 f38 i0:Addr}(X:K.In h)(G:h.Ns mainGlobals mg)(i1:mg "law" = some (.ref fa)){e4 e5 e6 e7 e8 e9 e10 e11 e12 e13 e14 e15 e16 e17 e18 e19 e20 e21 e22 e23 e24 e25 e26 e27 e28 e29 e30 e31 e32 e33 e34 e35 e36 e37 e38 n:FuncData}(a0:FA K "greatest_divisor" eZ f0 e0)(a1:FA K "common_bottom" ik f1 e1)(a2:FA K "top_over" rG C e2)(a3:FA K "together" mB f3 e3)(a4:FA K "together_by_house" bV f4 e4)(a5:FA K "gathered" mC f5 e5)(a6:FA K "is_tried" mD f6 e6)(a7:FA K "counts_of_row" dW f7 e7)(a8:FA K "show" BK f8 e8)(a9:FA K "read" BL f9 e9)(c5:FA K "is_houses_line" dm f10 e10)(c6:FA K "marks_of" mF f11 e11)(c7:FA K "is_mark_line" fC f12 e12)(c8:FA K "rows_of" pI f13 e13)(c9:FA K "is_behind" jI f14 e14)(d0:FA K "row_of" tm f15 e15)(d4:FA K "are_names" jJ f16 e16)(d5:FA K "is_name" pJ f17 e17)(d6:FA K "is_number" jK f18 e18)(d7:FA K "rising" yh f19 e19)(d8:FA K "has_right_length" cx f20 e20)(d9:FA K "answer" tq f21 e21)(f2:FA K "_law_pen" mG f22 e22)(g0:FA K "_law_next" jM f23 e23)(g2:FA K "_law_count" im f24 e24)(g3:FA K "_law_words" io f25 e25)(g4:FA K "_law_named" ip f26 e26)(g5:FA K "_law_cells" iq f27 e27)(g6:FA K "_law_text" jN f28 e28)(g7:FA K "_law_is_name" fE f29 e29)(g8:FA K "_law_are_names" dn f30 e30)(g9:FA K "_law_figures" fF f31 e31)(h3:FA K "_law_case" jO f32 e32)(h4:FA K "_law_bad_line" dX f33 e33)(h5:FA K "_law_line" jP f34 e34)(h6:FA K "_law_word_bent" dq f35 e35)(h7:FA K "_law_spoiled" fG f36 e36)(h8:FA K "_law_caught" dP f37 e37)(h9:FA K "_law_refused" fH f38 e38)(j:FA K "law" Hn i0 n)(z0:PySem.W.nsIn K mainGlobals "ValueError" = some none)(z1:PySem.W.nsIn K mainGlobals "abs" = some none)(z2:PySem.W.nsIn K mainGlobals "sum" = some none)(z3:PySem.W.nsIn K mainGlobals "tuple" = some none)(z4:PySem.W.nsIn K mainGlobals "any" = some none)(z5:PySem.W.nsIn K mainGlobals "all" = some none)(z6:PySem.W.nsIn K mainGlobals "len" = some none)(z7:PySem.W.nsIn K mainGlobals "range" = some none)(z8:PySem.W.nsIn K mainGlobals "zip" = some none)(z9:PySem.W.nsIn K mainGlobals "int" = some none)(i2:PySem.W.nsIn K mainGlobals "enumerate" = some none)(i3:PySem.W.nsIn K mainGlobals "min" = some none)(i4:PySem.W.nsIn K mainGlobals "list" = some none)(i5:PySem.W.nsIn K mainGlobals "sorted" = some none)(i6:PySem.W.nsIn K mainGlobals "isinstance" = some none)(i7:PySem.W.nsIn K mainGlobals "str" = some none)(i8:PySem.W.nsIn K mainGlobals "max" = some none)(i9:PySem.W.nsIn K mainGlobals "bool" = some none)(j0:PySem.W.nsIn K mainGlobals "set" = some none){aE eI cQ ak gI gT eG gN gz gy eJ kB eK eR bZ cM:Addr}{bH bG:Tok}{bF:Addr}{iod_NoText b7:Option Addr}{b9:Array (Option Value)}{ioc_NoText ikV_NoText idc_NoText ipm_NoText icd_NoText b8:Value}{L:Addr}{iod_Desk_init Y:Option Addr}{b2:Array (Option Value)}{ioc_Desk_init ikV_Desk_init idc_Desk_init ipm_Desk_init icd_Desk_init b1:Value}{U:Addr}{iod_Desk_say b4:Option Addr}{b6:Array (Option Value)}{ioc_Desk_say ikV_Desk_say idc_Desk_say ipm_Desk_say icd_Desk_say b5:Value}{ts:List Addr}{gg J:Addr}{c1:Value}{c0:Option Addr}{p:Array Value}{c2:Array (Option Value)}(fR:PySem.W.nsIn K mainGlobals "LEAST_HOUSES" = some (some (.int 2 bE)))(gA:PySem.W.nsIn K mainGlobals "MOST_HOUSES" = some (some (.int 6 bT)))(iS:PySem.W.nsIn K mainGlobals "MOST_MARKS" = some (some (.int 5 cE)))(iO:PySem.W.nsIn K mainGlobals "MOST_KINDS" = some (some (.int 6 cG)))(fU:PySem.W.nsIn K mainGlobals "LONGEST_NAME" = some (some (.int 8 bH)))(fS:PySem.W.nsIn K mainGlobals "MOST_FIGURES" = some (some (.int 30 bG)))(CB:PySem.W.nsIn K mainGlobals "Desk" = some (some (.ref aE)))(qB:PySem.W.nsIn K mainGlobals "LENGTHS" = some (some (.ref eI)))(mQ:PySem.W.nsIn K mainGlobals "SumError" = some (some (.ref cQ)))(ug:PySem.W.nsIn K mainGlobals "NoText" = some (some (.ref ak)))(tX:PySem.W.nsIn K mainGlobals "NoBack" = some (some (.ref gI)))(uf:PySem.W.nsIn K mainGlobals "NoBook" = some (some (.ref gT)))(qF:PySem.W.nsIn K mainGlobals "NoHouse" = some (some (.ref eG)))(tZ:PySem.W.nsIn K mainGlobals "NoLead" = some (some (.ref gN)))(ud:PySem.W.nsIn K mainGlobals "NoMark" = some (some (.ref gz)))(uc:PySem.W.nsIn K mainGlobals "NoName" = some (some (.ref gy)))(qr:PySem.W.nsIn K mainGlobals "NoRatio" = some (some (.ref eJ)))(xj:PySem.W.nsIn K mainGlobals "NoRow" = some (some (.ref kB)))(qt:PySem.W.nsIn K mainGlobals "NoShare" = some (some (.ref eK)))(qA:PySem.W.nsIn K mainGlobals "NoTable" = some (some (.ref eR)))(kt:PySem.W.nsIn K mainGlobals "NoWeights" = some (some (.ref bZ)))(mS:PySem.W.nsIn K mainGlobals "TooGreat" = some (some (.ref cM)))(lu:PySem.W.findIn K (.ref ak) "__getattribute__" = some (some (.builtin "BaseException.__getattribute__")))(I:PySem.W.findIn K (.ref ak) "__getattr__" = some none)(i:PySem.W.subIn K (.ref ak) (.type "BaseException")=some true)(z:PySem.W.findIn K (.ref ak) "__class__" = some (some (.builtin "object.__class__")))(ly:PySem.W.specialIn K (.builtin "object.__class__") "__get__" = some (some (.builtin "getset_descriptor.__get__")))(Q:PySem.W.takesIn K (.builtin "object.__class__")=some true)(x:PySem.W.mroIn K ak (.type "object")=some true)(H:(PySem.W.clsIn K ak).isSome=true)(qG:PySem.W.findIn K (.ref ak) "__init__" = some (some (.ref bF)))(M:K.lookup bF=some ⟨ioc_NoText,iod_NoText,.func (PySem.W.fnOf "__init__" "NoText.__init__" (fk dY) (bv dY) (ag dY) .none ikV_NoText idc_NoText ipm_NoText b7 icd_NoText b8),b9⟩)(m:PySem.W.codeIn K icd_NoText "NoText.__init__" = true)(lP:PySem.W.keepIn K (.ref bF)=true)(qq:PySem.W.findIn K (.ref ak) "__setattr__" = some (some (.builtin "object.__setattr__")))(qH:sF K ak=true)(qx:PySem.W.hasDictIn K ak=true)(qE:Aq K ak bF [.type "ValueError",.type "Exception",.type "BaseException",.type "object"] "ValueError.__new__" = true)(qp:PySem.W.typeIn K (.ref bF)=some (.type "function"))(qu:PySem.W.keepIn K (.ref ak)=true)(gH:PySem.W.findIn K (.ref ak) "line" = some none)(xp:PySem.W.plainGet K aE Str.empty=true)(xr:PySem.W.hasDictIn K aE=true)(xq:PySem.W.plainOver K aE=true)(xk:PySem.W.findIn K (.ref aE) "__setattr__" = some (some (.builtin "object.__setattr__")))(xh:PySem.W.makesIn K aE=true)(xg:PySem.W.keepIn K (.ref aE)=true)(iW:PySem.W.findIn K (.ref aE) "names" = some none)(jX:PySem.W.findIn K (.ref aE) "book" = some none)(kA:PySem.W.findIn K (.ref aE) "past" = some none)(iX:PySem.W.findIn K (.ref aE) "__init__" = some (some (.ref L)))(r:K.lookup L=some ⟨ioc_Desk_init,iod_Desk_init,.func (PySem.W.fnOf "__init__" "Desk.__init__" (fk bW) (bv bW) (ag bW) .none ikV_Desk_init idc_Desk_init ipm_Desk_init Y icd_Desk_init b1),b2⟩)(u:PySem.W.codeIn K icd_Desk_init "Desk.__init__" = true)(y:PySem.W.keepIn K (.ref L)=true)(iU:PySem.W.isFn K (.ref L)=true)(kr:PySem.W.findIn K (.ref aE) "say" = some (some (.ref U)))(A:K.lookup U=some ⟨ioc_Desk_say,iod_Desk_say,.func (PySem.W.fnOf "say" "Desk.say" (fk cK) (bv cK) (ag cK) .none ikV_Desk_say idc_Desk_say ipm_Desk_say b4 icd_Desk_say b5),b6⟩)(E:PySem.W.codeIn K icd_Desk_say "Desk.say" = true)(o:PySem.W.keepIn K (.ref U)=true)(ku:PySem.W.isFn K (.ref U)=true)(mU:PyProof.Rows.KTD.tabLook (PyProof.Rows.KTD.datLooks λb=>List.lookup b K) (λb=>List.lookup b K) eI kQ=true)(xo:PySem.W.exmOne K (.ref ak) (.ref cQ)=some true)(k_k1:PySem.W.kitOne K (.ref ak) (.ref ak)=some true)(k_k2:PySem.W.kitOne K (.ref ak) (.type "ValueError")=some true)(k_k3:PySem.W.kitAny K (.ref ak) [.ref gI,.ref gT,.ref eG,.ref gN,.ref gz,.ref gy,.ref eJ,.ref kB]=some false)(k_k4:PySem.W.kitAny K (.ref ak) [.ref eK,.ref eR,.ref bZ,.ref cM]=some false)(qI:e19.code=.ref gg)(wb:K.lookup gg=some ⟨c1,c0,.fields p,c2⟩)(wa:p[11]? = some (.ref J))(N:PySem.W.codeHdIn K gg J=true)(qJ:K.lookup J=none)(qk:J∈ts)(qy:([(J,"rising.<locals>.<lambda>")]:List (Addr×Str)).lookup J=some ("rising.<locals>.<lambda>" : Str))
  :
  ∃(fd:FuncData) (tb:List (Addr×Str)),(∀(s:Shared) (v:Value),BindsTo s fd ⟨[v],[]⟩ [("_law_script",v)])/\(∀q∈tb,(∃c,PySem.W.codeHdIn K c q.1=true)/\q.1∈ts/\K.lookup q.1=none)/\∀base:Heap,K.In base->base.Ns mainGlobals mg->Bm mg base->FnOk l.prog w K mg base CX0 12 fa fd ["_law_script"] (@DL.spLaw ⟨tb⟩ K):=by
 have e:=i1.symm.trans (zzW X G j.a);cases e
 letI tbi:DL.TB:=⟨[(J,"rising.<locals>.<lambda>")]⟩
 let T:Tx K mg:={ fj:=f0,eL:=e0,lF:=a0.d2 X G λ_ _ _ _ _ _ _ _=>rfl,iD:=f1,gZ:=e1,qC:=a1.d1 X G λ_ _ _ _ _ _ _=>rfl,rT:=C,qj:=e2,zG:=a2.d2 X G λ_ _ _ _ _ _ _ _=>rfl,mT:=f3,kx:=e3,mZ:=a3.d1 X G λ_ _ _ _ _ _ _=>rfl,bY:=f4,bN:=e4,bX:=a4.d2 X G λ_ _ _ _ _ _ _ _=>rfl,ji:=f5,gD:=e5,mV:=a5.d2 X G λ_ _ _ _ _ _ _ _=>rfl,nj:=f6,jV:=e6,mP:=a6.d1 X G λ_ _ _ _ _ _ _=>rfl,eP:=f7,dG:=e7,eE:=a7.d2 X G λ_ _ _ _ _ _ _ _=>rfl,CD:=f8,xm:=e8,yH:=a8.d2 X G λ_ _ _ _ _ _ _ _=>rfl,vY:=f9,qi:=e9,gh:=a9.d1 X G λ_ _ _ _ _ _ _=>rfl,dD:=f10,cN:=e10,bU:=c5.d1 X G λ_ _ _ _ _ _ _=>rfl,mR:=f11,kf:=e11,jm:=c6.d1 X G λ_ _ _ _ _ _ _=>rfl,fK:=f12,eO:=e12,fO:=c7.d2 X G λ_ _ _ _ _ _ _ _=>rfl,lG:=f13,jp:=e13,gf:=c8.d2 X G λ_ _ _ _ _ _ _ _=>rfl,kh:=f14,iF:=e14,kq:=c9.d2 X G λ_ _ _ _ _ _ _ _=>rfl,tW:=f15,qv:=e15,tS:=d0.d2 X G λ_ _ _ _ _ _ _ _=>rfl,kj:=f16,iM:=e16,gE:=d4.d1 X G λ_ _ _ _ _ _ _=>rfl,qD:=f17,mX:=e17,lM:=d5.d1 X G λ_ _ _ _ _ _ _=>rfl,kd:=f18,iL:=e18,gP:=d6.d1 X G λ_ _ _ _ _ _ _=>rfl,yG:=f19,qo:=e19,Ex:=d7.d1 X G λ_ _ _ _ _ _ _=>rfl,cD:=f20,ce:=e20,cF:=d8.d1 X G λ_ _ _ _ _ _ _=>rfl,tU:=f21,qm:=e21,tV:=d9.d3 X G λ_ _ _ _ _ _ _ _ _=>rfl,mW:=f22,ki:=e22,gi:=f2.d1 X G λ_ _ _ _ _ _ _=>rfl,gU:=f23,fg:=e23,aq:=g0.d2 X G λ_ _ _ _ _ _ _ _=>rfl,iJ:=f24,gM:=e24,iV:=g2.d1 X G λ_ _ _ _ _ _ _=>rfl,iH:=f25,gJ:=e25,dg:=g3.d2 X G λ_ _ _ _ _ _ _ _=>rfl,iT:=f26,gG:=e26,iB:=g4.d1 X G λ_ _ _ _ _ _ _=>rfl,iI:=f27,gR:=e27,iQ:=g5.d2 X G λ_ _ _ _ _ _ _ _=>rfl,ky:=f28,iC:=e28,kc:=g6.d2 X G λ_ _ _ _ _ _ _ _=>rfl,fM:=f29,eM:=e29,fP:=g7.d1 X G λ_ _ _ _ _ _ _=>rfl,dH:=f30,cP:=e30,bo:=g8.d3 X G λ_ _ _ _ _ _ _ _ _=>rfl,fQ:=f31,eF:=e31,cS:=g9.d1 X G λ_ _ _ _ _ _ _=>rfl,kg:=f32,iE:=e32,km:=h3.d3 X G λ_ _ _ _ _ _ _ _ _=>rfl,eQ:=f33,dE:=e33,eN:=h4.d1 X G λ_ _ _ _ _ _ _=>rfl,jW:=f34,iA:=e34,gK:=h5.d2 X G λ_ _ _ _ _ _ _ _=>rfl,dz:=f35,cO:=e35,dA:=h6.d2 X G λ_ _ _ _ _ _ _ _=>rfl,fL:=f36,eC:=e36,cU:=h7.d2 X G λ_ _ _ _ _ _ _ _=>rfl,dR:=f37,fT:=e37,dQ:=h8.d2 X G λ_ _ _ _ _ _ _ _=>rfl,fN:=f38,eA:=e38,cT:=h9.d2 X G λ_ _ _ _ _ _ _ _=>rfl,HI:=fa,CC:=n,Ki:=j.d1 X G λ_ _ _ _ _ _ _=>rfl,nD:=zzS X G z0,LF:=zzS X G z1,Ey:=zzS X G z2,gQ:=zzS X G z3,Kg:=zzS X G z4,CF:=zzS X G z5,ba:=zzS X G z6,dF:=zzS X G z7,HH:=zzS X G z8,Ez:=zzS X G z9,kC:=zzS X G i2,LE:=zzS X G i3,CH:=zzS X G i4,tY:=zzS X G i5,aY:=zzS X G i6,vV:=zzS X G i7,LC:=zzS X G i8,FC:=zzS X G i9,Kh:=zzS X G j0,aE:=aE,tT:=zzW X G CB,eI:=eI,nq:=zzW X G qB,cQ:=cQ,qw:=zzW X G mQ,ak:=ak,iN:=zzW X G ug,gI:=gI,vX:=zzW X G tX,gT:=gT,vZ:=zzW X G uf,eG:=eG,rV:=zzW X G qF,gN:=gN,vW:=zzW X G tZ,gz:=gz,vT:=zzW X G ud,gy:=gy,vS:=zzW X G uc,eJ:=eJ,rS:=zzW X G qr,kB:=kB,yF:=zzW X G xj,eK:=eK,rX:=zzW X G qt,eR:=eR,rY:=zzW X G qA,bZ:=bZ,nE:=zzW X G kt,cM:=cM,qz:=zzW X G mS,bE:=bE,iK:=zzW X G fR,bT:=bT,jA:=zzW X G gA,cE:=cE,lE:=zzW X G iS,cG:=cG,lI:=zzW X G iO,bH:=bH,iY:=zzW X G fU,bG:=bG,iP:=zzW X G fS,CG:=⟨lu,I,i,z,ly,Q,x,H⟩,bF:=bF,jj:=_,vU:=oI (st:=dY) M m lP,lL:=(oI (st:=dY) M m lP).binds (ps:=["self","line"]) (λ_ _ _ _ _ _ g d=>match g,d with|[_,_],_=>rfl),dh:=⟨⟨⟨lu,I,i,z,ly,Q,x,H⟩,qq,qH,qx⟩,qE,qG,qp,qu⟩,cV:=gH,iR:=⟨xp,xr,xq,xk⟩,gS:=iW,iG:=jX,nC:=kA,eD:=L,de:=_,jZ:=oI (st:=bW) r u y,gL:=(oI (st:=bW) r u y).binds (ps:=["self","text"]) (λ_ _ _ _ _ _ g d=>match g,d with|[_,_],_=>rfl),fe:=⟨xh,iX,iU,xg⟩,jl:=U,gC:=_,rW:=oI (st:=cK) A E o,mY:=(oI (st:=cK) A E o).binds (ps:=["self","row"]) (λ_ _ _ _ _ _ g d=>match g,d with|[_,_],_=>rfl),jY:=⟨kr,ku,o⟩,nr:=mU,xo:=xo,k_k1:=k_k1,k_k2:=k_k2,k_k3:=k_k3,k_k4:=k_k4,gg:=⟨gg,J,qI,N,qy⟩ }
 exact⟨n,[(J,"rising.<locals>.<lambda>")],λs v=>by obtain⟨_,_,_,_,_,_,_,_,_,q,_⟩:=j.F.ex;subst q;exact .of_eq rfl,List.forall_mem_cons.mpr ⟨⟨⟨_,N⟩,qk,qJ⟩,λ_ h=>nomatch h⟩,λbase _ _ B=>LB T B⟩
end My
open PySem PySem.W PyProof.Rows
set_option maxRecDepth 100000 in
set_option maxHeartbeats 0 in
theorem PySem.Challenge.cw_othersum_k52_texts_of_no_book_holds : PySem.Challenge.rw_othersum_k52_texts_of_no_book.Holds := by
  refine hd ?_
  k_fill
  refine DL.walk_ofT (l := PySem.Challenge.rw_othersum_k52_texts_of_no_book) (n := 63) (k := 12) (x := "_law_script") rfl (by decide) rfl ⟨rfl, by decide, by decide⟩ (fun w h Y => PySem.W.km_in_of Y) (fun w h Y => PySem.W.km_tabs_of Y) ?F
  case F =>
    intro w mg fa h KX G hmg
    refine' My.all_mk KX G hmg (L2.fa_mk ?a0 ?l0 ?c0 ?k0) (L2.fa_mk ?a1 ?l1 ?c1 ?k1) (L2.fa_mk ?a2 ?l2 ?c2 ?k2) (L2.fa_mk ?a3 ?l3 ?c3 ?k3) (L2.fa_mk ?a4 ?l4 ?c4 ?k4) (L2.fa_mk ?a5 ?l5 ?c5 ?k5) (L2.fa_mk ?a6 ?l6 ?c6 ?k6) (L2.fa_mk ?a7 ?l7 ?c7 ?k7) (L2.fa_mk ?a8 ?l8 ?c8 ?k8) (L2.fa_mk ?a9 ?l9 ?c9 ?k9) (L2.fa_mk ?a10 ?l10 ?c10 ?k10) (L2.fa_mk ?a11 ?l11 ?c11 ?k11) (L2.fa_mk ?a12 ?l12 ?c12 ?k12) (L2.fa_mk ?a13 ?l13 ?c13 ?k13) (L2.fa_mk ?a14 ?l14 ?c14 ?k14) (L2.fa_mk ?a15 ?l15 ?c15 ?k15) (L2.fa_mk ?a16 ?l16 ?c16 ?k16) (L2.fa_mk ?a17 ?l17 ?c17 ?k17) (L2.fa_mk ?a18 ?l18 ?c18 ?k18) (L2.fa_mk ?a19 ?l19 ?c19 ?k19) (L2.fa_mk ?a20 ?l20 ?c20 ?k20) (L2.fa_mk ?a21 ?l21 ?c21 ?k21) (L2.fa_mk ?a22 ?l22 ?c22 ?k22) (L2.fa_mk ?a23 ?l23 ?c23 ?k23) (L2.fa_mk ?a24 ?l24 ?c24 ?k24) (L2.fa_mk ?a25 ?l25 ?c25 ?k25) (L2.fa_mk ?a26 ?l26 ?c26 ?k26) (L2.fa_mk ?a27 ?l27 ?c27 ?k27) (L2.fa_mk ?a28 ?l28 ?c28 ?k28) (L2.fa_mk ?a29 ?l29 ?c29 ?k29) (L2.fa_mk ?a30 ?l30 ?c30 ?k30) (L2.fa_mk ?a31 ?l31 ?c31 ?k31) (L2.fa_mk ?a32 ?l32 ?c32 ?k32) (L2.fa_mk ?a33 ?l33 ?c33 ?k33) (L2.fa_mk ?a34 ?l34 ?c34 ?k34) (L2.fa_mk ?a35 ?l35 ?c35 ?k35) (L2.fa_mk ?a36 ?l36 ?c36 ?k36) (L2.fa_mk ?a37 ?l37 ?c37 ?k37) (L2.fa_mk ?a38 ?l38 ?c38 ?k38) (L2.fa_mk ?a39 ?l39 ?c39 ?k39) ?z0 ?z1 ?z2 ?z3 ?z4 ?z5 ?z6 ?z7 ?z8 ?z9 ?z10 ?z11 ?z12 ?z13 ?z14 ?z15 ?z16 ?z17 ?z18 ?fR ?gA ?iS ?iO ?fU ?fS ?CB ?qB ?mQ ?ug ?tX ?uf ?qF ?tZ ?ud ?uc ?qr ?xj ?qt ?qA ?kt ?mS ?lu ?lB ?lH ?lN ?ly ?lO ?lK ?lA ?qG ?lC ?lJ ?lP ?qq ?qH ?qx ?qE ?qp ?qu ?gH ?xp ?xr ?xq ?xk ?xh ?xg ?iW ?jX ?kA ?iX ?fc ?ff ?fh ?iU ?kr ?gF ?gO ?eB ?ku ?mU ?xo ?k_k1 ?k_k2 ?k_k3 ?k_k4 ?qI ?wb ?wa ?lD ?qJ ?qk ?qy
    case a0 | l0 | c0 | k0 | a1 | l1 | c1 | k1 | a2 | l2 | c2 | k2 | a3 | l3 | c3 | k3 | a4 | l4 | c4 | k4 | a5 | l5 | c5 | k5 | a6 | l6 | c6 | k6 | a7 | l7 | c7 | k7 | a8 | l8 | c8 | k8 | a9 | l9 | c9 | k9 | a10 | l10 | c10 | k10 | a11 | l11 | c11 | k11 | a12 | l12 | c12 | k12 | a13 | l13 | c13 | k13 | a14 | l14 | c14 | k14 | a15 | l15 | c15 | k15 | a16 | l16 | c16 | k16 | a17 | l17 | c17 | k17 | a18 | l18 | c18 | k18 | a19 | l19 | c19 | k19 | a20 | l20 | c20 | k20 | a21 | l21 | c21 | k21 | a22 | l22 | c22 | k22 | a23 | l23 | c23 | k23 | a24 | l24 | c24 | k24 | a25 | l25 | c25 | k25 | a26 | l26 | c26 | k26 | a27 | l27 | c27 | k27 | a28 | l28 | c28 | k28 | a29 | l29 | c29 | k29 | a30 | l30 | c30 | k30 | a31 | l31 | c31 | k31 | a32 | l32 | c32 | k32 | a33 | l33 | c33 | k33 | a34 | l34 | c34 | k34 | a35 | l35 | c35 | k35 | a36 | l36 | c36 | k36 | a37 | l37 | c37 | k37 | a38 | l38 | c38 | k38 | a39 | l39 | c39 | k39 | z0 | z1 | z2 | z3 | z4 | z5 | z6 | z7 | z8 | z9 | z10 | z11 | z12 | z13 | z14 | z15 | z16 | z17 | z18 | fR | gA | iS | iO | fU | fS | CB | qB | mQ | ug | tX | uf | qF | tZ | ud | uc | qr | xj | qt | qA | kt | mS | lu | lB | lH | lN | ly | lO | lK => k_is
    case lA => kernel_rfl
    case qG | lC | lJ | lP | qq => k_is
    case qH => kernel_rfl
    case qx => k_is
    case qE => kernel_rfl
    case qp | qu | gH => k_is
    case xp | xr | xq | xk | xh | xg | iW | jX | kA => first | k_is | kernel_rfl
    case iX | fc | ff | fh => k_is
    case iU => first | k_is | kernel_rfl
    case kr | gF | gO | eB => k_is
    case ku => first | k_is | kernel_rfl
    case mU => kernel_rfl
    case xo | k_k1 | k_k2 | k_k3 | k_k4 => first | kit_is | kernel_rfl
    case qI => exact rfl
    case wb => k_is
    case wa => exact rfl
    case lD => kernel_rfl
    case qJ => first | k_is | kernel_rfl
    case qk => first | k_mem | decide | simp
    case qy => kernel_rfl
#print axioms PySem.Challenge.cw_othersum_k52_texts_of_no_book_holds
