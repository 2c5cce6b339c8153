import PyProof.Rows.All
import Wide.All
import OpenK.AllK
import Wide.FinOn
import Lean
import PyProof.EqAt
import PyProof.EqKinds
import PyProof.TupleCall
import PySem.Challenge.RW_othersum_k60_whole_from_text_to_answer
noncomputable section
set_option Elab.async false
set_option linter.all false
set_option maxRecDepth 100000
structure PySem.W.Fast:Prop where(tw13571862603940711859 tw3297117884562324255 tw15565715512253457277 tw16151628708876355199 tw10576836333797772347 tw5522115075389312692 tw13885670934486923800 tw4026147355466621588 tw1198783387198779033 tw14334995849660946996 tw11153126096140912846 tw11024694936033576346 tw1607123104830579860 tw10149570385669482864 tw14036186469904095446 tw17267597263503486738 tw15870398105094248349 tw15142666989864626641 tw16309811473084048462 tw13037224057902187189 tw1402340071739887797 tw9113380124883318265 tw5920806927976990809 tw514280064592716601 tw12550775161083096063 tw16493865465440409018 tw1142673529048489019 tw12960429369202013873 tw15475723433398761304 tw16728255500844073214 tw11566098044289413073 tw7249310025045793396 tw6945566481307383155 tw8185220541750880888 tw15577281813014381367 tw16145670418848962200 tw14847308668706973960 tw15831126876759372255 tw12670982853097334264 tw17338325484393633139 tw13996866031312336078 tw3726453103677007866 tw9252304221032618942 tw12542895121996172375 tw11524815483048965402 tw12715800853834201459 tw5008593111378822452 tw17613222154834848340 tw17382457898008728272 tw10988764466652934233 tw10052031235695348791 tw17016834523296244275 tw4512776594637900181 tw15214748959534726111 tw12798174099139212305 tw15541240446876304647 tw13053770412826190925 tw1825952489489211193 tw13813548295540068894 tw16607193741793207195 tw14454166528178196959 tw12930229547647579594 tw13674586047789940208 tw17318462890700432884 tw9399754086935153974 tw11907897558876765624 tw12064304430848566033 tw13055953723892786844 tw6094820017090691545 tw10886659093417053267 tw15554417296805563061 tw7867829370405329436 tw10470340158578859262 tw10988312798546598065 tw10551173667578312727 tw14827714588952709054 tw17351735930882485243 tw14022695629967993375 tw12717557048674177747 tw8374155422468719031 tw140236481695663071 tw12887044766017154078 tw12297992134047619483 tw11429584451438056573 tw3233987462203235646 tw13757698761724263525 tw9456574344343218679 tw5101696844757716304 tw4075453323654395381 tw11898673842065290130 tw14424681132571578402 tw16864618592142003386 tw16003985067176294414 tw12382822922155266910 tw8047209995159408440 tw3239113980409921550 tw1950803216711332702 tw11120740854625124088 tw15401437161963490237 tw11267315532378154396 tw5872530126848033075 tw6408400580700104982 tw13394580363473044415 tw9584292182412213727 tw16247262843940693239 tw5665240888008139550 tw6128145076113358165 tw17877845533520812795 tw16773468814595293053 tw5874822333441161849 tw13127508451798649013 tw16746677531222629524 tw599730875272715187 tw5890639436620234070 tw5483103596317574428 tw5239429619861171699 tw14859695947638507448 tw6657536258744368796 tw13215348057498601715 tw6172094611929405055 tw5306753302271460952 tw13298828918039433023 tw8834805137890396735 tw5832146486336120021 tw1972164579936704799 tw6084841979344569690 tw10236332898609347644 tw10953238642706405951 tw2595585439558603231 tw14647417624928369756 tw5010956058597451964 tw14479964200598819128 tw12408111787983249662 tw16203965252921439515 tw5960047855520388891 tw5072417060200589145 tw4290864757253303354 tw2399617604181995578 tw17817366049700826239 tw11853640710764476214 tw9959121941294770655 tw5221592684559293012 tw256182404569192445 tw14963028359598502718 tw17937168697417666835 tw14833712730911297017 tw4766597723019941021 tw1405720946626083897 tw13855379610559885079 tw11212356425047092601 tw16260866306193365299 tw15433366417846715934 tw13303234937177203706 tw17188069144378779261 tw6968137755033780318 tw8757255369765604158 tw3303267245142563540 tw14935467056822913822 tw14537775516033599862 tw14196522196718054806 tw11368310244458860372 tw15012102849882553082 tw6798380500665416597 tw11402884983299125971 tw12740759652641322565 tw14617222483516278133 tw8739830900816887780 tw6278996535519779258 tw13367274342830030513 tw7900394595670775223 tw9848817304349107530 tw896239598344801917 tw8912161614967838395 tw6148498323302512570 tw5438652380644606353 tw4635989785427082552 tw3985964047577975286 tw3215387988796971590 tw16409965706819354750 tw15539815450414544023 tw14564479935002850509 tw11161164713144168021 tw17062427158221528723 tw4607425872040536859 tw4341293187932698999 tw14760874974797668852 tw14560624547652848805 tw12652081859355081885 tw5274481202262711730 tw5388589039460942527 tw7181997581385953548 tw2244103112122482387 tw1864683662541468164 tw1719895430356276633 tw14746253646979254834 tw14520296925931582552 tw14081431093454284249 tw11033627544408312984 tw12468840222048715292 tw3721919958574915784 tw7424060955962978353 tw7053471978191194526 tw5449601097390414333 tw3641951560692057861 tw3042748168174471775 tw2261719852989239553 tw14904681115217272601 tw14782755387869428366 tw13135312941875745310 tw12903330217458380548 tw12269216009862288129 tw11401859456886640639 tw1000662321505670351 tw9752306920614942232 tw6167885322477792661 tw6649495121980407215 tw17312523289201507379 tw13749543031611375527 tw12559880474128369298 tw2395486016090739897 tw5571941122713777233 tw7033042476109511611 tw3650042829212327629 tw6103891826971794303 tw7291104481378594968 tw16211732925270862936 tw17472811087150755858 tw5760117238175538160 tw1351852979975943594 tw1810505731646096427 tw1975494729534357219 tw7443300427957997767 tw15291024708798401721 tw784289164321568707 tw14853348098675926688 tw5567260261556248313 tw3274555792734442164 tw15275291021854500544 tw12509177155966099375 tw3436668677267843481 tw11780259881230940656 tw16667319390619273182 tw9942562575998753845 tw861502493610598483 tw7155359931933253843 tw7774113678449685934 tw3507769193172341495 tw17653592248189364939 tw15163409612377130007 tw6427576097997697322 tw9385439782273163706 tw10042083083395451092 tw6594970650091316094 tw11589282660436910429 tw13114645530532618160 tw16766683885213920930 tw1253127297229968123 tw10374632558016547081 tw938635154573522699 tw9582823730064241283 tw6953138203311097117 tw6067772499464465999 tw8997383693586321770 tw17744993626210230056 tw7327122111559308446 tw243476719192100926 tw8854275682344465072 tw12731152576971404446 tw13265978090383273239 tw15528221797031607849 tw18437792190763421558 tw1848955828906020544 tw10550934584343373414 tw11317637306720784765 tw1663524305781585820 tw16422413458241162112 tw13601115934706021691 tw8833496514701923757 tw855453113358079251 tw7050804516273991350 tw3350206127114907401 tw4517560463748656503 tw10958628066121416707 tw15743010393045028110 tw16919654943277366748 tw12461081396071149458 tw1932759071263863916 tw14727194681476072466 tw2983494736656345032 tw9757595895972200118 tw14170518179582410385 tw4524658085876675188 tw7046044490832178742 tw2997492091776894028 tw3953844824629472508 tw12099505692703838030 tw5462360663327728810 tw6259241058660970061 tw16035376269474964883 tw18095796173783872564 tw6900931685637148767 tw2358075552688931204 tw6170744672141170255 tw2424988045566436242 tw16626521671886133394 tw18073898193381586223 tw11280630913190679075 tw8521684928402303493 tw14404928986312190071 tw2259672571474061568 tw16060203290454839817 tw2466311954974566718 tw16531682779099013679 tw15593559885672580101 tw12396662096508845406 tw2333105410213810865 tw17680797132471856694 tw4849480874435393781 tw7151132215420815488 tw2931988195819169919 tw12773500944031208451 tw172746767574481773 tw13069393092227542028 tw7350462372000428638 tw5662061979359257339 tw14341141199694864594 tw9530734954097333506 tw16217903435359918192 tw12681666616541194006 tw4449297822257671152 tw14995258362815363992 tw18383651708701053236 tw16873086082458093902 tw2925816871977632210 tw2997480634906808460 tw13669536469129627823 tw772564365185477556 tw6327569006664949090 tw10826640976665885199 tw7212858340449540239 tw3433779192033484610 tw247591363613054380 tw211337195705725219 tw18293242582946804979 tw4382473104129494423 tw10510019762269167821 tw8908233856664302321 tw3831019782443316194 tw3099597729799864441 tw2015444344454546412 tw18031968618487185184 tw17339309145561079191 tw16120054744476736488 tw13484562703626004877 tw12901003280762261817 tw1205604411410820431 tw2781441929908095834 tw6046103115902281144 tw2314633323536394700 tw8535803893964050539 tw5459702643516471331 tw13313058339493701161 tw11373181179767321252 tw9615563845995560447 tw16212330677787901120 tw13631397514672939371 tw12431713363859531893 tw10879749546641988924 tw15806707075529380192 tw8186657734068701312 tw15932183184989994656 tw13343918040275786880 tw640624198105042115 tw6325675986683464353 tw15621116118777243554 tw13437419889732721216 tw17577329170770402720 tw17137270108147033825 tw7607420049574824106 tw4211115844707057057 tw5233118043267047457 tw15978794797337165890 tw12826555694032677247 tw12921946191010883867 tw11513857634932158529 tw11095110211248682772 tw5667099127317398114 tw15675013803050531044 tw12132596417379514657 tw11076892268299887525 tw463774138113389760 tw17691633702590694504 tw3520257249291928256 tw18310463660012746435 tw8422229294311615681 tw5341297951324810720 tw14261769069557060686 tw11066385474520676512 tw12627051441459223148 tw3198059409981156222 tw9104974531708491489 tw17360015989920007124 tw3436067635600285980 tw2228412568605170491 tw8356303796347215682 tw2386784164831690217 tw7943549864190904611 tw3851428956369438258 tw8919978131948313185 tw8115137120850386438 tw13348088958985639553 tw15402603294489630176 tw8949853181751564097 tw15499940227032437249 tw7422445781565681216 tw1915925776726481438 tw1401067106901849026 tw17823556299335049440 tw13439652990877377571 tw3543459598558145280 tw8565224436197482051 tw13861322856664149509 tw10479991185640055810 tw11107512795663914464 tw2990168724187919761 tw6329614223026926184 tw5449563278759341024 tw14938211915633500526 tw8272569733616993153 tw577049184839899653 tw13931877327420345601 tw16132249320637822498 tw17472340661787783526 tw651700358538967526 tw18367749455379333440 tw13141587033338554882 tw2132029292895624192 tw306047672372848657 tw11219443903484984970 tw5610444585433571239 tw10164718903369591474 tw13349420017058727143 tw3671519592330383864 tw2868442198168577507 tw17334828202450815106 tw12058884036946728934 tw7873786274422454737 tw14801369171006070438 tw11151835277377553703 tw9320515035125037321 tw8122695690928665766 tw1922157984580058403 tw9387514328989991554 tw17397653436517662659 tw4171853373547519906 tw15495752065017430504 tw15702583709834301711 tw15861351967447197489 tw8737599933303070863 tw4971374062829452455 tw4015202173357781934 tw3992765435912101610 tw3049343062529576306 tw18328257000508772394 tw16859961878692490766 tw16226643914720891334 tw1378205811072252300 tw13160504802963445071 tw13034982811429478159 tw1205274952441263945 tw10297410513487048360 tw11180800956215176064 tw2692750590507578028 tw9592300441314626372 tw8331849164307833061 tw4309217394794523951 tw3778530596728393105 tw3110587219445414310 tw16925712312323332580 tw10539347186207431242 tw12298192366917762067 tw8972062959192195235 tw2135409205425526673 tw209982475168477708 tw16822532161544500889 tw15685335758407661847 tw15621415185263527259 tw15227483606004533461 tw14172470266813156586 tw13810262117814702294 tw13769103115541136327 tw12768989823518198380 tw10016166984437732892 tw896878414759379649 tw17214186515701724070 tw16053306600634468012 tw14243238205550065757 tw740290905518256060 tw6701911527682315725 tw8319933024895762948 tw8760152093665844161 tw8219003486749837733 tw15052318979288761249 tw9536688357841153863 tw2080317491765294665 tw17760279517084355780 tw11564986514327137767 tw9860861378791804195 tw8733291241859026926 tw16902440903046159558 tw16279288168775177219 tw14842496431369740429 tw4548300405975405348 tw2941924889016668590 tw2789304352393801511 tw2455152089536381482 tw18157406047293677543 tw14689541978594310382 tw4804111812005502284 tw18183970276198133131 tw8909772338491405060 tw5832305185047221409 tw14782954611325821827 tw8757050672659960515 tw17518593693041627797 tw18384110700954362821 tw8833860146974802555 tw6128106870883400570 tw16753820520455620202 tw7164969610272591079 tw18407495941553956032 tw9402243437249704421 tw7485256538410118956 tw3328118118096588273 tw14577027041581768965 tw12330612334027959195 tw10294118229990073760 tw5137589814051832496 tw12188032599808994241 tw8285278889055680438 tw1725486776273817318 tw1835201335921387983 tw15763482434359817770 tw9969077435446430640 tw9879335643197240621 tw9744259246892133002 tw9678289623588505577 tw9388066449989048879 tw9304451534382375720 tw9197174079833555027 tw8950108695139179302 tw866652123128751154 tw86012387029904805 tw8428246938381088814 tw8413399678365625193 tw8176730645128964420 tw8159993647027272844 tw8002303944043701648 tw7828442866392281868 tw6851275008772768644 tw6714880395473160397 tw6651725471809605288 tw6548459193220583526 tw6420159726195949164 tw6216382948874008006 tw615563214671542189 tw5694767641087392711 tw5634867526602368427 tw561727478393794602 tw4470585836733325578 tw4436474186459923750 tw424408320835691240 tw4186743451310774866 tw3652199383789512132 tw354308444213283272 tw2956708394376553000 tw2768188642542392010 tw256976265262469064 tw1979317910248211280 tw1956260828630720203 tw17499849576073844966 tw17410218998227585676 tw17170472223608059050 tw16636501806038632012 tw1630143524128594353 tw16101134707931498060 tw15166322114958858414 tw14819390147424179368 tw14785633479632635281 tw14592624751514493413 tw14260533273033392520 tw14154597600763967237 tw14074196154385387334 tw13710940844802916613 tw13462424878891718212 tw13444670453868202053 tw13257283266767686631 tw12750670339961964742 tw1181674027530198351 tw11263768400469242888 tw10888863842102328177 tw10312438410070409164 tw15173544498738437827 tw643336161829623379 tw17483705464198625004 tw14226173905949225808 tw6557801498797044033 tw5217270863462422736 tw3919386906821981792 tw14441679199631801671 tw3365755272349913518 tw15779231459743154856 tw13307065042914920193 tw10295913840692754127 tw7873748247521183178 tw786537726763496527 tw6356304189028158447 tw5000232492035539693 tw4906484309439969231 tw4039707410889071942 tw3300454383303005205 tw15895094517606616290 tw14135006944967825841 tw13459084325293418506 tw12772213712371865176 tw11308061921803828041 tw17986951261819808105 tw16765560720781731146 tw9689729476882780088 tw9592521066531166775 tw9045458381397004210 tw8981176238543900561 tw87601786513091389 tw8431482922422412695 tw7933485763601977624 tw7091221385724896812 tw6880980288501444468 tw6828597562223498359 tw6782663255696616371 tw6542358382571353910 tw6526287140368922620 tw6248682570935725439 tw6229817132586351632 tw6162269159774324313 tw6125853113672642322 tw6124413428159637790 tw6060609690816243450 tw5805800948307579973 tw5622701340561072331 tw5285915839522022235 tw5263133172445716209 tw506581581156960101 tw4938610541543285704 tw4859391219904099992 tw4757880891971583632 tw4699756791338806529 tw4493901809537577575 tw447263597446747957 tw4323258101793500111 tw4051853165826885262 tw3676754643040562684 tw3581434408401558974 tw3419001889969749887 tw3236729772642805936 tw3235425350174046738 tw28018229315631829 tw2773992215795510196 tw2759284407945088205 tw2741014181512449073 tw2646887283097553488 tw258204147387103276 tw2576523973992343609 tw2483420100392427323 tw18400553757987027518 tw18361725300881549022 tw18335596039185421423 tw18146532975450069615 tw17890440400047909864 tw17713387462200973399 tw17678831435119133177 tw17659185236578331656 tw17592209452093105858 tw17590876675597686902:True)
set_option compiler.extract_closed false
set_option bootstrap.genMatcherCode false
set_option maxHeartbeats 0 in
open_top hd for PySem.Challenge.rw_othersum_k60_whole_from_text_to_answer
abbrev ab(a:Type _):=List a
abbrev bb:=PySem.Value
abbrev bn:=PySem.Addr
abbrev bx:=PySem.Shared
abbrev ca(a:Type _):=Option a
abbrev ck:=PySem.FuncData
abbrev cm:=PySem.Heap
abbrev dy:=PySem.Expr
abbrev ef:=PySem.Program
abbrev zwW:=PySem.W.Frag
abbrev zza:=@List.length_map
abbrev zzb:=@List.mem_cons_of_mem
abbrev zzc:=@List.map_append
abbrev zzd:=@PySem.wpAny_bind
abbrev zze:=@List.mem_cons_self
abbrev zzf:=@List.mem_map
abbrev zzg:=@List.length_append
abbrev zzh:=@if_neg
abbrev zzi:=@List.mem_cons
abbrev zzj:=@List.map_cons
abbrev zzk:=@if_pos
abbrev zzl:=@Nat.le_trans
abbrev zzm:=@PySem.Heap.get?_push_of_some
abbrev zzn:=@List.getElem?_eq_getElem
abbrev zzo:=@List.map_map
abbrev zzp:=@decide_eq_true
abbrev zzq:=@Nat.le_refl
abbrev zzr:=@List.getElem?_map
abbrev zzs:=@List.append_nil
abbrev zzt:=@PySem.wpAny_pure
abbrev zzu:=@List.length_cons
abbrev zzv:=@decide_eq_false
abbrev zzw:=@Nat.lt_of_le_of_lt
abbrev zzx:=@List.getD_eq_getElem?_getD
abbrev zzy:=@List.getElem?_eq_some_iff
abbrev zzz:=@List.append_cancel_left
abbrev zzA:=@List.mem_append
abbrev zzB:=@List.size_toArray
abbrev zzC:=@Int.toNat_natCast
abbrev zzD:=@PySem.Heap.lt_size
abbrev zzE:=@PySem.Heap.get?_push_size
abbrev zzF:=@List.map_congr_left
abbrev zzG:=@List.mem_singleton
abbrev zzH:=@List.length_eq_zero_iff
abbrev zzI:=@Bool.false_ne_true
abbrev zzJ:=@Nat.lt_of_lt_of_le
abbrev zzK:=@List.getElem?_append_right
abbrev zzL:=@Nat.ne_of_lt
abbrev zzM:=@Nat.zero_le
abbrev zzN:=@Int.le_refl
abbrev zzO:=@of_decide_eq_true
abbrev zzP:=@List.getElem?_set_ne
abbrev zzQ:=@List.mem_filter
abbrev zzR:=@List.append_assoc
abbrev zzS:=@Option.some.inj
abbrev zzT:=@List.nodup_cons
abbrev zzU:=@PySem.StrLaws.glued_eq_join
abbrev zzV:=@Bool.and_eq_true
abbrev zzW:=@List.not_mem_nil
abbrev zzX:=@List.find?_cons_of_pos
abbrev zzY:=@List.find?_cons_of_neg
abbrev zzZ:=@List.filter_cons_of_neg
abbrev zya:=@List.filter_append
abbrev zyb:=@List.mem_of_getElem?
abbrev zyc:=@List.sum_cons
abbrev zyd:=@List.filter_cons_of_pos
abbrev zye:=@List.mem_append_right
abbrev zyf:=@Classical.choose_spec
abbrev zyg:=@of_decide_eq_false
abbrev zyh:=@Array.length_toList
abbrev zyi:=@PySem.mem_of_lookup
abbrev zyj:=@List.all_eq_true
abbrev zyk:=@List.length_filter_le
abbrev zyl:=@Int.eq_ofNat_of_zero_le
abbrev zym:=@List.lookup_cons
abbrev zyn:=@List.getElem_mem
abbrev zyo:=@List.mem_range
abbrev zyp:=@List.map_nil
abbrev zyq:=@List.any_eq_true
abbrev zyr:=@List.pairwise_iff_getElem
abbrev zys:=@List.replicate_succ
abbrev zyt:=@PySem.Heap.SameBut.update
abbrev zyu:=@PySem.wpAny_truthy_bool
abbrev zyv:=@PySem.wpAny_newObj_type
abbrev zyw:=@PySem.Heap.size_push
abbrev zyx:=@PySem.W.kia_one
abbrev zyy:=@Nat.lt_irrefl
abbrev zyz:=@PySem.wpAny_holding
abbrev zyA:=@Array.toList_append
abbrev zyB:=@List.getElem?_append_left
abbrev zyC:=@Int.emod_lt_of_pos
abbrev zyD:=@or_false
abbrev zyE:=@List.map_singleton
abbrev zyF:=@List.zip_cons_cons
abbrev zyG:=@List.eq_of_mem_replicate
abbrev zyH:=@List.mem_iff_getElem
abbrev zyI:=@List.length_range
abbrev zyJ:=@decide_eq_true_eq
abbrev zyK:=@List.flatMap_cons
abbrev zyL:=@List.flatMap_append
abbrev zyM:=@List.length_take
abbrev zyN:=@PySem.wpAny_call_entry
abbrev zyO:=@Array.all_eq_true_iff_forall_mem
abbrev zyP:=@List.cons_append
abbrev zyQ:=@PySem.Str.cps_append
abbrev zyR:=@List.drop_eq_getElem_cons
abbrev zyS:=@Array.mem_toList_iff
abbrev zyT:=@List.of_mem_zip
abbrev zyU:=@Int.emod_nonneg
abbrev zyV:=@List.length_zip
abbrev zyW:=@PySem.W.mg_of
abbrev zyX:=@PySem.wpAny_typeNameOfWhole_keyiter
abbrev zyY:=@List.filterMap_cons
abbrev zyZ:=@List.getElem?_range
abbrev zxa:=@List.mem_flatMap
abbrev zxb:=@Nat.le_succ
abbrev zxc:=@PySem.wpAny_pyIter_tuple
abbrev zxd:=@List.zip_nil_right
abbrev zxe:=@PySem.wpAny_passesOwn
abbrev zxf:=@List.length_singleton
abbrev zxg:=@PySem.Paired.length
abbrev zxh:=@List.any_cons
abbrev zxi:=@Bool.true_and
abbrev zxj:=@List.nodup_append
abbrev zxk:=@Nat.lt_succ_of_lt
abbrev zxl:=@PySem.sizeLine_eq
abbrev zxm:=@List.nodup_nil
abbrev zxn:=@Nat.lt_succ_self
abbrev zxo:=@PySem.codeAny_mono
abbrev zxp:=@Int.mul_fdiv_cancel_left
abbrev zxq:=@List.findIdx_lt_length_of_exists
abbrev zxr:=@beq_eq_false_iff_ne
abbrev zxs:=@PySem.F.plainAttrs_list
abbrev zxt:=@Bool.eq_iff_iff
abbrev zxu:=@PySem.call_meets
abbrev zxv:=@List.find?_cons
abbrev zxw:=@List.length_nil
abbrev zxx:=@Nat.not_lt_zero
abbrev zxy:=@List.range_succ
abbrev zxz:=@Option.map_eq_some_iff
abbrev zxA:=@List.take_of_length_le
abbrev zxB:=@List.filter_eq_nil_iff
abbrev zxC:=@PySem.StrLaws.join_length_le
abbrev zxD:=@PySem.wpAny_pyIter_list
abbrev zxE:=@List.flatten_cons
abbrev zxF:=@Nat.le_of_succ_le
abbrev zxG:=@List.foldl_append
abbrev zxH:=@Bool.false_and
abbrev zxI:=@List.length_replicate
abbrev zxJ:=@PySem.Heap.get?_update_self
abbrev zxK:=@Int.natAbs_dvd_natAbs
abbrev zxL:=@Array.getElem?_toList
abbrev zxM:=@PySem.boot_len
abbrev zxN:=@Int.mul_comm
abbrev zxO:=@Nat.sub_self
abbrev zxP:=@List.mem_iff_getElem?
abbrev zxQ:=@PySem.W.KIN.signs_num
abbrev zxR:=@List.getElem_inj
abbrev zxS:=@PySem.wpAny_mono
abbrev zxT:=@Nat.pow_le_pow_right
abbrev zxU:=@List.drop_eq_nil_iff
abbrev zxV:=@Nat.add_le_add_right
abbrev zxW:=@PySem.wpAny_field
abbrev zxX:=@Rat.le_refl
abbrev zxY:=@List.toList_toArray
abbrev zxZ:=@List.filter_eq_self
abbrev zwa:=@List.map_eq_nil_iff
abbrev zwb:=@List.foldl_cons
abbrev zwc:=@PySem.size_of_entries
abbrev zwd:=@Array.getElem?_eq_getElem
abbrev zwe:=@List.cons.injEq
abbrev zwf:=@Classical.byContradiction
abbrev zwg:=@List.findIdx?_eq_none_iff
abbrev zwh:=@List.getElem?_zip_eq_some
abbrev zwi:=@PySem.wpAny_Call_Name_kw
abbrev zwj:=@PySem.F.args_tuple_add_2
abbrev zwk:=@PySem.tupleKind_room_in1
abbrev zwl:=@PySem.F.entry_tuple_add
abbrev zwm:=@List.reverse_cons
abbrev zwn:=@PySem.wpAny_pyIter_enum
abbrev zwo:=@PySem.wpAny_dictEntries
abbrev zwp:=@Option.some.injEq
abbrev zwq:=@Nat.le_succ_of_le
abbrev zwr:=@PySem.StrLaws.sumLen_le
abbrev zws:=@List.getElem?_set_self
abbrev zwt:=@PySem.F.slot_tuple_add
abbrev zwu:=@PyProof.Rows.subscriptTail_builtinR
abbrev zwv:=@List.range_succ_eq_map
abbrev zww:=@List.findIdx?_eq_some_iff_getElem
abbrev zwx:=@List.append_eq_nil_iff
abbrev zwy:=@List.all_cons
abbrev zwz:=@Nat.le_add_right
abbrev zwA:=@List.flatMap_nil
abbrev zwB:=@List.concat_eq_append
abbrev zwC:=@List.mem_append_left
abbrev zwD:=@PySem.wpAny_execs_nil
abbrev zwE:=@PySem.typeIs_str
abbrev zwF:=@Nat.lt_trans
abbrev zwG:=@Int.le_of_lt
abbrev zwH:=@PySem.codeAny_builtin
abbrev zwI:=@List.findIdx_getElem
abbrev zwJ:=@Int.mul_ne_zero
abbrev zwK:=@List.zip_append
abbrev zwL:=@PySem.W.plainGet_of
abbrev zwM:=@List.length_reverse
abbrev zwN:=@ne_true_of_eq_false
abbrev zwO:=@if_false
abbrev zwP:=@PySem.wpAny_setField
abbrev zwQ:=@Int.mul_pos
abbrev zwR:=@List.map_id
abbrev zwS:=@PySem.W.callWith_K
abbrev zwT:=@List.lookup_append
abbrev zwU:=@List.map_inj_right
abbrev zwV:=@PySem.wpAny_standAt
namespace L2
open PySem PySem.Spec PyProof.Rows
variable{A:Around}{C a:bn}{E Q:bb->bx->Prop}{M:Model}{N ps:ab Str}{cd dV pm u:bb}{ch:ab bn}{e tg:dy}{h:cm}{hi:Int}{i k:Nat}{j:Str}{k':Bool}{kw:ab (Str×bb)}{mg:Str->ca bb}{o:Obj}{op op':CmpOp}{p pos:Pos}{pl:ab (bn×Obj)}{s s':bx}{sc:Scope}{us:ab bb}{w:World}{α β γ:Type}
variable{P:ef}{w:World}{h h':cm}{a x C:bn}{e b:dy}{pins:ab (bn×Obj)}{s:bx}{pos p:Pos}{E:bb->bx->Prop}{A:Around}{es:ab dy}
noncomputable abbrev Key:=Sum Int Str
noncomputable def vM:Key->bb->Bool
 |.inl k,v=>Value.isInt k v|.inr x,v=>Value.isStrOf x v
noncomputable def keyH(w:World):Key->Int
 |.inl k=>hashInt k|.inr x=>hashStr w x
theorem br:∀{k:Key} {v:bb},vM k v=true->(∃i t,k=Sum.inl i/\v=Value.int i t)∨(∃x t,k=Sum.inr x/\v=Value.str x t)
 |.inl i,v,h=>by obtain⟨t,e⟩:=Value.isInt_shape h;exact .inl ⟨i,t,rfl,e⟩
 |.inr x,v,h=>by obtain⟨t,e⟩:=Value.isStrOf_shape h;exact .inr ⟨x,t,rfl,e⟩
theorem xq(i:Int)(t:Tok):vM (.inl i) (.int i t)=true:=by simp[vM,Value.isInt]
theorem xr(x:Str)(t:Tok):vM (.inr x) (.str x t)=true:=by simp[vM,Value.isStrOf]
theorem FG(a b:Int):decide ((Sum.inl a:Key)=Sum.inl b)=(a==b):=by
 by_cases e:a=b
 ·subst e;simp
 ·have h:¬(Sum.inl a:Key)=Sum.inl b:=λq=>e (Sum.inl.inj q);rw[zzv h];exact(zxr.mpr e).symm
theorem FH(a b:Str):decide ((Sum.inr a:Key)=Sum.inr b)=decide (a=b):=by
 by_cases e:a=b
 · simp
 ·have h:¬(Sum.inr a:Key)=Sum.inr b:=λq=>e (Sum.inr.inj q);rw[zzv h,zzv e]
theorem FI(a:Int)(b:Str):decide ((Sum.inl a:Key)=Sum.inr b)=false:=zzv (λq=>nomatch q)
theorem FJ(a:Str)(b:Int):decide ((Sum.inr a:Key)=Sum.inl b)=false:=zzv (λq=>nomatch q)
noncomputable def bF(prog:ef)(w:World):PySem.KeyKind prog w Key where
 is:=vM
 hash:=keyH w
 inj:=λv a b c U=>by
  rcases br c with ⟨i,t,rfl,rfl⟩|⟨x,t,rfl,rfl⟩
  ·rcases br U with ⟨j,u,rfl,e⟩|⟨y,u,rfl,e⟩
   ·injection e with J _;rw[J]
   ·exact nomatch e
  ·rcases br U with ⟨j,u,rfl,e⟩|⟨y,u,rfl,e⟩
   ·exact nomatch e
   ·injection e with J _;rw[J]
 byValue:=λk v h=>by rcases br h with ⟨i,t,rfl,rfl⟩|⟨x,t,rfl,rfl⟩<;>rfl
 pyHash:=λL h=>by
  rcases br L with ⟨i,t,rfl,rfl⟩|⟨x,t,rfl,rfl⟩
  ·exact wpAny_pyHash_int h
  ·exact wpAny_pyHash_str h
 eqBool:=λY L h=>by
  rcases br Y with ⟨i,t,rfl,rfl⟩|⟨x,t,rfl,rfl⟩
  ·rcases br L with ⟨j,u,rfl,rfl⟩|⟨y,u,rfl,rfl⟩
   ·rw[FG]at h;exact wpAny_eqBool_int h
   ·rw[FI]at h;exact SeqAt.EqAt.int_str i t y u _ _ _ _ h
  ·rcases br L with ⟨j,u,rfl,rfl⟩|⟨y,u,rfl,rfl⟩
   ·rw[FJ]at h;exact SeqAt.EqAt.str_int x t j u _ _ _ _ h
   ·rw[FH]at h;exact wpAny_eqBool_str h
 «strs»:=λk x t v h=>by
  rcases br h with ⟨i,u,rfl,e⟩|⟨y,u,rfl,e⟩
  ·exact nomatch e
  ·injection e with J _;subst J;cases v<;>rfl
theorem ju(prog:ef)(w:World)(i:Int)(t:Tok):(bF prog w).is (.inl i) (.int i t)=true:=xq i t
theorem rC(prog:ef)(w:World)(x:Str)(t:Tok):(bF prog w).is (.inr x) (.str x t)=true:=xr x t
inductive V where
 |non|bl (b:Bool)|int (i:Int)|str (x:Str)|byt (b:Array UInt8)|flt (b:UInt64)|ref (a:Addr)|ty (n:String)
 deriving DecidableEq
variable{v y:V}{vs:ab V}
def RelV:V->bb->Prop
 |.non,u=>u=Value.none|.bl b,u=>u=Value.bool b|.int i,u=>∃t,u=Value.int i t|.str x,u=>∃t,u=Value.str x t|.byt b,u=>∃t,u=Value.bytes b t|.flt b,u=>∃t,u=Value.float b t|.ref a,u=>u=Value.ref a|.ty n,u=>u=Value.type n
noncomputable abbrev Vals:ab V->ab bb->Prop:=Paired RelV
theorem Vals.length{xs:ab V}{us:ab bb}(r:Vals xs us):xs.length=us.length:=zxg r
theorem Vals.get:∀{xs:ab V} {us:ab bb} {i:Nat} {x:V},Vals xs us->xs[i]?=some x->∃u,us[i]?=some u/\RelV x u
 |_,_,_,_,.nil,e=>by simp at e
 |_,_,0,_,.cons r _,e=>by simp at e;subst e;exact⟨_,rfl,r⟩
 |_,_,i+1,x,.cons _ t,e=>by obtain⟨u,c,d⟩:=Vals.get t (by simpa using e);exact⟨u,by simpa using c,d⟩
theorem Vals.set{x:V}{u:bb}(r:RelV x u):∀{xs:ab V} {us:ab bb} (i:Nat),Vals xs us->Vals (xs.set i x) (us.set i u)
 |_,_,_,.nil=>.nil|_,_,0,.cons _ t=>.cons r t|_,_,i+1,.cons q t=>.cons q (Vals.set r i t)
theorem Vals.append:∀{xs c:ab V} {us ws:ab bb},Vals xs us->Vals c ws->Vals (xs++c) (us++ws):=by
 intro xs c us ws h s
 induction h with
 |nil=>exact s|cons r t J=>exact .cons r J
theorem Vals.take:∀{xs:ab V} {us:ab bb} (n:Nat),Vals xs us->Vals (xs.take n) (us.take n)
 |_,_,0,_=>.nil|_,_,_+1,.nil=>.nil|_,_,n+1,.cons r t=>.cons r (Vals.take n t)
theorem Vals.drop:∀{xs:ab V} {us:ab bb} (n:Nat),Vals xs us->Vals (xs.drop n) (us.drop n)
 |_,_,0,r=>r|_,_,_+1,.nil=>.nil|_,_,n+1,.cons _ t=>Vals.drop n t
def RelO:ca V->ca bb->Prop
 |some v,some u=>RelV v u|none,none=>True|_,_=>False
def KV{κ:Type}:ab (κ×V)->ab (κ×bb)->Prop:=Paired λ(p:κ×V) (q:κ×bb)=>p.1=q.1/\RelV p.2 q.2
noncomputable def kV:Key->V
 |.inl i=>.int i|.inr x=>.str x
inductive HO where
  |lst (xs:List V)
  |tup (xs:List V)
  |dK (kvs:List (Key×V))|dT (kvs:List (List Key×V))
  |set (S:Int->Bool) (n:Nat)
  |ins (C dx:Addr) (fs:List (Str×V))
  |own (x:Addr)
  |xd (fs:List (Str×V))
  |met (f x:Addr)
  |rng (lo hi:Int)
  |frz (o:Obj) (u:HO)
  |tbl (ps:Array Value)
  |ext (φ:Heap->Prop)
noncomputable abbrev Hp:=bn->ca HO
variable{H H':Hp}
noncomputable def upd(H:Hp)(a:bn)(o:HO):Hp:=λb=>if b=a then some o else H b
theorem ae{o:HO}:upd H a o a=some o:=by unfold upd;rw[zzk rfl]
theorem af{b:bn}{o:HO}(h:b≠a):upd H a o b=H b:=by unfold upd;rw[zzh h]
theorem kY{b:bn}{o u:HO}(h:H a=some o)(h':H b=some u)(d:o≠u):a≠b:=by intro e;subst e;rw[h]at h';exact d (zzS h')
theorem cq{b:bn}{o:HO}(h:H a=some o)(h':H b=none):a≠b:=by intro e;subst e;rw[h]at h';cases h'
section
variable(P:ef)(w:World)
def ObjOk(H:Hp)(h:cm)(a:bn):HO->Prop
 | .lst g=>g.length<=sizeLine/\∃(c:ab bb) (n:Nat),Vals g c/\h.get? a=some {cls:=.type "list",data:=.seq c.toArray n}|.tup g=>g.length<=sizeLine/\∃c:ab bb,Vals g c/\IsTup h a c.toArray|.dK d=>d.length<=sizeLine/\(a==sysModules)=false/\∃vs,KV d vs/\h.DictOf (bF P w) a vs|.dT d=>d.length<=sizeLine/\(a==sysModules)=false/\∃g:ab (ab Key×bn×bb),
   Paired (λ(p:ab Key×V) (q:ab Key×bn×bb)=>p.1=q.1/\H q.2.1=some (.tup (p.1.map kV))/\RelV p.2 q.2.2) d g /\
   ∃o es B,h.get? a=some o/\o.ExactDict/\o.data=.dict es B/\es.toList=g.map (entryOfKey (tupleKind (bF P w)))/\(g.map (·.1)).Nodup
 |.set S n=>h.SetOf (intKind P w) a S n|.ins C dx fs=>H dx=some (.own a)/\fs.length<=1000/\dx≠a/\h.get? a=some (PySem.W.instObj C dx) /\
   ∃l,h.Ns1 dx l/\(∀f,RelO (fs.lookup f) (l f))/\PySem.Within l (fs.map (·.1))
 |.own _=>∃o,h.get? a=some o|.xd fs=>∃l,h.Ns1 a l/\∀f,RelO (fs.lookup f) (l f)| .rng lo hi=>∃t u v,h.get? a=some {cls:=.type "range",data:=.fields #[.int lo t,.int hi u,.int 1 v]}|.frz o u=>h.get? a=some o/\ObjOk H h a u|.tbl ps=>h.get? a=some {cls:=.none,data:=.fields ps}|.met f x=>h.get? a=some (PySem.W.methodObj (.ref f) (.ref x))|.ext m=>m h/\(∃o,h.get? a=some o)/\∀r z:cm,m r->(∀o,r.get? a=some o->z.get? a=some o)->m z
def HOk(H:Hp)(h:cm):Prop:=∀a o,H a=some o->ObjOk P w H h a o
end
section
variable{H H':Hp}{o:HO}
theorem ObjOk.lt(x:ObjOk P w H h a o):a<h.objs.size:=by
 cases o with
 |lst d=>obtain⟨_,_,_,_,e⟩:=x;exact zzD e
 |tup d=>obtain⟨_,_,_,p⟩:=x;exact p.lt
 |dK c=>obtain⟨_,_,_,_,o,_,_,e,_⟩:=x;exact zzD e
 |dT c=>obtain⟨_,_,_,_,o,_,_,e,_⟩:=x;exact zzD e
 |set S n=>obtain⟨o,_,_,_,e,_⟩:=x;exact zzD e
 |ins C dx fs=>obtain⟨_,_,_,e,_⟩:=x;exact zzD e
 |own y=>obtain⟨_,e⟩:=x;exact zzD e
 |xd fs=>obtain⟨_,⟨_,_,_,e,_⟩,_⟩:=x;exact zzD e
 |rng lo hi=>obtain⟨_,_,_,e⟩:=x;exact zzD e
 |frz ob u=>obtain⟨e,_⟩:=x;exact zzD e
 |tbl ps=>exact zzD (show h.get? a=some _ from x)|met f y=>exact zzD (show h.get? a=some _ from x)|ext φ=>obtain⟨_,⟨_,e⟩,_⟩:=x;exact zzD e
theorem Paired.mapP{F G:α->β->Prop}:∀{J:ab α} {L:ab β},Paired F J L->(∀a b,F a b->G a b)->Paired G J L:=by
 intro J L h f
 induction h with
 |nil=>exact .nil|cons r t U=>exact .cons (f _ _ r) U
theorem ObjOk.stay(x:ObjOk P w H h a o)(k:∀b u,(b=a∨H b=some (.own a))->h.get? b=some u->h'.get? b=some u)
  (T:∀b,H b=some (.own a)->H' b=some (.own a)) (L:∀b xs,H b=some (.tup xs)->H' b=some (.tup xs)):ObjOk P w H' h' a o:=by
 induction o with
 |lst xs=>obtain⟨z,m,n,r,e⟩:=x;exact⟨z,m,n,r,k _ _ (.inl rfl) e⟩
 |tup xs=>obtain⟨z,m,r,g,e,c⟩:=x;exact⟨z,m,r,g,k _ _ (.inl rfl) e,c⟩
 |dK B=>obtain⟨z,y,vs,r,g,es,l,e,c⟩:=x;exact⟨z,y,vs,r,g,es,l,k _ _ (.inl rfl) e,c⟩
 |dT B =>
  obtain⟨z,y,xs,r,g,es,l,e,c⟩:=x;exact⟨z,y,xs,Paired.mapP r λp q z=>⟨z.1,L _ _ z.2.1,z.2.2⟩,g,es,l,k _ _ (.inl rfl) e,c⟩
 |set S n=>obtain⟨g,es,l,t,e,c⟩:=x;exact⟨g,es,l,t,k _ _ (.inl rfl) e,c⟩
 |ins C dx fs =>
  obtain⟨d,z,ne,e,G,⟨I,es,l,J,c⟩,r⟩:=x;exact⟨T _ d,z,ne,k _ _ (.inl rfl) e,G,⟨I,es,l,k _ _ (.inr d) J,c⟩,r⟩
 |own y=>obtain⟨g,e⟩:=x;exact⟨g,k _ _ (.inl rfl) e⟩
 |xd fs=>obtain⟨G,⟨I,es,l,e,c⟩,r⟩:=x;exact⟨G,⟨I,es,l,k _ _ (.inl rfl) e,c⟩,r⟩
 |rng lo hi=>obtain⟨t,u,v,e⟩:=x;exact⟨t,u,v,k _ _ (.inl rfl) e⟩
 |frz g u U=>obtain⟨e,q⟩:=x;exact⟨k _ _ (.inl rfl) e,U q⟩
 |tbl ps =>
  have e:h.get? a=some {cls:=.none,data:=.fields ps}:=x;exact k a _ (.inl rfl) e
 |met f y =>
  have e:h.get? a=some (PySem.W.methodObj (.ref f) (.ref y)):=x;exact k a _ (.inl rfl) e
 |ext φ=>obtain⟨p,⟨o,e⟩,st⟩:=x;exact⟨st _ _ p λo q=>k _ _ (.inl rfl) q,⟨o,k _ _ (.inl rfl) e⟩,st⟩
theorem HOk.lt(x:HOk P w H h)(e:H a=some o):a<h.objs.size:=(x a o e).lt
theorem HOk.fresh(x:HOk P w H h)(e:h.objs.size<=a):H a=none:=by
 cases q:H a with
 |none=>rfl|some u=>exact absurd (zzJ (x.lt q) e) (zyy _)
theorem HOk.kept(x:HOk P w H h)(k:∀b u,h.get? b=some u->h'.get? b=some u):HOk P w H h':=λa o e =>
 (x a o e).stay (λb u _ q=>k b u q) (λ_ q=>q) λ_ _ q=>q
theorem HOk.laid(x:HOk P w H h)(k:∀b u,h.get? b=some u->h'.get? b=some u)(L:h.objs.size<=a)(new:ObjOk P w (upd H a o) h' a o):HOk P w (upd H a o) h':=λb u e=>by
 have d:=x.fresh L;by_cases J:b=a
 ·subst J;rw[ae]at e;cases e;exact new
 ·rw[af J]at e;exact(x b u e).stay (λc v _ q=>k c v q) (λc q=>by rw[af (cq q d)];exact q) λc xs q=>by rw[af (cq q d)];exact q
end
def Rd(H:Hp)(a:bn)(u:HO):Prop:=H a=some u∨∃o,H a=some (.frz o u)
theorem Rd.ok{P:ef}{u:HO}(r:Rd H a u)(x:HOk P w H h):ObjOk P w H h a u:=by
 rcases r with r|⟨o,r⟩
 ·exact x a u r
 ·obtain⟨_,q⟩:=x a _ r;exact q
def Mut:ca HO->Prop
 |some (.lst _)=>True|some (.dK _)=>True|some (.dT _)=>True|some (.set _ _)=>True|some (.ins _ _ _)=>True|some (.ext _)=>True|_=>False
section
variable{H:Hp}{e:bn}{o':HO}
theorem HOk.write(ok:HOk P w H h)(g:Mut (H x))(he:e=x∨H e=some (.own x))(k:∀b u,b≠e->h.get? b=some u->h'.get? b=some u)(n:∃u,h'.get? e=some u)
  (new:ObjOk P w (upd H x o') h' x o'):HOk P w (upd H x o') h':=λb u q=>by
 have L:∀c y,H c=some (.own y)->c≠x:=λc y r z=>by subst z;rw[r]at g;exact g
 have U:∀c l,H c=some (.tup l)->c≠x:=λc l r z=>by subst z;rw[r]at g;exact g
 by_cases Y:b=x
 ·subst Y;rw[ae]at q;cases q;exact new
 ·rw[af Y]at q;by_cases J:b=e
  ·have m:H b=some (.own x):=by
    rcases he with z|z
    ·exact absurd (J.trans z) Y
    ·rw[J];exact z
   rw[q]at m;cases m;obtain⟨v,B⟩:=n;exact⟨v,by rw[J];exact B⟩
  ·refine(ok b u q).stay (λc v d r=>k c v ?_ r) (λc r=>by rw[af (L c b r)];exact r) λc l r=>by rw[af (U c l r)];exact r
   rcases d with rfl|d
   ·exact J
   ·rintro rfl;rcases he with z|z
    ·exact L c b d z
    ·rw[d]at z;cases z;exact Y rfl
end
structure Un(fs ex:List Addr)(H H':Hp)(h h':Heap):Prop where
 keep:∀b o,h.get? b=some o->H b=none->b∉fs->b∉ex->h'.get? b=some o
 slot:∀b o,h.get? b=some o->H b=none->b∈fs->b∉ex->∃sl,h'.get? b=some { o with slots:=sl }
 free:∀b o,h.get? b=some o->H b=none->b∉ex->H' b=none
 there:∀b o,h.get? b=some o->b∉ex->∃o',h'.get? b=some o'
 tups:∀b xs,H b=some (.tup xs)->H' b=some (.tup xs)
 frzs:∀b o u,H b=some (.frz o u)->H' b=some (.frz o u)
 tbls:∀b ps,H b=some (.tbl ps)->∃more,H' b=some (.tbl (ps++more))
section
variable{fs fs' ex ex':ab bn}{H H1:Hp}{h1:cm}{e:bn}{o:HO}
theorem Un.any(u:Un fs ex H H1 h h1){b:bn}{ob:Obj}(q:h.get? b=some ob)(n:H b=none)(L:b∉ex):∃c,h1.get? b=some {ob with slots:=c}:=by
 by_cases J:b∈fs
 ·exact u.slot b ob q n J L
 ·exact⟨ob.slots,u.keep b ob q n J L⟩
theorem Un.kept(k:∀b u,h.get? b=some u->h'.get? b=some u):Un fs ex H H h h' :=
 ⟨λb c q _ _ _=>k b c q,λb c q _ _ _=>⟨c.slots,k b c q⟩,λ_ _ _ n _=>n,λb c q _=>⟨c,k b c q⟩,λ_ _ q=>q,λ_ _ _ q=>q,λ_ ps q=>⟨#[],by rw[q];simp⟩⟩
theorem Un.refl:Un fs ex H H h h:=Un.kept λ_ _ q=>q
theorem Un.laid(k:∀b u,h.get? b=some u->h'.get? b=some u)(J:h.objs.size<=a)(c:H a=none):Un fs ex H (upd H a o) h h' where
 keep:=λb u q _ _ _=>k b u q
 slot:=λb u q _ _ _=>⟨u.slots,k b u q⟩
 free:=λb u q n _=>by rw[af (zzL (zzJ (zzD q) J))];exact n
 there:=λb u q _=>⟨u,k b u q⟩
 tups:=λb d q=>by rw[af (cq q c)];exact q
 frzs:=λb u d q=>by rw[af (cq q c)];exact q
 tbls:=λb ps q=>⟨#[],by rw[af (cq q c),q];simp⟩
theorem Un.write(L:Mut (H x))(he:e=x∨H e=some (.own x))(k:∀b u,b≠e->h.get? b=some u->h'.get? b=some u)(U:∃u,h'.get? e=some u):Un fs ex H (upd H x o) h h':=by
 have d:∀b,H b=none->b≠x:=λb n z=>by subst z;rw[n]at L;exact L
 have Y:∀b,H b=none->b≠e:=λb n z=>by
  subst z;rcases he with r|r
  ·exact d b n r
  ·rw[n]at r;cases r
 have c:∀b u,H b=some u->¬Mut (some u)->b≠x:=λb u q nm z=>by subst z;rw[q]at L;exact nm L
 refine⟨λb u q n _ _=>k b u (Y b n) q,λb u q n _ _=>⟨u.slots,k b u (Y b n) q⟩,λb u q n _=>by rw[af (d b n)];exact n,λb u q _=>?_,
  λb g q=>by rw[af (c b _ q λz=>z)];exact q,λb u g q=>by rw[af (c b _ q λz=>z)];exact q,λb ps q=>⟨#[],by rw[af (c b _ q λz=>z),q];simp⟩⟩
 by_cases J:b=e
 ·subst J;exact U
 ·exact⟨u,k b u J q⟩
theorem Un.mono(u:Un fs ex H H1 h h1)(hs:∀b∈fs,b∈fs')(J:∀b∈ex,b∈ex'):Un fs' ex' H H1 h h1 :=
 ⟨λb d q n L c=>u.keep b d q n (λz=>L (hs b z)) λz=>c (J b z),λ_ _ q n _ c=>u.any q n λz=>c (J _ z),λb d q n c=>u.free b d q n λz=>c (J b z),λb d q c=>u.there b d q λz=>c (J b z),u.tups,u.frzs,u.tbls⟩
end
noncomputable def trk(h:cm)(H:Hp):ab bn:=(List.range h.objs.size).filter λa=>(H a).isSome
noncomputable def hidT(h:cm)(H:Hp):cm:=PySem.W.hideAll h (trk h H)
theorem xt(h:cm)(H:Hp):(hidT h H).objs.size=h.objs.size:=PySem.W.hideAll_size _ _
theorem Am{b:bn}(e:h.get? b=some o)(n:H b=none):(hidT h H).get? b=some o :=
 PySem.W.hideAll_get _ e λc=>by have q:(H b).isSome=true:=(zzQ.mp c).2;rw[n]at q;simp at q
theorem Dh{b:bn}(e:(hidT h H).get? b=some o):h.get? b=some o/\H b=none:=by
 have J:h.get? b=some o:=PySem.W.of_hideAll (trk h H) e;refine⟨J,?_⟩;cases q:H b with
 |none=>rfl|some x =>
  have c:b∈trk h H:=zzQ.mpr ⟨zyo.mpr (zzD J),by simp[q]⟩;have z:(hidT h H).get? b=none:=PySem.W.hideAll_none (trk h H) c;rw[z]at e;cases e
structure Mod(K:zwW)(mg:Str->Option Value)(base:Heap):Prop where
 kin:K.In base
 glob:base.Ns mainGlobals mg
 blt:∃mb,base.Ns builtinsNs mb/\∀x:Str,x ≠ "__name__" -> mb x=bootBuiltins x
 nolimit:base.NoLimit
structure Cx where
 prog:Program
 w:World
 K:zwW
 mg:Str->Option Value
 base:Heap
 A:Around
 N:List Str
 s₀:Shared
 H₀:Hp
 env:Env
 outer:List Env
 stack:List Env
 ex:List Addr
 fn:Str->Bool
 calm:Bool
 pn:List (Addr×Obj)
 xe:Value->Shared->Prop
noncomputable def frs(l:ab Env):ab bn:=l.filterMap (·.frame)
noncomputable abbrev Cx.fs(X:Cx):ab bn:=frs X.outer
def Vis(sc:Scope)(x:Str):Prop:=sc.names.lookup x=some .local∨sc.names.lookup x=some .cell∨sc.names.lookup x=some .free
def Loc(sc:Scope)(x:Str):Prop:=sc.names.lookup x=some .local∨sc.names.lookup x=some .cell
def Look(env:Env)(h:cm)(m:Str->ca bb)(x:Str)(u:bb):Prop :=
 (env.kindOf x=some .local/\m x=some u)∨((env.kindOf x=some .cell∨env.kindOf x=some .free)/\∃c,env.cells.lookup x=some c/\h.IsCell c (some u))
structure Cx.Ok(X:Cx):Prop where
 mod:Mod X.K X.mg X.base
 kind:X.env.scope.kind=.function
 glob:X.env.globals=mainGlobals
 blt:X.env.builtins=builtinsNs
 above:X.s₀.heap.objs.size <= X.env.locals
 inj:∀x y c,X.env.cells.lookup x=some c->X.env.cells.lookup y=some c->x=y
 has:∀x,(X.env.kindOf x=some .cell∨X.env.kindOf x=some .free)->∃c,X.env.cells.lookup x=some c
 cab:∀x c,X.fn x=true->X.env.cells.lookup x=some c->X.s₀.heap.objs.size <= c
 hd:X.calm=true->X.A.handled=none
 frames:X.A.frames=some X.stack
 stk:X.stack=X.outer∨(X.stack=X.env::X.outer/\X.env.frame=some X.env.locals)
 exf:∀b∈X.ex,b≠X.env.locals/\∀x c,X.env.cells.lookup x=some c->c≠b
 bs:∀b o,X.base.get? b=some o->X.s₀.heap.get? b=some o/\X.H₀ b=none
 bsz:X.base.objs.size <= X.s₀.heap.objs.size
 noex:∀b o,X.base.get? b=some o->b∉X.ex
 exfs:∀b∈X.ex,b∉X.fs
 funs:X.s₀.heap.FunFrames X.base X.outer
 frf:∀b∈X.fs,X.H₀ b=none
structure Inv(X:Cx)(pins:List (Addr×Obj))(σ:List (Option V))(H:Hp)(s:Shared):Prop where
 ok:X.Ok
 os:s.os=X.s₀.os
 bare:AllBare s.gens
 base:Un X.fs X.ex X.H₀ H X.s₀.heap s.heap
 loc:∃m,s.heap.Ns X.env.locals m/\∀(i:Nat) (x:Str) (v:V),X.N[i]? = some x->σ[i]? = some (some v)->Vis X.env.scope x->∃u,RelV v u/\Look X.env s.heap m x u
 cell:∀x c,X.env.cells.lookup x=some c->∃v,s.heap.IsCell c v
 free:H X.env.locals=none
 freeC:∀x c,X.env.cells.lookup x=some c->H c=none
 pin:∀p∈X.pn++pins,s.heap.get? p.1=some p.2/\H p.1=none/\p.1≠X.env.locals/\p.1∉X.fs/\∀v,p.2.data ≠ .cell v
 hok:HOk X.prog X.w H s.heap
 len:σ.length=X.N.length
section
variable{X:Cx}{σ:ab (ca V)}{H H':Hp}
theorem Cx.Ok.nofr(ok:X.Ok){b:bn}(e:X.base.get? b=some o):b∉X.fs:=λJ=>by have:=(ok.funs.mem J).1;rw[e]at this;cases this
theorem Inv.bs(I:Inv X pins σ H s):∀b o,X.base.get? b=some o->s.heap.get? b=some o/\H b=none:=λb o e =>
 ⟨I.base.keep b o (I.ok.bs b o e).1 (I.ok.bs b o e).2 (I.ok.nofr e) (I.ok.noex b o e),I.base.free b o (I.ok.bs b o e).1 (I.ok.bs b o e).2 (I.ok.noex b o e)⟩
theorem Inv.bk(I:Inv X pins σ H s):∀b o,X.base.get? b=some o->s.heap.get? b=some o:=λb o e=>(I.bs b o e).1
theorem Inv.mod(I:Inv X pins σ H s):Mod X.K X.mg X.base:=I.ok.mod
theorem Inv.kIn(I:Inv X pins σ H s):X.K.In s.heap:=I.ok.mod.kin.keeps I.bk
theorem Inv.lt(I:Inv X pins σ H s):X.env.locals<s.heap.objs.size:=let ⟨_,hn,_⟩:=I.loc;hn.lt
theorem Inv.sz(I:Inv X pins σ H s):X.s₀.heap.objs.size<=s.heap.objs.size:=zzl I.ok.above (Nat.le_of_lt I.lt)
theorem Inv.nofs(I:Inv X pins σ H s)(h:s.heap.objs.size<=a):a∉X.fs:=λJ=>by obtain⟨_,o,c,_⟩:=I.ok.funs.mem J;exact absurd (zzJ (zzD c) (zzl I.sz h)) (zyy _)
theorem Inv.cne(I:Inv X pins σ H s):∀x c,X.env.cells.lookup x=some c->c≠X.env.locals:=λx c e z=>by obtain⟨v,o,d,hd⟩:=I.cell x c e;obtain⟨m,⟨o',es,ep,L,J,_⟩,_⟩:=I.loc;rw[z,L]at d;cases d;rw[J]at hd;cases hd
theorem Inv.funs(I:Inv X pins σ H s):s.heap.FunFrames X.base X.outer:=by
 have all:∀(l:ab Env),(∀b∈frs l,b∈X.fs)->X.s₀.heap.FunFrames X.base l->s.heap.FunFrames X.base l:=by
  intro l
  induction l with
  |nil=>intro _ _;trivial|cons env r B =>
   intro c g;obtain⟨d,⟨L,o,Y,m,n,hd⟩,q⟩:=g;have J:L∈X.fs:=c L (by unfold frs;rw[zyY,Y];exact zze);obtain⟨sl,e⟩:=I.base.slot L o n (I.ok.frf L J) J λz=>I.ok.exfs L z J;exact⟨d,⟨L,_,Y,m,e,hd⟩,B (λb U=>c b (by unfold frs;rw[zyY,Y];exact zzb _ U)) q⟩
 exact all X.outer (λ_ U=>U) I.ok.funs
theorem Inv.stack(I:Inv X pins σ H s):s.heap.FunFrames X.base X.stack:=by
 rcases I.ok.stk with e|⟨e,J⟩
 ·rw[e];exact I.funs
 ·rw[e];obtain⟨m,c,_⟩:=I.loc;refine .cons (by rw[I.ok.kind];decide) J c ?_ I.funs;exact Heap.get?_none_of_le (zzl I.ok.bsz I.ok.above)
theorem Inv.stkSub(I:Inv X pins σ H s):∀b∈frs X.stack,b∈X.env.locals::X.fs:=λb J=>by
 rcases I.ok.stk with e|⟨e,L⟩
 ·rw[e]at J;exact zzb _ J
 ·rw[e]at J;unfold frs at J;rw[zyY,L]at J;exact J
theorem Inv.stkFree(I:Inv X pins σ H s):∀b∈frs X.stack,H b=none:=λb J=>by
 rcases zzi.mp (I.stkSub b J) with e|J
 ·rw[e];exact I.free
 ·obtain⟨_,o,c,_⟩:=I.ok.funs.mem J;exact I.base.free b o c (I.ok.frf b J) λz=>I.ok.exfs b z J
theorem Inv.step{N:Array GenState}{t':Nat}{d':Drawn}(I:Inv X pins σ H s)(U:∀b∈ch,(b∈X.ex∨X.s₀.heap.objs.size<=b)/\b≠X.env.locals/\(∀x c,X.env.cells.lookup x=some c->c≠b)/\∀p∈X.pn++pins,p.1≠b)(keep:∀b o,b≠X.env.locals->b∉X.fs->b∉ch->s.heap.get? b=some o->H b=none->h'.get? b=some o)(slot:∀b o,b≠X.env.locals->b∈X.fs->b∉ch->s.heap.get? b=some o->H b=none->∃E,h'.get? b=some {o with slots:=E})(free:∀b o,b∉ch->s.heap.get? b=some o->H b=none->H' b=none)(there:∀b o,b∉ch->s.heap.get? b=some o->∃h,h'.get? b=some h)(y:∀b xs,H b=some (.tup xs)->H' b=some (.tup xs))(a:∀b o u,H b=some (.frz o u)->H' b=some (.frz o u))(j:∀b ps,H b=some (.tbl ps)->∃more,H' b=some (.tbl (ps++more)))(ns:∀m,s.heap.Ns X.env.locals m->h'.Ns X.env.locals m)(C:HOk X.prog X.w H' h')(hg:AllBare N) :
  Inv X pins σ H' {s with heap:=h',gens:=N,drawn:=d',toks:=t' }:=by
 have M:∀b o,X.s₀.heap.get? b=some o->b≠X.env.locals:=λb o e=>zzL (zzJ (zzD e) I.ok.above);have A:∀b o,X.s₀.heap.get? b=some o->b∉X.ex->b∉ch:=λb o e J B=>by
  rcases (U b B).1 with z|z
  ·exact J z
  ·exact absurd (zzJ (zzD e) z) (zyy _)
 have L:∀x c,X.env.cells.lookup x=some c->∀v,s.heap.IsCell c v->h'.IsCell c v:=λx c e v ⟨o,G,hd⟩=>by
  have Y:c∉ch:=λz=>(U c z).2.2.1 x c e rfl;by_cases Q:c∈X.fs
  ·obtain⟨E,q⟩:=slot c o (I.cne x c e) Q Y G (I.freeC x c e);exact⟨_,q,hd⟩
  ·exact⟨o,keep c o (I.cne x c e) Q Y G (I.freeC x c e),hd⟩
 refine⟨I.ok,I.os,hg,⟨λb o e n B J=>?_,λb o e n B J=>?_,λb o e n J=>?_,λb o e J=>?_,λb xs e=>y b xs (I.base.tups b xs e),λb o xs e=>a b o xs (I.base.frzs b o xs e),λb ps e=>?_⟩,?_,λx c e=>?_,?_,λx c e=>?_,λp hp=>?_,C,I.len⟩
 ·exact keep b o (M b o e) B (A b o e J) (I.base.keep b o e n B J) (I.base.free b o e n J)
 ·obtain⟨E,g⟩:=I.base.slot b o e n B J;obtain⟨a5,T⟩:=slot b _ (M b o e) B (A b o e J) g (I.base.free b o e n J);exact⟨a5,T⟩
 ·obtain⟨h,g⟩:=I.base.there b o e J;exact free b h (A b o e J) g (I.base.free b o e n J)
 ·obtain⟨h,g⟩:=I.base.there b o e J;exact there b h (A b o e J) g
 ·obtain⟨m1,g⟩:=I.base.tbls b ps e;obtain⟨m2,T⟩:=j b _ g;exact⟨m1++m2,by rw[T,Array.append_assoc]⟩
 ·obtain⟨m,hn,hl⟩:=I.loc;refine⟨m,ns m hn,λi x v g T e3=>?_⟩;obtain⟨u,r,l⟩:=hl i x v g T e3;refine⟨u,r,?_⟩;rcases l with l|⟨k,c,e,z⟩
  ·exact .inl l
  ·exact .inr ⟨k,c,e,L x c e _ z⟩
 ·obtain⟨v,z⟩:=I.cell x c e;exact⟨v,L x c e v z⟩
 ·obtain⟨m,⟨o,_,_,G,_⟩,_⟩:=I.loc;exact free _ o (λz=>(U _ z).2.1 rfl) G I.free
 ·obtain⟨v,o,G,hd⟩:=I.cell x c e;exact free c o (λz=>(U c z).2.2.1 x c e rfl) G (I.freeC x c e)
 ·obtain⟨e,n,ne,nf,d⟩:=I.pin p hp;have Y:p.1∉ch:=λz=>(U p.1 z).2.2.2 p hp rfl;exact⟨keep p.1 p.2 ne nf Y e n,free p.1 p.2 Y e n,ne,nf,d⟩
theorem Inv.un{t':Nat}(I:Inv X pins σ H s)(u:Un X.fs [] H H' s.heap h')(d:HOk X.prog X.w H' h'):Inv X pins σ H' {s with heap:=h',toks:=t' }:=by
 obtain⟨m,⟨o,es,ep,g,r⟩,_⟩:=id I.loc;obtain⟨sl,Y⟩:=u.any g I.free (by simp);exact I.step (ch:=[]) (λ_ z=>nomatch z) (λb o _ U _ e n=>u.keep b o e n U (by simp)) (λb o _ U _ e n=>u.slot b o e n U (by simp)) (λb o _ e n=>u.free b o e n (by simp)) (λb o _ e=>u.there b o e (by simp)) u.tups u.frzs u.tbls (λm' l=>by obtain⟨o',c,L,J,q⟩:=l;rw[g]at J;cases J;exact⟨_,c,L,Y,q⟩) d I.bare
theorem Inv.call{q:Array GenState}{t':Nat}{G:Drawn}(I:Inv X pins σ H s)(u:Un (frs X.stack) ch H H' s.heap h')(l:HOk X.prog X.w H' h')(a:AllBare q)(L:∀b∈ch,(b∈X.ex∨X.s₀.heap.objs.size<=b)/\b≠X.env.locals/\(∀x c,X.env.cells.lookup x=some c->c≠b)/\∀p∈X.pn++pins,p.1≠b) :
  Inv X pins σ H' {s with heap:=h',gens:=q,drawn:=G,toks:=t' }:=by
 obtain⟨m,⟨o,es,ep,B,r⟩,_⟩:=id I.loc;obtain⟨sl,g⟩:=u.any B I.free λz=>(L _ z).2.1 rfl;exact I.step L (λb o g T J e n=>u.keep b o e n (λz=>(zzi.mp (I.stkSub b z)).elim g T) J) (λb o _ _ J e n=>u.any e n J) (λb o J e n=>u.free b o e n J) (λb o J e=>u.there b o e J) u.tups u.frzs u.tbls (λm' h=>by obtain⟨o',d,Y,U,i⟩:=h;rw[B]at U;cases U;exact⟨_,d,Y,g,i⟩) l a
theorem Inv.turned{t':Nat}(I:Inv X pins σ H s)(k:∀b o,b≠a->s.heap.get? b=some o->h'.get? b=some o)(T:H a=none)(U:a≠X.env.locals)(g:a∈X.ex∨X.s₀.heap.objs.size<=a)(l:∀x c,X.env.cells.lookup x=some c->c≠a)(B:∀p∈X.pn++pins,p.1≠a):Inv X pins σ H {s with heap:=h',toks:=t' }:=by
 have L:∀b u,H b=some u->b≠a:=λb u e z=>by rw[z,T]at e;cases e
 refine I.step (ch:=[a]) (λb Y=>?_) (λb o _ _ J e _=>k b o (λz=>J (by simp[z])) e) (λb o _ _ J e _=>⟨o.slots,k b o (λz=>J (by simp[z])) e⟩) (λ_ _ _ _ n=>n)
  (λb o J e=>⟨o,k b o (λz=>J (by simp[z])) e⟩) (λ_ _ e=>e) (λ_ _ _ e=>e) (λb ps e=>⟨#[],by rw[e];simp⟩) (λm G=>?_) (λb u e=>?_) I.bare
 ·have e:b=a:=by simpa using Y
  subst e;exact⟨g,U,l,B⟩
 ·obtain⟨o,es,d,h,r⟩:=G;exact⟨o,es,d,k _ o (Ne.symm U) h,r⟩
 ·refine(I.hok b u e).stay (λc v J q=>k c v ?_ q) (λ_ q=>q) λ_ _ q=>q;rcases J with z|z
  ·rw[z];exact L b u e
  ·exact L c _ z
theorem Inv.tok(I:Inv X pins σ H s)(t:Nat):Inv X pins σ H {s with toks:=t}:=I.un Un.refl I.hok
theorem Inv.kept{t':Nat}(I:Inv X pins σ H s)(k:∀b u,s.heap.get? b=some u->h'.get? b=some u):Inv X pins σ H {s with heap:=h',toks:=t' }:=I.un (Un.kept k) (I.hok.kept k)
theorem Inv.laid{a:bn}{o:HO}{t':Nat}(I:Inv X pins σ H s)(k:∀b u,s.heap.get? b=some u->h'.get? b=some u)(J:s.heap.objs.size<=a)(new:ObjOk X.prog X.w (upd H a o) h' a o) :
  Inv X pins σ (upd H a o) {s with heap:=h',toks:=t' }:=I.un (Un.laid k J (I.hok.fresh J)) (I.hok.laid k J new)
theorem Inv.write{x e:bn}{o:HO}{t':Nat}(I:Inv X pins σ H s)(L:Mut (H x))(he:e=x∨H e=some (.own x))(k:∀b u,b≠e->s.heap.get? b=some u->h'.get? b=some u)(J:∃u,h'.get? e=some u)
  (new:ObjOk X.prog X.w (upd H x o) h' x o):Inv X pins σ (upd H x o) {s with heap:=h',toks:=t' }:=I.un (Un.write L he k J) (I.hok.write L he k J new)
theorem Inv.pins_of(I:Inv X pins σ H s)(h:∀p∈pl,s.heap.get? p.1=some p.2/\H p.1=none/\p.1≠X.env.locals/\p.1∉X.fs/\∀v,p.2.data ≠ .cell v):Inv X pl σ H s :=
 ⟨I.ok,I.os,I.bare,I.base,I.loc,I.cell,I.free,I.freeC,λp J=>(zzA.mp J).elim (λz=>I.pin p (zwC _ z)) (h p),I.hok,I.len⟩
theorem tZ(U:N.Nodup){x:Str}(a:N[i]?=some x)(b:N[k]?=some x):i=k:=by obtain⟨h1,J⟩:=zzy.mp a;obtain⟨h2,L⟩:=zzy.mp b;exact(zxR U).mp (J.trans L.symm)
theorem oI{x:Str}{Q:Unit->bx->Prop}(I:Inv X pins σ H s)(hN:X.N.Nodup)(hi:X.N[i]?=some x)(Y:Loc X.env.scope x)(r:RelV v u)(h:∀s',Inv X pins (σ.set i (some v)) H s'->(∃a,Heap.SameBut a s.heap s'.heap/\(a=X.env.locals∨X.env.cells.lookup x=some a))->Q () s')(hf:X.fn x=true∨X.env.scope.names.lookup x=some .local:=by first|exact .inl rfl|exact .inr rfl|assumption):wpAny M A (storeName X.env x u) Q E s:=by
 obtain⟨m,hn,hl⟩:=id I.loc;have a8:(X.env.scope.kind==.class || (X.env.scope.kind==.module && X.env.locals != X.env.globals))=false:=by rw[I.ok.kind];rfl
 have a4:i<σ.length:=by rw[I.len];exact(zzy.mp hi).1
 have cne:=I.cne;have L:∀{a:bn} {h':cm},(∃o,s.heap.get? a=some o/\H a=none)->Heap.SameBut a s.heap h'->HOk X.prog X.w H h':=λ{a h'} ha g b ob e=>by
  obtain⟨_,_,a0⟩:=ha;refine(I.hok b ob e).stay (λc w' U q=>(g.2 c ?_).trans q) (λ_ q=>q) λ_ _ q=>q;rintro rfl;rcases U with rfl|U
  ·rw[a0]at e;cases e
  ·rw[a0]at U;cases U
 rcases Y with B|B
 ·refine wpAny_storeName_local B hn (λh' b1 g=>?_) a8;obtain⟨oL,_,_,b2,_⟩:=id hn;refine h _ ⟨I.ok,I.os,I.bare,⟨λb o e n G Y=>?_,λb o e n G Y=>?_,I.base.free,λb o e Y=>?_,I.base.tups,I.base.frzs,I.base.tbls⟩,⟨_,b1,λj y v' J l e3=>?_⟩,λy c e=>?_,I.free,I.freeC,λp hp=>?_,L ⟨oL,b2,I.free⟩ g,by simpa using I.len⟩ ⟨_,g,.inl rfl⟩
  ·exact(g.2 b (zzL (zzJ (zzD e) I.ok.above))).trans (I.base.keep b o e n G Y)
  ·obtain⟨sl,J⟩:=I.base.slot b o e n G Y;exact⟨sl,(g.2 b (zzL (zzJ (zzD e) I.ok.above))).trans J⟩
  ·obtain⟨o',J⟩:=I.base.there b o e Y;exact⟨o',(g.2 b (zzL (zzJ (zzD e) I.ok.above))).trans J⟩
  ·by_cases T:j=i
   ·subst T;rw[hi]at J;cases J;rw[zws a4]at l;cases l;exact⟨u,r,.inl ⟨B,by simp⟩⟩
   ·rw[zzP (Ne.symm T)]at l;obtain⟨u',r',q⟩:=hl j y v' J l e3;refine⟨u',r',?_⟩;rcases q with ⟨k,e⟩|⟨k,c,e,z⟩
    ·refine .inl ⟨k,?_⟩;have:y≠x:=λe=>T (tZ hN J (e ▸ hi));simp[this,e]
    ·exact .inr ⟨k,c,e,z.sameBut g (cne y c e)⟩
  ·obtain⟨w',z⟩:=I.cell y c e;exact⟨w',z.sameBut g (cne y c e)⟩
  ·obtain⟨e,n,ne,nf,d⟩:=I.pin p hp;exact⟨(g.2 p.1 ne).trans e,n,ne,nf,d⟩
 ·have a5:X.fn x=true:=by
   rcases hf with z|z
   ·exact z
   ·rw[z]at B;cases B
  obtain⟨c,U⟩:=I.ok.has x (.inl B);obtain⟨w',z⟩:=I.cell x c U;refine wpAny_storeName_cell I.ok.kind B U z (λh' a6 g=>?_);obtain⟨oc,a9,b0⟩:=id z;refine h {s with heap:=h' } ⟨I.ok,I.os,I.bare,⟨λb o e n G Y=>?_,λb o e n G Y=>?_,I.base.free,λb o e Y=>?_,I.base.tups,I.base.frzs,I.base.tbls⟩,⟨m,hn.sameBut g (Ne.symm (cne x c U)),λj y v' J l e3=>?_⟩,λy C e=>?_,I.free,I.freeC,λp hp=>?_,L ⟨oc,a9,I.freeC x c U⟩ g,by simpa using I.len⟩ ⟨c,g,.inr U⟩
  ·exact(g.2 b (zzL (zzJ (zzD e) (I.ok.cab x c a5 U)))).trans (I.base.keep b o e n G Y)
  ·obtain⟨sl,J⟩:=I.base.slot b o e n G Y;exact⟨sl,(g.2 b (zzL (zzJ (zzD e) (I.ok.cab x c a5 U)))).trans J⟩
  ·obtain⟨o',J⟩:=I.base.there b o e Y;exact⟨o',(g.2 b (zzL (zzJ (zzD e) (I.ok.cab x c a5 U)))).trans J⟩
  ·by_cases T:j=i
   ·subst T;rw[hi]at J;cases J;rw[zws a4]at l;cases l;exact⟨u,r,.inr ⟨.inl B,c,U,a6⟩⟩
   ·rw[zzP (Ne.symm T)]at l;obtain⟨u',r',q⟩:=hl j y v' J l e3;refine⟨u',r',?_⟩;rcases q with q|⟨k,C,e,z'⟩
    ·exact .inl q
    ·refine .inr ⟨k,C,e,z'.sameBut g ?_⟩;rintro rfl;exact T (tZ hN J (I.ok.inj _ _ _ e U ▸ hi))
  ·by_cases a7:C=c
   ·subst a7;exact⟨_,a6⟩
   ·obtain⟨w2,z2⟩:=I.cell y C e;exact⟨w2,z2.sameBut g a7⟩
  ·obtain⟨e,n,ne,nf,d⟩:=I.pin p hp;refine⟨(g.2 p.1 ?_).trans e,n,ne,nf,d⟩;intro q;rw[q,a9]at e;have q':oc=p.2:=zzS e;exact d w' (by rw[←q'];exact b0)
theorem uc{x:Str}{Q:Unit->bx->Prop}(I:Inv X pins σ H s)(L:X.N.Nodup)(hi:X.N[i]?=some x)(Y:Loc X.env.scope x)(r:RelV v u)(h:∀s',Inv X pins (σ.set i (some v)) H s'->Q () s')(U:X.fn x=true∨X.env.scope.names.lookup x=some .local:=by first|exact .inl rfl|exact .inr rfl|assumption):wpAny M A (storeName X.env x u) Q E s :=
 oI I L hi Y r (λs' J _=>h s' J) U
theorem Inv.call'(I:Inv X pins σ H s)(g:s'.os=s.os)(u:Un (frs X.stack) ch H H' s.heap s'.heap)(d:HOk X.prog X.w H' s'.heap)(L:AllBare s'.gens)(J:∀b∈ch,(b∈X.ex∨X.s₀.heap.objs.size<=b)/\b≠X.env.locals/\(∀x c,X.env.cells.lookup x=some c->c≠b)/\∀p∈X.pn++pins,p.1≠b):Inv X pins σ H' s':=by obtain⟨h',g',d',t',l⟩:=s';have e:l=s.os:=g;subst e;exact I.call u d L J
end
noncomputable abbrev XK:=bb->ca bn->Hp->Prop
noncomputable abbrev St:=ab (ca V)
variable{σ:St}
noncomputable abbrev VK:=V->Hp->Prop
noncomputable abbrev TE:=St->Hp->VK->Prop
variable{te tl:TE}
noncomputable abbrev TT:=St->Hp->(Bool->Hp->Prop)->Prop
variable{tc:TT}
noncomputable abbrev TA:=St->Hp->(ab V->Hp->Prop)->Prop
structure Ends where
 nx:St->Hp->Prop
 rt:VK
 bk:St->Hp->Prop:=λ_ _=>False
 ct:St->Hp->Prop:=λ_ _=>False
noncomputable abbrev TS:=Ends->St->Hp->Prop
def EP(X:Cx)(pins:ab (bn×Obj))(σ:St)(Q:VK)(u:bb)(s':bx):Prop:=∃v H',Inv X pins σ H' s'/\RelV v u/\Q v H'
def TP(X:Cx)(pins:ab (bn×Obj))(σ:St)(Q:Bool->Hp->Prop)(b:Bool)(s':bx):Prop:=∃H',Inv X pins σ H' s'/\Q b H'
def AP(X:Cx)(pins:ab (bn×Obj))(σ:St)(Q:ab V->Hp->Prop)(us:ab bb)(s':bx):Prop:=∃vs H',Inv X pins σ H' s'/\Vals vs us/\Q vs H'
def SP(X:Cx)(pins:ab (bn×Obj))(D:Ends)(f:Flow)(s':bx):Prop :=
 match f with
 |.next=>∃c H',Inv X pins c H' s'/\D.nx c H'|.brk=>∃c H',Inv X pins c H' s'/\D.bk c H'|.cont=>∃c H',Inv X pins c H' s'/\D.ct c H'|.ret u=>∃v c H',Inv X pins c H' s'/\RelV v u/\D.rt v H'
def PE(X:Cx)(e:dy)(t:TE):Prop :=
 ∀(pins:ab (bn×Obj)) (s:bx) (σ:St) (H:Hp) (Q:VK),Inv X pins σ H s->t σ H Q->wpAny (model X.prog X.w) X.A (eval e X.env) (EP X pins σ Q) X.xe s
def PT(X:Cx)(e:dy)(t:TT):Prop :=
 ∀(pins:ab (bn×Obj)) (s:bx) (σ:St) (H:Hp) (Q:Bool->Hp->Prop),Inv X pins σ H s->t σ H Q->wpAny (model X.prog X.w) X.A (isTrue e X.env (eval e X.env)) (TP X pins σ Q) X.xe s
def PW(X:Cx)(e:dy)(t:TT):Prop :=
 ∀(whole:Sem bb) (pins:ab (bn×Obj)) (s:bx) (σ:St) (H:Hp) (Q:Bool->Hp->Prop),Inv X pins σ H s->t σ H Q->wpAny (model X.prog X.w) X.A (isTrue e X.env whole) (TP X pins σ Q) X.xe s
theorem PW.pt{X:Cx}(h:PW X e tc):PT X e tc:=h _
def PA(X:Cx)(es:ab dy)(t:TA):Prop :=
 ∀(pos:Pos) (pins:ab (bn×Obj)) (s:bx) (σ:St) (H:Hp) (Q:ab V->Hp->Prop),Inv X pins σ H s->t σ H Q->wpAny (model X.prog X.w) X.A (spliced (backTo pos (starEach es X.env))) (AP X pins σ Q) X.xe s
def PS(X:Cx)(st:Stmt)(t:TS):Prop :=
 ∀(pins:ab (bn×Obj)) (s:bx) (σ:St) (H:Hp) (D:Ends),Inv X pins σ H s->t D σ H->wpAny (model X.prog X.w) X.A (exec st X.env) (SP X pins D) X.xe s
def PSs(X:Cx)(st:ab Stmt)(t:TS):Prop :=
 ∀(pins:ab (bn×Obj)) (s:bx) (σ:St) (H:Hp) (D:Ends),Inv X pins σ H s->t D σ H->wpAny (model X.prog X.w) X.A (execs st X.env) (SP X pins D) X.xe s
theorem thn{t:Sem α}{Q J:α->bx->Prop}(h:wpAny M A t Q E s)(L:∀a s,Q a s->J a s):wpAny M A t J E s:=zxS h L λ_ _ x=>x
theorem thnE{t:Sem α}{P R S:α->bx->β->γ->Prop}{J:α->bx->Prop}(h:wpAny M A t (λa s=>∃x H,P a s x H/\R a s x H/\S a s x H) E s)(k:∀a s x H,P a s x H->R a s x H->S a s x H->J a s):wpAny M A t J E s:=thn h λ_ _ ⟨_,_,p,q,r⟩=>k _ _ _ _ p q r
theorem thnF{t:Sem α}{P S:α->bx->β->γ->Prop}{J:α->bx->Prop}(h:wpAny M A t (λa s=>∃x H,P a s x H/\S a s x H) E s)(k:∀a s x H,P a s x H->S a s x H->J a s):wpAny M A t J E s:=thn h λ_ _ ⟨_,_,p,q⟩=>k _ _ _ _ p q
theorem thnG{t:Sem α}{P S:α->bx->γ->Prop}{J:α->bx->Prop}(h:wpAny M A t (λa s=>∃H,P a s H/\S a s H) E s)(k:∀a s H,P a s H->S a s H->J a s):wpAny M A t J E s:=thn h λ_ _ ⟨_,p,q⟩=>k _ _ _ p q
section
variable{X:Cx}
def tVar(i:Nat):TE:=λσ H Q=>∃v,σ[i]?=some (some v)/\Q v H
def tC(v:V):TE:=λ_ H Q=>Q v H
theorem FK{x:Str}(d:X.N[i]?=some x)(z:Vis X.env.scope x)(hd:(x==("__debug__" : Str))=false:=by decide)(U:(x==("__classdict__" : Str))=false:=by decide):PE X (.Name x pos) (tVar i):=by
 intro pins s σ H Q I h;obtain⟨v,e,h⟩:=h;obtain⟨m,q,g⟩:=I.loc;obtain⟨u,r,l⟩:=g i x v d e z;have fin:EP X pins σ Q u s:=⟨v,H,I,r,h⟩;rcases l with ⟨L,n⟩|⟨L,c,Y,J⟩
 ·exact wpAny_Name (wpAny_loadName_local I.ok.kind L q n fin) hd
 ·rcases L with L|L
  ·exact wpAny_Name (wpAny_loadName_cell I.ok.kind L Y J fin) hd
  ·exact wpAny_Name (wpAny_loadName_free I.ok.kind L Y J fin U) hd
theorem bA{i j pos}:PE X (.Constant (.int i) j pos) (tC (.int i)):=λ_ _ _ H _ I h=>wpAny_Constant_int ⟨.int i,H,I.tok _,⟨_,rfl⟩,h⟩
theorem Je{b j pos}:PE X (.Constant (.bool b) j pos) (tC (.bl b)):=λ_ _ _ H _ I h=>Constant_bool ⟨.bl b,H,I,rfl,h⟩
theorem FL{j pos}:PE X (.Constant .none j pos) (tC .non):=λ_ _ _ H _ I h=>Constant_none ⟨.non,H,I,rfl,h⟩
theorem FM{x j pos}:PE X (.Constant (.str x) j pos) (tC (.str x)):=λ_ _ _ H _ I h=>Calls.Constant_str ⟨.str x,H,I.tok _,⟨_,rfl⟩,h⟩
def Gl(X:Cx)(x:Str):Prop:=X.env.kindOf x=some .globalImplicit
theorem mL{x:Str}(I:Inv X pl σ H s)(J:Gl X x)(c:X.mg x=some u)(h:Q u s)(hd:(x==("__debug__" : Str))=false:=by decide):wpAny (model X.prog X.w) X.A (eval (.Name x pos) X.env) Q E s :=
 Calls.Name_function_global I.ok.kind J (Calls.loadGlobal_global (by rw[I.ok.glob];exact I.mod.glob.keeps I.bk) c h) hd
theorem iE{x:Str}(I:Inv X pl σ H s)(J:Gl X x)(g:X.mg x=none)(L:bootBuiltins x=some u)(h:Q u s)(l:x ≠ "__name__":=by decide)(hd:(x==("__debug__" : Str))=false:=by decide):wpAny (model X.prog X.w) X.A (eval (.Name x pos) X.env) Q E s:=by obtain⟨mb,c,d⟩:=I.mod.blt;exact Calls.Name_function_global I.ok.kind J (Calls.loadGlobal_builtin (by rw[I.ok.glob];exact I.mod.glob.keeps I.bk) g (by rw[I.ok.blt];exact c.keeps I.bk) ((d x l).trans L) h) hd
theorem xu{x:Str}(J:Gl X x)(c:X.mg x=some u)(r:RelV v u)(hd:(x==("__debug__" : Str))=false:=by decide):PE X (.Name x pos) (tC v) :=
 λ_ _ _ H _ I h=>mL I J c ⟨v,H,I,r,h⟩ hd
theorem Di{x:Str}(J:Gl X x)(c:X.mg x=none)(L:bootBuiltins x=some u)(r:RelV v u)(d:x ≠ "__name__":=by decide)(hd:(x==("__debug__" : Str))=false:=by decide):PE X (.Name x pos) (tC v) :=
 λ_ _ _ H _ I h=>iE I J c L ⟨v,H,I,r,h⟩ d hd
variable{a:dy}{ta tb:TE}
def PC(X:Cx)(op:CmpOp)(a b:dy)(t:TE):Prop :=
 ∀(pins:ab (bn×Obj)) (s:bx) (σ:St) (H:Hp) (Q:VK),Inv X pins σ H s->t σ H Q ->
  wpAny (model X.prog X.w) X.A (eval a X.env) (λv J=>wpAny (model X.prog X.w) X.A (eval b X.env) (λu L=>wpAny (model X.prog X.w) X.A (compareOp op v u) (EP X pins σ Q) X.xe L) X.xe J) X.xe s
def tB(t:TE):TT:=λσ H Q=>t σ H λx d=>∃c,x=.bl c/\Q c d
theorem FN(h:PC X op a b te)(g:behindInMarks op b=false:=by first|exact nobehind _ (by decide) (by decide)|rfl):PT X (.Compare a [op] [b] pos) (tB te):=by intro pins s σ H Q I L;refine wpAny_isTrue_Compare1 (thn (h pins s σ H _ I L) λv s1 g=>thn g λu s2 m=>thn m λc s3 U=>?_) g;obtain⟨x,l,J,n,Y⟩:=U;obtain⟨d,rfl,q⟩:=Y;cases n;exact zyu ⟨l,J,q⟩
theorem FO(h:PE X e te)(he:∀whole,isTrue e X.env whole=(do let v ←whole;standAt e.pos;holding [v] (truthy v)):=by intro _;rfl):PT X e (tB te):=by intro pins s σ H Q I L;refine isTrue_plain (thn (h pins s σ H _ I L) λv s1 U=>?_) (he _);obtain⟨x,c,J,g,Y⟩:=U;obtain⟨d,rfl,q⟩:=Y;cases g;exact zyu ⟨c,J,q⟩
variable{tA tB':TT}{rest:ab dy}
def tAnd(t u:TT):TT:=λσ H Q=>t σ H λc d=>if c=true then u σ d Q else Q false d
def tOr(t u:TT):TT:=λσ H Q=>t σ H λc d=>if c=true then Q true d else u σ d Q
def tNot(t:TT):TT:=λσ H Q=>t σ H λc d=>Q (!c) d
theorem Dj(d:PT X a tA):PW X (.BoolOp .And [a] pos) tA:=by
 intro wh pins s σ H Q I h;refine isTrue_and (thn (d pins s σ H Q I h) λc s1 e=>?_);cases c with
 |true=>exact isTrue_and_nil e|false=>exact e
theorem Cb(d:PT X a tA):PW X (.BoolOp .Or [a] pos) tA:=by
 intro wh pins s σ H Q I h;refine isTrue_or (thn (d pins s σ H Q I h) λc s1 e=>?_);cases c with
 |false=>exact isTrue_or_nil e|true=>exact e
theorem FP(g:PT X a tA)(U:PW X (.BoolOp .And (b::rest) pos) tB'):PW X (.BoolOp .And (a::b::rest) pos) (tAnd tA tB'):=by
 intro Y pins s σ H Q I h;refine isTrue_and (thnG (g pins s σ H _ I h) λc l d J L=>?_);cases c with
 |true=>exact U Y pins l σ d Q J L|false=>exact⟨d,J,L⟩
theorem FQ(g:PT X a tA)(U:PW X (.BoolOp .Or (b::rest) pos) tB'):PW X (.BoolOp .Or (a::b::rest) pos) (tOr tA tB'):=by
 intro Y pins s σ H Q I h;refine isTrue_or (thnG (g pins s σ H _ I h) λc l d J L=>?_);cases c with
 |true=>exact⟨d,J,L⟩|false=>exact U Y pins l σ d Q J L
theorem FR(g:PT X a tA):PT X (.UnaryOp .Not a pos) (tNot tA):=by intro pins s σ H Q I h;exact isTrue_not (g pins s σ H (λc d=>Q (!c) d) I h)
def Jf(ta tb:TE):TE:=λσ H Q=>ta σ H λx d=>∃c,x=.bl c/\if c=true then tb σ d Q else Q (.bl false) d
def tOrV(ta tb:TE):TE:=λσ H Q=>ta σ H λx d=>∃c,x=.bl c/\if c=true then Q (.bl true) d else tb σ d Q
def Jg(ta:TE):TE:=λσ H Q=>ta σ H λx d=>∃c,x=.bl c/\Q (.bl (!c)) d
theorem FS{op}(h:PE X a te):PE X (.BoolOp op [a] pos) te:=λpins s σ H Q I J=>BoolOp_one (h pins s σ H Q I J)
theorem FT(g:PE X a ta)(U:PE X (.BoolOp .And (b::rest) pos) tb):PE X (.BoolOp .And (a::b::rest) pos) (Jf ta tb):=by
 intro pins s σ H Q I h;refine BoolOp_and (thn (g pins s σ H _ I h) λv m Y=>?_);obtain⟨x,d,L,l,J⟩:=Y;obtain⟨c,rfl,J⟩:=J;cases l;refine zyu ?_;cases c with
 |true=>exact U pins m σ d Q L J|false=>exact⟨.bl false,d,L,rfl,J⟩
theorem Jh(g:PE X a ta)(U:PE X (.BoolOp .Or (b::rest) pos) tb):PE X (.BoolOp .Or (a::b::rest) pos) (tOrV ta tb):=by
 intro pins s σ H Q I h;refine BoolOp_or (thn (g pins s σ H _ I h) λv m Y=>?_);obtain⟨x,d,L,l,J⟩:=Y;obtain⟨c,rfl,J⟩:=J;cases l;refine zyu ?_;cases c with
 |false=>exact U pins m σ d Q L J|true=>exact⟨.bl true,d,L,rfl,J⟩
theorem FU(g:PE X a ta):PE X (.UnaryOp .Not a pos) (Jg ta):=by intro pins s σ H Q I h;refine UnaryOp_ (thn (g pins s σ H _ I h) λv s1 U=>?_);obtain⟨x,d,L,Y,J⟩:=U;obtain⟨c,rfl,J⟩:=J;cases Y;exact not_of (zyu ⟨.bl (!c),d,L,rfl,J⟩)
def tIf(t:TT)(ta tb:TE):TE:=λσ H Q=>t σ H λc d=>if c=true then ta σ d Q else tb σ d Q
theorem An(Y:PT X e tA)(l:PE X a ta)(U:PE X b tb):PE X (.IfExp e a b pos) (tIf tA ta tb):=by
 intro pins s σ H Q I h;refine wpAny_IfExp (thnG (Y pins s σ H _ I h) λd g c J L=>?_);cases d with
 |true=>exact l pins g σ c Q J L|false=>exact U pins g σ c Q J L
end
def SqL(K:zwW)(H:Hp)(a:bn)(xs:ab V):Prop :=
 Rd H a (.lst xs) ∨
  ∃(o:Obj) (c:Array bb) (n:Nat),K.lookup a=some o/\o.cls=.type "list" /\ o.dict=none/\o.data=.seq c n/\c.size<=sizeLine/\Vals xs c.toList
def SqT(K:zwW)(H:Hp)(a:bn)(xs:ab V):Prop :=
 Rd H a (.tup xs) ∨
  ∃(o:Obj) (c:Array bb) (n:Nat),K.lookup a=some o/\o.cls=.type "tuple" /\ o.data=.seq c n/\c.size<=sizeLine/\Vals xs c.toList
noncomputable def absV:bb->ca V
 |.none=>some .non|.bool b=>some (.bl b)|.int i _=>some (.int i)|.str x _=>some (.str x)|.bytes b _=>some (.byt b)|.float b _=>some (.flt b)|.ref a=>some (.ref a)|.type n=>some (.ty n)|_=>none
theorem RelV.abs{x:V}(r:RelV x u):absV u=some x:=by
 cases x with
 |non=>cases r;rfl
 |bl _=>cases r;rfl
 |int _=>obtain⟨t,rfl⟩:=r;rfl
 |str _=>obtain⟨t,rfl⟩:=r;rfl
 |byt _=>obtain⟨t,rfl⟩:=r;rfl
 |flt _=>obtain⟨t,rfl⟩:=r;rfl
 |ref _=>cases r;rfl
 |ty _=>cases r;rfl
theorem RelV.inj{x:V}(r:RelV x u)(q:RelV y u):x=y:=zzS (r.abs.symm.trans q.abs)
theorem Vals.inj:∀{xs ys:ab V} {us:ab bb},Vals xs us->Vals ys us->xs=ys:=by
 intro xs ys us h k
 induction h generalizing ys with
 |nil=>cases k;rfl
 |cons r t J=>cases k with|cons c d=>rw[r.inj c,J d]
section
variable{X:Cx}{σ:St}{H:Hp}{xs ys:ab V}
theorem SqL.of{K:zwW}(h:H a=some (.lst xs)):SqL K H a xs:=.inl (.inl h)
theorem SqT.of{K:zwW}(h:H a=some (.tup xs)):SqT K H a xs:=.inl (.inl h)
theorem Inv.list(I:Inv X pins σ H s)(h:SqL X.K H a xs):∃c:ab bb,Vals xs c/\PlainL s.heap a c.toArray/\xs.length<=sizeLine:=by
 rcases h with h|⟨o,c,n,L,J,hd,d,hz,r⟩
 ·obtain⟨z,c,n,r,e⟩:=h.ok I.hok;exact⟨c,r,⟨_,n,e,rfl,rfl,rfl⟩,z⟩
 ·refine⟨c.toList,r,⟨o,n,I.kIn a o L,J,hd,by simpa using d⟩,?_⟩;have e:=r.length;simp only[zyh]at e;lia
theorem Inv.tuple(I:Inv X pins σ H s)(h:SqT X.K H a xs):∃c:ab bb,Vals xs c/\IsTup s.heap a c.toArray/\xs.length<=sizeLine:=by
 rcases h with h|⟨o,c,n,L,J,d,hz,r⟩
 ·obtain⟨z,c,r,p⟩:=h.ok I.hok;exact⟨c,r,p,z⟩
 ·refine⟨c.toList,r,⟨o,I.kIn a o L,J,n,by simpa using d⟩,?_⟩;have e:=r.length;simp only[zyh]at e;lia
theorem Inv.list_inj(I:Inv X pins σ H s)(h:SqL X.K H a xs)(h':SqL X.K H a ys):xs=ys:=by
 obtain⟨c,r,⟨o,n,e,_,_,d⟩,_⟩:=I.list h;obtain⟨J,g,⟨o',n',U,_,_,L⟩,_⟩:=I.list h';rw[e]at U;cases U;rw[d]at L;injection L with Y _
 have:c=J:=by simpa using congrArg Array.toList Y
 subst this;exact r.inj g
theorem Inv.tuple_inj(I:Inv X pins σ H s)(h:SqT X.K H a xs)(h':SqT X.K H a ys):xs=ys:=by
 obtain⟨c,r,⟨o,e,_,n,d⟩,_⟩:=I.tuple h;obtain⟨J,g,⟨o',U,_,n',L⟩,_⟩:=I.tuple h';rw[e]at U;cases U;rw[d]at L;injection L with Y _
 have:c=J:=by simpa using congrArg Array.toList Y
 subst this;exact r.inj g
end
noncomputable abbrev Cx.wish(X:Cx)(E:bb->bx->Prop):Cx:={X with xe:=E}
noncomputable abbrev Cx.nox(X:Cx):Cx:=X.wish λ_ _=>False
theorem Cx.Ok.wish{X:Cx}(ok:X.Ok)(E:bb->bx->Prop):(X.wish E).Ok :=
 ⟨ok.mod,ok.kind,ok.glob,ok.blt,ok.above,ok.inj,ok.has,ok.cab,ok.hd,ok.frames,ok.stk,ok.exf,ok.bs,ok.bsz,ok.noex,ok.exfs,ok.funs,ok.frf⟩
theorem Cx.Ok.unwish{X:Cx}(ok:(X.wish E).Ok):X.Ok :=
 ⟨ok.mod,ok.kind,ok.glob,ok.blt,ok.above,ok.inj,ok.has,ok.cab,ok.hd,ok.frames,ok.stk,ok.exf,ok.bs,ok.bsz,ok.noex,ok.exfs,ok.funs,ok.frf⟩
section
variable{X:Cx}{σ:St}{H:Hp}
theorem Inv.wish(I:Inv X pins σ H s)(E:bb->bx->Prop):Inv (X.wish E) pins σ H s:=⟨I.ok.wish E,I.os,I.bare,I.base,I.loc,I.cell,I.free,I.freeC,I.pin,I.hok,I.len⟩
theorem Inv.unwish(I:Inv (X.wish E) pins σ H s):Inv X pins σ H s:=⟨I.ok.unwish,I.os,I.bare,I.base,I.loc,I.cell,I.free,I.freeC,I.pin,I.hok,I.len⟩
theorem SP.unwish{D:Ends}{f:Flow}{s':bx}(h:SP (X.wish E) pins D f s'):SP X pins D f s':=by
 cases f with
 |next=>obtain⟨c,H',I,q⟩:=h;exact⟨c,H',I.unwish,q⟩
 |brk=>obtain⟨c,H',I,q⟩:=h;exact⟨c,H',I.unwish,q⟩
 |cont=>obtain⟨c,H',I,q⟩:=h;exact⟨c,H',I.unwish,q⟩
 |ret u=>obtain⟨v,c,H',I,r,q⟩:=h;exact⟨v,c,H',I.unwish,r,q⟩
theorem PSs.nox{st:ab Stmt}{t:TS}(h:PSs X.nox st t):PSs X st t:=λpins s σ H D I J =>
 zxS (h pins s σ H D (I.wish _) J) (λ_ _ q=>q.unwish) λ_ _ z=>False.elim z
end
section
variable{X:Cx}{st:Stmt}{rest:ab Stmt}{t u:TS}{te:TE}
def Ji:TS:=λD σ H=>D.nx σ H
def tSeq(t u:TS):TS:=λD σ H=>t {D with nx:=u D} σ H
theorem mM:PSs X [] Ji:=λ_ _ σ H _ I h=>zwD ⟨σ,H,I,h⟩
theorem aU(d:PS X st t)(g:PSs X rest u):PSs X (st::rest) (tSeq t u):=by
 intro pins s σ H D I h;refine wpAny_execs_cons (thn (d pins s σ H {D with nx:=u D} I h) λf l q=>?_);cases f with
 |next =>
  obtain⟨c,H',J,q⟩:=q;exact g pins l c H' D J q
 |ret v=>exact q|brk=>exact q|cont=>exact q
theorem dA(c:PS X st t):PSs X [st] t:=by
 intro pins s σ H D I h;refine wpAny_execs_cons (thn (c pins s σ H D I h) λf s1 q=>?_);cases f with
 |next=>exact zwD q
 |ret v=>exact q|brk=>exact q|cont=>exact q
theorem Inv.quiet(I:Inv X pl σ H s):interactive X.env=false:=by simp[interactive,I.ok.kind]
def Jj(te:TE):TS:=λD σ H=>te σ H λ_ c=>D.nx σ c
theorem mO(he:PE X e te)(hs:swapsWith e none pos.line X.env=pure false:=by rfl):PS X (.Expr e pos) (Jj te):=by intro pins s σ H D I h;exact wpAny_Expr_any (thnE (he pins s σ H _ I h) λv s1 x c J r1 L=>⟨σ,c,J,L⟩) I.quiet hs
def tRet(te:TE):TS:=λD σ H=>te σ H D.rt
theorem jv(he:PE X e te):PS X (.Return (some e) pos) (tRet te):=by intro pins s σ H D I h;exact wpAny_Return_some (thnE (he pins s σ H _ I h) λv s1 x c J U L=>⟨x,σ,c,J,U,L⟩)
def tIfS(c:TT)(t u:TS):TS:=λD σ H=>c σ H λb d=>if b=true then t D σ d else u D σ d
theorem Ao{a b:ab Stmt}(Y:PT X e tc)(l:PSs X a t)(U:PSs X b u):PS X (.If e a b pos) (tIfS tc t u):=by
 intro pins s σ H D I h;refine wpAny_If (thnG (Y pins s σ H _ I h) λd g c J L=>?_);cases d with
 |true=>exact l pins g σ c D J L|false=>exact U pins g σ c D J L
def FV:TS:=λ_ _ _=>False
theorem Ap:PS X st FV:=λ_ _ _ _ _ _ h=>h.elim
end
noncomputable abbrev TG:=V->St->Hp->(St->Hp->Prop)->Prop
variable{g:TG}
noncomputable abbrev TGs:=ab V->St->Hp->(St->Hp->Prop)->Prop
def PG(X:Cx)(target:dy)(t:TG):Prop :=
 ∀(pins:ab (bn×Obj)) (s:bx) (σ:St) (H:Hp) (v:V) (u:bb) (Q:St->Hp->Prop),Inv X pins σ H s->RelV v u->t v σ H Q ->
  wpAny (model X.prog X.w) X.A (assign target X.env u) (λ_ s'=>∃c H',Inv X pins c H' s'/\Q c H') X.xe s
def PGs(X:Cx)(J:ab dy)(t:TGs):Prop :=
 ∀(pins:ab (bn×Obj)) (s:bx) (σ:St) (H:Hp) (vs:ab V) (us:ab bb) (Q:St->Hp->Prop),Inv X pins σ H s->Vals vs us->t vs σ H Q ->
  wpAny (model X.prog X.w) X.A (assignInOrder ((assignEach J X.env).map (·.2)) us) (λ_ s'=>∃c H',Inv X pins c H' s'/\Q c H') X.xe s
noncomputable abbrev TSet:=V->V->V->Hp->(Hp->Prop)->Prop
def PSet(X:Cx)(t:TSet):Prop :=
 ∀(pins:ab (bn×Obj)) (s:bx) (σ:St) (H:Hp) (o i v:V) (ov iv u:bb) (Q:Hp->Prop),Inv X pins σ H s->RelV o ov->RelV i iv->RelV v u->t o i v H Q ->
  wpAny (model X.prog X.w) X.A (setItem ov iv u) (λ_ s'=>∃H',Inv X pins σ H' s'/\Q H') X.xe s
section
variable{X:Cx}
def gName(i:Nat):TG:=λv σ H Q=>Q (σ.set i (some v)) H
theorem mP{x:Str}(L:X.N.Nodup)(hi:X.N[i]?=some x)(Y:Loc X.env.scope x)(U:X.fn x=true∨X.env.scope.names.lookup x=some .local:=by first|exact .inl rfl|exact .inr rfl|assumption):PG X (.Name x pos) (gName i):=by intro pins s σ H v u Q I r h;exact wpAny_assign_Name (uc I L hi Y r (λs' J=>⟨_,H,J,h⟩) U)
def gNil:TGs:=λvs σ H Q=>vs=[]/\Q σ H
def Jk(t:TG)(u:TGs):TGs:=λvs σ H Q=>∃v r,vs=v::r/\t v σ H λc H'=>u r c H' Q
theorem xv:PGs X [] gNil:=by intro pins s σ H vs us Q I r h;obtain⟨e,h⟩:=h;subst e;exact assignInOrder_nil ⟨σ,H,I,h⟩
theorem jd{e:dy}{es:ab dy}{u:TGs}(d:PG X e g)(l:PGs X es u)(hs:(assignEach (e::es) X.env).map (·.2)=assign e X.env::(assignEach es X.env).map (·.2):=by rfl):PGs X (e::es) (Jk g u):=by
 intro pins s σ H vs us Q I r h;obtain⟨v,vr,U,h⟩:=h;subst U;cases r with
 |cons r m =>
  rw[hs];refine assignInOrder_cons (thnF (d pins s σ H _ _ _ I r h) λ_ n J c L Y=>?_);exact l pins n J c _ _ Q L m Y
def gTup(K:zwW)(n:Nat)(t:TGs):TG:=λv σ H Q=>∃a c,v=.ref a/\SqT K H a c/\c.length=n/\t c σ H Q
theorem FW{es:ab dy}{t:TGs}{n:Nat}(d:X.calm=true)(h:PGs X es t)(m:(assignEach es X.env).length=n:=by rfl)(J:(assignEach es X.env).findIdx? (·.1)=none:=by rfl):PG X (.Tuple es k pos) (gTup X.K n t):=by intro pins s σ H v u Q I r L;obtain⟨a,G,c,q,l,L⟩:=L;subst c;cases r;obtain⟨its,U,z,hz⟩:=I.tuple q;refine assign_Tuple_tuple (I.ok.hd d) z (by simp[m,←l,U.length]) J λh' B=>?_;have Y:Inv X pins σ H {s with heap:=h' }:=I.kept λb o e=>B b o (zzL (zzD e)) e;exact h pins _ σ H G _ Q Y (by simpa using U) L
def gSub(to J:TE)(t:TSet):TG:=λv σ H Q=>to σ H λo c=>J σ c λi d=>t o i v d λl=>Q σ l
theorem ud{o i:dy}{t:TSet}(q:PE X o te)(hi:PE X i tl)(hs:PSet X t)(ha:∀v,assign (.Subscript o i pos) X.env v=(do
   let J ←holding [v] (eval o X.env)
   let L ←holding [v,J] (eval i X.env)
   standAt pos
   holding [v,J,L] (setItem J L v)
   release [v,J,L] []):=by intro _;rfl):PG X (.Subscript o i pos) (gSub te tl t):=by
 intro pins s σ H v u Q I r h;refine zzd (zyz (thn (q pins s σ H _ I h) λJ b U=>?_));obtain⟨x,c,Y,T,z⟩:=U;refine zzd (zyz (thn (hi pins b σ c _ Y z) λL e U=>?_));obtain⟨y,d,m,a,B⟩:=U;refine zzd (zwV (zzd (zyz (thnG (hs pins e σ d x y v J L u _ m T a r B) λ_ s3 l n G=>?_))));exact wpAny_release ⟨σ,l,n,G⟩
def tAsg(te:TE)(g:TG):TS:=λD σ H=>te σ H λx c=>g x σ c D.nx
theorem lK(he:PE X e te)(L:PG X tg g)(hs:swapsWithSole [tg] e pos.line X.env=pure false:=by rfl)(U:swappedStores [tg] e X.env=pure none:=by rfl)(d:(assignEach [tg] X.env).map (·.2)=[assign tg X.env]:=by rfl):PS X (.Assign [tg] e pos) (tAsg te g):=by intro pins s σ H D I h;refine wpAny_Assign_stores (thn (he pins s σ H _ I h) λv n Y=>?_) hs U;obtain⟨x,c,J,m,l⟩:=Y;rw[d];exact thn (L pins n σ c x v _ J m l) λ_ s2 q=>q
theorem fL{x:Str}(U:X.N.Nodup)(hi:X.N[i]?=some x)(d:Loc X.env.scope x)(he:PE X e te)(hs:swapsWith e (some (.Name x p)) pos.line X.env=pure false:=by rfl)(Y:X.fn x=true∨X.env.scope.names.lookup x=some .local:=by first|exact .inl rfl|exact .inr rfl|assumption) :
  PS X (.Assign [.Name x p] e pos) (tAsg te (gName i)):=by
 intro pins s σ H D I h;refine wpAny_Assign_Name (thn (he pins s σ H _ I h) λv s1 l=>?_) hs;obtain⟨y,c,J,n,m⟩:=l;exact uc J U hi d n (λs2 L=>⟨_,c,L,m⟩) Y
def FX(c:TT)(tb:TS):TS:=λD σ H=>∃W:Nat->St->Hp->Prop,(∃m,W m σ H)/\∀m σ H,W m σ H ->
 c σ H λb l=>if b=true then ∃N:St->Hp->Prop,(∀d H',N d H'->∃J,J<m/\W J d H')/\tb {D with nx:=N,ct:=N,bk:=D.nx} σ l else D.nx σ l
theorem Aq{body:ab Stmt}{j:TS}(i:PassesOwn (model X.prog X.w) X.A X.env X.xe)(p:PT X e tc)(o:PSs X body j):PS X (.While e body [] pos) (FX tc j):=by
 intro pins s σ H D I h;obtain⟨W,⟨u,C⟩,d⟩:=h;refine wpAny_While (codeAny_whileLoop (λn s'=>∃l H',Inv X pins l H' s'/\W n l H') ?_ u ⟨σ,H,I,C⟩);rintro n x ⟨L,G,k,E⟩;refine zxe i (thnG (p pins x L G _ k (d n L G E)) λb y T a U=>?_);cases b with
 |true =>
  obtain⟨N,g,U⟩:=U;refine zxe i (thn (o pins y L T _ a U) λf s3 Y=>?_);cases f with
  |next =>
   obtain⟨J,c,m,z⟩:=Y;obtain⟨r,q,B⟩:=g J c z;exact⟨r,q,J,c,m,B⟩
  |cont =>
   obtain⟨J,c,m,z⟩:=Y;obtain⟨r,q,B⟩:=g J c z;exact⟨r,q,J,c,m,B⟩
  |brk=>exact Y|ret v=>exact Y
 |false =>
  exact zwD ⟨L,T,a,U⟩
end
structure It where
 go:Nat->Hp->Prop
 yld:Nat->Hp->V->Hp->Prop
 stop:Nat->Hp->Prop
def FpOk(X:Cx)(pins:ab (bn×Obj))(H:Hp)(b:bn):Prop :=
 H b=none/\b≠X.env.locals/\b∉X.fs/\(b∈X.ex∨X.s₀.heap.objs.size<=b)/\(∀x c,X.env.cells.lookup x=some c->c≠b)/\∀p∈X.pn++pins,p.1≠b
theorem Inv.fpOk{X:Cx}{b:bn}(I:Inv X pl σ H s)(J:s.heap.objs.size<=b)(d:H' b=none):FpOk X pl H' b:=by
 refine⟨d,Nat.ne_of_gt (zzJ I.lt J),I.nofs J,.inr (zzl I.sz J),λx c e z=>?_,λp L z=>?_⟩
 ·obtain⟨v,q⟩:=I.cell x c e;exact absurd (zzJ q.lt (by rw[z];exact J)) (zyy _)
 ·exact absurd (zzJ (zzD (I.pin p L).1) (by rw[z];exact J)) (zyy _)
structure Turn(P:Program)(w:World)(K:zwW)(tg:Expr)(J:It)(fp:List Addr)(it:Addr)(tn:Nat->Heap->Prop):Prop where
 mem:it∈fp
 obj:∀i h,tn i h->∀b∈fp,∃o,h.get? b=some o/\∀v,o.data ≠ .cell v
 keep:∀i h h',tn i h->(∀b∈fp,∀o,h.get? b=some o->h'.get? b=some o)->tn i h'
 item:∀(X:Cx),X.prog=P->X.w=w->X.K=K->X.calm=true->∀(i:Nat) (pins:List (Addr×Obj)) (s:Shared) (σ:St) (H:Hp) (E:Value->Shared->Prop),Inv X pins σ H s->(∀b∈fp,FpOk X pins H b)->tn i s.heap->J.go i H ->
  wpAny (model P w) X.A (pyNext (.ref it)) (λr s1=>∃u,r=some u /\
   wpAny (model P w) X.A (letOwnedTupleGo tg (.ref it) u) (λ_ s2=>∃x H',Inv X pins σ H' s2/\RelV x u/\J.yld i H x H'/\tn (i+1) s2.heap/\∀b∈fp,H' b=none) E s1) E s
 done:∀(X:Cx),X.prog=P->X.w=w->X.K=K->X.calm=true->∀(i:Nat) (pins:List (Addr×Obj)) (s:Shared) (σ:St) (H:Hp) (E:Value->Shared->Prop),Inv X pins σ H s->(∀b∈fp,FpOk X pins H b)->tn i s.heap->J.stop i H ->
  wpAny (model P w) X.A (pyNext (.ref it)) (λr s1=>r=none/\Inv X pins σ H s1) E s
 self:∀(A:Around) (i:Nat) (s:Shared) (Q:Value->Shared->Prop) (E:Value->Shared->Prop),tn i s.heap->Q (.ref it) s->wpAny (model P w) A (pyIter (.ref it)) Q E s
noncomputable abbrev TI:=St->Hp->(It->Hp->Prop)->Prop
def PIE(X:Cx)(pins:ab (bn×Obj))(σ:St)(tg:dy)(R:It->Hp->Prop)(itv:bb)(s2:bx):Prop :=
 ∃(d:bn) (c:ab bn) (l:Nat->cm->Prop) (J:It) (H':Hp),itv=.ref d/\Inv X pins σ H' s2/\Turn X.prog X.w X.K tg J c d l/\l 0 s2.heap/\(∀b∈c,FpOk X pins H' b)/\R J H'
def PI(X:Cx)(tg iter:dy)(wi:TI):Prop :=
 ∀(pins:ab (bn×Obj)) (s:bx) (σ:St) (H:Hp) (R:It->Hp->Prop),Inv X pins σ H s->wi σ H R ->
  wpAny (model X.prog X.w) X.A (eval iter X.env) (λv c=>wpAny (model X.prog X.w) X.A (pyIter v) (PIE X pins σ tg R) X.xe c) X.xe s
theorem xw{n:String}{vs:Array bb}{Q:Unit->bx->Prop}(d:s.heap.get? a=some o)(L:o.cls=.type n)(hd:o.data=.fields vs)(c:["enumerate","zip","dict_itemiterator","dict_reverseitemiterator","odict_iterator","itertools.zip_longest","itertools.pairwise"].contains n=false)(J:Q () s):wpAny M A (letOwnedTupleGo tg (.ref a) u) Q E s:=by
 cases tg<;>first
  |exact zzt J
  | (cases u<;>first
    |exact zzt J
    | (refine zzd (wpAny_load d ?_)
       rw[L,hd];show wpAny M A (if (["enumerate","zip","dict_itemiterator","dict_reverseitemiterator","odict_iterator","itertools.zip_longest","itertools.pairwise"].contains n && vs[0]?==some (rawInt _))=true then _ else _) Q E s;rw[zzh (by intro h;rw[c,zxH]at h;cases h)];exact zzt J))
noncomputable def Itl(K:zwW)(a:bn):It :=
 ⟨λi H=>∃c x,SqL K H a c/\c[i]?=some x,λi H x H'=>H'=H/\∀c,SqL K H a c->c[i]?=some x,λi H=>∃c,SqL K H a c/\c.length<=i⟩
noncomputable def Itt(K:zwW)(a:bn):It :=
 ⟨λi H=>∃c x,SqT K H a c/\c[i]?=some x,λi H x H'=>H'=H/\∀c,SqT K H a c->c[i]?=some x,λi H=>∃c,SqT K H a c/\c.length<=i⟩
noncomputable def Itr(lo:Int)(n:Nat):It:=⟨λi _=>i<n,λi H x H'=>H'=H/\x=.int (lo+i),λi _=>n<=i⟩
theorem oJ{P:ef}{K:zwW}(a it:bn):Turn P w K tg (Itl K a) [it] it (λi h=>h.IsListIter it a i) where
 mem:=by simp
 obj:=λi h st b J=>by
  have e:b=it:=by simpa using J
  subst e;obtain⟨o,e,c,d⟩:=st;exact⟨o,e,λv z=>by rw[d]at z;cases z⟩
 keep:=λi h h' st k=>st.at λo e=>k it (by simp) o e
 item:=by intro X B T r A i pins s σ H E I U st G;subst B T r;obtain⟨xs,x,Y,g⟩:=G;obtain⟨j,y,p,hz⟩:=I.list Y;obtain⟨u,N,ru⟩:=y.get g;obtain⟨l,f1,f2,m,n,q⟩:=U it (by simp);refine wpAny_pyNext_list_item st p.isList (by simpa using N) λh' L sb=>?_;have C:Inv X pins σ H {s with heap:=h' }:=I.turned (λb o J e=>(sb.2 b J).trans e) l f1 m n q;obtain⟨o,e,c,d⟩:=id L;exact⟨u,rfl,xw e c d (by decide) ⟨x,H,C,ru,⟨rfl,λys Q=>by rw[I.list_inj Q Y];exact g⟩,L,λb J=>(U b J).1⟩⟩
 done:=by intro X B T r A i pins s σ H E I U st G;subst B T r;obtain⟨xs,Y,g⟩:=G;obtain⟨j,y,p,hz⟩:=I.list Y;obtain⟨l,f1,f2,m,n,q⟩:=U it (by simp);have hl:=y.length;exact wpAny_pyNext_list_end (I.ok.hd A) st p.isList (by simp;lia) λh' M=>⟨rfl,I.turned (λb o J e=>M b o J e) l f1 m n q⟩
 self:=λ_ _ _ _ _ st h=>wpAny_pyIter_listiter st h
theorem lL{P:ef}{K:zwW}(a it:bn):Turn P w K tg (Itt K a) [it] it (λi h=>h.IsTupleIter it a i) where
 mem:=by simp
 obj:=λi h st b J=>by
  have e:b=it:=by simpa using J
  subst e;obtain⟨o,e,c,d⟩:=st;exact⟨o,e,λv z=>by rw[d]at z;cases z⟩
 keep:=λi h h' st k=>st.at λo e=>k it (by simp) o e
 item:=by intro X G g B A i pins s σ H E I U st T;subst G g B;obtain⟨xs,x,Y,j⟩:=T;obtain⟨l,y,p,hz⟩:=I.tuple Y;obtain⟨u,N,ru⟩:=y.get j;obtain⟨m,f1,f2,n,q,r⟩:=U it (by simp);refine wpAny_pyNext_tuple_item st (show s.heap.IsTuple a l.toArray from p) (by simpa using N) λh' L sb=>?_;have C:Inv X pins σ H {s with heap:=h' }:=I.turned (λb o J e=>(sb.2 b J).trans e) m f1 n q r;obtain⟨o,e,c,d⟩:=id L;exact⟨u,rfl,xw e c d (by decide) ⟨x,H,C,ru,⟨rfl,λys Q=>by rw[I.tuple_inj Q Y];exact j⟩,L,λb J=>(U b J).1⟩⟩
 done:=by intro X G g B A i pins s σ H E I U st T;subst G g B;obtain⟨xs,Y,j⟩:=T;obtain⟨l,y,p,hz⟩:=I.tuple Y;obtain⟨m,f1,f2,n,q,r⟩:=U it (by simp);have hl:=y.length;exact wpAny_pyNext_tuple_end (I.ok.hd A) st (show s.heap.IsTuple a l.toArray from p) (by simp;lia) λh' M=>⟨rfl,I.turned (λb o J e=>M b o J e) m f1 n q r⟩
 self:=λ_ _ _ _ _ st h=>wpAny_pyIter_tupleiter st h
theorem vN{P:ef}{K:zwW}(it:bn)(lo:Int)(n:Nat):Turn P w K tg (Itr lo n) [it] it (λi h=>IsRangeIter h it (lo+(i:Nat)*1) ((n:Int) - (i:Nat)) 1) where
 mem:=by simp
 obj:=λi h st b J=>by
  have e:b=it:=by simpa using J
  subst e;exact⟨_,st,λv z=>by have u:Data.fields _=Data.cell v:=z;cases u⟩
 keep:=λi h h' st k=>k it (by simp) _ st
 item:=by intro X B G r m i pins s σ H E I U st q;subst B G r;obtain⟨Y,f1,f2,c,d,l⟩:=U it (by simp);have W:=Walks.range (prog:=X.prog) (w:=X.w) (I.ok.hd m) it lo 1 n;refine W.item i s _ _ q st λv h' p g L j=>?_;obtain⟨t,rfl⟩:=g;have T:Inv X pins σ H {s with heap:=h',toks:=p}:=I.turned (λb o J e=>j b o (by simpa using J) e) Y f1 c d l;refine⟨_,rfl,xw L rfl rfl (by decide) ⟨.int (lo+i),H,T,⟨t,?_⟩,⟨rfl,rfl⟩,L,λb J=>(U b J).1⟩⟩;rw[Int.mul_one]
 done:=by intro X B G r m i pins s σ H E I U st q;obtain⟨Y,f1,f2,c,d,l⟩:=U it (by simp);exact wpAny_pyNext_range_end (I.ok.hd m) st (by have:n<=i:=q;lia) λh' a=>⟨rfl,I.turned (λb o J e=>a b o J e) Y f1 c d l⟩
 self:=λ_ _ _ _ _ st h=>wpAny_pyIter_rangeiter st h
section
variable{X:Cx}{tg:dy}
def Jl(K:zwW)(tl:TE):TI:=λσ H R=>tl σ H λx c=>∃a,x=.ref a/\(∃d,SqL K c a d)/\R (Itl K a) c
def iTup(K:zwW)(tl:TE):TI:=λσ H R=>tl σ H λx c=>∃a,x=.ref a/\(∃d,SqT K c a d)/\R (Itt K a) c
theorem Dk{l:dy}(m:PE X l tl):PI X tg l (Jl X.K tl):=by
 intro pins s σ H R I h;refine thn (m pins s σ H _ I h) λv c Y=>?_;obtain⟨x,d,J,r,n⟩:=Y;obtain⟨a,e,⟨xs,U⟩,q⟩:=n;subst e;cases r;obtain⟨its,rv,p,hz⟩:=J.list U;refine zxD p.isList ?_;refine⟨c.heap.objs.size,[c.heap.objs.size],_,_,d,rfl,J.kept λb o e=>zzm _ e,oJ a _,⟨_,zzE _ rfl,rfl,rfl⟩,λb L=>?_,q⟩;have e:b=c.heap.objs.size:=by simpa using L
 subst e;exact J.fpOk (zzq _) (J.hok.fresh (zzq _))
theorem FY{l:dy}(n:PE X l tl):PI X tg l (iTup X.K tl):=by
 intro pins s σ H R I h;refine thn (n pins s σ H _ I h) λv c Y=>?_;obtain⟨x,m,J,z,r⟩:=Y;obtain⟨a,e,⟨xs,U⟩,q⟩:=r;subst e;cases z;obtain⟨d,rv,p,hz⟩:=J.tuple U;refine zxc (show c.heap.IsTuple a d.toArray from p) ?_;refine⟨c.heap.objs.size,[c.heap.objs.size],_,_,m,rfl,J.kept λb o e=>zzm _ e,lL a _,⟨_,zzE _ rfl,rfl,rfl⟩,λb L=>?_,q⟩;have e:b=c.heap.objs.size:=by simpa using L
 subst e;exact J.fpOk (zzq _) (J.hok.fresh (zzq _))
theorem uf{s:bx}{R:It->Hp->Prop}{lo:Int}{t u v:Tok}(I:Inv X pl σ H s)(c : -(2^62)<=lo)(d:lo<2^62)(l : -(2^62)<=hi)(Y:hi<2^62)(q:R (Itr lo (hi - lo).toNat) H):wpAny (model X.prog X.w) X.A (pyIter (.ref s.heap.objs.size)) (PIE X pl σ tg R) E {s with heap:=s.heap.push {cls:=.type "range",data:=.fields #[.int lo t,.int hi u,.int 1 v]},toks:=i}:=by
 refine wpAny_pyIter_range (IsRange.new ..) (small_one c d l Y) ?_;have J:Inv X pl σ H {s with heap:=s.heap.push {cls:=.type "range",data:=.fields #[.int lo t,.int hi u,.int 1 v]},toks:=i}:=I.kept λb o e=>zzm _ e;refine⟨(s.heap.push {cls:=.type "range",data:=.fields #[.int lo t,.int hi u,.int 1 v]}).objs.size,[(s.heap.push {cls:=.type "range",data:=.fields #[.int lo t,.int hi u,.int 1 v]}).objs.size],_,_,H,rfl,
  J.kept λb o e=>zzm _ e,vN _ lo (hi - lo).toNat,?_,λb m=>?_,q⟩
 ·have L:lo+((0:Nat):Int)*1=lo:=by simp
  have U:(((hi - lo).toNat:Nat):Int) - ((0:Nat):Int)=Builtin.Range.rangeSize lo hi 1:=by rw[rangeSize_one];split<;>lia
  rw[L,U];exact zzE _ rfl
 ·have e:b=(s.heap.push {cls:=.type "range",data:=.fields #[.int lo t,.int hi u,.int 1 v]}).objs.size:=by simpa using m
  subst e;exact J.fpOk (zzq _) (J.hok.fresh (zzq _))
def Jm(ta:TA):TI:=λσ H R=>ta σ H λvs c=>∃j:Int,vs=[.int j]/\-(2^62)<=j/\j<2^62/\R (Itr 0 j.toNat) c
def Jn(ta:TA):TI:=λσ H R=>ta σ H λvs c=>∃i j:Int,vs=[.int i,.int j]/\(-(2^62)<=i/\i<2^62/\-(2^62)<=j/\j<2^62)/\R (Itr i (j - i).toNat) c
theorem xx{a:dy}{c:TA}(U:Gl X "range")(l:X.mg "range" = none)(d:PA X [a] c)(hs:starEach [a] X.env=[(false,eval a X.env)]:=by rfl):PI X tg (.Call (.Name "range" p) [a] [] pos) (Jm c):=by
 intro pins s σ H R I h;refine Call_ (iE I U l boot_range (PyProof.Rows.callWith_type1 (thn (d pos pins s σ H _ I h) λus s1 Y=>?_) hs rfl));obtain⟨vs,H1,L,n,J⟩:=Y;obtain⟨j,e,J,m,q⟩:=J;subst e;cases n with
 |cons r z =>
  cases z;obtain⟨t,rfl⟩:=r;exact call_range_1 (uf L (by lia) (by lia) J m (by simpa using q))
theorem xy{a b:dy}{c:TA}(l:Gl X "range")(m:X.mg "range" = none)(d:PA X [a,b] c)(hs:starEach [a,b] X.env=[(false,eval a X.env),(false,eval b X.env)]:=by rfl)(J:starEach [b] X.env=[(false,eval b X.env)]:=by rfl) :
  PI X tg (.Call (.Name "range" p) [a,b] [] pos) (Jn c):=by
 intro pins s σ H R I h;refine Call_ (iE I l m boot_range (PyProof.Rows.callWith_type1 (thn (d pos pins s σ H _ I h) λus s1 n=>?_) (by rw[hs,J]) (by rw[J];rfl)));obtain⟨vs,H1,Y,g,L⟩:=n;obtain⟨i,j,e,⟨L,z,B,G⟩,q⟩:=L;subst e;cases g with
 |cons r U =>
  cases U with
  |cons T U =>
   cases U;obtain⟨t,rfl⟩:=r;obtain⟨t',rfl⟩:=T;exact call_range_2 (uf Y L z B G q)
def tFor(wi:TI)(g:TG)(tb:TS):TS:=λD σ H=>wi σ H λJ d=>∃W:Nat->Nat->St->Hp->Prop,(∃m,W 0 m σ d)/\∀i m σ H,W i m σ H ->
 (J.stop i H/\D.nx σ H)∨(J.go i H/\∃N:St->Hp->Prop,(∀c H',N c H'->∃U,U<m/\W (i+1) U c H')/\∀x H',J.yld i H x H'->g x σ H' λL l=>tb {D with nx:=N,ct:=N,bk:=D.nx} L l)
noncomputable def oK(fp:ab bn)(h:cm):ab (bn×Obj):=fp.filterMap λb=>(h.get? b).map λo=>(b,o)
theorem ff{b:bn}(J:b∈ch)(e:h.get? b=some o):(b,o)∈oK ch h:=List.mem_filterMap.mpr ⟨b,J,by rw[e];rfl⟩
theorem xz{p:bn×Obj}(U:p∈oK ch h):p.1∈ch/\h.get? p.1=some p.2:=by
 obtain⟨b,L,e⟩:=List.mem_filterMap.mp U;cases q:h.get? b with
 |none=>rw[q]at e;cases e
 |some o =>
  rw[q]at e;have J:(b,o)=p:=zzS e;subst J;exact⟨L,q⟩
theorem Inv.pinned(I:Inv X pl σ H s)(Y:∀b∈ch,FpOk X pl H b)(c:∀b∈ch,∃o,s.heap.get? b=some o/\∀v,o.data ≠ .cell v):Inv X (pl++oK ch s.heap) σ H s :=
 I.pins_of λp l=>(zzA.mp l).elim (λz=>I.pin p (zye _ z)) λz=>by obtain⟨L,e⟩:=xz z;obtain⟨U,f1,f2,_⟩:=Y p.1 L;obtain⟨o,J,d⟩:=c p.1 L;rw[e]at J;cases J;exact⟨e,U,f1,f2,d⟩
theorem Inv.unpinned{pins:ab (bn×Obj)}(I:Inv X (pins++pl) σ H s):Inv X pins σ H s:=I.pins_of λp J=>I.pin p (zye _ (zwC _ J))
theorem Cc{iter:dy}{body:ab Stmt}{wi:TI}{tb:TS}(a:PassesOwn (model X.prog X.w) X.A X.env X.xe)(hc:X.calm=true)(hi:PI X tg iter wi)(hg:PG X tg g)(c:PSs X body tb)(hs:∀x,foldedSetIterable iter X.env x=pure x:=by intro _;rfl):PS X (.For tg iter body [] pos) (tFor wi g tb):=by
 intro pins s σ H D I h;refine wpAny_For (thn (hi pins s σ H _ I h) λv s1 h1=>thn h1 λitv s2 h2=>?_) hs;obtain⟨it,G,tn,J,H2,e,I2,T,b0,f2,W,⟨m0,w0⟩,k⟩:=h2;subst e;have y:∀{H':Hp},(∀b∈G,H' b=none)->∀b∈G,FpOk X pins H' b:=λhn b c=>⟨hn b c,(f2 b c).2⟩;refine codeAny_forLoop_any (λn s'=>∃i l H',Inv X pins l H' s'/\tn i s'.heap/\(∀b∈G,H' b=none)/\W i n l H') ?_ m0 ⟨0,σ,H2,I2,b0,λb c=>(f2 b c).1,w0⟩;rintro n s3 ⟨i,B,p,Q,a7,a6,w3⟩;rcases k i n B p w3 with ⟨stop,qn⟩|⟨go,N,hN,step⟩
 ·refine zxe a (thn (T.done X rfl rfl rfl hc i pins s3 B p X.xe Q (y a6) a7 stop) λr s4 q=>?_);obtain⟨rfl,I4⟩:=q;exact zwD ⟨B,p,I4,qn⟩
 ·refine zxe a (thnG (T.item X rfl rfl rfl hc i pins s3 B p X.xe Q (y a6) a7 go) λr s4 u hr h4=>?_);subst hr;refine zxe a (thn h4 λ_ s5 q0=>?_);obtain⟨x,M,I5,r5,y5,C,a9⟩:=q0;have a8:=I5.pinned (y a9) (T.obj _ _ C);refine zxe a (thnF (hg _ s5 B M x u _ a8 r5 (step x M y5)) λ_ s6 b1 H6 I6 q6=>?_);refine zxe a (thn (c _ s6 b1 H6 _ I6 q6) λf E z=>?_);have again:∀{L:St} {U:Hp},Inv X (pins++oK G s5.heap) L U E->N L U->∃m,m<n/\∃i l H',Inv X pins l H' E/\tn i E.heap/\(∀b∈G,H' b=none)/\W i m l H':=λ{L U} Y j=>by
   obtain⟨m',hm,w7⟩:=hN L U j;refine⟨m',hm,i+1,L,U,Y.unpinned,T.keep _ _ _ C λb c o e=>(Y.pin (b,o) (zye _ (zye _ (ff c e)))).1,λb c=>?_,w7⟩;obtain⟨o,e,d⟩:=T.obj _ _ C b c;exact(Y.pin (b,o) (zye _ (zye _ (ff c e)))).2.1
  cases f with
  |next=>obtain⟨L,U,Y,j⟩:=z;exact again Y j
  |cont=>obtain⟨L,U,Y,j⟩:=z;exact again Y j
  |brk=>obtain⟨L,U,Y,z⟩:=z;exact⟨L,U,Y.unpinned,z⟩
  |ret v=>obtain⟨x7,L,U,Y,r7,z⟩:=z;exact⟨x7,L,U,Y.unpinned,r7,z⟩
end
noncomputable abbrev R2:=V->V->Hp->VK->Prop
variable{r r':R2}
def OpR(X:Cx)(f:bb->bb->Sem bb)(r:R2):Prop :=
 ∀(pins:ab (bn×Obj)) (s:bx) (σ:St) (H:Hp) (x y:V) (v u:bb) (Q:VK),Inv X pins σ H s->RelV x v->RelV y u->r x y H Q ->
  wpAny (model X.prog X.w) X.A (f v u) (EP X pins σ Q) X.xe s
def UnR(X:Cx)(f:bb->Sem bb)(r:V->Hp->VK->Prop):Prop :=
 ∀(pins:ab (bn×Obj)) (s:bx) (σ:St) (H:Hp) (x:V) (v:bb) (Q:VK),Inv X pins σ H s->RelV x v->r x H Q ->
  wpAny (model X.prog X.w) X.A (f v) (EP X pins σ Q) X.xe s
def cr(X:Cx)(f:bb)(r:ab V->Hp->VK->Prop):Prop :=
 ∀(pins:ab (bn×Obj)) (s:bx) (σ:St) (H:Hp) (c:ab V) (us:ab bb) (Q:VK),Inv X pins σ H s->Vals c us->r c H Q ->
  wpAny (model X.prog X.w) X.A (call f us) (EP X pins σ Q) X.xe s
def tOp(r:R2)(ta tb:TE):TE:=λσ H Q=>ta σ H λx c=>tb σ c λy d=>r x y d Q
def tUn(r:V->Hp->VK->Prop)(ta:TE):TE:=λσ H Q=>ta σ H λx c=>r x c Q
def rI(C:Int->Int->Prop)(g:Int->Int->V):R2:=λx y H Q=>∃i j,x=.int i/\y=.int j/\C i j/\Q (g i j) H
def rI0(g:Int->Int->V):R2:=λx y H Q=>∃i j,x=.int i/\y=.int j/\Q (g i j) H
def rU(g:Int->V):V->Hp->VK->Prop:=λx H Q=>∃i,x=.int i/\Q (g i) H
section
variable{X:Cx}{a:dy}{ta tb:TE}
theorem binT(n:PE X a ta)(q:PE X b tb){R:V->V->Hp->Prop}(I:Inv X pl σ H s)(h:ta σ H λx l=>tb σ l λy c=>R x y c){f:bb->bb->Sem bb}(z:∀v u d x y c,Inv X pl σ c d->RelV x v->RelV y u->R x y c->wpAny (model X.prog X.w) X.A (f v u) Q X.xe d) :
  wpAny (model X.prog X.w) X.A (eval a X.env) (λv J=>wpAny (model X.prog X.w) X.A (eval b X.env) (λu L=>wpAny (model X.prog X.w) X.A (f v u) Q X.xe L) X.xe J) X.xe s:=by
 refine thn (n pl s σ H _ I h) λv g U=>?_;obtain⟨x,l,Y,T,B⟩:=U;refine thn (q pl g σ l _ Y B) λu d U=>?_;obtain⟨y,c,m,e,G⟩:=U;exact z v u d x y c m T e G
theorem cP{op:Operator}(l:OpR X (binaryOp op) r)(d:PE X a ta)(L:PE X b tb):PE X (.BinOp a op b pos) (tOp r ta tb):=by intro pins s σ H Q I h;exact wpAny_BinOp (binT d L I h λv u m x y c J U Y q=>l pins m σ c x y v u Q J U Y q)
theorem Jo{op:UnaryOp}{r:V->Hp->VK->Prop}(l:UnR X (unaryOp op) r)(d:PE X a ta):PE X (.UnaryOp op a pos) (tUn r ta):=by intro pins s σ H Q I h;exact UnaryOp_ (thnE (d pins s σ H _ I h) λv m x c J U L=>l pins m σ c x v Q J U L)
theorem opI{f:bb->bb->Sem bb}{C:Int->Int->Prop}{g:Int->Int->Int}
  (rule:∀(i j:Int) (t u:Tok) (s:bx) (Q:bb->bx->Prop) (E:bb->bx->Prop),C i j->Q (.int (g i j) s.toks) {s with toks:=s.toks+1}->wpAny (model X.prog X.w) X.A (f (.int i t) (.int j u)) Q E s) :
  OpR X f (rI C λi j=>.int (g i j)):=by
 intro pins s σ H x y v u Q I L U h;obtain⟨i,j,rfl,rfl,J,q⟩:=h;obtain⟨t,rfl⟩:=L;obtain⟨c,rfl⟩:=U;exact rule i j t c s _ _ J ⟨.int (g i j),H,I.tok _,⟨_,rfl⟩,q⟩
theorem opI0{f:bb->bb->Sem bb}{g:Int->Int->Int}
  (rule:∀(i j:Int) (t u:Tok) (s:bx) (Q:bb->bx->Prop) (E:bb->bx->Prop),Q (.int (g i j) s.toks) {s with toks:=s.toks+1}->wpAny (model X.prog X.w) X.A (f (.int i t) (.int j u)) Q E s) :
  OpR X f (rI0 λi j=>.int (g i j)):=by
 intro pins s σ H x y v u Q I J L h;obtain⟨i,j,rfl,rfl,q⟩:=h;obtain⟨t,rfl⟩:=J;obtain⟨c,rfl⟩:=L;exact rule i j t c s _ _ ⟨.int (g i j),H,I.tok _,⟨_,rfl⟩,q⟩
theorem opB0{f:bb->bb->Sem bb}{g:Int->Int->Bool}
  (rule:∀(i j:Int) (t u:Tok) (s:bx) (Q:bb->bx->Prop) (E:bb->bx->Prop),Q (.bool (g i j)) s->wpAny (model X.prog X.w) X.A (f (.int i t) (.int j u)) Q E s) :
  OpR X f (rI0 λi j=>.bl (g i j)):=by
 intro pins s σ H x y v u Q I J L h;obtain⟨i,j,rfl,rfl,q⟩:=h;obtain⟨t,rfl⟩:=J;obtain⟨c,rfl⟩:=L;exact rule i j t c s _ _ ⟨.bl (g i j),H,I,rfl,q⟩
def CPow(i j:Int):Prop:=0<=j/\j<=1000000/\i.natAbs<2^64
theorem vO(k:Nat):(0:Int)<=2^k:=by exact Int.natCast_nonneg _
theorem jw:OpR X (binaryOp .Add) (rI0 λi j=>.int (i+j)):=opI0 λ_ _ _ _ _ _ _ q=>add_int q
theorem FZ:OpR X (binaryOp .Sub) (rI0 λi j=>.int (i - j)):=opI0 λ_ _ _ _ _ _ _ q=>sub_int q
theorem iF:OpR X (binaryOp .Mod) (rI (λ_ j=>0<j) λi j=>.int (i % j)):=opI λi j _ _ _ _ _ hc q=>by exact mod_int' (by lia) (by rw[Int.fmod_eq_emod_of_nonneg i (by lia)];exact q)
theorem Dm:OpR X (binaryOp .Mod) (rI (λ_ j=>j≠0) λi j=>.int (i.fmod j)):=opI λ_ _ _ _ _ _ _ J q=>mod_int' J q
theorem Ga:OpR X (binaryOp .Pow) (rI CPow λi j=>.int (i^j.toNat)):=opI λ_ _ _ _ _ _ _ J q=>pow_int_small J.1 J.2.1 J.2.2 q
theorem Gb:OpR X (binaryOp .LShift) (rI CPow λi j=>.int (i*2^j.toNat)):=opI λ_ _ _ _ _ _ _ J q=>lshift_int_small J.1 J.2.1 J.2.2 q
theorem Gc:OpR X (binaryOp .RShift) (rI (λ_ j=>0<=j) λi j=>.int (i / 2^j.toNat)):=opI λi j _ _ _ _ _ J q =>
 rshift_int J (by rw[Int.fdiv_eq_ediv_of_nonneg i (vO _)];exact q)
theorem Gd:OpR X (binaryOp .BitAnd) (rI0 λi j=>.int (Builtin.bitAnd i j)):=opI0 λ_ _ _ _ _ _ _ q=>and_int q
theorem unI{f:bb->Sem bb}{g:Int->Int}
  (rule:∀(i:Int) (t:Tok) (s:bx) (Q:bb->bx->Prop) (E:bb->bx->Prop),Q (.int (g i) s.toks) {s with toks:=s.toks+1}->wpAny (model X.prog X.w) X.A (f (.int i t)) Q E s) :
  UnR X f (rU λi=>.int (g i)):=by
 intro pins s σ H x v Q I J h;obtain⟨i,rfl,q⟩:=h;obtain⟨t,rfl⟩:=J;exact rule i t s _ _ ⟨.int (g i),H,I.tok _,⟨_,rfl⟩,q⟩
theorem Ge:UnR X (unaryOp .USub) (rU λi=>.int (-i)):=unI λ_ _ _ _ _ q=>neg_int q
end
noncomputable def scal:V->V->Bool
 |.non,.non=>true|.non,.int _=>true|.int _,.non=>true|.non,.bl _=>true|.bl _,.non=>true|.non,.str _=>true|.str _,.non=>true|.int _,.int _=>true|.bl _,.bl _=>true|.str _,.str _=>true|.byt _,.byt _=>true|.int _,.str _=>true|.str _,.int _=>true|.bl _,.str _=>true|.str _,.bl _=>true|_,_=>false
def rEq:R2:=λx y H Q=>scal x y=true/\Q (.bl (decide (x=y))) H
theorem Dn{i j:Int}:decide (V.int i=V.int j)=(i==j):=by rw[zxt];simp
theorem Gf{i j:Bool}:decide (V.bl i=V.bl j)=(i==j):=by rw[zxt];simp
theorem Do{i:Str}:decide (V.str i=V.str j)=(i==j):=by rw[zxt];simp
theorem Dp{i j:Array UInt8}:decide (V.byt i=V.byt j)=(i.toList==j.toList):=by rw[zxt];cases i;cases j;simp
section
variable{X:Cx}{a c:dy}{ta tb tc:TE}
theorem bQ{Q:VK}{k:Bool}(I:Inv X pl σ H s)(q:Q (.bl k) H)(e:k=k'):EP X pl σ Q (.bool k') s:=by subst e;exact⟨.bl k,H,I,rfl,q⟩
theorem Jp:OpR X (compareOp .Eq) rEq:=by
 intro pins s σ H x y v u Q I L J h;obtain⟨l,q⟩:=h;cases x with
 |non =>
  cases L;cases y with
  |non=>cases J;exact PySem.EqNone.eq_none_none (bQ I q (by simp))
  |bl j=>cases J;exact PySem.EqNone.eq_none_bool (bQ I q (by simp))
  |int j=>obtain⟨d,rfl⟩:=J;exact PySem.EqNone.eq_none_int (bQ I q (by simp))
  |str j=>obtain⟨d,rfl⟩:=J;exact PySem.EqNone.eq_none_str (bQ I q (by simp))
  |_=>exact absurd (show false=true from l) zzI
 |bl i =>
  cases L;cases y with
  |non=>cases J;exact PySem.EqNone.eq_bool_none (bQ I q (by simp))
  |bl j=>cases J;exact eq_bool (bQ I q Gf)
  |str j=>obtain⟨d,rfl⟩:=J;exact PySem.EqMixed.eq_bool_str (bQ I q (by simp))
  |_=>exact absurd (show false=true from l) zzI
 |int i =>
  obtain⟨t,rfl⟩:=L;cases y with
  |non=>cases J;exact PySem.EqNone.eq_int_none (bQ I q (by simp))
  |int j=>obtain⟨d,rfl⟩:=J;exact eq_int (bQ I q Dn)
  |str j=>obtain⟨d,rfl⟩:=J;exact PySem.EqMixed.eq_int_str (bQ I q (by simp))
  |_=>exact absurd (show false=true from l) zzI
 |str i =>
  obtain⟨t,rfl⟩:=L;cases y with
  |non=>cases J;exact PySem.EqNone.eq_str_none (bQ I q (by simp))
  |bl j=>cases J;exact PySem.EqMixed.eq_str_bool (bQ I q (by simp))
  |int j=>obtain⟨d,rfl⟩:=J;exact PySem.EqMixed.eq_str_int (bQ I q (by simp))
  |str j=>obtain⟨d,rfl⟩:=J;exact eq_str (bQ I q Do)
  |_=>exact absurd (show false=true from l) zzI
 |byt i =>
  obtain⟨t,rfl⟩:=L;cases y with
  |byt j=>obtain⟨d,rfl⟩:=J;exact PySem.W.eq_bytes (bQ I q Dp)
  |_=>exact absurd (show false=true from l) zzI
 |_=>cases y<;>exact absurd (show false=true from l) zzI
theorem Gg:OpR X (compareOp .Lt) (rI0 λi j=>.bl (decide (i<j))):=opB0 λ_ _ _ _ _ _ _ q=>lt_int q
theorem Jq:OpR X (compareOp .LtE) (rI0 λi j=>.bl (decide (i<=j))):=opB0 λ_ _ _ _ _ _ _ q=>le_int q
theorem Gh:OpR X (compareOp .Gt) (rI0 λi j=>.bl (decide (j<i))):=opB0 λ_ _ _ _ _ _ _ q=>gt_int q
theorem Jr:OpR X (compareOp .GtE) (rI0 λi j=>.bl (decide (j<=i))):=opB0 λ_ _ _ _ _ _ _ q=>ge_int q
theorem Gi:OpR X (compareOp .Is) (λx y H Q=>y=.non/\Q (.bl (decide (x=.non))) H):=by
 intro pins s σ H x y v u Q I J L h;obtain⟨rfl,q⟩:=h;cases L;refine is_none_gen (bQ I q ?_);cases x<;>first
  |(cases J;rfl)
  |(obtain⟨t,rfl⟩:=J;rfl)
theorem Dq:OpR X (compareOp .IsNot) (λx y H Q=>y=.non/\Q (.bl (!decide (x=.non))) H):=by
 intro pins s σ H x y v u Q I J L h;obtain⟨rfl,q⟩:=h;cases L;refine isnot_none_gen (bQ I q ?_);cases x<;>first
  |(cases J;rfl)
  |(obtain⟨t,rfl⟩:=J;rfl)
theorem lM(b:dy)(h:op ≠ .In:=by decide)(d:op ≠ .NotIn:=by decide):behindInMarks op b=false:=by
 have J:(op==CmpOp.In)=false:=by cases op<;>first|rfl|exact absurd rfl h
 have L:(op==CmpOp.NotIn)=false:=by cases op<;>first|rfl|exact absurd rfl d
 cases b<;>simp[behindInMarks,J,L]
theorem Dr(n:OpR X (compareOp op) r)(l:PE X a ta)(L:PE X b tb)(m:behindInMarks op b=false):PE X (.Compare a [op] [b] pos) (tOp r ta tb):=by intro pins s σ H Q I h;exact wpAny_Compare1 (binT l L I h λv u z x y d J U Y q=>n pins z σ d x y v u Q J U Y q) m
def Gj(t:TE):TT:=λσ H Q=>t σ H λx H'=>∃k,x=.bl k/\Q k H'
theorem jx(B:OpR X (compareOp op) r)(n:PE X a ta)(Y:PE X b tb)(q:behindInMarks op b=false):PT X (.Compare a [op] [b] pos) (Gj (tOp r ta tb)):=by
 intro pins s σ H Q I h;refine wpAny_isTrue_Compare1 (thnE (n pins s σ H _ I h) λv p x d J i G=>thnE (Y pins p σ d _ J G) λu w y l L j T =>
  thn (B pins w σ l x y v u _ L i j T) λc s3 ⟨z,m,U,o,k,e,g⟩=>?_) q
 subst e;cases o;exact zyu ⟨m,U,g⟩
def xA(r r':R2)(ta tb tc:TE):TE:=λσ H Q=>ta σ H λx l=>tb σ l λy m=>r x y m λz d=>∃k,z=.bl k /\
 (if k=true then tc σ d λL J=>r' y L J Q else Q (.bl false) d)
theorem Ar(p:OpR X (compareOp op) r)(J:OpR X (compareOp op') r')(g:PE X a ta)(i:PE X b tb)(j:PE X c tc)(o:lastMarks [op,op'] [b,c]=false:=by with_unfolding_all rfl):PE X (.Compare a [op,op'] [b,c] pos) (xA r r' ta tb tc):=by
 intro pins s σ H Q I h;refine Compare_chain (thnE (g pins s σ H _ I h) λv s1 x m B E w=>chain_link (thnE (i pins s1 σ m _ B w) λu s2 y n G Y A =>
  thn (p pins s2 σ n x y v u _ G E Y A) λd s3 ⟨z,l,L,M,k,e,U⟩=>?_)) o
 subst e;cases M;refine zyu ?_;cases k with
 |false=>exact ite_ff ⟨.bl false,l,L,rfl,U⟩|true=>exact ite_tt (chain_last (thnE (j pins s3 σ l _ L U) λw' s4 z' q T N C=>J pins s4 σ q y z' u w' Q T Y N C))
theorem At(E:OpR X (compareOp op) r)(J:OpR X (compareOp op') r')(p:PE X a ta)(w:PE X b tb)(A:PE X c tc)(C:lastMarks [op,op'] [b,c]=false:=by with_unfolding_all rfl):PT X (.Compare a [op,op'] [b,c] pos) (Gj (xA r r' ta tb tc)):=by
 intro pins s σ H Q I h;refine isTrue_chain (thnE (p pins s σ H _ I h) λv s1 x m G r1 q1=>test_link (thnE (w pins s1 σ m _ G q1) λu s2 y n T Y q2 =>
  thn (E pins s2 σ n x y v u _ T r1 Y q2) λd s3 ⟨z,l,L,r3,k,e,U⟩=>?_)) C
 subst e;cases r3;refine zyu ?_;cases k with
 |false =>
  obtain⟨k',j,M⟩:=U;cases j;exact ite_ff ⟨l,L,M⟩
 |true =>
  refine ite_tt (test_last (thnE (A pins s3 σ l _ L U) λw' s4 z' q g r4 q4=>thn (J pins s4 σ q y z' u w' _ g Y r4 q4) λd' s5 N=>?_));obtain⟨z2,B,i,r5,k2,o,q5⟩:=N;subst o;cases r5;exact zyu ⟨B,i,q5⟩
theorem lN:(sizeLine:Nat)<2^63:=by  decide
theorem vP:OpR X (binaryOp .Add) (λx y H Q=>∃i j,x=.str i/\y=.str j/\i.length+j.length<=sizeLine/\Q (.str (i++j)) H):=by intro pins s σ H x y v u Q I L U h;obtain⟨i,j,rfl,rfl,J,q⟩:=h;obtain⟨t,rfl⟩:=L;obtain⟨d,rfl⟩:=U;exact add_str (λd tk=>⟨.str (i++j),H,I.tok _,⟨_,rfl⟩,q⟩) J
theorem eL{x:V}(r:Vals [x] us):∃u,us=[u]/\RelV x u:=by
 cases r with
 |cons J L=>cases L;exact⟨_,rfl,J⟩
theorem Js{x:V}(r:Vals [x,y] us):∃u J,us=[u,J]/\RelV x u/\RelV y J:=by
 cases r with
 |cons L U =>
  cases U with
  |cons Y d=>cases d;exact⟨_,_,rfl,L,Y⟩
theorem Au:cr X (.builtin "abs") (λxs H Q=>∃i,xs=[.int i]/\Q (.int (if i<0 then -i else i)) H):=by intro pins s σ H xs us Q I r h;obtain⟨i,rfl,q⟩:=h;obtain⟨u,rfl,t,rfl⟩:=eL r;exact call_abs_int λu tk=>⟨.int (if i<0 then -i else i),H,I.tok _,⟨_,rfl⟩,q⟩
theorem xB:cr X (.type "int") (λxs H Q=>(∃i,xs=[.int i]/\Q (.int i) H)∨∃k,xs=[.bl k]/\Q (.int (if k then 1 else 0)) H):=by
 intro pins s σ H xs us Q I r h;rcases h with ⟨i,rfl,q⟩|⟨k,rfl,q⟩
 ·obtain⟨u,rfl,t,rfl⟩:=eL r;exact call_int_int ⟨.int i,H,I,⟨_,rfl⟩,q⟩
 ·obtain⟨u,rfl,J⟩:=eL r;cases J;exact call_int_bool ⟨.int (if k then 1 else 0),H,I.tok _,⟨_,rfl⟩,q⟩
theorem oM:cr X (.type "str") (λxs H Q=>∃i,xs=[.int i]/\i.natAbs.log2<1920/\Q (.str (toString i)) H):=by intro pins s σ H xs us Q I r h;obtain⟨i,rfl,J,q⟩:=h;obtain⟨u,rfl,t,rfl⟩:=eL r;exact PySem.P.str_of_int J ⟨.str _,H,I.tok _,⟨_,rfl⟩,q⟩
end
structure ObjM(h:Heap)(x dx C:Addr)(mA:Str->Option Value):Prop where
 obj:h.get? x=some (PySem.W.instObj C dx)
 ns:h.Ns1 dx mA
 ne:dx≠x
theorem xC(n:h.Ns1 C mg):∃c,h.get? C=some c/\∀name,PySem.W.lookIn name c=some (mg name):=by
 obtain⟨o,es,ep,l,hd,U,_,d⟩:=n;refine⟨o,l,λname=>?_⟩;have e:=d name;unfold nsFind findBy at e;rw[←Array.find?_toList]at e;unfold PySem.W.lookIn;rw[hd];dsimp only;split
 ·rename_i y q;rw[q]at e;exact congrArg some e
 ·rename_i q;rw[q]at e;have a:es.toList.any (·.refKey)=false:=by
   rw[List.any_eq_false];intro y Y;obtain⟨z,t,J⟩:=U y (zyS.mp Y);simp[DictEntry.refKey,J]
  have L:¬es.toList.any (·.refKey)=true:=by rw[a];exact zzI
  rw[zzh L];exact congrArg some e
theorem ObjM.look{x:bn}(I:ObjM h x a C mg):∃c,PySem.W.InstAt h x (PySem.W.instObj C a) C (some c)/\∀name,PySem.W.lookIn name c=some (mg name) :=
 let ⟨c,ho,hl⟩:=xC I.ns
 ⟨c,⟨I.obj,rfl,rfl,ho⟩,hl⟩
section
variable{prog:ef}{K:zwW}{dx f:bn}{mA:Str->ca bb}{name:Str}{v:bb}
theorem Ds(X:K.In s.heap)(I:ObjM s.heap x dx C mA)(U:PySem.W.plainGet K C name=true)(d:PySem.W.hasDictIn K C=true)(c:PySem.W.findIn K (.ref C) name=some none)(Y:mA name=some v)(L:PySem.W.handedIn v=true)(h:Q v {s with toks:=s.toks+1}) :
  wpAny (model prog w) A (getAttr (.ref x) name k') Q E s:=by
 obtain⟨od,J,l⟩:=I.look;exact PySem.W.get_value X J (zwL U).1 (PySem.W.findObj_own d c rfl (by rw[l,Y])) L h
theorem Av{pl:Sem Bool}{Q:bb×ab bb->bx->Prop}(X:K.In s.heap)(I:ObjM s.heap x dx C mA)(L:PySem.W.plainGet K C name=true)
  (U:PySem.W.findIn K (.ref C) name=some (some (.ref f))) (Y:PySem.W.isFn K (.ref f)=true) (d:mA name=none) (h:Q (.ref f,[.ref x]) s) :
  wpAny (model prog w) A (getMethod (.ref x) name pl) Q E s:=by
 obtain⟨l,J,c⟩:=I.look;exact PySem.W.method_fn X J (zwL L).1 (zwL L).2 U (beq_iff_eq.mp Y) (by show (PySem.W.lookIn name l).map (·.isSome)=some false;rw[c,d];rfl) h
theorem Dt{Q:Unit->bx->Prop}(X:K.In s.heap)(I:ObjM s.heap x dx C mA)(hs:PySem.W.findIn K (.ref C) "__setattr__" = some (some (.builtin "object.__setattr__")))(n:PySem.W.plainOver K C=true)(q:PySem.W.takerIn K C name=some none)(m:PySem.W.hasDictIn K C=true)(z:PySem.Within mA ps)(hsz:ps.length<=sizeLine)(h:∀h',ObjM h' x dx C (λy=>if y=name then some v else mA y)->Heap.SameBut dx s.heap h'->Q () {s with heap:=h',toks:=s.toks+2}) :
  wpAny (model prog w) A (setAttr (.ref x) name v) Q E s:=by
 obtain⟨od,J,hl⟩:=I.look;refine PySem.W.set_plain X J hs (PySem.W.osa_open X J n q λb=>?_);obtain⟨cd,l,c⟩:=PySem.W.any_some m;have B:s.heap.get? x=some ⟨.ref C,some dx,.plain,#[]⟩:=I.obj;refine zzd (zzt (zzd (zzd (wpAny_loadPart B (zzd (PySem.W.Looks.here (PySem.W.looks_clsIn X l) ?_))))));rw[c];refine zzt (zzd (zzt (zzd ?_)));refine wpAny_nsSet1 I.ns λh' L U=>?_;obtain⟨oD,esD,epD,d,hdD,Y⟩:=L.count (PySem.Within.cons name v z);refine zzd (wpAny_lookBehind d (by rw[hdD];exact pastItsLine_dict (zzl Y (by rw[zzu];lia))) ?_);exact zzt (h _ ⟨(U.2 _ (Ne.symm I.ne)).trans I.obj,L,I.ne⟩ U)
theorem Aw{R:Result->bx->Prop}{vs:ab bb}(X:K.In s.heap)(c:PySem.W.makesIn K C=true)(hi:PySem.W.findIn K (.ref C) "__init__" = some (some (.ref f)))(J:PySem.W.typeIn K (.ref f)=some (.type "function"))(h:codeAny (model prog w) (A.under (.builtin "type.__call__" ⟨.ref C::vs,kw⟩)) (.call (.ref f) ⟨.ref (s.heap.objs.size+1)::vs,kw⟩) (PySem.W.InitBack (s.heap.objs.size+1) R)
   {s with heap:=(s.heap.push PySem.W.emptyDict).push (PySem.W.instObj C s.heap.objs.size)}) :
  codeAny (model prog w) A (.call (.ref C) ⟨vs,kw⟩) R s:=by
 exact PySem.W.make_core (PySem.W.makes_of X c) (PySem.W.looks_findIn X hi) (λself=>PySem.W.bind_fn X self J) (.inl rfl) h
end
noncomputable def putF(f:Str)(v:V):ab (Str×V)->ab (Str×V)
 |[]=>[(f,v)]|(g,x)::r=>if g=f then(g,v)::r else(g,x)::putF f v r
theorem jy(f g:Str)(v:V):∀fs:ab (Str×V),(putF f v fs).lookup g=if g=f then some v else fs.lookup g
 |[]=>by
  show List.lookup g [(f,v)]=_;by_cases h:g=f
  ·have J:(g==f)=true:=beq_iff_eq.mpr h;simp only[List.lookup,J,zzk h]
  ·have J:(g==f)=false:=zxr.mpr h;simp only[List.lookup,J,zzh h]
 |(k,x)::r=>by
  have U:=jy f g v r;rw[show putF f v ((k,x)::r)=(if k=f then(k,v)::r else(k,x)::putF f v r) from rfl];by_cases L:k=f
  ·rw[zzk L];by_cases h:g=k
   ·have J:(g==k)=true:=beq_iff_eq.mpr h;simp only[List.lookup,J,zzk (h.trans L)]
   ·have J:(g==k)=false:=zxr.mpr h;simp only[List.lookup,J,zzh (λe:g=f=>h (e.trans L.symm))]
  ·rw[zzh L];by_cases h:g=k
   ·have J:(g==k)=true:=beq_iff_eq.mpr h;simp only[List.lookup,J,zzh (λe:g=f=>L (h.symm.trans e))]
   ·have J:(g==k)=false:=zxr.mpr h;simp only[List.lookup,J];exact U
theorem jz(f:Str)(v:V):∀fs:ab (Str×V),f∈(putF f v fs).map (·.1)/\∀g,g∈fs.map (·.1)->g∈(putF f v fs).map (·.1)
 |[]=>⟨by simp[putF],λg h=>by simp at h⟩
 |(k,x)::r=>by
  obtain⟨c,d⟩:=jz f v r;rw[show putF f v ((k,x)::r)=(if k=f then(k,v)::r else(k,x)::putF f v r) from rfl];by_cases J:k=f
  ·rw[zzk J];subst J;exact⟨by simp,λg h=>by simpa using h⟩
  ·rw[zzh J];refine⟨?_,λg h=>?_⟩
   ·rw[zzj];exact zzb _ c
   ·rw[zzj]at h ⊢;rcases zzi.mp h with e|e
    ·exact zzi.mpr (.inl e)
    ·exact zzb _ (d g e)
theorem jA(f:Str)(v:V):∀fs:ab (Str×V),(putF f v fs).length<=fs.length+1
 |[]=>by simp[putF]
 |(k,x)::r=>by
  have ih:=jA f v r;rw[show putF f v ((k,x)::r)=(if k=f then(k,v)::r else(k,x)::putF f v r) from rfl];by_cases J:k=f
  ·rw[zzk J,zzu,zzu];lia
  ·rw[zzh J,zzu,zzu];lia
theorem RelO.some_of{o:ca bb}(r:RelO (some v) o):∃u,o=some u/\RelV v u:=by
 cases o with
 |none=>exact(show False from r).elim|some u=>exact⟨u,rfl,r⟩
theorem RelO.none_of{o:ca bb}(r:RelO none o):o=none:=by
 cases o with
 |none=>rfl|some u=>exact(show False from r).elim
theorem xD(r:RelV v u):PySem.W.handedIn u=true:=by
 cases v with
 |non=>cases (show u=Value.none from r);rfl
 |bl b=>cases (show u=Value.bool b from r);rfl
 |int i=>obtain⟨t,e⟩:=(show ∃t,u=Value.int i t from r);cases e;rfl
 |str x=>obtain⟨t,e⟩:=(show ∃t,u=Value.str x t from r);cases e;rfl
 |byt b=>obtain⟨t,e⟩:=(show ∃t,u=Value.bytes b t from r);cases e;rfl
 |flt b=>obtain⟨t,e⟩:=(show ∃t,u=Value.float b t from r);cases e;rfl
 |ref a=>cases (show u=Value.ref a from r);rfl
 |ty n=>cases (show u=Value.type n from r);rfl
section
variable{H:Hp}{dx:bn}{fs:ab (Str×V)}
theorem mQ(l:HOk P w H h)(e:H a=some (.ins C dx fs)):∃c,ObjM h a dx C c/\(∀f,RelO (fs.lookup f) (c f))/\PySem.Within c (fs.map (·.1))/\fs.length<=1000/\H dx=some (.own a):=by obtain⟨d,z,ne,m,c,n,r,q⟩:=(show ObjOk P w H h a (.ins C dx fs) from l a _ e);exact⟨c,⟨m,n,ne⟩,r,q,z,d⟩
end
structure Cls(K:zwW)(C:Addr):Prop where
 pg:PySem.W.plainGet K C Str.empty=true
 hd:PySem.W.hasDictIn K C=true
 po:PySem.W.plainOver K C=true
 sa:PySem.W.findIn K (.ref C) "__setattr__" = some (some (.builtin "object.__setattr__"))
theorem Cls.get{K:zwW}(c:Cls K C)(f:Str):PySem.W.plainGet K C f=true:=c.pg
def NoAttr(K:zwW)(C:bn)(f:Str):Prop:=PySem.W.findIn K (.ref C) f=some none
theorem NoAttr.taker{K:zwW}{f:Str}(n:NoAttr K C f):PySem.W.takerIn K C f=some none:=by unfold PySem.W.takerIn;rw[show PySem.W.findIn K (.ref C) f=some none from n];rfl
structure Meth(K:zwW)(C:Addr)(m:Str)(f:Addr):Prop where
 at_:PySem.W.findIn K (.ref C) m=some (some (.ref f))
 fn:PySem.W.isFn K (.ref f)=true
 kp:PySem.W.keepIn K (.ref f)=true
section
variable{X:Cx}{σ:St}{H:Hp}{dx:bn}{fs:ab (Str×V)}{f:Str}{v:V}
theorem vQ{b:Bool}(I:Inv X pins σ H s)(e:H a=some (.ins C dx fs))(c:Cls X.K C)(n:NoAttr X.K C f)(l:fs.lookup f=some v)(h:∀u s',Inv X pins σ H s'->RelV v u->Q u s'):wpAny (model X.prog X.w) A (getAttr (.ref a) f b) Q E s:=by obtain⟨mA,O,r,_,_,_⟩:=mQ I.hok e;obtain⟨u,L,J⟩:=RelO.some_of (by rw[←l];exact r f);exact Ds I.kIn O (c.get f) c.hd n L (xD J) (h u _ (I.tok _) J)
theorem vR{m:Str}{g:bn}{pl:Sem Bool}{Q:bb×ab bb->bx->Prop}(I:Inv X pins σ H s)(e:H a=some (.ins C dx fs))(c:Cls X.K C)(k:Meth X.K C m g)(l:fs.lookup m=none)
  (h:Q (.ref g,[.ref a]) s):wpAny (model X.prog X.w) A (getMethod (.ref a) m pl) Q E s:=by
 obtain⟨n,O,r,_,_,_⟩:=mQ I.hok e;have d:n m=none:=RelO.none_of (by rw[←l];exact r m);exact Av I.kIn O (c.get m) k.at_ k.fn d h
theorem vS{Q:Unit->bx->Prop}(I:Inv X pins σ H s)(e:H a=some (.ins C dx fs))(c:Cls X.K C)(n:NoAttr X.K C f)(hl:fs.length<1000)(B:RelV y u)(h:∀s',Inv X pins σ (upd H a (.ins C dx (putF f y fs))) s'->Q () s'):wpAny (model X.prog X.w) A (setAttr (.ref a) f u) Q E s:=by
 obtain⟨l,O,r,m,_,d⟩:=mQ I.hok e;have Y:(fs.map (·.1)).length<=sizeLine:=by rw[zza,zxl];lia
 refine Dt I.kIn O c.sa c.po n.taker c.hd m Y λh' J G=>h _ ?_;have hd:∃o,h'.get? dx=some o:=let ⟨o,_,_,e',_⟩:=J.ns;⟨o,e'⟩
 refine I.write (by rw[e];exact True.intro) (.inr d) (λb q L z=>(G.2 b L).trans z) hd ?_;refine⟨by rw[af O.ne];exact d,?_,O.ne,J.obj,_,J.ns,λg=>?_,λg U=>?_⟩
 ·have:=jA f y fs;lia
 ·show RelO ((putF f y fs).lookup g) (if g=f then some u else l g);rw[jy];by_cases q:g=f
  ·rw[zzk q,zzk q];exact B
  ·rw[zzh q,zzh q];exact r g
 ·by_cases q:g=f
  ·rw[q];exact(jz f y fs).1
  ·refine(jz f y fs).2 g (m g λz=>U ?_);show (if g=f then some u else l g)=none;rw[zzh q];exact z
theorem Inv.made(I:Inv X pins σ H s):Inv X pins σ (upd (upd H s.heap.objs.size (.own (s.heap.objs.size+1))) (s.heap.objs.size+1) (.ins C s.heap.objs.size []))
  {s with heap:=(s.heap.push PySem.W.emptyDict).push (PySem.W.instObj C s.heap.objs.size)}:=by
 have J:(s.heap.push PySem.W.emptyDict).get? s.heap.objs.size=some PySem.W.emptyDict:=zzE s.heap rfl;have U:((s.heap.push PySem.W.emptyDict).push (PySem.W.instObj C s.heap.objs.size)).get? (s.heap.objs.size+1)=some (PySem.W.instObj C s.heap.objs.size):=by have:=zzE (s.heap.push PySem.W.emptyDict) (o:=PySem.W.instObj C s.heap.objs.size) rfl;rwa [zyw]at this
 have Y:(s.heap.push PySem.W.emptyDict).Ns s.heap.objs.size (λ_=>none):=⟨PySem.W.emptyDict,#[],_,J,rfl,(λe c=>absurd c (by simp)),λ_=>rfl⟩;have L:=I.laid (o:=.own (s.heap.objs.size+1)) (t':=s.toks) (λb u q=>zzm _ q) (zzq _) ⟨_,J⟩;refine L.laid (λb u q=>zzm _ q) (Nat.le_of_eq (zyw _ _)) ?_;have ne:s.heap.objs.size≠s.heap.objs.size+1:=zzL (zxn _);refine⟨by rw[af ne,ae],zzM _,ne,U,λ_=>none,(Heap.Ns1.of_empty Y).at λo q=>zzm _ q,λ_=>True.intro,λy d=>absurd rfl d⟩
theorem Du{prog:ef}{c:Env}{f:Str}(L:attributeBase e f c (eval e c)=eval e c)(h:wpAny (model prog w) A (eval e c) (λo J=>wpAny (model prog w) A (getAttr o f true) Q E J) E s):wpAny (model prog w) A (eval (.Attribute e f pos) c) Q E s :=
 Attribute_any_ h (by rw[arm_eval_Attribute,L])
end
def tFld(K:zwW)(ta:TE)(f:Str):TE:=λσ H Q=>ta σ H λx c=>∃a C dx fs v,x=.ref a/\c a=some (.ins C dx fs)/\Cls K C/\NoAttr K C f/\fs.lookup f=some v/\Q v c
def sFld(K:zwW)(ta tv:TE)(f:Str):TS:=λD σ H=>tv σ H λy d=>ta σ d λx c=>∃a C dx fs,x=.ref a/\c a=some (.ins C dx fs)/\Cls K C/\NoAttr K C f/\fs.length<1000 /\
 D.nx σ (upd c a (.ins C dx (putF f y fs)))
section
variable{X:Cx}{o value:dy}{f:Str}{pos':Pos}{ta tv:TE}
theorem Gk(he:PE X e ta)(U:attributeBase e f X.env (eval e X.env)=eval e X.env):PE X (.Attribute e f pos) (tFld X.K ta f):=by intro pins s σ H Q I h;refine Du U (thn (he pins s σ H _ I h) λu s1 Y=>?_);obtain⟨x,d,J,G,a,C,dx,fs,v,z,m,c,n,l,q⟩:=Y;subst z;obtain rfl:u=Value.ref a:=G;exact vQ J m c n l λu' s2 L B=>⟨v,d,L,B,q⟩
theorem xE(B:PE X o ta)(Y:PE X value tv)(hs:swapsWith value (some (.Attribute o f pos')) pos.line X.env=pure false):PS X (.Assign [.Attribute o f pos'] value pos) (sFld X.K ta tv f):=by intro pins s σ H D I h;refine plainObj_wpAny_Assign_Attribute (thnE (Y pins s σ H _ I h) λu i y d J g q=>thn (B pins i σ d _ J q) λG s2 T=>?_) hs;obtain⟨x,H2,L,e,a,C,dx,fs,z,m,c,n,l,b⟩:=T;subst z;obtain rfl:G=Value.ref a:=e;exact vS L m c n l g λs3 U=>⟨σ,_,U,b⟩
end
section
variable{X:Cx}{σ:St}{H:Hp}{Q:bb->bx->Prop}{c:bb}{b:Bool}
inductive TyOf(K:zwW)(H:Hp):V->Value->Prop where
 | non:TyOf K H .non (.type "NoneType")
 | bl (x:Bool):TyOf K H (.bl x) (.type "bool")
 | int (i:Int):TyOf K H (.int i) (.type "int")
 | str (x:Str):TyOf K H (.str x) (.type "str")
 | flt (x:UInt64):TyOf K H (.flt x) (.type "float")
 | lst {a:Addr} {xs:List V} (e:H a=some (.lst xs)):TyOf K H (.ref a) (.type "list")
 | frz {a:Addr} {o:Obj} {xs:List V} (e:H a=some (.frz o (.lst xs))):TyOf K H (.ref a) (.type "list")
 | tup {a:Addr} {xs:List V} (e:H a=some (.tup xs)):TyOf K H (.ref a) (.type "tuple")
 | dK {a:Addr} {kvs:List (Key×V)} (e:H a=some (.dK kvs)):TyOf K H (.ref a) (.type "dict")
 | dT {a:Addr} {kvs:List (List Key×V)} (e:H a=some (.dT kvs)):TyOf K H (.ref a) (.type "dict")
 | ins {a C dx:Addr} {fs:List (Str×V)} (e:H a=some (.ins C dx fs)) (cl:Cls K C) (ha:PySem.W.findIn K (.ref C) "__class__" = some (some (.builtin "object.__class__")))
   (hn:PySem.W.specialIn K (.builtin "object.__class__") "__get__" = some (some (.builtin "getset_descriptor.__get__"))) (htk:PySem.W.takesIn K (.builtin "object.__class__")=some true)
   (hm:PySem.W.mroIn K C (.type "object")=some true):TyOf K H (.ref a) (.ref C)
theorem xF{x:V}{u t:bb}(I:Inv X pins σ H s)(L:RelV x u)(ty:TyOf X.K H x t)(e:PySem.W.kitOne X.K t c=some b)(h:∀r,Q (.bool b) {s with toks:=r}) :
  wpAny (model X.prog X.w) A (call (.builtin "isinstance") [u,c]) Q E s:=by
 cases ty with
 |non=>cases (show u=Value.none from L);exact zyx PySem.W.kitx_none I.kIn True.intro e (λz=>nomatch z) h
 |bl y=>cases (show u=Value.bool y from L);exact zyx PySem.W.kitx_bool I.kIn True.intro e (λz=>nomatch z) h
 |int i=>obtain⟨t,q⟩:=(show ∃t,u=Value.int i t from L);cases q;exact zyx PySem.W.kitx_int I.kIn True.intro e (λz=>nomatch z) h
 |str y=>obtain⟨t,q⟩:=(show ∃t,u=Value.str y t from L);cases q;exact zyx PySem.W.kitx_str I.kIn True.intro e (λz=>nomatch z) h
 |flt y=>obtain⟨t,q⟩:=(show ∃t,u=Value.float y t from L);cases q;exact zyx PySem.W.kitx_float I.kIn True.intro e (λz=>nomatch z) h
 |@lst a B d =>
  cases (show u=Value.ref a from L);obtain⟨_,_,n,_,l⟩:=(show ObjOk X.prog X.w H s.heap a (.lst B) from I.hok a _ d);exact zyx PySem.W.kitx_list I.kIn ⟨_,l,rfl⟩ e (λz=>nomatch z) h
 |@frz a k B d =>
  cases (show u=Value.ref a from L);obtain⟨_,_,_,n,_,l⟩:=(show ObjOk X.prog X.w H s.heap a (.frz k (.lst B)) from I.hok a _ d);exact zyx PySem.W.kitx_list I.kIn ⟨_,l,rfl⟩ e (λz=>nomatch z) h
 |@tup a B d =>
  cases (show u=Value.ref a from L);obtain⟨_,_,_,p⟩:=(show ObjOk X.prog X.w H s.heap a (.tup B) from I.hok a _ d);obtain⟨o,l,G,_⟩:=p;exact zyx PySem.W.kitx_tuple I.kIn ⟨o,l,G⟩ e (λz=>nomatch z) h
 |@dK a m d =>
  cases (show u=Value.ref a from L);obtain⟨_,_,vs,_,p⟩:=(show ObjOk X.prog X.w H s.heap a (.dK m) from I.hok a _ d);obtain⟨o,es,U,l,G,_⟩:=p;exact zyx PySem.W.kitx_dict I.kIn ⟨o,l,G.1⟩ e (λz=>nomatch z) h
 |@dT a m d =>
  cases (show u=Value.ref a from L);obtain⟨_,_,B,_,o,es,U,l,G,_⟩:=(show ObjOk X.prog X.w H s.heap a (.dT m) from I.hok a _ d);exact zyx PySem.W.kitx_dict I.kIn ⟨o,l,G.1⟩ e (λz=>nomatch z) h
 |@ins a C dx fs d cl Y j T g =>
  cases (show u=Value.ref a from L);obtain⟨mA,O,_⟩:=mQ I.hok d;obtain⟨od,J,_⟩:=O.look;exact zyx (PySem.W.kitx_own (cl.get _) cl.hd Y j T g) I.kIn J e (λz=>nomatch z) h
end
structure Room(k:Nat)(A:Around):Prop where
 hd:A.handled=none
 dp:A.depth+3*k+5<recursionLimit
 un:A.units+16*k+200<cLine
theorem Room.mono(r:Room k A)(h:i<=k):Room i A:=⟨r.hd,by have:=r.dp;lia,by have:=r.un;lia⟩
theorem Room.deeper{k:Nat}{A:Around}(r:Room (k+1) A)(c:Env):Room k (A.deeper c) :=
 ⟨r.hd,by have:=r.dp;show A.depth+1+3*k+5<_;lia,by have:=r.un;show A.units+3+16*k+200<_;lia⟩
theorem vT{C:bn}:(A.under (.builtin "type.__call__" ⟨.ref C::us,kw⟩)).depth=A.depth+1:=by
 first|rfl|simp[Around.under,Code.weight,Code.isCreation,Code.isGuard,Code.isCaller,Code.frames,Code.isFrame,guardIds]
theorem vU{C:bn}:(A.under (.builtin "type.__call__" ⟨.ref C::us,kw⟩)).units=A.units+1:=by
 first|rfl|simp[Around.under,Code.cUnits,Code.frames,Code.isFrame]
theorem Room.make(r:Room (k+1) A)(C:bn)(us:ab bb)(kw:ab (Str×bb)):Room k (A.under (.builtin "type.__call__" ⟨.ref C::us,kw⟩)) :=
 ⟨r.hd,by have:=r.dp;rw[vT];lia,by have:=r.un;rw[vU];lia⟩
theorem Room.depth{k:Nat}{A:Around}(r:Room k A):A.depth<recursionLimit:=by have:=r.dp;lia
theorem Room.units{k:Nat}{A:Around}(r:Room k A):A.units+64<cLine:=by have:=r.un;lia
def tNil:TA:=λ_ H Q=>Q [] H
def Gm(ta:TE)(tr:TA):TA:=λσ H Q=>ta σ H λx c=>tr σ c λl d=>Q (x::l) d
section
variable{X:Cx}{te:TE}{t:TA}
theorem bD:PA X [] tNil:=λ_ _ _ _ H Q I h=>Calls.spliced_nil ⟨[],H,I,.nil,h⟩
theorem aQ(l:PE X e te)(U:PA X es t)(hs:starEach (e::es) X.env=(false,eval e X.env)::starEach es X.env:=by rfl):PA X (e::es) (Gm te t):=by intro pos pins s σ H Q I h;rw[hs];refine Calls.spliced_cons (thn (l pins s σ H _ I h) λu B Y=>?_);obtain⟨x,c,J,q,m⟩:=Y;exact thnE (U pos pins B σ c _ J m) λus s2 G d L z n=>⟨x::G,d,L,.cons q z,n⟩
def tTup(t:TA):TE:=λσ H Q=>t σ H λd c=>d.length<=sizeLine/\∀p,c p=none->Q (.ref p) (upd c p (.tup d))
def tLst(t:TA):TE:=λσ H Q=>t σ H λd c=>d.length<=sizeLine/\∀p,c p=none->Q (.ref p) (upd c p (.lst d))
theorem Cd{x1}(h:PA X es t):PE X (.Tuple es x1 pos) (tTup t):=by intro pins s σ H Q I U;refine wpAny_Tuple_spliced (thn (h pos pins s σ H _ I U) λus c ⟨l,d,J,r,z,q⟩=>⟨by rw[←r.length];exact z,?_⟩);have L:d c.heap.objs.size=none:=J.hok.fresh (zzq _);refine⟨.ref c.heap.objs.size,upd d c.heap.objs.size (.tup l),J.laid (λb u e=>zzm _ e) (zzq _) ?_,rfl,q _ L⟩;exact⟨z,us,r,⟨_,zzE _ rfl,rfl,_,rfl⟩⟩
theorem ug(h:PA X es t):PE X (.List es pos) (tLst t):=by intro pins s σ H Q I U;refine wpAny_List_spliced (thn (h pos pins s σ H _ I U) λus c ⟨l,d,J,r,z,q⟩=>⟨by rw[←r.length];exact z,?_⟩);have L:d c.heap.objs.size=none:=J.hok.fresh (zzq _);refine⟨.ref c.heap.objs.size,upd d c.heap.objs.size (.lst l),J.laid (λb u e=>zzm _ e) (zzq _) ?_,rfl,q _ L⟩;exact⟨z,us,0,r,zzE _ rfl⟩
end
noncomputable abbrev Sp:=ab V->Hp->VK->XK->Prop
variable{sp sp':Sp}
noncomputable abbrev CXT:=ab Env->Hp->bx->XK->bb->bx->Prop
variable{CX:CXT}
structure Env0(P:Program)(w:World)(K:zwW)(mg:Str->Option Value)(base:Heap)(A:Around)(outer:List Env)(s:Shared)(H:Hp):Prop where
 frames:A.frames=some outer
 mod:Mod K mg base
 bs:∀b o,base.get? b=some o->s.heap.get? b=some o/\H b=none
 bsz:base.objs.size <= s.heap.objs.size
 funs:s.heap.FunFrames base outer
 frf:∀b∈frs outer,H b=none
 hok:HOk P w H s.heap
 bare:AllBare s.gens
def CE(outer:ab Env)(P:ef)(w:World)(H:Hp)(s:bx)(Q:VK)(u:bb)(s':bx):Prop :=
 ∃v H',s'.os=s.os/\AllBare s'.gens/\Un (frs outer) [] H H' s.heap s'.heap/\HOk P w H' s'.heap/\RelV v u/\Q v H'
def CR(CX:CXT)(outer:ab Env)(P:ef)(w:World)(H:Hp)(s:bx)(Q:VK)(E:XK)(r:Result)(s':bx):Prop :=
 match r with
 |.ok (.ret u)=>CE outer P w H s Q u s'|.ok _=>False|.error e=>CX outer H s E e s'
structure FnOk(P:Program)(w:World)(K:zwW)(mg:Str->Option Value)(base:Heap)(CX:CXT)(k:Nat)(f:Addr)(fd:FuncData)(ps:List Str)(sp:Sp):Prop where
 len:∀vs H Q E,sp vs H Q E->vs.length=ps.length
 run:∀(A:Around) (outer:List Env) (s:Shared) (H:Hp) (args:Args) (us:List Value) (vs:List V) (Q:VK) (E:XK),Room k A->Env0 P w K mg base A outer s H->BindsTo s fd args (ps.zip us)->Vals vs us->sp vs H Q E ->
  codeAny (model P w) A (.call (.ref f) args) (CR CX outer P w H s Q E) s
theorem FnOk.imp{P:ef}{K:zwW}{base:cm}{f:bn}{fd:ck}(F:FnOk P w K mg base CX k f fd ps sp)(h:∀vs H Q E,sp' vs H Q E->sp vs H Q E):FnOk P w K mg base CX k f fd ps sp' :=
 ⟨λvs H Q E q=>F.len vs H Q E (h _ _ _ _ q),λA c s H args us vs Q E L d J U l=>F.run A c s H args us vs Q E L d J U (h _ _ _ _ l)⟩
theorem Env0.make{P:ef}{K:zwW}{c:ab Env}(e:Env0 P w K mg h A c s H)(C:bn)(us:ab bb)(kw:ab (Str×bb)) :
  Env0 P w K mg h (A.under (.builtin "type.__call__" ⟨.ref C::us,kw⟩)) c s H:=⟨by first|exact e.frames|(simpa[Around.under,Code.envs,Code.isFrame,pushEnvs]using e.frames),e.mod,e.bs,e.bsz,e.funs,e.frf,e.hok,e.bare⟩
section
variable{X:Cx}{σ:St}{H:Hp}{s':bx}
theorem Inv.env0(I:Inv X pins σ H s):Env0 X.prog X.w X.K X.mg X.base X.A X.stack s H :=
 ⟨I.ok.frames,I.ok.mod,I.bs,zzl I.ok.bsz I.sz,I.stack,I.stkFree,I.hok,I.bare⟩
theorem Inv.after{Q:VK}(I:Inv X pins σ H s)(h:CE X.stack X.prog X.w H s Q u s'):EP X pins σ Q u s':=by obtain⟨v,H',os,bare,un,c,r,q⟩:=h;obtain⟨hh,g,d,t,J⟩:=s';obtain rfl:J=s.os:=os;exact⟨v,H',I.call un c bare (λb z=>absurd z (by simp)),r,q⟩
end
def Gn(sp:Sp)(dvs:ab V)(E:XK)(t:TA):TE:=λσ H Q=>t σ H λvs c=>sp (vs++dvs) c Q E
def Jt(C:bn)(m:Str)(sp:Sp)(dvs:ab V)(E:XK)(ta:TE)(t:TA):TE:=λσ H Q=>ta σ H λx c=>∃a dx fs,x=.ref a/\c a=some (.ins C dx fs)/\fs.lookup m=none /\
 t σ c λvs d=>sp (x::(vs++dvs)) d Q E
def Ju(C:bn)(sp:Sp)(dvs:ab V)(E:XK)(t:TA):TE:=λσ H Q=>t σ H λvs c=>∀x dx,c x=none->c dx=none->dx≠x ->
 sp (.ref x::(vs++dvs)) (upd (upd c dx (.own x)) x (.ins C dx [])) (λv d=>v=.non/\Q (.ref x) d) E
def Binds(K:zwW)(fd:ck)(ps:ab Str)(ds:ab bb):Prop :=
 ∀(s:bx) (us:ab bb),K.In s.heap->(us++ds).length=ps.length->BindsTo s fd ⟨us,[]⟩ (ps.zip (us++ds))
theorem Binds.all{K:zwW}{fd:ck}(h:∀us:ab bb,us.length=ps.length->bindArgs fd ⟨us,[]⟩=pure (ps.zip us)):Binds K fd ps []:=λs us _ c=>by rw[zzs]at c ⊢;exact .of_eq (h us c)
def lO(CX:CXT)(X:Cx)(E:XK):Prop:=∀(pins:ab (bn×Obj)) (σ:St) (H:Hp) (s:bx) (e:bb) (s':bx),Inv X pins σ H s->CX X.stack H s E e s'->X.xe e s'
section
variable{X:Cx}{CX:CXT}{k:Nat}{f:bn}{fd:ck}{ps:ab Str}{sp:Sp}{dvs:ab V}{ds:ab bb}{E:XK}{x m:Str}{apos:Pos}{o:dy}{ta:TE}{t:TA}
theorem Ce{Q:VK}(F:FnOk X.prog X.w X.K X.mg X.base CX k f fd ps sp)(d:Room k X.A)(Y:Binds X.K fd ps ds)(hd:Vals dvs ds)(l:lO CX X E)(I:Inv X pl σ H s)(r:Vals vs us)(h:sp (vs++dvs) H Q E):wpAny (model X.prog X.w) X.A (call (.ref f) us) (EP X pl σ Q) X.xe s:=by
 have L:Vals (vs++dvs) (us++ds):=r.append hd;have c:(us++ds).length=ps.length:=by rw[←L.length];exact F.len _ _ _ _ h
 refine wpAny_call (zxo (F.run X.A X.stack s H ⟨us,[]⟩ (us++ds) (vs++dvs) Q E d I.env0 (Y s us I.kIn c) L h) λr s' J=>?_);cases r with
 |error e=>exact l pl σ H s e s' I J|ok U =>
  cases U with
  |ret u=>exact I.after J|next=>exact False.elim J|brk=>exact False.elim J|cont=>exact False.elim J
theorem mR(F:FnOk X.prog X.w X.K X.mg X.base CX k f fd ps sp)(z:Room k X.A)(d:Gl X x)(n:X.mg x=some (.ref f))(l:PySem.W.keepIn X.K (.ref f)=true)(Y:Binds X.K fd ps ds)(hd:Vals dvs ds)(B:lO CX X E)
  (c:PA X (e::es) t) (J:(x==("__debug__" : Str))=false:=by decide) (he:starEach (e::es) X.env=(false,eval e X.env)::starEach es X.env:=by rfl) (L:(backTo pos (starEach es X.env)).any (·.1)=false:=by rfl) :
  PE X (.Call (.Name x p) (e::es) [] pos) (Gn sp dvs E t):=by
 intro pins s σ H Q I h;refine zwi (mL I d n ?_ J);refine zwS I.ok.mod.kin l (thnE (c pos pins s σ H _ I h) λus s1 vs H1 U r q=>⟨U.kIn,?_⟩) he L;exact Ce F z Y hd B U r q
theorem Dv{pl:Sem Bool}(he:PE X o ta)(c:Cls X.K C)(d:Meth X.K C m f)(F:FnOk X.prog X.w X.K X.mg X.base CX k f fd ps sp)(g:Room k X.A)(b:Binds X.K fd ps ds)(hd:Vals dvs ds)(j:lO CX X E)(T:PA X (e::es) t)
  (L:starEach (e::es) X.env=(false,eval e X.env)::starEach es X.env:=by rfl) (J:(backTo pos (starEach es X.env)).any (·.1)=false:=by rfl)
  (i:eval (.Call (.Attribute o m apos) (e::es) [] pos) X.env=(do
   let n ←eval o X.env
   standAt apos.atName
   let (f,first) ←holding [n] (getMethod n m pl)
   callWith pos f first (backTo pos (starEach (e::es) X.env)) (backToKw pos (keywordEach [] X.env))):=by rfl) :
  PE X (.Call (.Attribute o m apos) (e::es) [] pos) (Jt C m sp dvs E ta t):=by
 intro pins s σ H Q I h;refine PySem.W.methodCall_KW (thn (he pins s σ H _ I h) λu M p=>?_) i;obtain⟨x,z,U,y,a,dx,fs,G,B,l,q⟩:=p;subst G;obtain rfl:u=Value.ref a:=y;refine vR U B c d l ?_;refine zwS I.ok.mod.kin d.kp (thnE (T pos pins M σ z _ U q) λus s2 vs H2 Y r v=>⟨Y.kIn,?_⟩) L J;exact Ce (vs:=.ref a::vs) F g b hd j Y (.cons rfl r) v
structure Mk(K:zwW)(C f:Addr):Prop where
 makes:PySem.W.makesIn K C=true
 init:PySem.W.findIn K (.ref C) "__init__" = some (some (.ref f))
 fn:PySem.W.isFn K (.ref f)=true
 kp:PySem.W.keepIn K (.ref C)=true
theorem Ax{Q:VK}(M:Mk X.K C f)(F:FnOk X.prog X.w X.K X.mg X.base CX k f fd ps sp)(B:Room (k+1) X.A)(q:Binds X.K fd ps ds)(hd:Vals dvs ds)(G:lO CX X E)(I:Inv X pl σ H s)(r:Vals vs us)(h:∀x dx,H x=none->H dx=none->dx≠x->sp (.ref x::(vs++dvs)) (upd (upd H dx (.own x)) x (.ins C dx [])) (λv c=>v=.non/\Q (.ref x) c) E) :
  wpAny (model X.prog X.w) X.A (call (.ref C) us) (EP X pl σ Q) X.xe s:=by
 have U:=h (s.heap.objs.size+1) s.heap.objs.size (I.hok.fresh (zxb _)) (I.hok.fresh (zzq _)) (zzL (zxn _));have L:=Inv.made (C:=C) I;have Y:Vals (V.ref (s.heap.objs.size+1)::(vs++dvs)) (Value.ref (s.heap.objs.size+1)::(us++ds)):=.cons rfl (r.append hd);have z:(Value.ref (s.heap.objs.size+1)::us++ds).length=ps.length:=by have e:=Y.length;rw[F.len _ _ _ _ U]at e;exact e.symm
 refine wpAny_call (Aw I.kIn M.makes M.init (beq_iff_eq.mp M.fn) (zxo (F.run _ X.stack _ _ ⟨Value.ref (s.heap.objs.size+1)::us,[]⟩ (Value.ref (s.heap.objs.size+1)::(us++ds)) _ _ E (B.make C us [])
  (L.env0.make C us []) (q _ (Value.ref (s.heap.objs.size+1)::us) L.kIn z) Y U) λr s' J=>?_))
 cases r with
 |error e=>exact G pl σ _ _ e s' L J|ok n =>
  cases n with
  |ret u =>
   obtain⟨v,H',d,a,l,T⟩:=L.after J;subst l;exact⟨a,⟨V.ref (s.heap.objs.size+1),H',d,rfl,T⟩⟩
  |next=>exact False.elim J
  |brk=>exact False.elim J|cont=>exact False.elim J
theorem Dw(M:Mk X.K C f)(F:FnOk X.prog X.w X.K X.mg X.base CX k f fd ps sp)(n:Room (k+1) X.A)(d:Gl X x)(l:X.mg x=some (.ref C))(Y:Binds X.K fd ps ds)(hd:Vals dvs ds)(z:lO CX X E)
  (c:PA X (e::es) t) (J:(x==("__debug__" : Str))=false:=by decide) (he:starEach (e::es) X.env=(false,eval e X.env)::starEach es X.env:=by rfl) (L:(backTo pos (starEach es X.env)).any (·.1)=false:=by rfl) :
  PE X (.Call (.Name x p) (e::es) [] pos) (Ju C sp dvs E t):=by
 intro pins s σ H Q I h;refine zwi (mL I d l ?_ J);refine zwS I.ok.mod.kin M.kp (thnE (c pos pins s σ H _ I h) λus s1 vs H1 U r q=>⟨U.kIn,?_⟩) he L;exact Ax M F n Y hd z U r q
end
structure FnScope(N P:List Str)(sc:Scope):Prop where
 kind:sc.kind=.function
 co:sc.isCoroutine=false
 gen:sc.isGenerator=false
 nd:N.Nodup
 pre:N.take P.length=P
 par:∀x∈P,sc.names.lookup x=some .local∨sc.names.lookup x=some .cell
 nofree:∀y∈sc.names,y.2 ≠ .free
theorem oN{kindOf:Str->ca NameKind}{x:Str}:∀{binds:ab (Str×bb)} {m:Str->ca bb},(∀v,(x,v)∉binds)->bindL kindOf binds m x=m x
 |[],_,_=>rfl|(n,v)::r,m,h=>by
  unfold bindL;rw[oN λw J=>h w (zzb _ J)];split
  ·have:x≠n:=by rintro rfl;exact h v zze
   simp[this]
  ·rfl
theorem oO{kindOf:Str->ca NameKind}{x:Str}:∀{binds:ab (Str×bb)} {m:Str->ca bb},(∀v,(x,v)∉binds)->bindC kindOf binds m x=m x
 |[],_,_=>rfl|(n,v)::r,m,h=>by
  unfold bindC;rw[oO λw J=>h w (zzb _ J)];split
  ·rfl
  ·have:x≠n:=by rintro rfl;exact h v zze
   simp[this]
theorem oP{kindOf:Str->ca NameKind}{x:Str}{v:bb}:∀{P:ab Str} {vs:ab bb} {i:Nat} {m:Str->ca bb},P.Nodup->P[i]?=some x->vs[i]?=some v->kindOf x=some .local ->
  bindL kindOf (P.zip vs) m x=some v
 |[],_,_,_,_,h,_,_=>by simp at h
 |_::_,[],_,_,_,_,h,_=>by simp at h
 |p::P,w::vs,0,m,l,c,d,J=>by simp at c d;subst c;subst d;show bindL kindOf ((p,w)::P.zip vs) m p=_;unfold bindL;rw[oN λv L=>(zzT.mp l).1 (zyT L).1,zzk J];simp
 |p::P,w::vs,i+1,m,l,c,d,J=>by unfold bindL;exact oP (zzT.mp l).2 (by simpa using c) (by simpa using d) J
theorem oQ{kindOf:Str->ca NameKind}{x:Str}{v:bb}:∀{P:ab Str} {vs:ab bb} {i:Nat} {m:Str->ca bb},P.Nodup->P[i]?=some x->vs[i]?=some v->kindOf x≠some .local ->
  bindC kindOf (P.zip vs) m x=some v
 |[],_,_,_,_,h,_,_=>by simp at h
 |_::_,[],_,_,_,_,h,_=>by simp at h
 |p::P,w::vs,0,m,l,c,d,J=>by simp at c d;subst c;subst d;show bindC kindOf ((p,w)::P.zip vs) m p=_;unfold bindC;rw[oO λv L=>(zzT.mp l).1 (zyT L).1,zzh J];simp
 |p::P,w::vs,i+1,m,l,c,d,J=>by unfold bindC;exact oQ (zzT.mp l).2 (by simpa using c) (by simpa using d) J
noncomputable def start(N:ab Str)(vs:ab V):St:=vs.map some++List.replicate (N.length - vs.length) none
noncomputable def cxOf(CX:CXT)(P:ef)(w:World)(K:zwW)(mg:Str->ca bb)(base:cm)(N:ab Str)(qual:Str)(scope:Scope)(f:bn)(cd:bb)(A:Around)(outer:ab Env)(s:bx)(H:Hp)(E:XK):Cx where
 prog:=P
 w:=w
 K:=K
 mg:=mg
 base:=base
 A:=A.deeper (envOfC qual scope s.heap.objs.size f cd)
 N:=N
 s₀:=s
 H₀:=H
 env:=envOfC qual scope s.heap.objs.size f cd
 outer:=outer
 stack:=envOfC qual scope s.heap.objs.size f cd::outer
 ex:=[]
 calm:=true
 fn:=λ_=>true
 pn:=[]
 xe:=λe s'=>wpAny (model P w) (A.deeper (envOfC qual scope s.heap.objs.size f cd)) (leaving (envOfC qual scope s.heap.objs.size f cd) e) (λ_ J=>CX outer H s E e J) (λL J=>CX outer H s E L J) s'
theorem uh{n:Nat}{x:Str}(h:sc.names.lookup x=some .cell):∃c,(cellsFrom n sc.names []).lookup x=some c:=by have q:=PySem.W.cellsFrom_some sc.names n [] (.inl h);exact Option.isSome_iff_exists.mp q
theorem xG{P:ef}{K:zwW}{base:cm}{f:bn}{d:ab Env}{E:XK}(S:FnScope N ps sc)(hd:A.handled=none)(J:Env0 P w K mg base A d s H)(hl:vs.length=ps.length)(r:Vals vs us)(x:InCallC s s.heap.objs.size (bindL (envOfC j sc s.heap.objs.size f cd).kindOf (ps.zip us) λ_=>none) (cellsFrom (s.heap.objs.size+1) sc.names []) (bindC (envOfC j sc s.heap.objs.size f cd).kindOf (ps.zip us) λ_=>none) s') :
  Inv (cxOf CX P w K mg base N j sc f cd A d s H E) [] (start N vs) H s':=by
 have hpl:ps.length<=N.length:=by have:=congrArg List.length S.pre;rw[zyM]at this;lia
 obtain⟨m,tk,rfl,B⟩:=x.done;have U:∀b:bn,b∉(cxOf CX P w K mg base N j sc f cd A d s H E).ex:=λb z=>absurd (show b∈([]:ab bn) from z) (by simp);refine⟨⟨J.mod,S.kind,rfl,rfl,zzq _,λy z c m l=>?_,λy L=>?_,λy c _ h=>?_,λ_=>hd,Around.frames_deeper J.frames,.inr ⟨rfl,rfl⟩,λb z=>absurd z (U b),J.bs,J.bsz,λb _ _=>U b,λb z=>absurd z (U b),J.funs,J.frf⟩,
  rfl,J.bare,Un.kept B,⟨_,x.toInCall.ns,λi y v m l h3=>?_⟩,λy c h=>⟨_,x.cell y c h⟩,J.hok.fresh (zzq _),λy c h=>?_,λp Y=>absurd (show p∈([]:ab (bn×Obj)) from Y) (by simp),J.hok.kept B,?_⟩
 ·exact name_of_addr x.apart (zyi m) (zyi l)
 ·have L:sc.names.lookup y=some .cell∨sc.names.lookup y=some .free:=L;rcases L with L|L
  ·exact uh L
  ·exact absurd rfl (S.nofree _ (zyi L))
 ·exact Nat.le_of_lt (x.above y c (zyi h))
 ·have hi:i<vs.length:=by
   unfold start at l;by_cases hi:i<vs.length
   ·exact hi
   ·rw[zzK (by simpa using hi)]at l;rw[List.getElem?_replicate]at l;split at l<;>cases l
  have I:vs[i]?=some v:=by
   unfold start at l;rw[zyB (by simpa using hi),zzr]at l;cases e:vs[i]? with
   |none=>rw[e]at l;cases l
   |some a=>rw[e]at l;cases l;rfl
  obtain⟨u,G,T⟩:=r.get I;have Y:ps[i]?=some y:=by rw[←S.pre,List.getElem?_take_of_lt (by lia)];exact m
  have n:ps.Nodup:=by rw[←S.pre];exact S.nd.sublist (List.take_sublist _ _)
  refine⟨u,T,?_⟩;rcases S.par y (zyb Y) with k|k
  ·exact .inl ⟨k,oP n Y G k⟩
  ·obtain⟨c,e⟩:=uh k;refine .inr ⟨.inl k,c,e,?_⟩;have q:=x.cell y c e;rw[oQ n Y G (by show sc.names.lookup y≠_;rw[k];decide)]at q;exact q
 ·exact J.hok.fresh (Nat.le_of_lt (x.above y c (zyi h)))
 ·unfold start;show _=N.length;rw[zzg,zza,zxI];lia
theorem Go{P:ef}{K:zwW}{f:bn}{d:Str}{L:Arguments}{body:ab Stmt}{doc l ct oc:bb}{an od:ca bn}{T:Array (ca bb)}(lk:K.lookup f=some ⟨oc,od,.func (PySem.W.fnOf j d L body sc dV cd doc pm an l ct),T⟩)(p:PySem.W.codeIn K l d=true)(S:FnScope N ps sc)(len:∀vs H Q E,sp vs H Q E->vs.length=ps.length)(U:∀(A:Around) (c:ab Env) (s:bx) (H:Hp) (vs:ab V) (Q:VK) (E:XK),Room k (A.deeper (envOfC d sc s.heap.objs.size f l))->sp vs H Q E ->
   ∃t,PSs (cxOf CX P w K mg h N d sc f l A c s H E) body t/\t {nx:=λ_ H'=>Q .non H',rt:=Q} (start N vs) H) :
  FnOk P w K mg h CX (k+1) f (PySem.W.fnOf j d L body sc dV cd doc pm an l ct) ps sp:=by
 refine⟨len,λA c s H args us vs Q E G B hb r i=>?_⟩;have hl:=len _ _ _ _ i;have g:K.In s.heap:=B.mod.kin.keeps λb o e=>(B.bs b o e).1;have C:s.heap.NoLimit:=B.mod.nolimit.keeps λb o e=>(B.bs b o e).1;have Y:∀y∈ps.zip us,sc.names.lookup y.1=some .local∨(sc.names.lookup y.1=some .cell/\((cellsFrom (s.heap.objs.size+1) sc.names []).lookup y.1).isSome=true):=λ⟨n,v⟩ hy=>by
  rcases S.par n (zyT hy).1 with q|q
  ·exact .inl q
  ·exact .inr ⟨q,PySem.W.cellsFrom_some _ _ _ (.inl q)⟩
 refine codeAny_call_function G.depth (g _ _ lk) rfl S.co S.gen rfl (PySem.W.codeRec_of g p) (hb _ _ _ _ ?_);refine wpAny_newFunctionEnv_cells S.kind Y λenv he s1 x=>?_;subst he;refine⟨C.keeps x.toInCall.keep,codeAny_func ?_⟩;obtain⟨t,ht,hq⟩:=U A c s H vs Q E (G.deeper _) i;have I:Inv (cxOf CX P w K mg h N d sc f l A c s H E) [] (start N vs) H s1:=xG S G.hd B hl r x;refine zxS (ht [] s1 (start N vs) H _ I hq) (λM s' z=>?_) λe s' z=>z;have fin:∀{m:St} {H':Hp} {v:V} {u:bb},Inv (cxOf CX P w K mg h N d sc f l A c s H E) [] m H' s'->RelV v u->Q v H'->CE c P w H s Q u s' :=
  λ{m H' v u} J a q=>⟨v,H',J.os,J.bare,J.base,J.hok,a,q⟩
 cases M with
 |ret u =>
  obtain⟨v,m,H',J,a,q⟩:=z;exact fin J a q
 |next =>
  obtain⟨m,H',J,q⟩:=z;exact fin (v:=V.non) J rfl q
 |brk =>
  obtain⟨_,_,_,q⟩:=z;exact False.elim q
 |cont =>
  obtain⟨_,_,_,q⟩:=z;exact False.elim q
section
variable{X:Cx}{x:Str}{t:TA}{id T:String}{r:ab V->Hp->VK->Prop}
def tCB(r:ab V->Hp->VK->Prop)(t:TA):TE:=λσ H Q=>t σ H λvs c=>r vs c Q
theorem fg(Y:cr X (.builtin id) r)(l:Gl X x)(m:X.mg x=none)(q:bootBuiltins x=some (.builtin id))(d:PA X (e::es) t)(n:x ≠ "__name__":=by decide)(J:(x==("__debug__" : Str))=false:=by decide)
  (he:starEach (e::es) X.env=(false,eval e X.env)::starEach es X.env:=by rfl) (L:(backTo pos (starEach es X.env)).any (·.1)=false:=by rfl):PE X (.Call (.Name x p) (e::es) [] pos) (tCB r t):=by
 intro pins s σ H Q I h;refine zwi (iE I l m q ?_ n J);exact PyProof.Rows.callWith_builtin1 (thnE (d pos pins s σ H _ I h) λus G vs c U B z=>Y pins G σ c vs us Q U B z) he L
theorem gj(Y:cr X (.type T) r)(l:Gl X x)(m:X.mg x=none)(q:bootBuiltins x=some (.type T))(d:PA X (e::es) t)(n:x ≠ "__name__":=by decide)(J:(x==("__debug__" : Str))=false:=by decide)
  (he:starEach (e::es) X.env=(false,eval e X.env)::starEach es X.env:=by rfl) (L:(backTo pos (starEach es X.env)).any (·.1)=false:=by rfl):PE X (.Call (.Name x p) (e::es) [] pos) (tCB r t):=by
 intro pins s σ H Q I h;refine zwi (iE I l m q ?_ n J);exact PyProof.Rows.callWith_type1 (thnE (d pos pins s σ H _ I h) λus G vs c U B z=>Y pins G σ c vs us Q U B z) he L
end
end L2
namespace HT
open PySem PyProof.Rows
noncomputable def lexLt:ab Int->ab Int->Bool
 |[],[]=>false|[],_::_=>true|_::_,[]=>false|x::a,y::b=>if x=y then lexLt a b else decide (x<y)
theorem lexLt_cons(x y:Int)(xs a:ab Int):lexLt (x::xs) (y::a)=if x=y then lexLt xs a else decide (x<y):=rfl
section
variable{prog:ef}{w:World}{A:Around}{E:bb->bx->Prop}{s:bx}
theorem cat_tup{t b:bn}{vs ws:ab bb}{Q:bb->bx->Prop}(q:IsTup s.heap t vs.toArray)(o:IsTup s.heap b ws.toArray)(d:vs≠[])
  (l:ws=[]->Q (.ref t) s) (m:ws≠[]->Q (.ref s.heap.objs.size) {s with heap:=s.heap.push {cls:=.type "tuple",data:=.seq (vs++ws).toArray} })
  (k:vs.length+ws.length<=sizeLine):wpAny (model prog w) A (binaryOp .Add (.ref t) (.ref b)) Q E s:=by
 obtain⟨⟨cls,c,data,h⟩,a,p,n,hd⟩:=id q;obtain⟨⟨cls2,L,data2,U⟩,J,i,g,j⟩:=id o;subst p hd i j;have e:vs.toArray++ws.toArray=(vs++ws).toArray:=by simp
 by_cases Y:ws=[]
 ·exact concat_meets ⟨_,a,rfl⟩ ⟨_,J,rfl⟩ noFill_tuple_add seq_tuple_add zwt zwl (zwj _ _)
   (tuple_addW1 t b vs.toArray ws.toArray n g c L h U (by simpa using d) (by simp[Y])) ⟨a,J,l Y⟩
 ·refine concat_meets ⟨_,a,rfl⟩ ⟨_,J,rfl⟩ noFill_tuple_add seq_tuple_add zwt zwl (zwj _ _)
   (tuple_addW2 t b vs.toArray ws.toArray n g c L h U (by simpa using d) (by simpa using Y) (by rw[zzB,zzB];exact k)) ⟨a,J,?_⟩
  rw[e];exact m Y
noncomputable def sIx(n d:Nat):ca Int->Nat
 |none=>d|some v=>if v<0 then(v+(n:Int)).toNat else min v.toNat n
theorem sIx_none(n d:Nat):sIx n d none=d:=rfl
theorem sIx_nat(n d k:Nat):sIx n d (some (k:Int))=min k n:=by show (if (k:Int)<0 then((k:Int)+(n:Int)).toNat else min (k:Int).toNat n)=min k n;rw[zzh (by lia),zzC]
theorem slicePart_{v:bb}{o:ca Int}{Q:ca Int->bx->Prop}(p:IsPart v o)(h:Q o s):wpAny (model prog w) A (Builtin.Slice.slicePartIndex v) Q E s:=by
 cases p with
 |none=>exact slicePart_none h|int i t=>exact slicePart_int h
end
end HT
namespace L2
open PySem PySem.Spec PyProof.Rows
variable{A:Around}{E Q:bb->bx->Prop}{H H':Hp}{T:String}{a b:bn}{its us:ab bb}{kvs:ab (ab Key×V)}{n t':Nat}{r r':R2}{s:bx}{u v:bb}{w:World}{x y:V}{xs:ab (ab Key×bn×bb)}{ys:ab V}{α:Type}{σ:St}
variable{X:Cx}{e o:dy}{pos:Pos}{a:bn}{pins:ab (bn×Obj)}{σ:St}{H:Hp}{s:bx}
noncomputable abbrev TO:=St->Hp->(ca Int->Hp->Prop)->Prop
def PO(X:Cx)(e:ca dy)(t:TO):Prop :=
 ∀(pins:ab (bn×Obj)) (s:bx) (σ:St) (H:Hp) (Q:ca Int->Hp->Prop),Inv X pins σ H s->t σ H Q ->
  wpAny (model X.prog X.w) X.A (evalPart e X.env) (λu c=>∃o H',Inv X pins σ H' c/\IsPart u o/\Q o H') X.xe s
def Dx:TO:=λ_ H Q=>Q none H
def Jv(t:TE):TO:=λσ H Q=>t σ H λx c=>∃i,x=.int i/\Q (some i) c
theorem gT{ns:ab Int}:∀{us:ab bb},Vals (ns.map V.int) us->IntsAre us ns:=by
 induction ns with
 |nil=>intro us r;cases r;exact .nil
 |cons n ns J =>
  intro us r;cases r with
  |cons L U =>
   obtain⟨t,e⟩:=L;subst e;exact .cons n t (J U)
section
variable{te:TE}{lo hi:ca dy}{tl th:TO}{p2:Pos}
theorem rD:PO X none Dx:=by intro pins s σ H Q I h;exact zzt ⟨none,H,I,.none,h⟩
theorem Dy(h:PE X e te):PO X (some e) (Jv te):=by intro pins s σ H Q I L;refine thn (h pins s σ H _ I L) λu s1 U=>?_;obtain⟨x,c,J,d,Y⟩:=U;obtain⟨i,rfl,q⟩:=Y;obtain⟨t,rfl⟩:=d;exact⟨some i,c,J,.int i t,q⟩
def SlR(X:Cx)(r:V->ca Int->ca Int->Hp->VK->Prop):Prop :=
 ∀(pins:ab (bn×Obj)) (s:bx) (σ:St) (H:Hp) (x:V) (v vl J:bb) (lo hi:ca Int) (c:bn) (Q:VK),Inv X pins σ H s->RelV x v->s.heap.IsSliceOf c vl J .none->IsPart vl lo->IsPart J hi->r x lo hi H Q ->
  ∃T id,typeLookup (.type T) "__getitem__" = pure (some (.builtin id))/\s.TypeIs v T/\wpAny (model X.prog X.w) X.A (getItem v (.ref c)) (EP X pins σ Q) X.xe s
def tSl(r:V->ca Int->ca Int->Hp->VK->Prop)(te:TE)(tl th:TO):TE:=λσ H Q=>te σ H λx c=>tl σ c λl d=>th σ d λu g=>r x l u g Q
theorem ui{r:V->ca Int->ca Int->Hp->VK->Prop}(B:SlR X r)(he:PE X e te)(z:PO X lo tl)(G:PO X hi th):PE X (.Subscript e (.Slice lo hi none p2) pos) (tSl r te tl th):=by intro pins s σ H Q I h;refine Subscript_ (thn (he pins s σ H _ I h) λv y J=>?_);obtain⟨x,g,U,w,a⟩:=J;refine wpAny_Slice (thnE (z pins y σ g _ U a) λvl A l i Y M n=>thn (G pins A σ i _ Y n) λL c J=>?_);obtain⟨u,d,j,N,o⟩:=J;refine zzt ?_;have k:Inv X pins σ d {c with heap:=c.heap.push {cls:=.type "slice",data:=.fields #[vl,L,.none]} }:=j.kept λb ob q=>zzm _ q;obtain⟨T,id,m,C,p⟩:=B pins {c with heap:=c.heap.push {cls:=.type "slice",data:=.fields #[vl,L,.none]} } σ d x v vl L l u c.heap.objs.size Q k w (Heap.IsSliceOf.new ..) M N o;exact tail_any C m p (by with_unfolding_all rfl)
noncomputable def cutV(xs:ab V)(lo hi:ca Int):ab V:=(xs.drop (HT.sIx xs.length 0 lo)).take (HT.sIx xs.length xs.length hi - HT.sIx xs.length 0 lo)
theorem rE(xs:ab V)(lo hi:ca Int):(cutV xs lo hi).length<=xs.length:=by unfold cutV;rw[zyM,List.length_drop];lia
def Gp(K:zwW):R2:=λx y H Q=>∃a b xs ys,x=.ref a/\y=.ref b/\SqT K H a xs/\SqT K H b ys/\xs≠[]/\xs.length+ys.length<=sizeLine /\
 (ys=[]->Q (.ref a) H)/\(ys≠[]->∀p,H p=none->Q (.ref p) (upd H p (.tup (xs++ys))))
theorem Vals.nil_iff{xs:ab V}(r:Vals xs us):us=[]↔xs=[]:=by
 cases r with
 |nil=>simp|cons _ _=>simp
theorem xH:OpR X (binaryOp .Add) (Gp X.K):=by intro pins s σ H x y v u Q I k l h;obtain⟨a,b,xs,ys,rfl,rfl,c,Y,d,U,i,j⟩:=h;cases k;cases l;obtain⟨its,L,g,_⟩:=I.tuple c;obtain⟨its2,J,p2,_⟩:=I.tuple Y;refine HT.cat_tup g p2 (λz=>d (L.nil_iff.mp z)) (λz=>⟨.ref a,H,I,rfl,i (J.nil_iff.mp z)⟩) (λz=>?_) (by rw[←L.length,←J.length];exact U);refine⟨.ref s.heap.objs.size,_,I.laid (λb ob q=>zzm _ q) (zzq _) ?_,rfl,j (λw=>z (J.nil_iff.mpr w)) _ (I.hok.fresh (zzq _))⟩;exact⟨by rw[zzg];exact U,_,L.append J,IsTup.new _ _⟩
end
noncomputable def ixN(n:Nat)(i:Int):ca Nat:=if 0<=i then(if i<n then some i.toNat else none) else if -(n:Int)<=i then some (i+n).toNat else none
noncomputable def atI{α:Type}(xs:ab α)(i:Int):ca α:=(ixN xs.length i).bind λj=>xs[j]?
theorem xI{n:Nat}{i:Int}(h:ixN n i=some t'):seqIndex? i n=some t'/\t'<n/\-(n:Int)<=i/\i<n:=by
 unfold ixN at h;by_cases h0:0<=i
 ·rw[zzk h0]at h;by_cases c:i<n
  ·rw[zzk c]at h;have e:i.toNat=t':=zzS h;exact⟨by rw[seqIndex_of h0 c,e],by lia,by lia,c⟩
  ·rw[zzh c]at h;cases h
 ·rw[zzh h0]at h;by_cases c : -(n:Int)<=i
  ·rw[zzk c]at h;have e:(i+n).toNat=t':=zzS h;exact⟨by rw[seqIndex_neg (by lia) c,e],by lia,c,by lia⟩
  ·rw[zzh c]at h;cases h
theorem jB{xs:ab α}{i:Int}{v:α}(h:atI xs i=some v):∃j,seqIndex? i xs.length=some j/\xs[j]?=some v/\j<xs.length/\-(xs.length:Int)<=i/\i<xs.length:=by
 unfold atI at h;cases e:ixN xs.length i with
 |none=>rw[e]at h;cases h
 |some j =>
  rw[e]at h;obtain⟨c,d,g,J⟩:=xI e;exact⟨j,c,h,d,g,J⟩
theorem atI_nat{xs:ab α}{j:Nat}{v:α}(h:xs[j]?=some v):atI xs (j:Int)=some v:=by
 have hj:j<xs.length:=(zzy.mp h).1;have e:ixN xs.length (j:Int)=some j:=by unfold ixN;rw[zzk (by lia),zzk (by lia)];simp
 unfold atI;rw[e];exact h
def eO(b:dy):Prop:=∀o i,subscripted b false o i=operate [o,i] (getItem o i)
def IxR(X:Cx)(r:R2):Prop :=
 ∀(value slice:dy) (pins:ab (bn×Obj)) (s:bx) (σ:St) (H:Hp) (x y:V) (v u:bb) (Q:VK),Inv X pins σ H s->RelV x v->RelV y u->r x y H Q ->
  subscripted slice false v u=operate [v,u] (getItem v u)->wpAny (model X.prog X.w) X.A (subscriptTail value slice v u) (EP X pins σ Q) X.xe s
def MtR(X:Cx)(id:String)(r:V->ab V->Hp->VK->Prop):Prop :=
 ∀(pins:ab (bn×Obj)) (s:bx) (σ:St) (H:Hp) (x:V) (xs:ab V) (v:bb) (us:ab bb) (Q:VK),Inv X pins σ H s->RelV x v->Vals xs us->r x xs H Q ->
  wpAny (model X.prog X.w) X.A (call (.builtin id) (v::us)) (EP X pins σ Q) X.xe s
section
variable{a b:dy}{ta tb:TE}
theorem IxR.or(h:IxR X r)(d:IxR X r'):IxR X (λx y H Q=>r x y H Q∨r' x y H Q):=by
 intro value slice pins s σ H x y v u Q I J L q c;rcases q with q|q
 ·exact h value slice pins s σ H x y v u Q I J L q c
 ·exact d value slice pins s σ H x y v u Q I J L q c
theorem kZ(U:IxR X r)(d:PE X a ta)(L:PE X b tb)(hs:eO b):PE X (.Subscript a b pos) (tOp r ta tb):=by intro pins s σ H Q I h;exact Subscript_ (binT d L I h λv u i x y c J Y g q=>U a b pins i σ c x y v u Q J Y g q (hs _ _))
def rIxL(K:zwW):R2:=λx y H Q=>∃p xs i v,x=.ref p/\y=.int i/\SqL K H p xs/\atI xs i=some v/\Q v H
def rIxT(K:zwW):R2:=λx y H Q=>∃p xs i v,x=.ref p/\y=.int i/\SqT K H p xs/\atI xs i=some v/\Q v H
def rIxS:R2:=λx y H Q=>∃z i c,x=.str z/\y=.int i/\z.length<=sizeLine/\atI z.cps.toList i=some c/\Q (.str ⟨#[c]⟩) H
theorem mS:IxR X (rIxL X.K):=by
 intro value slice pins s σ H x y v u Q I G M h g;obtain⟨p,xs,i,z,rfl,rfl,C,m,q⟩:=h;cases G;obtain⟨t,rfl⟩:=M;obtain⟨its,r,d,hz⟩:=I.list C;obtain⟨j,c,k,h3,Y,l⟩:=jB m;obtain⟨w,U,L⟩:=r.get k;have B:=r.length;have hn:=lN;have fin:EP X pins σ Q w s:=⟨z,H,I,L,q⟩;by_cases h0:0<=i
 ·have J:i.toNat=j:=by
   rw[seqIndex_of h0 l]at c;exact zzS c
  exact item_listR d.isList h0 (by lia) (by rw[J];simpa using U) fin g
 ·have J:(i+(its.toArray.size:Int)).toNat=j:=by
   rw[seqIndex_neg (by lia) Y]at c;rw[zzB,←B];exact zzS c
  exact zwu d.isList.typeIs slot_list_getitem.lookup
   (wpAny_getItem_list_neg d.isList (by lia) (by rw[zzB]<;>lia) (by lia) (by rw[J];simpa using U) ⟨rfl,fin⟩) g
theorem Gq:IxR X (rIxT X.K):=by
 intro value slice pins s σ H x y v u Q I Y B h m;obtain⟨p,xs,i,z,rfl,rfl,U,k,q⟩:=h;cases Y;obtain⟨t,rfl⟩:=B;obtain⟨its,r,c,hz⟩:=I.tuple U;obtain⟨j,d,g,h3,h4,h5⟩:=jB k;obtain⟨w,L,J⟩:=r.get g;have l:=r.length;have hn:=lN;have fin:EP X pins σ Q w s:=⟨z,H,I,J,q⟩;exact zwu c.typeIs slot_tuple_getitem.lookup
  (getItem_tuple c (by lia) (by lia) (by rw[zzB,←l];exact d) (by simpa using L) ⟨rfl,fin⟩) m
theorem Gr:IxR X rIxS:=by
 intro value slice pins s σ H x y v u Q I p B h m;obtain⟨z,i,c,rfl,rfl,hz,k,q⟩:=h;obtain⟨t,rfl⟩:=p;obtain⟨t',rfl⟩:=B;obtain⟨j,d,g,h3,U,Y⟩:=jB k;have l:z.cps.toList.length=z.length:=by simp[Str.length]
 rw[l]at d U Y;have hn:=lN;exact tail_any (zwE s z t) slot_str_getitem.lookup (getItem_str (by have J:decide (i < -(2^63:Int))=false:=zzv (by lia);have L:decide (i ≥ 2^63)=false:=zzv (by lia);rw[J,L,Bool.or_false]) (by rw[d];simpa using g) ⟨.str ⟨#[c]⟩,H,I.tok _,⟨_,rfl⟩,q⟩) m
theorem vV(its:ab bb)(n j:Nat)(u:bb):Obj.mapSeq (·.setIfInBounds j u) {cls:=.type "list",data:=.seq its.toArray n}={cls:=.type "list",data:=.seq (its.set j u).toArray n}:=by simp[Obj.mapSeq]
theorem Inv.lst{pins:ab (bn×Obj)}{σ:St}{H:Hp}{s:bx}{p:bn}{xs:ab V}(I:Inv X pins σ H s)(h:H p=some (.lst xs)) :
  ∃(its:ab bb) (n:Nat),Vals xs its/\s.heap.get? p=some {cls:=.type "list",data:=.seq its.toArray n}/\xs.length<=sizeLine:=by
 obtain⟨z,its,n,r,e⟩:=I.hok p _ h;exact⟨its,n,r,e,z⟩
theorem Inv.lstUpd{pins:ab (bn×Obj)}{s:bx}{p:bn}{xs:ab V}{f:Obj->Obj}(I:Inv X pins σ H s)(h:H p=some (.lst xs))(c:s.heap.get? p=some {cls:=.type "list",data:=.seq its.toArray n})(J:f {cls:=.type "list",data:=.seq its.toArray n}={cls:=.type "list",data:=.seq us.toArray t' })(r:Vals ys us)(U:ys.length<=sizeLine)(t:Nat) :
  Inv X pins σ (upd H p (.lst ys)) {s with heap:=s.heap.update p f,toks:=t}:=by
 have e:(s.heap.update p f).get? p=some {cls:=.type "list",data:=.seq us.toArray t' }:=by rw[zxJ f c (by rw[J]<;>rfl),J]
 refine I.write (by rw[h];trivial) (.inl rfl) (λb u L q=>(Heap.get?_update_other _ _ (Ne.symm L)).trans q) ⟨_,e⟩ ?_;exact⟨U,us,t',r,e⟩
def Jw:V->V->V->Hp->(Hp->Prop)->Prop:=λo i v H Q=>∃p xs k j,o=.ref p/\i=.int k/\H p=some (.lst xs)/\ixN xs.length k=some j/\Q (upd H p (.lst (xs.set j v)))
theorem je:PSet X Jw:=by
 intro pins s σ H o i v ov iv u Q I C B G h;obtain⟨p,xs,k,j,rfl,rfl,Y,m,q⟩:=h;cases C;obtain⟨t,rfl⟩:=B;obtain⟨its,n,r,g,z⟩:=I.lst Y;obtain⟨c,h2,l,U⟩:=xI m;have d:=r.length;have hn:=lN;have L:Inv X pins σ (upd H p (.lst (xs.set j v))) {s with heap:=s.heap.update p (Obj.mapSeq (·.setIfInBounds j u))} :=
  I.lstUpd Y g (vV its n j u) (r.set G j) (by rw[List.length_set];exact z) s.toks
 by_cases h0:0<=k
 ·have J:k.toNat=j:=by
   rw[seqIndex_of h0 U]at c;exact zzS c
  exact PySem.W.ki_setAt g h0 (by lia) (by rw[zzB,←d];exact U) (by rw[J];exact⟨_,L,q⟩)
 ·have J:(k+(its.toArray.size:Int)).toNat=j:=by
   rw[seqIndex_neg (by lia) l]at c;rw[zzB,←d];exact zzS c
  exact PySem.W.ki_setBack g (by lia) (by rw[zzB,←d];exact l) (by lia) (by rw[J];exact⟨_,L,q⟩)
theorem oR(lo c:ca Int)(n:Nat):(sliceBounds lo c none n).1=((HT.sIx n 0 lo:Nat):Int)/\(sliceBounds lo c none n).2.1=((HT.sIx n n c:Nat):Int)/\(sliceBounds lo c none n).2.2=1:=by
 refine⟨?_,?_,rfl⟩
 ·cases lo with
  |none=>simp[sliceBounds,HT.sIx]|some i =>
   simp only[sliceBounds,HT.sIx,Option.getD_none,show (1:Int)>0 by decide,if_true];by_cases h:i<0
   ·simp only[h,if_true]<;>lia
   ·simp only[h,zwO]<;>lia
 ·cases c with
  |none=>simp[sliceBounds,HT.sIx]|some i =>
   simp only[sliceBounds,HT.sIx,Option.getD_none,show (1:Int)>0 by decide,if_true];by_cases h:i<0
   ·simp only[h,if_true]<;>lia
   ·simp only[h,zwO]<;>lia
theorem mT(its:ab bb)(lo c:ca Int):slicePick its.toArray lo c none=((its.drop (HT.sIx its.length 0 lo)).take (HT.sIx its.length its.length c - HT.sIx its.length 0 lo)).toArray:=by obtain⟨d,g,h⟩:=oR lo c its.toArray.size;unfold slicePick;rw[d,g,h];simp only[sliceRange_one,pick_run,zzB]<;>rfl
def rSlL(K:zwW):V->ca Int->ca Int->Hp->VK->Prop:=λx lo c H Q=>∃a xs,x=.ref a/\SqL K H a xs/\∀p,H p=none->Q (.ref p) (upd H p (.lst (cutV xs lo c)))
theorem DB:SlR X (rSlL X.K):=by intro pins s σ H x v vl vu lo c sl Q I j d g i h;obtain⟨a,xs,rfl,U,q⟩:=h;cases j;obtain⟨its,r,L,Y⟩:=I.list U;have J:=r.length;refine⟨"list",_,slot_list_getitem.lookup,L.isList.typeIs,?_⟩;refine wpAny_getItem_list_slice L.isList d g i .none (by simp) ?_ (by rw[zzB]<;>lia);rw[mT,←J];refine⟨.ref s.heap.objs.size,_,I.laid (λb ob q=>zzm _ q) (zzq _) ?_,rfl,q _ (I.hok.fresh (zzq _))⟩;exact⟨zzl (rE xs lo c) Y,_,0,(r.drop (HT.sIx xs.length 0 lo)).take (HT.sIx xs.length xs.length c - HT.sIx xs.length 0 lo),zzE _ rfl⟩
noncomputable def eM:V->Bool
 |.non=>true|.bl _=>true|.int _=>true|.str _=>true|_=>false
noncomputable def eqV:V->V->Bool
 |.non,.non=>true|.bl a,.bl b=>a==b|.bl a,.int b=>(if a then 1 else 0)==b|.int a,.bl b=>a==(if b then 1 else 0)|.int a,.int b=>a==b|.str a,.str b=>a==b|_,_=>false
theorem Gs(U:RelV y u)(J:RelV x v)(Y:eM y=true)(L:eM x=true):SeqAt.EqAt A s u v (eqV y x):=by
 cases y with
 |non =>
  cases U;cases x with
  |non=>cases J;exact SeqAt.EqAt.same _
  |bl b=>cases J;exact SeqAt.EqAt.none_bool b
  |int b=>obtain⟨t,rfl⟩:=J;exact SeqAt.EqAt.none_int b t
  |str b=>obtain⟨t,rfl⟩:=J;exact SeqAt.EqAt.none_str b t
  |_=>exact absurd (show false=true from L) zzI
 |bl a =>
  cases U;cases x with
  |non=>cases J;exact SeqAt.EqAt.bool_none a
  |bl b=>cases J;exact SeqAt.EqAt.bool_bool a b
  |int b=>obtain⟨t,rfl⟩:=J;exact SeqAt.EqAt.bool_int a b t
  |str b=>obtain⟨t,rfl⟩:=J;exact SeqAt.EqAt.bool_str a b t
  |_=>exact absurd (show false=true from L) zzI
 |int a =>
  obtain⟨t',rfl⟩:=U;cases x with
  |non=>cases J;exact SeqAt.EqAt.int_none a t'
  |bl b=>cases J;exact SeqAt.EqAt.int_bool a t' b
  |int b=>obtain⟨t,rfl⟩:=J;exact SeqAt.EqAt.int_int a t' b t
  |str b=>obtain⟨t,rfl⟩:=J;exact SeqAt.EqAt.int_str a t' b t
  |_=>exact absurd (show false=true from L) zzI
 |str a =>
  obtain⟨t',rfl⟩:=U;cases x with
  |non=>cases J;exact SeqAt.EqAt.str_none a t'
  |bl b=>cases J;exact SeqAt.EqAt.str_bool a t' b
  |int b=>obtain⟨t,rfl⟩:=J;exact SeqAt.EqAt.str_int a t' b t
  |str b=>obtain⟨t,rfl⟩:=J;exact SeqAt.EqAt.str_str a t' b t
  |_=>exact absurd (show false=true from L) zzI
 |_=>exact absurd (show false=true from Y) zzI
noncomputable def eqU(x:V)(u:bb):Bool:=match u with
 |.none=>eqV .non x|.bool b=>eqV (.bl b) x|.int i _=>eqV (.int i) x|.str z _=>eqV (.str z) x|_=>false
theorem uj(r:RelV y u)(f:eM y=true):eqU x u=eqV y x:=by
 cases y with
 |non=>cases r;rfl
 |bl b=>cases r;rfl
 |int i=>obtain⟨t,rfl⟩:=r;rfl
 |str z=>obtain⟨t,rfl⟩:=r;rfl
 |_=>exact absurd (show false=true from f) zzI
theorem mU:∀{xs:ab V} {us:ab bb},Vals xs us->xs.all eM=true->us.any (eqU x)=xs.any λy=>eqV y x:=by
 intro xs us h f
 induction h with
 |nil=>rfl|cons r t J =>
  rw[zwy,zzV]at f;rw[zxh,zxh,uj r f.1,J f.2]
theorem fh(Y:RelV x v)(L:eM x=true):∀{xs:ab V} {us:ab bb},Vals xs us->xs.all eM=true->∀u∈us,SeqAt.EqAt A s u v (eqU x u):=by
 intro xs us h f u' J
 induction h with
 |nil=>cases J
 |cons r t U =>
  rw[zwy,zzV]at f;rcases zzi.mp J with rfl|J
  ·rw[uj r f.1];exact Gs r Y f.1 L
  ·exact U f.2 J
noncomputable def inV(x:V)(xs:ab V):Bool:=xs.any λy=>eqV y x
def rIn(K:zwW)(neg:Bool):R2:=λx y H Q=>∃p xs,y=.ref p/\(SqL K H p xs∨SqT K H p xs)/\eM x=true/\xs.all eM=true/\Q (.bl (if neg then !inV x xs else inV x xs)) H
theorem xJ:OpR X (compareOp .In) (rIn X.K false):=by
 intro pins s σ H x y v u Q I Y g h;obtain⟨p,xs,rfl,J,U,fs,q⟩:=h;cases g;rcases J with J|J
 ·obtain⟨its,r,c,d⟩:=I.list J;refine SeqAt.in_listAt (eqU x) c.isList (λw L=>fh Y U r fs w (by simpa using L)) ⟨.bl _,H,I,rfl,?_⟩;rw[show its.toArray.any (eqU x)=its.any (eqU x) by simp,mU r fs];exact q
 ·obtain⟨its,r,c,d⟩:=I.tuple J;refine SeqAt.in_tupleAt (eqU x) c (λw L=>fh Y U r fs w (by simpa using L)) ⟨.bl _,H,I,rfl,?_⟩;rw[show its.toArray.any (eqU x)=its.any (eqU x) by simp,mU r fs];exact q
theorem oS:OpR X (compareOp .NotIn) (rIn X.K true):=by
 intro pins s σ H x y v u Q I Y g h;obtain⟨p,xs,rfl,J,U,fs,q⟩:=h;cases g;rcases J with J|J
 ·obtain⟨its,r,c,d⟩:=I.list J;refine SeqAt.notIn_listAt (eqU x) c.isList (λw L=>fh Y U r fs w (by simpa using L)) ⟨.bl _,H,I,rfl,?_⟩;rw[show its.toArray.any (eqU x)=its.any (eqU x) by simp,mU r fs];exact q
 ·obtain⟨its,r,c,d⟩:=I.tuple J;refine SeqAt.notIn_tupleAt (eqU x) c (λw L=>fh Y U r fs w (by simpa using L)) ⟨.bl _,H,I,rfl,?_⟩;rw[show its.toArray.any (eqU x)=its.any (eqU x) by simp,mU r fs];exact q
theorem cD:cr X (.builtin "len") (λxs H Q=>∃p ys,xs=[.ref p]/\(SqL X.K H p ys∨SqT X.K H p ys)/\Q (.int ys.length) H):=by
 intro pins s σ H xs us Q I r h;obtain⟨p,ys,rfl,L,q⟩:=h;obtain⟨u,rfl,Y⟩:=eL r;cases Y;have hn:=lN;rcases L with L|L
 ·obtain⟨its,r',c,U⟩:=I.list L;have J:=r'.length;exact Calls.call_len_list c.isList (by simp only[zzB]<;>lia) ⟨.int ys.length,H,I.tok _,⟨s.toks+1,by rw[zzB,J]⟩,q⟩
 ·obtain⟨its,r',c,U⟩:=I.tuple L;have J:=r'.length;exact len_tuple c (by simp only[zzB]<;>lia) ⟨.int ys.length,H,I.tok _,⟨s.toks+1,by rw[zzB,J]⟩,q⟩
theorem oT:cr X (.builtin "len") (λxs H Q=>∃z,xs=[.str z]/\z.length<=sizeLine/\Q (.int z.length) H):=by intro pins s σ H xs us Q I r h;obtain⟨z,rfl,hz,q⟩:=h;obtain⟨u,rfl,t,rfl⟩:=eL r;have hn:=lN;exact len_str (by lia) ⟨.int z.length,H,I.tok _,⟨_,rfl⟩,q⟩
theorem oU:cr X (.type "list") (λxs H Q=>∃p ys,xs=[.ref p]/\(SqL X.K H p ys∨SqT X.K H p ys)/\∀l,H l=none->Q (.ref l) (upd H l (.lst ys))):=by
 intro pins s σ H xs us Q I r h;obtain⟨p,ys,rfl,U,q⟩:=h;obtain⟨u,rfl,m⟩:=eL r;cases m;have fin:∀(its:ab bb),Vals ys its->ys.length<=sizeLine->∀(c:cm) (J:Nat),(∀b k,s.heap.get? b=some k->c.get? b=some k) ->
   c.get? s.heap.objs.size=some {cls:=.type "list",dict:=none,data:=.seq its.toArray J,slots:=#[]}->EP X pins σ Q (.ref s.heap.objs.size) {s with heap:=c}:=λits r' Y c J d e =>
  ⟨.ref s.heap.objs.size,_,I.laid d (zzq _) (show ObjOk X.prog X.w _ c _ (.lst ys) from⟨Y,its,J,r',e⟩),rfl,q _ (I.hok.fresh (zzq _))⟩
 rcases U with U|U
 ·obtain⟨its,r',j,Y⟩:=I.list U;have L:=r'.length;obtain⟨o,i,g,n,hd⟩:=j.isList;exact call_list_seq p (.inl rfl) i g hd (λc J d e=>fin its r' Y c J d e) (by simp only[zzB]<;>lia)
 ·obtain⟨its,r',j,Y⟩:=I.tuple U;have L:=r'.length;obtain⟨o,i,g,n,hd⟩:=j;exact call_list_seq p (.inr rfl) i g hd (λc J d e=>fin its r' Y c J d e) (by simp only[zzB]<;>lia)
theorem mV:cr X (.type "tuple") (λxs H Q=>∃p ys,xs=[.ref p]/\((SqL X.K H p ys/\∀l,H l=none->Q (.ref l) (upd H l (.tup ys)))∨(SqT X.K H p ys/\Q (.ref p) H))):=by
 intro pins s σ H xs us Q I r h;obtain⟨p,ys,rfl,h⟩:=h;obtain⟨u,rfl,i⟩:=eL r;cases i;rcases h with ⟨J,q⟩|⟨J,q⟩
 ·obtain⟨its,r',d,U⟩:=I.list J;have hlen:=r'.length;refine call_tuple_list d.isList (λc g=>?_) (by simp only[zzB]<;>lia);have L:Inv X pins σ H {s with heap:=c}:=I.kept g;have Y:Inv X pins σ (upd H c.objs.size (.tup ys)) {s with heap:=c.push {cls:=.type "tuple",data:=.seq its.toArray} } :=
   L.laid (λb o e=>zzm _ e) (zzq _) (show ObjOk X.prog X.w _ _ _ (.tup ys) from⟨U,its,r',IsTup.new _ _⟩)
  exact⟨.ref c.objs.size,_,Y,rfl,q _ (L.hok.fresh (zzq _))⟩
 ·obtain⟨its,r',d,U⟩:=I.tuple J;exact call_tuple_same d ⟨.ref p,H,I,rfl,q⟩
def tyV(K:zwW)(T:String)(x:V)(H:Hp):Prop:=match x with
 |.str _=>T = "str"|.int _=>T = "int"| .ref p=>(T = "list" /\ ∃xs,SqL K H p xs)∨(T = "tuple" /\ ∃o,K.lookup p=some o/\o.cls=.type "tuple" /\ o.dict=none) ∨
   (T = "dict" /\ ((∃kvs,H p=some (.dK kvs))∨∃kvs,H p=some (.dT kvs)))∨(T = "set" /\ ∃S n,H p=some (.set S n))
 |_=>False
theorem Gu{pins:ab (bn×Obj)}(I:Inv X pins σ H s)(r:RelV x v)(ty:tyV X.K T x H) :
  s.TypeIs v T/\∀a,v=.ref a->∃ob,s.heap.get? a=some ob/\ob.dict=none:=by
 cases x with
 |str z =>
  obtain⟨t,rfl⟩:=r;cases (show T = "str" from ty);exact⟨zwE s z t,λ_ e=>nomatch e⟩
 |int i =>
  obtain⟨t,rfl⟩:=r;cases (show T = "int" from ty);exact⟨typeIs_int s i t,λ_ e=>nomatch e⟩
 |ref p =>
  cases r;rcases ty with ⟨rfl,xs,Y⟩|⟨rfl,o,J,U,hd⟩|⟨rfl,J⟩|⟨rfl,S,n,J⟩
  ·obtain⟨its,_,g,_⟩:=I.list Y;refine⟨g.isList.typeIs,λa e=>?_⟩;cases e;obtain⟨o,n,e,c,hd,_⟩:=g;exact⟨o,e,hd⟩
  ·refine⟨⟨o,I.kIn p o J,U⟩,λa e=>?_⟩;cases e;exact⟨o,I.kIn _ o J,hd⟩
  ·have z:∃o,s.heap.get? p=some o/\o.ExactDict:=by
    rcases J with ⟨kvs,J⟩|⟨kvs,J⟩
    ·obtain⟨_,_,_,_,o,_,_,e,d,_⟩:=I.hok p _ J;exact⟨o,e,d⟩
    ·obtain⟨_,_,_,_,o,_,_,e,d,_⟩:=I.hok p _ J;exact⟨o,e,d⟩
   obtain⟨o,e,d⟩:=z;refine⟨⟨o,e,d.1⟩,λa L=>?_⟩;cases L;exact⟨o,e,d.2.1⟩
  ·obtain⟨o,_,_,_,e,d,_⟩:=I.hok p _ J;refine⟨⟨o,e,d.1⟩,λa L=>?_⟩;cases L;exact⟨o,e,d.2.1⟩
 |_=>exact False.elim ty
def tBM(K:zwW)(T:String)(r:V->ab V->Hp->VK->Prop)(to:TE)(t:TA):TE:=λσ H Q=>to σ H λx c=>tyV K T x c/\t σ c λxs d=>r x xs d Q
variable{es:ab dy}{to:TE}{t:TA}{name:Str}{apos cpos:Pos}{T id:String}{r:V->ab V->Hp->VK->Prop}
theorem rF(C:PlainAttrs T)(slot:Slot T name id)(l:typeOf (.builtin id)=pure (.type "method_descriptor"))(z:MtR X id r)(B:PE X o to)(q:PA X (e::es) t)
  (L:attributeBase o name X.env (eval o X.env)=eval o X.env:=by rfl)
  (Y:((backTo cpos (starEach (e::es) X.env)).all (λx=>!x.1) && (backToKw cpos (keywordEach [] X.env)).all (λx=>x.1.isSome)
   && decide ((e::es).length+([]:ab Keyword).length+(if ([]:ab Keyword).isEmpty then 0 else 1)<30))=true:=by rfl)
  (U:(apos.endLine==cpos.line)=true:=by rfl) (hs:starEach (e::es) X.env=(false,eval e X.env)::starEach es X.env:=by rfl) (J:(backTo cpos (starEach es X.env)).any (·.1)=false:=by rfl) :
  PE X (.Call (.Attribute o name apos) (e::es) [] cpos) (tBM X.K T r to t):=by
 intro pins s σ H Q I h;refine wpAny_Call_method_late L Y U rfl (thn (B pins s σ H _ I h) λv b G=>?_);obtain⟨x,i,c,g,ty,M⟩:=G;obtain⟨m,p⟩:=Gu c g ty;refine⟨T,id,C,slot,l,m,p,?_⟩;have d:=q cpos pins b σ i _ c M;rw[hs]at d ⊢;refine Calls.callWith_builtin (by show (false || (backTo cpos (starEach es X.env)).any (·.1))=false;rw[J]<;>rfl) (Calls.evalArgs_plain ?_);exact thn d λus n ⟨u,j,k,a,N⟩=>z pins n σ j x u v us Q k g a N
end
def MtM(X:Cx)(id:String)(r:V->ab V->Hp->VK->Prop):Prop :=
 ∀(pins:ab (bn×Obj)) (s:bx) (σ:St) (H:Hp) (x:V) (xs:ab V) (v:bb) (us:ab bb) (Q:VK),Inv X pins σ H s->RelV x v->Vals xs us->r x xs H Q ->
  wpAny (model X.prog X.w) X.A (call (.builtin id) (v::us)) (EP X pins σ Q) X.xe s
theorem Vals.one:∀{x:V} {us:ab bb},Vals [x] us->∃u,us=[u]/\RelV x u:=by rintro _ _ (_|⟨r,⟨⟩⟩);exact⟨_,rfl,r⟩
theorem Vals.two:∀{x y:V} {us:ab bb},Vals [x,y] us->∃u v,us=[u,v]/\RelV x u/\RelV y v:=by rintro _ _ _ (_|⟨r,_|⟨q,⟨⟩⟩⟩);exact⟨_,_,rfl,r,q⟩
theorem Vals.reverse{xs:ab V}{us:ab bb}(h:Vals xs us):Vals xs.reverse us.reverse:=by
 induction h with
 |nil=>exact .nil|cons r t J=>rw[zwm,zwm];exact Vals.append J (.cons r .nil)
theorem Vals.rep{xs:ab V}{us:ab bb}(h:Vals xs us):∀k:Nat,Vals (List.replicate k xs).flatten (List.replicate k us).flatten
 |0=>.nil|k+1=>by exact Vals.append h (Vals.rep h k)
theorem oV(its:ab bb):∀(k:Nat) (J:ab bb),
  List.foldl (λU Y=>U++Y) J.toArray (List.replicate k its.toArray)=(J++(List.replicate k its).flatten).toArray
 |0,J=>by simp
 |k+1,J=>by
  have e:J.toArray++its.toArray=(J++its).toArray:=by simp
  have L:(J++its)++(List.replicate k its).flatten=J++(List.replicate (k+1) its).flatten:=by rw[zys,zxE,zzR]
  rw[←L,←oV its k (J++its),←e,zys,zwb]
section
variable{l:bn}{xs ys:ab V}
theorem Inv.lset{f:Array bb->Array bb}(I:Inv X pins σ H s)(J:H l=some (.lst xs))(e:s.heap.get? l=some {cls:=.type "list",data:=.seq its.toArray n})(U:f its.toArray=us.toArray)(c:Vals ys us)(d:ys.length<=sizeLine) :
  Inv X pins σ (upd H l (.lst ys)) {s with heap:=s.heap.update l (Obj.mapSeq f),toks:=t' }:=by
 have q:=PySem.IsL.update e f;rw[U]at q;refine I.write (by rw[J];exact trivial) (.inl rfl) (λb' u L Y=>(Heap.get?_update_other s.heap (Obj.mapSeq f) (Ne.symm L)).trans Y) ⟨_,q⟩ ?_;exact⟨d,us,_,c,q⟩
theorem Inv.lnew(I:Inv X pins σ H s)(J:Vals ys its)(L:ys.length<=sizeLine) :
  Inv X pins σ (upd H s.heap.objs.size (.lst ys)) {s with heap:=s.heap.push {cls:=.type "list",data:=.seq its.toArray},toks:=t' } :=
 I.laid (λ_ _ q=>zzm _ q) (zzq _) ⟨L,its,0,J,zzE _ rfl⟩
theorem Inv.fresh(I:Inv X pins σ H s):H s.heap.objs.size=none:=I.hok.fresh (zzq _)
theorem Inv.lstM(I:Inv X pins σ H s)(J:H l=some (.lst xs)):xs.length<=sizeLine/\∃(its:ab bb) (n:Nat),Vals xs its/\xs.length=its.length/\s.heap.get? l=some {cls:=.type "list",data:=.seq its.toArray n}:=by obtain⟨z,its,n,r,e⟩:=I.hok l _ J;exact⟨z,its,n,r,r.length,e⟩
theorem uk(h:n<=sizeLine):Builtin.List.listTooLong n=false:=by exact zzv (by lia)
end
def DC:V->ab V->Hp->VK->Prop:=λx c H Q=>∃l xs y,x=.ref l/\c=[y]/\H l=some (.lst xs)/\xs.length<sizeLine/\Q .non (upd H l (.lst (xs++[y])))
theorem jC:MtM X "list.append" DC:=by intro pins s σ H x vs v us Q I Y U h;obtain⟨l,xs,y,rfl,rfl,J,hz,q⟩:=h;cases Y;obtain⟨u,rfl,L⟩:=U.one;obtain⟨z,its,n,r,hl,e⟩:=I.lstM J;refine zxu F.slot_list_append ⟨_,e,rfl⟩ F.entry_list_append (F.args_list_append_2 _ _) (PySem.list_append l its.toArray n u (by rw[zzB];lia)) ⟨e,?_⟩;refine⟨.non,_,I.lset J e (by simp) (r.append (.cons L .nil)) ?_,rfl,q⟩;rw[zzg,zxf];lia
def DD:V->ab V->Hp->VK->Prop:=λx c H Q=>∃l b xs J,x=.ref l/\c=[.ref b]/\H l=some (.lst xs)/\H b=some (.lst J)/\xs.length+J.length<=sizeLine/\Q .non (upd H l (.lst (xs++J)))
theorem xK:MtM X "list.extend" DD:=by
 intro pins s σ H x vs v us Q I m k h;obtain⟨l,b,xs,zs,rfl,rfl,Y,d,hz,q⟩:=h;cases m;obtain⟨u,rfl,j⟩:=k.one;cases j;obtain⟨z,its,n,r,hl,e⟩:=I.lstM Y;obtain⟨z2,J,g,i,hl2,c⟩:=I.lstM d;have U:its.toArray.size+J.toArray.size<=sizeLine:=by rw[zzB,zzB];lia
 have L:¬(!its.toArray.isEmpty && Builtin.List.listTooLong (its.toArray.size+J.toArray.size))=true:=by rw[uk U,Bool.and_false];exact zzI
 refine zxu F.slot_list_extend ⟨_,e,rfl⟩ F.entry_list_extend (F.args_list_extend_2 _ _)
  (AutoSeq1.list_extend_list_list_0 l its.toArray n b J.toArray g L (by rw[zzB];lia) (by lia)) ⟨e,c,?_⟩
 refine⟨.non,_,I.lset Y e (by simp) (r.append i) ?_,rfl,q⟩;rw[zzg];lia
def rCat:R2:=λx y H Q=>∃l b xs J,x=.ref l/\y=.ref b/\H l=some (.lst xs)/\H b=some (.lst J)/\xs.length+J.length<=sizeLine/\∀p,H p=none->Q (.ref p) (upd H p (.lst (xs++J)))
theorem Gv:OpR X (binaryOp .Add) rCat:=by
 intro pins s σ H x y v u Q I g i h;obtain⟨l,b,xs,zs,rfl,rfl,Y,U,hz,q⟩:=h;cases g;cases i;obtain⟨z,its,n,r,hl,e⟩:=I.lstM Y;obtain⟨z2,J,n2,d,hl2,L⟩:=I.lstM U;refine PySem.P.add_list e L ?_ (by rw[zzB,zzB];lia);have c:its.toArray++J.toArray=(its++J).toArray:=by simp
 rw[c];exact⟨.ref _,_,I.lnew (r.append d) (by rw[zzg];lia),rfl,q _ I.fresh⟩
def rRep:R2:=λx y H Q=>∃l k xs,x=.ref l/\y=.int k/\H l=some (.lst xs)/\-(2^63)<=k/\k<2^63/\xs.length*k.toNat<=sizeLine /\
 ∀p,H p=none->Q (.ref p) (upd H p (.lst (List.replicate k.toNat xs).flatten))
theorem DF(xs:ab α)(k:Nat):(List.replicate k xs).flatten.length=k*xs.length:=by
 induction k with
 |zero=>simp|succ k J=>rw[zys,zxE,zzg,J,Nat.succ_mul,Nat.add_comm]
theorem Gw:OpR X (binaryOp .Mult) rRep:=by
 intro pins s σ H x y v u Q I M N h;obtain⟨l,k,xs,rfl,rfl,C,p,B,g,q⟩:=h;cases M;obtain⟨t,rfl⟩:=N;obtain⟨z,its,n,r,G,e⟩:=I.lstM C;have Y:its.toArray.size*k.toNat<=sizeLine:=by rw[zzB,←G];exact g
 have L:¬its.toArray.size*k.toNat>(2^63 - 1) / 8:=by
  have:(sizeLine:Nat)<=(2^63 - 1) / 8:=by decide
  lia
 have U:¬(!Builtin.List.listFitsIndex k)=true:=by rw[fitsIndex_both p B];exact zzI
 have J:¬Builtin.List.listTooLong (its.toArray.size*k.toNat)=true:=by rw[uk Y];exact zzI
 have i:List.foldl (λc d=>c++d) #[] (List.replicate (if its.toArray.isEmpty=true then 0 else k.toNat) its.toArray)=(List.replicate k.toNat its).flatten.toArray:=by
  have j:∀m:Nat,List.foldl (λc d=>c++d) #[] (List.replicate m its.toArray)=(List.replicate m its).flatten.toArray:=λm=>by have:=oV its m [];exact this
  rw[j];cases its with
  |nil=>simp|cons a r'=>rw[zzh (by simp)]
 refine wpAny_binaryOp_repeat_ref (by decide) ⟨_,e,rfl⟩ (λb=>typeIs_int b k t) noFill_list_mul F.fills_int_mul F.slot_int_rmul repeat_list F.slot_int_index.lookup
  (zxu F.slot_int_rmul (typeIs_int s k t) F.entry_int_rmul (F.args_int_rmul_2 _ _) (int___rmul___int_list k t l its.toArray n)
   ⟨e,rfl,⟨_,e,rfl⟩,zxu F.slot_list_mul ⟨_,e,rfl⟩ F.entry_list_mul (F.args_list_mul_2 _ _) (AutoListH.list___mul___list_int_3 l its.toArray n k t U L J) ⟨e,?_⟩⟩)
 rw[i];exact⟨.ref _,_,I.lnew (r.rep k.toNat) (by rw[DF,Nat.mul_comm];exact g),rfl,q _ I.fresh⟩
section
variable{κ:Type}[DecidableEq κ]
noncomputable def valV(kvs:ab (κ×V))(k:κ):ca V:=(kvs.find? λJ=>decide (J.1=k)).map (·.2)
noncomputable def putK(kvs:ab (κ×V))(k:κ)(v:V):ab (κ×V) :=
 if (kvs.any λJ=>decide (J.1=k))=true then kvs.map (λJ=>if J.1=k then(J.1,v) else J) else kvs++[(k,v)]
theorem jf{p:κ×V}{r:ab (κ×V)}{k:κ}(e:p.1=k):valV (p::r) k=some p.2:=by simp[valV,zxv,e]
theorem gk{p:κ×V}{r:ab (κ×V)}{k:κ}(e:¬p.1=k):valV (p::r) k=valV r k:=by simp[valV,zxv,e]
theorem jg(k:κ):∀kvs:ab (κ×V),(kvs.any λJ=>decide (J.1=k))=(valV kvs k).isSome
 |[]=>rfl|p::r=>by
  rw[zxh];by_cases e:p.1=k
  ·simp only[jf e,zzp e,Bool.true_or,Option.isSome_some]
  ·rw[gk e,zzv e,Bool.false_or];exact jg k r
theorem fR(kvs:ab (κ×V))(k:κ)(v:V):(putK kvs k v).length<=kvs.length+1:=by
 unfold putK;split
 ·rw[zza];lia
 ·rw[zzg,zzu,zxw];lia
theorem RelO.isSome_eq{o:ca V}{u:ca bb}(r:RelO o u):o.isSome=u.isSome:=by
 cases o with
 |none=>cases u with
  |none=>rfl|some _=>exact(show False from r).elim
 |some _=>cases u with
  |none=>exact(show False from r).elim|some _=>rfl
theorem KV.val{kvs:ab (κ×V)}{vs:ab (κ×bb)}(r:KV kvs vs)(k:κ):RelO (valV kvs k) (valueAt vs k):=by
 induction r with
 |nil=>exact True.intro|@cons p q ps c h t L =>
  obtain⟨d,g⟩:=h;by_cases e:p.1=k
  ·have J:q.1=k:=d.symm.trans e;have b:valueAt (q::c) k=some q.2:=by simp[valueAt,zxv,J]
   rw[jf e,b];exact g
  ·have J:¬q.1=k:=λz=>e (d.trans z);have b:valueAt (q::c) k=valueAt c k:=by simp[valueAt,zxv,J]
   rw[gk e,b];exact L
theorem KV.any{kvs:ab (κ×V)}{vs:ab (κ×bb)}(r:KV kvs vs)(k:κ):(kvs.any λJ=>decide (J.1=k))=vs.any λJ=>decide (J.1=k):=by
 induction r with
 |nil=>rfl|cons h t L=>rw[zxh,zxh,L,h.1]
theorem KV.repl{kvs:ab (κ×V)}{vs:ab (κ×bb)}(r:KV kvs vs)(k:κ)(U:RelV y u) :
  KV (kvs.map λJ=>if J.1=k then(J.1,y) else J) (vs.map λJ=>if J.1=k then(J.1,u) else J):=by
 induction r with
 |nil=>exact .nil|@cons p q ps qs h t L =>
  rw[zzj,zzj];refine .cons ?_ L;obtain⟨c,d⟩:=h;by_cases e:p.1=k
  ·rw[zzk e,zzk (c.symm.trans e)];exact⟨c,U⟩
  ·rw[zzh e,zzh (λz=>e (c.trans z))];exact⟨c,d⟩
theorem KV.put{kvs:ab (κ×V)}{vs:ab (κ×bb)}(r:KV kvs vs)(k:κ)(J:RelV y u):KV (putK kvs k y) (stored vs k u):=by
 unfold putK stored;rw[r.any k];by_cases e:(vs.any λL=>decide (L.1=k))=true
 ·rw[zzk e,zzk e];exact r.repl k J
 ·rw[zzh e,zzh e];exact Paired.snoc r ⟨rfl,J⟩
theorem KV.length{kvs:ab (κ×V)}{vs:ab (κ×bb)}(r:KV kvs vs):kvs.length=vs.length:=zxg r
end
theorem Ay{P:ef}{k:Key}(r:RelV (kV k) u):(bF P w).is k u=true:=by
 cases k with
 |inl i=>obtain⟨t,e⟩:=(show ∃t,u=Value.int i t from r);subst e;exact ju P w i t
 |inr x=>obtain⟨t,e⟩:=(show ∃t,u=Value.str x t from r);subst e;exact rC P w x t
theorem oW{P:ef}{w:World}:∀{c:ab Key} {us:ab bb},Vals (c.map kV) us->ItemsAre (bF P w) c us
 |[],_,r=>by rw[zyp]at r;cases r;exact .nil
 |k::c,_,r=>by
  cases r with
  |cons h t=>exact .cons (Ay h) (oW t)
noncomputable abbrev KT(H:Hp):ab (ab Key×V)->ab (ab Key×bn×bb)->Prop:=Paired λp q=>p.1=q.1/\H q.2.1=some (.tup (p.1.map kV))/\RelV p.2 q.2.2
theorem KT.val(r:KT H kvs xs)(k:ab Key):RelO (valV kvs k) ((atKey xs k).map (·.2)):=by
 induction r with
 |nil=>exact True.intro|@cons p q ps c h t L =>
  obtain⟨d,_,g⟩:=h;by_cases e:p.1=k
  ·have J:q.1=k:=d.symm.trans e;have b:atKey (q::c) k=some q.2:=by simp[atKey,zxv,J]
   rw[jf e,b];exact g
  ·have J:¬q.1=k:=λz=>e (d.trans z);have b:atKey (q::c) k=atKey c k:=by simp[atKey,zxv,J]
   rw[gk e,b];exact L
theorem KT.repl(r:KT H kvs xs)(k:ab Key)(U:RelV y u) :
  KT H (kvs.map λJ=>if J.1=k then(J.1,y) else J) (xs.map (putAt k u)):=by
 induction r with
 |nil=>exact .nil|@cons p q ps qs h t L =>
  rw[zzj,zzj];refine .cons ?_ L;obtain⟨c,d,g⟩:=h;unfold putAt;by_cases e:p.1=k
  ·rw[zzk e,zzk (c.symm.trans e)];exact⟨c,d,U⟩
  ·rw[zzh e,zzh (λz=>e (c.trans z))];exact⟨c,d,g⟩
theorem KT.put(r:KT H kvs xs)(k:ab Key)(L:H b=some (.tup (k.map kV)))(J:RelV y u) :
  KT H (putK kvs k y) (storedH xs k b u):=by
 have e:(kvs.any λU=>decide (U.1=k))=(atKey xs k).isSome:=by rw[jg,(r.val k).isSome_eq,Option.isSome_map]
 unfold putK storedH;rw[e];by_cases q:(atKey xs k).isSome=true
 ·rw[zzk q,zzk q];exact r.repl k J
 ·rw[zzh q,zzh q];exact Paired.snoc r ⟨rfl,L,J⟩
theorem KT.keeps(r:KT H kvs xs)(J:∀b ys,H b=some (.tup ys)->H' b=some (.tup ys)):KT H' kvs xs :=
 Paired.mapP r λ_ _ z=>⟨z.1,J _ _ z.2.1,z.2.2⟩
section
variable{P:ef}{w:World}{h:cm}
theorem Gx{u:HO}(ok:HOk P w H h)(e:Rd H a u):ObjOk P w H h a u:=e.ok ok
theorem Az{kvs:ab (Key×V)}(ok:HOk P w H h)(e:Rd H a (.dK kvs)):kvs.length<=sizeLine/\(a==sysModules)=false/\∃vs,KV kvs vs/\h.DictOf (bF P w) a vs :=
 show ObjOk P w H h a (.dK kvs) from Gx ok e
theorem Jx{kvs:ab (Key×V)}(ok:HOk P w H h)(e:H a=some (.dK kvs)):kvs.length<=sizeLine/\(a==sysModules)=false/\∃vs,KV kvs vs/\h.DictOf (bF P w) a vs:=Az ok (.inl e)
theorem oX{c:ab Key}(ok:HOk P w H h)(e:H a=some (.tup (c.map kV))):(tupleKind (bF P w)).is h c a:=by obtain⟨_,its,r,o,d,g,n,i⟩:=(show ObjOk P w H h a (.tup (c.map kV)) from ok a _ e);exact⟨o,its.toArray,n,d,g,i,by simpa using oW r⟩
theorem xL(ok:HOk P w H h)(e:Rd H a (.dT kvs)):kvs.length<=sizeLine/\(a==sysModules)=false /\
  ∃xs,KT H kvs xs/\h.DictOfH (tupleKind (bF P w)) a xs:=by
 obtain⟨z,y,xs,r,o,d,c,g,i,j,U,Y⟩:=(show ObjOk P w H h a (.dT kvs) from Gx ok e);refine⟨z,y,xs,r,o,d,c,g,i,j,U,λx J=>?_,Y⟩;have all:∀{l:ab (ab Key×V)} {m:ab (ab Key×bn×bb)},KT H l m->∀x∈m,(tupleKind (bF P w)).is h x.1 x.2.1:=by
  intro l m q
  induction q with
  |nil=>intro x J;exact nomatch J
  |@cons p q ps qs L t k =>
   intro x J;rcases zzi.mp J with e|J
   ·subst e;exact oX ok (by rw[←L.1];exact L.2.1)
   ·exact k x J
 exact all r x J
theorem Gy(ok:HOk P w H h)(e:H a=some (.dT kvs)):kvs.length<=sizeLine/\(a==sysModules)=false /\
  ∃xs,KT H kvs xs/\h.DictOfH (tupleKind (bF P w)) a xs:=xL ok (.inl e)
end
def DGet(H:Hp)(a:bn)(y:V)(r:ca V):Prop :=
 (∃kvs k,Rd H a (.dK kvs)/\y=kV k/\r=valV kvs k)∨∃kvs k b,Rd H a (.dT kvs)/\y=.ref b/\H b=some (.tup (k.map kV))/\r=valV kvs k
def DPut(H:Hp)(a:bn)(y v:V)(H':Hp):Prop :=
 (∃kvs k,H a=some (.dK kvs)/\y=kV k/\kvs.length<sizeLine/\H'=upd H a (.dK (putK kvs k v))) ∨
 ∃kvs k b,H a=some (.dT kvs)/\y=.ref b/\H b=some (.tup (k.map kV))/\kvs.length<sizeLine/\H'=upd H a (.dT (putK kvs k v))
theorem DPut.t{k:ab Key}{v:V}(e:H a=some (.dT kvs))(c:H b=some (.tup (k.map kV)))(d:kvs.length<sizeLine) :
  DPut H a (.ref b) v (upd H a (.dT (putK kvs k v))):=.inr ⟨kvs,k,b,e,rfl,c,d,rfl⟩
section
variable{y v:V}{u r:bb}{o:ca V}{A:Around}{E:bb->bx->Prop}
theorem Inv.big(I:Inv X pins σ H s):sysModules<s.heap.objs.size:=by have h:mainGlobals<s.heap.objs.size:=(I.mod.glob.keeps I.bk).lt;exact zwF (by decide) h
theorem xM(q:A.units+1<cLine)(I:Inv X pins σ H s)(g:DGet H a y (some v))(d:RelV y u)(h:∀L s',Inv X pins σ H s'->RelV v L->Q L s') :
  wpAny (model X.prog X.w) A (getItem (.ref a) u) Q E s:=by
 rcases g with ⟨kvs,k,e,Y,l⟩|⟨kvs,k,b,e,Y,j,l⟩
 ·subst Y;obtain⟨z,hd,vs,rel,U⟩:=Az I.hok e;obtain⟨L,c,J⟩:=RelO.some_of (by rw[l];exact rel.val k);exact wpAny_getItem_of (Ay d) U.mapOf c (h L _ (I.tok _) J)
 ·subst Y;cases (show u=Value.ref b from d);obtain⟨z,hd,xs,rel,U⟩:=xL I.hok e;obtain⟨L,c,J⟩:=RelO.some_of (by rw[l];exact rel.val k);obtain⟨p,m,i⟩:=zxz.mp c;refine wpAny_getItem_heap (zwk q) (oX I.hok j) U m ?_;rw[i];exact h L _ (I.tok _) J
theorem DH(Y:A.units+1<cLine)(I:Inv X pins σ H s)(g:DGet H a y o)(U:RelV y u)(h:∀s',Inv X pins σ H s'->Q (.bool (!o.isSome)) s') :
  wpAny (model X.prog X.w) A (compareOp .NotIn u (.ref a)) Q E s:=by
 rcases g with ⟨kvs,k,e,L,l⟩|⟨kvs,k,b,e,L,c,l⟩
 ·subst L;obtain⟨z,hd,vs,rel,J⟩:=Az I.hok e;refine wpAny_notIn_of (Ay U) hd J.mapOf ?_;rw[←(rel.val k).isSome_eq,←l];exact h _ (I.tok _)
 ·subst L;cases (show u=Value.ref b from U);obtain⟨z,hd,xs,rel,J⟩:=xL I.hok e;refine wpAny_notIn_heap (zwk Y) (oX I.hok c) hd J ?_;have q:=(rel.val k).isSome_eq;rw[Option.isSome_map]at q;rw[←q,←l];exact h _ (I.tok _)
theorem rG{c:cm}{ob:HO}(I:Inv X pins σ H s)(L:Mut (H a))(hs:Heap.SameBut a s.heap c)(he:∃q,c.get? a=some q)(new:ObjOk X.prog X.w (upd H a ob) c a ob) :
  Inv X pins σ (upd H a ob) {s with heap:=c,toks:=t' } :=
 I.write L (.inl rfl) (λb q J z=>(hs.2 b J).trans z) he new
theorem Gz{P:ef}{c:cm}{kvs:ab (Key×V)}{vs:ab (Key×bb)}(z:kvs.length<=sizeLine)(hd:(a==sysModules)=false)(rel:KV kvs vs)(J:c.DictOf (bF P w) a vs) :
  ObjOk P w H' c a (.dK kvs):=⟨z,hd,vs,rel,J⟩
theorem xN{Q:Unit->bx->Prop}(hu:A.units+1<cLine)(I:Inv X pins σ H s)(g:DPut H a y v H')(G:RelV y u)(C:RelV v r)(h:∀s',Inv X pins σ H' s'->Q () s') :
  wpAny (model X.prog X.w) A (setItem (.ref a) u r) Q E s:=by
 rcases g with ⟨kvs,k,e,d,l,Y⟩|⟨kvs,k,b,e,d,m,l,Y⟩
 ·subst d Y;obtain⟨z,hd,vs,rel,U⟩:=Jx I.hok e;have hz:vs.length<=sizeLine:=by rw[←rel.length];exact z
  have i:(putK kvs k v).length<=sizeLine:=by have:=fR kvs k v;lia
  refine wpAny_setItem_pairs (Ay G) U λB J j=>h _ ?_;have he:∃q,B.get? a=some q:=by obtain⟨q,_,_,L,_⟩:=J;exact⟨q,L⟩
  exact rG I (by rw[e];exact True.intro) j he (Gz i hd (rel.put k C) J)
 ·subst d Y;cases (show u=Value.ref b from G);obtain⟨z,hd,xs,rel,U⟩:=Gy I.hok e;have hz:xs.length<=sizeLine:=by rw[←zxg rel];exact z
  have i:(putK kvs k v).length<=sizeLine:=by have:=fR kvs k v;lia
  refine wpAny_setItem_heap (zwk hu) (oX I.hok m) U λB J j=>h _ ?_;obtain⟨q,N,M,L,n,o,x,_,T⟩:=J;refine rG I (by rw[e];exact True.intro) j ⟨q,L⟩ ⟨i,hd,_,(rel.put k m C).keeps λc ys p=>?_,q,N,M,L,n,o,x,T⟩;rw[af (kY p e (λz=>nomatch z))];exact p
end
def NoSl(i:dy):Prop:=∀L J,subscripted i false L J=operate [L,J] (getItem L J)
theorem DI{prog:ef}{c:Env}{value slice:dy}{pos:Pos}{id:String}(k:typeLookup (.type T) "__getitem__" = pure (some (.builtin id)))(hs:NoSl slice)(h:wpAny (model prog w) A (eval value c) (λo U=>wpAny (model prog w) A (eval slice c) (λi J=>J.TypeIs o T/\wpAny (model prog w) A (getItem o i) Q E J) E U) E s) :
  wpAny (model prog w) A (eval (.Subscript value slice pos) c) Q E s:=by
 refine Subscript_ (zxS h (λo U d=>zxS d (λi J L=>?_) λ_ _ x=>x) λ_ _ x=>x);obtain⟨j,L⟩:=L;refine zzd ?_;refine zzd (wpAny_specialOf j k ?_);have fin:wpAny (model prog w) A (subscripted slice false o i) (λr Y=>wpAny (model prog w) A (letTemporaryGo value o r >>= λ_=>pure r) Q E Y) E J:=by rw[hs o i];exact wpAny_operating (zxS L (λr Y g=>zzd (wpAny_letTemporaryGo (zzt g))) λ_ _ x=>x)
 first
  |exact zzt (zzd fin)
  |exact zzd (zzt (zzd fin))
  |exact zzd fin
theorem rH{X:Cx}{pins:ab (bn×Obj)}{o:ca V}(I:Inv X pins σ H s)(g:DGet H a y o):s.TypeIs (.ref a) "dict":=by
 rcases g with ⟨kvs,k,e,_,_⟩|⟨kvs,k,b,e,_,_,_⟩
 ·obtain⟨_,_,vs,_,J⟩:=Az I.hok e;exact J.typeIs
 ·obtain⟨_,_,xs,_,J⟩:=xL I.hok e;exact J.typeIs
def Jy(td ty:TE):TE:=λσ H Q=>td σ H λx d=>ty σ d λy c=>∃a v,x=.ref a/\DGet c a y (some v)/\Q v c
def DJ(ty td:TE):TE:=λσ H Q=>ty σ H λy d=>td σ d λx c=>∃a o,x=.ref a/\DGet c a y o/\Q (.bl (!o.isSome)) c
def Jz(td ty tv:TE):TS:=λD σ H=>tv σ H λv c=>td σ c λx d=>ty σ d λy g=>∃a J,x=.ref a/\DPut g a y v J/\D.nx σ J
section
variable{i value:dy}{pos':Pos}{td ty tv:TE}
theorem rJ(m:X.A.units+1<cLine)(l:PE X o td)(k:PE X i ty)(hs:NoSl i):PE X (.Subscript o i pos) (Jy td ty):=by intro pins s σ H Q I h;refine DI PySem.F.slot_dict_getitem.lookup hs (thnE (l pins s σ H _ I h) λu G x c U B q=>thn (k pins G σ c _ U q) λiv s2 p=>?_);obtain⟨y,d,L,C,a,v,j,g,z⟩:=p;subst j;obtain rfl:u=Value.ref a:=B;exact⟨rH L g,xM m L g C λw' s3 Y J=>⟨v,d,Y,J,z⟩⟩
theorem xO(Y:X.A.units+1<cLine)(k:PE X i ty)(l:PE X o td):PC X .NotIn i o (DJ ty td):=by intro pins s σ H Q I h;refine thnE (k pins s σ H _ I h) λiv G y c J C q=>thn (l pins G σ c _ J q) λu s2 p=>?_;obtain⟨x,d,L,B,a,m,j,g,z⟩:=p;subst j;obtain rfl:u=Value.ref a:=B;exact DH Y L g C λs3 U=>⟨.bl (!m.isSome),d,U,rfl,z⟩
theorem xP(p:X.A.units+1<cLine)(m:PE X o td)(l:PE X i ty)(q:PE X value tv)(hs:swapsWith value (some (.Subscript o i pos')) pos.line X.env=pure false) :
  PS X (.Assign [.Subscript o i pos'] value pos) (Jz td ty tv):=by
 intro pins s σ H D I h;refine wpAny_Assign_Subscript (thnE (q pins s σ H _ I h) λr e v c L M B=>thnE (m pins e σ c _ L B) λu n x d U N C=>thn (l pins n σ d _ U C) λiv s3 z=>?_) hs;obtain⟨y,H3,Y,b,a,J,k,g,G⟩:=z;subst k;obtain rfl:u=Value.ref a:=N;exact xN p Y g b M λs4 j=>⟨σ,J,j,G⟩
end
theorem AA{P:ef}(h:cm)(J:sysModules<h.objs.size):ObjOk P w H (h.push {cls:=.type "dict",data:=.dict #[]}) h.objs.size (.dT []) :=
 ⟨zzM _,zxr.mpr (Ne.symm (zzL J)),[],.nil,_,#[],0,zzE _ rfl,⟨rfl,rfl,rfl⟩,rfl,rfl,zxm⟩
def GA:TE:=λ_ H Q=>∀p,H p=none->Q (.ref p) (upd H p (.dT []))
theorem AB:PE X (.Dict [] [] pos) GA:=λpins s σ H Q I h =>
 wpAny_Dict_empty ⟨.ref s.heap.objs.size,_,I.laid (λ_ _ q=>zzm _ q) (zzq _) (AA s.heap I.big),rfl,h _ (I.hok.fresh (zzq _))⟩
end L2
namespace Att
open PySem PySem.W PySem.Calls PyProof.Rows
theorem jD{P:Params}{h:cm}:∀(ns:ab Int) (vs:ab bb),WellAll P h vs (ns.map WData.int)->IntsAre vs ns:=by
 intro ns
 induction ns with
 |nil =>
  intro vs w;cases w;exact .nil
 |cons n ns J =>
  intro vs w;cases w with
  |cons a b =>
   cases a;exact .cons _ _ (J _ b)
theorem xQ{l:OpenLaw}{n:Nat}(o:l.most=some n){P:Params}{h:cm}{args:ab WData}{vals:ab bb}
  (J:l.row.toRowW.claim.pre args=true) (g:WellAll P h vals args) :
  ∃a vs b,vals=[Value.ref a]/\args=[WData.list (b.map WData.int)]/\h.get? a=some {cls:=.type "list",data:=.seq vs.toArray}/\IntsAre vs b/\b.length<=n:=by
 have e:WShape.hasAll [] args [.list .int]=true:=(pre_splitW J).1;have m:l.pre.holds [] {args:=args}=true:=(pre_splitW J).2;obtain⟨d,r,rfl,i,j⟩:=hasAllW_cons e;obtain rfl:=hasAllW_nil j;obtain⟨xs,rfl,k⟩:=hasW_list i;obtain⟨b,rfl⟩:=items_int k;have U:b.length<=n:=by
  have Y:(WTm.not (.lt (.lit (.int (n:Int))) (.len (.arg 0)))).holds [] {args:=[.list (b.map .int)]}=true:=by have Y:=(holds_andW m).1;rw[o]at Y;exact Y
  have c:=condW_of Y (w_not (w_lt w_lit (w_len_list (w_arg rfl))));refine Nat.le_of_not_lt λq=>?_
  first
   |(rw[zzp q']at c;exact absurd c (by decide))
   |(simp at c;lia)
 cases g with
 |cons s u =>
  cases u;cases s with
  |list p L=>exact⟨_,_,b,rfl,rfl,p,jD b _ L,U⟩
theorem xR(l:OpenLaw)(args:ab WData):l.row.toRowW.claim.post args (.bool true) args=true :=
 postW_of
  (show WShape.has [] (.bool true) .bool=true by first|rfl|decide|simp[WShape.has,WShape.arms,WShape.armsAll])
  (show (WTm.eq .res (.lit (.bool true))).value [] {args:=args,res:=some (.bool true),after:=args}=some (.bool (true==true)) from w_eq_bool (w_res rfl) w_lit) rfl
theorem attach_call{l:OpenLaw}{n:Nat}{q:ef}{L:ab Str}{j:(Str->ca bb)->cm->Prop}{k:World->cm->Prop}{d:DefRec}
  (M:l.most=some n) (x:d.params.defaults=[])
  (call:∀(w:World) (b J:bx) (g i:Str->ca bb) (c:bn) (o:Obj) (pm e doc:bb) (a:bn) (vs:ab bb) (h:ab Int),
   Ground q L [] j w b g i J.heap->k w J.heap ->
   J.heap.get? c=some o->o.data=.func (docDef d.name d.params d.body d.scope pm e doc)->J.heap.CodeRec e d.name->g d.name=some (.ref c) ->
   J.heap.get? a=some {cls:=.type "list",data:=.seq vs.toArray}->IntsAre vs h->h.length<=n->J.gens = #[] ->
   codeAny (model l.prog w) callerA (.call (.ref c) ⟨[.ref a],[]⟩) (λr s'=>r=.ok (.ret (.bool true))/\OldK J.heap s'.heap/\s'.os=J.os/\AllBare s'.gens) J) :
  WalkO q L j k l.row.toRowW d [] (λf vs=>PySem.call f vs):=by
 intro w b J g i G Y c o pm e doc A kV N hd v m y H args vals as u hlay hrd z hlo;obtain rfl:A=.none:=Dflts.none m x;obtain rfl:kV=.none:=Dflts.noKw m;obtain⟨a,vs,h,rfl,rfl,s,U,p⟩:=xQ M u z;refine enter_call (zxo (call w b J g i c o pm e doc a vs h G Y N (fd_plain hd) v y s U p H) λr s' Q=>?_);obtain⟨rfl,B,C,E⟩:=Q;exact⟨.inl ⟨.bool true,.bool true,[],rfl,λ_=>rfl,.bool true,xR l _,λ_=>⟨List.Pairwise.nil,λ_ I=>(nomatch I)⟩⟩,B,C,E⟩
end Att
namespace L2
open PySem PySem.Spec PyProof.Rows
variable{A B:Prop}{H H1 H2:Hp}{N ps:ab Str}{T:String}{a p:bn}{c i l y:Int}{cdv ct oc pm:bb}{es:ab dy}{k n:Nat}{ns:ab Int}{o u:HO}{x:Str}
variable{X:Cx}{pos:Pos}
theorem xS:∀{vs:ab bb} {ns:ab Int},IntsAre vs ns->Vals (ns.map V.int) vs:=by
 intro vs ns h
 induction h with
 |nil=>exact .nil|cons n t h J=>exact .cons ⟨t,rfl⟩ J
noncomputable def xT(s:Stmt)(j:Nat):Stmt:=match s with
 |.ClassDef _ _ _ body _ _ _ _ _ _ _=>body.getD j (.Pass ⟨0,0,0,0⟩)|_=>.Pass ⟨0,0,0,0⟩
noncomputable def eP(s:Stmt):Arguments:=match s with
 |.FunctionDef _ a _ _ _ _ _ _ _ _=>a|_=>{posonlyargs:=[],args:=[],vararg:=none,kwonlyargs:=[],kw_defaults:=[],kwarg:=none,defaults:=[]}
noncomputable def bN(s:Stmt):ab Stmt:=match s with
 |.FunctionDef _ _ b _ _ _ _ _ _ _=>b|_=>[]
noncomputable def aj(s:Stmt):Scope:=match s with
 |.FunctionDef _ _ _ _ _ _ b _ _ _=>b|_=>{kind:=.function,names:=[],isGenerator:=false,isCoroutine:=false}
noncomputable abbrev CX0:CXT:=λ_ _ _ _ _ _=>False
noncomputable abbrev E0:XK:=λ_ _ _=>False
theorem vW{X:Cx}:lO CX0 X E0:=λ_ _ _ _ _ _ _ h=>h.elim
structure Fun(K:zwW)(x qual:Str)(st:Stmt)(f:Addr)(fd:FuncData):Prop where
 ex:∃(oc:Value) (od:Option Addr) (kV doc pm:Value) (an:Option Addr) (cdv ct:Value) (osl:Array (Option Value)),
  fd=PySem.W.fnOf x qual (eP st) (bN st) (aj st) .none kV doc pm an cdv ct/\K.lookup f=some ⟨oc,od,.func fd,osl⟩/\PySem.W.codeIn K cdv qual=true
 kp:PySem.W.keepIn K (.ref f)=true
section
variable{P:ef}{w:World}{K:zwW}{mg:Str->ca bb}{base:cm}
theorem Fun.ok{d:Str}{st:Stmt}{f:bn}{fd:ck}{sp:Sp}(F:Fun K x d st f fd)(S:FnScope N ps (aj st))(len:∀vs H Q E,sp vs H Q E->vs.length=ps.length)(J:∀(cdv:bb) (A:Around) (b:ab Env) (s:bx) (H:Hp) (vs:ab V) (Q:VK) (E:XK),Room k (A.deeper (envOfC d (aj st) s.heap.objs.size f cdv))->sp vs H Q E ->
   ∃t,PSs (cxOf CX0 P w K mg base N d (aj st) f cdv A b s H E).nox (bN st) t/\t {nx:=λ_ e=>Q .non e,rt:=Q} (start N vs) H):FnOk P w K mg base CX0 (k+1) f fd ps sp:=by
 obtain⟨oc,od,kV,doc,pm,an,cdv,ct,osl,rfl,g,L⟩:=F.ex;refine Go g L S len λA b s H vs Q E Y U=>?_;obtain⟨t,h,q⟩:=J cdv A b s H vs Q E Y U;exact⟨t,h.nox,q⟩
theorem Fun.binds{b:Str}{st:Stmt}{f:bn}{fd:ck}(F:Fun K x b st f fd)(h:∀(kV doc pm:bb) (d:ca bn) (cdv ct:bb) (e:ab bb),e.length=ps.length->bindArgs (PySem.W.fnOf x b (eP st) (bN st) (aj st) .none kV doc pm d cdv ct) ⟨e,[]⟩=pure (ps.zip e)):Binds K fd ps []:=by obtain⟨oc,od,kV,doc,pm,d,cdv,ct,osl,rfl,lk,hcd⟩:=F.ex;exact .all (h kV doc pm d cdv ct)
theorem lP{b:Str}{st:Stmt}{f:bn}{od e:ca bn}{d:Array (ca bb)}{kV doc:bb}(l:K.lookup f=some ⟨oc,od,.func (PySem.W.fnOf x b (eP st) (bN st) (aj st) .none kV doc pm e cdv ct),d⟩)(c:PySem.W.codeIn K cdv b=true)(k:PySem.W.keepIn K (.ref f)=true):Fun K x b st f (PySem.W.fnOf x b (eP st) (bN st) (aj st) .none kV doc pm e cdv ct):=⟨⟨oc,od,kV,doc,pm,e,cdv,ct,d,rfl,l,c⟩,k⟩
end
theorem pv(i:Nat){pos:Pos}(L:X.N[i]?=some x:=by rfl)(U:Vis X.env.scope x:=by first|exact Or.inl rfl|exact Or.inr (Or.inl rfl)|exact Or.inr (Or.inr rfl))(hd:(x==("__debug__" : Str))=false:=by decide)(J:(x==("__classdict__" : Str))=false:=by decide):PE X (.Name x pos) (tVar i):=FK L U hd J
theorem iteF(h:B):if false=true then A else B:=by exact h
theorem iteT(h:A):if true=true then A else B:=by exact h
theorem ite2{c:Prop}[Decidable c](b:c->A)(d:¬c->B):if c then A else B:=by
 by_cases h:c
 ·rw[zzk h];exact b h
 ·rw[zzh h];exact d h
def Same(H H':Hp):Prop:=∀b o,H b=some o->H' b=some o
def gLs(K:zwW)(n:Nat)(t:TGs):TG:=λv d H Q=>∃a b,v=.ref a/\SqL K H a b/\b.length=n/\t b d H Q
theorem JA{t:TGs}(w:X.calm=true)(h:PGs X es t)(C:(assignEach es X.env).length=n:=by rfl)(J:(assignEach es X.env).findIdx? (·.1)=none:=by rfl):PG X (.Tuple es k pos) (gLs X.K n t):=by intro d s j H v u Q I r L;obtain⟨a,c,m,E,z,L⟩:=L;subst m;cases r;obtain⟨g,U,M,hz⟩:=I.list E;refine zzd (zwV ?_);unfold unpack;rw[show (assignEach es X.env).length=g.toArray.size by simp[C,←z,U.length],J];refine zzd (zyz (PySem.W.kun_itemsOf (I.ok.hd w) M.isList λq G=>?_));have Y:Inv X d j H {s with heap:=q}:=I.kept λb o e=>G b o (zzL (zzD e)) e;exact h d _ j H c _ Q Y (by simpa using U) L
def knV(H:Hp):V->Prop
 |.non=>True|.bl _=>True|.int _=>True|.str _=>True|.ref a=>(∃d,H a=some (.lst d))∨(∃o d,H a=some (.frz o (.lst d)))∨(∃d,H a=some (.tup d))∨(∃b,H a=some (.dK b))∨(∃b,H a=some (.dT b))|_=>False
noncomputable def GB:V->Bool
 |.int _=>true|.bl _=>true|_=>false
noncomputable def JB:V->Bool
 |.bl _=>true|_=>false
noncomputable def GC:V->Bool
 |.str _=>true|_=>false
noncomputable def iG:ca HO->Bool
 |some (.tup _)=>true|_=>false
noncomputable def iH(H:Hp):V->Bool
 |.ref a=>iG (H a)|_=>false
theorem bj{K:zwW}{t:String}{b:Bool}(h:(if (Value.type t==Value.type T)=true then some true else if PySem.W.kitMeta T=true then(PySem.fastBuiltinMro t).map (·.contains (.type T)) else none)=some b):PySem.W.kitOne K (.type t) (.type T)=some b:=h
theorem fi{f:Hp->V->Bool}(m:∀(H:Hp),PySem.W.kitOne X.K (.type "NoneType") (.type T)=some (f H .non))(U:∀(H:Hp) c,PySem.W.kitOne X.K (.type "bool") (.type T)=some (f H (.bl c)))(g:∀(H:Hp) i,PySem.W.kitOne X.K (.type "int") (.type T)=some (f H (.int i)))(hs:∀(H:Hp) x,PySem.W.kitOne X.K (.type "str") (.type T)=some (f H (.str x)))(j:∀(H:Hp) a xs,H a=some (.lst xs)->PySem.W.kitOne X.K (.type "list") (.type T)=some (f H (.ref a)))(Y:∀(H:Hp) a o xs,H a=some (.frz o (.lst xs))->PySem.W.kitOne X.K (.type "list") (.type T)=some (f H (.ref a)))(v:∀(H:Hp) a xs,H a=some (.tup xs)->PySem.W.kitOne X.K (.type "tuple") (.type T)=some (f H (.ref a)))(hd:∀(H:Hp) a kvs,H a=some (.dK kvs)->PySem.W.kitOne X.K (.type "dict") (.type T)=some (f H (.ref a)))(J:∀(H:Hp) a kvs,H a=some (.dT kvs)->PySem.W.kitOne X.K (.type "dict") (.type T)=some (f H (.ref a))) :
  cr X (.builtin "isinstance") (λxs H Q=>∃x,xs=[x,.ty T]/\knV H x/\Q (.bl (f H x)) H):=by
 intro d s M H xs us Q I r h;obtain⟨x,rfl,L,q⟩:=h;obtain⟨G,u2,rfl,z,C⟩:=Js r;cases C;have fin:∀t,TyOf X.K H x t->PySem.W.kitOne X.K t (.type T)=some (f H x)->wpAny (model X.prog X.w) X.A (call (.builtin "isinstance") [G,.type T]) (EP X d M Q) X.xe s :=
  λt ty e=>xF I z ty e λE=>⟨.bl (f H x),H,I.tok E,rfl,q⟩
 cases x with
 |non=>exact fin _ .non (m H)|bl c=>exact fin _ (.bl c) (U H c)|int i=>exact fin _ (.int i) (g H i)|str y=>exact fin _ (.str y) (hs H y)|ref a =>
  rcases L with ⟨b,e⟩|⟨o,b,e⟩|⟨b,e⟩|⟨b,e⟩|⟨b,e⟩
  ·exact fin _ (.lst e) (j H a b e)
  ·exact fin _ (.frz e) (Y H a o b e)
  ·exact fin _ (.tup e) (v H a b e)
  ·exact fin _ (.dK e) (hd H a b e)
  ·exact fin _ (.dT e) (J H a b e)
 |_=>exact L.elim
theorem jE{K:zwW}:PySem.W.kitOne K (.type "NoneType") (.type "int")=some false:=bj (by decide +kernel)
theorem rK{K:zwW}:PySem.W.kitOne K (.type "bool") (.type "int")=some true:=bj (by decide +kernel)
theorem vX{K:zwW}:PySem.W.kitOne K (.type "int") (.type "int")=some true:=bj (by decide +kernel)
theorem vY{K:zwW}:PySem.W.kitOne K (.type "str") (.type "int")=some false:=bj (by decide +kernel)
theorem jF{K:zwW}:PySem.W.kitOne K (.type "list") (.type "int")=some false:=bj (by decide +kernel)
theorem oY{K:zwW}:PySem.W.kitOne K (.type "tuple") (.type "int")=some false:=bj (by decide +kernel)
theorem jG{K:zwW}:PySem.W.kitOne K (.type "dict") (.type "int")=some false:=bj (by decide +kernel)
theorem iT{K:zwW}:PySem.W.kitOne K (.type "NoneType") (.type "bool")=some false:=bj (by decide +kernel)
theorem oZ{K:zwW}:PySem.W.kitOne K (.type "bool") (.type "bool")=some true:=bj (by decide +kernel)
theorem rL{K:zwW}:PySem.W.kitOne K (.type "int") (.type "bool")=some false:=bj (by decide +kernel)
theorem rM{K:zwW}:PySem.W.kitOne K (.type "str") (.type "bool")=some false:=bj (by decide +kernel)
theorem iI{K:zwW}:PySem.W.kitOne K (.type "list") (.type "bool")=some false:=bj (by decide +kernel)
theorem mW{K:zwW}:PySem.W.kitOne K (.type "tuple") (.type "bool")=some false:=bj (by decide +kernel)
theorem iJ{K:zwW}:PySem.W.kitOne K (.type "dict") (.type "bool")=some false:=bj (by decide +kernel)
theorem jH{K:zwW}:PySem.W.kitOne K (.type "NoneType") (.type "str")=some false:=bj (by decide +kernel)
theorem rN{K:zwW}:PySem.W.kitOne K (.type "bool") (.type "str")=some false:=bj (by decide +kernel)
theorem vZ{K:zwW}:PySem.W.kitOne K (.type "int") (.type "str")=some false:=bj (by decide +kernel)
theorem we{K:zwW}:PySem.W.kitOne K (.type "str") (.type "str")=some true:=bj (by decide +kernel)
theorem jI{K:zwW}:PySem.W.kitOne K (.type "list") (.type "str")=some false:=bj (by decide +kernel)
theorem pj{K:zwW}:PySem.W.kitOne K (.type "tuple") (.type "str")=some false:=bj (by decide +kernel)
theorem jJ{K:zwW}:PySem.W.kitOne K (.type "dict") (.type "str")=some false:=bj (by decide +kernel)
theorem gU{K:zwW}:PySem.W.kitOne K (.type "NoneType") (.type "tuple")=some false:=bj (by decide +kernel)
theorem mX{K:zwW}:PySem.W.kitOne K (.type "bool") (.type "tuple")=some false:=bj (by decide +kernel)
theorem pq{K:zwW}:PySem.W.kitOne K (.type "int") (.type "tuple")=some false:=bj (by decide +kernel)
theorem pw{K:zwW}:PySem.W.kitOne K (.type "str") (.type "tuple")=some false:=bj (by decide +kernel)
theorem gm{K:zwW}:PySem.W.kitOne K (.type "list") (.type "tuple")=some false:=bj (by decide +kernel)
theorem lg{K:zwW}:PySem.W.kitOne K (.type "tuple") (.type "tuple")=some true:=bj (by decide +kernel)
theorem gq{K:zwW}:PySem.W.kitOne K (.type "dict") (.type "tuple")=some false:=bj (by decide +kernel)
theorem rO:cr X (.builtin "isinstance") (λxs H Q=>∃x,xs=[x,.ty "int"]/\knV H x/\Q (.bl (GB x)) H) :=
 fi (λ_=>jE) (λ_ _=>rK) (λ_ _=>vX) (λ_ _=>vY) (λ_ _ _ _=>jF) (λ_ _ _ _ _=>jF) (λ_ _ _ _=>oY) (λ_ _ _ _=>jG) (λ_ _ _ _=>jG)
theorem pz:cr X (.builtin "isinstance") (λxs H Q=>∃x,xs=[x,.ty "bool"]/\knV H x/\Q (.bl (JB x)) H) :=
 fi (λ_=>iT) (λ_ _=>oZ) (λ_ _=>rL) (λ_ _=>rM) (λ_ _ _ _=>iI) (λ_ _ _ _ _=>iI) (λ_ _ _ _=>mW) (λ_ _ _ _=>iJ) (λ_ _ _ _=>iJ)
theorem rP:cr X (.builtin "isinstance") (λxs H Q=>∃x,xs=[x,.ty "str"]/\knV H x/\Q (.bl (GC x)) H) :=
 fi (λ_=>jH) (λ_ _=>rN) (λ_ _=>vZ) (λ_ _=>we) (λ_ _ _ _=>jI) (λ_ _ _ _ _=>jI) (λ_ _ _ _=>pj) (λ_ _ _ _=>jJ) (λ_ _ _ _=>jJ)
theorem mY:cr X (.builtin "isinstance") (λxs H Q=>∃x,xs=[x,.ty "tuple"]/\knV H x/\Q (.bl (iH H x)) H) :=
 fi (λ_=>gU) (λ_ _=>mX) (λ_ _=>pq) (λ_ _=>pw) (λH a xs e=>by simp only[iH,e,iG];exact gm) (λH a o xs e=>by simp only[iH,e,iG];exact gm) (λH a xs e=>by simp only[iH,e,iG];exact lg) (λH a xs e=>by simp only[iH,e,iG];exact gq) (λH a xs e=>by simp only[iH,e,iG];exact gq)
def Big(i:Int):Prop:=i.natAbs.log2<8000
theorem xU(h:i.natAbs<2^8000):Big i:=by
 unfold Big;rcases Nat.eq_zero_or_pos i.natAbs with h0|J
 ·rw[h0];decide
 ·exact(Nat.log2_lt (Nat.ne_of_gt J)).mpr h
theorem Big.bits(h:Big i):Builtin.Int.intBits i<=8000:=by
 unfold Builtin.Int.intBits;unfold Big at h;split
 ·exact zzM _
 ·lia
def CMulB(i j:Int):Prop:=(-(2^64)<i/\i<2^64)∨(-(2^64)<j/\j<2^64)∨(Big i/\Big j)
theorem CMulB.ok(h:CMulB i c):IntMulOk i c:=by
 rcases h with ⟨b,d⟩|⟨b,d⟩|⟨b,d⟩
 ·exact .of_left (intBits_le_64 b d)
 ·exact .of_right (intBits_le_64 b d)
 ·have b1:=b.bits;have b2:=d.bits;unfold IntMulOk;have:Builtin.Int.intTooBig (Builtin.Int.intBits i+Builtin.Int.intBits c)=false:=by
   refine zzv ?_;have e:bitsLine=134217728:=by decide
   lia
  rw[this];simp
theorem gX:OpR X (binaryOp .Mult) (rI CMulB λi j=>.int (i*j)):=opI λ_ _ _ _ _ _ _ J q=>mul_int q J.ok
def JC(_ j:Int):Prop:=0<j/\Big j
theorem uq:OpR X (binaryOp .FloorDiv) (rI JC λi j=>.int (i / j)):=opI λi j _ _ _ _ _ J q=>by have h1:(0:Int)<j:=J.1;exact floordiv_int (by lia) (by rw[Int.fdiv_eq_ediv_of_nonneg i (by lia)];exact q) (.inl (PyProof.noPylong_of_log2 (zwF J.2 (by decide))))
def GD(_ j:Int):Prop:=j≠0/\Big j
theorem AC:OpR X (binaryOp .FloorDiv) (rI GD λi j=>.int (i.fdiv j)):=opI λi j _ _ _ _ _ J q =>
 floordiv_int J.1 q (.inl (PyProof.noPylong_of_log2 (zwF J.2 (by decide))))
structure Df(K:zwW)(mg:Str->Option Value)(x:Str)(st:Stmt)(ps:List Str)(f:Addr)(fd:FuncData):Prop where
 F:Fun K x x st f fd
 m:mg x=some (.ref f)
 b:Binds K fd ps []
structure Dd(K:zwW)(mg:Str->Option Value)(x:Str)(st:Stmt)(ps:List Str) where
 f:Addr
 fd:FuncData
 d:Df K mg x st ps f fd
noncomputable abbrev Dd.Ok{K:zwW}{mg:Str->ca bb}{x:Str}{st:Stmt}{ps:ab Str}(D:Dd K mg x st ps)(P:ef)(w:World)(base:cm)(CX:CXT)(k:Nat)(sp:Sp):Prop:=FnOk P w K mg base CX k D.f D.fd ps sp
def SBut(p:bn)(H H':Hp):Prop:=∀b o,b≠p->H b=some o->H' b=some o
theorem SBut.trans(x:SBut p H H1)(y:SBut p H1 H2):SBut p H H2:=λb o n e=>y b o n (x b o n e)
theorem SBut.upd{p:bn}{H:Hp}{o:HO}:SBut p H (upd H p o):=λb u n e=>by rw[af n];exact e
theorem ur{q:bn}(h:H q=none):Same H (upd H q o):=λb u e=>by rw[af (cq e h)];exact e
theorem cW{q:bn}(h:H p=none)(e:H q=some u):upd H p o q=some u:=by rw[af (cq e h)];exact e
def Scr(K:zwW)(H:Hp)(a:bn)(ns:ab Int):Prop:=(∃o,H a=some (.frz o (.lst (ns.map V.int))))∨∀b,SqL K b a (ns.map V.int)
theorem Scr.sq{K:zwW}(h:Scr K H a ns):SqL K H a (ns.map V.int):=by
 rcases h with ⟨o,h⟩|h
 ·exact .inl (.inr ⟨o,h⟩)
 ·exact h H
structure Pen(K:zwW)(H:Hp)(p a:Addr)(ns:List Int)(t l:Int):Prop where
 lst:H p=some (.lst [.ref a,.int t,.int l])
 scr:Scr K H a ns
 t0:0 <= t
theorem Pen.put{K:zwW}{t':Int}(h:Pen K H p a ns c l)(h0:0<=t'):Pen K (upd H p (.lst [.ref a,.int t',.int i])) p a ns t' i:=by
 refine⟨ae,?_,h0⟩;rcases h.scr with ⟨o,e⟩|e
 ·refine .inl ⟨o,?_⟩;rw[af (kY e h.lst (by intro z;cases z))];exact e
 ·exact .inr e
theorem Pen.same{K:zwW}(h:Pen K H p a ns c l)(s:Same H H1):Pen K H1 p a ns c l:=by
 refine⟨s _ _ h.lst,?_,h.t0⟩;rcases h.scr with ⟨o,e⟩|e
 ·exact .inl ⟨o,s _ _ e⟩
 ·exact .inr e
theorem xV(h0:0<=i)(h:i<(ns.length:Int)):atI (ns.map V.int) i=some (.int (ns.getD i.toNat 0)):=by
 obtain⟨j,rfl⟩:=zyl h0;have J:j<ns.length:=by lia
 refine atI_nat ?_;simp[zzr,J]
def JD:R2:=λx y H Q=>∃p b i v,x=.ref p/\y=.int i/\H p=some (.tup b)/\atI b i=some v/\Q v H
def JE:R2:=λx y H Q=>∃p b i v,x=.ref p/\y=.int i/\H p=some (.lst b)/\atI b i=some v/\Q v H
theorem rQ:IxR X JD:=by rintro value slice b s j H x y v u Q I Y e ⟨p,g,i,z,J,L,h,U,q⟩ d;exact Gq value slice b s j H x y v u Q I Y e ⟨p,g,i,z,J,L,SqT.of h,U,q⟩ d
theorem mZ:IxR X JE:=by rintro value slice b s j H x y v u Q I Y e ⟨p,g,i,z,J,L,h,U,q⟩ d;exact mS value slice b s j H x y v u Q I Y e ⟨p,g,i,z,J,L,SqL.of h,U,q⟩ d
noncomputable def lenO:ca HO->ca Nat
 |some (.lst b)=>some b.length|some (.tup b)=>some b.length|_=>none
def JF:ab V->Hp->VK->Prop:=λb H Q=>∃p n,b=[.ref p]/\lenO (H p)=some n/\Q (.int n) H
theorem xW:cr X (.builtin "len") JF:=by
 intro b s j H xs g Q I r h;obtain⟨p,n,rfl,e,q⟩:=h;cases o:H p with
 |none=>rw[o]at e;cases e
 |some m =>
  rw[o]at e;cases m with
  |lst d=>cases e;exact cD b s j H _ g Q I r ⟨p,d,rfl,.inl (SqL.of o),q⟩
  |tup d=>cases e;exact cD b s j H _ g Q I r ⟨p,d,rfl,.inr (SqT.of o),q⟩
  |_=>cases e
def gLsH(n:Nat)(t:TGs):TG:=λv d H Q=>∃a b,v=.ref a/\H a=some (.lst b)/\b.length=n/\t b d H Q
theorem GE{t:TGs}(d:X.calm=true)(h:PGs X es t)(e:(assignEach es X.env).length=n:=by rfl)(J:(assignEach es X.env).findIdx? (·.1)=none:=by rfl):PG X (.Tuple es k pos) (gLsH n t):=by rintro b s j H v u Q I r ⟨a,g,L,U,Y,q⟩;exact JA d h e J b s j H v u Q I r ⟨a,g,L,SqL.of U,Y,q⟩
def JG(n:Nat)(t:TGs):TG:=λv d H Q=>∃a b,v=.ref a/\H a=some (.tup b)/\b.length=n/\t b d H Q
theorem DK{t:TGs}(d:X.calm=true)(h:PGs X es t)(e:(assignEach es X.env).length=n:=by rfl)(J:(assignEach es X.env).findIdx? (·.1)=none:=by rfl):PG X (.Tuple es k pos) (JG n t):=by rintro b s j H v u Q I r ⟨a,g,L,U,Y,q⟩;exact FW d h e J b s j H v u Q I r ⟨a,g,L,SqT.of U,Y,q⟩
def xX(K:zwW):Sp:=λe H Q _=>∃(p a:bn) (ns:ab Int) (t l m:Int),e=[.ref p,.int m]/\Pen K H p a ns t l/\1<=m/\m<=10^60 /\
 ∀(r d J:Int) (b:Hp),0<=r->r<m->Pen K b p a ns d J->SBut p H b->Q (.int r) b
def Cf(K:zwW):Sp:=λd H Q _=>∃(a:bn) (ns:ab Int),d=[.ref a]/\Scr K H a ns/\∀(p:bn) (b:Hp),H p=none->Pen K b p a ns 0 0->Same H b->Q (.ref p) b
theorem nj{x d:Int}(h0:0<d)(h:d<=18446744073709551616):CMulB (x % d) y:=by have h1:=zyU x (show d≠0 by lia);have h2:=zyC x h0;exact .inl ⟨by lia,by lia⟩
theorem AD(h : -18446744073709551616<c/\c<18446744073709551616:=by decide):CMulB c y:=.inl h
theorem GF(h : -18446744073709551616<c/\c<18446744073709551616:=by decide):CMulB y c:=.inr (.inl h)
theorem mpos(h:0<c:=by decide):0<c:=h
theorem xY(h0:0<=c)(h:c<=10^60):Big c:=xU (zzJ (zzw (show c.natAbs<=10^60 by lia) (show 10^60<2^200 by decide)) (zxT (by decide) (by decide)))
theorem pA(h0:0<=c)(h:c<=18446744073709551616):Big c:=xU (zzJ (zzw (show c.natAbs<=18446744073709551616 by lia) (show 18446744073709551616<2^65 by decide)) (zxT (by decide) (by decide)))
end L2
namespace Ra
variable{a b x y:Int}
structure Low(a b x y:Int):Prop where
 pos:0<y
 cop:Int.gcd x y=1
 eq:x*b=a*y
theorem fj{z:Int}(h:Int.gcd x y=1)(hd:y ∣ x*z):y ∣ z:=by
 have c:Nat.Coprime y.natAbs x.natAbs:=by show Nat.gcd y.natAbs x.natAbs=1;rw[Nat.gcd_comm];exact h
 have d:y.natAbs ∣ x.natAbs*z.natAbs:=by rw[←Int.natAbs_mul];exact zxK.mpr hd
 exact zxK.mp (c.dvd_of_dvd_mul_left d)
theorem Low.uniq{x' J:Int}(g:b≠0)(h:Low a b x y)(c:Low a b x' J):x=x'/\y=J:=by
 have e:x*J=x'*y:=by
  have Y:b*(x*J)=b*(x'*y):=by have:=h.eq;have:=c.eq;grind
  exact Int.eq_of_mul_eq_mul_left g Y
 have L:y ∣ J:=fj h.cop ⟨x',by grind⟩;have U:J ∣ y:=fj c.cop ⟨x,by grind⟩;have d:y=J:=Int.dvd_antisymm (zwG h.pos) (zwG c.pos) L U;subst d;exact⟨Int.eq_of_mul_eq_mul_right (Int.ne_of_gt h.pos) e,rfl⟩
theorem low_of{a b d:Int}(n:b≠0)(hd:d=if b<0 then -((Int.gcd a b:Nat):Int) else((Int.gcd a b:Nat):Int)):Low a b (a.fdiv d) (b.fdiv d):=by
 have o:0<Int.gcd a b:=Int.gcd_pos_of_ne_zero_right a n;obtain⟨U,h⟩:((Int.gcd a b:Nat):Int) ∣ a:=Int.gcd_dvd_left ..;obtain⟨L,J⟩:((Int.gcd a b:Nat):Int) ∣ b:=Int.gcd_dvd_right ..;have k:Int.gcd U L=1:=by
  have e:Int.gcd a b=Int.gcd a b*Int.gcd U L:=by have j:=Int.gcd_mul_left ((Int.gcd a b:Nat):Int) U L;rw[←h,←J]at j;simpa using j
  have:Int.gcd a b*1=Int.gcd a b*Int.gcd U L:=by lia
  exact(Nat.eq_of_mul_eq_mul_left o this).symm
 generalize hG:((Int.gcd a b:Nat):Int)=G at *;by_cases i:b<0
 ·rw[zzk i]at hd;have l:a=d*(-U):=by rw[hd,h];grind
  have m:b=d*(-L):=by rw[hd,J];grind
  have Y:d≠0:=by lia
  have c:a.fdiv d = -U:=by rw[l,zxp _ Y]
  have g:b.fdiv d = -L:=by rw[m,zxp _ Y]
  rw[c,g];refine⟨?_,by rw[Int.gcd_neg,Int.neg_gcd];exact k,?_⟩
  ·have:G*L<0:=by rw[←J];exact i
   have:=Int.neg_of_mul_neg_right this (by lia);lia
  · grind
 ·rw[zzh i]at hd;have c:a.fdiv d=U:=by rw[hd,h,zxp _ (by lia)]
  have g:b.fdiv d=L:=by rw[hd,J,zxp _ (by lia)]
  rw[c,g];refine⟨?_,k,?_⟩
  ·have:0<G*L:=by rw[←J];lia
   exact Int.pos_of_mul_pos_right this (by lia)
  · grind
theorem gcd_step(hb:b≠0):Int.gcd b (a.fmod b)=Int.gcd a b:=by
 have e:a=b*a.fdiv b+a.fmod b:=(Int.mul_fdiv_add_fmod a b).symm
 conv=>rhs;rw[e]
 rw[Int.gcd_mul_left_add_left,Int.gcd_comm]
theorem fmod_less(J:b≠0):(a.fmod b).natAbs<b.natAbs:=by
 rcases Int.lt_or_gt_of_ne J with h|h
 ·have c:=Int.fmod_nonneg_of_pos (-a) (b:=-b) (by lia);have d:=Int.fmod_lt_of_pos (-a) (b:=-b) (by lia);have h4:(-a).fmod (-b) = -(a.fmod b):=by
   rw[Int.neg_fmod_neg]
  lia
 ·have c:=Int.fmod_nonneg_of_pos a h;have d:=Int.fmod_lt_of_pos a h;lia
theorem gcd_zero{a:Int}:(if a<0 then -a else a)=((Int.gcd a 0:Nat):Int):=by rw[Int.gcd_zero_right];split<;>lia
theorem Low.le(J:b≠0)(h:Low a b x y):x.natAbs<=a.natAbs/\y.natAbs<=b.natAbs:=by
 have L:y ∣ b:=fj h.cop ⟨a,by have:=h.eq;grind⟩;have Y:y.natAbs<=b.natAbs:=Nat.le_of_dvd (Int.natAbs_pos.mpr J) (zxK.mpr L);refine⟨?_,Y⟩;by_cases c:a=0
 ·have e:=h.eq;rw[c,Int.zero_mul]at e;rcases Int.mul_eq_zero.mp e with z|z
  ·rw[z];exact zzM _
  ·exact absurd z J
 ·have U:x ∣ a:=fj (by rw[Int.gcd_comm];exact h.cop) ⟨b,by have:=h.eq;grind⟩;exact Nat.le_of_dvd (Int.natAbs_pos.mpr c) (zxK.mpr U)
theorem less_iff{c d z t:Int}(J:0<b)(hd:0<d)(h:Low a b x y)(g:Low c d z t):(x*t<z*y)↔(a*d<c*b):=by
 have e:(z*y - x*t)*(b*d)=(c*b - a*d)*(y*t):=by have:=h.eq;have:=g.eq;grind
 have i:0<b*d:=zwQ J hd;have j:0<y*t:=zwQ h.pos g.pos;constructor
 ·intro q;have:0<(z*y - x*t)*(b*d):=zwQ (by lia) i;rw[e]at this;have:=Int.pos_of_mul_pos_left this (by lia);lia
 ·intro q;have:0<(c*b - a*d)*(y*t):=zwQ (by lia) j;rw[←e]at this;have:=Int.pos_of_mul_pos_left this (by lia);lia
end Ra
namespace L2
open PySem PySem.Spec PyProof.Rows
variable{A:Around}{C c it sl:bn}{av itv vk:bb}{ch fp:ab bn}{cs:ab dy}{e it0 tg:dy}{env:Env}{h h₁:cm}{its xs:Array bb}{k t':Nat}{l r:ab (Str×bn)}{p pos tp:Pos}{sc:Scope}{w:World}{y:Str}
variable{X:Cx}{pins:ab (bn×Obj)}{σ:St}{H:Hp}{s:bx}{pos:Pos}{te:TE}
noncomputable def dl(cells:ab (Str×bn)):ab (Str×NameKind)->ab (Str×bn)->ca (ab (Str×bn))
 |[],cs=>some cs| (n,k)::r,cs=>if k==.free then(match cells.lookup n with
  |some c=>dl cells r ((n,c)::cs)|none=>none) else dl cells r cs
theorem gr{cl:ab (Str×bn)}(h:dl env.cells sc.names []=some cl):closureFor sc env=pure cl:=by
 simp only[closureFor];generalize ([]:ab (Str×bn))=cs at h ⊢;generalize sc.names=l at h ⊢
 induction l generalizing cs with
 |nil=>cases h;rfl
 |cons a r L =>
  obtain⟨n,k⟩:=a;unfold dl at h;rw[List.forIn_cons];by_cases J:(k==NameKind.free)=true
  ·rw[zzk J]at h;cases e:env.cells.lookup n with
   |none=>rw[e]at h;cases h
   |some c =>
    rw[e]at h;have:=L _ h;simp only[J,if_true,cellOf,e,pure_bind];exact this
  ·rw[zzh J]at h;have:=L _ h;simp only[J,Bool.false_eq_true,zwO,pure_bind];exact this
theorem gY{cells cl:ab (Str×bn)}:∀{l:ab (Str×NameKind)} {cs:ab (Str×bn)},dl cells l cs=some cl->(∀y c,cs.lookup y=some c->cells.lookup y=some c)->∀y c,cl.lookup y=some c->cells.lookup y=some c
 |[],cs,h,a,y,c,e=>by cases h;exact a y c e
 |(n,k)::r,cs,h,a,y,c,e=>by
  unfold dl at h;by_cases U:(k==NameKind.free)=true
  ·rw[zzk U]at h;cases q:cells.lookup n with
   |none=>rw[q]at h;cases h
   |some c' =>
    rw[q]at h;refine gY h (λz d L=>?_) y c e;by_cases J:(z==n)=true
    ·rw[zym,J]at L;cases L;rw[eq_of_beq J];exact q
    ·rw[zym,(Bool.not_eq_true _).mp J]at L;exact a z d L
  ·rw[zzh U]at h;exact gY h a y c e
theorem fk{cells cl:ab (Str×bn)}:∀{l:ab (Str×NameKind)} {cs:ab (Str×bn)},dl cells l cs=some cl->∀y,((y,NameKind.free)∈l∨∃c,cs.lookup y=some c)->∃c,cl.lookup y=some c
 |[],cs,h,y,e=>by
  cases h;rcases e with e|e
  ·simp at e
  ·exact e
 |(n,k)::r,cs,h,y,e=>by
  unfold dl at h;by_cases L:(k==NameKind.free)=true
  ·rw[zzk L]at h;cases q:cells.lookup n with
   |none=>rw[q]at h;cases h
   |some U =>
    rw[q]at h;refine fk h y ?_;rcases e with e|⟨c,e⟩
    ·rcases zzi.mp e with e|e
     ·cases e;exact .inr ⟨U,by rw[zym,beq_self_eq_true]⟩
     ·exact .inl e
    ·by_cases J:(y==n)=true
     ·exact .inr ⟨U,by rw[zym,J]⟩
     ·exact .inr ⟨c,by rw[zym,(Bool.not_eq_true _).mp J];exact e⟩
  ·rw[zzh L]at h;refine fk h y ?_;rcases e with e|e
   ·rcases zzi.mp e with e|e
    ·cases e;exact absurd rfl L
    ·exact .inl e
   ·exact .inr e
inductive Cap(X:Cx)(scope:Scope):List Str->List (Option Nat)->Prop where
 |nil:Cap X scope [] []
 |own {x:Str} {N:List Str} {js:List (Option Nat)} (h:Cap X scope N js):Cap X scope (x::N) (none::js)
 |cap {x:Str} {j:Nat} {N:List Str} {js:List (Option Nat)} (h1:X.N[j]? = some x) (h2:X.env.kindOf x=some .cell∨X.env.kindOf x=some .free)
   (h3:scope.names.lookup x=some .free) (h:Cap X scope N js):Cap X scope (x::N) (some j::js)
noncomputable def sub1(σ:St):ca Nat->ca V
 |none=>none|some j=>(σ[j]?).join
noncomputable def sub(js:ab (ca Nat))(σ:St):St:=js.map (sub1 σ)
theorem Cap.len{X:Cx}{N:ab Str}{a:ab (ca Nat)}(h:Cap X sc N a):a.length=N.length:=by induction h<;>simp[*]
theorem Cap.at{X:Cx}{a:Scope}{N:ab Str}{g:ab (ca Nat)}(h:Cap X a N g):∀{i:Nat} {x:Str} {σ:St} {v:V},N[i]?=some x->(sub g σ)[i]?=some (some v) ->
  ∃j:Nat,X.N[j]?=some x/\σ[j]?=some (some v)/\(X.env.kindOf x=some .cell∨X.env.kindOf x=some .free)/\a.names.lookup x=some .free:=by
 induction h with
 |nil=>intro i x σ v h;simp at h|own h J =>
  intro i x σ v d b;cases i with
  |zero=>simp[sub,sub1]at b|succ i=>exact J (by simpa using d) (by simpa[sub]using b)
 |@cap x j N g m L U h J =>
  intro i y σ v d b;cases i with
  |zero =>
   simp at d;subst d;simp[sub,sub1]at b;refine⟨j,m,?_,L,U⟩;cases q:σ[j]? with
   |none=>rw[q]at b;simp at b|some o=>rw[q]at b;simp at b;rw[b]
  |succ i=>exact J (by simpa using d) (by simpa[sub]using b)
noncomputable def dm(X:Cx)(scope:Scope)(cl:ab (Str×bn))(C:bn)(N':ab Str)(L:bx)(J:Hp)(fp:ab bn)(pins:ab (bn×Obj)):Cx :=
 {X with N:=N',s₀:=L,H₀:=J,env:=compEnvC scope cl C X.env,outer:=X.stack,ex:=fp,fn:=λy=>scope.names.lookup y==some .cell,pn:=X.pn++pins,xe:=λ_ _=>False}
structure Blk where
 C:Addr
 s3:Shared
 H3:Hp
 fp:List Addr
 pins:List (Addr×Obj)
noncomputable abbrev cxB(X:Cx)(scope:Scope)(cl:ab (Str×bn))(N':ab Str)(B:Blk):Cx:=dm X scope (cellsFrom (B.C+1) scope.names cl) B.C N' B.s3 B.H3 B.fp B.pins
def PTs(X:Cx)(ifs:ab dy)(t:TT):Prop :=
 ∀(pins:ab (bn×Obj)) (s:bx) (σ:St) (H:Hp) (Q:Bool->Hp->Prop),Inv X pins σ H s->t σ H Q ->
  wpAny (model X.prog X.w) X.A (forIn ifs true λc r=>if r=true then do let ok ←isTrue c X.env (eval c X.env);pure (ForInStep.yield ok) else pure (ForInStep.yield r)) (TP X pins σ Q) X.xe s
def DM:TT:=λ_ H Q=>Q true H
theorem DN{X:Cx}:PTs X [] DM:=λ_ _ _ H _ I h=>wpAny_tests_nil ⟨H,I,h⟩
theorem DP{X:Cx}{t:TT}(h:PT X tg t):PTs X [tg] t:=λpins s σ H Q I q=>wpAny_tests_one (h pins s σ H Q I q)
def DQ(wi:TI)(js:ab (ca Nat))(g:Blk->TG)(tc:Blk->TT)(te:Blk->TE):TE:=λσ H Q=>wi σ H λJ o=>∀(B:Blk) D,o D=none->∃W:Nat->Nat->St->Hp->Prop,(∃m,W 0 m (sub js σ) (upd o D (.lst [])))/\∀i m j a,W i m j a ->
 (J.stop i a/\Q (.ref D) a)∨(J.go i a/\∃N:St->Hp->Prop,(∀U d,N U d->∃u,u<m/\W (i+1) u U d)/\∀y d,J.yld i a y d->g B y j d λL x=>tc B L x λb Y =>
  if b=true then te B L Y λv q=>∃n,q D=some (.lst n)/\n.length<sizeLine/\N L (upd q D (.lst (n++[v]))) else N L Y)
theorem pB(h:(relabel sc env).names.lookup y=some .cell∨(relabel sc env).names.lookup y=some .free):(y,NameKind.free)∈sc.names∨(y,NameKind.cell)∈sc.names:=by
 have key:∀k,(y,k)∈(relabel sc env).names->(k=.cell∨k=.free)->(y,NameKind.free)∈sc.names∨(y,NameKind.cell)∈sc.names:=by
  intro k b J;obtain⟨⟨n,q⟩,a,e⟩:=zzf.mp b;dsimp only at e;split at e
  ·rename_i c;simp only[zzV]at c;have:q=.free:=eq_of_beq c.1.1;subst this;cases e;exact .inl a
  ·cases e;rcases J with rfl|rfl
   ·exact .inr a
   ·exact .inl a
 rcases h with h|h
 ·exact key _ (zyi h) (.inl rfl)
 ·exact key _ (zyi h) (.inr rfl)
theorem jK(h:sc.names.lookup y=some .free):(relabel sc env).names.lookup y=some .cell∨(relabel sc env).names.lookup y=some .free:=by
 show (List.lookup y (sc.names.map _))=_∨(List.lookup y (sc.names.map _))=_;generalize sc.names=l at h
 induction l with
 |nil=>simp at h|cons a r J =>
  obtain⟨n,k⟩:=a;rw[zym]at h;rw[zzj];cases e:y==n with
  |true =>
   rw[e]at h;cases h;dsimp only;split
   ·left;rw[zym,e]
   ·right;rw[zym,e]
  |false =>
   rw[e]at h;dsimp only;split<;>(rw[zym,e];exact J h)
theorem bE:∀(a:ab (Str×NameKind)) (n:Nat) (J:ab (Str×bn)),cellsFrom n a J=cellsFrom n a []++J
 |[],_,_=>rfl|(x,k)::r,n,J=>by
  unfold cellsFrom;split
  ·rw[bE r (n+1) ((x,n)::J),bE r (n+1) [(x,n)],zzR];rfl
  ·exact bE r n J
theorem dD:∀(a:ab (Str×NameKind)) (n:Nat) (y:Str) (c:bn),(y,c)∈cellsFrom n a []->(y,NameKind.cell)∈a
 |[],_,_,_,h=>(nomatch h)|(x,k)::r,n,y,c,h=>by
  unfold cellsFrom at h;split at h
  ·rename_i J;rw[bE]at h;rcases zzA.mp h with h|h
   ·exact zzb _ (dD r _ y c h)
   ·have e:=zzG.mp h;cases e;rw[show k=.cell from eq_of_beq J];exact zze
  ·exact zzb _ (dD r _ y c h)
theorem gs:∀{l:ab (Str×bn)} {y:Str} {c:bn},(y,c)∈l->∃d,l.lookup y=some d
 |(x,k)::r,y,c,h=>by
  rw[zym];cases e:y==x with
  |true=>exact⟨_,rfl⟩|false =>
   rcases zzi.mp h with h|h
   ·cases h;simp at e
   ·exact gs h
theorem ee:∀(a:ab (Str×NameKind)) (n:Nat) (y:Str),(y,NameKind.cell)∈a->∃c,(y,c)∈cellsFrom n a []
 |(x,k)::r,n,y,h=>by
  unfold cellsFrom;split
  ·rw[bE];rcases zzi.mp h with h|h
   ·cases h;exact⟨n,zye _ (zzG.mpr rfl)⟩
   ·obtain⟨c,q⟩:=ee r (n+1) y h;exact⟨c,zwC _ q⟩
  ·rename_i J;rcases zzi.mp h with h|h
   ·cases h;exact absurd rfl J
   ·exact ee r n y h
theorem dH(h:(l++r).lookup y=some c):l.lookup y=some c∨(l.lookup y=none/\r.lookup y=some c):=by
 rw[zwT]at h;cases e:l.lookup y with
 |none=>rw[e]at h;exact .inr ⟨rfl,h⟩|some d=>rw[e]at h;exact .inl h
theorem jM(h:l.lookup y=some c):(l++r).lookup y=some c:=by rw[zwT,h];rfl
theorem jN(h:l.lookup y=none):(l++r).lookup y=r.lookup y:=by rw[zwT,h];rfl
theorem iU{M:Model}{E:bb->bx->Prop}{s:bx}{Q:Env->bx->Prop}(h:∀h₁:cm,h₁.Ns s.heap.objs.size (λ_=>none)->(∀b o,s.heap.get? b=some o->h₁.get? b=some o)->CellsOk h₁ (s.heap.objs.size+1) (cellsFrom (s.heap.objs.size+1) sc.names []) ->
   Q (newEnv sc s.heap.objs.size c (cellsFrom (s.heap.objs.size+1) sc.names l) y none .none (some env) builtinsNs) {s with heap:=h₁}) :
  wpAny M A (newFunctionEnv sc c l [] y none .none (some env)) Q E s:=by
 simp only[newFunctionEnv,Option.isSome_some,if_true];refine zzd (wpAny_alloc ?_);refine zzd (wpAny_layCells _ (λname kind cells=>by cases J:kind==NameKind.cell<;>simp[J]) _ _ _ _ ?_);have ok:=cellsFrom_ok sc.names (s.heap.push {cls:=.type "dict",data:=.dict #[]}) (s.heap.objs.size+1) [] ⟨λ_ _ a=>(nomatch a),List.Pairwise.nil⟩ (by rw[zyw];exact zzq _);rw[zyw]at ok;rw[show ({s with heap:=s.heap.push {cls:=.type "dict",data:=.dict #[]} }:bx).heap.objs.size=s.heap.objs.size+1 from zyw ..];exact zzd (zzt (zzt (h _ ((Heap.Ns.new s.heap (.type "dict")).keeps (pushCells_keeps _ _)) (λb o e=>pushCells_keeps _ _ b o (zzm _ e)) ok)))
section
variable{scope:Scope}{cl:ab (Str×bn)}{N':ab Str}{js:ab (ca Nat)}
theorem AE(I:Inv X pins σ H s)(J:dl X.env.cells scope.names []=some cl)(a4:∀y∈scope.names,y.2=.free->(y.1,NameKind.cell)∉scope.names)(a0:scope.kind=.function)(cap:Cap X scope N' js)(G:∀b∈fp,FpOk X pins H b)(w:∀b∈fp,∃o,s.heap.get? b=some o)(a6:h₁.Ns s.heap.objs.size (λ_=>none))(E:∀b o,s.heap.get? b=some o->h₁.get? b=some o)(Y:CellsOk h₁ (s.heap.objs.size+1) (cellsFrom (s.heap.objs.size+1) scope.names [])) :
  Inv (dm X scope (cellsFrom (s.heap.objs.size+1) scope.names cl) s.heap.objs.size N' s H fp pins) [] (sub js σ) H {s with heap:=h₁,toks:=t' }:=by
 have g:=gY J (λy c e=>by simp at e);rw[bE];generalize T:cellsFrom (s.heap.objs.size+1) scope.names []=nw at Y ⊢;have nk:∀y c,(y,c)∈nw->(y,NameKind.cell)∈scope.names:=λy c h=>by rw[←T]at h;exact dD _ _ y c h
 have nh:∀y,(y,NameKind.cell)∈scope.names->∃c,nw.lookup y=some c:=λy h=>by obtain⟨c,q⟩:=ee scope.names (s.heap.objs.size+1) y h;rw[T]at q;exact gs q
 have n:∀y c,nw.lookup y=some c->h₁.IsCell c none/\s.heap.objs.size+1<=c:=λy c h=>Y.empty y c (zyi h);have old:∀y c,cl.lookup y=some c->c<s.heap.objs.size:=λy c h=>by obtain⟨v,o,U,x⟩:=I.cell y c (g y c h);exact zzD U
 have nf:∀y,(y,NameKind.free)∈scope.names->nw.lookup y=none:=λy h=>by
  cases e:nw.lookup y with
  |none=>rfl|some c=>exact absurd (nk y c (zyi e)) (a4 _ h rfl)
 refine⟨⟨I.ok.mod,a0,I.ok.glob,I.ok.blt,zzq _,λy z c B N=>?_,λy hy=>?_,λy c z h=>?_,I.ok.hd,I.ok.frames,.inl rfl,λb L=>⟨?_,λy c h=>?_⟩,I.bs,zzl I.ok.bsz I.sz,λb o e L=>?_,λb L=>?_,I.stack,I.stkFree⟩,
  rfl,I.bare,Un.kept E,⟨_,a6,λi y v B N h3=>?_⟩,λy c h=>?_,I.hok.fresh (zzq _),λy c h=>?_,λp Q=>?_,I.hok.kept E,?_⟩
 ·rcases dH B with a|⟨_,a⟩<;>rcases dH N with b|⟨_,b⟩
  ·exact name_of_addr Y.apart (zyi a) (zyi b)
  ·exact absurd (zzJ (old z c b) (zxF (n y c a).2)) (zyy _)
  ·exact absurd (zzJ (old y c a) (zxF (n z c b).2)) (zyy _)
  ·exact I.ok.inj y z c (g y c a) (g z c b)
 ·show ∃c,(nw++cl).lookup y=some c;rcases pB hy with q|q
  ·obtain⟨c,e⟩:=fk J y (.inl q);exact⟨c,by rw[jN (nf y q)];exact e⟩
  ·obtain⟨c,e⟩:=nh y q;exact⟨c,jM e⟩
 ·have z:(y,NameKind.cell)∈scope.names:=zyi (eq_of_beq z);obtain⟨d,e⟩:=nh y z;have h:(nw++cl).lookup y=some c:=h;rw[jM e]at h;have h:d=c:=zzS h;rw[←h];exact zxF (n y d e).2
 ·obtain⟨o,e⟩:=w b L;exact zzL (zzD e)
 ·rcases dH h with a|⟨_,a⟩
  ·obtain⟨o,e⟩:=w b L;rintro rfl;exact absurd (zzJ (zzD e) (zxF (n y c a).2)) (zyy _)
  ·exact(G b L).2.2.2.2.1 y c (g y c a)
 ·have fb:=G b L;rcases fb.2.2.2.1 with z|z
  ·exact I.ok.noex b o e z
  ·have B:b<X.base.objs.size:=zzD e;exact absurd (zzJ B (zzl I.ok.bsz z)) (zyy _)
 ·intro z;have:=I.stkSub b z;rcases zzi.mp this with z|z
  ·exact(G b L).2.1 z
  ·exact(G b L).2.2.1 z
 ·obtain⟨j,k1,k2,A,C⟩:=cap.at B N;obtain⟨m,hm,hl⟩:=I.loc;have a7:Vis X.env.scope y:=by
   rcases A with k|k
   ·exact .inr (.inl k)
   ·exact .inr (.inr k)
  obtain⟨u,r,lk⟩:=hl j y v k1 k2 a7;refine⟨u,r,.inr ⟨jK C,?_⟩⟩;have M:(y,NameKind.free)∈scope.names:=zyi C;rcases lk with ⟨k5,_⟩|⟨_,c,e1,e2⟩
  ·rcases A with k|k<;>(rw[k]at k5;cases k5)
  ·obtain⟨c',l⟩:=fk J y (.inl M);have:=g y c' l;rw[e1]at this;cases this;refine⟨c,by show (nw++cl).lookup y=some c;rw[jN (nf y M)];exact l,?_⟩;obtain⟨o,U,x⟩:=e2;exact⟨o,E _ _ U,x⟩
 ·rcases dH h with a|⟨_,a⟩
  ·exact⟨_,(n y c a).1⟩
  ·obtain⟨v,o,U,x⟩:=I.cell y c (g y c a);exact⟨v,o,E _ _ U,x⟩
 ·rcases dH h with a|⟨_,a⟩
  ·exact I.hok.fresh (zxF (n y c a).2)
  ·exact I.freeC y c (g y c a)
 ·have Q:p∈X.pn++pins:=by simpa[dm]using Q
  obtain⟨U,x,q3,M,q5⟩:=I.pin p Q;refine⟨E _ _ U,x,zzL (zzD U),λz=>?_,q5⟩;have:=I.stkSub p.1 z;rcases zzi.mp this with z|z
  ·exact q3 z
  ·exact M z
 ·simp[sub,cap.len];rfl
theorem GG{fs:ab bn}{H:Hp}(J:C∈fp)(hs:Heap.SameBut C h h₁):Un fs fp H H h h₁ where
 keep:=λb o e _ _ a=>by rw[hs.2 b (by rintro rfl;exact a J)];exact e
 slot:=λb o e _ _ a=>⟨o.slots,by rw[hs.2 b (by rintro rfl;exact a J)];exact e⟩
 free:=λb o _ n _=>n
 there:=λb o e a=>⟨o,by rw[hs.2 b (by rintro rfl;exact a J)];exact e⟩
 tups:=λ_ _ h=>h
 frzs:=λ_ _ _ h=>h
 tbls:=λb ps h=>⟨#[],by simpa using h⟩
theorem Inv.but(I:Inv X pins σ H s)(f:FpOk X pins H C)(hs:Heap.SameBut C s.heap h₁):Inv X pins σ H {s with heap:=h₁}:=by
 refine I.call' (ch:=[C]) rfl (GG zze hs) ?_ I.bare (λb J=>?_)
 ·intro a o e;refine ObjOk.stay (I.hok a o e) (λb u J q=>?_) (λ_ h=>h) (λ_ _ h=>h);rw[hs.2 b]
  ·exact q
  ·rintro rfl;rcases J with rfl|J
   ·rw[f.1]at e;cases e
   ·rw[f.1]at J;cases J
 ·have:b=C:=by simpa using J
  subst this;exact⟨f.2.2.2.1,f.2.1,f.2.2.2.2.1,f.2.2.2.2.2⟩
variable{elt iter:dy}{ifs:ab dy}{wi:TI}{g:TG}{tc:TT}{Q:VK}{gB:Blk->TG}{tcB:Blk->TT}{teB:Blk->TE}
theorem xZ{prog:ef}{R:Result->bx->Prop}{ps:Pos}{z:bx}(J:Nat->bx->Prop)(turn:∀k z,J k z->wpAny (model prog w) A (pyNext itv) (λr L=>match r with
   |none=>R (.ok .next) L| some u=>wpAny (model prog w) A (letOwnedTupleGo tg itv u) (λ_ d=>wpAny (model prog w) A (assign tg env u) (λ_ i =>
     wpAny (model prog w) A (forIn cs true λc r=>if r=true then do let ok ←isTrue c env (eval c env);pure (ForInStep.yield ok) else pure (ForInStep.yield r)) (λb U =>
      if b=true then wpAny (model prog w) A (eval e env) (λy j =>
       wpAny (model prog w) A (call (.builtin "list.append") [av,y]) (λ_ n=>∃m,m<k/\J m n) (λ_ _=>False) j) (λ_ _=>False) U
      else ∃m,m<k/\J m U) (λ_ _=>False) i) (λ_ _=>False) d) (λ_ _=>False) L) (λ_ _=>False) z)(k:Nat)(h:J k z):codeAny (model prog w) A (.compLoop (.ListComp e [⟨tg,it0,cs,0⟩] sc ps) 0 itv av env) R z:=by
 have no:∀{o:Type} {m:Sem o} {P:o->bx->Prop} {E:bb->bx->Prop} {z:bx},wpAny (model prog w) A m P (λ_ _=>False) z->wpAny (model prog w) A m P E z:=λh=>zxS h (λ_ _ q=>q) λ_ _ q=>q.elim;refine codeAny_loop rfl J (λk z v=>?_) k h;refine wpAny_noted ?_;refine zzd (zwV (zzd (no (thn (turn k z v) λr L Y=>?_))));cases r with
 |none=>exact zzt Y|some u =>
  refine zzd (no (thn Y λ_ d x=>zzd (no (thn x λ_ i B=>zzd (no (thn B λb U a=>?_))))));cases b with
  |false=>exact zzt ⟨rfl,a⟩|true=>exact zzd (zzd (no (thn a λy j G=>zzd (no (thn G λ_ n I=>zzt (zzt ⟨rfl,I⟩))))))
theorem wf{RR:bb->bn->Result->bx->Prop}{a:bx}{j:Hp}{l:Nat->cm->Prop}{J:It}{W:Nat->Nat->St->Hp->Prop}(hc:X.calm=true)(b0:dl X.env.cells scope.names []=some cl)(b1:∀y∈scope.names,y.2=.free->(y.1,NameKind.cell)∉scope.names)(a6:scope.kind=.function)(cap:Cap X scope N' js)(L:PG (dm X scope (cellsFrom (a.heap.objs.size+1) scope.names cl) a.heap.objs.size N' a j fp pins) tg g/\PTs (dm X scope (cellsFrom (a.heap.objs.size+1) scope.names cl) a.heap.objs.size N' a j fp pins) ifs tc/\PE (dm X scope (cellsFrom (a.heap.objs.size+1) scope.names cl) a.heap.objs.size N' a j fp pins) elt te)(s:Inv X pins σ j a)(T:Turn X.prog X.w X.K tg J fp it l)(b3:l 0 a.heap)(f3:∀b∈fp,FpOk X pins j b)(w0:W 0 k (sub js σ) j)(turn:∀i m x H',W i m x H'->(J.stop i H'/\Q (.ref C) H')∨(J.go i H'/\∃N:St->Hp->Prop,(∀b6 G,N b6 G->∃m',m'<m/\W (i+1) m' b6 G)/\∀y G,J.yld i H' y G->g y x G λH j=>tc H j λb z =>
   if b=true then te H z λv H5=>∃E,H5 C=some (.lst E)/\E.length<sizeLine/\N H (upd H5 C (.lst (E++[v]))) else N H z))(c2:h₁.Ns a.heap.objs.size (λ_=>none))(hk:∀b o,a.heap.get? b=some o->h₁.get? b=some o)(b9:CellsOk h₁ (a.heap.objs.size+1) (cellsFrom (a.heap.objs.size+1) scope.names []))(hR:∀s' H' m,Inv X pins σ H' s'->FpOk X pins H' a.heap.objs.size->s'.heap.Ns a.heap.objs.size m->Q (.ref C) H'->RR (.ref C) a.heap.objs.size (.ok .next) s') :
  codeAny (model X.prog X.w) X.A (.compStart (.ListComp elt [⟨tg,iter,ifs,0⟩] scope pos) 0 (.ref it) (.ref C) (compEnvC scope (cellsFrom (a.heap.objs.size+1) scope.names cl) a.heap.objs.size X.env)) (RR (.ref C) a.heap.objs.size) {a with heap:=h₁,toks:=t' }:=by
 have b2:∀b∈fp,∃o,a.heap.get? b=some o:=λb L=>let ⟨o,e,_⟩:=T.obj _ _ b3 b L;⟨o,e⟩
 have I0:Inv (dm X scope (cellsFrom (a.heap.objs.size+1) scope.names cl) a.heap.objs.size N' a j fp pins) [] (sub js σ) j {a with heap:=h₁,toks:=t' }:=AE s b0 b1 a6 cap f3 b2 c2 hk b9;have b5:l 0 h₁:=T.keep _ _ _ b3 λb _ o e=>hk b o e;have M:FpOk X pins j a.heap.objs.size:=s.fpOk (zzq _) (s.hok.fresh (zzq _));obtain⟨bg,bt,be⟩:=L;have Y:∀{H':Hp},(∀b∈fp,H' b=none)->∀b∈fp,FpOk (dm X scope (cellsFrom (a.heap.objs.size+1) scope.names cl) a.heap.objs.size N' a j fp pins) [] H' b:=λ{H'} hn b L=>by obtain⟨o,e⟩:=b2 b L;refine⟨hn b L,zzL (zzD e),I0.ok.exfs b L,.inl L,λy c h=>(I0.ok.exf b L).2 y c h,λp hp=>?_⟩;exact(f3 b L).2.2.2.2.2 p (by simpa[dm]using hp)
 have a5:codeAny (model X.prog X.w) X.A (.compLoop (.ListComp elt [⟨tg,iter,ifs,0⟩] scope pos) 0 (.ref it) (.ref C) (compEnvC scope (cellsFrom (a.heap.objs.size+1) scope.names cl) a.heap.objs.size X.env)) (RR (.ref C) a.heap.objs.size) {a with heap:=h₁,toks:=t' }:=by
  refine xZ (λn s'=>∃i x H',Inv (dm X scope (cellsFrom (a.heap.objs.size+1) scope.names cl) a.heap.objs.size N' a j fp pins) [] x H' s'/\l i s'.heap/\(∀b∈fp,H' b=none)/\W i n x H') (λn s4 hJ=>?_) k ⟨0,sub js σ,j,I0,b5,λb L=>(f3 b L).1,w0⟩;obtain⟨i,a4,z,I4,b4,a9,w4⟩:=hJ;rcases turn i n a4 z w4 with ⟨stop,q⟩|⟨go,N,hN,step⟩
  ·refine thn (T.done (dm X scope (cellsFrom (a.heap.objs.size+1) scope.names cl) a.heap.objs.size N' a j fp pins) rfl rfl rfl hc i [] s4 a4 z _ I4 (Y a9) b4 stop) λr s5 q=>?_;obtain⟨rfl,B⟩:=q;have u:Un (frs X.stack) fp j z a.heap s5.heap:=B.base;have free:z a.heap.objs.size=none:=B.free;have a8:Inv X pins σ z s5:=by
    refine s.call' (s':=s5) (ch:=a.heap.objs.size::fp) B.os (u.mono (λ_ h=>h) λb h=>zzb _ h) B.hok B.bare (λb L=>?_);rcases zzi.mp L with rfl|L
    ·exact⟨M.2.2.2.1,M.2.1,M.2.2.2.2.1,M.2.2.2.2.2⟩
    ·have:=f3 b L;exact⟨this.2.2.2.1,this.2.1,this.2.2.2.2.1,this.2.2.2.2.2⟩
   obtain⟨m,hm,_⟩:=B.loc;exact hR s5 z m a8 ⟨free,M.2⟩ hm q
  ·refine thnG (T.item (dm X scope (cellsFrom (a.heap.objs.size+1) scope.names cl) a.heap.objs.size N' a j fp pins) rfl rfl rfl hc i [] s4 a4 z _ I4 (Y a9) b4 go) λr s5 u hr h5=>?_;subst hr;refine thn h5 λ_ s6 q0=>?_;obtain⟨y,H6,I6,r6,y6,a7,c1⟩:=q0;have b8:=I6.pinned (Y c1) (T.obj _ _ a7);refine thnF (bg _ s6 a4 H6 y u _ b8 r6 (step y H6 y6)) λ_ s7 U H7 I7 q7=>?_;refine thnG (bt _ s7 U H7 _ I7 q7) λb s8 H8 I8 q8=>?_;have again:∀{H':Hp} {s':bx},Inv (dm X scope (cellsFrom (a.heap.objs.size+1) scope.names cl) a.heap.objs.size N' a j fp pins) ([]++oK fp s6.heap) U H' s'->N U H'->∃m,m<n/\∃i x H',Inv (dm X scope (cellsFrom (a.heap.objs.size+1) scope.names cl) a.heap.objs.size N' a j fp pins) [] x H' s'/\l i s'.heap/\(∀b∈fp,H' b=none)/\W i m x H':=λ{H' s'} I n9=>by
    obtain⟨m',hm,w9⟩:=hN U H' n9;refine⟨m',hm,i+1,U,H',I.unpinned,T.keep _ _ _ a7 λb L o e=>(I.pin (b,o) (zye _ (zye _ (ff L e)))).1,λb L=>?_,w9⟩;obtain⟨o,e,d⟩:=T.obj _ _ a7 b L;exact(I.pin (b,o) (zye _ (zye _ (ff L e)))).2.1
   cases b with
   |false=>exact iteF (again I8 q8)|true =>
    refine iteT (thn (be _ s8 U H8 _ I8 q8) λyv s9 q0=>?_);obtain⟨v9,H9,I,r9,E,hD,hl,n9⟩:=q0;exact thnE (jC _ s9 U H9 (.ref C) [v9] (.ref C) [yv] (λ_ H'=>H'=upd H9 C (.lst (E++[v9]))) I rfl (.cons r9 .nil) ⟨C,E,v9,rfl,rfl,hD,hl,rfl⟩) λ_ s10 _ H10 b7 _ c0=>by subst c0;exact again b7 n9
 exact codeAny_compStart_list a5 (T.self _ 0 _ _ _ b5 a5)
theorem ut{x:bb->bn->Result->bx->Prop}(hc:X.calm=true)(g:dl X.env.cells scope.names []=some cl)(k:∀y∈scope.names,y.2=.free->(y.1,NameKind.cell)∉scope.names)(N:scope.kind=.function)(cap:Cap X scope N' js)(hi:PI X tg iter wi)(n:∀B:Blk,PG (cxB X scope cl N' B) tg (gB B)/\PTs (cxB X scope cl N' B) ifs (tcB B)/\PE (cxB X scope cl N' B) elt (teB B))(I:Inv X pins σ H s)(h:DQ wi js gB tcB teB σ H Q)(r:∀D C s' d m,Inv X pins σ d s'->FpOk X pins d C->s'.heap.Ns C m->Q (.ref D) d->x (.ref D) C (.ok .next) s') :
  wpAny (model X.prog X.w) X.A (eval iter X.env) (λv G=>wpAny (model X.prog X.w) X.A (pyIter v) (λit a=>wpAny (model X.prog X.w) X.A (newList []) (λz s3 =>
   wpAny (model X.prog X.w) X.A (newFunctionEnv scope X.env.globals cl [] X.env.qual none .none (some X.env)) (λY s4 =>
    codeAny (model X.prog X.w) X.A (.compStart (.ListComp elt [⟨tg,iter,ifs,0⟩] scope pos) 0 it z {Y with scope:=relabel scope X.env}) (x z Y.locals) s4) X.xe s3) X.xe a) X.xe G) X.xe s:=by
 refine thn (hi pins s σ H _ I h) λv G p=>thn p λitv a q=>?_;obtain⟨it,fp,tn,J,i,e,u,T,E,f2,q⟩:=q;subst e;have l:i a.heap.objs.size=none:=u.hok.fresh (zzq _);obtain⟨W,⟨m0,w0⟩,j⟩:=q ⟨(a.heap.push {cls:=.type "list",data:=.seq ([]:ab bb).toArray}).objs.size,{a with heap:=a.heap.push {cls:=.type "list",data:=.seq ([]:ab bb).toArray} },upd i a.heap.objs.size (.lst []),fp,pins⟩ a.heap.objs.size l;refine zyv (iU (λh₁ U c L=>?_));have M:Inv X pins σ (upd i a.heap.objs.size (.lst [])) {a with heap:=a.heap.push {cls:=.type "list",data:=.seq ([]:ab bb).toArray} }:=u.lnew .nil (zzM _);refine wf hc g k N cap (n ⟨(a.heap.push {cls:=.type "list",data:=.seq ([]:ab bb).toArray}).objs.size,{a with heap:=a.heap.push {cls:=.type "list",data:=.seq ([]:ab bb).toArray} },upd i a.heap.objs.size (.lst []),fp,pins⟩) M T ?_ (λb n=>?_) w0 j U c L (λs' d m=>r _ _ s' d m)
 ·exact T.keep _ _ _ E λb _ o e=>zzm _ e
 ·have:=f2 b n;obtain⟨o,e,_⟩:=T.obj _ _ E b n;exact⟨by show upd i a.heap.objs.size (.lst []) b=none;rw[af (zzL (zzD e))];exact this.1,this.2⟩
theorem DR(j:X.calm=true)(U:dl X.env.cells scope.names []=some cl)(Y:∀y∈scope.names,y.2=.free->(y.1,NameKind.cell)∉scope.names)(J:scope.kind=.function)(cap:Cap X scope N' js)(L:∀y∈scope.names,y.2=.local->scope.names.lookup y.1=some .local)(n:PI X tg iter wi)(i:∀B:Blk,PG (cxB X scope cl N' B) tg (gB B)/\PTs (cxB X scope cl N' B) ifs (tcB B)/\PE (cxB X scope cl N' B) elt (teB B))(hs:∀v,foldedSetIterable iter X.env v=pure v:=by intro _;rfl):PE X (.ListComp elt [⟨tg,iter,ifs,0⟩] scope pos) (DQ wi js gB tcB teB):=by intro pins s σ H Q I h;refine wpAny_comprehension_free rfl hs (gr U) J L (ut j U Y J cap n i I h ?_);intro D C s' a m b f o q;exact⟨m,o,λh' d=>⟨.ref D,a,b.but f d,rfl,q⟩⟩
theorem DU{i:Nat}(c:X.N.Nodup)(r:X.N[i]?=some y)(d:X.env.scope.names.lookup y=some .local)(g:X.calm=true)(U:dl X.env.cells scope.names []=some cl)(Y:∀y∈scope.names,y.2=.free->(y.1,NameKind.cell)∉scope.names)(J:scope.kind=.function)(cap:Cap X scope N' js)(L:∀y∈scope.names,y.2=.local->scope.names.lookup y.1=some .local)(k:PI X tg iter wi)(e:∀B:Blk,PG (cxB X scope cl N' B) tg (gB B)/\PTs (cxB X scope cl N' B) ifs (tcB B)/\PE (cxB X scope cl N' B) elt (teB B))(T:swapsWith (.ListComp elt [⟨tg,iter,ifs,0⟩] scope pos) (some (.Name y tp)) p.line X.env=pure true:=by rfl)(hs:∀v,foldedSetIterable iter X.env v=pure v:=by intro _;rfl):PS X (.Assign [.Name y tp] (.ListComp elt [⟨tg,iter,ifs,0⟩] scope pos) p) (tAsg (DQ wi js gB tcB teB) (gName i)):=by
 intro pins s σ H D I h;rw[exec_Assign_Name_used _ _ _ _ T];refine zzd (zwV (zzd ?_));refine zzd (thn (wpAny_comprehension_free rfl hs (gr U) J L
  (ut g U Y J cap k e I h ?_)) λ_ w q=>zzt (zzt q))
 intro j C w n m o f l q;refine wpAny_assign_Name (oI o c r (.inl d) (v:=.ref j) rfl (λs2 u E=>?_) (.inr d));obtain⟨a,M,b⟩:=E;have x:C≠a:=by
  rcases b with rfl|b
  ·exact f.2.1
  ·exact λz=>f.2.2.2.2.1 y a b z.symm
 refine⟨m,l.sameBut M x,λh' G=>⟨_,n,u.but f G,q⟩⟩
end
section
variable{tg:dy}
theorem AF(d:X.calm=true):cr X (.builtin "sum") (λxs H Q=>∃(p:bn) (ns:ab Int),xs=[.ref p]/\SqL X.K H p (ns.map V.int)/\Q (.int ns.sum) H):=by
 intro pins s σ H xs us Q I r h;obtain⟨p,ns,rfl,i,q⟩:=h;obtain⟨u,rfl,e⟩:=eL r;cases e;obtain⟨its,m,j,_⟩:=I.list i;have a:IntsAre its ns:=gT m;obtain⟨b,e⟩:=a.allInts.items;have L:=j.isList;rw[e]at L;refine sum_intListG (I.ok.hd d) L λh' tk t' g=>⟨.int ns.sum,H,I.kept g,⟨t',?_⟩,q⟩;have U:numsOf its=ns:=a.numsOf;have J:=nums_intItems b;rw[←e]at J;have Y:b.toList.map (·.1)=ns:=by rw[←J,←U]
 rw[preSum_eq,zxA (by simp),Y]
def iSeq(K:zwW)(tl:TE):TI:=λσ H R=>tl σ H λx b=>(∃a,x=.ref a/\(∃xs,SqL K b a xs)/\R (Itl K a) b)∨(∃a,x=.ref a/\(∃xs,SqT K b a xs)/\R (Itt K a) b)
theorem GH{l:dy}{i:TE}(j:PE X l i):PI X tg l (iSeq X.K i):=by
 intro pins s σ H R I h;refine thn (j pins s σ H _ I h) λv d n=>?_;obtain⟨x,g,J,Y,u⟩:=n;rcases u with ⟨a,rfl,⟨xs,U⟩,q⟩|⟨a,rfl,⟨xs,U⟩,q⟩
 ·cases Y;obtain⟨its,z,p,m⟩:=J.list U;refine zxD p.isList ⟨d.heap.objs.size,[d.heap.objs.size],_,_,g,rfl,J.kept (λb o e=>zzm _ e),oJ a _,⟨_,zzE _ rfl,rfl,rfl⟩,λb L=>?_,q⟩;rw[show b=d.heap.objs.size by simpa using L];exact J.fpOk (zzq _) (J.hok.fresh (zzq _))
 ·cases Y;obtain⟨its,z,p,m⟩:=J.tuple U;refine zxc (show d.heap.IsTuple a its.toArray from p) ⟨d.heap.objs.size,[d.heap.objs.size],_,_,g,rfl,J.kept (λb o e=>zzm _ e),lL a _,⟨_,zzE _ rfl,rfl,rfl⟩,λb L=>?_,q⟩;rw[show b=d.heap.objs.size by simpa using L];exact J.fpOk (zzq _) (J.hok.fresh (zzq _))
end
section
variable{h':cm}
theorem Inv.turnedN{T:bn}{o:HO}(I:Inv X pins σ H s)(L:∀b∈ch,FpOk X pins H b)(k:∀b u,b∉ch->s.heap.get? b=some u->h'.get? b=some u)(Y:s.heap.objs.size<=T)(new:ObjOk X.prog X.w (upd H T o) h' T o):Inv X pins σ (upd H T o) {s with heap:=h',toks:=t' }:=by
 have d:=I.hok.fresh Y;refine I.call' rfl ⟨λb u q _ _ U=>k b u U q,λb u q _ _ U=>⟨u.slots,k b u U q⟩,λb u q n _=>?_,λb u q U=>⟨u,k b u U q⟩,λb xs e=>?_,λb p u e=>?_,λb ps e=>⟨#[],?_⟩⟩ (λa q e=>?_) I.bare
  (λb J=>⟨(L b J).2.2.2.1,(L b J).2.1,(L b J).2.2.2.2.1,(L b J).2.2.2.2.2⟩)
 ·rw[af (zzL (zzJ (zzD q) Y))];exact n
 ·rw[af (by rintro rfl;rw[d]at e;cases e)];exact e
 ·rw[af (by rintro rfl;rw[d]at e;cases e)];exact e
 ·rw[af (by rintro rfl;rw[d]at e;cases e)];simpa using e
 ·by_cases z:a=T
  ·subst z;rw[ae]at e;cases e;exact new
  ·rw[af z]at e;refine ObjOk.stay (I.hok a q e) (λb u J i=>k b u (λg=>?_) i) (λb J=>?_) (λb xs J=>?_)
   ·have:=(L b g).1;rcases J with rfl|J
    ·rw[this]at e;cases e
    ·rw[this]at J;cases J
   ·rw[af (by rintro rfl;rw[d]at J;cases J)];exact J
   ·rw[af (by rintro rfl;rw[d]at J;cases J)];exact J
theorem Inv.turnedL(I:Inv X pins σ H s)(L:∀b∈ch,FpOk X pins H b)(k:∀b u,b∉ch->s.heap.get? b=some u->h'.get? b=some u):Inv X pins σ H {s with heap:=h',toks:=t' }:=by
 refine I.call' rfl ⟨λb u q _ _ U=>k b u U q,λb u q _ _ U=>⟨u.slots,k b u U q⟩,λb u q n _=>n,λb u q U=>⟨u,k b u U q⟩,λb xs e=>e,λb p u e=>e,λb ps e=>⟨#[],by simpa using e⟩⟩ (λa q e=>?_) I.bare
  (λb J=>⟨(L b J).2.2.2.1,(L b J).2.1,(L b J).2.2.2.2.1,(L b J).2.2.2.2.2⟩)
 refine ObjOk.stay (I.hok a q e) (λb u J d=>k b u (λY=>?_) d) (λb J=>J) (λb xs J=>J);have:=(L b Y).1;rcases J with rfl|J
 ·rw[this]at e;cases e
 ·rw[this]at J;cases J
end
noncomputable def Ite(K:zwW)(a:bn):It :=
 ⟨λi H=>∃xs x,SqL K H a xs/\xs[i]?=some x,λi H x b=>∃T y,H T=none/\x=.ref T/\(∀xs,SqL K H a xs->xs[i]?=some y)/\b=upd H T (.tup [.int i,y]),λi H=>∃xs,SqL K H a xs/\xs.length<=i⟩
theorem cA{a b:bn}{o:Obj}{n:String}(d:h.IsList a its)(i:h.get? b=some o)(J:o.cls=.type n)(g:n ≠ "list"):a≠b:=by rintro rfl;obtain⟨o',e,c,_⟩:=d;rw[i]at e;cases e;rw[J]at c;cases c;exact g rfl
theorem ya{P:ef}{K:zwW}(a e it:bn)(b1:e≠it):Turn P w K (.Tuple cs k tp) (Ite K a) [e,it] e (λi h=>(∃old,IsEnum h e it i old)/\h.IsListIter it a i) where
 mem:=by simp
 obj:=λi h st b J=>by
  obtain⟨⟨old,g⟩,ho⟩:=st;rcases zzi.mp J with rfl|J
  ·exact⟨_,g,λv z=>by have z':Data.fields _=Data.cell v:=z;cases z'⟩
  ·have:b=it:=by simpa using J
   subst this;obtain⟨o,U,c,d⟩:=ho;exact⟨o,U,λv z=>by rw[d]at z;cases z⟩
 keep:=λi h h' st k=>⟨let ⟨old,g⟩:=st.1;⟨old,k e (by simp) _ g⟩,st.2.at λo x=>k it (by simp) o x⟩
 item:=by
  intro X Y N B G i pins s σ H E I j st M;subst Y N B;obtain⟨xs,x,m,Q⟩:=M;obtain⟨its,l,p,hz⟩:=I.list m;obtain⟨u,hu,ru⟩:=l.get Q;obtain⟨⟨old,g⟩,hit⟩:=st;have a9:a≠e:=cA p.isList g rfl (by decide);have b0:a≠it:=by obtain⟨o,U,c,d⟩:=id hit;exact cA p.isList U c (by decide)
  have W:=WalksT.enumerate (prog:=X.prog) (w:=X.w) (I.ok.hd G) e it a b1 a9 b0 its.toArray;have hi:i<its.toArray.size:=by have:=(zzy.mp hu).1;simpa using this
  refine W.item i s _ _ hi ⟨⟨old,g⟩,hit,p.isList⟩ λT vals n tk Y C a8 L hk=>?_;obtain⟨t,z,A,rfl⟩:=Y;have a7:z=u:=by
   have:its.toArray[i]?=some u:=by simpa using hu
   rw[this]at A;cases A;rfl
  subst a7;have ap:=W.apart i T n L;refine⟨_,rfl,W.go cs k tp i T {s with heap:=n,toks:=tk} _ _ L λh2 b3 y=>?_⟩;obtain⟨a5,a6,_⟩:=b3;have I2:Inv X pins σ (upd H T (.tup [.int i,x])) {s with heap:=h2,toks:=tk}:=by
   refine I.turnedN j (λb o J q=>y b o J (hk b o J q)) C ⟨?_,[.int i t,z],.cons ⟨t,rfl⟩ (.cons ru .nil),?_⟩
   ·show 2<=sizeLine;decide
   ·obtain⟨o,U,r⟩:=a8;exact⟨o,y T o ap U,r⟩
  refine⟨.ref T,_,I2,rfl,⟨T,x,I.hok.fresh C,rfl,λys hy=>by rw[I.list_inj hy m];exact Q,rfl⟩,⟨by simpa using a5,a6⟩,λb J=>?_⟩;have fb:=j b J;rw[af]
  ·exact fb.1
  ·rintro rfl;exact ap J
 done:=by intro X Y N B G i pins s σ H E I j st M;subst Y N B;obtain⟨xs,m,Q⟩:=M;obtain⟨its,l,p,hz⟩:=I.list m;obtain⟨⟨old,g⟩,hit⟩:=st;have hl:=l.length;refine wpAny_pyNext_enum_end (I.ok.hd G) g hit p.isList (by simp;lia) λn b2=>⟨rfl,?_⟩;exact I.turnedL j λb o J q=>b2 b o (λz=>J (by simp[z])) q
 self:=λ_ _ _ _ _ st h=>let ⟨_,g⟩:=st.1;zwn g h
theorem pC:bootBuiltins "enumerate" = some (.type "enumerate"):=by decide +kernel
theorem AG:bootBuiltins "zip" = some (.type "zip"):=by decide +kernel
def JH(K:zwW)(ta:TA):TI:=λσ H R=>ta σ H λd b=>∃a,d=[.ref a]/\(∃xs,SqL K b a xs)/\R (Ite K a) b
theorem DV{l:dy}{g:TA}(m:Gl X "enumerate")(o:X.mg "enumerate" = none)(j:PA X [l] g)(he:starEach [l] X.env=(false,eval l X.env)::starEach [] X.env:=by rfl)(U:(backTo pos (starEach [] X.env)).any (·.1)=false:=by rfl) :
  PI X (.Tuple cs k tp) (.Call (.Name "enumerate" p) [l] [] pos) (JH X.K g):=by
 intro pins s σ H R I h;refine Call_ (iE I m o pC (PyProof.Rows.callWith_type1 (thn (j pos pins s σ H _ I h) λus d z=>?_) he U));obtain⟨vs,i,J,E,B⟩:=z;obtain⟨a,e,⟨xs,v⟩,q⟩:=B;subst e;obtain⟨u,rfl,G⟩:=E.one;cases G;obtain⟨its,rv,x,hz⟩:=J.list v;refine call_enumerate_list x.isList λh1 Y hit hsz n=>?_;refine zwn Y ?_;have ne:d.heap.objs.size+1≠d.heap.objs.size:=by lia
 refine⟨_,[d.heap.objs.size+1,d.heap.objs.size],_,Ite X.K a,i,rfl,J.kept n,ya a _ _ ne,⟨⟨_,Y⟩,hit⟩,λb L=>?_,q⟩;rcases zzi.mp L with rfl|L
 ·exact J.fpOk (zxb _) (J.hok.fresh (zxb _))
 ·have:b=d.heap.objs.size:=by simpa using L
  subst this;exact J.fpOk (zzq _) (J.hok.fresh (zzq _))
noncomputable def Itz(K:zwW)(a b:bn):It :=
 ⟨λi H=>∃xs d x y,SqL K H a xs/\SqL K H b d/\xs[i]?=some x/\d[i]?=some y,λi H v g=>∃T x y,H T=none/\v=.ref T/\(∀xs,SqL K H a xs->xs[i]?=some x)/\(∀d,SqL K H b d->d[i]?=some y)/\g=upd H T (.tup [x,y]),
  λi H=>∃xs d,SqL K H a xs/\SqL K H b d/\(xs.length<=i∨d.length<=i)⟩
structure ZipOwn(z TI TO i1 i2:Addr):Prop where
 TIz:TI≠z
 TOz:TO≠z
 i1z:i1≠z
 i2z:i2≠z
 TITO:TI≠TO
 TIi1:TI≠i1
 TIi2:TI≠i2
 TOi1:TO≠i1
 TOi2:TO≠i2
 i12:i1≠i2
theorem GI(n:Nat):ZipOwn (n+4) (n+2) (n+3) n (n+1):=by constructor<;>(intro h;have h:(_:Nat)=(_:Nat):=h;lia)
theorem pD{z l1 U:bn}{u v:bb}(D:ZipOwn z c C sl it)(i:IsZip h z c C vk)(g:IsPair h C u v)(j:h.IsListIter sl l1 t')(m:h.IsListIter it U k)(J:h.IsList l1 xs)(L:h.IsList U its):ZipApart z c C sl it l1 U:=by
 obtain⟨o1,b,Y,_⟩:=j;obtain⟨o2,d,a,_⟩:=m;exact⟨D.TIz,D.TOz,D.i1z,D.i2z,D.TITO,D.TIi1,D.TIi2,D.TOi1,D.TOi2,D.i12,cA J i rfl (by decide),cA J g rfl (by decide),cA J b Y (by decide),cA J d a (by decide),
  cA L i rfl (by decide),cA L g rfl (by decide),cA L b Y (by decide),cA L d a (by decide)⟩
theorem AH{P:ef}{K:zwW}(a b z TI TO d g:bn)(D:ZipOwn z TI TO d g):Turn P w K (.Tuple cs k tp) (Itz K a b) [z,TI,TO,d,g] z
  (λi h=>IsZip h z TI TO .none/\IsPair h TI (.ref d) (.ref g)/\(∃u v,IsPair h TO u v)/\h.IsListIter d a i/\h.IsListIter g b i) where
 mem:=by simp
 obj:=λi h st c m=>by
  obtain⟨L,j,⟨u,v,Y⟩,⟨o1,e1,c1,d1⟩,⟨o2,e2,c2,d2⟩⟩:=st;simp only[zzi,zzW,zyD]at m;rcases m with rfl|rfl|rfl|rfl|rfl
  ·exact⟨_,L,λv z=>by have Q:Data.fields _=Data.cell v:=z;cases Q⟩
  ·exact⟨_,j,λv z=>by have Q:Data.seq _ _=Data.cell v:=z;cases Q⟩
  ·exact⟨_,Y,λv z=>by have Q:Data.seq _ _=Data.cell v:=z;cases Q⟩
  ·exact⟨o1,e1,λv z=>by rw[d1]at z;cases z⟩
  ·exact⟨o2,e2,λv z=>by rw[d2]at z;cases z⟩
 keep:=λi h h' st M=>by obtain⟨L,j,⟨u,v,Y⟩,n,B⟩:=st;exact⟨M z (by simp) _ L,M TI (by simp) _ j,⟨u,v,M TO (by simp) _ Y⟩,n.at λo e=>M d (by simp) o e,B.at λo e=>M g (by simp) o e⟩
 item:=by
  intro X G hw hK m i pins s σ H E I A st hg;subst G hw hK;obtain⟨xs,ys,x,y,C,l,hx,hy⟩:=hg;obtain⟨its,rv,p,b5⟩:=I.list C;obtain⟨J,a7,N,b2⟩:=I.list l;obtain⟨u,hu,ru⟩:=rv.get hx;obtain⟨u',b0,b6⟩:=a7.get hy;obtain⟨L,j,⟨p1,p2,Y⟩,n,B⟩:=st;have W:=WalksT.zip2 (prog:=X.prog) (w:=X.w) (I.ok.hd m) z TI TO d g a b (pD D L Y n B p.isList N.isList) its.toArray J.toArray;have hi:i<min its.toArray.size J.toArray.size:=by have a1:=(zzy.mp hu).1;have a2:=(zzy.mp b0).1;simp only[zzB];lia
  refine W.item i s _ _ hi ⟨L,j,⟨p1,p2,Y⟩,n,B,p.isList,N.isList⟩ λT vals h3 tk G hT b3 a6 hk=>?_;obtain⟨v,v',hv,b1,rfl⟩:=G;have e1:v=u:=by
   have:its.toArray[i]?=some u:=by simpa using hu
   rw[this]at hv;cases hv;rfl
  have e2:v'=u':=by
   have:J.toArray[i]?=some u':=by simpa using b0
   rw[this]at b1;cases b1;rfl
  subst e1 e2;have ap:=W.apart i T h3 a6;have b4:T≠TI:=λe=>by subst e;exact absurd (zzJ (zzD j) hT) (zyy _)
  refine⟨_,rfl,W.go cs k tp i T {s with heap:=h3,toks:=tk} _ _ a6 λh4 b7 a9=>?_⟩;obtain⟨a1,a2,a3,a4,a5,_,_⟩:=b7;have wr:∀c,c∉[z,TI,TO,d,g]->c∉[z,TO,d,g]:=λc m a8=>m (by simp only[zzi,zzW,zyD]at a8 ⊢;rcases a8 with h|h|h|h<;>simp[h])
  have I2:Inv X pins σ (upd H T (.tup [x,y])) {s with heap:=h4,toks:=tk}:=by
   refine I.turnedN (ch:=[z,TI,TO,d,g]) A (λc o U q=>a9 c o (wr c U) (hk c o (wr c U) q)) hT ⟨?_,[v,v'],.cons ru (.cons b6 .nil),?_⟩
   ·show 2<=sizeLine;decide
   ·obtain⟨o,eo,r⟩:=b3;exact⟨o,a9 T o ap eo,r⟩
  refine⟨.ref T,_,I2,rfl,⟨T,x,y,I.hok.fresh hT,rfl,λzs L=>by rw[I.list_inj L C];exact hx,λzs L=>by rw[I.list_inj L l];exact hy,rfl⟩,⟨a1,a2,a3,a4,a5⟩,λc U=>?_⟩;have fb:=A c U;rw[af]
  ·exact fb.1
  ·rintro rfl;refine ap ?_;simp only[zzi,zzW,zyD]at U ⊢;rcases U with h|h|h|h|h
   ·exact .inl h
   ·exact absurd h b4
   ·exact .inr (.inl h)
   ·exact .inr (.inr (.inl h))
   ·exact .inr (.inr (.inr h))
 done:=by
  intro X G hw hK m i pins s σ H E I A st hg;subst G hw hK;obtain⟨xs,ys,C,l,hl⟩:=hg;obtain⟨its,rv,p,b5⟩:=I.list C;obtain⟨J,a7,N,b2⟩:=I.list l;obtain⟨L,j,⟨p1,p2,Y⟩,n,B⟩:=st;have l1:=rv.length;have l2:=a7.length;refine wpAny_pyNext_zip_end (I.ok.hd m) (pD D L Y n B p.isList N.isList) L j Y n B p.isList N.isList ?_ λh3 hk=>⟨rfl,?_⟩
  ·rcases hl with h|h
   ·exact .inl (by simp;lia)
   ·exact .inr (by simp;lia)
  ·exact I.turnedL (t':=s.toks) (ch:=[z,TI,TO,d,g]) A λc o U q=>hk c o (λe=>U (by simp[e])) (λe=>U (by simp[e])) (λe=>U (by simp[e])) (λe=>U (by simp[e])) q
 self:=λ_ _ _ _ _ st h=>wpAny_pyIter_zip st.1 h
def iZip(K:zwW)(ta:TA):TI:=λσ H R=>ta σ H λg d=>∃a b,g=[.ref a,.ref b]/\(∃xs,SqL K d a xs)/\(∃xs,SqL K d b xs)/\R (Itz K a b) d
theorem GJ{l:dy}{i:TA}(x:Gl X "zip")(B:X.mg "zip" = none)(v:PA X [l,tg] i)(he:starEach [l,tg] X.env=(false,eval l X.env)::starEach [tg] X.env:=by rfl)(L:(backTo pos (starEach [tg] X.env)).any (·.1)=false:=by rfl) :
  PI X (.Tuple cs k tp) (.Call (.Name "zip" p) [l,tg] [] pos) (iZip X.K i):=by
 intro pins s σ H R I h;refine Call_ (iE I x B AG (PyProof.Rows.callWith_type1 (thn (v pos pins s σ H _ I h) λus d M=>?_) he L));obtain⟨vs,j,J,Q,N⟩:=M;obtain⟨a,b,e,⟨xs,E⟩,⟨ys,U⟩,q⟩:=N;subst e;obtain⟨u,u',rfl,T,m⟩:=Q.two;cases T;cases m;obtain⟨its,rv,G,hz⟩:=J.list E;obtain⟨its',rv',Y,hz'⟩:=J.list U;refine call_zip_2 G.isList Y.isList λh1 a1 a2 a3 n o a6 z=>?_;refine wpAny_pyIter_zip a1 ?_;refine⟨_,[d.heap.objs.size+4,d.heap.objs.size+2,d.heap.objs.size+3,d.heap.objs.size,d.heap.objs.size+1],_,Itz X.K a b,j,rfl,J.kept z,AH a b _ _ _ _ _ (GI _),⟨a1,a2,⟨_,_,a3⟩,n,o⟩,λc g=>?_,q⟩;have this:d.heap.objs.size<=c:=by
  simp only[zzi,zzW,zyD]at g;rcases g with rfl|rfl|rfl|rfl|rfl
  ·exact zwz _ _
  ·exact zwz _ _
  ·exact zwz _ _
  ·exact zzq _
  ·exact zwz _ _
 exact J.fpOk this (J.hok.fresh this)
theorem uu(n:Nat):(List.range n).map (λk=>n - 1 - k)=(List.range n).reverse:=by
 apply List.ext_getElem
 ·simp
 ·intro i h1 h2;simp
theorem Cg{b:Type}(xs:Array b):(List.range xs.size).filterMap (xs[·]?)=xs.toList:=by
 obtain⟨l⟩:=xs;simp only[zzB,List.getElem?_toArray]
 induction l with
 |nil=>rfl|cons a r ih =>
  rw[zzu,zwv,zyY];simp only[List.getElem?_cons_zero,List.filterMap_map];congr 1
theorem uv{α d:Type}{f g:α->ca d}:∀{l:ab α},(∀a∈l,f a=g a)->l.filterMap f=l.filterMap g
 |[],_=>rfl|a::r,h=>by rw[zyY,zyY,h a zze,uv λb J=>h b (zzb _ J)]
theorem DW(xs:Array bb):((List.range xs.size).filterMap λ(m:Nat)=>xs[(((xs.size:Int) - 1)+(m:Int)*(-1)).toNat]?).toArray=xs.toList.reverse.toArray:=by
 have e:(List.range xs.size).filterMap (λ(m:Nat)=>xs[(((xs.size:Int) - 1)+(m:Int)*(-1)).toNat]?)=((List.range xs.size).map (λk=>xs.size - 1 - k)).filterMap (xs[·]?):=by rw[List.filterMap_map];apply uv;intro m hm;congr 1;lia
 rw[e,uu,List.filterMap_reverse,Cg]
theorem pE(items:Array bb):slicePick items none none (some (-1))=items.toList.reverse.toArray:=by
 have b:∀n:Nat,sliceBounds none none (some (-1)) n=((n:Int) - 1,-1,-1):=λn=>by
  first|rfl|simp[sliceBounds]
 have r:∀n:Nat,sliceRange ((n:Int) - 1) (-1) (-1)=(List.range n).map λk=>n - 1 - k:=λn=>by
  unfold sliceRange;have a:¬((-1:Int)>0):=by decide
  by_cases h:(n:Int) - 1 > -1
  ·have e:((n:Int) - 1 - -1 - -1 - 1) / (- -1)=(n:Int):=by
    lia
   simp only[a,zwO,h,if_true,e,zzC];apply zzF;intro k hk;lia
  ·have e:n=0:=by lia
   subst e;simp
 unfold slicePick;show ((sliceRange ((items.size:Int) - 1) (-1) (-1)).filterMap (items[·]?)).toArray=_;rw[r,uu,List.filterMap_reverse,Cg]
section
variable{prog:ef}{w:World}{A:Around}{E:bb->bx->Prop}
theorem iV{n:Nat}{Q:Int×Int×Nat->bx->Prop}(hs:s.heap.IsSliceOf sl .none .none vk)(Y:IsPart vk (some (-1)))(h:Q ((n:Int) - 1,-1,n) s):wpAny (model prog w) A (Builtin.Slice.sliceApplied (.ref sl) (pure (n:Int))) Q E s:=by
 obtain⟨os,L,hcs,J⟩:=id hs;refine zzd (zzd (zxW L J rfl (zzd (zxW L J rfl (zzd (zxW L J rfl (zzt ?_)))))));refine zzd (HT.slicePart_ Y ?_);show wpAny _ _ (match Builtin.Slice.sliceAdjust none none (-1) (n:Int) with|(lo,a)=>pure (lo,(-1:Int),Builtin.Slice.slicePlaces lo a (-1))) _ _ s;have e1:Builtin.Slice.sliceAdjust none none (-1) (n:Int)=((n:Int) - 1,-1):=rfl;have U:Builtin.Slice.slicePlaces ((n:Int) - 1) (-1) (-1)=n:=by
  unfold Builtin.Slice.slicePlaces;rw[zzh (by decide)];split
  · lia
  ·lia
 show wpAny _ _ (pure ((n:Int) - 1,(-1:Int),Builtin.Slice.slicePlaces ((n:Int) - 1) (-1) (-1))) _ _ s;rw[U];exact zzt h
theorem gZ{Q:bb->bx->Prop}(L:IsTup s.heap c its)(hs:s.heap.IsSliceOf sl .none .none vk)(g:IsPart vk (some (-1)))(h:Q (.ref s.heap.objs.size) {s with heap:=s.heap.push {cls:=.type "tuple",data:=.seq its.toList.reverse.toArray} })(d:its.size<=sizeLine):wpAny (model prog w) A (getItem (.ref c) (.ref sl)) Q E s:=by
 have J:sizeOk (.seq its.toList.reverse.toArray):=by show its.toList.reverse.toArray.size<=sizeLine;simpa using d
 obtain⟨os,b,Y,hds⟩:=id hs;have U:s.TypeIs (.ref sl) "slice":=⟨os,b,Y⟩;unfold getItem
 try with_reducible refine zyz ?_
 refine zzd (wpAny_sequenceKey L.typeIs (by decide) ?_);refine zzd (wpAny_callSpecial?_slot L.typeIs PyProof.Rows.slot_tuple_getitem
  (zyN PyProof.Rows.slot_tuple_getitem L.typeIs entry_tuple_getitem ?_ (args_tuple_getitem _ _)))
 show wpAny _ _ (Builtin.Tuple.tupleItemsOf (.ref c) >>= _) _ _ s;refine zzd (tupleItemsOf_ L ?_);refine zzd (wpAny_typeOf U ?_);refine zzd (iV hs g ?_);have a:¬((((its.size:Int) - 1)==0 && (-1:Int)==1 && its.size==its.size)=true):=by intro q;rw[zzV,zzV]at q;exact absurd q.1.2 (by decide)
 show wpAny _ _ (if ((((its.size:Int) - 1)==0 && (-1:Int)==1 && its.size==its.size)=true) then _ else _) _ _ s;rw[zzh a,DW]
 first
  |exact zzd (zyv (zzt ⟨_,rfl,zzt h⟩) J)
  |exact zzd (zyv (zzd (zzt (zzt ⟨_,rfl,zzt h⟩))) J)
  |exact zzd (zzd (zyv (zzt (zzt ⟨_,rfl,zzt h⟩)) J))
  |exact zzd (zzd (zyv (zzt ⟨_,rfl,zzt h⟩) J))
end
section
variable{e st:dy}{tk:TO}{p2:Pos}
def rRev(K:zwW):V->Hp->VK->Prop:=λx H Q=>(∃a xs,x=.ref a/\SqT K H a xs/\∀p,H p=none->Q (.ref p) (upd H p (.tup xs.reverse)))∨(∃a xs,x=.ref a/\SqL K H a xs/\∀p,H p=none->Q (.ref p) (upd H p (.lst xs.reverse)))
def tRev(K:zwW)(te:TE)(tk:TO):TE:=λσ H Q=>te σ H λx a=>tk σ a λk b=>k=some (-1)/\rRev K x b Q
theorem GK(he:PE X e te)(hk:PO X (some st) tk):PE X (.Subscript e (.Slice none none (some st) p2) pos) (tRev X.K te tk):=by
 intro pins s σ H Q I h;refine Subscript_ (thn (he pins s σ H _ I h) λv s1 d=>?_);obtain⟨x,n,T,G,q1⟩:=d;refine wpAny_Slice (thn (rD pins s1 σ n (λo j=>o=none/\j=n) T ⟨rfl,rfl⟩) λvl s2 ⟨l,z,c,pl,el,A⟩=>thn (rD pins s2 σ z (λo j=>o=none/\j=z) c ⟨rfl,rfl⟩) λvu s3 d=>?_);obtain⟨u,M,p,pu,eu,y⟩:=d;subst y A eu el;cases pl;cases pu;refine thn (hk pins s3 σ M _ p q1) λvk i d=>?_;obtain⟨k,N,w,E,C,q4⟩:=d;subst C;have L:Inv X pins σ N {i with heap:=i.heap.push {cls:=.type "slice",data:=.fields #[.none,.none,vk]} }:=w.kept λb B q=>zzm _ q;have U:(i.heap.push {cls:=.type "slice",data:=.fields #[.none,.none,vk]}).IsSliceOf i.heap.objs.size .none .none vk:=Heap.IsSliceOf.new ..;rcases q4 with ⟨a,xs,rfl,m,q⟩|⟨a,xs,rfl,m,q⟩
 ·cases G;obtain⟨its,r,Y,g⟩:=L.tuple m;have J:its.toArray.size=xs.length:=by rw[zzB];exact r.length.symm
  refine tail_any Y.typeIs PyProof.Rows.slot_tuple_getitem.lookup (gZ Y U E ?_ (by rw[J];exact g)) (by with_unfolding_all rfl);refine⟨.ref _,_,L.laid (λb B q=>zzm _ q) (zzq _) ?_,rfl,q _ (L.hok.fresh (zzq _))⟩;exact⟨by rw[zwM];exact g,its.reverse,r.reverse,IsTup.new _ _⟩
 ·cases G;obtain⟨its,r,Y,g⟩:=L.list m;have J:=r.length;refine tail_any Y.isList.typeIs slot_list_getitem.lookup (wpAny_getItem_list_slice Y.isList U .none .none E (by decide) ?_ (by rw[zzB]<;>lia)) (by with_unfolding_all rfl);have e:slicePick its.toArray none none (some (-1))=its.reverse.toArray:=by rw[pE]
  rw[e];refine⟨.ref _,_,L.laid (λb B q=>zzm _ q) (zzq _) ?_,rfl,q _ (L.hok.fresh (zzq _))⟩;exact⟨by rw[zwM];exact g,its.reverse,0,r.reverse,zzE _ rfl⟩
end
theorem lQ{x:V}:∀{xs:ab V} {a:ab bb},Vals xs a->xs.all eM=true->a.countP (eqU x)=xs.countP λy=>eqV y x
 |_,_,.nil,_=>rfl|y::xs,u::a,.cons r t,f=>by rw[zwy,zzV]at f;rw[List.countP_cons,List.countP_cons,uj r f.1,lQ t f.2]
def GL:V->ab V->Hp->VK->Prop:=λx a H Q=>∃l xs y,x=.ref l/\a=[y]/\H l=some (.lst xs)/\eM y=true/\xs.all eM=true/\Q (.int ((xs.countP λz=>eqV z y:Nat):Int)) H
theorem AI:MtM X "list.count" GL:=by intro pins s σ H x vs v us Q I b a h;obtain⟨l,xs,y,rfl,rfl,L,J,fs,q⟩:=h;cases b;obtain⟨u,rfl,Y⟩:=a.one;obtain⟨z,its,n,r,hl,e⟩:=I.lstM L;refine zxu F.slot_list_count ⟨_,e,rfl⟩ F.entry_list_count (F.args_list_count_2 _ _) (SeqAt.list_countAt l its.toArray n none #[] u (eqU y)) ⟨e,λw U=>fh Y J r fs w (by simpa using U),?_⟩;refine⟨.int _,H,I.tok _,⟨_,rfl⟩,?_⟩;rw[show its.toArray.toList.countP (eqU y)=its.countP (eqU y) from rfl,lQ r fs];exact q
def GM:V->ab V->Hp->VK->Prop:=λx a H Q=>∃l xs y j,x=.ref l/\a=[y]/\H l=some (.lst xs)/\eM y=true/\xs.all eM=true/\(∃z,xs[j]?=some z/\eqV z y=true)/\(∀m z,m<j->xs[m]?=some z->eqV z y=false)/\Q (.int ((j:Nat):Int)) H
theorem AJ:MtM X "list.index" GM:=by
 intro pins s σ H x vs v us Q I C A h;obtain⟨l,xs,y,j,rfl,rfl,c,T,fs,⟨z0,L,M⟩,E,q⟩:=h;cases C;obtain⟨u,rfl,p⟩:=A.one;obtain⟨z,its,n,r,o,e⟩:=I.lstM c;have N:∀(m:Nat) (z:V),xs[m]?=some z->eM z=true:=λm z k=>zyj.mp fs z (zyb k);have i:j<its.length:=by rw[←o];exact(zzy.mp L).1
 have at_:∀(m:Nat) (a:m<its.toArray.size),∃z,xs[m]?=some z/\eqU y its.toArray[m]=eqV z y:=λm a=>by
  have J:m<xs.length:=by rw[o];simpa using a
  obtain⟨w,g,G⟩:=r.get (show xs[m]?=some xs[m] by simp[J]);refine⟨xs[m],by simp[J],?_⟩;have:its.toArray[m]=w:=by
   have Y:m<its.length:=by simpa using a
   have:its[m]?=some its[m]:=by simp[Y]
   rw[g]at this;cases this;simp
  rw[this];exact uj G (N m _ (by simp[J]))
 have sj:(j:Int)<2^63 - 1:=by
  have:(sizeLine:Int)<2^63 - 1:=by decide
  lia
 refine zxu F.slot_list_index ⟨_,e,rfl⟩ F.entry_list_index (F.args_list_index_2 _ _) (SeqAt.list_indexAt l its.toArray n none #[] u (eqU y) j (by simpa using i) sj ?_ (λm a U=>?_)) ⟨e,λw g=>fh p T r fs w (by simpa using g),?_⟩
 ·obtain⟨B,b,d⟩:=at_ j (by simpa using i);rw[L]at b;cases b;rw[d];exact M
 ·obtain⟨B,b,d⟩:=at_ m a;rw[d];exact E m B U b
 ·exact⟨.int _,H,I.tok _,⟨_,rfl⟩,q⟩
theorem JI{a:Type}{l:ab a}{p:a}(h:l[t']?=some p):t'<l.length:=(zzy.mp h).1
theorem yb(f:Bool->Bool):∀(bs:ab Bool),(List.range bs.length).all (λi=>f (bs.getD i false))=bs.all f:=by
 intro bs;rw[zxt];simp only[zyj,zyo];constructor
 ·intro h b J;obtain⟨i,a,e⟩:=zyH.mp J;have:=h i a;rw[zzx,zzn a]at this;subst e;simpa using this
 ·intro h i a;have:=h bs[i] (zyn a);rw[zzx,zzn a];simpa using this
theorem yc:∀(bs:ab Bool),(List.range bs.length).any (λi=>bs.getD i false)=bs.any id:=by
 intro bs;rw[zxt];simp only[zyq,zyo];constructor
 ·rintro⟨i,a,h⟩;rw[zzx,zzn a]at h;exact⟨bs[i],zyn a,by simpa using h⟩
 ·rintro⟨b,J,h⟩;obtain⟨i,a,e⟩:=zyH.mp J;refine⟨i,a,?_⟩;rw[zzx,zzn a];subst e;simpa using h
theorem jO{prog:ef}{bs:ab Bool}{its:ab bb}(r:Vals (bs.map V.bl) its):TruthOf prog w A (λi v=>its.toArray[i]?=some v) (λi=>bs.getD i false):=by
 intro i v s Q E h q;have h:its[i]?=some v:=by simpa using h
 have a:i<bs.length:=by have:=r.length;have:=JI h;simp at *;lia
 obtain⟨u,J,L⟩:=r.get (i:=i) (x:=.bl bs[i]) (by simp[a]);rw[h]at J;cases J;cases L;have q:Q (bs.getD i false) s:=q;rw[zzx,zzn a]at q;exact zyu q
theorem AK(d:X.calm=true):cr X (.builtin "all") (λxs H Q=>∃(p:bn) (bs:ab Bool),xs=[.ref p]/\SqL X.K H p (bs.map V.bl)/\Q (.bl (bs.all id)) H):=by
 intro pins s σ H xs us Q I r h;obtain⟨p,bs,rfl,i,q⟩:=h;obtain⟨u,rfl,e⟩:=eL r;cases e;obtain⟨its,U,a,_⟩:=I.list i;have J:its.toArray.size=bs.length:=by have:=U.length;simpa using this.symm
 have L:p≠s.heap.objs.size:=by obtain⟨o,j,_⟩:=a.isList;exact zzL (zzD j)
 refine call_all_walk (zxD a.isList ⟨s.heap.objs.size,_,_,_,_,_,_,rfl,Walks.list (A:=X.A.in1) (I.ok.hd d) s.heap.objs.size p L its.toArray,⟨⟨_,zzE _ rfl,rfl,rfl⟩,a.isList.push _⟩,jO U,λh' tk g=>⟨.bl (bs.all id),H,I.kept λb o e=>g b o ?_ (zzm _ e),?_,q⟩⟩)
 ·intro Y;have:b=s.heap.objs.size:=by simpa using Y
  exact absurd (zzD e) (by rw[this];exact zyy _)
 ·show Value.bool _=Value.bool _;rw[J];have:=yb id bs;simp only[id]at this ⊢;rw[this]
theorem AL(d:X.calm=true):cr X (.builtin "any") (λxs H Q=>∃(p:bn) (bs:ab Bool),xs=[.ref p]/\SqL X.K H p (bs.map V.bl)/\Q (.bl (bs.any id)) H):=by
 intro pins s σ H xs us Q I r h;obtain⟨p,bs,rfl,i,q⟩:=h;obtain⟨u,rfl,e⟩:=eL r;cases e;obtain⟨its,U,a,_⟩:=I.list i;have J:its.toArray.size=bs.length:=by have:=U.length;simpa using this.symm
 have L:p≠s.heap.objs.size:=by obtain⟨o,j,_⟩:=a.isList;exact zzL (zzD j)
 refine call_any_walk (zxD a.isList ⟨s.heap.objs.size,_,_,_,_,_,_,rfl,Walks.list (A:=X.A.in1) (I.ok.hd d) s.heap.objs.size p L its.toArray,⟨⟨_,zzE _ rfl,rfl,rfl⟩,a.isList.push _⟩,jO U,λh' tk g=>⟨.bl (bs.any id),H,I.kept λb o e=>g b o ?_ (zzm _ e),?_,q⟩⟩)
 ·intro Y;have:b=s.heap.objs.size:=by simpa using Y
  exact absurd (zzD e) (by rw[this];exact zyy _)
 ·show Value.bool _=Value.bool _;rw[J,yc]
end L2
namespace PySem
section
variable{prog:ef}{w:World}{K:Type}[DecidableEq K]{knd:HeapKind prog w K}{A:Around}{E:bb->bx->Prop}{z:bx}
theorem AM{c b:bn}{ps:ab (K×bn×bb)}{q:K}{x:bb}{R:bb->bx->Prop}(L:knd.room A)(Y:knd.is z.heap q b)(D:z.heap.DictOfH knd c ps)(k:ps.length<=sizeLine)
  (old:∀p,atKey ps q=some p->R p.2 {z with toks:=z.toks+knd.draws q})
  (new:atKey ps q=none->∀g,g.DictOfH knd c (storedH ps q b x)->Heap.SameBut c z.heap g->R x {z with heap:=g,toks:=z.toks+knd.draws q}) :
  wpAny (model prog w) A (dictSetDefault c (.ref b) x) R E z:=by
 obtain⟨ob,l,m,g1,g2,g3,a,i,d⟩:=D;unfold dictSetDefault
 try with_reducible refine zyz ?_
 refine zzd (knd.pyHash L Y ?_);refine zzd (wpAny_dictFind_heap L Y g1 g3 a i d (λJ=>?_) (λj p at_=>?_))
 ·have few2:l.size<=sizeLine:=by rw[zwc a];exact k
  have h:=atKey_none_of_get J;refine zzd (wpAny_rule (zzd (wpAny_updateDictKeys g1 g3 (zzt (new h _ ⟨_,_,m+1,zxJ _ g1 (Obj.isFreed_of_dict (Obj.data_mapDictKeys g3 _)),g2.mapDictKeys _,Obj.data_mapDictKeys g3 _,?_,?_,?_⟩ (zyt ..))))))
  all_goals rw[storedH_new h]
  ·simp[a,entryOfKey]
  ·intro y U;rcases zzA.mp U with U|U
   ·exact knd.keeps (i y U) g1 g3 (zyt ..)
   ·rw[zzG.mp U];exact knd.keeps Y g1 g3 (zyt ..)
  ·rw[zzc,zyE];refine zxj.mpr ⟨d,zzT.mpr ⟨by simp,zxm⟩,λy U u n e=>?_⟩;have e:y=q:=by rw[zzG.mp n]at e;exact e
   subst e;exact not_mem_keys_of_get J U
 ·refine zzd (zwo g1 g3 ?_);rw[entry_at a j,at_];exact zzd (wpAny_rule (zzt (old p (atKey_of_get d at_))))
theorem lq(knd:HeapKind prog w K)(c b:bn)(x:bb)(plain:(c==sysModules)=false) :
  MeetsIn prog w (Builtin.«dict.setdefault» ⟨[.ref c,.ref b,x],[]⟩) (λA R z=>knd.room A.in1/\∃q ps,knd.is z.heap q b/\z.heap.DictOfH knd c ps/\ps.length<=sizeLine /\
   (∀p,atKey ps q=some p->R (.ok (.ret p.2)) {z with toks:=z.toks+knd.draws q}) /\
   (atKey ps q=none->∀a,a.DictOfH knd c (storedH ps q b x)->Heap.SameBut c z.heap a->R (.ok (.ret x)) {z with heap:=a,toks:=z.toks+knd.draws q})) :=
 .of_wp λA R z h=>by obtain⟨J,q,ps,U,D,L,old,new⟩:=h;refine zzd ?_;refine zzd (wpAny_notOrdered_dict D.typeIs ?_);refine zzt ?_;show wpAny _ _ (if (c==sysModules)=true then _ else(dictSetDefault c (.ref b) x >>= _)) _ _ z;rw[zzh (by rw[plain];exact zzI)];exact zzd (AM J U D L (λp e=>zzt ⟨p.2,rfl,old p e⟩) λe a Y d=>zzt ⟨x,rfl,new e a Y d⟩)
end
end PySem
namespace L2
open PySem PySem.Spec PyProof.Rows
section
variable{X:Cx}
def JJ:V->ab V->Hp->VK->Prop:=λx d H Q=>∃a c k b y,x=.ref a/\d=[.ref b,y]/\H a=some (.dT c)/\H b=some (.tup (k.map kV))/\c.length<sizeLine /\
 (∀v,valV c k=some v->Q v H)/\(valV c k=none->Q y (upd H a (.dT (putK c k y))))
theorem nq(hu:X.A.units+1<cLine):MtM X "dict.setdefault" JJ:=by
 intro pins s σ H x vs v us Q I rx rv h;obtain⟨a,d,k,b,y,rfl,rfl,e,i,l,C,E⟩:=h;cases rx;cases rv with
 |cons r1 rr =>
  obtain⟨u,rfl,n⟩:=Vals.one rr;cases r1;obtain⟨z,plain,o,rel,g⟩:=Gy I.hok e;have hz:o.length<=sizeLine:=by rw[←zxg rel];exact z
  have T:(putK d k y).length<=sizeLine:=by have:=fR d k y;lia
  refine call_meetsIn F.slot_dict_setdefault g.typeIs F.entry_dict_setdefault (F.args_dict_setdefault_3 _ _ _) (lq (tupleKind (bF X.prog X.w)) a b u plain) ⟨zwk hu,k,o,oX I.hok i,g,hz,λp hp=>?_,λhn h' L hs=>?_⟩
  ·have q:=rel.val k;rw[hp]at q;cases J:valV d k with
   |none=>rw[J]at q;exact q.elim|some Y =>
    rw[J]at q;exact⟨Y,H,I.tok _,q,C Y J⟩
  ·have q:=rel.val k;rw[hn]at q;cases J:valV d k with
   |some Y=>rw[J]at q;exact q.elim|none =>
    obtain⟨q,B,r,m,U,G,M,_,N⟩:=L;refine⟨y,_,rG (ob:=.dT (putK d k y)) I (by rw[e];exact True.intro) hs ⟨q,m⟩ ⟨T,plain,_,(rel.put k i n).keeps λc ys j=>?_,q,B,r,m,U,G,M,N⟩,n,E J⟩;rw[af (kY j e (λz=>nomatch z))];exact j
end
end L2
namespace L2
open PySem PySem.Spec PyProof.Rows PySem.W
variable{H:Hp}{d:bn}{h h':cm}{k k1:ab Key}{n:Nat}{v1 v2:bb}{α β:Type}
variable{prog:ef}{w:World}{A:Around}{E:bb->bx->Prop}{s:bx}
noncomputable def kRun{α:Type}(c:Nat->Nat->Bool):KasT α->α
 |.ret a=>a|.ask i j k=>kRun c (k (c i j))
def KGood{α:Type}(N:Nat)(P:α->Prop):KasT α->Prop
 |.ret a=>P a|.ask i j k=>(i<N/\j<N)/\∀b,KGood N P (k b)
theorem KGood.bind{α β:Type}{N:Nat}{P:α->Prop}{R:β->Prop}{f:α->KasT β}(J:∀a,P a->KGood N R (f a)):∀(t:KasT α),KGood N P t->KGood N R (t.bind f)
 |.ret a,h=>J a h|.ask i j k,h=>⟨h.1,λb=>KGood.bind J (k b) (h.2 b)⟩
theorem KGood.end{α:Type}{N:Nat}{P:α->Prop}(c:Nat->Nat->Bool):∀(t:KasT α),KGood N P t->P (kRun c t)
 |.ret a,h=>h|.ask i j k,h=>KGood.end c (k (c i j)) (h.2 _)
theorem KGood.wp{α:Type}{N:Nat}{P:α->Prop}{c:Nat->Nat->Bool}{cmp:Nat->Nat->(Bool->bx->Prop)->bx->Prop}{s:bx}
  (J:∀i j (C:Bool->bx->Prop),i<N->j<N->C (c i j) s->cmp i j C s):∀(t:KasT α) (Q:α->bx->Prop),KGood N P t->Q (kRun c t) s->t.kasWp cmp Q s
 |.ret a,Q,_,q=>q|.ask i j k,Q,h,q=>J i j _ h.1.1 h.1.2 (KGood.wp J (k (c i j)) Q (h.2 _) q)
def PmN(N:Nat)(p:Array Nat):Prop:=p.toList.Perm (List.range N)
section
variable{N:Nat}{p:Array Nat}
theorem PmN.lt(h:PmN N p)(h0:0<N)(i:Nat):p.getD i 0<N:=by
 by_cases a:i<p.size
 ·have e:p.getD i 0=p[i]:=by simp[Array.getD,a]
  have b:p[i]∈p.toList:=zyS.mpr (Array.getElem_mem a);rw[e];exact zyo.mp (h.mem_iff.mp b)
 ·have e:p.getD i 0=0:=by simp[Array.getD,a]
  rw[e];exact h0
theorem PmN.rev(h:PmN N p)(i j:Nat):PmN N (kas_rev p i j):=(Array.perm_iff_toList_perm.mp (mirror_perm _ _ _ _)).trans h
theorem PmN.bub(h:PmN N p)(i j:Nat):PmN N (bubble p i j):=(Array.perm_iff_toList_perm.mp (bubble_perm _ _ _)).trans h
theorem nr(h0:0<N)(h:PmN N p):∀(f n:Nat),KGood N (λ_=>True) (kas_asc p f n)
 |0,n=>trivial| f+1,n=>⟨⟨h.lt h0 _,h.lt h0 _⟩,λb=>by
  dsimp only;split
  ·trivial
  ·exact nr h0 h f (n+1)⟩
theorem gt(h0:0<N):∀(f:Nat) (p:Array Nat) (n q:Nat),PmN N p->KGood N (λr=>PmN N r.1) (kas_desc f p n q)
 |0,p,n,q,h=>h| f+1,p,n,q,h=>⟨⟨h.lt h0 _,h.lt h0 _⟩,λb=>by
  dsimp only;split
  ·split
   ·exact gt h0 f _ _ _ (h.rev _ _)
   ·exact gt h0 f _ _ _ h
  ·refine⟨⟨h.lt h0 _,h.lt h0 _⟩,λd=>?_⟩;dsimp only;split
   ·exact h
   ·exact gt h0 f _ _ _ h⟩
theorem lR(h0:0<N)(h:PmN N p)(n m:Nat):KGood N (λr=>PmN N r.2) (kas_tail3 n m p):=by refine KGood.bind ?_ _ (nr h0 (h.rev 0 n) _ _);intro m _;exact h.rev 0 n
theorem gu(h0:0<N)(h:PmN N p)(n m:Nat):KGood N (λr=>PmN N r.2) (kas_descPart n m p):=KGood.bind (λr J=>by
 split
 ·exact lR h0 (J.rev _ _) _ _
 ·exact lR h0 J _ _) _ (gt h0 _ _ _ _ h)
theorem lS(h0:0<N)(h:PmN N p)(m:Nat):KGood N (λr=>PmN N r.2) (kas_count m p):=KGood.bind (λn _=>by
 split
 ·exact h
 ·split
  ·refine⟨⟨h.lt h0 _,h.lt h0 _⟩,λb=>?_⟩;dsimp only;split
   ·exact h
   ·exact gu h0 (h.rev _ _) _ _
  ·exact gu h0 h _ _) _ (nr h0 h _ _)
theorem hU(h0:0<N)(h:PmN N p)(k:Nat):∀(f l r:Nat),KGood N (λ_=>True) (kas_place p k f l r)
 |0,l,r=>trivial|f+1,l,r=>by
  unfold kas_place;split
  ·trivial
  ·refine⟨⟨h.lt h0 _,h.lt h0 _⟩,λb=>?_⟩;dsimp only;split
   ·exact hU h0 h k f _ _
   ·exact hU h0 h k f _ _
theorem uw(h0:0<N):∀(f:Nat) (p:Array Nat) (k:Nat),PmN N p->KGood N (PmN N) (kas_bin f p k)
 |0,p,k,h=>h|f+1,p,k,h=>KGood.bind (λl _=>uw h0 f _ _ (h.bub _ _)) _ (hU h0 h k _ _ _)
theorem dI(h0:0<N):KGood N (PmN N) (kas_sort N):=by
 have L:PmN N (List.toArray (List.range N)):=by unfold PmN;rw[zxY]
 exact KGood.bind (λr J=>by
  split
  ·exact uw h0 _ _ _ J
  ·exact J) _ (lS h0 L N)
end
noncomputable def lexI:ab Key->ab Key->Bool
 |[],[]=>false|[],_::_=>true|_::_,[]=>false|.inl a::r,.inl b::c=>if a=b then lexI r c else decide (a<b)
 |_,_=>false
noncomputable def srtK(ks:ab (ab Key)):ab (ab Key):=if ks.length<2 then ks else(kRun (λi j=>lexI (ks.getD i []) (ks.getD j [])) (kas_sort ks.length)).toList.map λi=>ks.getD i []
theorem pF{xs:ab α}{d:α}{is:ab Nat}(h:is.Perm (List.range xs.length)):(is.map λi=>xs.getD i d).Perm xs:=by
 refine(h.map _).trans ?_;have:(List.range xs.length).map (λi=>xs.getD i d)=xs:=by
  apply List.ext_getElem
  ·simp
  ·intro i h1 a;simp[a]
 rw[this]
theorem pG(ks:ab (ab Key)):(srtK ks).Perm ks:=by
 unfold srtK;split
 ·exact List.Perm.refl _
 ·exact pF (KGood.end _ _ (dI (by lia)))
def isI(k:Key)(u:bb):Prop:=∃i t,k=.inl i/\u=Value.int i t
def TupI(h:cm)(k:ab Key)(v:bb):Prop:=∃a o b n,v=.ref a/\h.get? a=some o/\o.cls=.type "tuple" /\ o.data=.seq b n/\Paired isI k b.toList
theorem dJ{R:α->β->Prop}{xs:ab α}{a:ab β}(h:Paired R xs a):xs.length=a.length:=by
 induction h with
 |nil=>rfl|cons _ _ J=>simp[J]
section
variable{b fin:Bool}{Q:Bool->bx->Prop}
theorem GN(o:Bool){x y:Int}{t u:Tok}{Q:Bool->bx->Prop}(h:Q (decide (x<y)) s):wpAny (model prog w) A (oneLt' o (.int x t) (.int y u)) Q E s:=by
 cases o with
 |true=>exact oneLt_int h|false=>exact kat_one _ _ (wpAny_lt_int h)
theorem AN:∀{k1 J:ab Key} {xs c:ab bb} (i:Nat),Paired isI k1 xs->Paired isI J c->fin=decide (xs.length<c.length)->Q (lexI k1 J) s->KatLex prog w A b fin Q (xs.zip c) i s
 := by
 intro k1 J xs c i a b e q
 induction a generalizing J c i with
 |nil=>cases b<;>(subst e;exact q)
 |cons g r1 U =>
  cases b with|nil=>subst e;exact q|cons j Y=>?_
  obtain⟨x,t,rfl,rfl⟩:=g;obtain⟨y,u,rfl,rfl⟩:=j;refine kat_cons (wpAny_eqBool_int ?_);by_cases z:x=y
  ·subst z;have L:(x==x)=true:=by simp
   rw[L];refine kat_yes (U (i+1) Y (by rw[e];simp) ?_);simpa[lexI]using q
  ·have L:(x==y)=false:=by simpa using z
   rw[L];refine kat_no (GN _ ?_);simpa[lexI,z]using q
theorem DX(a:TupI s.heap k1 v1)(c:TupI s.heap k v2)(q:Q (lexI k1 k) s):wpAny (model prog w) A (keyLt' (tuples' b) v1 v2) Q E s:=by obtain⟨x,ox,xs,n,rfl,L,_,dx,Y⟩:=a;obtain⟨y,oy,ys,m,rfl,U,_,J,py⟩:=c;exact kat_lt L dx U J (AN 0 Y py (by simp) q)
end
def RawD(d:bn)(es:Array DictEntry)(ep:Nat)(h:cm):Prop:=∃o,h.get? d=some o/\o.ExactDict/\o.data=.dict es ep
theorem RawD.type{a:Array DictEntry}{s:bx}(h:RawD d a n s.heap):s.TypeIs (.ref d) "dict":=let ⟨o,e,x,_⟩:=h;⟨o,e,x.1⟩
theorem RawD.keep{a:Array DictEntry}(r:RawD d a n h)(k:∀o,h.get? d=some o->h'.get? d=some o):RawD d a n h':=let ⟨o,e,x⟩:=r;⟨o,k o e,x⟩
section
variable{d it:bn}{es:Array DictEntry}{ep i:Nat}
theorem ux{Q:bb->bx->Prop}(lo:(d==sysModules)=false)(r:RawD d es ep s.heap)
  (q:Q (.ref s.heap.objs.size) {s with heap:=s.heap.push {cls:=.type "dict_keyiterator",data:=.fields #[.ref d,.int 0 0,.int es.size 0,.int ep 0]} }):wpAny (model prog w) A (pyIter (.ref d)) Q E s:=by
 have ty:=r.type;obtain⟨o,g1,_,g2⟩:=r;refine wpAny_pyIter_slot ty F.slot_dict_iter (zyN F.slot_dict_iter ty F.entry_dict_iter ?_ (F.args_dict_iter_1 _));refine zzd (zzd (wpAny_notOrdered_dict ty (zzt ?_)));show wpAny _ _ ((if (d==sysModules)=true then unsupported "sys.modules:all-start-up-values-wanted" else pure ()) >>= _) _ _ s;rw[zzh (by rw[lo];exact zzI)];refine zzd (zzt (zzd (zwo g1 g2 (zzd (wpAny_dictEpoch g1 g2 ?_)))));exact zzd (zyv (zzt ⟨_,rfl,"dict_keyiterator",_,⟨_,zzE _ rfl,rfl⟩,F.slot_dict_keyiterator_next.lookup,q⟩))
theorem uy{Q:ca bb->bx->Prop}(b:i<es.size)(U:es.size=n)(g:s.heap.IsKeyIter it d i n ep)(r:RawD d es ep s.heap)(q:∀h',h'.IsKeyIter it d (i+1) n ep->Heap.SameBut it s.heap h'->Q (some es[i].key) {s with heap:=h' }):wpAny (model prog w) A (pyNext (.ref it)) Q E s:=by
 subst U;have ty:=g.typeIs;obtain⟨o,g1,g2,g3⟩:=g;obtain⟨od,J,_,L⟩:=r;refine zzd (wpAny_attempt (wpAny_callSpecial?_slot ty F.slot_dict_keyiterator_next (zyN F.slot_dict_keyiterator_next ty F.entry_dict_keyiterator_next ?_ (F.args_dict_keyiterator_next_1 _))));refine zzd (zzt (zzd (zzd (zzd (zyX ty (zzt (zzd (wpAny_fieldsOf g1 g3 ?_))))))));show wpAny _ _ (if (Value.ref d==Value.none)=true then _ else _) _ _ s;refine zzd (zzt (zzd (zwo J L ?_)));rw[zzh (by simp)];refine zzd (zzt (zzd (wpAny_dictEpoch J L ?_)));rw[zzh (by simp)];refine zzt ?_;simp only[show ¬((i:Int)<0) from by lia,zwO,zzC,zwd b];refine zzd (zzd (zyX ty (zzt (zzd (wpAny_isOneOf_keyiter ty ?_)))));show wpAny _ _ (setField (.ref it) 1 (rawInt ((i:Int)+1)) >>= _) _ _ s;refine zzd (zwP g1 g3 (by simp) ?_);have a:(s.heap.update it (Obj.mapFields (·.setIfInBounds 1 (rawInt ((i:Int)+1))))).IsKeyIter it d (i+1) es.size ep :=
  ⟨_,zxJ _ g1 (Obj.isFreed_of_fields (Obj.data_mapFields g3 _)),(Obj.cls_mapFields ..).trans g2,by rw[Obj.data_mapFields g3];simp[rawInt]⟩
 refine zzd (zyz (zzd (wpAny_isOneOf_keyiter a.typeIs ?_)));exact zzt (zzt ⟨_,rfl,zzt (q _ a (zyt ..))⟩)
theorem yd{Q:ca bb->bx->Prop}(a:A.handled=none)(b:es.size<=i)(U:es.size=n)(g:s.heap.IsKeyIter it d i n ep)(r:RawD d es ep s.heap)(q:∀h',Heap.ExtBut it s.heap h'->Q none {s with heap:=h' }):wpAny (model prog w) A (pyNext (.ref it)) Q E s:=by subst U;have ty:=g.typeIs;obtain⟨o,g1,g2,g3⟩:=g;obtain⟨od,J,_,L⟩:=r;refine zzd (wpAny_attempt (wpAny_callSpecial?_slot ty F.slot_dict_keyiterator_next (zyN F.slot_dict_keyiterator_next ty F.entry_dict_keyiterator_next ?_ (F.args_dict_keyiterator_next_1 _))));refine zzd (zzt (zzd (zzd (zzd (zyX ty (zzt (zzd (wpAny_fieldsOf g1 g3 ?_))))))));show wpAny _ _ (if (Value.ref d==Value.none)=true then _ else _) _ _ s;refine zzd (zzt (zzd (zwo J L ?_)));rw[zzh (by simp)];refine zzd (zzt (zzd (wpAny_dictEpoch J L ?_)));rw[zzh (by simp)];refine zzt ?_;simp only[show ¬((i:Int)<0) from by lia,zwO,zzC,Array.getElem?_eq_none b];refine zzd (zzd (zyX ty (zzt ?_)));show wpAny _ _ (setField (.ref it) 0 .none >>= _) _ _ s;refine zzd (zwP g1 g3 (by simp) ?_);refine zzd ?_;refine zzd (zyv ?_ (by size_fits));refine zzd (wpAny_of_eq (by first|rfl|(simp only[firstArgMember];rfl)) ?_);refine zyv ?_ (by size_fits);refine zzd (wpAny_handled ?_);rw[show A.in1.handled=none from a];refine zzd (zzt (wpAny_throw ?_));refine zzd (wpAny_isInstance ⟨_,zzE _ rfl,rfl⟩ isSubtype_stop ?_);exact zzt (q _ (((zyt ..).extBut.push _).push _))
theorem DY(lo:(d==sysModules)=false)(es:Array DictEntry)(ep:Nat):KdlSrc prog w "dict" d d es.size (λi v=>(es[i]?).map (·.key)=some v) (RawD d es ep) where
 type:=λ_ r=>r.type
 there:=λ_ ⟨_,e,_⟩=>⟨zzD e,zzD e⟩
 keep:=λ_ _ r k=>r.keep λo e=>k d (.inl rfl) o e
 notList:=by decide
 notTuple:=by decide
 hint:=λ_ _ _ _ r q=>kdl_hint_dict r.type q
 iter:=λA s l r=>⟨_,λi h=>h.IsKeyIter s.heap.objs.size d i es.size ep/\RawD d es ep h,(λ_ _ q=>ux lo r q),{
  sub:=λb J=>by simp at J;simp[J]
  frame:=λ_ _ _ st k=>⟨st.1.at λo e=>k _ (by simp) o e,st.2.keep λo e=>k d (by simp) o e⟩
  item:=λi a Q E c st q=>uy c rfl st.1 st.2 λh' j L=>by
   have ne:d≠s.heap.objs.size:=by obtain⟨_,e,_⟩:=r;exact zzL (zzD e)
   refine q es[i].key h' a.toks (by simp[c]) ⟨j,st.2.keep λo e=>(L.2 d ne).trans e⟩ λb o J e=>?_;have J:b≠s.heap.objs.size:=by simpa using J
   exact(L.2 b J).trans e
  done:=λa Q E st q=>yd l (zzq _) rfl st.1 st.2 λh' g=>q h' a.toks λb o J e=>g b o (by simpa using J) e
  self:=λ_ _ _ _ st q=>wpAny_pyIter_keyiter st.1 q},⟨⟨_,zzE _ rfl,rfl,rfl⟩,r.keep λo e=>zzm _ e⟩⟩
end
theorem TupI.keep{v:bb}{a:bn}{xs:Array bb}(t:TupI h k v)(g:h.get? a=some (seqObj "list" xs n))(i:∀b o,b≠a->h.get? b=some o->h'.get? b=some o):TupI h' k v:=by obtain⟨b,o,j,m,rfl,e,c,d,p⟩:=t;refine⟨b,o,j,m,rfl,i b o ?_ e,c,d,p⟩;rintro rfl;rw[g]at e;cases e;simp[seqObj]at c
theorem eh{R S:α->β->Prop}{xs:ab α}{ys:ab β}(h:Paired R xs ys)(f:∀a b,R a b->S a b):Paired S xs ys:=by
 induction h with
 |nil=>exact .nil|cons h _ J=>exact .cons (f _ _ h) J
theorem hV{R:α->β->Prop}{d:α}{e:β}{xs:ab α}{b:ab β}(h:Paired R xs b):∀i,i<xs.length->R (xs.getD i d) (b.getD i e):=by
 induction h with
 |nil=>intro i a;simp at a|cons h _ J =>
  intro i a;cases i with
  |zero=>simpa using h|succ i=>simpa using J i (by simpa using a)
theorem jP{α β:Type}{R:α->β->Prop}{d:α}{e:β}{xs:ab α}{b:ab β}(h:Paired R xs b):∀(is:ab Nat),(∀i∈is,i<xs.length)->Paired R (is.map λi=>xs.getD i d) (is.map λi=>b.getD i e)
 |[],_=>.nil|i::is,a=>.cons (hV h i (a i zze)) (jP h is λj J=>a j (zzb _ J))
theorem GO:∀{b:ab (ab Key)} {vs:ab bb},Paired (TupI h) b vs->(∀k∈b,k≠[])->∃fs,KatTups h vs fs/\fs.length=vs.length/\∀v∈fs,∃i t,v=Value.int i t
 := by
 intro b vs h ne
 induction h with
 |nil=>exact⟨[],.nil,rfl,λv J=>by simp at J⟩
 |@cons k v b vs g r y =>
  obtain⟨fs,j,m,Y⟩:=y λk L=>ne k (zzb _ L);obtain⟨a,o,z,n,rfl,e,c,d,p⟩:=g;have L:=ne k zze;generalize U:z.toList=l at p;cases p with
  |nil=>exact absurd rfl L|@cons x u ks' us q hr =>
   obtain⟨i,t,rfl,rfl⟩:=q;refine⟨Value.int i t::fs,.cons e c d ?_ j,by simp[m],λv J=>?_⟩
   ·rw[←zxL,U];rfl
   ·rcases zzi.mp J with rfl|J
    ·exact⟨i,t,rfl⟩
    ·exact Y v J
theorem pH{a:bn}{vs:ab bb}{l:ab (ab Key)}{P:PySem.Fin->bx->Prop}(y:s.heap.get? a=some (seqObj "list" vs.toArray n))(hp:Paired (TupI s.heap) l vs)(a6:2<=l.length->∀k∈l,k≠[])(Y:vs.length<64)(q:∀(h':cm) (g:ab bb) (c:Nat),(∀b o,b≠a->s.heap.get? b=some o->h'.get? b=some o)->h'.get? a=some (seqObj "list" g.toArray c)->(∀R:ab Key->bb->Prop,Paired R l vs->Paired R (srtK l) g)->P (.done (.ret .none)) {s with heap:=h' }) :
  wpAny (model prog w) A (Builtin.«list.sort» ⟨[.ref a],[]⟩) P E s:=by
 have hl:=dJ hp;have ha:a<s.heap.objs.size:=zzD y;have sb:=zyt s.heap a (Obj.mapSeq λ_=>(#[]:Array bb));obtain⟨B,H⟩:∃B,(s.heap.update a (Obj.mapSeq λ_=>(#[]:Array bb))).get? a=some (seqObj "list" #[] B):=⟨_,get?_update_seq y λ_=>#[]⟩;rw[list_sort_plain];refine zzd (listItems_at y rfl (zzd (listUpdate_at y rfl ?_ (by rw[zzB,zxl];lia) (zzM _))));refine zzd (seqEpoch_at H rfl (zzd (wpAny_newTuple ?_ (by show vs.length<=_;rw[zxl];lia))));refine zzd (wpAny_newList (zyz ?_) (zzM _));show wpAny (model prog w) A _ P E {s with heap:=((s.heap.update a (Obj.mapSeq λ_=>(#[]:Array bb))).push (seqObj "tuple" vs.toArray 0)).push (seqObj "list" #[] 0)};have h:∀b o,b≠a->s.heap.get? b=some o->(((s.heap.update a (Obj.mapSeq λ_=>(#[]:Array bb))).push (seqObj "tuple" vs.toArray 0)).push (seqObj "list" #[] 0)).get? b=some o:=λb o I e =>
  zzm _ (zzm _ ((sb.2 b I).trans e))
 have U:(((s.heap.update a (Obj.mapSeq λ_=>(#[]:Array bb))).push (seqObj "tuple" vs.toArray 0)).push (seqObj "list" #[] 0)).get? a=some (seqObj "list" #[] B):=zzm _ (zzm _ H);generalize ((s.heap.update a (Obj.mapSeq λ_=>(#[]:Array bb))).push (seqObj "tuple" vs.toArray 0)).push (seqObj "list" #[] 0)=h3 at h U;have M:Paired (TupI h3) l vs:=eh hp λk v t=>t.keep y h;dsimp only;have fin:∀(st:SortSt) (g:ab bb),(arrOf st).map (·.2)=g.toArray->failedOf st=none->g.length<64->(∀R:ab Key->bb->Prop,Paired R l vs->Paired R (srtK l) g) ->
   wpAny (model prog w) A (do
    let L:=(←seqEpoch a) != B
    Builtin.List.listUpdate (.ref a) λ_=>(arrOf st).map (·.2)
    if let some e:=failedOf st then rule "list.sort.comparison-raised";throw e
    if L then rule "list.sort.modified";raiseError "ValueError" "list modified during sort"
    ret .none) P E {s with heap:=h3}:=by
  intro st g e f m u;rw[e,f];refine zzd (seqEpoch_at U rfl ?_);refine zzd (listUpdate_at U rfl ?_ (zzM _) (by show g.toArray.size<=_;rw[zzB,zxl];lia));simp only[bne_self_eq_false,Bool.false_eq_true,zwO];refine zzt (q _ g _ (λb o I e=>?_) (get?_update_seq U λ_=>g.toArray) u);exact((zyt h3 a (Obj.mapSeq λ_=>g.toArray)).2 b I).trans (h b o I e)
 by_cases h2:vs.length<2
 ·have m:vs.toArray.size<2:=by rw[zzB];exact h2
  rw[zzk m,zzk m];refine zzd (zzt (zzd (zzt ?_)));refine fin _ vs ?_ rfl Y λR u=>?_
  ·show (vs.toArray.zip vs.toArray).map (·.2)=vs.toArray;apply Array.toList_inj.mp;simp[List.map_snd_zip]
  ·unfold srtK;rw[zzk (by lia)];exact u
 ·have m:¬vs.toArray.size<2:=by rw[zzB];exact h2
  rw[zzh m,zzh m];obtain⟨fs,t1,t2,t3⟩:=GO M (a6 (by lia));refine zzd (kat_kind (s:={s with heap:=h3}) (T:=.type "int") t1 (by lia) (λv hv=>?_) (by decide) ?_)
  ·obtain⟨i,t,rfl⟩:=t3 v hv;exact Looks.of_pure rfl
  ·refine zzd (zxS (kat_run (Q:=λJ z=>z={s with heap:=h3}/\(arrOf J).map (·.2)=List.toArray ((kRun (λi j=>lexI (l.getD i []) (l.getD j [])) (kas_sort l.length)).toList.map λi=>vs.getD i Value.none)/\failedOf J=none) (G:=λp z=>z={s with heap:=h3}/\p=kRun (λi j=>lexI (l.getD i []) (l.getD j [])) (kas_sort l.length)) rfl (by lia) Y (λp J z a1 a2 a3 a4=>?_) ?_) (λr z hq=>?_) λ_ _ x=>x)
   ·obtain⟨rfl,rfl⟩:=a4;exact⟨rfl,kat_snds rfl a2,a3⟩
   ·rw[←hl];refine KGood.wp (N:=l.length) (P:=PmN l.length) (λi j C d hj hC=>?_) _ _ (dI (by lia)) ⟨rfl,rfl⟩;show wpAny (model prog w) A (keyLt' _ (vs.getD i Value.none) (vs.getD j Value.none)) C (λ_ _=>False) _;exact DX (s:={s with heap:=h3}) (hV M i d) (hV M j hj) hC
   ·obtain⟨⟨⟩,J⟩:=r;obtain⟨rfl,e,f⟩:=hq;refine fin J _ e f ?_ λR u=>?_
    ·have:=(KGood.end (λi j=>lexI (l.getD i []) (l.getD j [])) _ (dI (N:=l.length) (by lia))).length_eq;rw[zyI]at this;rw[zza,this,hl];exact Y
    ·unfold srtK;rw[zzh (by lia)];refine jP u _ λi d=>?_;have:=KGood.end (λi j=>lexI (l.getD i []) (l.getD j [])) _ (dI (N:=l.length) (by lia));exact zyo.mp (this.mem_iff.mp d)
section
variable{X:Cx}
def rR(H:Hp)(k:ab Key)(v:V):Prop:=∃b,v=.ref b/\H b=some (.tup (k.map kV))
def pI(k:ab Key):Prop:=∀x∈k,∃i:Int,x=.inl i
theorem uz:∀{k:ab Key} {a:ab bb},pI k->Vals (k.map kV) a->Paired isI k a
 |[],a,_,h=>by cases h;exact .nil
 |x::k,a,b,h=>by
  obtain⟨i,rfl⟩:=b _ zze;cases h with
  |cons c e =>
   obtain⟨t,rfl⟩:=(show ∃t,_=Value.int i t from c);exact .cons ⟨i,t,rfl,rfl⟩ (uz (λy J=>b y (zzb _ J)) e)
theorem Inv.tupI{a:ab (bn×Obj)}{m:St}{s:bx}{b:bn}(I:Inv X a m H s)(l:pI k)(e:H b=some (.tup (k.map kV))):TupI s.heap k (.ref b):=by
 obtain⟨_,c,r,o,g,i,n,j⟩:=(show ObjOk X.prog X.w H s.heap b (.tup (k.map kV)) from I.hok b _ e);refine⟨b,o,c.toArray,n,rfl,g,?_,j,?_⟩
 ·exact i
 ·rw[zxY];exact uz l r
theorem ye:∀{a:ab (ab Key)} {out:ab bb},Paired (λk v=>∃b,v=Value.ref b/\H b=some (.tup (k.map kV))) a out->∃bs,Paired (rR H) a bs/\Vals bs out:=by
 intro a out h
 induction h with
 |nil=>exact⟨[],.nil,.nil⟩|cons h r J =>
  obtain⟨b,rfl,e⟩:=h;obtain⟨bs,c,g⟩:=J;exact⟨.ref b::bs,.cons ⟨b,rfl,e⟩ c,.cons rfl g⟩
theorem DZ{a:ab (ab Key×V)}{xs:ab (ab Key×bn×bb)}(r:KT H a xs):Paired (λk v=>∃b,v=Value.ref b/\H b=some (.tup (k.map kV))) (a.map (·.1)) (xs.map λx=>Value.ref x.2.1):=by
 induction r with
 |nil=>exact .nil|@cons p q ps qs h t J=>exact .cons ⟨q.2.1,rfl,h.2.1⟩ J
theorem lT{R:α->β->Prop}{xs:ab α}{ys:ab β}(h:Paired R xs ys):Paired (λa b=>a∈xs/\R a b) xs ys:=by
 induction h with
 |nil=>exact .nil|cons h _ J=>exact .cons ⟨zze,h⟩ (eh J λa b z=>⟨zzb _ z.1,z.2⟩)
theorem wg(hc:X.calm=true):cr X (.builtin "sorted") (λxs H Q=>∃a g,xs=[.ref a]/\Rd H a (.dT g)/\(∀k∈g.map (·.1),pI k)/\(2<=g.length->∀k∈g.map (·.1),k≠[])/\g.length<64 /\
  ∀l bs,H l=none->Paired (rR H) (srtK (g.map (·.1))) bs->Q (.ref l) (upd H l (.lst bs))):=by
 intro j s σ H xs us Q I r h;obtain⟨a,g,rfl,e,hi,w,h64,q⟩:=h;obtain⟨u,rfl,E⟩:=eL r;cases E;obtain⟨z,lo,xs,rel,o,B,ep,g1,g2,g3,M,g5,g6⟩:=xL I.hok e;have A:B.size=xs.length:=zwc M;have hxl:g.length=xs.length:=zxg rel;refine Calls.call_function_entry kind_sorted plain_sorted entry_sorted (args_sorted1 _) ?_;refine zzd (zzt ?_);refine zzd (kdu_collect (DY lo B ep) (I.ok.hd hc) ⟨o,g1,g2,g3⟩ (by rw[zxl];lia) λh' tk J hk p=>?_);have L:J.toList=xs.map λx=>Value.ref x.2.1:=by
  apply List.ext_getElem?;intro i;rw[zxL];cases Y:xs[i]? with
  |none =>
   have N:xs.length<=i:=by simpa using Y
   rw[zzr,Y,Array.getElem?_eq_none (by rw[p.1];lia)];rfl
  |some x =>
   have N:i<xs.length:=(zzy.mp Y).1;obtain⟨v,T⟩:∃v,J[i]?=some v:=⟨J[i]'(by rw[p.1];lia),by simp[p.1,A,N]⟩;have m:(B[i]?).map (·.key)=some v:=p.2 i v T;rw[entry_at M i,Y]at m;rw[T,zzr,Y];simpa[entryOfKey]using m.symm
 rw[L];have y:Inv X j σ H {s with heap:=h',toks:=tk}:=I.kept hk;refine zzd (wpAny_newList ?_ (by rw[zza,zxl];lia));have U:(h'.push (seqObj "list" (xs.map λx=>Value.ref x.2.1).toArray 0)).get? h'.objs.size=some (seqObj "list" (xs.map λx=>Value.ref x.2.1).toArray 0):=zzE _ rfl;refine zzd (zyz (zyN slot_list_sort ⟨_,U,rfl⟩ entry_list_sort ?body (args_list_sort _)))
 case body =>
  have d:=DZ rel;refine pH U (eh (lT d) λk v z=>?_) (λm=>w (by simpa using m)) (by rw[zza];lia) λh4 G c kp ho hR=>?_
  ·obtain⟨hm,b,rfl,C⟩:=z;exact((y.kept λb o e=>zzm _ e).tupI (hi k hm) C)
  ·obtain⟨bs,n,p2⟩:=ye (hR _ d);have C:bs.length<=sizeLine:=by
    rw[←dJ n,(pG _).length_eq,zza];exact z
   exact⟨_,rfl,zzt ⟨_,rfl,.ref h'.objs.size,upd H h'.objs.size (.lst bs),y.laid (λb u e=>kp b u (zzL (zzD e)) (zzm _ e)) (zzq _) ⟨C,G,c,p2,ho⟩,rfl,q _ bs (y.hok.fresh (zzq _)) n⟩⟩
end
end L2
namespace PySem
section
variable{prog:ef}{w:World}{A:Around}{E:bb->bx->Prop}{s:bx}
set_option maxRecDepth 100000 in
set_option maxHeartbeats 3200000 in
theorem pJ{b:bn}{its:Array bb}{d:ab Int}{R:bb->bx->Prop}(h:A.handled=none)(G:s.heap.IsTuple b its)(L:PyProof.Rows.IntsAre its.toList d)(I:its.size+1<scanBound)
  (q:∀(a:cm) (l:Nat),a.SetOf (intKind prog w) s.heap.objs.size (λk=>(PyProof.Rows.firstMet (λi=>d.getD i 0) its.size).any (·==k)) (PyProof.Rows.firstMet (λi=>d.getD i 0) its.size).length ->
   (∀c o,c<s.heap.objs.size->s.heap.get? c=some o->a.get? c=some o)->R (.ref s.heap.objs.size) {s with heap:=a,toks:=l}):wpAny (model prog w) A (call (.type "set") [.ref b]) R E s:=by
 obtain⟨c,tl,hmro⟩:=F.called_set.mro;have hmade:=F.called_set.made;have hsub:=F.called_set.sub;refine wpAny_call (codeAny_of_tree ?_);show wpAny _ _ (callAny (.type "set") _) _ _ _;refine zzt ⟨Code.quiet_builtin _ (by decide +kernel),zwH F.entry_type_call ?_⟩;rw[Around.under_plain (weight_type_call_type "set" [.ref b] []) rfl];have n1:=F.called_set.notType;have n2:=F.called_set.canCreate;have n3:=F.typeCall_set_1 (.ref b)
 repeat (any_goals (first|assumption|wp_step))
 refine zxo (code_set_new_1 (.ref b) (E:=E) (Q₁:=λobj z=>∃J:Bool,obj=.ref s.heap.objs.size/\z={s with heap:=s.heap.push {cls:=.type "set",dict:=none,data:=.set #[] 0 (.fresh 0 0 J)} }) λJ=>⟨J,rfl,rfl⟩) λr z u=>?_;cases r with
 |error e=>exact u|ok fl =>
  cases fl with
  |ret obj =>
   obtain⟨J,rfl,rfl⟩:=u;have g1:(s.heap.push {cls:=.type "set",dict:=none,data:=.set #[] 0 (.fresh 0 0 J)}).get? s.heap.objs.size=some {cls:=.type "set",dict:=none,data:=.set #[] 0 (.fresh 0 0 J)}:=zzE _ rfl;have ty:Shared.TypeIs {s with heap:=s.heap.push {cls:=.type "set",dict:=none,data:=.set #[] 0 (.fresh 0 0 J)} } (.ref s.heap.objs.size) "set":=⟨_,g1,rfl⟩;have i1:=F.called_set.init.lookup;have i2:=F.called_set.init.bind (.ref s.heap.objs.size)
   repeat (any_goals (first|assumption|wp_step))
   refine zxo (codeAny_call_builtin (R:=wants (λr z=>r=.none/\∃a l,z={s with heap:=a,toks:=l} /\
     a.SetOf (intKind prog w) s.heap.objs.size (λk=>(PyProof.Rows.firstMet (λi=>d.getD i 0) its.size).any (·==k)) (PyProof.Rows.firstMet (λi=>d.getD i 0) its.size).length /\
     (∀c o,c<s.heap.objs.size->s.heap.get? c=some o->a.get? c=some o)) E) F.called_set.init.plain F.entry_set_init (check_set_init_1 ty ?_)) λr2 z2 Y=>?_
   ·have m:(s.heap.push {cls:=.type "set",dict:=none,data:=.set #[] 0 (.fresh 0 0 J)}).IsTuple b its:=by
     obtain⟨o,e,x⟩:=G;exact⟨o,zzm _ e,x⟩
    have g:b<s.heap.objs.size:=by obtain⟨o,e,x⟩:=G;exact zzD e
    obtain⟨o,e,B,n,C⟩:=id m;obtain⟨ocls,odict,odata,oslots⟩:=o;simp only at B C;subst B;subst C;have t1:=F.sub_tuple_set;have t2:=F.sub_tuple_frozenset;have t3:(Value.type "tuple"==Value.type "dict")=false:=by decide
    unfold Builtin.«set.__init__» noKeywords Builtin.Frozenset.updateFrom;generalize N:pyIter=PI
    wp_walk
    subst N;refine zxc m ?_;refine zzd (wpAny_runValue ?_);have U:A.in1.in1.in1.handled=none:=by simp[h]
    have ne:b≠(s.heap.push {cls:=.type "set",dict:=none,data:=.set #[] 0 (.fresh 0 0 J)}).objs.size:=by rw[zyw];exact zzL (zxk g)
    have off:s.heap.objs.size∉[(s.heap.push {cls:=.type "set",dict:=none,data:=.set #[] 0 (.fresh 0 0 J)}).objs.size,b]:=by rw[zyw];simp only[zzi,zzG,zzW,zyD,not_or];exact⟨zzL (zxn _),Nat.ne_of_gt g⟩
    have val:∀(i:Nat) (v:bb),its[i]?=some v->∃t,v=.int ((λi=>d.getD i 0) i) t:=λi v hv=>PyProof.Rows.IntsAre.int_at L i v (by rw[zxL];exact hv);refine PyProof.Rows.codeAny_set_update_loopS ((Walks.tuple U _ b ne its).toS) s.heap.objs.size off (λi=>d.getD i 0) val I (its.size - 0) 0 _ (by lia) (zzM _) ⟨⟨_,zzE _ rfl,rfl,rfl⟩,?_⟩ ?s0 ?r0
    ·obtain⟨o,e,x⟩:=m;exact⟨o,zzm _ e,x⟩
    case s0 =>
     have H:((s.heap.push {cls:=.type "set",dict:=none,data:=.set #[] 0 (.fresh 0 0 J)}).push {cls:=.type "tuple_iterator",data:=.fields #[.ref b,.int 0 0]}).get? s.heap.objs.size
       = some {cls:=.type "set",dict:=none,data:=.set #[] 0 (.fresh 0 0 J)}:=zzm _ g1
     exact PyProof.Rows.SetOf_congr ((PyProof.Rows.setObjOf_fresh (knd:=intKind prog w) J).setOf H (by unfold scanBound;lia)) (λ_=>rfl) rfl
    case r0 =>
     intro z j p;obtain⟨a,g',d',b0,T⟩:=z;have eg:g'=s.gens:=j.gens;have ed:d'=s.drawn:=j.drawn;have eo:T=s.os:=j.os;subst eg;subst ed;subst eo;show wpAny _ _ _ _ _ _;refine zzt ?_;show wpAny _ _ (ret Value.none) _ _ _;refine zzt ⟨rfl,a,b0,rfl,p,λc o y e=>?_⟩;have Q:c≠(s.heap.push {cls:=.type "set",dict:=none,data:=.set #[] 0 (.fresh 0 0 J)}).objs.size:=by rw[zyw];exact zzL (zxk y)
     exact j.heap c o (by simp only[zzi,zzG,zzW,zyD,not_or];exact⟨zzL y,Q⟩) (zzm _ (zzm _ e))
   ·cases r2 with
    |error e=>exact Y|ok M =>
     cases M with
     |ret r =>
      obtain⟨rfl,a,l,rfl,p,hk⟩:=Y
      repeat (any_goals (first|assumption|wp_step))
      exact q _ _ p hk
     |_=>exact Y.elim
  |_=>exact u.elim
end
end PySem
namespace L2
open PySem PySem.Spec PyProof.Rows
section
variable{X:Cx}
noncomputable def wj(ns:ab Int):Nat:=(firstMet (λi=>ns.getD i 0) ns.length).length
theorem lU:∀{b:ab Int} {a:ab bb},Vals (b.map V.int) a->IntsAre a b
 |[],a,h=>by cases h;exact .nil
 |n::r,a,h=>by
  cases h with
  |cons c d =>
   obtain⟨t,rfl⟩:=(show ∃t,_=Value.int n t from c);exact .cons _ _ (lU d)
theorem yf(m:X.calm=true):cr X (.type "set") (λxs H Q=>∃b a,xs=[.ref b]/\H b=some (.tup (a.map V.int))/\a.length<=1000/\∀l S,H l=none->Q (.ref l) (upd H l (.set S (wj a)))):=by
 intro pins s σ H xs us Q I r h;obtain⟨b,a,rfl,e,hl,q⟩:=h;obtain⟨u,rfl,Y⟩:=eL r;cases Y;obtain⟨_,c,U,o,d,g,n,j⟩:=(show ObjOk X.prog X.w H s.heap b (.tup (a.map V.int)) from I.hok b _ e);have J:c.length=a.length:=by have:=U.length;simpa using this.symm
 refine pJ (I.ok.hd m) ⟨o,d,g,n,j⟩ (by rw[zxY];exact lU U) (by rw[zzB,J];unfold scanBound;lia) λh' tk L p=>?_;have v:c.toArray.size=a.length:=by rw[zzB,J]
 rw[v]at L;exact⟨.ref s.heap.objs.size,_,I.laid (o:=.set (λk=>(firstMet (λi=>a.getD i 0) a.length).any (·==k)) (wj a)) (λb o e=>p b o (zzD e) e) (zzq _) L,rfl,q _ _ (I.hok.fresh (zzq _))⟩
theorem yg:cr X (.builtin "len") (λxs H Q=>∃p S n,xs=[.ref p]/\H p=some (.set S n)/\Q (.int n) H):=by intro pins s σ H xs us Q I r h;obtain⟨p,S,n,rfl,e,q⟩:=h;obtain⟨u,rfl,J⟩:=eL r;cases J;obtain⟨o,es,ep,t,g1,g2,g3,_,_,L,U,Y⟩:=(show ObjOk X.prog X.w H s.heap p (.set S n) from I.hok p _ e);refine call_len_set g1 g2 g3 U (by unfold scanBound at L;lia) ?_;rw[Y];exact⟨.int n,H,I.tok _,⟨_,rfl⟩,q⟩
theorem rS{a:ab Int}(h:a.Nodup):wj a=a.length:=by
 have key:∀i,i<=a.length->(firstMet (λi=>a.getD i 0) i).length=i:=by
  intro i
  induction i with
  |zero=>intro _;rfl|succ i b =>
   intro hi;rw[firstMet_succ,step_length,firstMet_any,zzh,b (by lia)];intro Y;obtain⟨x,U,e⟩:=zyq.mp Y;obtain⟨j,L,rfl⟩:=zzf.mp U;have L:=zyo.mp L;have J:j<a.length:=by lia
   have e:a[j]=a[i]:=by simpa[J,show i<a.length by lia]using e
   have:=(zxR h).mp e;lia
 exact key _ (zzq _)
end
end L2
namespace L2
open PySem PySem.Spec PyProof.Rows PySem.W
variable{i n:Nat}
theorem dL{α a:Type}(c:Nat->Nat->Bool)(f:α->KasT a):∀t:KasT α,kRun c (t.bind f)=kRun c (f (kRun c t))
 |.ret _=>rfl|.ask i j k=>dL c f (k (c i j))
structure StrO(N:Nat)(c:Nat->Nat->Bool):Prop where
 tr:∀i j k,i<N->j<N->k<N->c i j=true->c j k=true->c i k=true
 as:∀i j,i<N->j<N->c i j=true->c j i=false
 to:∀i j,i<N->j<N->i≠j->c i j=false->c j i=true
section
variable{N:Nat}{c:Nat->Nat->Bool}{p:Array Nat}
theorem PmN.size(h:PmN N p):p.size=N:=by have:=h.length_eq;simpa using this
theorem PmN.ne(h:PmN N p)(a:i<N)(J:n<N)(e:i≠n):p.getD i 0≠p.getD n 0:=by
 have b:p.toList.Nodup:=h.nodup_iff.mpr List.nodup_range;have s:=h.size;have L:p.getD i 0=p.toList[i]'(by simpa[s]using a):=by simp[Array.getD,s,a]
 have U:p.getD n 0=p.toList[n]'(by simpa[s]using J):=by simp[Array.getD,s,J]
 rw[L,U];intro z;exact e ((zxR b).mp z)
def Asc(c:Nat->Nat->Bool)(p:Array Nat)(n:Nat):Prop:=∀i j,i<j->j<n->c (p.getD i 0) (p.getD j 0)=true
def Dsc(c:Nat->Nat->Bool)(p:Array Nat)(n:Nat):Prop:=∀i j,i<j->j<n->c (p.getD j 0) (p.getD i 0)=true
theorem Asc.step(O:StrO N c)(h:PmN N p)(hn:1<=n)(L:n<N)(a:Asc c p n)(e:c (p.getD n 0) (p.getD (n - 1) 0)=false):Asc c p (n+1):=by
 have h0:0<N:=by lia
 have last:c (p.getD (n - 1) 0) (p.getD n 0)=true:=O.to _ _ (h.lt h0 _) (h.lt h0 _) (h.ne L (by lia) (by lia)) e;intro i j J hj;by_cases z:j=n
 ·subst z;by_cases y:i=j - 1
  ·subst y;exact last
  ·exact O.tr _ _ _ (h.lt h0 _) (h.lt h0 _) (h.lt h0 _) (a i (j - 1) (by lia) (by lia)) last
 ·exact a i j J (by lia)
theorem Dsc.step(O:StrO N c)(h:PmN N p)(hn:1<=n)(hN:n<N)(a:Dsc c p n)(last:c (p.getD n 0) (p.getD (n - 1) 0)=true):Dsc c p (n+1):=by
 have h0:0<N:=by lia
 intro i j J hj;by_cases z:j=n
 ·subst z;by_cases y:i=j - 1
  ·subst y;exact last
  ·exact O.tr _ _ _ (h.lt h0 _) (h.lt h0 _) (h.lt h0 _) last (a i (j - 1) (by lia) (by lia))
 ·exact a i j J (by lia)
theorem rT(O:StrO N c)(h:PmN N p):∀(f n:Nat),1<=n->n+f<=N->Asc c p n->Asc c p (kRun c (kas_asc p f n))/\n<=kRun c (kas_asc p f n)/\kRun c (kas_asc p f n)<=n+f/\(kRun c (kas_asc p f n)=n+f∨c (p.getD (kRun c (kas_asc p f n)) 0) (p.getD (kRun c (kas_asc p f n) - 1) 0)=true)
 |0,n,_,_,a=>⟨a,zzq _,zzq _,.inl rfl⟩|f+1,n,d,hN,a=>by
  have L:kRun c (kas_asc p (f+1) n)=kRun c (if c (p.getD n 0) (p.getD (n - 1) 0)=true then .ret n else kas_asc p f (n+1)):=rfl;cases e:c (p.getD n 0) (p.getD (n - 1) 0) with
  |true =>
   rw[L,zzk e];exact⟨a,zzq _,by show n<=_;lia,.inr e⟩
  |false =>
   rw[L,zzh (by rw[e];intro z;cases z)];obtain⟨b,b2,b3,J⟩:=rT O h f (n+1) (by lia) (by lia) (a.step O h d (by lia) e);refine⟨b,by lia,by lia,?_⟩;rcases J with J|J
   ·exact .inl (by lia)
   ·exact .inr J
theorem uA(O:StrO N c)(h:PmN N p):∀(f n:Nat),1<=n->n+f<=N->Dsc c p n->∃m,kRun c (kas_desc f p n 0)=(p,m,0)/\Dsc c p m/\n<=m/\m<=n+f
 |0,n,_,_,a=>⟨n,rfl,a,zzq _,zzq _⟩|f+1,n,g,hN,a=>by
  have h0:0<N:=by lia
  have L:kRun c (kas_desc (f+1) p n 0)=kRun c (if c (p.getD n 0) (p.getD (n - 1) 0)=true then(if 0>0 then kas_desc f (kas_rev p (n - (0+1)) n) (n+1) 0 else kas_desc f p (n+1) 0)
   else .ask (p.getD (n - 1) 0) (p.getD n 0) λd=>if d=true then .ret (p,n,0) else kas_desc f p (n+1) (0+1)):=rfl
  rw[L];cases e:c (p.getD n 0) (p.getD (n - 1) 0) with
  |true =>
   obtain⟨m,b,J,b3,b4⟩:=uA O h f (n+1) (by lia) (by lia) (a.step O h g (by lia) e);exact⟨m,b,J,by lia,by lia⟩
  |false =>
   rw[zzh (by intro z;cases z)];have last:c (p.getD (n - 1) 0) (p.getD n 0)=true:=O.to _ _ (h.lt h0 _) (h.lt h0 _) (h.ne (by lia) (by lia) (by lia)) e;have U:kRun c (.ask (p.getD (n - 1) 0) (p.getD n 0) λd=>if d=true then .ret (p,n,0) else kas_desc f p (n+1) (0+1))=kRun c (if c (p.getD (n - 1) 0) (p.getD n 0)=true then .ret (p,n,0) else kas_desc f p (n+1) (0+1)):=rfl;rw[U,zzk last];exact⟨n,rfl,a,zzq _,by lia⟩
theorem yh{p:Array Nat}{a b:Nat}(k:a<p.size)(J:b<p.size)(i:Nat):(p.swapIfInBounds a b).getD i 0=if i=a then p.getD b 0 else if i=b then p.getD a 0 else p.getD i 0:=by
 have e:∀(q:Array Nat) (j:Nat),q.getD j 0=(q[j]?).getD 0:=λq j=>by by_cases h:j<q.size<;>simp[Array.getD,h]
 rw[e,e,e,e,Array.swapIfInBounds_def,dif_pos k,dif_pos J,Array.getElem?_swap];by_cases g:i=a
 ·subst g;by_cases d:i=b
  ·subst d;simp[J]
  ·simp[d,J,Ne.symm d]
 ·by_cases d:i=b
  ·subst d;simp[g,k,J]
  ·simp[g,d,Ne.symm g,Ne.symm d]
theorem uB{p:Array Nat}{k:Nat}(J:k<p.size):∀(d:Nat),d<=k->∀i,(bubble p k d).getD i 0=if i=k - d then p.getD k 0 else if k - d<i/\i<=k then p.getD (i - 1) 0 else p.getD i 0
 |0,_,i=>by
  show p.getD i 0=_;by_cases h:i=k
  ·subst h;simp
  ·rw[zzh (by lia),zzh (by lia)]
 |d+1,hd,i=>by
  rw[bubble_succ,yh (by rw[bubble_size];lia) (by rw[bubble_size];lia),uB J d (by lia),uB J d (by lia),uB J d (by lia)];by_cases a:i=k - d
  ·rw[zzk a,zzh (by lia),zzh (by lia),zzh (by lia),zzk (by lia),show k - d - 1=i - 1 by lia]
  ·rw[zzh a];by_cases b:i=k - d - 1
   ·rw[zzk b,zzk rfl,zzk (by lia)]
   ·rw[zzh b,zzh a,zzh (show ¬i=k - (d+1) by lia)];by_cases e:k - d<i/\i<=k
    ·rw[zzk e,zzk (by lia)]
    ·rw[zzh e,zzh (by lia)]
theorem uC{p:Array Nat}{n:Nat}(a:n<=p.size):∀(d:Nat),d<=n / 2->∀i,(mirror p 0 n d).getD i 0=if i<d∨(n - d<=i/\i<n) then p.getD (n - 1 - i) 0 else p.getD i 0
 |0,_,i=>by show p.getD i 0=_;rw[zzh (by lia)]
 |d+1,hd,i=>by
  rw[mirror_succ,yh (by rw[mirror_size];lia) (by rw[mirror_size];lia),uC a d (by lia),uC a d (by lia),uC a d (by lia)];by_cases b:i=0+d
  ·rw[zzk b,zzh (by lia),zzk (by lia),show n - 1 - d=n - 1 - i by lia]
  ·rw[zzh b];by_cases e:i=n - 1 - d
   ·rw[zzk e,zzh (by lia),zzk (by lia),show n - 1 - i=0+d by lia]
   ·rw[zzh e];by_cases g:i<d∨(n - d<=i/\i<n)
    ·rw[zzk g,zzk (by lia)]
    ·rw[zzh g,zzh (by lia)]
theorem Ch{p:Array Nat}(b:n<=p.size)(i:Nat):(kas_rev p 0 n).getD i 0=if i<n then p.getD (n - 1 - i) 0 else p.getD i 0:=by
 unfold kas_rev;rw[uC b _ (by lia)];by_cases h:i<(n - 0) / 2∨(n - (n - 0) / 2<=i/\i<n)
 ·rw[zzk h,zzk (by lia)]
 ·rw[zzh h];by_cases a:i<n
  ·rw[zzk a,show n - 1 - i=i by lia]
  ·rw[zzh a]
theorem Dsc.rev(h:PmN N p)(hn:n<=N)(a:Dsc c p n):Asc c (kas_rev p 0 n) n:=by intro i j hij J;have s:=h.size;rw[Ch (by lia),Ch (by lia),zzk (by lia),zzk J];exact a _ _ (by lia) (by lia)
theorem yi(O:StrO N c)(h:PmN N p)(h2:2<=N):Asc c (kRun c (kas_count N p)).2 (kRun c (kas_count N p)).1/\1<=(kRun c (kas_count N p)).1/\(kRun c (kas_count N p)).1<=N:=by
 obtain⟨a1,a2,a3,J⟩:=rT O h (N - 1) 1 (zzq _) (by lia) (λi j L l=>by lia);unfold kas_count;rw[dL];generalize kRun c (kas_asc p (N - 1) 1)=n at a1 a2 a3 J;by_cases U:(n==N)=true
 ·rw[zzk U];exact⟨a1,a2,by show n<=N;lia⟩
 ·rw[zzh U];by_cases Y:n>1
  ·rw[zzk Y];have k:kRun c (.ask (p.getD 0 0) (p.getD (n - 1) 0) λb=>if b=true then .ret (n,p) else kas_descPart n N (kas_rev p 0 n))=kRun c (if c (p.getD 0 0) (p.getD (n - 1) 0)=true then .ret (n,p) else kas_descPart n N (kas_rev p 0 n)):=rfl;rw[k,zzk (a1 0 (n - 1) (by lia) (by lia))];exact⟨a1,a2,by show n<=N;lia⟩
  ·rw[zzh Y];have q:n=1:=by lia
   subst q;have last:c (p.getD 1 0) (p.getD (1 - 1) 0)=true:=by
    rcases J with J|J
    ·exact absurd J (by lia)
    ·exact J
   have g:Dsc c p (1+1):=Dsc.step O h (zzq _) (by lia) (λi j L l=>by lia) last;unfold kas_descPart;rw[dL];obtain⟨m,a,d,b3,b4⟩:=uA O h (N - (1+1)) (1+1) (by lia) (by lia) g;rw[a];rw[zzh (by lia)];have o:m<=N:=by lia
   unfold kas_tail3;rw[dL];obtain⟨e,c2,c3,_⟩:=rT O (h.rev 0 m) (N - m) m (by lia) (by lia) (d.rev h o);exact⟨e,by show 1<=kRun c _;lia,by show kRun c _<=N;lia⟩
theorem jQ(O:StrO N c)(h:PmN N p){k:Nat}(U:k<N)(a:Asc c p k):∀(f l r:Nat),r - l<=f->l<=r->r<=k->(∀i,i<l->c (p.getD i 0) (p.getD k 0)=true)->(∀i,r<=i->i<k->c (p.getD k 0) (p.getD i 0)=true) ->
  (kRun c (kas_place p k f l r)<=k/\(∀i,i<kRun c (kas_place p k f l r)->c (p.getD i 0) (p.getD k 0)=true)/\∀i,kRun c (kas_place p k f l r)<=i->i<k->c (p.getD k 0) (p.getD i 0)=true)
 |0,l,r,o,Y,J,d,g=>by
  have:l=r:=by lia
  subst this;exact⟨J,d,g⟩
 |f+1,l,r,o,Y,J,d,g=>by
  have h0:0<N:=by lia
  unfold kas_place;by_cases e:l ≥ r
  ·rw[zzk e];have:l=r:=by lia
   subst this;exact⟨J,d,g⟩
  ·rw[zzh e];have m:∀(t u:KasT Nat),kRun c (.ask (p.getD k 0) (p.getD ((l+r) / 2) 0) λb=>if b=true then t else u)=kRun c (if c (p.getD k 0) (p.getD ((l+r) / 2) 0)=true then t else u):=λ_ _=>rfl;rw[m];cases z:c (p.getD k 0) (p.getD ((l+r) / 2) 0) with
   |true =>
    refine jQ O h U a f l ((l+r) / 2) (by lia) (by lia) (by lia) d λi q L=>?_;by_cases y:i=(l+r) / 2
    ·rw[y];exact z
    ·exact O.tr _ _ _ (h.lt h0 _) (h.lt h0 _) (h.lt h0 _) z (a _ _ (by lia) L)
   |false =>
    have j:c (p.getD ((l+r) / 2) 0) (p.getD k 0)=true:=O.to _ _ (h.lt h0 _) (h.lt h0 _) (h.ne U (by lia) (by lia)) z;refine jQ O h U a f ((l+r) / 2+1) r (by lia) (by lia) J (λi q=>?_) g;by_cases y:i=(l+r) / 2
    ·rw[y];exact j
    ·exact O.tr _ _ _ (h.lt h0 _) (h.lt h0 _) (h.lt h0 _) (a i _ (by lia) (by lia)) j
theorem Asc.bub(h:PmN N p){k l:Nat}(hk:k<N)(a:Asc c p k)(hl:l<=k)(g:∀i,i<l->c (p.getD i 0) (p.getD k 0)=true)(m:∀i,l<=i->i<k->c (p.getD k 0) (p.getD i 0)=true):Asc c (bubble p k (k - l)) (k+1):=by
 intro i j J hj;have s:=h.size;have e:=uB (p:=p) (k:=k) (by lia) (k - l) (by lia);have Y:k - (k - l)=l:=by lia
 rw[e i,e j,Y];by_cases b:i=l
 ·rw[zzk b,zzh (by lia),zzk (by lia)];exact m (j - 1) (by lia) (by lia)
 ·rw[zzh b];by_cases L:j=l
  ·rw[zzk L,zzh (by lia)];exact g i (by lia)
  ·rw[zzh L];by_cases d:l<i/\i<=k
   ·rw[zzk d,zzk (by lia)];exact a _ _ (by lia) (by lia)
   ·rw[zzh d];by_cases U:l<j/\j<=k
    ·rw[zzk U];exact a _ _ (by lia) (by lia)
    ·rw[zzh U];exact a _ _ J (by lia)
theorem yj(O:StrO N c):∀(f:Nat) (p:Array Nat) (k:Nat),PmN N p->1<=k->k+f=N->Asc c p k->Asc c (kRun c (kas_bin f p k)) N
 |0,p,k,h,_,e,a=>by
  have:k=N:=by lia
  subst this;exact a
 |f+1,p,k,h,hk,e,a=>by unfold kas_bin;rw[dL];obtain⟨b,J,L⟩:=jQ O h (by lia) a k 0 k (by lia) (by lia) (zzq _) (λi d=>by lia) (λi d hik=>by lia);exact yj O f _ (k+1) (h.bub _ _) (by lia) (by lia) (a.bub h (by lia) b J L)
theorem AO(O:StrO N c)(a:2<=N):Asc c (kRun c (kas_sort N)) N:=by
 have J:PmN N (List.toArray (List.range N)):=by unfold PmN;rw[zxY]
 unfold kas_sort;rw[dL];obtain⟨a1,a2,a3⟩:=yi O J a;have pm:=KGood.end c _ (lS (by lia) J N);generalize kRun c (kas_count N (List.toArray (List.range N)))=r at a1 a2 a3 pm;by_cases e:r.1<N
 ·rw[zzk e];have em:max r.1 1=r.1:=by lia
  rw[em];exact yj O _ _ _ pm a2 (by lia) a1
 ·rw[zzh e];have:r.1=N:=by lia
  rw[this]at a1;exact a1
end
end L2
namespace L2
open PySem PySem.Spec PyProof.Rows
variable{Q:bb->bx->Prop}{b it:bn}{i:Nat}{p pos tp:Pos}{xs:Array bb}
variable{prog:ef}{w:World}{A:Around}{E:bb->bx->Prop}{s:bx}{X:Cx}
theorem jR{v:bb}(e:s.heap.IsTupleIter it b i)(g:s.heap.IsTuple b xs)(h:xs[i]?=some v)(q:∀d,d.IsTupleIter it b (i+1)->Heap.SameBut it s.heap d->Q v {s with heap:=d}):wpAny (model prog w) A (Builtin.SmallTypes.nextOf (.ref it)) Q E s:=by obtain⟨ob,c,j,a⟩:=id e;obtain⟨ot,J,_,nt,L⟩:=g;refine zzd (wpAny_callSpecial?_slot e.typeIs F.slot_tuple_iterator_next (zyN F.slot_tuple_iterator_next e.typeIs F.entry_tuple_iterator_next ?_ (F.args_tuple_iterator_next_1 _)));refine(show wpAny _ _ (field (.ref it) 0 >>= _) _ _ s from zzd (zxW c a rfl ?_));refine(show wpAny _ _ (if (Value.ref b==Value.none)=true then _ else _) _ _ s from ?_);refine(show wpAny _ _ (field (.ref it) 1 >>= _) _ _ s from zzd (zxW c a rfl ?_));refine(show wpAny _ _ (seqItems? (.ref b) >>= _) _ _ s from zzd (wpAny_seqItems J L ?_));simp only[zzC,h];refine zzd (zwP c a (by simp) (zzt ⟨v,rfl,zzt (q _ ⟨_,zxJ _ c (Obj.isFreed_of_fields (Obj.data_mapFields a _)),(Obj.cls_mapFields ..).trans j,by rw[Obj.data_mapFields a];simp[rawInt]⟩ (zyt ..))⟩))
theorem fM(h:A.handled=none)(c:s.heap.IsTupleIter it b i)(j:s.heap.IsTuple b xs)(k:xs[i]?=none)(q:∀a e,Heap.ExtBut it s.heap a->(∃o,a.get? e=some o/\o.cls=.type "StopIteration")->E (.ref e) {s with heap:=a}):wpAny (model prog w) A (Builtin.SmallTypes.nextOf (.ref it)) Q E s:=by obtain⟨ob,d,oc,g⟩:=id c;obtain⟨ot,J,_,nt,L⟩:=j;refine zzd (wpAny_callSpecial?_slot c.typeIs F.slot_tuple_iterator_next (zyN F.slot_tuple_iterator_next c.typeIs F.entry_tuple_iterator_next ?_ (F.args_tuple_iterator_next_1 _)));refine(show wpAny _ _ (field (.ref it) 0 >>= _) _ _ s from zzd (zxW d g rfl ?_));refine(show wpAny _ _ (if (Value.ref b==Value.none)=true then _ else _) _ _ s from ?_);refine(show wpAny _ _ (field (.ref it) 1 >>= _) _ _ s from zzd (zxW d g rfl ?_));refine(show wpAny _ _ (seqItems? (.ref b) >>= _) _ _ s from zzd (wpAny_seqItems J L ?_));simp only[zzC,k];refine zzd (wpAny_rule (zzd (zwP d g (by simp) ?_)));refine(show wpAny _ _ (newExc (.type "StopIteration") [] >>= _) _ _ _ from zzd ?_);refine zzd (zyv (zzd (wpAny_of_eq (by first|rfl|(simp only[firstArgMember];rfl)) (zyv ?_ (by size_fits)))) (by size_fits));simp only[raiseNew];refine zzd (wpAny_handled ?_);(first|rw[show A.in1.handled=none from h]|rw[h]);refine zzd (zzt (wpAny_throw ?_));exact q _ _ (((zyt ..).extBut.push _).push _) ⟨_,zzE _ rfl,rfl⟩
theorem AQ{vs ws:ab bb}(j:IsTup s.heap it vs.toArray)(e:IsTup s.heap b ws.toArray)(k:vs=[])(h:Q (.ref b) s):wpAny (model prog w) A (binaryOp .Add (.ref it) (.ref b)) Q E s:=by
 obtain⟨⟨cls,d,data,m⟩,a,g,n,hd⟩:=id j;obtain⟨⟨cls2,L,data2,c⟩,J,U,l,Y⟩:=id e;subst g hd U Y;exact concat_meets ⟨_,a,rfl⟩ ⟨_,J,rfl⟩ noFill_tuple_add seq_tuple_add zwt zwl (zwj _ _)
   (tuple_addW0 it b vs.toArray ws.toArray n l d L m c (by simp[k])) ⟨a,J,h⟩
def GP(K:zwW):R2:=λx y H Q=>∃a b c,x=.ref a/\y=.ref b/\SqT K H a []/\SqT K H b c/\Q (.ref b) H
theorem Ea:OpR X (binaryOp .Add) (λx y H Q=>Gp X.K x y H Q∨GP X.K x y H Q):=by
 intro c s j H x y v u Q I J L h;rcases h with h|h
 ·exact xH c s j H x y v u Q I J L h
 ·obtain⟨a,b,ys,rfl,rfl,d,U,q⟩:=h;cases J;cases L;obtain⟨its,Y,e,_⟩:=I.tuple d;obtain⟨its2,r2,g,_⟩:=I.tuple U;exact AQ e g (Y.nil_iff.mpr rfl) ⟨.ref b,H,I,rfl,q⟩
open AutoSeq1 (wpAny_loadPart')
noncomputable abbrev yk(t:bn):Obj:={cls:=.type "tuple_iterator",data:=.fields #[.ref t,.int 0 0]}
noncomputable abbrev Eb(it:bn):Obj:={cls:=.type "enumerate",data:=.fields #[.none,.bool false,.ref it,rawInt 0,.none,.none]}
set_option maxHeartbeats 1000000 in
theorem ym(t:bn)(xs:Array bb)(n:Nat)(L:ca bn)(a:Array (ca bb)) :
  Meets (Builtin.«enumerate.__new__» ⟨[.type "enumerate",.ref t],[]⟩) (λ_ R s=>s.heap.get? t=some ⟨.type "tuple",L,.seq xs n,a⟩/\R (.ok (.ret (.ref (s.heap.push (yk t)).objs.size))) {s with heap:=(s.heap.push (yk t)).push (Eb s.heap.objs.size)}):=by
 refine .of_wp λprog w A R s ⟨J,q⟩=>?_;obtain⟨U,g,d,e,os⟩:=s;have hs:=sub_enumerate;have it:Heap.IsTuple (Shared.heap ⟨U,g,d,e,os⟩) t xs:=⟨_,J,rfl,n,rfl⟩
 wp_walk using wpAny_loadPart' J
 refine wpAny_stack_any (λσs=>zzt ?_);split
 ·rename_i c _ _ _ _ _;rcases hcc:(c==Value.type "enumerate") with _|_
  ·(wp_walk using wpAny_loadPart' J,zxc it);exact⟨_,rfl,q⟩
  ·(wp_walk using wpAny_loadPart' J,zxc it);exact⟨_,rfl,q⟩
 ·(wp_walk using wpAny_loadPart' J,zxc it);exact⟨_,rfl,q⟩
theorem AR(L:IsTup s.heap it xs)(q:∀a,IsEnum a (s.heap.objs.size+1) s.heap.objs.size 0 .none->a.IsTupleIter s.heap.objs.size it 0->(∀b o,s.heap.get? b=some o->a.get? b=some o)->Q (.ref (s.heap.objs.size+1)) {s with heap:=a}) :
  wpAny (model prog w) A (call (.type "enumerate") [.ref it]) Q E s:=by
 obtain⟨⟨cl,J,da,h⟩,c,d,n,g⟩:=L;subst d g;have z:(s.heap.push (yk it)).objs.size=s.heap.objs.size+1:=zyw ..;refine callType_new F.called_enumerate (by decide) (F.typeCall_enumerate_1 _) (F.newCall_enumerate_1 _) (λo=>F.args_object_init_2 o _) F.entry_enumerate_new (ym it xs n J h) ⟨c,?_⟩;have e:IsEnum ((s.heap.push (yk it)).push (Eb s.heap.objs.size)) (s.heap.objs.size+1) s.heap.objs.size 0 .none:=by have:=zzE (s.heap.push (yk it)) (o:=Eb s.heap.objs.size) rfl;rwa [z]at this
 rw[z];exact⟨⟨_,e,rfl⟩,q _ e ⟨_,zzm _ (zzE _ rfl),rfl,rfl⟩ λb o x=>zzm _ (zzm _ x)⟩
theorem yn(d:A.handled=none)(it t:bn)(ne:t≠it)(xs:Array bb):Draws prog w A it [it,t] xs.size (λi v=>xs[i]?=some v) (λi h=>h.IsTupleIter it t i/\h.IsTuple t xs):=by
 refine⟨λi h x=>?_,λi h a x k=>?_,λi s Q E c x q=>?_,λs Q E x q=>fM d x.1 x.2 (by simp) q⟩
 ·obtain⟨⟨o,e,_⟩,_⟩:=x;exact⟨o,e⟩
 ·obtain⟨⟨o,e,r⟩,L,Y,g⟩:=x;exact⟨⟨o,k it (by simp) o e,r⟩,L,k t (by simp) L Y,g⟩
 ·refine jR x.1 x.2 (v:=xs[i]) (by simp[c]) λa J U=>?_;exact q _ a s.toks (by simp[c]) ⟨J,x.2.extBut U.extBut ne⟩ U
theorem yo(a:A.handled=none)(it t:bn)(Y:xs[i]?=none):Draws prog w A it [it,t] 0 (λ_ _=>False) (λ_ h=>h.IsTupleIter it t i/\h.IsTuple t xs):=by
 refine⟨λj h x=>?_,λj h h' x k=>?_,λj s Q E U _ _=>absurd U (zxx _),λs Q E x q=>fM a x.1 x.2 Y q⟩
 ·obtain⟨⟨o,e,_⟩,_⟩:=x;exact⟨o,e⟩
 ·obtain⟨⟨o,e,r⟩,J,L,c⟩:=x;exact⟨⟨o,k it (by simp) o e,r⟩,J,k t (by simp) J L,c⟩
noncomputable def IteT(K:zwW)(a:bn):It :=
 ⟨λi H=>∃xs x,SqT K H a xs/\xs[i]?=some x,λi H x c=>∃T y,H T=none/\x=.ref T/\(∀xs,SqT K H a xs->xs[i]?=some y)/\c=upd H T (.tup [.int i,y]),λi H=>∃xs,SqT K H a xs/\xs.length<=i⟩
theorem yp{h:cm}{a:bn}{o:Obj}{n:String}(d:IsTup h a xs)(j:h.get? b=some o)(J:o.cls=.type n)(g:n ≠ "tuple"):a≠b:=by rintro rfl;obtain⟨o',e,c,_⟩:=d;rw[j]at e;cases e;rw[J]at c;cases c;exact g rfl
theorem wm{P:ef}{w:World}{K:zwW}{L:ab dy}{k:Nat}(a e it:bn)(a0:e≠it):Turn P w K (.Tuple L k tp) (IteT K a) [e,it] e (λi h=>(∃old,IsEnum h e it i old)/\h.IsTupleIter it a i) where
 mem:=by simp
 obj:=λi h st b J=>by
  obtain⟨⟨old,g⟩,ho⟩:=st;rcases zzi.mp J with rfl|J
  ·exact⟨_,g,λv z=>by have z':Data.fields _=Data.cell v:=z;cases z'⟩
  ·have:b=it:=by simpa using J
   subst this;obtain⟨o,Y,c,d⟩:=ho;exact⟨o,Y,λv z=>by rw[d]at z;cases z⟩
 keep:=λi h h' st k=>by obtain⟨⟨old,g⟩,o,Y,r⟩:=st;exact⟨⟨old,k e (by simp) _ g⟩,o,k it (by simp) o Y,r⟩
 item:=by
  intro X m N C G i l s σ H E I n st M;subst m N C;obtain⟨xs,x,y,Q⟩:=M;obtain⟨j,rv,p,hz⟩:=I.tuple y;obtain⟨u,hu,ru⟩:=rv.get Q;obtain⟨⟨old,g⟩,hit⟩:=st;have b0:a≠e:=yp p g rfl (by decide);have b1:a≠it:=by obtain⟨o,Y,c,d⟩:=id hit;exact yp p Y c (by decide)
  have W:=WalksT.enumerateD (prog:=X.prog) (w:=X.w) (yn (A:=X.A.in1) (I.ok.hd G) it a b1 j.toArray) e a0 (by simp[a0,Ne.symm b0]) (by simp);have hi:i<j.toArray.size:=by have:=(zzy.mp hu).1;simpa using this
  refine W.item i s _ _ hi ⟨⟨old,g⟩,hit,p⟩ λT vals B tk m hT a9 U hk=>?_;obtain⟨t,z,a5,rfl⟩:=m;have a8:z=u:=by
   have:j.toArray[i]?=some u:=by simpa using hu
   rw[this]at a5;cases a5;rfl
  subst a8;have ap:=W.apart i T B U;refine⟨_,rfl,W.go L k tp i T {s with heap:=B,toks:=tk} _ _ U λh2 b3 a4=>?_⟩;obtain⟨a6,a7,_⟩:=b3;have I2:Inv X l σ (upd H T (.tup [.int i,x])) {s with heap:=h2,toks:=tk}:=by
   refine I.turnedN n (λb o J q=>a4 b o J (hk b o J q)) hT ⟨?_,[.int i t,z],.cons ⟨t,rfl⟩ (.cons ru .nil),?_⟩
   ·show 2<=sizeLine;decide
   ·obtain⟨o,Y,r⟩:=a9;exact⟨o,a4 T o ap Y,r⟩
  refine⟨.ref T,_,I2,rfl,⟨T,x,I.hok.fresh hT,rfl,λys hy=>by rw[I.tuple_inj hy y];exact Q,rfl⟩,⟨by simpa using a6,a7⟩,λb J=>?_⟩;have fb:=n b J;rw[af]
  ·exact fb.1
  ·rintro rfl;exact ap J
 done:=by intro X m N C G i l s σ H E I n st M;subst m N C;obtain⟨xs,y,Q⟩:=M;obtain⟨j,rv,p,hz⟩:=I.tuple y;obtain⟨⟨old,g⟩,hit⟩:=st;have hl:=rv.length;refine wpAny_pyNext_enum_endD (yo (A:=X.A.in1) (I.ok.hd G) it a (by simp;lia)) g ⟨hit,p⟩ λB b2=>⟨rfl,?_⟩;exact I.turnedL n λb o J q=>b2 b o (λz=>J (by simp[z])) q
 self:=λ_ _ _ _ _ st h=>let ⟨_,g⟩:=st.1;zwn g h
def GQ(K:zwW)(ta:TA):TI:=λe H R=>ta e H λd c=>∃a,d=[.ref a]/\(∃xs,SqT K c a xs)/\R (IteT K a) c
theorem AS{l:dy}{j:TA}{L:ab dy}{k:Nat}(o:Gl X "enumerate")(v:X.mg "enumerate" = none)(n:PA X [l] j)(he:starEach [l] X.env=(false,eval l X.env)::starEach [] X.env:=by rfl)(Y:(backTo pos (starEach [] X.env)).any (·.1)=false:=by rfl) :
  PI X (.Tuple L k tp) (.Call (.Name "enumerate" p) [l] [] pos) (GQ X.K j):=by
 intro c s M H R I h;refine Call_ (iE I o v pC (PyProof.Rows.callWith_type1 (thn (n pos c s M H _ I h) λus d z=>?_) he Y));obtain⟨vs,m,J,C,B⟩:=z;obtain⟨a,e,⟨xs,x⟩,q⟩:=B;subst e;obtain⟨u,rfl,G⟩:=C.one;cases G;obtain⟨its,rv,y,hz⟩:=J.tuple x;refine AR y λh1 g hit r=>?_;refine zwn g ?_;have ne:d.heap.objs.size+1≠d.heap.objs.size:=by lia
 refine⟨_,[d.heap.objs.size+1,d.heap.objs.size],_,IteT X.K a,m,rfl,J.kept r,wm a _ _ ne,⟨⟨_,g⟩,hit⟩,λb U=>?_,q⟩;rcases zzi.mp U with rfl|U
 ·exact J.fpOk (zxb _) (J.hok.fresh (zxb _))
 ·have:b=d.heap.objs.size:=by simpa using U
  subst this;exact J.fpOk (zzq _) (J.hok.fresh (zzq _))
end L2
namespace L2
open PySem PySem.Spec PyProof.Rows
class Bm(mg:Str->Option Value)(base:Heap):Prop where
 out:∃bm ob,mg "__builtins__" = some (.ref bm)/\bm≠builtinsNs/\base.get? bm=some ob/\ob.cls=.type "module" /\ ob.dict=some builtinsNs/\ob.data=.plain
theorem yq{P:ef}{w:World}{K:zwW}{mg M:Str->ca bb}{T:CXT}{k:Nat}{fa a:bn}{fd:ck}{x:Str}{sp:Sp}{J:bx}{vs:ab bb}{l:ab Int}{L:ab bn}
  (KX:K.In J.heap) (a9:J.heap.Ns mainGlobals mg) (U:J.heap.Ns builtinsNs M) (c3:∀x:Str,x ≠ "__name__" -> M x=bootBuiltins x) (a8:J.heap.NoLimit) (c4:Bm mg J.heap) (hg:J.gens = #[])
  (y:J.heap.get? a=some {cls:=.type "list",data:=.seq vs.toArray}) (hi:IntsAre vs l) (hl:l.length<=sizeLine) (hr:Room k callerA)
  (C:∀P∈L,J.heap.get? P=some (PySem.W.tabObj #[])) (hC:∀P∈L,∃c,PySem.W.CodeHd J.heap c P) (c1:∀P∈L,K.lookup P=none)
  (F:∀base:cm,K.In base->base.Ns mainGlobals mg->Bm mg base->FnOk P w K mg base T k fa fd [x] sp) (a6:∀(s:bx) (u:bb),BindsTo s fd ⟨[u],[]⟩ [(x,u)])
  (c5:∀H:Hp,(∀b,H b=none∨(∃o xs,H b=some (.frz o (.lst xs)))∨H b=some (.tbl #[]))->(∀P∈L,H P=some (.tbl #[]))->SqL K H a (l.map V.int)->sp [.ref a] H (λv _=>v=.bl true) λ_ _ _=>False)
  (c0:∀H e s',T [] H J (λ_ _ _=>False) e s'->False) :
  codeAny (model P w) callerA (.call (.ref fa) ⟨[.ref a],[]⟩) (λr s'=>r=.ok (.ret (.bool true))/\OldK J.heap s'.heap/\s'.os=J.os/\AllBare s'.gens) J:=by
 have rv:=xS hi;have b0:=hi.length;have aT:a∉L:=λz=>by have e:=C a z;rw[y]at e;cases e
 have core:∀H:Hp,(∀b,H b=none∨(∃o xs,H b=some (.frz o (.lst xs)))∨(H b=some (.tbl #[])/\b∈L))->(∀P∈L,H P=some (.tbl #[]))->SqL K H a (l.map V.int)->HOk P w H J.heap->(∀b,H b≠none->b=a∨b∈L)->(H a≠none->K.lookup a=none) ->
   codeAny (model P w) callerA (.call (.ref fa) ⟨[.ref a],[]⟩) (λr s'=>r=.ok (.ret (.bool true))/\OldK J.heap s'.heap/\s'.os=J.os/\AllBare s'.gens) J:=by
  intro H hO c2 hS A hA hK;have Y:∀{b:bn} {o:Obj},J.heap.get? b=some o->H b=none->(hidT J.heap H).get? b=some o:=λe n=>Am e n;have b7:∀{b:bn} {o:Obj},J.heap.get? b=some o->(∀it n,o.data ≠ .seq it n)->(∀vs,o.data ≠ .fields vs)->H b=none:=λ{b o} e d d2=>by
   cases q:H b with
   |none=>rfl|some u =>
    rcases hA b (by rw[q];simp) with j|j
    ·subst j;rw[y]at e;cases e;exact absurd rfl (d _ _)
    ·rw[C b j]at e;cases e;exact absurd rfl (d2 _)
  have B:∀{b:bn} {m:Str->ca bb},J.heap.Ns b m->(hidT J.heap H).Ns b m:=λ{b m} ⟨o,es,ep,e,d,r⟩=>⟨o,es,ep,Y e (b7 e (λ_ _ z=>by rw[d]at z;cases z) λ_ z=>by rw[d]at z;cases z),d,r⟩;have a7:K.In (hidT J.heap H):=λb o e=>Y (KX b o e) (by
   cases q:H b with
   |none=>rfl|some u =>
    rcases hA b (by rw[q];simp) with j|j
    ·subst j;rw[hK (by rw[q];simp)]at e;cases e
    ·rw[c1 b j]at e;cases e)
  have b9:Bm mg (hidT J.heap H):=by obtain⟨bm,N,b1,b2,b3,b4,b5,G⟩:=c4.out;exact⟨bm,N,b1,b2,Y b3 (b7 b3 (λ_ _ z=>by rw[G]at z;cases z) λ_ z=>by rw[G]at z;cases z),b4,b5,G⟩
  have hM:Mod K mg (hidT J.heap H):=⟨a7,B a9,⟨M,B U,c3⟩,let ⟨mc,h1,h2⟩:=a8;⟨mc,B h1,h2⟩⟩;have e0:Env0 P w K mg (hidT J.heap H) callerA [] J H:=⟨rfl,hM,λb o e=>Dh e,Nat.le_of_eq (xt _ _),trivial,λb U=>absurd (show b∈([]:ab bn) from U) (by simp),A,.of_eq hg⟩;refine zxo ((F _ a7 (B a9) b9).run callerA [] J H ⟨[.ref a],[]⟩ [.ref a] [.ref a] _ _ hr e0 (a6 J (.ref a)) (.cons rfl .nil) (c5 H (λb=>(hO b).imp id λz=>z.imp id And.left) c2 hS)) λr s' h=>?_;cases r with
  |error e=>exact(c0 H e s' h).elim|ok fl =>
   cases fl with
   |next=>exact False.elim h
   |brk=>exact False.elim h|cont=>exact False.elim h|ret u =>
    obtain⟨v,H',os,bare,un,a5,r',q⟩:=h;have q':v=.bl true:=q;subst q';obtain rfl:u=Value.bool true:=r';have key:∀b o,J.heap.get? b=some o->s'.heap.get? b=some o∨(b∈L/\∃more,s'.heap.get? b=some (PySem.W.tabObj more)):=λb o e=>by
     cases q:H b with
     |none=>exact .inl (un.keep b o e q (by intro z;exact absurd (show b∈([]:ab bn) from z) (by simp)) (by simp))|some u =>
      rcases hO b with z|⟨N,xs,z⟩|⟨z,E⟩
      ·rw[q]at z;cases z
      ·have Q:=un.frzs b N _ z;obtain⟨p,_⟩:=A b _ z;obtain⟨e2,_⟩:=a5 b _ Q;rw[e]at p;cases p;exact .inl e2
      ·obtain⟨more,Q⟩:=un.tbls b _ z;exact .inr ⟨E,_,a5 b _ Q⟩
    refine⟨rfl,⟨λb o e=>?_,λb o e=>?_⟩,os,bare⟩
    ·rcases key b o e with z|⟨E,more,z⟩
     ·exact .inl z
     ·have p:=C b E;rw[e]at p;cases p;obtain⟨c,hc⟩:=hC b E;exact .inr (.inl ⟨(hc.tab e).isCodeTable,rfl,#[],more,rfl,by simpa using z⟩)
    ·rcases key b o e with z|⟨_,more,z⟩
     ·exact⟨_,z⟩
     ·exact⟨_,z⟩
 have b8:∀b,b∈L->∀H:Hp,ObjOk P w H J.heap b (.tbl #[]):=λb U H=>C b U;cases I:K.lookup a with
 |some o =>
  have e:=KX a o I;rw[y]at e;cases e;refine core (λb=>if b∈L then some (.tbl #[]) else none) (λb=>?_) (λb U=>zzk U) (.inr ⟨_,vs.toArray,_,I,rfl,rfl,rfl,by rw[zzB,b0];exact hl,by simpa using rv⟩) (λb u z=>?_) (λb z=>?_) λz=>?_
  ·by_cases U:b∈L
   ·exact .inr (.inr ⟨zzk U,U⟩)
   ·exact .inl (zzh U)
  ·by_cases U:b∈L
   ·have g:=(zzk U).symm.trans z;cases g;exact b8 b U _
   ·have g:=(zzh U).symm.trans z;cases g
  ·by_cases U:b∈L
   ·exact .inr U
   ·exact absurd (zzh U) z
  ·exact absurd (zzh aT) z
 |none =>
  have ea:∀b,b∈L->b≠a:=λb U e=>aT (e ▸ U);refine core (λb=>if b=a then some (.frz {cls:=.type "list",data:=.seq vs.toArray} (.lst (l.map V.int))) else if b∈L then some (.tbl #[]) else none) (λb=>?_) (λb U=>by show (if b=a then _ else _)=_;rw[zzh (ea b U),zzk U]) (.inl (.inr ⟨{cls:=.type "list",data:=.seq vs.toArray},zzk rfl⟩)) (λb u z=>?_) (λb z=>?_) λ_=>I
  ·show (if b=a then _ else _)=_∨_;by_cases U:b=a
   ·exact .inr (.inl ⟨_,_,zzk U⟩)
   ·by_cases i:b∈L
    ·exact .inr (.inr ⟨by rw[zzh U,zzk i],i⟩)
    ·exact .inl (by rw[zzh U,zzh i])
  ·have g:(if b=a then some (HO.frz {cls:=.type "list",data:=.seq vs.toArray} (.lst (l.map V.int))) else if b∈L then some (.tbl #[]) else none)=some u:=z;by_cases U:b=a
   ·rw[zzk U]at g;cases g;subst U;exact⟨y,by rw[zza];exact hl,vs,_,rv,y⟩
   ·rw[zzh U]at g;by_cases i:b∈L
    ·rw[zzk i]at g;cases g;exact b8 b i _
    ·rw[zzh i]at g;cases g
  ·by_cases U:b=a
   ·exact .inl U
   ·by_cases i:b∈L
    ·exact .inr i
    ·exact absurd (show (if b=a then _ else if b∈L then _ else _)=_ by rw[zzh U,zzh i]) z
end L2
namespace TS
open PySem PyProof.Rows
section
variable{r:Keyed->Nat}
noncomputable abbrev Up(r:Keyed->Nat)(l:ab Keyed):Prop:=l.Pairwise λx y=>r x<=r y
noncomputable abbrev sg(st:SortSt)(g:Nat):SortSt:=SortSt.mk' (kindOf st) (arrOf st) (pendingOf st) g (failedOf st)
noncomputable abbrev ap(st:SortSt)(arr:Array Keyed)(p:Array (Nat×Nat×Nat))(g:Nat):SortSt:=SortSt.mk' (kindOf st) arr p g (failedOf st)
noncomputable def rk(r:Keyed->Nat)(arr:Array Keyed)(i:Nat):Nat:=(arr[i]?.map r).getD 0
end
end TS
namespace L2
open PySem PySem.Spec PyProof.Rows PySem.W
variable{k k1:ab Key}{v v1:bb}
theorem AT{prog:ef}{w:World}:∀{k:ab Key} {xs:ab bb},Paired isI k xs->ItemsAre (bF prog w) k xs:=by
 intro k xs h
 induction h with
 |nil=>exact .nil|cons h r J =>
  obtain⟨i,t,rfl,rfl⟩:=h;exact .cons (ju prog w i t) J
theorem TupI.key{prog:ef}{w:World}{h:cm}(t:TupI h k v):∃a,v=.ref a/\IsTupleKey (bF prog w) h k a:=by obtain⟨a,o,b,n,rfl,e,c,d,p⟩:=t;exact⟨a,rfl,o,b,n,e,c,d,AT p⟩
section
variable{prog:ef}{w:World}{A:Around}{E:bb->bx->Prop}{s:bx}{Q:Bool->bx->Prop}
theorem Ec(J:A.units<cLine)(b:TupI s.heap k1 v1)(d:TupI s.heap k v)(q:Q (decide (k1=k)) s):wpAny (model prog w) A (eqBool v1 v) Q E s:=by obtain⟨a,rfl,e⟩:=b.key (prog:=prog) (w:=w);obtain⟨c,rfl,g⟩:=d.key (prog:=prog) (w:=w);exact wpAny_eqBool_tuple J e g q
end
end L2
namespace SS
open PySem PySem.SetTable PyProof.Rows L2
set_option maxRecDepth 100000
end SS
namespace SS
open PySem PySem.SetTable PyProof.Rows L2 PySem.W
set_option maxRecDepth 100000
end SS
namespace L2
open PySem PySem.Spec PyProof.Rows
section
variable{K:zwW}{x:Str}{st:Stmt}{f:bn}{mg:Str->ca bb}{h:cm}
theorem len0{p:ab bb->Prop}(h:p [])(us:ab bb)(e:us.length=0):p us:=by cases us with
 |nil=>exact h|cons=>cases e
theorem lenS{p:ab bb->Prop}{n:Nat}(h:∀a us,us.length=n->p (a::us))(us:ab bb)(e:us.length=n+1):p us:=by cases us with
 |nil=>cases e
 |cons a r=>exact h a r (Nat.succ.inj e)
noncomputable def ddk{ps:ab Str}{oc kV doc pm cdv ct:bb}{od an:ca bn}{osl:Array (ca bb)}(X:K.In h)(G:h.Ns mainGlobals mg)(a:PySem.W.nsIn K mainGlobals x=some (some (.ref f)))(l:K.lookup f=some ⟨oc,od,.func (PySem.W.fnOf x x (eP st) (bN st) (aj st) .none kV doc pm an cdv ct),osl⟩)(c:PySem.W.codeIn K cdv x=true)(k:PySem.W.keepIn K (.ref f)=true)
  (b:∀us:ab bb,us.length=ps.length->∀(kV doc pm:bb) (an:ca bn) (cdv ct:bb),bindArgs (PySem.W.fnOf x x (eP st) (bN st) (aj st) .none kV doc pm an cdv ct) ⟨us,[]⟩=pure (ps.zip us):=by repeat first|exact L2.len0 λ_ _ _ _ _ _=>rfl|refine L2.lenS λ_=>?_):Dd K mg x st ps :=
 ⟨f,_,lP l c k,zyW X G a,(lP l c k).binds λa J c d e g us i=>b us i a J c d e g⟩
end
theorem lu{N P:ab Str}{sc:Scope}(a:sc.kind=.function:=by rfl)(b:sc.isCoroutine=false:=by rfl)(c:sc.isGenerator=false:=by rfl)(d:N.Nodup:=by decide +kernel)(e:N.take P.length=P:=by rfl)
  (g:∀x∈P,sc.names.lookup x=some .local∨sc.names.lookup x=some .cell:=by decide +kernel) (i:∀y∈sc.names,y.2 ≠ .free:=by decide +kernel):FnScope N P sc:=⟨a,b,c,d,e,g,i⟩
end L2
namespace L2
open PySem PySem.Spec PyProof.Rows PySem.W
variable{H:Hp}{d:bn}{u u':HO}{X:Cx}
section
variable{P:ef}{w:World}{h:cm}
theorem HOk.re(ok:HOk P w H h)(e:H d=some u)(L:∀xs,u ≠ .tup xs)(no:∀x,u ≠ .own x)(x:ObjOk P w H h d u'):HOk P w (upd H d u') h:=by
 have c:∀a b,H b=some (.own a)->upd H d u' b=some (.own a):=λa b r=>by rw[af (by rintro rfl;rw[e]at r;cases r;exact no _ rfl)];exact r
 have J:∀b xs,H b=some (.tup xs)->upd H d u' b=some (.tup xs):=λb xs r=>by rw[af (by rintro rfl;rw[e]at r;cases r;exact L _ rfl)];exact r
 intro a o q;by_cases z:a=d
 ·subst z;rw[ae]at q;cases q;exact x.stay (λb u _ r=>r) (c a) J
 ·rw[af z]at q;exact(ok a o q).stay (λb u _ r=>r) (c a) J
end
section
variable{pins:ab (bn×Obj)}{σ:St}{s:bx}{kvs:ab (ab Key×V)}
theorem Inv.re(I:Inv X pins σ H s)(e:H d=some u)(J:∀xs,u ≠ .tup xs)(no:∀x,u ≠ .own x)(a:∀ps,u ≠ .tbl ps)(Y:∀o z,X.H₀ d≠some (.frz o z))(x:ObjOk X.prog X.w H s.heap d u'):Inv X pins σ (upd H d u') s:=by
 have ne:∀b,H b=none->upd H d u' b=none:=λb q=>by rw[af (by rintro rfl;rw[e]at q;cases q)];exact q
 refine⟨I.ok,I.os,I.bare,⟨I.base.keep,I.base.slot,λb o q n U=>ne b (I.base.free b o q n U),I.base.there,λb xs q=>?_,λb o z q=>?_,λb ps q=>?_⟩,I.loc,I.cell,ne _ I.free,λy c q=>ne _ (I.freeC y c q),λp L=>?_,HOk.re I.hok e J no x,I.len⟩
 ·have r:=I.base.tups b xs q;rw[af (by rintro rfl;rw[e]at r;cases r;exact J _ rfl)];exact r
 ·have r:=I.base.frzs b o z q;rw[af (by rintro rfl;exact Y _ _ q)];exact r
 ·obtain⟨m,r⟩:=I.base.tbls b ps q;exact⟨m,by rw[af (by rintro rfl;rw[e]at r;cases r;exact a _ rfl)];exact r⟩
 ·obtain⟨a1,a2,a3⟩:=I.pin p L;exact⟨a1,ne _ a2,a3⟩
theorem Inv.nfz(I:Inv X pins σ H s)(e:H d=some (.dT kvs)):∀o z,X.H₀ d≠some (.frz o z):=λo z q=>by have:=I.base.frzs d o z q;rw[e]at this;cases this
theorem Inv.frz(I:Inv X pins σ H s)(e:H d=some (.dT kvs)):∃o,(∃b a,o.data=.dict b a)/\Inv X pins σ (upd H d (.frz o (.dT kvs))) s:=by have x:=I.hok d _ e;obtain⟨_,_,_,_,o,b,a,g1,_,g3,_⟩:=id x;exact⟨o,⟨b,a,g3⟩,I.re e (by simp) (by simp) (by simp) (I.nfz e) ⟨g1,x⟩⟩
theorem Inv.thaw(I:Inv X pins σ H s){o:Obj}(e:H d=some (.frz o (.dT kvs)))(J:∀o z,X.H₀ d≠some (.frz o z)):Inv X pins σ (upd H d (.dT kvs)) s :=
 I.re e (by simp) (by simp) (by simp) J (I.hok d _ e).2
end
theorem pK{α b:Type}{R:α->b->Prop}:∀{xs:ab α} {a:ab b} {i:Nat} {x:α},Paired R xs a->xs[i]?=some x->∃y,a[i]?=some y/\R x y
 |_,_,_,_,.nil,e=>by simp at e
 |_,_,0,_,.cons r _,e=>by simp at e;subst e;exact⟨_,rfl,r⟩
 |_,_,i+1,_,.cons _ t,e=>by obtain⟨y,J,L⟩:=pK t (by simpa using e);exact⟨y,by simpa using J,L⟩
noncomputable def Itk(d:bn)(o:Obj)(kvs:ab (ab Key×V)):It :=
 ⟨λi H=>H d=some (.frz o (.dT kvs))/\i<kvs.length,λi H x a=>a=H/\∃p b,kvs[i]?=some p/\x=.ref b/\H b=some (.tup (p.1.map kV)),λi H=>H d=some (.frz o (.dT kvs))/\kvs.length<=i⟩
theorem yr{P:ef}{w:World}{K:zwW}{tg:dy}{d it:bn}{o:Obj}{a:ab (ab Key×V)}{l:Array DictEntry}{M:Nat}(hd:o.data=.dict l M):Turn P w K tg (Itk d o a) [it] it (λi h=>h.IsKeyIter it d i a.length M) where
 mem:=by simp
 obj:=λi h st b J=>by
  have e:b=it:=by simpa using J
  subst e;obtain⟨o,e,c,d⟩:=st;exact⟨o,e,λv z=>by rw[d]at z;cases z⟩
 keep:=λi h A st k=>Heap.IsKeyIter.at st λo e=>k it (by simp) o e
 item:=by
  intro X hP hw hK N i g s Q H E I m st C;obtain⟨B,G⟩:=C;obtain⟨L,z,lo,j,rel,o',n,u,g1,g2,g3,Y,g5⟩:=I.hok d _ B;rw[L]at g1;cases g1;rw[hd]at g3;cases g3;have a4:l.size=j.length:=zwc Y;have a5:a.length=j.length:=zxg rel;obtain⟨p,f1,f2,r,x,y⟩:=m it (by simp);refine uy (by lia) (by lia) st ⟨o,L,g2,hd⟩ λA U sb=>?_;have T:Inv X g Q H {s with heap:=A}:=I.turned (λb o J e=>(sb.2 b J).trans e) p f1 r x y;obtain⟨oo,e,c,dd⟩:=id U;obtain⟨q,hq,r1,r2,r3⟩:=pK rel (zzn G);have ek:l[i].key=.ref q.2.1:=by have:=entry_at Y i;rw[hq,zwd (by lia)]at this;simp only[Option.map_some,zwp]at this;rw[this];rfl
  rw[ek];exact⟨_,rfl,xw e c dd (by decide) ⟨.ref q.2.1,H,T,rfl,⟨rfl,a[i],q.2.1,zzn G,rfl,r2⟩,U,λb J=>(m b J).1⟩⟩
 done:=by intro X hP hw hK N i g s Q H E I m st C;obtain⟨B,G⟩:=C;obtain⟨L,z,lo,j,rel,o',n,u,g1,g2,g3,Y,g5⟩:=I.hok d _ B;rw[L]at g1;cases g1;rw[hd]at g3;cases g3;have a4:l.size=j.length:=zwc Y;have a5:a.length=j.length:=zxg rel;obtain⟨p,f1,f2,r,x,y⟩:=m it (by simp);exact yd (I.ok.hd N) (by lia) (by lia) st ⟨o,L,g2,hd⟩ λA eb=>⟨rfl,I.turned (λb o J e=>eb b o J e) p f1 r x y⟩
 self:=λ_ _ _ _ _ st h=>wpAny_pyIter_keyiter st h
section
variable{tg:dy}
def iDct(J:bn->Obj->ab (ab Key×V)->It)(tl:TE):TI:=λh H R=>tl h H λx c=>∃a b,x=.ref a/\((c a=some (.dT b)/\∀o,(∃g e,o.data=.dict g e)->R (J a o b) (upd c a (.frz o (.dT b))))∨∃o,c a=some (.frz o (.dT b))/\R (J a o b) c)
theorem Ed{l:dy}{m:TE}(B:PE X l m):PI X tg l (iDct Itk m):=by
 intro c s j H R I h;refine thn (B c s j H _ I h) λv s1 E=>?_;obtain⟨x,p,U,M,G⟩:=E;obtain⟨a,g,e,q⟩:=G;subst e;cases M;have fin:∀(o:Obj) (i:Hp),Inv X c j i s1->i a=some (.frz o (.dT g))->R (Itk a o g) i->wpAny (model X.prog X.w) X.A (pyIter (.ref a)) (PIE X c j tg R) X.xe s1:=λo i J L q=>by
  obtain⟨Y,z,lo,n,rel,o',k,ep,g1,g2,g3,r,g5⟩:=J.hok a _ L;rw[Y]at g1;cases g1;have hsz:k.size=n.length:=zwc r;have hxl:g.length=n.length:=zxg rel;refine ux lo ⟨o,Y,g2,g3⟩ ?_;refine⟨s1.heap.objs.size,[s1.heap.objs.size],_,_,i,rfl,J.kept λb o e=>zzm _ e,yr g3,⟨_,zzE _ rfl,rfl,by rw[show g.length=k.size by lia];rfl⟩,λb y=>?_,q⟩;have e:b=s1.heap.objs.size:=by simpa using y
  subst e;exact J.fpOk (zzq _) (J.hok.fresh (zzq _))
 rcases q with ⟨L,q⟩|⟨o,L,q⟩
 ·obtain⟨o,C,J⟩:=U.frz L;exact fin o _ J ae (q o C)
 ·exact fin o p U L q
end
end L2
namespace L2
open PySem PySem.Spec PyProof.Rows
variable{l tg:dy}
section
variable{X:Cx}
theorem yt:OpR X (compareOp .LtE) (λx y H Q=>∃i j,x=.str i/\y=.str j/\Q (.bl (!decide (j.cps.toList<i.cps.toList))) H):=by intro pins s σ H x y v u Q I J L h;obtain⟨i,j,rfl,rfl,q⟩:=h;obtain⟨t,rfl⟩:=J;obtain⟨t',rfl⟩:=L;exact PySem.P.le_str (bQ I q rfl)
theorem pL:∀(l:ab (Str×Tok)),Vals (l.map λp=>V.str p.1) (strValues l)
 |[]=>.nil|p::r=>.cons ⟨p.2,rfl⟩ (pL r)
def GR:V->ab V->Hp->VK->Prop:=λx a H Q=>∃z y,x=.str z/\a=[.str y]/\(y.length==0)=false/\z.length+2<=sizeLine/\∀l,H l=none->Q (.ref l) (upd H l (.lst ((Txt.split z y).map V.str)))
theorem yu(x y:Str)(hz:x.length+2<=sizeLine):(Txt.split x y).length<=sizeLine:=by
 have e1:=StrLaws.occ_length_le x y 0 x.length (x.length+1);unfold Txt.split;split
 ·simp;lia
 ·split
  ·simp;lia
  ·rw[length_partsBetween];lia
theorem AU:MtR X "str.split" GR:=by
 intro b s j H x vs v us Q I i g h;obtain⟨z,y,rfl,rfl,L,Y,q⟩:=h;obtain⟨t,rfl⟩:=i;obtain⟨u,rfl,c,rfl⟩:=g.one;have fin:∀(l:ab (Str×Tok)) (k:Nat),l.map (·.1)=Txt.split z y->EP X b j Q (.ref s.heap.objs.size) {s with heap:=s.heap.push {cls:=.type "list",data:=.seq (strValues l).toArray},toks:=k}:=λl k e=>by
  have U:l.map (λp=>V.str p.1)=(Txt.split z y).map V.str:=by rw[←e,zzo];rfl
  refine⟨.ref _,_,I.lnew (U ▸ pL l) ?_,rfl,q _ I.fresh⟩;rw[zza];exact yu z y Y
 have d:(Builtin.Str.partsBetween z (Builtin.Str.occurrences z y 0 z.length (z.length+1)) y.length).length<=sizeLine:=by have e1:=StrLaws.occ_length_le z y 0 z.length (z.length+1);rw[length_partsBetween];lia
 cases a:(decide (z.length<y.length) || decide (Builtin.Str.strKind z<Builtin.Str.strKind y))
 ·cases J:(Builtin.Str.occurrences z y 0 z.length (z.length+1)).isEmpty
  ·refine zxu F.slot_str_split (zwE _ _ _) F.entry_str_split (F.args_str_split_2 _ _) (meets_str_split_sep z y t c a L J (by lia) d) ?_;rw[strsFrom_eq];exact fin (numbered s.toks _) _ ((numbered_texts _ _).trans ((zzh (zwN a)).trans (zzh (zwN J))).symm)
  ·exact zxu F.slot_str_split (zwE _ _ _) F.entry_str_split (F.args_str_split_2 _ _) (meets_str_split_not_found z y t c a L J)
    (fin [(z,t)] s.toks ((zzh (zwN a)).trans (zzk J)).symm)
 ·exact zxu F.slot_str_split (zwE _ _ _) F.entry_str_split (F.args_str_split_2 _ _) (meets_str_split_cannot_occur z y t c a)
   (fin [(z,t)] s.toks (zzk a).symm)
def JK(K:zwW):V->ab V->Hp->VK->Prop:=λx b H Q=>∃z p a,x=.str z/\b=[.ref p]/\SqL K H p (a.map V.str)/\JoinOk z a=true/\Q (.str (Txt.join z a)) H
theorem pM:∀{ws:ab Str} {a:ab bb},Vals (ws.map V.str) a->∃l:ab (Str×Tok),a=strValues l/\l.map (·.1)=ws
 |[],_,h=>by cases h;exact⟨[],rfl,rfl⟩
 |w::ws,_,.cons ⟨t,e⟩ r=>by obtain⟨l,J,L⟩:=pM r;exact⟨(w,t)::l,by rw[e,J];rfl,by rw[zzj,L]⟩
theorem Ee:MtR X "str.join" (JK X.K):=by intro pins s σ H x vs v us Q I U L h;obtain⟨z,p,ws,rfl,rfl,b,a,q⟩:=h;obtain⟨t,rfl⟩:=U;obtain⟨u,rfl,J⟩:=L.one;cases J;obtain⟨its,r,c,_⟩:=I.list b;obtain⟨l,rfl,e⟩:=pM r;exact SC.join c.isList e a λt' k=>⟨.str _,H,I.tok _,⟨_,rfl⟩,q⟩
theorem pN:cr X (.type "int") (λxs H Q=>∃z n,xs=[.str z]/\intText? z=some n/\z.length<=640/\Q (.int n) H):=by intro pins s σ H xs us Q I r h;obtain⟨z,n,rfl,a,J,q⟩:=h;obtain⟨u,rfl,t,rfl⟩:=eL r;exact PySem.W.KIN.call_text a J ⟨.int _,H,I.tok _,⟨_,rfl⟩,q⟩
def rSlS:V->ca Int->ca Int->Hp->VK->Prop:=λx lo a H Q=>∃z,x=.str z/\z.length<=sizeLine/\Q (.str (Txt.slice z lo a)) H
theorem uD{v:bb}{o:ca Int}(h:IsPart v o):∃l:ca (Int×Tok),v=partValue l/\l.map (·.1)=o:=by
 cases h with
 |none=>exact⟨none,rfl,rfl⟩|int i t=>exact⟨some (i,t),rfl,rfl⟩
theorem GS:SlR X rSlS:=by intro pins s σ H x v vl vu lo hi sl Q I U a b L h;obtain⟨z,rfl,J,q⟩:=h;obtain⟨t,rfl⟩:=U;obtain⟨l,rfl,rfl⟩:=uD b;obtain⟨u,rfl,rfl⟩:=uD L;refine⟨"str",_,F.slot_str_getitem.lookup,zwE _ _ _,wpAny_getItem_str_slice (st:=none) a rfl ?_⟩;exact post_val_or_str ⟨zzl (Txt.slice_le z _ _) J,λt' k=>⟨.str _,H,I.tok _,⟨_,rfl⟩,q⟩⟩
noncomputable def Its(z:Str):It:=⟨λi _=>i<z.cps.size,λi H x a=>a=H/\∃c,z.cps[i]?=some c/\x=.str ⟨#[c]⟩,λi _=>z.cps.size<=i⟩
theorem uE{P:ef}{w:World}{K:zwW}{it:bn}{z:Str}{t:Tok}{n:String}(y:n = "str_ascii_iterator" ∨ n = "str_iterator"):Turn P w K tg (Its z) [it] it (λi h=>h.IsStrIter it n z t i) where
 mem:=by simp
 obj:=λi h st b L=>by
  have e:b=it:=by simpa using L
  subst e;obtain⟨o,e,c,d⟩:=st;exact⟨o,e,λv z=>by rw[d]at z;cases z⟩
 keep:=λi h g st k=>let ⟨o,e,r⟩:=st;⟨o,k it (by simp) o e,r⟩
 item:=by
  intro X Q T N G i a s M H E I q st J;subst Q T N;have J:i<z.cps.size:=J;obtain⟨Y,f1,f2,j,m,p⟩:=q it (by simp);have fin:∀g:cm,g.IsStrIter it n z t (i+1)->Heap.SameBut it s.heap g->∃u,some (Value.str ⟨#[z.cps[i]]⟩ s.toks)=some u/\wpAny (model X.prog X.w) X.A (letOwnedTupleGo tg (.ref it) u) (λ_ l=>∃x B,Inv X a M B l/\RelV x u/\(Its z).yld i H x B/\l.heap.IsStrIter it n z t (i+1)/\∀b∈[it],B b=none) E {s with heap:=g,toks:=s.toks+1}:=λg U sb=>by have I1:Inv X a M H {s with heap:=g,toks:=s.toks+1}:=I.turned (λb o L e=>(sb.2 b L).trans e) Y f1 j m p;obtain⟨oo,e,c,dd⟩:=id U;exact⟨_,rfl,xw e c dd (by rcases y with rfl|rfl<;>decide) ⟨.str ⟨#[z.cps[i]]⟩,H,I1,⟨_,rfl⟩,⟨rfl,_,zwd J,rfl⟩,U,λb L=>(q b L).1⟩⟩
  rcases y with rfl|rfl
  ·exact wpAny_pyNext_ascii_item st (by simp[J]) fin
  ·exact wpAny_pyNext_wide_item st (by simp[J]) fin
 done:=by
  intro X Q T N G i a s M H E I q st J;have J:z.cps.size<=i:=J;obtain⟨Y,f1,f2,j,m,p⟩:=q it (by simp);rcases y with rfl|rfl
  ·exact wpAny_pyNext_ascii_end (I.ok.hd G) st (by simp[J]) λg C=>⟨rfl,I.turned (λb o L e=>C b o L e) Y f1 j m p⟩
  ·exact wpAny_pyNext_wide_end (I.ok.hd G) st (by simp[J]) λg C=>⟨rfl,I.turned (λb o L e=>C b o L e) Y f1 j m p⟩
 self:=λ_ _ _ _ _ st h=>by
  rcases y with rfl|rfl
  ·exact wpAny_pyIter_striter_ascii st h
  ·exact wpAny_pyIter_striter_wide st h
def iStr(tl:TE):TI:=λb H R=>tl b H λx a=>∃z,x=.str z/\R (Its z) a
theorem GT{j:TE}(k:PE X l j):PI X tg l (iStr j):=by
 intro a s n H R I h;refine thn (k a s n H _ I h) λv c U=>?_;obtain⟨x,d,J,m,Y⟩:=U;obtain⟨z,rfl,q⟩:=Y;obtain⟨t,rfl⟩:=m;have g:∀b∈[c.heap.objs.size],FpOk X a d b:=λb L=>by
  have e:b=c.heap.objs.size:=by simpa using L
  subst e;exact J.fpOk (zzq _) (J.hok.fresh (zzq _))
 cases i:z.cps.all (· < 128)
 ·exact wpAny_pyIter_wide i ⟨c.heap.objs.size,[c.heap.objs.size],_,_,d,rfl,J.kept λb o e=>zzm _ e,uE (.inr rfl),⟨_,zzE _ rfl,rfl,rfl⟩,g,q⟩
 ·exact wpAny_pyIter_ascii i ⟨c.heap.objs.size,[c.heap.objs.size],_,_,d,rfl,J.kept λb o e=>zzm _ e,uE (.inl rfl),⟨_,zzE _ rfl,rfl,rfl⟩,g,q⟩
end
noncomputable def addS(a:ab Str)(x:Str):ab Str:=if x∈a then a else a++[x]
noncomputable def metS(xs:ab Str):ab Str:=xs.foldl addS []
theorem pO(xs:ab Str)(x:Str):metS (xs++[x])=addS (metS xs) x:=by unfold metS;rw[zxG];rfl
theorem AV(a:ab Str)(x k:Str):k∈addS a x↔k∈a∨k=x:=by
 unfold addS;split
 ·exact⟨.inl,λh=>h.elim id λe=>by subst e;assumption⟩
 ·simp
theorem jS(a:ab Str)(x:Str):(addS a x).length=if x∈a then a.length else a.length+1:=by unfold addS;split<;>simp
theorem fN(xs:ab Str):(metS xs).length<=xs.length:=by
 have key:∀(b:ab Str) (a:ab Str),(b.foldl addS a).length<=a.length+b.length:=λb=>by
  induction b with
  |nil=>intro a;simp|cons y b J =>
   intro a;have:=J (addS a y);have e:=jS a y;rw[zwb,zzu];split at e<;>lia
 have:=key xs [];simpa[metS]using this
section
variable{prog:ef}{w:World}{A:Around}{R:Result->bx->Prop}{I:bn}{fp wr:ab bn}{G:Array GenState->Array GenState->Prop}{P:Nat->bb->Prop}{St:Nat->bx->Prop}
theorem set_loopT{xs:ab Str}(W:WalksS prog w A.in1 I fp wr G xs.length P St)(S:bn)(p:S∉fp)
  (E:∀i v,P i v->∃x t,xs[i]?=some x/\v=.str x t) (Y:xs.length+1<scanBound) :
  ∀(k i:Nat) (s:bx),xs.length - i=k->i<=xs.length->St i s ->
   s.heap.SetOf (PySem.strKind prog w) S (λa=>decide (a∈metS (xs.take i))) (metS (xs.take i)).length ->
   (∀s',Moved (S::wr) G s s'->s'.heap.SetOf (PySem.strKind prog w) S (λa=>decide (a∈metS xs)) (metS xs).length->R (.ok (.ret .none)) s') ->
   codeAny (model prog w) A (.builtin "set.update.loop" ⟨[.ref S,.ref I],[]⟩) R s:=by
 have q:S∉wr:=λh=>p (W.sub _ h);have J:∀b∈wr,b∈S::wr:=λb Y=>zzb _ Y;intro k
 induction k with
 |zero =>
  intro i s hk hi U d m;have Q:i=xs.length:=by lia
  subst Q;rw[List.take_length]at d;refine zwH PyProof.Rows.F.entry_set_update_loop ?_;rw[Around.under_plainId PyProof.Rows.F.plain_set_update_loop _];show wpAny _ A.in1 (pyNext (.ref I) >>= _) _ _ s;refine zzd (W.done s _ _ U λs' c=>?_);show wpAny _ A.in1 (ret Value.none) _ _ s';exact zzt (m s' (c.mono J) (by obtain⟨o,j,g,t,n,rest⟩:=d;exact⟨o,j,g,t,c.heap S _ q n,rest⟩))
 |succ k ih =>
  intro i s hk hi U d m;have r:i<xs.length:=by lia
  refine zwH PyProof.Rows.F.entry_set_update_loop ?_;rw[Around.under_plainId PyProof.Rows.F.plain_set_update_loop _];show wpAny _ A.in1 (pyNext (.ref I) >>= _) _ _ s;refine zzd (W.item i s _ _ r U λv s' hP C c=>?_);obtain⟨x,t,hx,rfl⟩:=E i v hP;have H:s'.heap.SetOf (PySem.strKind prog w) S (λa=>decide (a∈metS (xs.take i))) (metS (xs.take i)).length:=by obtain⟨o,j,g,tb,n,rest⟩:=d;exact⟨o,j,g,tb,c.heap S _ q n,rest⟩
  have y:xs.take (i+1)=xs.take i++[x]:=by rw[List.take_add_one,hx];rfl
  show wpAny _ A.in1 (holding [Value.str x t] (setAdd S (.str x t)) >>= _) _ _ s';refine zzd (zyz ?_);unfold setAdd;refine zyz ?_;refine zzd ((PySem.strKind prog w).pyHash (k:=x) (strKind_is _ _ _ _) ?_);have L:(metS (xs.take i)).length+1<scanBound:=by have:=fN (xs.take i);rw[zyM]at this;lia
  refine wpAny_setAddHashed_of (knd:=PySem.strKind prog w) (s:={s' with toks:=s'.toks+1}) (strKind_is _ _ _ _) rfl H L λl u M=>?_;have N:l.SetOf (PySem.strKind prog w) S (λa=>decide (a∈metS (xs.take (i+1)))) (metS (xs.take (i+1))).length :=
   SetOf_congr M (λa=>by rw[y,pO];simp[AV]) (by rw[y,pO,jS];simp)
  refine zzt ⟨plainId_quiet PyProof.Rows.F.plain_set_update_loop _,ih (i+1) _ (by lia) r (W.frame _ s' _ _ C (zxb _) λb Y o e=>?_) N λT B z=>?_⟩
  ·rw[u.2 b (λh:b=S=>p (by rw[←h];exact Y))];exact e
  ·refine m T (Moved.trans W.gtrans ((c.mono J).then_heap (zxb _) λb o Y e=>?_) B) z;rw[u.2 b (λh:b=S=>Y (by rw[h];exact zze))];exact e
end
end L2
namespace PySem
section
variable{prog:ef}{w:World}{A:Around}{E:bb->bx->Prop}{s:bx}
set_option maxRecDepth 100000 in
set_option maxHeartbeats 3200000 in
theorem nv{b:bn}{its:Array bb}{d:ab Str}{R:bb->bx->Prop}(h:A.handled=none)(C:s.heap.IsList b its)(I:∀(i:Nat) (v:bb),its[i]?=some v->∃x t,d[i]?=some x/\v=.str x t)(H:its.size=d.length)(M:d.length+1<scanBound)
  (q:∀(a:cm) (l:Nat),a.SetOf (PySem.strKind prog w) s.heap.objs.size (λk=>decide (k∈L2.metS d)) (L2.metS d).length ->
   (∀c o,c<s.heap.objs.size->s.heap.get? c=some o->a.get? c=some o)->R (.ref s.heap.objs.size) {s with heap:=a,toks:=l}):wpAny (model prog w) A (call (.type "set") [.ref b]) R E s:=by
 obtain⟨c,tl,hmro⟩:=F.called_set.mro;have hmade:=F.called_set.made;have hsub:=F.called_set.sub;refine wpAny_call (codeAny_of_tree ?_);show wpAny _ _ (callAny (.type "set") _) _ _ _;refine zzt ⟨Code.quiet_builtin _ (by decide +kernel),zwH F.entry_type_call ?_⟩;rw[Around.under_plain (weight_type_call_type "set" [.ref b] []) rfl];have n1:=F.called_set.notType;have n2:=F.called_set.canCreate;have n3:=F.typeCall_set_1 (.ref b)
 repeat (any_goals (first|assumption|wp_step))
 refine zxo (code_set_new_1 (.ref b) (E:=E) (Q₁:=λobj z=>∃J:Bool,obj=.ref s.heap.objs.size/\z={s with heap:=s.heap.push {cls:=.type "set",dict:=none,data:=.set #[] 0 (.fresh 0 0 J)} }) λJ=>⟨J,rfl,rfl⟩) λr z p=>?_;cases r with
 |error e=>exact p|ok fl =>
  cases fl with
  |ret obj =>
   obtain⟨J,rfl,rfl⟩:=p;have g1:(s.heap.push {cls:=.type "set",dict:=none,data:=.set #[] 0 (.fresh 0 0 J)}).get? s.heap.objs.size=some {cls:=.type "set",dict:=none,data:=.set #[] 0 (.fresh 0 0 J)}:=zzE _ rfl;have ty:Shared.TypeIs {s with heap:=s.heap.push {cls:=.type "set",dict:=none,data:=.set #[] 0 (.fresh 0 0 J)} } (.ref s.heap.objs.size) "set":=⟨_,g1,rfl⟩;have i1:=F.called_set.init.lookup;have i2:=F.called_set.init.bind (.ref s.heap.objs.size)
   repeat (any_goals (first|assumption|wp_step))
   refine zxo (codeAny_call_builtin (R:=wants (λr z=>r=.none/\∃a l,z={s with heap:=a,toks:=l} /\
     a.SetOf (PySem.strKind prog w) s.heap.objs.size (λk=>decide (k∈L2.metS d)) (L2.metS d).length /\
     (∀c o,c<s.heap.objs.size->s.heap.get? c=some o->a.get? c=some o)) E) F.called_set.init.plain F.entry_set_init (check_set_init_1 ty ?_)) λr2 z2 U=>?_
   ·have Y:(s.heap.push {cls:=.type "set",dict:=none,data:=.set #[] 0 (.fresh 0 0 J)}).IsList b its:=by
     obtain⟨o,e,x⟩:=C;exact⟨o,zzm _ e,x⟩
    have g:b<s.heap.objs.size:=by obtain⟨o,e,x⟩:=C;exact zzD e
    obtain⟨o,e,y,n,B⟩:=id Y;obtain⟨ocls,odict,odata,oslots⟩:=o;simp only at y B;subst y;subst B;have t1:=F.sub_list_set;have t2:=F.sub_list_frozenset;have t3:(Value.type "list"==Value.type "dict")=false:=by decide
    unfold Builtin.«set.__init__» noKeywords Builtin.Frozenset.updateFrom;generalize Q:pyIter=PI
    wp_walk
    subst Q;refine zxD Y ?_;refine zzd (wpAny_runValue ?_);have L:A.in1.in1.in1.handled=none:=by simp[h]
    have ne:b≠(s.heap.push {cls:=.type "set",dict:=none,data:=.set #[] 0 (.fresh 0 0 J)}).objs.size:=by rw[zyw];exact zzL (zxk g)
    have off:s.heap.objs.size∉[(s.heap.push {cls:=.type "set",dict:=none,data:=.set #[] 0 (.fresh 0 0 J)}).objs.size,b]:=by rw[zyw];simp only[zzi,zzG,zzW,zyD,not_or];exact⟨zzL (zxn _),Nat.ne_of_gt g⟩
    have W:=(Walks.list (prog:=prog) (w:=w) L _ b ne its).toS;rw[H]at W;refine L2.set_loopT (xs:=d) W s.heap.objs.size off I M (d.length - 0) 0 _ (by lia) (zzM _) ⟨⟨_,zzE _ rfl,rfl,rfl⟩,?_⟩ ?s0 ?r0
    ·obtain⟨o,e,x⟩:=Y;exact⟨o,zzm _ e,x⟩
    case s0 =>
     have G:((s.heap.push {cls:=.type "set",dict:=none,data:=.set #[] 0 (.fresh 0 0 J)}).push {cls:=.type "list_iterator",data:=.fields #[.ref b,.int 0 0]}).get? s.heap.objs.size
       = some {cls:=.type "set",dict:=none,data:=.set #[] 0 (.fresh 0 0 J)}:=zzm _ g1
     exact PyProof.Rows.SetOf_congr ((PyProof.Rows.setObjOf_fresh (knd:=PySem.strKind prog w) J).setOf G (by unfold scanBound;lia)) (λ_=>rfl) rfl
    case r0 =>
     intro z j m;obtain⟨a,g',d',b1,b0⟩:=z;have eg:g'=s.gens:=j.gens;have ed:d'=s.drawn:=j.drawn;have eo:b0=s.os:=j.os;subst eg;subst ed;subst eo;show wpAny _ _ _ _ _ _;refine zzt ?_;show wpAny _ _ (ret Value.none) _ _ _;refine zzt ⟨rfl,a,b1,rfl,m,λc o u e=>?_⟩;have T:c≠(s.heap.push {cls:=.type "set",dict:=none,data:=.set #[] 0 (.fresh 0 0 J)}).objs.size:=by rw[zyw];exact zzL (zxk u)
     exact j.heap c o (by simp only[zzi,zzG,zzW,zyD,not_or];exact⟨zzL u,T⟩) (zzm _ (zzm _ e))
   ·cases r2 with
    |error e=>exact U|ok N =>
     cases N with
     |ret r =>
      obtain⟨rfl,a,l,rfl,m,hk⟩:=U
      repeat (any_goals (first|assumption|wp_step))
      exact q _ _ m hk
     |_=>exact U.elim
  |_=>exact p.elim
end
end PySem
namespace L2
open PySem PySem.Spec PyProof.Rows
variable{b l:bn}
variable{X:Cx}
noncomputable def SetN(a:bn)(n:Nat):HO:=.ext λh=>∃o c d t,h.get? a=some o/\o.ExactSet/\o.data=.set c d t/\t.fits c.size=true/\c.size=n/\n<scanBound
theorem yw(x:X.calm=true):cr X (.type "set") (λxs H Q=>∃p ws,xs=[.ref p]/\SqL X.K H p (ws.map V.str)/\ws.length<=1000/\∀l,H l=none->Q (.ref l) (upd H l (SetN l (metS ws).length))):=by
 intro pins s σ H xs us Q I r h;obtain⟨p,ws,rfl,e,hl,q⟩:=h;obtain⟨u,rfl,j⟩:=eL r;cases j;obtain⟨a,U,z,_⟩:=I.list e;have J:a.length=ws.length:=by have:=U.length;simpa using this.symm
 have hf:=fN ws;refine nv (I.ok.hd x) z.isList (λi v L=>?_) (by rw[zzB,J]) (by unfold scanBound;lia) λh' tk w y=>?_
 ·have g:i<ws.length:=by
   rw[←J];have:=zzy.mp (show a[i]?=some v by simpa using L);exact this.1
  obtain⟨v',Y,t,rfl⟩:=U.get (by rw[zzr,zzn g];rfl);rw[show a.toArray[i]?=a[i]? by simp,Y]at L;cases L;exact⟨_,_,zzn g,rfl⟩
 ·obtain⟨o,d,c,t,g1,g2,g3,_,_,g4,m,n⟩:=w;refine⟨.ref s.heap.objs.size,_,I.laid (o:=SetN s.heap.objs.size (metS ws).length) (λb o e=>y b o (zzD e) e) (zzq _) ⟨⟨o,d,c,t,g1,g2,g3,m,n,by unfold scanBound;lia⟩,⟨o,g1⟩,λh1 h2 q k=>by obtain⟨o,d,c,t,f1,f2⟩:=q;exact⟨o,d,c,t,k _ f1,f2⟩⟩,rfl,q _ (I.hok.fresh (zzq _))⟩
theorem yx:cr X (.builtin "len") (λxs H Q=>∃p n,xs=[.ref p]/\H p=some (SetN p n)/\Q (.int n) H):=by intro pins s σ H xs us Q I r h;obtain⟨p,n,rfl,e,q⟩:=h;obtain⟨u,rfl,J⟩:=eL r;cases J;obtain⟨⟨o,es,ep,t,g1,g2,g3,L,U,Y⟩,_⟩:=(show ObjOk X.prog X.w H s.heap p (SetN p n) from I.hok p _ e);refine call_len_set g1 g2 g3 L (by unfold scanBound at Y;lia) ?_;rw[U];exact⟨.int n,H,I.tok _,⟨_,rfl⟩,q⟩
theorem wn{ws:ab Str}(h:ws.Nodup):metS ws=ws:=by
 have key:∀(ys a:ab Str),(a++ys).Nodup->ys.foldl addS a=a++ys:=λys=>by
  induction ys with
  |nil=>intro a _;simp|cons y ys L =>
   intro a h;have J:y∉a:=λz=>by have:=(zxj.mp h).2.2 y z y zze;exact this rfl
   rw[zwb,show addS a y=a++[y] by unfold addS;rw[zzh J],L _ (by simpa using h)];simp
 simpa[metS]using key ws [] (by simpa using h)
def GtA(A:Around)(s:bx)(v w:bb)(b:Bool):Prop:=∀(a:ef) (J:World) (E:bb->bx->Prop) (Q:bb->bx->Prop),Q (.bool b) s->wpAny (model a J) A (richCompare .Gt v w) Q E s
inductive LexW(A:Around)(s:Shared):List Value->List Value->Bool->Prop
 |nn:LexW A s [] [] false
 |nc {w:Value} {ws:List Value}:LexW A s [] (w::ws) false
 |cn {v:Value} {vs:List Value}:LexW A s (v::vs) [] true
 |same {v w:Value} {vs ws:List Value} {b:Bool}:SeqAt.EqAt A s v w true->LexW A s vs ws b->LexW A s (v::vs) (w::ws) b
 |diff {v w:Value} {vs ws:List Value} {b:Bool}:SeqAt.EqAt A s v w false->GtA A s v w b->LexW A s (v::vs) (w::ws) b
section
open PySem.SeqAt
open PySem.AutoSeq1 (wpAny_loadPart')
open PySem.MeetsSeq PySem.MeetsSeq2 PySem.MeetsSeq3
theorem pP(l b:bn)(items J:Array bb)(n M:Nat)(dd z:ca bn)(sl C:Array (ca bb))(r:Bool) :
  Meets (Builtin.«tuple.__gt__» ⟨[.ref l,.ref b],[]⟩)
   (λA R s=>s.heap.get? l=some {cls:=.type "tuple",dict:=dd,data:=.seq items n,slots:=sl}/\s.heap.get? b=some {cls:=.type "tuple",dict:=z,data:=.seq J M,slots:=C} /\
    LexW A.in1 s items.toList J.toList r/\R (.ok (.ret (.bool r))) s) :=
 .of_wp λa w A R s h=>by
  obtain⟨u,g,d,v,os⟩:=s;obtain⟨H,E,c,h⟩:=h;have f2:=AutoSeq1.sub_tuple_tuple
  wp_walk using wpAny_loadPart' H,wpAny_loadPart' E,wpAny_forIn_list _ (λrest b p=>b.1=none/\p=⟨u,g,d,v,os⟩/\∃(e i:ab bb),rest=e.zip i /\
   LexW A.in1 ⟨u,g,d,v,os⟩ e i r/\e.length+J.size=i.length+items.size) _
  case turn =>
   rintro⟨y,x⟩ rest b p ⟨q,rfl,e,i,U,c,L⟩;cases c with
   |nn=>rw[List.zip_nil_left]at U;cases U
   |nc=>rw[List.zip_nil_left]at U;cases U
   |cn=>rw[zxd]at U;cases U
   |same m c =>
    injection U with k Y;injection k with o j;subst o j;simp only[zzu]at L;refine zzd (m a w _ _ ?_)
    wp_walk
    exact⟨rfl,rfl,_,_,Y,c,by lia⟩
   |diff m G =>
    injection U with k Y;injection k with o j;subst o j;refine zzd (m a w _ _ ?_);have B:=G a w
    wp_walk using B
    exact⟨_,rfl,by simpa using h⟩
  case fin =>
   rintro⟨b1,b2⟩ p ⟨q,rfl,e,i,U,c,L⟩;subst q;have I:r=decide (J.size<items.size):=by
    cases c with
    |nn=>simp only[zxw]at L;exact(zzv (by lia)).symm|nc=>simp only[zxw,zzu]at L;exact(zzv (by lia)).symm|cn=>simp only[zxw,zzu]at L;exact(zzp (by lia)).symm|same _ _=>rw[zyF]at U;cases U
    |diff _ _=>rw[zyF]at U;cases U
   rw[I]at h
   wp_walk
   exact⟨_,rfl,by simpa[Builtin.Tuple.tupleCompareSizes]using h⟩
  case h =>
   exact⟨rfl,rfl,items.toList,J.toList,rfl,c,by simp;lia⟩
end
section
variable{A:Around}{s:bx}
theorem Ci{items J:Array bb}{r:Bool}(j:IsTup s.heap l items)(g:IsTup s.heap b J)(m:LexW A.in1 s items.toList J.toList r)(k:A.units<cLine):GtA A s (.ref l) (.ref b) r:=λprog w E Q h=>by
 obtain⟨⟨cls,e,data,p⟩,a,i,n,hd⟩:=id j;obtain⟨⟨cls2,U,data2,d⟩,L,Y,o,c⟩:=id g;subst i hd Y c;exact richCompare_meets_room ⟨_,a,rfl⟩ ⟨_,L,rfl⟩ PySem.F.slot_tuple_gt PySem.F.entry_tuple_gt (PySem.F.args_tuple_gt_2 _ _) (pP l b items J n o e U p d r)
  ⟨a,L,m,show Value.bool r≠Value.notImplemented/\Q (.bool r) s from⟨(λx=>nomatch x),h⟩⟩ k
theorem yy(a:Int)(t:Tok)(c:Int)(u:Tok):GtA A s (.int a t) (.int c u) (decide (c<a)):=λd w E Q h=>(PyProof.Rows.gt_int h:wpAny (model d w) A (compareOp .Gt (.int a t) (.int c u)) Q E s)
theorem yz:∀{vs ws:ab bb} {g d:ab Int},IntsAre vs g->IntsAre ws d->LexW A s vs ws (HT.lexLt d g)
 := by
 intro vs ws g d p q
 induction p generalizing ws d with
 |nil=>(cases q with|nil=>exact .nn|cons=>exact .nc)
 |cons a t h1 J =>
  cases q with|nil=>exact .cn|cons c u h=>?_
  rw[HT.lexLt_cons];by_cases e:a=c
  ·subst e;rw[zzk rfl];exact .same (by have:=SeqAt.EqAt.int_int (A:=A) (s:=s) a t a u;simpa using this) (J h)
  ·rw[zzh (Ne.symm e)];exact .diff ((show (a==c)=false by simpa using e) ▸ SeqAt.EqAt.int_int a t c u) (yy a t c u)
end
noncomputable def gtP(ns:ab Int)(i:Int)(ms:ab Int)(j:Int):Bool:=if ns=ms then decide (j<i) else HT.lexLt ms ns
def rGtP(K:zwW):R2:=λx y H Q=>∃a b p q d c i j,x=.ref a/\y=.ref b/\SqT K H a [.ref p,.int i]/\SqT K H b [.ref q,.int j]/\SqT K H p (d.map V.int)/\SqT K H q (c.map V.int)/\Q (.bl (gtP d i c j)) H
theorem ic:∀{vs:ab bb} {a:ab Int},IntsAre vs a->Paired isI (a.map Sum.inl) vs
 |_,_,.nil=>.nil|_,_,.cons n t h=>.cons ⟨n,t,rfl,rfl⟩ (ic h)
theorem yA{A:Around}{s:bx}{items J:Array bb}{ns a:ab Int}(j:IsTup s.heap l items)(c:IsTup s.heap b J)(g:IntsAre items.toList ns)(i:IntsAre J.toList a)(m:A.units<cLine):SeqAt.EqAt A s (.ref l) (.ref b) (decide (ns=a)):=λprog w E Q h=>by
 obtain⟨o,k,d,n,hd⟩:=j;obtain⟨q,Y,L,p,U⟩:=c;refine Ec m ⟨l,o,items,n,rfl,k,d,hd,ic g⟩ ⟨b,q,J,p,rfl,Y,L,U,ic i⟩ ?_;have e:(decide (ns.map Sum.inl=(a.map Sum.inl:ab Key)))=decide (ns=a):=by
  by_cases z:ns=a
  ·rw[zzp z,zzp (by rw[z])]
  ·rw[zzv z,zzv (λw=>z ((zwU (λ_ _ h=>Sum.inl.inj h)).mp w))]
 rw[e];exact h
theorem GU(d:X.A.units+1<cLine):OpR X (compareOp .Gt) (rGtP X.K):=by
 intro pins s σ H x y v u Q I rx ry h;obtain⟨a,b,p,q,ns,ms,i,j,rfl,rfl,B,C,E,G,k⟩:=h;cases rx;cases ry;obtain⟨its,T,M,_⟩:=I.tuple B;obtain⟨its2,l,N,_⟩:=I.tuple C;obtain⟨J,r3,n,_⟩:=I.tuple E;obtain⟨L,r4,o,_⟩:=I.tuple G;obtain⟨u1,v1,rfl,r,c,rfl⟩:=T.two;obtain⟨u2,v2,rfl,z,U,rfl⟩:=l.two;cases r;cases z;have g:IntsAre J.toArray.toList ns:=gT r3;have m:IntsAre L.toArray.toList ms:=gT r4;refine Ci M N ?_ (by lia) X.prog X.w _ _ ⟨.bl _,H,I,rfl,k⟩;have eq:=yA (A:=X.A.in1) n o g m d;unfold gtP;split
 ·rename_i e;rw[zzp e]at eq;refine .same eq ?_;by_cases Y:i=j
  ·subst Y;rw[zzv (Int.lt_irrefl _)];exact .same (by have:=SeqAt.EqAt.int_int (A:=X.A.in1) (s:=s) i c i U;simpa using this) .nn
  ·exact .diff ((show (i==j)=false by simpa using Y) ▸ SeqAt.EqAt.int_int i c j U) (yy i c j U)
 ·rename_i e;rw[zzv e]at eq;exact .diff eq (Ci n o (yz g m) d)
end L2
namespace L2
open PySem PySem.Spec PyProof.Rows PySem.W
section
variable{X:Cx}
def JL(T:TS):TS:=λD e H=>(∃a b,H a=some (.dT b)/\T {D with nx:=λc d=>∃o,d a=some (.frz o (.dT b))/\D.nx c (upd d a (.dT b))} e H)∨T D e H
theorem AW{st:Stmt}{T:TS}(h:PS X st T):PS X st (JL T):=by
 intro b s g H D I q;rcases q with ⟨a,d,i,q⟩|q
 ·refine thn (h b s g H {D with nx:=λc e=>∃o,e a=some (.frz o (.dT d))/\D.nx c (upd e a (.dT d))} I q) λf s1 J=>?_;cases f with
  |next =>
   obtain⟨c,H1,L,o,U,J⟩:=J;exact⟨c,_,L.thaw U (I.nfz i),J⟩
  |_=>exact J
 ·exact h b s g H D I q
theorem yB{H:Hp}:∀{d:ab (ab Key)} {bs:ab V} {g:ab bb},Paired (rR H) d bs->Vals bs g->Paired (λk v=>∃b,v=Value.ref b/\H b=some (.tup (k.map kV))) d g
 |_,_,_,.nil,h=>by cases h;exact .nil
 |_,_,_,.cons h r,i=>by
  cases i with
  |cons a b =>
   obtain⟨c,rfl,e⟩:=h;cases a;exact .cons ⟨c,rfl,e⟩ (yB r b)
theorem wq:cr X (.builtin "sorted") (λxs H Q=>∃a g J,xs=[.ref a]/\H a=some (.lst J)/\Paired (rR H) g J/\(∀k∈g,pI k)/\(2<=g.length->∀k∈g,k≠[])/\g.length<64 /\
  ∀l bs,H l=none->Paired (rR H) (srtK g) bs->Q (.ref l) (upd H l (.lst bs))):=by
 intro i s σ H xs us Q I r h;obtain⟨l,g,J,rfl,e,N,M,A,h64,q⟩:=h;obtain⟨u,rfl,B⟩:=eL r;cases B;obtain⟨z,d,n,rv,C⟩:=I.hok l _ e;have m:=yB N rv;have y:s.heap.IsList l d.toArray:=⟨_,C,rfl,n,rfl⟩;have hlv:d.length=g.length:=(dJ m).symm;refine Calls.call_function_entry kind_sorted plain_sorted entry_sorted (args_sorted1 _) ?_;refine zzd (zzt ?_);refine zzd (collect_list y ?_ (by rw[zxl];lia));refine zzd (wpAny_newList ?_ (by rw[zxl];lia));have Y:((s.heap.push (seqObj "list" #[] 0)).update s.heap.objs.size (Obj.mapSeq (· ++ d.toArray))).objs.size=s.heap.objs.size+1:=by rw[Heap.size_update,size_push']
 have U:(((s.heap.push (seqObj "list" #[] 0)).update s.heap.objs.size (Obj.mapSeq (· ++ d.toArray))).push (seqObj "list" d.toArray 0)).get? (s.heap.objs.size+1)=some (seqObj "list" d.toArray 0):=by rw[←Y];exact zzE _ rfl
 have keep:∀b o,s.heap.get? b=some o->(((s.heap.push (seqObj "list" #[] 0)).update s.heap.objs.size (Obj.mapSeq (· ++ d.toArray))).push (seqObj "list" d.toArray 0)).get? b=some o:=λb o q=>by have L:b<s.heap.objs.size:=zzD q;rw[Heap.get?_push_ne _ _ _ (by rw[Y];exact zzL (zxk L)),Heap.get?_update_ne _ _ _ _ (zzL L),Heap.get?_push_ne _ _ _ (zzL L)];exact q
 rw[Y];generalize ((s.heap.push (seqObj "list" #[] 0)).update s.heap.objs.size (Obj.mapSeq (· ++ d.toArray))).push (seqObj "list" d.toArray 0)=hB at U keep ⊢;have x:Inv X i σ H {s with heap:=hB}:=I.kept keep;refine zzd (zyz (zyN slot_list_sort ⟨_,U,rfl⟩ entry_list_sort ?body (args_list_sort _)))
 case body =>
  refine pH U (eh (lT m) λk v z=>?_) A (by lia) λh4 p c kp ho G=>?_
  ·obtain⟨T,b,rfl,j⟩:=z;exact x.tupI (M k T) j
  ·obtain⟨bs,w,p2⟩:=ye (G _ m);have E:H (s.heap.objs.size+1)=none:=I.hok.fresh (zxb _);have j:bs.length<=sizeLine:=by
    rw[←dJ w,(pG _).length_eq,zxl];lia
   exact⟨_,rfl,zzt ⟨_,rfl,.ref (s.heap.objs.size+1),upd H (s.heap.objs.size+1) (.lst bs),I.laid (λb u e=>kp b u (zzL (zxk (zzD e))) (keep b u e)) (zxb _) ⟨j,p,c,p2,ho⟩,rfl,q _ bs E w⟩⟩
end
end L2
namespace DL
open PySem PySem.Spec L2
open PyProof.Rows hiding St
variable{A B:Prop}{H H':Hp}{M M1:ab bn}{N ps:ab Str}{T:String}{Tb:TE}{a b:bn}{e l tg:dy}{fd:ck}{i n:Nat}{ifs:ab dy}{j r:Int}{mg:Str->ca bb}{o o':HO}{op op':CmpOp}{p pos py tp:Pos}{v:V}{w:World}{x y:Str}{xs ys:ab V}{α β:Type}{σ:St}
variable{K:zwW}{pp:ca bn}{M M':ab bn}{H H':Hp}{σ:St}{X:Cx}{c e:dy}{pos:Pos}{rest:ab Stmt}{es:ab dy}{x:Str}{st:Stmt}{i:Nat}
section
inductive D where
 |non|bl (b:Bool)|int (i:Int)|str (x:Str)|ty (n:String)|tup (ds:List D)|lst (ds:List D)
 |dT (ks:List (List Key)) (ds:List D)|pen|cls (C:Addr)|ins (C:Addr) (ns:List Str) (ds:List D)
variable{d:D}{ds:ab D}
inductive O where
 |val (d:D)|lst (os:List O)|dct (ks:List (List Key)) (os:List O)|tup (os:List O)
inductive Sl where
 |nil|val (d:D)|own (ds:List D)|obj (o:O)|pin (v:V) (d:D)
variable{s:Sl}
section
variable(K:zwW)(pp:ca bn)(M:ab bn)(H:Hp)
mutual
def Rep:D->V->Prop
 |.non,v=>v=.non|.bl b,v=>v=.bl b|.int i,v=>v=.int i|.str x,v=>v=.str x|.ty n,v=>v=.ty n|.tup ds,v=>∃a xs,v=.ref a/\H a=some (.tup xs)/\Reps ds xs|.lst ds,v=>∃a xs,v=.ref a/\a∉M/\pp≠some a/\H a=some (.lst xs)/\Reps ds xs|.dT k ds,v=>∃a g,v=.ref a/\a∉M/\pp≠some a/\Rd H a (.dT g)/\g.map (·.1)=k/\Reps ds (g.map (·.2))|.pen,v=>∃p,v=.ref p/\pp=some p/\∃a h t l,Pen K H p a h t l|.cls C,v=>v=.ref C|.ins C h ds,v=>∃a dx fs,v=.ref a/\a∉M/\pp≠some a/\H a=some (.ins C dx fs)/\fs.map (·.1)=h/\Reps ds (fs.map (·.2))
def Reps:ab D->ab V->Prop
 |[],xs=>xs=[]|d::ds,xs=>∃x r,xs=x::r/\Rep d x/\Reps ds r
end
end
section
variable{M'':ab bn}{H'':Hp}
class TB where
 tb:List (Addr×Str)
instance(priority:=low) TB.none:TB:=⟨[]⟩
def Tabs[TB](H:Hp):Prop:=∀P L,TB.tb.lookup P=some L->∃ps,H P=some (.tbl ps)/\TriplesOk ps.toList /\
 ∀pos J,codeAmong pos ps.toList=some J->∃c g u h t,J=.ref c/\H c=some (.frz g u)/\g.data=.fields h/\h[1]?=some (.str L t)
def TF(o:HO):Prop:=(∃ps,o=.tbl ps)∨∃g u,o=.frz g u
theorem Tabs.of[TB](h:Tabs H)(k:∀b o,H b=some o->TF o->H' b=some o):Tabs H':=λP z m=>by obtain⟨ps,L,U,Y⟩:=h P z m;refine⟨ps,k _ _ L (.inl ⟨_,rfl⟩),U,λpos J e=>?_⟩;obtain⟨c,q,u,C,t,f1,f2,g⟩:=Y pos J e;exact⟨c,q,u,C,t,f1,k _ _ f2 (.inr ⟨_,_,rfl⟩),g⟩
theorem Tabs.upd[TB]{H:Hp}{l:bn}{o o':HO}(h:Tabs H)(g:H l=some o)(J:¬TF o):Tabs (upd H l o') :=
 h.of λb x e L=>by
  rw[af]
  ·exact e
  ·rintro rfl;rw[g]at e;cases e;exact J L
theorem Tabs.new[TB]{l:bn}(h:Tabs H)(g:H l=none):Tabs (L2.upd H l o') :=
 h.of λb x e _=>cW g e
theorem ny:¬TF (.lst xs):=by rintro(⟨_,e⟩|⟨_,_,e⟩)<;>cases e
theorem yC{xs:ab (ab Key×V)}:¬TF (.dT xs):=by rintro(⟨_,e⟩|⟨_,_,e⟩)<;>cases e
def NT(o:HO):Prop:=∀ps,o ≠ .tbl ps
def NP(pp:ca bn)(a:bn)(o:HO):Prop:=pp≠some a/\NT o
theorem np{pp:ca bn}(h:pp≠some a)(t:NT o:=by intro _ z;cases z):NP pp a o:=⟨h,t⟩
structure Mv[TB](K:zwW)(pp:Option Addr)(M:List Addr)(H:Hp)(M':List Addr)(H':Hp):Prop where
 tup:∀a xs,H a=some (.tup xs)->H' a=some (.tup xs)
 oth:∀a o,H a=some o->a∉M->NP pp a o->H' a=some o/\a∉M'
 pen:∀p,pp=some p->(∃a ns t l,Pen K H p a ns t l)->∃a ns t l,Pen K H' p a ns t l
 tb:Tabs H->Tabs H'
variable[TB]
theorem Mv.lst(m:Mv K pp M H M' H')(a:bn)(xs:ab V)(h:H a=some (.lst xs))(n:a∉M)(q:pp≠some a):H' a=some (.lst xs)/\a∉M':=m.oth a _ h n (np q)
theorem Mv.refl:Mv K pp M H M H:=⟨λ_ _ h=>h,λ_ _ h n _=>⟨h,n⟩,λ_ _ h=>h,λh=>h⟩
theorem Mv.trans(x:Mv K pp M H M' H')(y:Mv K pp M' H' M'' H''):Mv K pp M H M'' H'' :=
 ⟨λa xs h=>y.tup a xs (x.tup a xs h),λa xs h n q=>y.oth a xs (x.oth a xs h n q).1 (x.oth a xs h n q).2 q,λp e h=>y.pen p e (x.pen p e h),λh=>y.tb (x.tb h)⟩
mutual
theorem Rep.mv(m:Mv K pp M H M' H'):∀(d:D) (v:V),Rep K pp M H d v->Rep K pp M' H' d v
 |.non,_,h=>by simp only[Rep]at h ⊢;exact h
 |.bl _,_,h=>by simp only[Rep]at h ⊢;exact h
 |.int _,_,h=>by simp only[Rep]at h ⊢;exact h
 |.str _,_,h=>by simp only[Rep]at h ⊢;exact h
 |.ty _,_,h=>by simp only[Rep]at h ⊢;exact h
 |.tup ds,_,h=>by simp only[Rep]at h ⊢;obtain⟨a,xs,e,g,k⟩:=h;exact⟨a,xs,e,m.tup a xs g,Reps.mv m ds xs k⟩
 |.lst ds,_,h=>by simp only[Rep]at h ⊢;obtain⟨a,xs,e,h0,J,g,k⟩:=h;exact⟨a,xs,e,(m.lst a xs g h0 J).2,J,(m.lst a xs g h0 J).1,Reps.mv m ds xs k⟩
 |.dT ks ds,_,h=>by
  simp only[Rep]at h ⊢;obtain⟨a,xs,e,h0,J,g,k,q⟩:=h;rcases g with g|⟨o,g⟩
  ·exact⟨a,xs,e,(m.oth a _ g h0 (np J)).2,J,.inl (m.oth a _ g h0 (np J)).1,k,Reps.mv m ds _ q⟩
  ·exact⟨a,xs,e,(m.oth a _ g h0 (np J)).2,J,.inr ⟨o,(m.oth a _ g h0 (np J)).1⟩,k,Reps.mv m ds _ q⟩
 |.pen,_,h=>by simp only[Rep]at h ⊢;obtain⟨p,e,L,h⟩:=h;exact⟨p,e,L,m.pen p L h⟩
 |.cls _,_,h=>by simp only[Rep]at h ⊢;exact h
 |.ins C ns ds,_,h=>by simp only[Rep]at h ⊢;obtain⟨a,dx,xs,e,h0,J,g,k,q⟩:=h;exact⟨a,dx,xs,e,(m.oth a _ g h0 (np J)).2,J,(m.oth a _ g h0 (np J)).1,k,Reps.mv m ds _ q⟩
theorem Reps.mv(m:Mv K pp M H M' H'):∀(ds:ab D) (xs:ab V),Reps K pp M H ds xs->Reps K pp M' H' ds xs
 |[],_,h=>by simp only[Reps]at h ⊢;exact h
 |d::ds,_,h=>by simp only[Reps]at h ⊢;obtain⟨x,r,e,g,k⟩:=h;exact⟨x,r,e,Rep.mv m d x g,Reps.mv m ds r k⟩
end
theorem Reps.length:∀{ds:ab D} {xs:ab V},Reps K pp M H ds xs->ds.length=xs.length
 |[],_,h=>by simp only[Reps]at h;subst h;rfl
 |_::_,_,h=>by obtain⟨x,r,rfl,_,g⟩:=h;simp[Reps.length g]
theorem Reps.get':∀{ds:ab D} {xs:ab V} {i:Nat} {d:D},Reps K pp M H ds xs->ds[i]?=some d->∃x,xs[i]?=some x/\Rep K pp M H d x
 |[],_,_,_,h,e=>by simp at e
 |d::ds,_,0,x,h,e=>by obtain⟨y,r,rfl,g,k⟩:=h;simp at e;subst e;exact⟨y,rfl,g⟩
 |d::ds,_,i+1,x,h,e=>by obtain⟨y,r,rfl,g,k⟩:=h;obtain⟨J,L,U⟩:=Reps.get' k (by simpa using e);exact⟨J,by simpa using L,U⟩
theorem Reps.append:∀{ds es:ab D} {xs ys:ab V},Reps K pp M H ds xs->Reps K pp M H es ys->Reps K pp M H (ds++es) (xs++ys)
 |[],_,_,_,h,q=>by simp only[Reps]at h;subst h;exact q
 |d::ds,_,_,_,h,q=>by obtain⟨y,r,rfl,g,k⟩:=h;exact⟨y,_,rfl,g,Reps.append k q⟩
theorem Reps.drop:∀{ds:ab D} {xs:ab V} (n:Nat),Reps K pp M H ds xs->Reps K pp M H (ds.drop n) (xs.drop n)
 |_,_,0,h=>h|[],_,n+1,h=>by simp only[Reps]at h;subst h;simp[Reps]
 |d::ds,_,n+1,h=>by obtain⟨y,r,rfl,h1,g⟩:=h;exact Reps.drop n g
theorem Reps.take:∀{ds:ab D} {xs:ab V} (n:Nat),Reps K pp M H ds xs->Reps K pp M H (ds.take n) (xs.take n)
 |_,_,0,h=>by simp[Reps]
 |[],_,n+1,h=>by simp only[Reps]at h;subst h;simp[Reps]
 |d::ds,_,n+1,h=>by obtain⟨y,r,rfl,g,k⟩:=h;exact⟨y,_,rfl,g,Reps.take n k⟩
theorem Reps.set{d:D}{x:V}(hd:Rep K pp M H d x):∀{ds:ab D} {xs:ab V} (n:Nat),Reps K pp M H ds xs->Reps K pp M H (ds.set n d) (xs.set n x)
 |[],_,n,h=>by simp only[Reps]at h;subst h;simp[Reps]
 |e::ds,_,0,h=>by obtain⟨y,r,rfl,k,g⟩:=h;exact⟨x,r,rfl,hd,g⟩
 |e::ds,_,n+1,h=>by obtain⟨y,r,rfl,k,g⟩:=h;exact⟨y,_,rfl,k,Reps.set hd n g⟩
theorem Reps.one{x:V}(h:Rep K pp M H d x):Reps K pp M H [d] [x]:=by  exact⟨x,[],rfl,h,rfl⟩
theorem Reps.nil:Reps K pp M H [] []:=by simp only[Reps]
theorem Reps.cons{d:D}{x:V}(h:Rep K pp M H d x)(q:Reps K pp M H ds xs):Reps K pp M H (d::ds) (x::xs):=by  exact⟨x,xs,rfl,h,q⟩
def NW(pp:ca bn)(b:bn)(o:HO):Prop:=(pp=some b->∀xs,o ≠ .lst xs)/\NT o
theorem nw{pp:ca bn}(h:pp≠some b)(t:NT o:=by intro _ z;cases z):NW pp b o:=⟨λz=>absurd z h,t⟩
structure SameQ(K:zwW)(pp:Option Addr)(H H':Hp):Prop where
 keep:∀b o,H b=some o->NW pp b o->H' b=some o
 pen:∀p,pp=some p->(∃a ns t l,Pen K H p a ns t l)->∃a ns t l,Pen K H' p a ns t l
 live:∀b,H b≠none->H' b≠none
structure SameP(K:zwW)(pp:Option Addr)(H H':Hp):Prop extends SameQ K pp H H' where
 tb:Tabs H->Tabs H'
theorem SameQ.refl:SameQ K pp H H:=⟨λ_ _ h _=>h,λ_ _ h=>h,λ_ h=>h⟩
theorem SameP.refl:SameP K pp H H:=⟨.refl,λh=>h⟩
theorem SameQ.trans(x:SameQ K pp H H')(y:SameQ K pp H' H''):SameQ K pp H H'' :=
 ⟨λb o h n=>y.keep b o (x.keep b o h n) n,λp e h=>y.pen p e (x.pen p e h),λb h=>y.live b (x.live b h)⟩
theorem SameP.trans(x:SameP K pp H H')(y:SameP K pp H' H''):SameP K pp H H'':=⟨x.toSameQ.trans y.toSameQ,λh=>y.tb (x.tb h)⟩
theorem SameP.of(s:Same H H'):SameP K pp H H':=⟨⟨λb o h _=>s b o h,λ_ _ ⟨a,g,t,l,h⟩=>⟨a,g,t,l,h.same s⟩,λb h e=>by
 cases q:H b with
 |none=>exact h q|some o=>rw[s b o q]at e;cases e⟩,λh=>h.of λb o e _=>s b o e⟩
theorem SameP.new{l:bn}(h:H l=none):SameP K pp H (upd H l o):=.of (ur h)
theorem SameP.mv(s:SameP K pp H H'):Mv K pp M H M H' :=
 ⟨λa xs h=>s.keep a _ h ⟨λ_ _ z=>(by cases z),λ_ z=>(by cases z)⟩,λa xs h n q=>⟨s.keep a _ h ⟨λz=>absurd z q.1,q.2⟩,n⟩,s.pen,s.tb⟩
theorem Mv.new{l:bn}{o:HO}(h:H l=none):Mv K pp M H M (upd H l o):=(SameP.new h).mv
theorem Mv.newOwn{l:bn}(h:H l=none):Mv K pp M H (l::M) (upd H l o) :=
 ⟨λa xs e=>cW h e,λa xs e n q=>⟨cW h e,by
  intro z;rcases zzi.mp z with rfl|z
  ·rw[h]at e;cases e
  ·exact n z⟩,(SameP.new h).pen,λt=>t.new h⟩
theorem Mv.less{l:ab bn}(h:∀a∈l,a∈M):Mv K pp M H l H:=⟨λ_ _ h=>h,λa xs e n _=>⟨e,λz=>n (h a z)⟩,λ_ _ h=>h,λh=>h⟩
theorem Ef{p l:bn}(m:H l=some (.lst xs))(J:p≠l):(∃a g t k,Pen K H p a g t k)->∃a g t k,Pen K (upd H l (.lst ys)) p a g t k:=by
 rintro⟨a,g,t,k,h⟩;refine⟨a,g,t,k,?_,?_,h.t0⟩
 ·rw[af J];exact h.lst
 ·rcases h.scr with ⟨o,e⟩|e
  ·refine .inl ⟨o,?_⟩;rw[af (kY e m (by intro z;cases z))];exact e
  ·exact .inr e
theorem Mv.write{l:bn}(g:H l=some (.lst xs))(k:l∈M)(J:pp≠some l):Mv K pp M H M (upd H l (.lst ys)) :=
 ⟨λa L e=>by rw[af (kY e g (by intro z;cases z))];exact e,
  λa L e n q=>⟨by rw[af (by rintro rfl;exact n k)];exact e,n⟩,
  λp e h=>Ef g (by rintro rfl;exact J e) h,λt=>t.upd g ny⟩
end
section
variable(K:zwW)(pp:ca bn)(M:ab bn)(H:Hp)
mutual
def RO:O->V->ab bn->Prop
 |.val d,v,A=>A=[]/\Rep K pp M H d v|.lst os,v,A=>∃a xs B,v=.ref a/\H a=some (.lst xs)/\A=a::B/\ROs os xs B|.dct h os,v,A=>∃a g B,v=.ref a/\H a=some (.dT g)/\g.map (·.1)=h/\A=a::B/\ROs os (g.map (·.2)) B|.tup os,v,A=>∃a xs,v=.ref a/\H a=some (.tup xs)/\ROs os xs A
def ROs:ab O->ab V->ab bn->Prop
 |[],xs,A=>xs=[]/\A=[]|o::os,xs,A=>∃x r B C,xs=x::r/\A=B++C/\RO o x B/\ROs os r C
end
end
section
variable[TB]
mutual
theorem RO.mv(m:Mv K pp M H M' H'):∀(q:O) (v:V) (A:ab bn),(∀a∈A,∀o,H a=some o->NT o->H' a=some o)->RO K pp M H q v A->RO K pp M' H' q v A
 |.val d,v,A,_,h=>by simp only[RO]at h ⊢;exact⟨h.1,Rep.mv m d v h.2⟩
 |.lst os,v,A,k,h=>by simp only[RO]at h ⊢;obtain⟨a,xs,B,e,g,rfl,r⟩:=h;exact⟨a,xs,B,e,k a zze _ g (by intro _ z;cases z),rfl,ROs.mv m os xs B (λb J=>k b (zzb _ J)) r⟩
 |.dct ks os,v,A,k,h=>by simp only[RO]at h ⊢;obtain⟨a,u,B,e,g,L,rfl,r⟩:=h;exact⟨a,u,B,e,k a zze _ g (by intro _ z;cases z),L,rfl,ROs.mv m os _ B (λb J=>k b (zzb _ J)) r⟩
 |.tup os,v,A,k,h=>by simp only[RO]at h ⊢;obtain⟨a,xs,e,g,r⟩:=h;exact⟨a,xs,e,m.tup a xs g,ROs.mv m os xs A k r⟩
theorem ROs.mv(m:Mv K pp M H M' H'):∀(os:ab O) (xs:ab V) (A:ab bn),(∀a∈A,∀o,H a=some o->NT o->H' a=some o)->ROs K pp M H os xs A->ROs K pp M' H' os xs A
 |[],xs,A,_,h=>by simp only[ROs]at h ⊢;exact h
 |o::os,xs,A,k,h=>by simp only[ROs]at h ⊢;obtain⟨x,r,B,C,e,rfl,g,q⟩:=h;exact⟨x,r,B,C,e,rfl,RO.mv m o x B (λb J=>k b (zzA.mpr (.inl J))) g,ROs.mv m os r C (λb J=>k b (zzA.mpr (.inr J))) q⟩
end
mutual
def fzO:O->D
 |.val d=>d|.lst os=>.lst (fzOs os)|.dct g os=>.dT g (fzOs os)|.tup os=>.tup (fzOs os)
def fzOs:ab O->ab D
 |[]=>[]|o::os=>fzO o::fzOs os
end
mutual
theorem RO.fz(m:Mv K pp M H M' H):∀(q:O) (v:V) (A:ab bn),(∀a∈A,a∉M'/\pp≠some a)->RO K pp M H q v A->Rep K pp M' H (fzO q) v
 |.val d,v,A,_,h=>by simp only[RO]at h;simp only[fzO];exact Rep.mv m d v h.2
 |.lst os,v,A,k,h=>by simp only[RO]at h;simp only[fzO,Rep];obtain⟨a,xs,B,e,g,rfl,r⟩:=h;exact⟨a,xs,e,(k a zze).1,(k a zze).2,g,ROs.fz m os xs B (λb J=>k b (zzb _ J)) r⟩
 |.dct ks os,v,A,k,h=>by simp only[RO]at h;simp only[fzO,Rep];obtain⟨a,u,B,e,g,L,rfl,r⟩:=h;exact⟨a,u,e,(k a zze).1,(k a zze).2,.inl g,L,ROs.fz m os _ B (λb J=>k b (zzb _ J)) r⟩
 |.tup os,v,A,k,h=>by simp only[RO]at h;simp only[fzO,Rep];obtain⟨a,xs,e,g,r⟩:=h;exact⟨a,xs,e,g,ROs.fz m os xs A k r⟩
theorem ROs.fz(m:Mv K pp M H M' H):∀(os:ab O) (xs:ab V) (A:ab bn),(∀a∈A,a∉M'/\pp≠some a)->ROs K pp M H os xs A->Reps K pp M' H (fzOs os) xs
 |[],xs,A,_,h=>by simp only[ROs]at h;simp only[fzOs,Reps];exact h.1
 |o::os,xs,A,k,h=>by simp only[ROs]at h;simp only[fzOs,Reps];obtain⟨x,r,B,C,e,rfl,g,q⟩:=h;exact⟨x,r,e,RO.fz m o x B (λb J=>k b (zzA.mpr (.inl J))) g,ROs.fz m os r C (λb J=>k b (zzA.mpr (.inr J))) q⟩
end
theorem jh:∀os:ab O,fzOs os=os.map fzO
 |[]=>rfl|o::os=>by simp only[fzOs,zzj,jh os]
end
structure Fx where
 pp:Option Addr
 M0:List Addr
 H0:Hp
noncomputable abbrev DS:=ab Sl
variable[TB]
class Frm where
 L:zwW->Fx->List Addr->Hp->Prop
 W:DS->Addr->Prop
 cl:∀K (F:Fx) M H M' H',L K F M H->Mv K F.pp M H M' H'->L K F M' H'
instance(priority:=low) Frm.free:Frm:=⟨λ_ _ _ _=>True,λ_ _=>False,λ_ _ _ _ _ _ h _=>h⟩
variable[Frm]
structure Lv0(pp:Option Addr)(M:List Addr)(H:Hp):Prop where
 m:∀a∈M,H a≠none
 p:∀p,pp=some p->H p≠none
structure Lv(pp:Option Addr)(M:List Addr)(H:Hp):Prop extends Lv0 pp M H where
 t:Tabs H
theorem Lv0.sameQ{K:zwW}{pp:ca bn}(l:Lv0 pp M H)(s:SameQ K pp H H'):Lv0 pp M H' :=
 ⟨λa g=>s.live a (l.m a g),λp e=>s.live p (l.p p e)⟩
theorem Lv.sameP{K:zwW}{pp:ca bn}(l:Lv pp M H)(s:SameP K pp H H'):Lv pp M H':=⟨l.toLv0.sameQ s.toSameQ,s.tb l.t⟩
theorem Lv0.fresh{pp:ca bn}(l:Lv0 pp M H)(h:H a=none):a∉M/\pp≠some a:=⟨λz=>l.m a z h,λz=>l.p a z h⟩
structure Lk(K:zwW)(F:Fx)(M:List Addr)(H:Hp):Prop where
 l:Frm.L K F M H
 t:Tabs H
theorem Lk.cl{K:zwW}{F:Fx}{M M':ab bn}{H H':Hp}(h:Lk K F M H)(m:Mv K F.pp M H M' H'):Lk K F M' H':=⟨Frm.cl _ _ _ _ _ _ h.l m,m.tb h.t⟩
section
variable(K:zwW)(F:Fx)(M:ab bn)(H:Hp)
def RSl:Sl->ca V->Prop
 |.nil,_=>True|.val d,o=>∃v,o=some v/\Rep K F.pp M H d v|.own ds,o=>∃l xs,o=some (.ref l)/\l∈M/\F.H0 l=none/\F.pp≠some l/\H l=some (.lst xs)/\Reps K F.pp M H ds xs|.obj _,o=>∃v,o=some v|.pin w d,o=>∃v,o=some v/\v=w/\Rep K F.pp M H d v
def Ow:Sl->ca V->ab bn->Prop
 |.own _,o,A=>∃l,o=some (.ref l)/\A=[l]|.obj q,o,A=>A.Nodup/\∃v,o=some v/\RO K F.pp M H q v A|_,_,_=>True
def OwF(σ:St)(ρ:DS):Prop:=∃J:Nat->ab bn,(∀(i:Nat) s o,ρ[i]?=some s->σ[i]?=some o->Ow K F M H s o (J i))/\(∀i,∀a∈J i,a∈M/\F.H0 a=none/\F.pp≠some a)/\∀i j,i≠j->∀a∈J i,a∉J j
structure RSt(σ:St)(ρ:DS):Prop where
 len:σ.length=ρ.length
 sl:∀(i:Nat) s o,ρ[i]? = some s->σ[i]? = some o->RSl K F M H s o
 ow:OwF K F M H σ ρ
 sub:∀a∈F.M0,a∈M
 same:SameQ K F.pp F.H0 H
 old:∀a∈F.M0,F.H0 a≠none
 liv0:Lv0 F.pp M H
 lk:Lk K F M H
end
section
variable{F:Fx}{ρ:DS}
theorem RSt.liv(r:RSt K F M H σ ρ):Lv F.pp M H:=⟨r.liv0,r.lk.t⟩
theorem RSt.sameT(r:RSt K F M H σ ρ):SameP K F.pp F.H0 H:=⟨r.same,λ_=>r.lk.t⟩
theorem RSt.h0(r:RSt K F M H σ ρ){l:bn}(g:H l=none):F.H0 l=none:=by
 cases e:F.H0 l with
 |none=>rfl|some o=>exact absurd g (r.same.live l (by rw[e];intro z;cases z))
omit [Frm] in
theorem Ow.mv{s:Sl}{o:ca V}{A:ab bn}(m:Mv K F.pp M H M' H')(k:∀a∈A,∀x,H a=some x->NT x->H' a=some x)(h:Ow K F M H s o A):Ow K F M' H' s o A:=by
 cases s with
 |nil=>trivial|val d=>trivial|pin w d=>trivial|own ds=>exact h|obj q =>
  obtain⟨g,v,e,h⟩:=h;exact⟨g,v,e,RO.mv m q v A k h⟩
omit [Frm] in
theorem OwF.keep(h:OwF K F M H σ ρ)(m:Mv K F.pp M H M' H')(k:∀a,a∈M->F.pp≠some a->F.H0 a=none->a∈M'/\∀x,H a=some x->NT x->H' a=some x):OwF K F M' H' σ ρ:=by obtain⟨J,u,q,z⟩:=h;refine⟨J,λi s o L U=>(u i s o L U).mv m λa g=>(k a (q i a g).1 (q i a g).2.2 (q i a g).2.1).2,λi a g=>⟨(k a (q i a g).1 (q i a g).2.2 (q i a g).2.1).1,(q i a g).2⟩,z⟩
omit [Frm] in
theorem OwF.step{u:St}{ρ':DS}(h:OwF K F M H σ ρ)(m:Mv K F.pp M H M' H')(i:Nat)(Q:∀j,j≠i->u[j]?=σ[j]?)(I:∀j,j≠i->ρ'[j]?=ρ[j]?)
  (k:∀A,(∀s o,ρ[i]?=some s->σ[i]?=some o->Ow K F M H s o A)->(∀a∈A,a∈M/\F.H0 a=none/\F.pp≠some a)->∃B,(∀s o,ρ'[i]?=some s->u[i]?=some o->Ow K F M' H' s o B) /\
   (∀b∈B,b∈M'/\F.H0 b=none/\F.pp≠some b/\(b∈A∨b∉M))/\∀a,a∈M->F.pp≠some a->F.H0 a=none->a∉A->a∈M'/\∀x,H a=some x->NT x->H' a=some x):OwF K F M' H' u ρ':=by
 obtain⟨L,G,q,E⟩:=h;obtain⟨B,c,C,d⟩:=k (L i) (G i) (q i);have old:∀j,j≠i->∀a∈L j,a∈M'/\∀x,H a=some x->NT x->H' a=some x:=λj e a g=>d a (q j a g).1 (q j a g).2.2 (q j a g).2.1 (E j i e a g);refine⟨λj=>if j=i then B else L j,λj s o U Y=>?_,λj a g=>?_,λj l e a g J=>?_⟩
 ·show Ow K F M' H' s o (if j=i then B else L j);by_cases e:j=i
  ·subst e;rw[zzk rfl];exact c s o U Y
  ·rw[zzh e];rw[I j e]at U;rw[Q j e]at Y;exact(G j s o U Y).mv m λa g=>(old j e a g).2
 ·replace g:a∈(if j=i then B else L j):=g
  by_cases e:j=i
  ·subst e;rw[zzk rfl]at g;exact⟨(C a g).1,(C a g).2.1,(C a g).2.2.1⟩
  ·rw[zzh e]at g;exact⟨(old j e a g).1,(q j a g).2⟩
 ·replace g:a∈(if j=i then B else L j):=g
  replace J:a∈(if l=i then B else L l):=J
  by_cases U:j=i
  ·subst U;rw[zzk rfl]at g;rw[zzh (Ne.symm e)]at J;rcases (C a g).2.2.2 with z|z
   ·exact E j l e a z J
   ·exact z (q l a J).1
  ·rw[zzh U]at g;by_cases Y:l=i
   ·subst Y;rw[zzk rfl]at J;rcases (C a J).2.2.2 with z|z
    ·exact E j l e a g z
    ·exact z (q j a g).1
   ·rw[zzh Y]at J;exact E j l e a g J
omit [Frm] in
theorem OwF.none(h:∀(i:Nat) s,ρ[i]?=some s->(∀ds,s ≠ .own ds)/\∀q,s ≠ .obj q):OwF K F M H σ ρ:=by
 refine⟨λ_=>[],λi s o J _=>?_,λ_ _ h=>(by simp at h),λ_ _ _ _ h=>(by simp at h)⟩;cases s with
 |nil=>trivial|val d=>trivial|pin w d=>trivial|own ds=>exact absurd rfl ((h i _ J).1 ds)|obj q=>exact absurd rfl ((h i _ J).2 q)
theorem RSt.own(r:RSt K F M H σ ρ)(i j:Nat)(ds es:ab D)(a:bn)(h:ρ[i]?=some (.own ds))(k:ρ[j]?=some (.own es))(m:σ[i]?=some (some (.ref a)))(U:σ[j]?=some (some (.ref a))):i=j:=by
 obtain⟨As,g,k2,Y⟩:=r.ow;obtain⟨l,e,J⟩:=g i _ _ h m;cases e;obtain⟨l,e,L⟩:=g j _ _ k U;cases e;by_cases z:i=j
 ·exact z
 ·exact absurd (by rw[L];simp) (Y i j z a (by rw[J];simp))
omit [Frm] in
theorem SameP.ow(s:SameP K F.pp H H')(a:bn)(_:a∈M)(p:F.pp≠some a)(_:F.H0 a=none):a∈M/\∀x,H a=some x->NT x->H' a=some x:=⟨‹_›,λx e n=>s.keep a x e (nw p n)⟩
theorem RSt.sameP(r:RSt K F M H σ ρ)(s:SameP K F.pp H H'):RSt K F M H' σ ρ:=by
 refine⟨r.len,λi q o g k=>?_,r.ow.keep s.mv λa g k m=>s.ow a g k m,r.sub,r.same.trans s.toSameQ,r.old,r.liv0.sameQ s.toSameQ,r.lk.cl s.mv⟩;have:=r.sl i q o g k;cases q with
 |nil=>trivial|val d=>obtain⟨v,e,h⟩:=this;exact⟨v,e,h.mv s.mv⟩
 |pin w d=>obtain⟨v,e,L,h⟩:=this;exact⟨v,e,L,h.mv s.mv⟩
 |own ds =>
  obtain⟨l,xs,e,z,h0,J,u,U⟩:=this;exact⟨l,xs,e,z,h0,J,s.keep l _ u (nw J),U.mv s.mv⟩
 |obj q=>exact this
theorem RSt.at(r:RSt K F M H σ ρ)(h:ρ[i]?=some s):∃o,σ[i]?=some o/\RSl K F M H s o:=by
 have g:i<σ.length:=by rw[r.len];exact(zzy.mp h).1
 exact⟨σ[i],by simp[g],r.sl i s _ h (by simp[g])⟩
omit [Frm] in
theorem OwF.drop{g:St}{ρ':DS}(h:OwF K F M H σ ρ)(i:Nat)(L:∀j,j≠i->g[j]?=σ[j]?)(J:∀j,j≠i->ρ'[j]?=ρ[j]?)(k:∀s,ρ'[i]?=some s->(∀ds,s ≠ .own ds)/\∀q,s ≠ .obj q):OwF K F M H g ρ' :=
 h.step .refl i L J λA _ _=>⟨[],λs o e _=>(by
  cases s with
  |nil=>trivial|val d=>trivial|pin w d=>trivial|own ds=>exact absurd rfl ((k _ e).1 ds)|obj q=>exact absurd rfl ((k _ e).2 q)),λ_ h=>(by simp at h),λa m _ _ _=>⟨m,λ_ e _=>e⟩⟩
omit [Frm] in
theorem aV{l:ab α}{x y:α}(h:(l.set i x)[i]?=some y):y=x:=by
 have g:i<l.length:=by have:=(zzy.mp h).1;simpa using this
 simp[g]at h;exact h.symm
theorem RSt.set(r:RSt K F M H σ ρ){d:D}{v:V}(h:Rep K F.pp M H d v)(i:Nat):RSt K F M H (σ.set i (some v)) (ρ.set i (.val d)):=by
 refine⟨by simp[r.len],λj s o g k=>?_,r.ow.drop i (λj e=>zzP (Ne.symm e)) (λj e=>zzP (Ne.symm e)) (λs e=>?_),r.sub,r.same,r.old,r.liv0,r.lk⟩
 ·by_cases e:i=j
  ·subst e;rw[aV g,aV k];exact⟨v,rfl,h⟩
  ·rw[zzP e]at g k;exact r.sl j s o g k
 ·rw[aV e];exact⟨λds z=>(by cases z),λq z=>(by cases z)⟩
end
end
variable[TB]
section
variable[Frm]
noncomputable abbrev DE:=DS->(D->DS->Prop)->Prop
variable{ta te:DE}
noncomputable abbrev DT:=DS->(Bool->DS->Prop)->Prop
variable{tc:DT}
noncomputable abbrev DA:=DS->(ab D->DS->Prop)->Prop
variable{tl:DA}
structure DEnds where
 nx:DS->Prop
 rt:D->Prop
 bk:DS->Prop:=λ_=>False
 ct:DS->Prop:=λ_=>False
variable{E:DEnds}
noncomputable abbrev DTS:=DEnds->DS->Prop
variable{tb:DTS}
noncomputable def slot:DS->Nat->Sl
 |[],_=>.nil|s::_,0=>s|_::r,n+1=>slot r n
theorem aD{ρ:DS}{s:Sl}(h:slot ρ i=s)(n:s ≠ .nil:=by intro z;cases z):ρ[i]?=some s:=by
 induction ρ generalizing i with
 |nil=>exact absurd h.symm n|cons x r J=>cases i with
  |zero=>subst h;rfl|succ i=>simpa using J h
section
variable{F:Fx}
def RT(K:zwW){α β:Type}(R:ca bn->ab bn->Hp->α->β->Prop)(T:St->Hp->(β->Hp->Prop)->Prop)(t:DS->(α->DS->Prop)->Prop):Prop :=
 ∀{F:Fx} {M H σ ρ Q P},RSt K F M H σ ρ->t ρ P->(∀{d g M' H' v},P d g->Mv K F.pp M H M' H'->RSt K F M' H' σ g->R F.pp M' H' d v->Q v H')->T σ H Q
def RU(K:zwW){α:Type}(T:St->Hp->(α->Hp->Prop)->Prop)(t:DS->(α->DS->Prop)->Prop):Prop :=
 ∀{F:Fx} {M H σ ρ Q P},RSt K F M H σ ρ->t ρ P->(∀{d g M' H'},P d g->Mv K F.pp M H M' H'->RSt K F M' H' σ g->Q d H')->T σ H Q
def PED(X:Cx)(e:dy)(t:DE):Prop:=∃T:TE,PE X e T/\RT X.K (Rep X.K) T t
def PTD(X:Cx)(e:dy)(t:DT):Prop:=∃T:TT,PT X e T/\RU X.K T t
def PWD(X:Cx)(e:dy)(t:DT):Prop:=∃T:TT,PW X e T/\RU X.K T t
def PAD(X:Cx)(es:ab dy)(t:DA):Prop:=∃T:TA,PA X es T/\RT X.K (Reps X.K) T t
noncomputable abbrev dC(d:D):DE:=λg Q=>Q d g
theorem PED.con{d:D}(h:PE X e (tC v))(r:∀pp M H,Rep X.K pp M H d v):PED X e (dC d) :=
 ⟨_,h,λJ q k=>k q .refl J (r _ _ _)⟩
theorem ad{i j pos}:PED X (.Constant (.int i) j pos) (dC (.int i)):=.con bA λ_ _ _=>by simp only[Rep]
theorem ie{i j pos}:PED X (.Constant (.bool i) j pos) (dC (.bl i)):=.con Je λ_ _ _=>by simp only[Rep]
theorem dn{j pos}:PED X (.Constant .none j pos) (dC .non):=.con FL λ_ _ _=>by simp only[Rep]
theorem ag{i j pos}:PED X (.Constant (.str i) j pos) (dC (.str i)):=.con FM λ_ _ _=>by simp only[Rep]
theorem yD{n:String}(J:Gl X x)(d:X.mg x=none)(L:bootBuiltins x=some (.type n))(g:x ≠ "__name__":=by decide)(hd:(x==("__debug__" : Str))=false:=by decide):PED X (.Name x pos) (dC (.ty n)) :=
 .con (Di (v:=.ty n) J d L rfl g hd) λ_ _ _=>by simp only[Rep]
def Eg(i:Nat)(ρ:DS)(Q:D->DS->Prop):Sl->Prop
 |.val d=>Q d ρ|.own g=>Q (.lst g) (ρ.set i (.val (.lst g)))|.obj q=>Q (fzO q) (ρ.set i (.val (fzO q)))|.pin _ d=>Q d ρ|.nil=>False
noncomputable abbrev dVar(i:Nat):DE:=λd Q=>Eg i d Q (slot d i)
theorem RSt.freeze{K:zwW}{ρ:DS}{ds:ab D}(r:RSt K F M H σ ρ)(h:ρ[i]?=some (.own ds)) :
  ∃M' v,σ[i]?=some (some v)/\Mv K F.pp M H M' H/\RSt K F M' H σ (ρ.set i (.val (.lst ds)))/\Rep K F.pp M' H (.lst ds) v:=by
 obtain⟨o,C,l,xs,rfl,hm,h0,E,y,N⟩:=r.at h;have m:Mv K F.pp M H (M.filter λa=>decide (a≠l)) H:=.less λa g=>(zzQ.mp g).1;have I:Rep K F.pp (M.filter λa=>decide (a≠l)) H (.lst ds) (.ref l):=by exact⟨l,xs,rfl,by simp,E,y,N.mv m⟩
 refine⟨_,_,C,m,⟨by simp[r.len],λj s o k u=>?_,r.ow.step m i (λ_ _=>rfl) (λj e=>zzP (Ne.symm e)) (λA x _=>⟨[],λs o e _=>?_,λ_ h=>(by simp at h),λa g _ _ B=>⟨?_,λ_ e _=>e⟩⟩),λa g=>?_,r.same,r.old,?_,r.lk.cl m⟩,I⟩
 ·by_cases e:i=j
  ·subst e;rw[C]at u;rw[aV k];cases u;exact⟨_,rfl,I⟩
  ·rw[zzP e]at k;have q:=r.sl j s o k u;cases s with
   |nil=>trivial|val d=>obtain⟨v,e,q⟩:=q;exact⟨v,e,q.mv m⟩
   |pin w d=>obtain⟨v,e,n,q⟩:=q;exact⟨v,e,n,q.mv m⟩
   |own es =>
    obtain⟨G,ys,rfl,U,J,Y,L,Q⟩:=q;refine⟨G,ys,rfl,zzQ.mpr ⟨U,?_⟩,J,Y,L,Q.mv m⟩;by_cases z:G=l
    ·subst z;exact absurd (r.own i j _ _ _ h k C u) e
    ·simpa using z
   |obj q=>exact ‹_›
 ·rw[aV e];trivial
 ·obtain⟨l2,b,c⟩:=x _ _ h C;cases b;refine zzQ.mpr ⟨g,?_⟩;by_cases z:a=l
  ·subst z;exact absurd (by rw[c];simp) B
  ·simpa using z
 ·refine zzQ.mpr ⟨r.sub a g,?_⟩;by_cases z:a=l
  ·subst z;exact absurd h0 (r.old a g)
  ·simpa using z
 ·exact⟨λa g=>r.liv.m a (zzQ.mp g).1,r.liv.p⟩
theorem RSt.objAt{K:zwW}{ρ:DS}{q:O}(r:RSt K F M H σ ρ)(h:ρ[i]?=some (.obj q)) :
  ∃v A,σ[i]?=some (some v)/\A.Nodup/\RO K F.pp M H q v A/\(∀a∈A,a∈M/\F.H0 a=none/\F.pp≠some a)/\∀(j:Nat) s o,j≠i->ρ[j]?=some s->σ[j]?=some o->∀l,(∃ds,s=.own ds)->o=some (.ref l)->l∉A:=by
 obtain⟨o,d,_⟩:=r.at h;obtain⟨L,g,G,I⟩:=r.ow;obtain⟨Q,v,rfl,z⟩:=g i _ _ h d;refine⟨v,L i,d,Q,z,G i,λj s o e k m l C J u=>?_⟩;obtain⟨ds,rfl⟩:=C;subst J;obtain⟨l2,U,Y⟩:=g j _ _ k m;cases U;exact I j i e l (by rw[Y];simp) u
theorem RSt.freezeO{K:zwW}{ρ:DS}{q:O}(r:RSt K F M H σ ρ)(h:ρ[i]?=some (.obj q)) :
  ∃M' v,σ[i]?=some (some v)/\Mv K F.pp M H M' H/\RSt K F M' H σ (ρ.set i (.val (fzO q)))/\Rep K F.pp M' H (fzO q) v:=by
 obtain⟨J,I,C,Q⟩:=r.ow;obtain⟨o,G,_⟩:=r.at h;obtain⟨nd,v,rfl,hq⟩:=I i _ _ h G;have m:Mv K F.pp M H (M.filter λa=>decide (a∉J i)) H:=.less λa g=>(zzQ.mp g).1;have n:Rep K F.pp (M.filter λa=>decide (a∉J i)) H (fzO q) v:=RO.fz m q v (J i) (λa g=>⟨λz=>absurd g (by simpa using(zzQ.mp z).2),(C i a g).2.2⟩) hq;refine⟨_,_,G,m,⟨by simp[r.len],λj s o k u=>?_,⟨λj=>if j=i then[] else J j,λj s o L U=>?_,λj a g=>?_,λj l e a g Y=>?_⟩,λa g=>?_,r.same,r.old,?_,r.lk.cl m⟩,n⟩
 ·by_cases e:i=j
  ·subst e;rw[G]at u;rw[aV k];cases u;exact⟨_,rfl,n⟩
  ·rw[zzP e]at k;have b:=r.sl j s o k u;cases s with
   |nil=>trivial|val d=>obtain⟨v,e,q⟩:=b;exact⟨v,e,q.mv m⟩
   |pin w d=>obtain⟨v,e,ew,q⟩:=b;exact⟨v,e,ew,q.mv m⟩
   |own es =>
    obtain⟨c,ys,rfl,B,y,E,A,N⟩:=b;refine⟨c,ys,rfl,zzQ.mpr ⟨B,?_⟩,y,E,A,N.mv m⟩;obtain⟨l2,U,T⟩:=I j _ _ k u;cases U;simpa using Q j i (Ne.symm e) c (by rw[T];simp)
   |obj q=>exact ‹_›
 ·show Ow K F _ H s o (if j=i then[] else J j);by_cases e:j=i
  ·subst e;rw[aV L];trivial
  ·rw[zzh e];rw[zzP (Ne.symm e)]at L;exact(I j s o L U).mv m λa _ x z _=>z
 ·replace g:a∈(if j=i then[] else J j):=g
  by_cases e:j=i
  ·rw[zzk e]at g;simp at g
  ·rw[zzh e]at g;exact⟨zzQ.mpr ⟨(C j a g).1,by simpa using Q j i e a g⟩,(C j a g).2⟩
 ·replace g:a∈(if j=i then[] else J j):=g
  replace Y:a∈(if l=i then[] else J l):=Y
  by_cases L:j=i
  ·rw[zzk L]at g;simp at g
  ·by_cases U:l=i
   ·rw[zzk U]at Y;simp at Y
   ·rw[zzh L]at g;rw[zzh U]at Y;exact Q j l e a g Y
 ·refine zzQ.mpr ⟨r.sub a g,?_⟩;have:a∉J i:=λz=>r.old a g (C i a z).2.1;simpa using this
 ·exact⟨λa g=>r.liv.m a (zzQ.mp g).1,r.liv.p⟩
theorem GV(i:Nat)(h:PE X e (tVar i)):PED X e (dVar i):=by
 refine⟨_,h,λ{F M H σ s Q P} L q k=>?_⟩;unfold dVar at q;cases e:slot s i with
 |nil=>rw[e]at q;exact q.elim|val d=>rw[e]at q;obtain⟨o,g,v,rfl,r⟩:=L.at (aD e);exact⟨v,g,k q .refl L r⟩
 |pin w d=>rw[e]at q;obtain⟨o,g,v,rfl,_,r⟩:=L.at (aD e);exact⟨v,g,k q .refl L r⟩
 |own ds=>rw[e]at q;obtain⟨M',v,g,m,J,r⟩:=L.freeze (aD e);exact⟨v,g,k q m J r⟩
 |obj z=>rw[e]at q;obtain⟨M',v,g,m,J,r⟩:=L.freezeO (aD e);exact⟨v,g,k q m J r⟩
def OpT(K:zwW)(r:R2)(g:D->D->(D->Prop)->Prop):Prop:=∀{pp M H x y v u Q P},Lv pp M H->Rep K pp M H x v->Rep K pp M H y u->g x y P->(∀{d H' w},P d->SameP K pp H H'->Rep K pp M H' d w->Q w H')->r v u H Q
def OpD(X:Cx)(f:bb->bb->Sem bb)(g:D->D->(D->Prop)->Prop):Prop:=∃r:R2,OpR X f r/\OpT X.K r g
noncomputable abbrev dOp(g:D->D->(D->Prop)->Prop)(ta tb:DE):DE:=λh Q=>ta h λx J=>tb J λy L=>g x y λd=>Q d L
variable{a b:dy}{ta tb tc:DE}{g g':D->D->(D->Prop)->Prop}
theorem ig{g:D->D->(D->Prop)->Prop}{r:R2}{Ta:TE}(U:OpT X.K r g)(u:RT X.K (Rep X.K) Ta ta)(z:RT X.K (Rep X.K) Tb tb):RT X.K (Rep X.K) (tOp r Ta Tb) (dOp g ta tb):=λC h k =>
 u C h λh m L Y=>z L h λh d J q=>U J.liv (Y.mv d) q h λh s r=>k h ((m.trans d).trans s.mv) (J.sameP s) r
theorem ar{op:Operator}(h:OpD X (binaryOp op) g)(d:PED X a ta)(J:PED X b tb):PED X (.BinOp a op b pos) (dOp g ta tb):=by obtain⟨r,U,L⟩:=h;obtain⟨Ta,Y,m⟩:=d;obtain⟨Tb,k,q⟩:=J;exact⟨_,cP U Y k,ig L m q⟩
theorem cE(k:OpD X (compareOp op) g)(d:PED X a ta)(J:PED X b tb)(h:behindInMarks op b=false:=by exact lM _):PED X (.Compare a [op] [b] pos) (dOp g ta tb):=by obtain⟨r,U,L⟩:=k;obtain⟨Ta,Y,q⟩:=d;obtain⟨Tb,m,s⟩:=J;exact⟨_,Dr U Y m h,ig L q s⟩
def blD:D->(Bool->Prop)->Prop
 |.bl b,P=>P b|_,_=>False
noncomputable abbrev dB(t:DE):DT:=λk Q=>t k λd h=>blD d λb=>Q b h
theorem jT{K:zwW}{pp:ca bn}{d:D}{P:Bool->Prop}(r:Rep K pp M H d v)(h:blD d P):∃k,v=.bl k/\P k:=by cases d<;>first|exact h.elim|(simp only[Rep]at r;exact⟨_,r,h⟩)
theorem rtb{T:TE}(r:RT X.K (Rep X.K) T ta):RU X.K (tB T) (dB ta):=λL h k=>r L h λh m J r=>by obtain⟨c,e,h⟩:=jT r h;exact⟨c,e,k h m J⟩
theorem ah(k:OpD X (compareOp op) g)(d:PED X a ta)(J:PED X b tb)(h:behindInMarks op b=false:=by exact lM _):PTD X (.Compare a [op] [b] pos) (dB (dOp g ta tb)):=by obtain⟨r,U,L⟩:=k;obtain⟨Ta,Y,q⟩:=d;obtain⟨Tb,m,s⟩:=J;exact⟨_,jx U Y m h,rtb (ig L q s)⟩
theorem bV(h:PED X e te)(he:∀whole,isTrue e X.env whole=(do let v ←whole;standAt e.pos;holding [v] (truthy v)):=by intro _;rfl):PTD X e (dB te):=by obtain⟨T,p,r⟩:=h;exact⟨_,FO p he,rtb r⟩
structure Br(b:Bool)(A B:Prop):Prop where
 yes:b=true->A
 no:b=false->B
theorem Br.t(h:A):Br true A B:=⟨λ_=>h,λe=>nomatch e⟩
theorem Br.f(h:B):Br false A B:=⟨(λe=>nomatch e),λ_=>h⟩
noncomputable abbrev dNot(t:DT):DT:=λh Q=>t h λb d=>Q (!b) d
noncomputable abbrev dAnd(t u:DT):DT:=λh Q=>t h λb d=>Br b (u d Q) (Q false d)
noncomputable abbrev dOr(t u:DT):DT:=λh Q=>t h λb d=>Br b (Q true d) (u d Q)
variable{tA tB:DT}{rest:ab dy}
theorem cj(h:PTD X a tA):PTD X (.UnaryOp .Not a pos) (dNot tA):=by obtain⟨T,p,r⟩:=h;exact⟨_,FR p,λJ q k=>r J q λq=>k q⟩
theorem PWD.pt{e:dy}{t:DT}(h:PWD X e t):PTD X e t:=by obtain⟨T,p,r⟩:=h;exact⟨T,p.pt,r⟩
theorem rV(h:PTD X a tA):PWD X (.BoolOp .And [a] pos) tA:=by obtain⟨T,p,r⟩:=h;exact⟨T,Dj p,r⟩
theorem dM(h:PTD X a tA):PWD X (.BoolOp .Or [a] pos) tA:=by obtain⟨T,p,r⟩:=h;exact⟨T,Cb p,r⟩
theorem yE(d:PTD X a tA)(L:PWD X (.BoolOp .And (b::rest) pos) tB):PWD X (.BoolOp .And (a::b::rest) pos) (dAnd tA tB):=by
 obtain⟨T,p,r⟩:=d;obtain⟨U,q,s⟩:=L;refine⟨_,FP p q,λY h k=>r Y h λ{c _ _ _} h m J=>?_⟩;cases c with
 |true=>exact iteT (s J (h.yes rfl) λh u=>k h (m.trans u))
 |false=>exact iteF (k (h.no rfl) m J)
theorem gv(d:PTD X a tA)(L:PWD X (.BoolOp .Or (b::rest) pos) tB):PWD X (.BoolOp .Or (a::b::rest) pos) (dOr tA tB):=by
 obtain⟨T,p,r⟩:=d;obtain⟨U,q,s⟩:=L;refine⟨_,FQ p q,λY h k=>r Y h λ{c _ _ _} h m J=>?_⟩;cases c with
 |true=>exact iteT (k (h.yes rfl) m J)|false=>exact iteF (s J (h.no rfl) λh u=>k h (m.trans u))
noncomputable abbrev JM(t:DE):DE:=λk Q=>t k λd h=>blD d λb=>Q (.bl (!b)) h
noncomputable abbrev JN(t u:DE):DE:=λk Q=>t k λd h=>blD d λb=>Br b (u h Q) (Q (.bl false) h)
noncomputable abbrev dOrV(t u:DE):DE:=λk Q=>t k λd h=>blD d λb=>Br b (Q (.bl true) h) (u h Q)
theorem bJ{K:zwW}{pp:ca bn}{b:Bool}:Rep K pp M H (.bl b) (.bl b):=by simp only[Rep]
theorem aR{K:zwW}{pp:ca bn}{b:Int}:Rep K pp M H (.int b) (.int b):=by simp only[Rep]
theorem fS{K:zwW}{pp:ca bn}{b:Str}:Rep K pp M H (.str b) (.str b):=by simp only[Rep]
theorem gw{op}(h:PED X a te):PED X (.BoolOp op [a] pos) te:=by obtain⟨T,p,r⟩:=h;exact⟨T,FS p,r⟩
theorem GW(h:PED X a ta):PED X (.UnaryOp .Not a pos) (JM ta):=by obtain⟨T,p,r⟩:=h;refine⟨_,FU p,λL q k=>r L q λq m J r=>?_⟩;obtain⟨b,e,q⟩:=jT r q;exact⟨b,e,k q m J bJ⟩
theorem gx(d:PED X a ta)(L:PED X (.BoolOp .And (b::rest) pos) tb):PED X (.BoolOp .And (a::b::rest) pos) (JN ta tb):=by
 obtain⟨T,p,r⟩:=d;obtain⟨U,q,s⟩:=L;refine⟨_,FT p q,λz h k=>r z h λh m J Y=>?_⟩;obtain⟨c,e,h⟩:=jT Y h;refine⟨c,e,?_⟩;cases c with
 |true=>exact iteT (s J (h.yes rfl) λh u=>k h (m.trans u))
 |false=>exact iteF (k (h.no rfl) m J bJ)
theorem GX(d:PED X a ta)(L:PED X (.BoolOp .Or (b::rest) pos) tb):PED X (.BoolOp .Or (a::b::rest) pos) (dOrV ta tb):=by
 obtain⟨T,p,r⟩:=d;obtain⟨U,q,s⟩:=L;refine⟨_,Jh p q,λz h k=>r z h λh m J Y=>?_⟩;obtain⟨c,e,h⟩:=jT Y h;refine⟨c,e,?_⟩;cases c with
 |true=>exact iteT (k (h.yes rfl) m J bJ)|false=>exact iteF (s J (h.no rfl) λh u=>k h (m.trans u))
noncomputable abbrev dIf(t:DT)(ta tb:DE):DE:=λh Q=>t h λb d=>Br b (ta d Q) (tb d Q)
theorem fm(Y:PTD X e tA)(u:PED X a ta)(L:PED X b tb):PED X (.IfExp e a b pos) (dIf tA ta tb):=by
 obtain⟨T,p,r⟩:=Y;obtain⟨U,q,s⟩:=u;obtain⟨U',z,G⟩:=L;refine⟨_,An p q z,λC h k=>r C h λ{e _ _ _} h m J=>?_⟩;cases e with
 |true=>exact iteT (s J (h.yes rfl) λh d=>k h (m.trans d))
 |false=>exact iteF (G J (h.no rfl) λh d=>k h (m.trans d))
noncomputable abbrev uF(g g':D->D->(D->Prop)->Prop)(ta tb tc:DE):DE:=λh Q=>ta h λx L=>tb L λy J=>g x y λd=>blD d λk=>Br k (tc J λz U=>g' y z λd=>Q d U) (Q (.bl false) J)
theorem lV(n:OpD X (compareOp op) g)(C:OpD X (compareOp op') g')(Q:PED X a ta)(i:PED X b tb)(j:PED X c tc) :
  ∃(r d:R2) (Ta Tb U:TE),OpR X (compareOp op) r/\OpR X (compareOp op') d/\PE X a Ta/\PE X b Tb/\PE X c U/\RT X.K (Rep X.K) (xA r d Ta Tb U) (uF g g' ta tb tc):=by
 obtain⟨r,o,l⟩:=n;obtain⟨d,G,Y⟩:=C;obtain⟨Ta,v,B⟩:=Q;obtain⟨Tb,w,E⟩:=i;obtain⟨U,x,H⟩:=j;refine⟨r,d,Ta,Tb,U,o,G,v,w,x,λM h k=>B M h λh p I y=>E I h λh m J z=>l J.liv (y.mv m) z h λh s r=>?_⟩;obtain⟨b,e,h⟩:=jT r h;refine⟨b,e,?_⟩;have q:=(p.trans m).trans s.mv;cases b with
 |false=>exact iteF (k (h.no rfl) q (J.sameP s) bJ)|true=>exact iteT (H (J.sameP s) (h.yes rfl) λh u L A=>Y L.liv ((z.mv s.mv).mv u) A h λh s r=>k h ((q.trans u).trans s.mv) (L.sameP s) r)
theorem gy(m:OpD X (compareOp op) g)(J:OpD X (compareOp op') g')(d:PED X a ta)(U:PED X b tb)(Y:PED X c tc)(k:lastMarks [op,op'] [b,c]=false:=by with_unfolding_all rfl):PED X (.Compare a [op,op'] [b,c] pos) (uF g g' ta tb tc):=by obtain⟨r,r',Ta,Tb,Tc,q,L,s,u,z,h⟩:=lV m J d U Y;exact⟨_,Ar q L s u z k,h⟩
theorem uG(m:OpD X (compareOp op) g)(J:OpD X (compareOp op') g')(d:PED X a ta)(U:PED X b tb)(Y:PED X c tc)(k:lastMarks [op,op'] [b,c]=false:=by with_unfolding_all rfl):PTD X (.Compare a [op,op'] [b,c] pos) (dB (uF g g' ta tb tc)):=by obtain⟨r,r',Ta,Tb,Tc,q,L,s,u,z,h⟩:=lV m J d U Y;exact⟨_,At q L s u z k,rtb h⟩
variable{tL:DA}
noncomputable abbrev cF:DA:=λd Q=>Q [] d
noncomputable abbrev aF(t:DE)(u:DA):DA:=λd Q=>t d λx J=>u J λxs L=>Q (x::xs) L
theorem bK:PAD X [] cF :=
 ⟨_,bD,λJ h k=>k h .refl J .nil⟩
theorem ac(u:PED X e ta)(Y:PAD X es tL)(hs:starEach (e::es) X.env=(false,eval e X.env)::starEach es X.env:=by rfl):PAD X (e::es) (aF ta tL):=by obtain⟨T,p,r⟩:=u;obtain⟨U,q,s⟩:=Y;exact⟨_,aQ p q hs,λC h k=>r C h λh m J r=>s J h λh d L z=>k h (m.trans d) L (.cons (r.mv d) z)⟩
noncomputable abbrev dTup(t:DA):DE:=λd Q=>t d λxs J=>xs.length<=sizeLine/\Q (.tup xs) J
theorem ay{x1}(h:PAD X es tL):PED X (.Tuple es x1 pos) (dTup tL):=by obtain⟨T,p,r⟩:=h;refine⟨_,Cd p,λU q k=>r U q λq m J L=>⟨by rw[←L.length];exact q.1,λl d=>k q.2 (m.trans (.new d)) (J.sameP (.new d)) ?_⟩⟩;exact⟨l,_,rfl,ae,L.mv (.new d)⟩
def RL(K:zwW)(T:TE)(t:DA):Prop:=∀{F:Fx} {M H σ ρ Q P},RSt K F M H σ ρ->t ρ P->(∀{h d M' H' l xs},P h d->Mv K F.pp M H M' H'->RSt K F M' H' σ d->H' l=none->Reps K F.pp M' H' h xs->Q (.ref l) (upd H' l (.lst xs)))->T σ H Q
def PLD(X:Cx)(e:dy)(t:DA):Prop:=∃T:TE,PE X e T/\RL X.K T t
noncomputable abbrev dLst(t:DA):DA:=λd Q=>t d λxs J=>xs.length<=sizeLine/\Q xs J
theorem aL(h:PAD X es tL):PLD X (.List es pos) (dLst tL):=by obtain⟨T,p,r⟩:=h;exact⟨_,ug p,λU q k=>r U q λq m J L=>⟨by rw[←L.length];exact q.1,λl d=>k q.2 m J d L⟩⟩
noncomputable abbrev dFrz(t:DA):DE:=λd Q=>t d λxs J=>Q (.lst xs) J
theorem aE(h:PLD X e tL):PED X e (dFrz tL):=by obtain⟨T,p,r⟩:=h;refine⟨T,p,λU q k=>r U q λq m J d L=>k q (m.trans (.new d)) (J.sameP (.new d)) ?_⟩;exact⟨_,_,rfl,(J.liv.fresh d).1,(J.liv.fresh d).2,ae,L.mv (.new d)⟩
end
noncomputable abbrev DSp:=ab D->(D->Prop)->Prop
variable{g':DSp}
def spD(K:zwW)(n:Nat)(g:DSp):Sp:=λk H Q _=>∃pp M h P,Lv pp M H/\Reps K pp M H h k/\h.length=n/\g h P/\∀{d H' v},P d->SameP K pp H H'->Rep K pp M H' d v->Q v H'
def CallD(X:Cx)(f:bb)(g:DSp):Prop:=∃r:ab V->Hp->VK->Prop,cr X f r/\∀{pp M H h k Q P},Lv pp M H->Reps X.K pp M H h k->g h P->(∀{d H' w},P d->SameP X.K pp H H'->Rep X.K pp M H' d w->Q w H')->r k H Q
noncomputable abbrev dCB(g:DSp)(t:DA):DE:=λk Q=>t k λh J=>g h λd=>Q d J
noncomputable abbrev rW(n:Nat)(g:DSp)(t:DA):DE:=λk Q=>t k λh J=>h.length=n/\g h λd=>Q d J
section
variable{p:Pos}{t:DA}{id T:String}{g:DSp}
theorem aZ(Y:CallD X (.builtin id) g)(z:X.mg x=none)(I:bootBuiltins x=some (.builtin id))(d:PAD X (e::es) t)(u:Gl X x:=by rfl)(C:x ≠ "__name__":=by decide)(L:(x==("__debug__" : Str))=false:=by decide)
  (he:starEach (e::es) X.env=(false,eval e X.env)::starEach es X.env:=by rfl) (U:(backTo pos (starEach es X.env)).any (·.1)=false:=by rfl):PED X (.Call (.Name x p) (e::es) [] pos) (dCB g t):=by
 obtain⟨r,G,h⟩:=Y;obtain⟨T,Q,b⟩:=d;exact⟨_,fg G u z I Q C L he U,λc q k=>b c q λq m J a=>h J.liv a q λq s r=>k q (m.trans s.mv) (J.sameP s) r⟩
theorem al(Y:CallD X (.type T) g)(z:X.mg x=none)(d:PAD X (e::es) t)(u:Gl X x:=by rfl)(I:bootBuiltins x=some (.type T):=by rfl)(C:x ≠ "__name__":=by decide)(L:(x==("__debug__" : Str))=false:=by decide)
  (he:starEach (e::es) X.env=(false,eval e X.env)::starEach es X.env:=by rfl) (U:(backTo pos (starEach es X.env)).any (·.1)=false:=by rfl):PED X (.Call (.Name x p) (e::es) [] pos) (dCB g t):=by
 obtain⟨r,G,h⟩:=Y;obtain⟨T,Q,b⟩:=d;exact⟨_,gj G u z I Q C L he U,λc q k=>b c q λq m J a=>h J.liv a q λq s r=>k q (m.trans s.mv) (J.sameP s) r⟩
end
structure EO(K:zwW)(F:Fx)(M:List Addr)(H:Hp)(E:DEnds)(D:Ends):Prop where
 nx:∀{M' H' σ' ρ'},Mv K F.pp M H M' H'->RSt K F M' H' σ' ρ'->E.nx ρ'->D.nx σ' H'
 bk:∀{M' H' σ' ρ'},Mv K F.pp M H M' H'->RSt K F M' H' σ' ρ'->E.bk ρ'->D.bk σ' H'
 ct:∀{M' H' σ' ρ'},Mv K F.pp M H M' H'->RSt K F M' H' σ' ρ'->E.ct ρ'->D.ct σ' H'
 rt:∀{M' H' σ' ρ' d v},Mv K F.pp M H M' H'->RSt K F M' H' σ' ρ'->Rep K F.pp M' H' d v->E.rt d->D.rt v H'
theorem EO.mv{K:zwW}{F:Fx}{D:Ends}(o:EO K F M H E D)(m:Mv K F.pp M H M1 H'):EO K F M1 H' E D :=
 ⟨λJ=>o.nx (m.trans J),λJ=>o.bk (m.trans J),λJ=>o.ct (m.trans J),λJ=>o.rt (m.trans J)⟩
def RS(K:zwW)(T:TS)(t:DTS):Prop:=∀{F:Fx} {M H σ ρ E D},RSt K F M H σ ρ->t E ρ->EO K F M H E D->T D σ H
def PSD(X:Cx)(st:Stmt)(t:DTS):Prop:=∃T:TS,PS X st T/\RS X.K T t
def PSsD(X:Cx)(st:ab Stmt)(t:DTS):Prop:=∃T:TS,PSs X st T/\RS X.K T t
section
variable{F:Fx}{a b:ab Stmt}{t u:DTS}{te:DE}{tc:DT}{tl:DA}
noncomputable abbrev rX:DTS:=λE d=>E.nx d
noncomputable abbrev dSeq(t u:DTS):DTS:=λE d=>t {E with nx:=u E} d
noncomputable abbrev dMid(t u:DTS):DTS:=λE g=>∃N:DS->Prop,t {E with nx:=N} g/\∀d,N d->u E d
theorem Eh:PSsD X [] rX :=
 ⟨_,mM,λJ h o=>o.nx .refl J h⟩
theorem ai(h:PSD X st t):PSsD X [st] t:=by obtain⟨T,p,r⟩:=h;exact⟨T,dA p,r⟩
theorem aa(d:PSD X st t)(g:PSsD X rest u):PSsD X (st::rest) (dSeq t u):=by obtain⟨T,p,r⟩:=d;obtain⟨U,q,s⟩:=g;exact⟨_,aU p q,λL h o=>r L h ⟨λm J h=>s J h (o.mv m),o.bk,o.ct,o.rt⟩⟩
theorem aw(d:PSD X st t)(g:PSsD X rest u):PSsD X (st::rest) (dMid t u):=by obtain⟨T,p,r⟩:=d;obtain⟨U,q,s⟩:=g;refine⟨_,aU p q,λL h o=>?_⟩;obtain⟨N,h,k⟩:=h;exact r L h ⟨λm J h=>s J (k _ h) (o.mv m),o.bk,o.ct,o.rt⟩
noncomputable abbrev Cj:DTS:=λ_ _=>False
theorem nz:PSD X st Cj :=
 ⟨_,Ap,λ_ h _=>h⟩
noncomputable abbrev dRet(te:DE):DTS:=λE g=>te g λd _=>E.rt d
theorem GY(h:PED X e te):PSD X (.Return (some e) pos) (dRet te):=by obtain⟨T,p,r⟩:=h;exact⟨_,jv p,λL q o=>r L q λq m J d=>o.rt m J d q⟩
noncomputable abbrev JO(te:DE):DTS:=λE g=>te g λ_ d=>E.nx d
theorem dE(h:PED X e te)(hs:swapsWith e none pos.line X.env=pure false:=by rfl):PSD X (.Expr e pos) (JO te):=by obtain⟨T,p,r⟩:=h;exact⟨_,mO p hs,λL q o=>r L q λq m J r'=>o.nx m J q⟩
noncomputable abbrev dIfS(c:DT)(t u:DTS):DTS:=λE g=>c g λb d=>Br b (t E d) (u E d)
theorem JP(Y:PTD X c tc)(d:PSsD X a t)(L:PSsD X b u):PSD X (.If c a b pos) (dIfS tc t u):=by
 obtain⟨T,p,r⟩:=Y;obtain⟨U,q,s⟩:=d;obtain⟨U',g,C⟩:=L;refine⟨_,Ao p q g,λz h o=>r z h λ{k _ _ _} h m J=>?_⟩;cases k with
 |true=>exact iteT (s J (h.yes rfl) (o.mv m))|false=>exact iteF (C J (h.no rfl) (o.mv m))
noncomputable abbrev dSet(i:Nat)(te:DE):DTS:=λE h=>te h λd g=>E.nx (g.set i (.val d))
theorem GZ(L:X.N.Nodup)(d:X.N[i]?=some x)(Y:Loc X.env.scope x)(h:PED X e te)(hs:swapsWith e (some (.Name x py)) pos.line X.env=pure false:=by rfl)(U:X.fn x=true∨X.env.scope.names.lookup x=some .local:=by first|exact .inl rfl|exact .inr rfl|assumption) :
  PSD X (.Assign [.Name x py] e pos) (dSet i te):=by
 obtain⟨T,p,r⟩:=h;exact⟨_,fL L d Y p hs U,λk q o=>r k q λq m J g=>o.nx m (J.set g i) q⟩
noncomputable abbrev dOwn(i:Nat)(t:DA):DTS:=λE h=>t h λg d=>E.nx (d.set i (.own g))
theorem RSt.newOwn{K:zwW}{M:ab bn}{H:Hp}{σ:St}{ρ:DS}{l:bn}{xs:ab V}{ds:ab D}(r:RSt K F M H σ ρ)(g:H l=none)(hd:Reps K F.pp M H ds xs)(i:Nat) :
  RSt K F (l::M) (upd H l (.lst xs)) (σ.set i (some (.ref l))) (ρ.set i (.own ds)):=by
 have m:Mv K F.pp M H (l::M) (upd H l (.lst xs)):=.newOwn g;have s:SameP K F.pp H (upd H l (.lst xs)):=.new g;have h0:F.H0 l=none:=by
  cases e:F.H0 l with
  |none=>rfl|some o=>exact absurd g (r.same.live l (by rw[e];intro z;cases z))
 refine⟨by simp[r.len],λj q o C G=>?_,r.ow.step m i (λj e=>zzP (Ne.symm e)) (λj e=>zzP (Ne.symm e)) (λA _ _=>⟨[l],λs o Q c=>?_,λb u=>?_,λa h hp J _=>⟨zzb _ h,λx e _=>cW g e⟩⟩),λa h=>zzb _ (r.sub a h),r.same.trans s.toSameQ,r.old,?_,r.lk.cl m⟩
 ·by_cases e:i=j
  ·subst e;rw[aV C,aV G];exact⟨l,xs,rfl,zze,h0,(r.liv.fresh g).2,ae,hd.mv m⟩
  ·rw[zzP e]at C G;have k:=r.sl j q o C G;cases q with
   |nil=>trivial|val d=>obtain⟨v,e,q⟩:=k;exact⟨v,e,q.mv m⟩
   |pin w d=>obtain⟨v,e,n,q⟩:=k;exact⟨v,e,n,q.mv m⟩
   |own es =>
    obtain⟨y,ys,rfl,U,J,Y,L,I⟩:=k;exact⟨y,ys,rfl,zzb _ U,J,Y,cW g L,I.mv m⟩
   |obj q=>exact k
 ·rw[aV Q,aV c];exact⟨l,rfl,rfl⟩
 ·rw[zzG.mp u];exact⟨zze,h0,(r.liv.fresh g).2,.inr (r.liv.fresh g).1⟩
 ·refine⟨λa h=>?_,λp e=>s.live p (r.liv.p p e)⟩;rcases zzi.mp h with rfl|h
  ·rw[ae];intro z;cases z
  ·exact s.live a (r.liv.m a h)
theorem Ha(L:X.N.Nodup)(g:X.N[i]?=some x)(Y:Loc X.env.scope x)(h:PLD X e tl)(hs:swapsWith e (some (.Name x py)) pos.line X.env=pure false:=by rfl)(U:X.fn x=true∨X.env.scope.names.lookup x=some .local:=by first|exact .inl rfl|exact .inr rfl|assumption) :
  PSD X (.Assign [.Name x py] e pos) (dOwn i tl):=by
 obtain⟨T,p,r⟩:=h;exact⟨_,fL L g Y p hs U,λs q o=>r s q λq m J d k=>o.nx (m.trans (.newOwn d)) (J.newOwn d k i) q⟩
noncomputable abbrev DG:=D->DS->(DS->Prop)->Prop
variable{g:DG}
def PGD(X:Cx)(tg:dy)(g:DG):Prop:=∃G:TG,PG X tg G/\∀{F:Fx} {M H σ ρ d v Q P},RSt X.K F M H σ ρ->Rep X.K F.pp M H d v->g d ρ P->(∀{h M' H' k},P h->Mv X.K F.pp M H M' H'->RSt X.K F M' H' k h->Q k H')->G v σ H Q
noncomputable abbrev bc(i:Nat):DG:=λd h Q=>Q (h.set i (.val d))
theorem yF(J:X.N.Nodup)(d:X.N[i]?=some x)(U:Loc X.env.scope x)(L:X.fn x=true∨X.env.scope.names.lookup x=some .local:=by first|exact .inl rfl|exact .inr rfl|assumption):PGD X (.Name x pos) (bc i) :=
 ⟨_,mP J d U L,λY r h k=>k h .refl (Y.set r i)⟩
noncomputable abbrev DGs:=ab D->DS->(DS->Prop)->Prop
def PGsD(X:Cx)(tg:ab dy)(g:DGs):Prop:=∃G:TGs,PGs X tg G/\∀{F:Fx} {M H σ ρ ds k Q P},RSt X.K F M H σ ρ->Reps X.K F.pp M H ds k->g ds ρ P->(∀{d M' H' h},P d->Mv X.K F.pp M H M' H'->RSt X.K F M' H' h d->Q h H')->G k σ H Q
def wu:DGs:=λd h Q=>match d with
 |[]=>Q h|_=>False
def eQ(g:DG)(u:DGs):DGs:=λk m Q=>match k with
 |d::r=>g d m λh=>u r h Q|[]=>False
theorem yG:PGsD X [] wu:=by
 refine⟨_,xv,λ{F M H σ ρ d vs Q P} J r h k=>?_⟩;cases d with
 |nil=>simp only[Reps]at r;exact⟨r,k h .refl J⟩|cons=>exact h.elim
theorem ji{e:dy}{u:DGs}(s:PGD X e g)(z:PGsD X ifs u)(hs:(assignEach (e::ifs) X.env).map (·.2)=assign e X.env::(assignEach ifs X.env).map (·.2):=by rfl):PGsD X (e::ifs) (eQ g u):=by
 obtain⟨G,p,r⟩:=s;obtain⟨G',I,a⟩:=z;refine⟨_,jd p I hs,λ{F M H σ ρ q vs Q P} Y J h k=>?_⟩;cases q with
 |nil=>exact h.elim|cons d q =>
  obtain⟨v,b,rfl,J,U⟩:=J;exact⟨v,b,rfl,r Y J h λh m L=>a L (U.mv m) h λh C=>k h (m.trans C)⟩
def rY(n:Nat)(g:DGs):DG:=λd k Q=>match d with
 |.tup h=>h.length=n/\g h k Q|_=>False
theorem Hb{k:Nat}{g:DGs}(U:X.calm=true)(h:PGsD X ifs g)(s:(assignEach ifs X.env).length=n:=by rfl)(L:(assignEach ifs X.env).findIdx? (·.1)=none:=by rfl):PGD X (.Tuple ifs k pos) (rY n g):=by
 obtain⟨G,p,r⟩:=h;refine⟨_,DK U p s L,λ{F M H σ ρ d v Q P} Y J q k=>?_⟩;cases d with
 |tup ds =>
  obtain⟨a,xs,rfl,m,J⟩:=J;exact⟨a,xs,rfl,m,by rw[←J.length];exact q.1,r Y J q.2 k⟩
 |_=>exact q.elim
noncomputable abbrev dAsg(te:DE)(g:DG):DTS:=λE k=>te k λd h=>g d h E.nx
theorem Hc(he:PED X e te)(J:PGD X tg g)(hs:swapsWithSole [tg] e pos.line X.env=pure false:=by rfl)(hw:swappedStores [tg] e X.env=pure none:=by rfl)(d:PS X (.Assign [tg] e pos) (tAsg (Classical.choose he) (Classical.choose J)):=by exact lK (zyf he).1 (zyf J).1):PSD X (.Assign [tg] e pos) (dAsg te g) :=
 ⟨_,d,λk q o=>(zyf he).2 k q λq m L Y=>(zyf J).2 L Y q λq h U=>o.nx (m.trans h) U q⟩
def cX(g:DG)(b:DTS):ab D->DEnds->DS->Prop
 |[],E,k=>E.nx k|d::r,E,k=>g d k λJ=>b {E with nx:=λh=>cX g b r E h,ct:=λh=>cX g b r E h,bk:=E.nx} J
structure ItOkV(K:zwW)(pp:Option Addr)(J:It)(M:List Addr)(H:Hp)(vs:List V):Prop where
 yld:∀M2 H2,Mv K pp M H M2 H2->∀i x H3,i<vs.length->J.yld i H2 x H3->H3=H2/\vs[i]? = some x
 go:∀M2 H2,Mv K pp M H M2 H2->∀i,i<vs.length->J.go i H2
 stop:∀M2 H2,Mv K pp M H M2 H2->∀i,vs.length <= i->J.stop i H2
structure ItOk(K:zwW)(pp:Option Addr)(J:It)(M:List Addr)(H:Hp)(ds:List D):Prop where
 yld:∀M2 H2,Mv K pp M H M2 H2->∀i d x H3,ds[i]? = some d->J.yld i H2 x H3->SameP K pp H2 H3/\Rep K pp M2 H3 d x
 go:∀M2 H2,Mv K pp M H M2 H2->∀i,i<ds.length->J.go i H2
 stop:∀M2 H2,Mv K pp M H M2 H2->∀i,ds.length <= i->J.stop i H2
theorem ItOkV.of{K:zwW}{pp:ca bn}{J:It}{vs:ab V}{ds:ab D}(o:ItOkV K pp J M H vs)(L:Reps K pp M H ds vs):ItOk K pp J M H ds where
 yld:=λq k m i d x s e y=>by obtain⟨v,U,r⟩:=L.get' e;obtain⟨rfl,Y⟩:=o.yld q k m i x s (zzy.mp U).1 y;rw[U]at Y;cases Y;exact⟨.refl,r.mv m⟩
 go:=λq k m i h=>o.go q k m i (by rw[←L.length];exact h)
 stop:=λq k m i h=>o.stop q k m i (by rw[←L.length];exact h)
def PID(X:Cx)(tg iter:dy)(t:DA):Prop:=∃d:TI,PI X tg iter d/\RT X.K (λpp M H h J=>ItOk X.K pp J M H h) d t
noncomputable abbrev dFor(t:DA)(g:DG)(b:DTS):DTS:=λE k=>t k λh d=>cX g b h E d
theorem aN{body:ab Stmt}(hi:PID X tg l tl)(hg:PGD X tg g)(hb:PSsD X body tb)(hp:PassesOwn (model X.prog X.w) X.A X.env X.xe:=by exact PassesOwn.never)(hc:X.calm=true:=by rfl)(hs:∀x,foldedSetIterable l X.env x=pure x:=by intro _;rfl):PSD X (.For tg l body [] pos) (dFor tl g tb):=by
 obtain⟨wi,pi,ri⟩:=hi;obtain⟨G,pg,rg⟩:=hg;obtain⟨T,p,r⟩:=hb;refine⟨_,Cc hp hc pi pg p hs,λ{F M H σ ρ E D} rs h o=>ri rs h λ{d a9 M1 n J} h j a7 ok=>?_⟩;refine⟨λi m v z=>∃C c,m=d.length - i/\i<=d.length/\Mv X.K F.pp M1 n C z/\RSt X.K F C z v c/\cX g tb (d.drop i) E c,⟨d.length,M1,a9,rfl,zzM _,.refl,a7,h⟩,?_⟩;rintro i m v z ⟨C,c,rfl,hi2,q,u,a⟩;by_cases U:i<d.length
 ·have e1:d[i]?=some d[i]:=by simp[U]
  rw[zyR U]at a;refine .inr ⟨ok.go C z q i U,λQ H'=>∃M' k,Mv X.K F.pp M1 n M' H'/\RSt X.K F M' H' Q k/\cX g tb (d.drop (i+1)) E k,λQ H' ⟨M',k,mm,N,h'⟩=>⟨d.length - (i+1),by lia,M',k,rfl,U,mm,N,h'⟩,λx B y=>?_⟩;obtain⟨I,rx⟩:=ok.yld C z q i _ x B e1 y;exact rg (u.sameP I) rx a λh3 b a8=>r a8 h3 ⟨λs L Y=>⟨_,_,(((q.trans I.mv).trans b).trans s),L,Y⟩,λs L Y=>o.nx (((j.trans (q.trans I.mv)).trans b).trans s) L Y,λs L Y=>⟨_,_,((q.trans I.mv).trans b).trans s,L,Y⟩,λs L r4 Y=>o.rt (((j.trans (q.trans I.mv)).trans b).trans s) L r4 Y⟩
 ·have e:i=d.length:=by lia
  have hd:d.drop i=[]:=by rw[zxU];lia
  rw[hd]at a;exact .inl ⟨ok.stop C z q i (by lia),o.nx (j.trans q) u a⟩
noncomputable abbrev Hd(te:DE):DA:=λm Q=>te m λd h=>match d with
 |.lst k=>Q k h|_=>False
noncomputable abbrev JQ(te:DE):DA:=λm Q=>te m λd h=>match d with
 |.tup k=>Q k h|_=>False
theorem aB(G:PED X l te):PID X tg l (Hd te):=by
 obtain⟨T,p,r⟩:=G;refine⟨_,Dk p,λY h k=>r Y h λ{d _ _ _ _} h m U L=>?_⟩;cases d<;>first|exact h.elim|skip
 obtain⟨a,xs,rfl,C,J,s,L⟩:=L;exact⟨a,rfl,⟨xs,SqL.of s⟩,k h m U (ItOkV.of ⟨λ_ _ q _ _ _ _ y=>⟨y.1,y.2 xs (SqL.of (q.lst a xs s C J).1)⟩,λ_ _ q i z=>⟨xs,xs[i],SqL.of (q.lst a xs s C J).1,by simp[z]⟩,λ_ _ q _ z=>⟨xs,SqL.of (q.lst a xs s C J).1,z⟩⟩ L)⟩
theorem dN(C:PED X l te):PID X tg l (JQ te):=by
 obtain⟨T,p,r⟩:=C;refine⟨_,FY p,λU h k=>r U h λ{d _ _ _ _} h m L J=>?_⟩;cases d<;>first|exact h.elim|skip
 obtain⟨a,xs,rfl,s,J⟩:=J;exact⟨a,rfl,⟨xs,SqT.of s⟩,k h m L (ItOkV.of ⟨λ_ _ q _ _ _ _ y=>⟨y.1,y.2 xs (SqT.of (q.tup a xs s))⟩,λ_ _ q i z=>⟨xs,xs[i],SqT.of (q.tup a xs s),by simp[z]⟩,λ_ _ q _ z=>⟨xs,SqT.of (q.tup a xs s),z⟩⟩ J)⟩
noncomputable def dh(lo:Int):Nat->ab D
 |0=>[]|n+1=>.int lo::dh (lo+1) n
theorem ii{K:zwW}{pp:ca bn}{M:ab bn}{H:Hp}:∀(n:Nat) (lo:Int),Reps K pp M H (dh lo n) ((List.range n).map λ(i:Nat)=>V.int (lo+i))
 |0,_=>by simp[dh,Reps]
 |n+1,lo=>by rw[zwv,zzj,dh];refine .cons (by simp[Rep]) ?_;have:=ii (K:=K) (pp:=pp) (M:=M) (H:=H) n (lo+1);rw[zzo];refine(congrArg (Reps K pp M H (dh (lo+1) n)) (zzF λi _=>?_)).mp this;lia
noncomputable abbrev diR1(t:DA):DA:=λk Q=>t k λh d=>match h with
 |[.int j]=>(-(2^62)<=j/\j<2^62)/\Q (dh 0 j.toNat) d|_=>False
noncomputable abbrev diR2(t:DA):DA:=λk Q=>t k λh d=>match h with
 |[.int i,.int j]=>(-(2^62)<=i/\i<2^62/\-(2^62)<=j/\j<2^62)/\Q (dh i (j - i).toNat) d|_=>False
theorem itOk_range{K:zwW}{pp:ca bn}:ItOkV K pp (Itr j n) M H ((List.range n).map λ(i:Nat)=>V.int (j+i)) where
 yld:=λM2 H2 _ i x H3 d y=>by
  obtain⟨L,U⟩:=y;refine⟨L,?_⟩;have J:i<n:=by simpa using d
  simp[J,U]
 go:=λ_ _ _ i d=>by show i<n;simpa using d
 stop:=λ_ _ _ i d=>by show n<=i;simpa using d
variable{ea eb:dy}
theorem bd(q:X.mg "range" = none)(d:PAD X [ea] tl)(hs:starEach [ea] X.env=[(false,eval ea X.env)]:=by rfl)(U:Gl X "range":=by rfl):PID X tg (.Call (.Name "range" p) [ea] [] pos) (diR1 tl):=by
 obtain⟨T,Y,r⟩:=d;refine⟨_,xx U q Y hs,λs h k=>r s h λh m J L=>?_⟩;split at h
 ·simp only[Reps,Rep]at L;obtain⟨x,r,rfl,rfl,rfl⟩:=L;exact⟨_,rfl,h.1.1,h.1.2,k h.2 m J (itOk_range.of (ii _ _))⟩
 ·exact h.elim
theorem pQ(q:X.mg "range" = none)(d:PAD X [ea,eb] tl)(hs:starEach [ea,eb] X.env=[(false,eval ea X.env),(false,eval eb X.env)]:=by rfl)(J:starEach [eb] X.env=[(false,eval eb X.env)]:=by rfl)(Y:Gl X "range":=by rfl):PID X tg (.Call (.Name "range" p) [ea,eb] [] pos) (diR2 tl):=by
 obtain⟨T,s,r⟩:=d;refine⟨_,xy Y q s hs J,λz h k=>r z h λh m L U=>?_⟩;split at h
 ·simp only[Reps,Rep]at U;obtain⟨x,r,rfl,rfl,y,r',rfl,rfl,rfl⟩:=U;exact⟨_,_,rfl,h.1,k h.2 m L (itOk_range.of (ii _ _))⟩
 ·exact h.elim
def ij(c:DT)(b:DTS):Nat->DEnds->DS->Prop
 |0,_,_=>False|n+1,E,h=>c h λk d=>Br k (b {E with nx:=λJ=>ij c b n E J,ct:=λJ=>ij c b n E J,bk:=E.nx} d) (E.nx d)
noncomputable abbrev Ck(c:DT)(b:DTS):DTS:=λE d=>∃n,ij c b n E d
theorem uH{body:ab Stmt}(l:PTD X c tc)(j:PSsD X body tb)(u:PassesOwn (model X.prog X.w) X.A X.env X.xe:=by exact PassesOwn.never):PSD X (.While c body [] pos) (Ck tc tb):=by
 obtain⟨C,v,y⟩:=l;obtain⟨T,p,r⟩:=j;refine⟨_,Aq u v p,λ{F M H σ N E D} B h o=>?_⟩;obtain⟨n,h⟩:=h;refine⟨λm a G=>∃I Y,Mv X.K F.pp M H I G/\RSt X.K F I G a Y/\ij tc tb m E Y,⟨n,M,N,.refl,B,h⟩,?_⟩;rintro m a G ⟨I,Y,d,g,b⟩;cases m with
 |zero=>exact b.elim|succ m =>
  refine y g b λ{k _ _ _} e q Q=>?_;cases k with
  |false=>exact iteF (o.nx (d.trans q) Q (e.no rfl))|true=>exact iteT ⟨λz H'=>∃M' s,Mv X.K F.pp M H M' H'/\RSt X.K F M' H' z s/\ij tc tb m E s,λz H' i=>⟨m,zxn _,i⟩,r Q (e.yes rfl) ⟨λU J L=>⟨_,_,(d.trans q).trans U,J,L⟩,λU J L=>o.nx ((d.trans q).trans U) J L,λU J L=>⟨_,_,(d.trans q).trans U,J,L⟩,λU J x L=>o.rt ((d.trans q).trans U) J x L⟩⟩
end
noncomputable def jU(n:Nat)(ds:ab D):DS:=ds.map .val++List.replicate (n - ds.length) .nil
theorem lW{K:zwW}{F:Fx}{M:ab bn}{H:Hp}:∀{ds:ab D} {vs:ab V},Reps K F.pp M H ds vs->∀(i:Nat) s o,(ds.map Sl.val)[i]?=some s->(vs.map some)[i]?=some o->RSl K F M H s o
 |[],_,_,_,_,_,g,_=>by simp at g
 |d::ds,_,h,0,s,o,g,k=>by obtain⟨x,r,rfl,h,_⟩:=h;simp at g k;subst g k;exact⟨x,rfl,h⟩
 |d::ds,_,h,i+1,s,o,g,k=>by obtain⟨x,r,rfl,_,h⟩:=h;exact lW h i s o (by simpa using g) (by simpa using k)
theorem rZ{ds:ab D}{es:ab D}(h:(ds.map Sl.val++List.replicate n Sl.nil)[i]?=some (.own es)):False:=by
 have:=zyb h;rcases zzA.mp this with h|h
 ·obtain⟨d,_,e⟩:=zzf.mp h;cases e
 ·have:=zyG h;cases this
theorem se{ds:ab D}{q:O}(h:(ds.map Sl.val++List.replicate n Sl.nil)[i]?=some (.obj q)):False:=by
 have:=zyb h;rcases zzA.mp this with h|h
 ·obtain⟨d,_,e⟩:=zzf.mp h;cases e
 ·have:=zyG h;cases this
theorem jV{K:zwW}{pp:ca bn}{ds:ab D}{vs:ab V}(lv:Lv pp M H)(r:Reps K pp M H ds vs)(C:Frm.L K ⟨pp,M,H⟩ M H):RSt K ⟨pp,M,H⟩ M H (L2.start N vs) (jU N.length ds):=by
 have u:=r.length;refine⟨by simp[L2.start,jU,u],λi s o d g=>?_,OwF.none (λi s e=>⟨λds z=>(rZ (z ▸ e)).elim,λq z=>(se (z ▸ e)).elim⟩),λa h=>h,.refl,lv.m,lv.toLv0,⟨C,lv.t⟩⟩;unfold jU at d;unfold L2.start at g;by_cases k:i<ds.length
 ·rw[zyB (by simpa using k)]at d;rw[zyB (by simpa[←u]using k)]at g;exact lW r i s o d g
 ·rw[zzK (by simp;lia)]at d;have:=zyG (zyb d);subst this;trivial
omit [Frm] in
theorem fnD{P:ef}{K:zwW}{base:cm}{st:Stmt}{f:bn}{k:Nat}(L:Fun K x y st f fd)(S:FnScope N ps (aj st))(U:∀{g:bb} {A:Around} {d:ab Env} {s:bx} {H:Hp} {E:XK},Room k (A.deeper (envOfC y (aj st) s.heap.objs.size f g))->N.Nodup -> @PSsD _ Frm.free (cxOf CX0 P w K mg base N y (aj st) f g A d s H E).nox (bN st) tb)(Y:∀ds Q,ds.length=ps.length->g' ds Q->tb {nx:=λ_=>Q .non,rt:=Q} (jU N.length ds)):FnOk P w K mg base CX0 (k+1) f fd ps (spD K ps.length g'):=by
 refine L.ok S (λC H Q E h=>?_) (λg A d s H C Q E u h=>?_)
 ·obtain⟨pp,M,ds,P,_,r,e,_⟩:=h;rw[←r.length,e]
 ·obtain⟨pp,M,ds,P,lv,r,e,h,k⟩:=h;obtain⟨T,p,run⟩:=U u S.nd;exact⟨T,p,run (jV lv r trivial) (Y ds _ e h) ⟨λm J q=>k q J.sameT (by simp only[Rep]),λ_ _ q=>q,λ_ _ q=>q,λm J z q=>k q J.sameT (z.mv (.less J.sub))⟩⟩
def g2I(C:Int->Int->Prop)(f:Int->Int->D):D->D->(D->Prop)->Prop
 |.int i,.int j,P=>C i j/\P (f i j)|_,_,_=>False
def g2I0(f:Int->Int->D):D->D->(D->Prop)->Prop
 |.int i,.int j,P=>P (f i j)|_,_,_=>False
theorem OpD.ofI{f:bb->bb->Sem bb}{C:Int->Int->Prop}{h:Int->Int->V}{d:Int->Int->D}(o:OpR X f (rI C h))(e:∀pp M H i j,Rep X.K pp M H (d i j) (h i j)):OpD X f (g2I C d):=by
 refine⟨_,o,λ{pp M H x y v u Q P} _ J L h k=>?_⟩;cases x<;>first|exact h.elim|skip
 cases y<;>first|exact h.elim|skip
 exact⟨_,_,J,L,h.1,k h.2 .refl (e _ M H _ _)⟩
theorem OpD.ofI0{f:bb->bb->Sem bb}{h:Int->Int->V}{d:Int->Int->D}(o:OpR X f (rI0 h))(e:∀pp M H i j,Rep X.K pp M H (d i j) (h i j)):OpD X f (g2I0 d):=by
 refine⟨_,o,λ{pp M H x y v u Q P} _ J L h k=>?_⟩;cases x<;>first|exact h.elim|skip
 cases y<;>first|exact h.elim|skip
 exact⟨_,_,J,L,k h .refl (e _ M H _ _)⟩
theorem bB:OpD X (binaryOp .Add) (g2I0 λi j=>.int (i+j)):=.ofI0 jw λ_ _ _ _ _=>aR
theorem jW:OpD X (binaryOp .Sub) (g2I0 λi j=>.int (i - j)):=.ofI0 FZ λ_ _ _ _ _=>aR
theorem bR:OpD X (binaryOp .Mult) (g2I CMulB λi j=>.int (i*j)):=.ofI gX λ_ _ _ _ _=>aR
theorem yH:OpD X (binaryOp .Mod) (g2I (λ_ j=>0<j) λi j=>.int (i % j)):=.ofI iF λ_ _ _ _ _=>aR
theorem Ei:OpD X (binaryOp .Mod) (g2I (λ_ j=>j≠0) λi j=>.int (i.fmod j)):=.ofI Dm λ_ _ _ _ _=>aR
theorem uI:OpD X (binaryOp .FloorDiv) (g2I GD λi j=>.int (i.fdiv j)):=.ofI AC λ_ _ _ _ _=>aR
theorem AX:OpD X (compareOp .Lt) (g2I0 λi j=>.bl (decide (i<j))):=.ofI0 Gg λ_ _ _ _ _=>bJ
theorem iW:OpD X (compareOp .LtE) (g2I0 λi j=>.bl (decide (i<=j))):=.ofI0 Jq λ_ _ _ _ _=>bJ
theorem ik:OpD X (compareOp .Gt) (g2I0 λi j=>.bl (decide (j<i))):=.ofI0 Gh λ_ _ _ _ _=>bJ
noncomputable def Ej:D->Bool
 |.non=>true|_=>false
theorem pR{K:zwW}{d:D}(r:Rep K pp M H d v):decide (v=.non)=Ej d:=by
 cases d<;>simp only[Rep]at r
 case non=>subst r;rfl
 case bl=>subst r;rfl
 case int=>subst r;rfl
 case str=>subst r;rfl
 case ty=>subst r;rfl
 case tup=>obtain⟨a,xs,rfl,_⟩:=r;rfl
 case lst=>obtain⟨a,xs,rfl,_⟩:=r;rfl
 case dT=>obtain⟨a,xs,rfl,_⟩:=r;rfl
 case pen=>obtain⟨a,rfl,_⟩:=r;rfl
 case ins=>obtain⟨a,dx,fs,rfl,_⟩:=r;rfl
 case cls=>subst r;rfl
def gIsN(n:Bool):D->D->(D->Prop)->Prop
 |x,.non,P=>P (.bl (if n then !Ej x else Ej x))|_,_,_=>False
theorem uJ:OpD X (compareOp .Is) (gIsN false):=by
 refine⟨_,Gi,λ{pp M H x y v u Q P} _ J L h k=>?_⟩;cases y<;>first|exact h.elim|skip
 exact⟨L,k h .refl (by rw[pR J];exact bJ)⟩
theorem Ek:OpD X (compareOp .IsNot) (gIsN true):=by
 refine⟨_,Dq,λ{pp M H x y v u Q P} _ J L h k=>?_⟩;cases y<;>first|exact h.elim|skip
 exact⟨L,k h .refl (by rw[pR J];exact bJ)⟩
def UnD(X:Cx)(f:bb->Sem bb)(g:D->(D->Prop)->Prop):Prop:=∃r,UnR X f r/\∀{pp M H x v Q P},Lv pp M H->Rep X.K pp M H x v->g x P->(∀{d H' w},P d->SameP X.K pp H H'->Rep X.K pp M H' d w->Q w H')->r v H Q
noncomputable abbrev dUn(g:D->(D->Prop)->Prop)(ta:DE):DE:=λh Q=>ta h λx J=>g x λd=>Q d J
theorem fJ{op:UnaryOp}{g:D->(D->Prop)->Prop}{a:dy}(q:UnD X (unaryOp op) g)(d:PED X a ta):PED X (.UnaryOp op a pos) (dUn g ta):=by obtain⟨r,U,L⟩:=q;obtain⟨Ta,Y,z⟩:=d;exact⟨_,Jo U Y,λC h k=>z C h λh m J u=>L J.liv u h λh s r=>k h (m.trans s.mv) (J.sameP s) r⟩
def gNeg:D->(D->Prop)->Prop
 |.int i,P=>P (.int (-i))|_,_=>False
theorem cN:UnD X (unaryOp .USub) gNeg:=by
 refine⟨_,Ge,λ{pp M H x v Q P} _ J h k=>?_⟩;cases x<;>first|exact h.elim|skip
 exact⟨_,J,k h .refl aR⟩
noncomputable def He:D->Bool
 |.int _=>true|.bl _=>true|_=>false
noncomputable def El:D->Bool
 |.bl _=>true|_=>false
noncomputable def Hf:D->Bool
 |.str _=>true|_=>false
noncomputable def yI:D->Bool
 |.tup _=>true|_=>false
noncomputable def AY:D->Bool
 |.pen=>false|.ins _ _ _=>false|.cls _=>false|.ty _=>false|.dT _ _=>false|_=>true
theorem Hg{K:zwW}{d:D}(r:Rep K pp M H d v)(f:AY d=true):knV H v:=by
 cases d<;>first|cases f|skip
 case non=>subst r;trivial
 case bl=>subst r;trivial
 case int=>subst r;trivial
 case str=>subst r;trivial
 case tup=>obtain⟨a,xs,rfl,h,_⟩:=r;exact .inr (.inr (.inl ⟨xs,h⟩))
 case lst=>obtain⟨a,xs,rfl,_,_,h,_⟩:=r;exact .inl ⟨xs,h⟩
def gIs(T:String)(f:D->Bool):DSp:=λg P=>match g with
 |[d,.ty J]=>J=T/\AY d=true/\P (.bl (f d))|_=>False
theorem CallD.isOf{f:Hp->V->Bool}{L:D->Bool}(g:cr X (.builtin "isinstance") (λxs H Q=>∃x,xs=[x,.ty T]/\knV H x/\Q (.bl (f H x)) H))(e:∀pp M H d v,Rep X.K pp M H d v->AY d=true->f H v=L d):CallD X (.builtin "isinstance") (gIs T L):=by
 refine⟨_,g,λ{pp M H ds vs Q P} _ r h k=>?_⟩;unfold gIs at h;split at h
 case h_2=>exact h.elim
 obtain⟨Y,J,h⟩:=h;obtain⟨x,r,rfl,U,y,r',rfl,m,rfl⟩:=r;subst m Y;exact⟨x,rfl,Hg U J,k h .refl (by rw[e _ M H _ x U J];exact bJ)⟩
theorem yJ:CallD X (.builtin "isinstance") (gIs "int" He) :=
 .isOf rO λpp M H d v r _=>by
 cases d<;>simp only[Rep]at r<;>first|(subst r;rfl)|(obtain⟨a,rfl,_⟩:=r;rfl)|(obtain⟨a,b,rfl,_⟩:=r;rfl)|(obtain⟨a,b,c,rfl,_⟩:=r;rfl)
theorem wv:CallD X (.builtin "isinstance") (gIs "bool" El) :=
 .isOf pz λpp M H d v r _=>by
 cases d<;>simp only[Rep]at r<;>first|(subst r;rfl)|(obtain⟨a,rfl,_⟩:=r;rfl)|(obtain⟨a,b,rfl,_⟩:=r;rfl)|(obtain⟨a,b,c,rfl,_⟩:=r;rfl)
theorem pS:CallD X (.builtin "isinstance") (gIs "str" Hf) :=
 .isOf rP λpp M H d v r _=>by
 cases d<;>simp only[Rep]at r<;>first|(subst r;rfl)|(obtain⟨a,rfl,_⟩:=r;rfl)|(obtain⟨a,b,rfl,_⟩:=r;rfl)|(obtain⟨a,b,c,rfl,_⟩:=r;rfl)
theorem sf:CallD X (.builtin "isinstance") (gIs "tuple" yI) :=
 .isOf mY λpp M H d v r f=>by
 cases d<;>first|cases f|skip
 case tup=>obtain⟨a,xs,rfl,h,_⟩:=r;simp[iH,h,iG,yI]
 all_goals first|(subst r;rfl)|(obtain⟨a,xs,rfl,_,_,h,_⟩:=r;simp[iH,h,iG,yI])
def gLen:DSp:=λd P=>match d with
 |[.tup xs]=>P (.int xs.length)|[.lst xs]=>P (.int xs.length)|_=>False
theorem aX:CallD X (.builtin "len") gLen:=by
 refine⟨_,xW,λ{pp M H ds vs Q P} _ r h k=>?_⟩;unfold gLen at h;split at h
 case h_3=>exact h.elim
 ·obtain⟨x,r,rfl,⟨a,ys,rfl,d,J⟩,rfl⟩:=r;exact⟨a,ys.length,rfl,by rw[d];rfl,k h .refl (by rw[←J.length];exact aR)⟩
 ·obtain⟨x,r,rfl,⟨a,ys,rfl,_,_,d,J⟩,rfl⟩:=r;exact⟨a,ys.length,rfl,by rw[d];rfl,k h .refl (by rw[←J.length];exact aR)⟩
def gAbs:DSp:=λd P=>match d with
 |[.int i]=>P (.int (if i<0 then -i else i))|_=>False
theorem Hh:CallD X (.builtin "abs") gAbs:=by
 refine⟨_,Au,λ{pp M H ds vs Q P} _ r h k=>?_⟩;unfold gAbs at h;split at h
 case h_2=>exact h.elim
 obtain⟨x,r,rfl,rfl,rfl⟩:=r;exact⟨_,rfl,k h .refl aR⟩
def Em:DSp:=λd P=>match d with
 |[.int i]=>P (.int i)|[.bl b]=>P (.int (if b then 1 else 0))|_=>False
theorem lX:CallD X (.type "int") Em:=by
 refine⟨_,xB,λ{pp M H ds vs Q P} _ r h k=>?_⟩;unfold Em at h;split at h
 case h_3=>exact h.elim
 all_goals
  obtain⟨x,r,rfl,rfl,rfl⟩:=r
 ·exact .inl ⟨_,rfl,k h .refl aR⟩
 ·exact .inr ⟨_,rfl,k h .refl aR⟩
def Cl:DSp:=λd P=>match d with
 |[.tup xs]=>P (.tup xs)|[.lst xs]=>P (.tup xs)|_=>False
theorem bM:CallD X (.type "tuple") Cl:=by
 refine⟨_,mV,λ{pp M H ds vs Q P} _ r h k=>?_⟩;unfold Cl at h;split at h
 case h_3=>exact h.elim
 ·simp only[Reps]at r;obtain⟨x,r,rfl,L,rfl⟩:=r;have J:=L;obtain⟨a,ys,rfl,d,U⟩:=L;exact⟨a,ys,rfl,.inr ⟨SqT.of d,k h .refl J⟩⟩
 ·simp only[Reps,Rep]at r;obtain⟨x,r,rfl,⟨a,ys,rfl,_,_,d,U⟩,rfl⟩:=r;refine⟨a,ys,rfl,.inl ⟨SqL.of d,λl g=>k h (.new g) ?_⟩⟩;exact⟨l,ys,rfl,ae,U.mv (.new g)⟩
noncomputable abbrev yK(te:DE):DA:=λh Q=>te h λd g=>match d with
 |.tup xs=>Q xs g|.lst xs=>Q xs g|_=>False
theorem su(u:Gl X x)(z:X.mg x=none)(G:bootBuiltins x=some (.type "list"))(he:PED X e te)(C:x ≠ "__name__":=by decide)(L:(x==("__debug__" : Str))=false:=by decide)(hs:starEach [e] X.env=(false,eval e X.env)::starEach [] X.env:=by rfl)(U:(backTo pos (starEach [] X.env)).any (·.1)=false:=by rfl):PLD X (.Call (.Name x p) [e] [] pos) (yK te):=by
 obtain⟨T,I,Q⟩:=he;refine⟨_,gj oU u z G (aQ I bD hs) C L hs U,λb h k=>Q b h λ{d _ _ _ _} h m J s=>?_⟩;cases d<;>first|exact h.elim|skip
 case tup xs =>
  obtain⟨a,ys,rfl,g,Y⟩:=s;exact⟨a,ys,rfl,.inr (SqT.of g),λl q=>k h m J q Y⟩
 case lst xs =>
  obtain⟨a,ys,rfl,_,_,g,Y⟩:=s;exact⟨a,ys,rfl,.inl (SqL.of g),λl q=>k h m J q Y⟩
def opt(o:ca D)(P:D->Prop):Prop:=match o with
 |some d=>P d|none=>False
theorem uK{o:ca D}{P:D->Prop}(h:opt o P):∃d,o=some d/\P d:=by cases o<;>first|exact h.elim|exact⟨_,rfl,h⟩
def gIx:D->D->(D->Prop)->Prop
 |.tup xs,.int i,P=>opt (atI xs i) P|.lst xs,.int i,P=>opt (atI xs i) P|_,_,_=>False
theorem nA{K:zwW}{ds:ab D}{i:Int}{d:D}(r:Reps K pp M H ds xs)(h:atI ds i=some d):∃v,atI xs i=some v/\Rep K pp M H d v:=by
 unfold atI at h ⊢;rw[r.length]at h;cases q:ixN xs.length i with
 |none=>rw[q]at h;cases h
 |some j =>
  rw[q]at h;obtain⟨v,J,L⟩:=r.get' h;exact⟨v,J,L⟩
theorem JR{a b:dy}(m:PED X a ta)(q:PED X b te)(hs:eO b):PED X (.Subscript a b pos) (dOp gIx ta te):=by
 obtain⟨Ta,s,G⟩:=m;obtain⟨Tb,C,I⟩:=q;refine⟨_,kZ (IxR.or rQ mZ) s C hs,ig (λ{pp M H x y v u Q P} _ Y g h k=>?_) G I⟩;cases x<;>first|exact h.elim|skip
 all_goals cases y<;>first|exact h.elim|skip
 all_goals
  obtain⟨d,e,h⟩:=uK h
 ·obtain⟨p,xs,rfl,L,r⟩:=Y;obtain⟨z,J,U⟩:=nA r e;exact .inl ⟨p,xs,_,z,rfl,g,L,J,k h .refl U⟩
 ·obtain⟨p,xs,rfl,_,_,L,r⟩:=Y;obtain⟨z,J,U⟩:=nA r e;exact .inr ⟨p,xs,_,z,rfl,g,L,J,k h .refl U⟩
section
variable{F:Fx}
def JS(i:Nat)(E:DEnds)(ρ:DS)(d:D):Sl->Prop
 |.own g=>g.length<sizeLine/\E.nx (ρ.set i (.own (g++[d])))|_=>False
def yL:Sl->Prop
 |.own _=>True|_=>False
theorem jl{s:Sl}(h:yL s):∃ds,s=.own ds:=by cases s<;>first|exact⟨_,rfl⟩|exact h.elim
noncomputable abbrev dApp(i:Nat)(te:DE):DTS:=λE h=>yL (slot h i)/\te h λd g=>JS i E g d (slot g i)
theorem RSt.write{K:zwW}{M:ab bn}{H:Hp}{σ:St}{ρ:DS}{l:bn}{ys:ab V}{ds es:ab D}{i:Nat}(r:RSt K F M H σ ρ)(h:ρ[i]?=some (.own ds))(u:σ[i]?=some (some (.ref l)))(hd:Reps K F.pp M H es ys) :
  Mv K F.pp M H M (upd H l (.lst ys))/\RSt K F M (upd H l (.lst ys)) σ (ρ.set i (.own es)):=by
 obtain⟨B,xs,e,c,h0,y,E,hr⟩:=r.sl i _ _ h u;cases e;have m:Mv K F.pp M H M (upd H l (.lst ys)):=.write E c y;refine⟨m,⟨by simp[r.len],λj q o g k=>?_,r.ow.step m i (λ_ _=>rfl) (λj e=>zzP (Ne.symm e)) (λA Q G=>⟨A,λs o e1 U=>?_,λb L=>⟨(G b L).1,(G b L).2.1,(G b L).2.2,.inl L⟩,λa I _ _ hn=>⟨I,λx e _=>?_⟩⟩),r.sub,?_,r.old,?_,r.lk.cl m⟩⟩
 ·by_cases e:i=j
  ·subst e;rw[u]at k;rw[aV g];cases k;exact⟨l,ys,rfl,c,h0,y,ae,hd.mv m⟩
  ·rw[zzP e]at g;have C:=r.sl j q o g k;cases q with
   |nil=>trivial|val d=>obtain⟨v,e,q⟩:=C;exact⟨v,e,q.mv m⟩
   |pin w d=>obtain⟨v,e,ew,q⟩:=C;exact⟨v,e,ew,q.mv m⟩
   |own es =>
    obtain⟨B,zs,rfl,N,Y,T,J,a6⟩:=C;refine⟨B,zs,rfl,N,Y,T,?_,a6.mv m⟩;rw[af]
    ·exact J
    ·rintro rfl;exact e (r.own i j _ _ _ h g u k)
   |obj q=>exact C
 ·rw[aV e1];exact Q _ _ h U
 ·obtain⟨l2,U,e3⟩:=Q _ _ h u;cases U;rw[af (by rintro rfl;exact hn (by rw[e3];simp))];exact e
 ·refine⟨λb o e n=>?_,λp e h=>m.pen p e (r.same.pen p e h),λb e=>?_⟩
  ·rw[af (by rintro rfl;rw[h0]at e;cases e)];exact r.same.keep b o e n
  ·by_cases z:b=l
   ·subst z;rw[ae];intro z;cases z
   ·rw[af z];exact r.same.live b e
 ·refine⟨λa I=>?_,λp e=>?_⟩
  ·by_cases z:a=l
   ·subst z;rw[ae];intro z;cases z
   ·rw[af z];exact r.liv.m a I
  ·by_cases z:p=l
   ·subst z;rw[ae];intro z;cases z
   ·rw[af z];exact r.liv.p p e
theorem cO{o:dy}(j:PE X o (tVar i))(he:PED X e te)(J:attributeBase o "append" X.env (eval o X.env)=eval o X.env:=by rfl)(Y:((backTo tp (starEach [e] X.env)).all (λx=>!x.1) && (backToKw tp (keywordEach [] X.env)).all (λx=>x.1.isSome)
   && decide ([e].length+([]:ab Keyword).length+(if ([]:ab Keyword).isEmpty then 0 else 1)<30))=true:=by rfl)(L:(py.endLine==tp.line)=true:=by rfl)(s:starEach [e] X.env=(false,eval e X.env)::starEach [] X.env:=by rfl)(Q:(backTo tp (starEach [] X.env)).any (·.1)=false:=by rfl)(hs:swapsWith (.Call (.Attribute o "append" py) [e] [] tp) none pos.line X.env=pure false:=by rfl):PSD X (.Expr (.Call (.Attribute o "append" py) [e] [] tp) pos) (dApp i te):=by
 obtain⟨T,p,r⟩:=he;refine⟨_,mO (rF zxs PySem.F.slot_list_append PySem.F.type_list_append jC j (aQ p bD s) J Y L s Q) hs,λ{F M H σ ρ E D} C h v=>?_⟩;obtain⟨h0,h⟩:=h;obtain⟨ds,q⟩:=jl h0;obtain⟨_,U,l,xs,rfl,_,_,_,I,_⟩:=C.at (aD q);refine⟨.ref l,U,.inl ⟨rfl,xs,SqL.of I⟩,r C h λ{d g _ _ _} h m u w=>?_⟩;cases z:slot g i<;>rw[z]at h<;>first|exact h.elim|skip
 have g1:=aD z;obtain⟨_,b,c,_,_,_,G,k⟩:=u.sl i _ _ g1 U;cases c;obtain⟨n,a⟩:=u.write g1 U (k.append (.one w));exact⟨l,b,_,rfl,rfl,G,by rw[←k.length];exact h.1,v.nx (m.trans n) a h.2⟩
end
def AZ:DSp:=λd P=>match d with
 |[.pen,.int m]=>(1<=m/\m<=10^60)/\∀r,0<=r->r<m->P (.int r)|_=>False
theorem En{P:ef}{K:zwW}{base:cm}{k:Nat}{f:bn}(h:FnOk P w K mg base CX0 k f fd ps (xX K)):FnOk P w K mg base CX0 k f fd ps (spD K 2 AZ) :=
 h.imp λvs H Q E h=>by
  obtain⟨pp,M,ds,P,lv,r,e,h,k⟩:=h;unfold AZ at h;split at h
  case h_2=>exact h.elim
  obtain⟨⟨s,u⟩,h⟩:=h;obtain⟨x,_,rfl,⟨p,rfl,d,a,g,t,l,pen⟩,y,_,rfl,rfl,rfl⟩:=r;refine⟨p,a,g,t,l,_,rfl,pen,s,u,λr C Y H' h0 m J U=>k (h r h0 m) ⟨⟨λb o L n=>?_,λq e _=>?_,λb L=>?_⟩,λtb=>tb.of λb o e G=>U b o (by rintro rfl;rw[pen.lst]at e;cases e;exact ny G) e⟩ aR⟩
  ·by_cases z:b=p
   ·subst z;rw[pen.lst]at L;cases L;exact absurd rfl (n.1 d _)
   ·exact U b o z L
  ·rw[d]at e;cases e;exact⟨a,g,C,Y,J⟩
  ·by_cases z:b=p
   ·subst z;rw[J.lst];intro z;cases z
   ·cases q:H b with
    |none=>exact absurd q L|some o=>rw[U b o z q];intro z;cases z
def spLaw(K:zwW):Sp:=λg H Q _=>∃a d,g=[.ref a]/\Scr K H a d/\Tabs H/\∀H',Q (.bl true) H'
mutual
def toPy:D->PyData
 |.non=>.none|.bl b=>.bool b|.int i=>.int i|.str x=>.str x|.tup d=>.tuple (pU d)|.lst d=>.list (pU d)|.ty _=>.none|.dT _ _=>.none|.pen=>.none|.ins _ _ _=>.none|.cls _=>.none
def pU:ab D->ab PyData
 |[]=>[]|d::g=>toPy d::pU g
def pln:D->Bool
 |.pen=>false|.ins _ _ _=>false|.cls _=>false|.ty _=>false|.dT _ _=>false|.tup d=>plns d|.lst d=>plns d|_=>true
def plns:ab D->Bool
 |[]=>true|d::g=>pln d && plns g
end
noncomputable def eqD(x y:D):Bool:=PyData.eqv (toPy x) (toPy y)
noncomputable def shp(d:D):Bool:=pln d && SeqAt.shaped (toPy d)
mutual
theorem gz{P:ef}{w:World}{K:zwW}{pp:ca bn}{M:ab bn}{H:Hp}{h:cm}(ok:HOk P w H h):∀(d:D) (v:V) (u:bb),pln d=true->Rep K pp M H d v->RelV v u->∃as,Reads h u (toPy d) as
 |.non,_,_,_,r,q=>by simp only[Rep]at r;subst r;cases q;exact⟨_,.none⟩
 |.bl b,_,_,_,r,q=>by simp only[Rep]at r;subst r;cases q;exact⟨_,.bool b⟩
 |.int i,_,_,_,r,q=>by simp only[Rep]at r;subst r;obtain⟨t,rfl⟩:=q;exact⟨_,.int i t⟩
 |.str x,_,_,_,r,q=>by simp only[Rep]at r;subst r;obtain⟨t,rfl⟩:=q;exact⟨_,.str x t⟩
 |.tup k,_,_,p,r,q=>by simp only[Rep]at r;obtain⟨a,xs,rfl,m,r⟩:=r;cases q;obtain⟨_,g,C,o,s,J,n,hd⟩:=ok a _ m;obtain⟨as,z⟩:=jX ok k xs g (by simpa only[pln]using p) r C;exact⟨_,by rw[toPy];exact .tuple s J hd (by simpa using z)⟩
 |.lst k,_,_,p,r,q=>by simp only[Rep]at r;obtain⟨a,xs,rfl,_,_,m,r⟩:=r;cases q;obtain⟨_,g,n,C,s⟩:=ok a _ m;obtain⟨as,z⟩:=jX ok k xs g (by simpa only[pln]using p) r C;exact⟨_,by rw[toPy];exact .list s rfl rfl (by simpa using z)⟩
 |.ty _,_,_,p,_,_=>by simp[pln]at p
 |.dT _ _,_,_,p,_,_=>by simp[pln]at p
 |.pen,_,_,p,_,_=>by simp[pln]at p
 |.ins _ _ _,_,_,p,_,_=>by simp[pln]at p
 |.cls _,_,_,p,_,_=>by simp[pln]at p
theorem jX{P:ef}{w:World}{K:zwW}{pp:ca bn}{M:ab bn}{H:Hp}{h:cm}(ok:HOk P w H h):∀(ds:ab D) (vs:ab V) (g:ab bb),plns ds=true->Reps K pp M H ds vs->Vals vs g->∃as,ReadsAll h g (pU ds) as
 |[],_,_,_,r,q=>by simp only[Reps]at r;subst r;cases q;exact⟨_,.nil⟩
 |d::ds,_,_,p,r,q=>by
  simp only[Reps]at r;obtain⟨x,r',rfl,U,Y⟩:=r;simp only[plns,zzV]at p;cases q with
  |cons J L =>
   obtain⟨as,k⟩:=gz ok d _ _ p.1 U J;obtain⟨bs,m⟩:=jX ok ds _ _ p.2 Y L;exact⟨_,by rw[pU];exact .cons k m⟩
end
section
variable{k:Nat}
def rEqD(K:zwW)(n:Bool):R2:=λx y H Q=>∃pp M dx J,Rep K pp M H dx x/\Rep K pp M H J y/\shp dx=true/\shp J=true/\Q (.bl (if n then !eqD dx J else eqD dx J)) H
theorem Hi(L:Room k X.A):OpR X (compareOp .Eq) (rEqD X.K false):=by intro pins s σ H x y v u Q I m z h;obtain⟨pp,M,dx,J,U,Y,d,g,q⟩:=h;unfold shp at d g;rw[zzV]at d g;obtain⟨as,C⟩:=gz I.hok dx x v d.1 U m;obtain⟨bs,G⟩:=gz I.hok J y u g.1 Y z;exact SeqAt.compareEq_shaped C G d.2 g.2 (by have:=L.un;lia) (bQ I q rfl)
theorem Hj(L:Room k X.A):OpR X (compareOp .NotEq) (rEqD X.K true):=by intro pins s σ H x y v u Q I m z h;obtain⟨pp,M,dx,J,U,Y,d,g,q⟩:=h;unfold shp at d g;rw[zzV]at d g;obtain⟨as,C⟩:=gz I.hok dx x v d.1 U m;obtain⟨bs,G⟩:=gz I.hok J y u g.1 Y z;exact SeqAt.compareNe_shaped C G d.2 g.2 (by have:=L.un;lia) (bQ I q rfl)
def gEq(n:Bool):D->D->(D->Prop)->Prop:=λx y P=>(shp x=true/\shp y=true)/\P (.bl (if n then !eqD x y else eqD x y))
theorem aW(J:Room k X.A):OpD X (compareOp .Eq) (gEq false) :=
 ⟨_,Hi J,λ_ L U h k=>⟨_,_,_,_,L,U,h.1.1,h.1.2,k h.2 .refl bJ⟩⟩
theorem fT(J:Room k X.A):OpD X (compareOp .NotEq) (gEq true) :=
 ⟨_,Hj J,λ_ L U h k=>⟨_,_,_,_,L,U,h.1.1,h.1.2,k h.2 .refl bJ⟩⟩
end
def Hk:D->D->(D->Prop)->Prop
 |.tup xs,.tup ys,P=>(xs≠[]/\xs.length+ys.length<=sizeLine)/\P (.tup (xs++ys))|_,_,_=>False
theorem Eo:OpD X (binaryOp .Add) Hk:=by
 refine⟨_,xH,λ{pp M H x y v u Q P} _ Y C h k=>?_⟩;cases x<;>first|exact h.elim|skip
 cases y<;>first|exact h.elim|skip
 rename_i xs ys;have U:=Y;obtain⟨a,G,rfl,s,J⟩:=Y;obtain⟨b,I,rfl,z,L⟩:=C;obtain⟨⟨m,q⟩,h⟩:=h;refine⟨a,b,G,I,rfl,rfl,SqT.of s,SqT.of z,?_,by rw[←J.length,←L.length];exact q,λe=>?_,λe l d=>k h (.new d) ?_⟩
 ·rintro rfl;exact m (zzH.mp J.length)
 ·subst e;have g:ys=[]:=zzH.mp L.length;subst g;rw[zzs]at h;exact k h .refl U
 ·simp only[Rep];exact⟨l,_,rfl,ae,(J.append L).mv (.new d)⟩
noncomputable abbrev DO:=DS->(ca Int->DS->Prop)->Prop
def POD(X:Cx)(e:ca dy)(t:DO):Prop:=∃T:TO,PO X e T/\RU X.K T t
noncomputable abbrev Cm:DO:=λd Q=>Q none d
noncomputable abbrev yM(te:DE):DO:=λh Q=>te h λd g=>match d with
 |.int i=>Q (some i) g|_=>False
theorem eA:POD X none Cm :=
 ⟨_,rD,λJ h k=>k h .refl J⟩
theorem cJ(he:PED X e te):POD X (some e) (yM te):=by
 obtain⟨T,p,r⟩:=he;refine⟨_,Dy p,λU h k=>r U h λ{d _ _ _ _} h m J L=>?_⟩;cases d<;>first|exact h.elim|skip
 exact⟨_,L,k h m J⟩
noncomputable def cutD(xs:ab D)(lo hi:ca Int):ab D:=(xs.drop (HT.sIx xs.length 0 lo)).take (HT.sIx xs.length xs.length hi - HT.sIx xs.length 0 lo)
theorem Reps.cut{K:zwW}{ds:ab D}(lo d:ca Int)(r:Reps K pp M H ds xs):Reps K pp M H (cutD ds lo d) (cutV xs lo d):=by unfold cutD cutV;rw[r.length];exact(r.drop _).take _
theorem pV{g:DG}{b:DTS}{E:DEnds}{ds:ab D}(N:DS->Prop)(m:∀ρ,N ρ->E.nx ρ)
  (hs:∀d∈ds,∀(ρ:DS) (X:DS->Prop),N ρ->(∀k,N k->X k)->g d ρ λJ=>b {E with nx:=X,ct:=X,bk:=E.nx} J):∀ρ,N ρ->cX g b ds E ρ:=by
 induction ds with
 |nil=>exact m|cons d r L=>exact λρ h=>hs d zze ρ _ h (L λd hd=>hs d (zzb _ hd))
theorem aG{g:DG}{b:DTS}{E:DEnds}{ds:ab D}(N:ab D->DS->Prop)(m:∀ρ,N ds ρ->E.nx ρ)
  (hs:∀(pre:ab D) (d:D) (post:ab D) (ρ:DS) (X:DS->Prop),ds=pre++d::post->N pre ρ->(∀k,N (pre++[d]) k->X k)->g d ρ λJ=>b {E with nx:=X,ct:=X,bk:=E.nx} J) (ρ:DS) (h:N [] ρ):cX g b ds E ρ:=by
 have key:∀(post pre:ab D),ds=pre++post->∀ρ,N pre ρ->cX g b post E ρ:=by
  intro post
  induction post with
  |nil=>intro pre e ρ h;rw[zzs]at e;subst e;exact m ρ h|cons d r L=>intro pre e ρ h;exact hs pre d r ρ _ e h (L (pre++[d]) (by rw[e,zzR];rfl))
 exact key ds [] rfl ρ h
theorem lY{b:DTS}{E:DEnds}(N:DS->Prop)(J:DS->Nat)(hs:∀(ρ:DS) (X:DS->Prop),N ρ->(∀d,N d->J d<J ρ->X d)->tc ρ λk d=>Br k (b {E with nx:=X,ct:=X,bk:=E.nx} d) (E.nx d))(ρ:DS)(h:N ρ):Ck tc b E ρ:=by
 have key:∀n ρ,N ρ->J ρ<n->ij tc b n E ρ:=by
  intro n
  induction n with
  |zero=>intro ρ _ h;exact absurd h (zxx _)|succ n L=>intro ρ h hl;exact hs ρ _ h λd g hl'=>L d g (by lia)
 exact⟨_,key _ ρ h (zxn _)⟩
theorem Cn{xs:ab α}(h0:0<=r)(h1:r<xs.length):∃d,atI xs r=some d/\xs[r.toNat]?=some d:=by
 obtain⟨j,rfl⟩:=zyl h0;have J:j<xs.length:=by lia
 exact⟨xs[j],atI_nat (by simp[J]),by simp[J]⟩
theorem au{xs:ab D}{d:D}{Q:D->Prop}(h0:0<=r)(e:xs[r.toNat]?=some d)(h:Q d):opt (atI xs r) Q:=by obtain⟨j,rfl⟩:=zyl h0;rw[atI_nat (show xs[j]?=some d from e)];exact h
theorem sz(h:Nat.ble n 1000=true:=by rfl):n<=sizeLine:=zzl (Nat.le_of_ble_eq_true h) (by decide)
theorem aK{i:Int}:eqD (.int i) (.int j)=decide (i=j):=by show (i==j)=_;by_cases h:i=j<;>simp[h]
def Bd(n:Nat)(i:Int):Prop:=i.natAbs<2^n
theorem Bd.mono{m:Nat}{i:Int}(h:Bd m i)(l:m<=n):Bd n i:=zzJ h (zxT (by decide) l)
theorem Bd.mul{m:Nat}{i:Int}(h:Bd m i)(q:Bd n j):Bd (m+n) (i*j):=by unfold Bd at *;rw[Int.natAbs_mul,Nat.pow_add];exact Nat.mul_lt_mul'' h q
theorem Bd.add{m:Nat}{i:Int}(h:Bd m i)(q:Bd n j):Bd (max m n+1) (i+j):=by have h1:=h.mono (Nat.le_max_left m n);have h2:=q.mono (Nat.le_max_right m n);unfold Bd at *;lia
theorem Bd.sub{m:Nat}{i:Int}(h:Bd m i)(q:Bd n j):Bd (max m n+1) (i - j):=by have h1:=h.mono (Nat.le_max_left m n);have h2:=q.mono (Nat.le_max_right m n);unfold Bd at *;lia
theorem Bd.le{m:Nat}{i:Int}(h:Bd m j)(l:i.natAbs<=j.natAbs):Bd m i:=zzw l h
theorem Bd.big{m:Nat}{i:Int}(h:Bd m i)(l:m<=8000):Big i:=xU (h.mono l)
theorem Bd.cmul{m:Nat}{i:Int}(h:Bd m i)(q:Bd n j)(l:m<=8000:=by decide)(J:n<=8000:=by decide):CMulB i j:=.inr (.inr ⟨h.big l,q.big J⟩)
def gGcd:DSp:=λd Q=>match d with
 |[.int a,.int b]=>Q (.int (Int.gcd a b:Nat))|_=>False
def Co:DSp:=λd Q=>match d with
 |[.int a,.int b]=>(b≠0/\Bd 7000 a/\Bd 7000 b)/\∀x y,Ra.Low a b x y->Q (.tup [.int x,.int y])|_=>False
def gRR(t b:Int->Int->Int->Int->Int):DSp:=λg Q=>match g with
 |[.tup [.int a,.int J],.tup [.int c,.int d]]=>(b a J c d≠0/\Bd 3000 a/\Bd 3000 J/\Bd 3000 c/\Bd 3000 d)/\∀x y,Ra.Low (t a J c d) (b a J c d) x y->Q (.tup [.int x,.int y])|_=>False
def Ep:DSp:=gRR (λa b c d=>a*d+c*b) (λ_ b _ d=>b*d)
def yN:DSp:=gRR (λa b c d=>a*d - c*b) (λ_ b _ d=>b*d)
def Er:DSp:=gRR (λa _ _ d=>a*d) (λ_ b c _=>b*c)
def Ba:DSp:=λg Q=>match g with
 |[.tup [.int a,.int b],.tup [.int c,.int d]]=>(Bd 7000 a/\Bd 7000 b/\Bd 7000 c/\Bd 7000 d)/\Q (.bl (decide (a*d<c*b)))|_=>False
end
noncomputable def pW:Sl->Sl
 |.own _=>.nil|.obj _=>.nil|s=>s
theorem fU(s:Sl):(∀ds,pW s ≠ .own ds)/\∀q,pW s ≠ .obj q:=by cases s<;>exact⟨λds z=>(by cases z),λq z=>(by cases z)⟩
noncomputable def cG(ρ:DS):DS:=ρ.map pW
noncomputable def Hl(ρ:DS):ca Nat->Sl
 |none=>.nil|some j=>pW (slot ρ j)
noncomputable def subD(js:ab (ca Nat))(ρ:DS):DS:=js.map (Hl ρ)
def bU(g:DG)(tc:DT)(te:DE):ab D->ab D->DS->(ab D->Prop)->Prop
 |[],J,_,Q=>Q J|d::r,J,h,Q=>g d h λU=>tc U λb L=>Br b (te L λy Y=>J.length<sizeLine/\bU g tc te r (J++[y]) (cG Y) Q) (bU g tc te r J (cG L) Q)
noncomputable abbrev Hm(t:DA)(js:ab (ca Nat))(g:DG)(tc:DT)(te:DE):DA:=λh Q=>t h λd J=>bU g tc te d [] (subD js J) λys=>Q ys J
noncomputable def delH(H:Hp)(a:bn):Hp:=λb=>if b=a then none else H b
theorem yO:delH H a a=none:=by simp[delH]
theorem eR(h:b≠a):delH H a b=H b:=by simp[delH,h]
theorem Tabs.del{l:bn}(h:Tabs H)(d:H l=some o)(J:¬TF o):Tabs (delH H l) :=
 h.of λb x e L=>by
  rw[eR]
  ·exact e
  ·rintro rfl;rw[d]at e;cases e;exact J L
theorem Bb(h:H a=some o):upd (delH H a) a o=H:=by
 funext b;by_cases e:b=a
 ·subst e;rw[ae,h]
 ·rw[af e,eR e]
section
variable{F:Fx}
theorem RSt.rebase{ρ:DS}(r:RSt K F M H σ ρ):RSt K ⟨F.pp,M,H⟩ M H σ (cG ρ):=by
 refine⟨by simp[cG,r.len],λi s o g u=>?_,OwF.none (λi s g=>?_),λa h=>h,.refl,r.liv.m,r.liv0,⟨trivial,r.lk.t⟩⟩
 ·simp only[cG,zzr]at g;cases q:ρ[i]? with
  |none=>rw[q]at g;cases g
  |some k =>
   rw[q]at g;cases g;have:=r.sl i k o q u;cases k with
   |nil=>trivial|val d=>exact this|pin w d=>exact this|own ds=>trivial|obj q=>trivial
 ·simp only[cG,zzr]at g;cases q:ρ[i]? with
  |none=>rw[q]at g;cases g
  |some k =>
   rw[q]at g;cases g;exact fU k
theorem RSt.writeFree{ρ:DS}(r:RSt K ⟨F.pp,M,H⟩ M H σ (cG ρ))(L:b∈M)(U:F.pp≠some b)(h:H b=some (.lst xs)) :
  RSt K ⟨F.pp,M,upd H b (.lst ys)⟩ M (upd H b (.lst ys)) σ (cG ρ):=by
 have m:Mv K F.pp M H M (upd H b (.lst ys)):=.write h L U;have lv:Lv0 F.pp M (upd H b (.lst ys)):=by
  refine⟨λa C=>?_,λp e=>?_⟩
  ·by_cases z:a=b
   ·subst z;rw[ae];intro z;cases z
   ·rw[af z];exact r.liv.m a C
  ·by_cases z:p=b
   ·subst z;rw[ae];intro z;cases z
   ·rw[af z];exact r.liv.p p e
 refine⟨r.len,λi s o g u=>?_,OwF.none (λi s g=>?_),λa h=>h,.refl,lv.m,lv,⟨trivial,m.tb r.lk.t⟩⟩
 rotate_left
 ·simp only[cG,zzr]at g;cases q:ρ[i]? with
  |none=>rw[q]at g;cases g
  |some k =>
   rw[q]at g;cases g;exact fU k
 have q:=r.sl i s o g u;cases s with
 |nil=>trivial|val d=>obtain⟨v,e,q⟩:=q;exact⟨v,e,q.mv m⟩
 |pin w d=>obtain⟨v,e,J,q⟩:=q;exact⟨v,e,J,q.mv m⟩
 |obj z=>exact q|own ds =>
  simp only[cG,zzr]at g;cases q:ρ[i]? with
  |none=>rw[q]at g;cases g
  |some k=>rw[q]at g;cases k<;>cases g
theorem sv(ρ:DS):cG (cG ρ)=cG ρ:=by simp only[cG,zzo];refine zzF λs _=>?_;cases s<;>rfl
theorem lZ(d:ab (ca Nat))(ρ:DS):cG (subD d ρ)=subD d ρ:=by
 simp only[cG,subD,zzo];refine zzF λo _=>?_;cases o with
 |none=>rfl|some j=>simp only[Function.comp,Hl];cases slot ρ j<;>rfl
theorem RSt.block{ρ:DS}{D:bn}(r:RSt K F M H σ ρ)(k:ab (ca Nat))(J:H D=none) :
  RSt K ⟨F.pp,D::M,upd H D (.lst [])⟩ (D::M) (upd H D (.lst [])) (L2.sub k σ) (subD k ρ):=by
 have m:Mv K F.pp M H (D::M) (upd H D (.lst [])):=.newOwn J;have lv:Lv0 F.pp (D::M) (upd H D (.lst [])):=by
  refine⟨λa C=>?_,λp e=>(SameP.new (K:=K) (pp:=F.pp) J).live p (r.liv.p p e)⟩;rcases zzi.mp C with rfl|C
  ·rw[ae];intro z;cases z
  ·exact(SameP.new (K:=K) (pp:=F.pp) J).live a (r.liv.m a C)
 refine⟨by simp[L2.sub,subD],λi s o g u=>?_,OwF.none (λi s g=>?_),λa h=>h,.refl,lv.m,lv,⟨trivial,m.tb r.lk.t⟩⟩
 ·simp only[subD,zzr]at g;simp only[L2.sub,zzr]at u;cases q:k[i]? with
  |none=>rw[q]at g;cases g
  |some U =>
   rw[q]at g u;cases g;cases u;cases U with
   |none=>trivial|some j =>
    show RSl K _ _ _ (pW (slot ρ j)) _;cases e:slot ρ j with
    |nil=>trivial|own G=>trivial|obj q=>trivial|val d =>
     obtain⟨o,E,v,rfl,L⟩:=r.at (aD e (by intro z;cases z));exact⟨v,by simp[sub1,E],L.mv m⟩
    |pin w d =>
     obtain⟨o,E,v,rfl,Y,L⟩:=r.at (aD e (by intro z;cases z));exact⟨v,by simp[sub1,E],Y,L.mv m⟩
 ·simp only[subD,zzr]at g;cases q:k[i]? with
  |none=>rw[q]at g;cases g
  |some U =>
   rw[q]at g;cases U with
   |none=>cases g;exact⟨λG z=>(by cases z),λq z=>(by cases z)⟩
   |some j =>
    cases g;exact fU (slot ρ j)
def PTsD(X:Cx)(ifs:ab dy)(t:DT):Prop:=∃T:TT,PTs X ifs T/\RU X.K T t
noncomputable abbrev bG:DT:=λd Q=>Q true d
theorem ax:PTsD X [] bG :=
 ⟨_,DN,λJ h k=>k h .refl J⟩
theorem im{t:DT}(h:PTD X e t):PTsD X [e] t:=by obtain⟨T,p,r⟩:=h;exact⟨T,DP p,r⟩
def PCD(X:Cx)(e:dy)(t:DA):Prop:=∃T:TE,PE X e T/\(∀(i:Nat) (y:Str) (py J:Pos),X.N.Nodup->X.N[i]?=some y->X.env.scope.names.lookup y=some .local->swapsWith e (some (.Name y py)) J.line X.env=pure true->PS X (.Assign [.Name y py] e J) (tAsg T (gName i)))/\RL X.K T t
theorem PCD.pld{t:DA}(h:PCD X e t):PLD X e t:=by obtain⟨T,p,_,r⟩:=h;exact⟨T,p,r⟩
theorem dfc{t:DA}(h:PCD X e t):PED X e (dFrz t):=aE h.pld
theorem ao{elt iter:dy}{d:Scope}{cl:ab (Str×bn)}{t:DA}{g:DG}{tc:DT}{te:DE}(j:ab Str)(js:ab (ca Nat))(b3:dl X.env.cells d.names []=some cl)(hi:PID X tg iter t)(hg:∀{B:Blk},PGD (cxB X d cl j B) tg g)(ht:∀{B:Blk},PTsD (cxB X d cl j B) ifs tc)(he:∀{B:Blk},PED (cxB X d cl j B) elt te)(cap:Cap X d j js:=by repeat first|exact .nil|apply Cap.own|refine .cap rfl (by first|exact .inl rfl|exact .inr rfl) rfl ?_)(hc:X.calm=true:=by rfl)(b4:∀y∈d.names,y.2=.free->(y.1,NameKind.cell)∉d.names:=by decide +kernel)(a9:d.kind=.function:=by rfl)(a0:∀y∈d.names,y.2=.local->d.names.lookup y.1=some .local:=by decide +kernel)(hs:∀v,foldedSetIterable iter X.env v=pure v:=by intro _;rfl):PCD X (.ListComp elt [⟨tg,iter,ifs,0⟩] d pos) (Hm t js g tc te):=by
 obtain⟨wi,pi,ri⟩:=hi;have w:∀B:Blk,PG (cxB X d cl j B) tg (Classical.choose (@hg B))/\PTs (cxB X d cl j B) ifs (Classical.choose (@ht B))/\PE (cxB X d cl j B) elt (Classical.choose (@he B)):=λB =>
  ⟨(zyf (@hg B)).1,(zyf (@ht B)).1,(zyf (@he B)).1⟩
 refine⟨_,DR hc b3 b4 a9 cap a0 pi w hs,λi y py spos hN hy hl c4=>DU hN hy hl hc b3 b4 a9 cap a0 pi w c4 hs,λ{F M H σ ρ Q P} rs h k=>ri rs h λ{E b7 M1 c J} h m1 b6 ok=>?_⟩;intro B Y r;obtain⟨_,rg⟩:=zyf (@hg B);obtain⟨_,rt⟩:=zyf (@ht B);obtain⟨_,re⟩:=zyf (@he B);have fr:=b6.liv.fresh r;refine⟨λi m x H'=>∃M' G L ys,m=E.length - i/\i<=E.length/\Mv X.K F.pp M1 c M' H'/\SameP X.K F.pp c H'/\RSt X.K ⟨F.pp,M',H'⟩ M' H' x (cG G)/\Y∈M'/\(∀a∈M1,a∈M')/\H' Y=some (.lst ys)/\Reps X.K F.pp M' H' L ys/\bU g tc te (E.drop i) L (cG G) (P · b7),
  ⟨E.length,Y::M1,subD js b7,[],[],rfl,zzM _,.newOwn r,.new r,by rw[lZ];exact b6.block js r,zze,λa ha=>zzb _ ha,ae,.nil,by rw[lZ];exact h⟩,?_⟩
 rintro i m x H' ⟨M',G,L,ys,rfl,hil,mv,sm,c5,b9,b5,A,ra,U⟩;by_cases b0:i<E.length
 ·have e1:E[i]?=some E[i]:=by simp[b0]
  rw[zyR b0]at U;refine .inr ⟨ok.go M' H' mv i b0,λc2 s=>∃I b1 L ys,Mv X.K F.pp M1 c I s/\SameP X.K F.pp c s/\RSt X.K ⟨F.pp,I,s⟩ I s c2 (cG b1)/\Y∈I/\(∀a∈M1,a∈I)/\s Y=some (.lst ys)/\Reps X.K F.pp I s L ys/\bU g tc te (E.drop (i+1)) L (cG b1) (P · b7),
   λc2 s q=>by obtain⟨I,b1,L,ys,a⟩:=q;exact⟨E.length - (i+1),by lia,I,b1,L,ys,rfl,b0,a⟩,λy s yl=>?_⟩
  obtain⟨sp,rx⟩:=ok.yld M' H' mv i _ y s e1 yl;have c0:RSt X.K ⟨F.pp,M',s⟩ M' s x (cG G):=by have:=(c5.sameP sp).rebase;rw[sv]at this;exact this
  have b8:s Y=some (.lst ys):=sp.keep Y _ A (nw fr.2);refine rg c0 rx U λh3 m3 c6=>rt c6 h3 λ{b _ _ _} h4 m4 c1=>?_;have keep:∀{u:ab bn} {C:Hp} {c3:St} {b2:DS},Mv X.K F.pp M' s u C->RSt X.K ⟨F.pp,M',s⟩ u C c3 b2->Mv X.K F.pp M1 c u C/\SameP X.K F.pp c C/\RSt X.K ⟨F.pp,u,C⟩ u C c3 (cG b2)/\Y∈u/\(∀a∈M1,a∈u)/\C Y=some (.lst ys)/\Reps X.K F.pp u C L ys:=λmm rr =>
   ⟨(mv.trans sp.mv).trans mm,(sm.trans sp).trans rr.sameT,rr.rebase,rr.sub _ b9,λa ha=>rr.sub _ (b5 a ha),rr.same.keep Y _ b8 (nw fr.2),(ra.mv sp.mv).mv mm⟩
  cases b with
  |false =>
   obtain⟨a1,a2,a3,N,a5,T,a7⟩:=keep (m3.trans m4) c1;exact iteF ⟨_,_,L,ys,a1,a2,a3,N,a5,T,a7,h4.no rfl⟩
  |true =>
   refine iteT (re c1 (h4.yes rfl) λ{y b2 u C v} h5 m5 c7 r5=>?_);obtain⟨a1,a2,a3,N,a5,T,a7⟩:=keep ((m3.trans m4).trans m5) c7;have mw:Mv X.K F.pp u C u (upd C Y (.lst (ys++[v]))):=.write T N fr.2;refine⟨ys,T,by rw[←a7.length];exact h5.1,u,b2,L++[y],ys++[v],a1.trans mw,?_,a3.writeFree N fr.2 T,N,a5,ae,(a7.append (.one r5)).mv mw,h5.2⟩;refine⟨⟨λb o e n=>?_,λp e hp=>mw.pen p e (a2.pen p e hp),λb w=>?_⟩,λtb=>mw.tb (a2.tb tb)⟩
   ·rw[af (by rintro rfl;rw[r]at e;cases e)];exact a2.keep b o e n
   ·by_cases z:b=Y
    ·subst z;rw[ae];intro z;cases z
    ·rw[af z];exact a2.live b w
 ·have e:i=E.length:=by lia
  refine .inl ⟨ok.stop M' H' mv i (by lia),?_⟩;have hd:E.drop i=[]:=by rw[zxU];lia
  rw[hd]at U;have pe:∀p,F.pp=some p->(∃a ns t l,Pen X.K H' p a ns t l)->∃a ns t l,Pen X.K (delH H' Y) p a ns t l:=λp e ⟨a,ns,t,l,pn⟩=>by
   refine⟨a,ns,t,l,by rw[eR (by rintro rfl;exact fr.2 e)];exact pn.lst,?_,pn.t0⟩;rcases pn.scr with ⟨o,q⟩|q
   ·exact .inl ⟨o,by rw[eR (kY q A (by intro z;cases z))];exact q⟩
   ·exact .inr q
  have sd:SameP X.K F.pp c (delH H' Y):=by
   refine⟨⟨λb o e n=>?_,λp e hp=>pe p e (sm.pen p e hp),λb w=>?_⟩,λtb=>(sm.tb tb).del A ny⟩
   ·rw[eR (by rintro rfl;rw[r]at e;cases e)];exact sm.keep b o e n
   ·rw[eR (by rintro rfl;exact w r)];exact sm.live b w
  have md:Mv X.K F.pp M' H' M1 (delH H' Y):=⟨λa xs q=>by rw[eR (kY q A (by intro z;cases z))];exact q,λa o q n p=>⟨by rw[eR (by rintro rfl;exact n b9)];exact q,λz=>n (b5 a z)⟩,pe,λtb=>tb.del A ny⟩;have:=k U (m1.trans sd.mv) (b6.sameP sd) yO (ra.mv md);rw[Bb A]at this;exact this
theorem eB{t:DA}(i:Nat)(h:PCD X e t)(U:X.N.Nodup:=by assumption)(Y:X.N[i]?=some y:=by rfl)(d:X.env.scope.names.lookup y=some .local:=by rfl)(L:swapsWith e (some (.Name y py)) pos.line X.env=pure true:=by rfl):PSD X (.Assign [.Name y py] e pos) (dSet i (dFrz t)):=by obtain⟨T,_,p,r⟩:=h;refine⟨_,p i y py pos U Y d L,λk q o=>r k q λq m J d g=>o.nx (m.trans (.new d)) ((J.sameP (.new d)).set ?_ i) q⟩;exact⟨_,_,rfl,(J.liv.fresh d).1,(J.liv.fresh d).2,ae,g.mv (.new d)⟩
theorem Es{t:DA}(i:Nat)(h:PCD X e t)(U:X.N.Nodup:=by assumption)(Y:X.N[i]?=some y:=by rfl)(d:X.env.scope.names.lookup y=some .local:=by rfl)(J:swapsWith e (some (.Name y py)) pos.line X.env=pure true:=by rfl):PSD X (.Assign [.Name y py] e pos) (dOwn i t):=by obtain⟨T,_,p,r⟩:=h;exact⟨_,p i y py pos U Y d J,λk q o=>r k q λq m L d g=>o.nx (m.trans (.newOwn d)) (L.newOwn d g i) q⟩
end
section
variable[Frm]
noncomputable def jY:ab D->ca (ab Int)
 |[]=>some []|.int i::r=>(jY r).map (i :: ·)|_=>none
theorem ma:∀d:ab Int,jY (d.map D.int)=some d
 |[]=>rfl|n::r=>by simp[jY,ma r]
theorem yP:∀{ds:ab D} {g:ab Int},jY ds=some g->ds=g.map D.int:=by
 intro ds
 induction ds with
 |nil=>intro _ h;cases h;rfl
 |cons d r J =>
  intro g h;cases d<;>try cases h
  simp only[jY,zxz]at h;obtain⟨ms,h,rfl⟩:=h;rw[J h];rfl
theorem pX{K:zwW}{pp:ca bn}{M:ab bn}{H:Hp}:∀{d:ab Int} {xs:ab V},Reps K pp M H (d.map D.int) xs->xs=d.map V.int
 |[],xs,h=>by simpa only[zyp,Reps]using h
 |n::r,xs,h=>by obtain⟨x,t,rfl,rfl,h⟩:=h;rw[pX h];rfl
def gSum:DSp:=λd P=>match d with
 |[.lst xs]=>match jY xs with
  |some g=>P (.int g.sum)|none=>False
 |_=>False
theorem yQ{d:ab Int}{P:D->Prop}(h:P (.int d.sum)):gSum [.lst (d.map D.int)] P:=by unfold gSum;simp only[ma];exact h
theorem Bc{ds:ab D}{P:D->Prop}(h:gSum ds P):∃d:ab Int,ds=[.lst (d.map D.int)]/\P (.int d.sum):=by
 unfold gSum at h;split at h
 ·rename_i xs;cases e:jY xs with
  |none=>rw[e]at h;exact h.elim|some d =>
   rw[e]at h;exact⟨d,by rw[yP e],h⟩
 ·exact h.elim
theorem Cp(J:X.calm=true:=by rfl):CallD X (.builtin "sum") gSum:=by refine⟨_,AF J,λ{pp M H ds vs Q P} _ r h k=>?_⟩;obtain⟨m,rfl,d⟩:=Bc h;obtain⟨x,_,rfl,⟨a,ys,rfl,_,_,g,L⟩,rfl⟩:=r;exact⟨a,m,rfl,SqL.of (by rw[g,pX L]),k d .refl aR⟩
noncomputable abbrev JT(te:DE):DA:=λk Q=>te k λd g=>match d with
 |.lst h=>Q h g|.tup h=>Q h g|_=>False
theorem Cq{z:DE}(C:PED X l z):PID X tg l (JT z):=by
 obtain⟨T,p,r⟩:=C;refine⟨_,GH p,λY h k=>r Y h λ{d _ _ _ _} h m L J=>?_⟩;cases d<;>first|exact h.elim|skip
 case tup ds =>
  obtain⟨a,xs,rfl,q,J⟩:=J;exact .inr ⟨a,rfl,⟨xs,SqT.of q⟩,k h m L (ItOkV.of ⟨λ_ _ g _ _ _ _ y=>⟨y.1,y.2 xs (SqT.of (g.tup a xs q))⟩,λ_ _ g i s=>⟨xs,xs[i],SqT.of (g.tup a xs q),by simp[s]⟩,λ_ _ g _ s=>⟨xs,SqT.of (g.tup a xs q),s⟩⟩ J)⟩
 case lst ds =>
  obtain⟨a,xs,rfl,u,U,q,J⟩:=J;exact .inl ⟨a,rfl,⟨xs,SqL.of q⟩,k h m L (ItOkV.of ⟨λ_ _ g _ _ _ _ y=>⟨y.1,y.2 xs (SqL.of (g.lst a xs q u U).1)⟩,λ_ _ g i s=>⟨xs,xs[i],SqL.of (g.lst a xs q u U).1,by simp[s]⟩,λ_ _ g _ s=>⟨xs,SqL.of (g.lst a xs q u U).1,s⟩⟩ J)⟩
theorem aH{g:DG}{m:DT}{q:DE}{ds:ab D}{Q:ab D->Prop}(N:ab D->ab D->DS->Prop)(C:∀J ρ,N ds J ρ->Q J)
  (hs:∀(pre:ab D) (d:D) (post J:ab D) (ρ:DS) (Y:ab D->DS->Prop),ds=pre++d::post->N pre J ρ->(∀L k,N (pre++[d]) L (cG k)->Y L k) ->
   g d ρ λs=>m s λb U=>Br b (q U λy u=>J.length<sizeLine/\Y (J++[y]) u) (Y J U)) (ρ:DS) (h:N [] [] ρ):bU g m q ds [] ρ Q:=by
 have key:∀(post pre J:ab D),ds=pre++post->∀ρ,N pre J ρ->bU g m q post J ρ Q:=by
  intro post
  induction post with
  |nil=>intro pre J e ρ h;rw[zzs]at e;subst e;exact C J ρ h|cons d r E=>intro pre J e ρ h;exact hs pre d r J ρ (λL k=>bU g m q r L (cG k) Q) e h (λL k z=>E (pre++[d]) L (by rw[e,zzR];rfl) _ z)
 exact key ds [] [] rfl ρ h
theorem aA{g:DG}{s:DE}{xs:ab α}{em:α->D}{Q:ab D->Prop}(f:α->D)(N:DS->Prop)(E:xs.length<=sizeLine)(hs:∀x∈xs,∀(ρ:DS) (Y:D->DS->Prop) (Z:DS->Prop),N ρ->(∀k,N (cG k)->Y (f x) k)->g (em x) ρ λu=>bG u λb L=>Br b (s L Y) (Z L))(ρ:DS)(h:N ρ)(G:Q (xs.map f)):bU g bG s (xs.map em) [] ρ Q:=by refine aH (λpre J ρ=>J=(xs.take pre.length).map f/\N ρ) (λJ ρ h=>by rw[h.1,zza,List.take_length];exact G) (λpre d post J ρ Y e U C=>?_) ρ ⟨rfl,h⟩;obtain⟨l,l2,rfl,rfl,q⟩:=List.map_eq_append_iff.mp e;obtain⟨x,m,rfl,rfl,rfl⟩:=List.map_eq_cons_iff.mp q;obtain⟨rfl,U⟩:=U;rw[show (l++x::m).take (l.map em).length=l by simp];refine hs x (by simp) ρ _ _ U λk z=>⟨?_,C _ k ⟨by rw[show (l++x::m).take (l.map em++[em x]).length=l++[x] by simp[List.take_append,zxA]];simp,z⟩⟩;rw[zzg,zzu]at E;rw[zza];lia
structure Shp(n:Nat)(d:D):Prop where
 p:pln d=true
 c:(toPy d).canLay0=true
 d:(toPy d).depth <= n
theorem Shp.shp{n:Nat}{d:D}(h:Shp n d)(l:n<=64:=by decide):shp d=true:=by unfold DL.shp SeqAt.shaped;rw[h.p,h.c,zzp (zzl h.d l)];rfl
theorem Shp.int{i:Int}{n:Nat}:Shp n (.int i):=⟨rfl,rfl,zzM _⟩
theorem Shp.non{n:Nat}:Shp n .non:=⟨rfl,rfl,zzM _⟩
theorem sy{n:Nat}:∀{ds:ab D},(∀d∈ds,Shp n d)->plns ds=true/\PyData.canLayAll0 (pU ds)=true/\PyData.depthAll (pU ds)<=n
 |[],_=>⟨rfl,rfl,zzM _⟩|d::ds,h=>by obtain⟨a,b,c⟩:=sy λx J=>h x (zzb _ J);have q:=h d zze;refine⟨by simp only[plns,q.p,a,Bool.and_self],by simp only[pU,PyData.canLayAll0,q.c,b,Bool.and_self],?_⟩;exact Nat.max_le.mpr ⟨q.d,c⟩
theorem Shp.tup{n:Nat}{ds:ab D}(h:∀d∈ds,Shp n d):Shp (n+1) (.tup ds):=by obtain⟨a,b,c⟩:=sy h;exact⟨by simp only[pln,a],by simp only[toPy,PyData.canLay0,b],by simp only[toPy,PyData.depth];lia⟩
theorem Shp.lst{n:Nat}{ds:ab D}(h:∀d∈ds,Shp n d):Shp (n+1) (.lst ds):=by obtain⟨a,b,c⟩:=sy h;exact⟨by simp only[pln,a],by simp only[toPy,PyData.canLay0,b],by simp only[toPy,PyData.depth];lia⟩
theorem cQ{d:D}(h:shp d=true):eqD d d=true:=by unfold shp at h;rw[zzV]at h;exact SeqAt.eqv_refl _ (SeqAt.canLay_of_shaped h.2)
end
section
variable[Frm]
theorem Hn{C:bn}(J:Gl X x)(d:X.mg x=some (.ref C))(hd:(x==("__debug__" : Str))=false:=by decide):PED X (.Name x pos) (dC (.cls C)) :=
 .con (xu (v:=.ref C) J d rfl hd) λ_ _ _=>by simp only[Rep]
theorem sA{d:DE}{g:DG}(he:PED X e d)(J:PGD X tg g)(hs:swapsWithSole [tg] e pos.line X.env=pure false:=by rfl)(L:swappedStores [tg] e X.env=pure none:=by rfl)(h:(assignEach [tg] X.env).map (·.2)=[assign tg X.env]:=by rfl):PSD X (.Assign [tg] e pos) (dAsg d g) :=
 Hc he J hs L (lK (zyf he).1 (zyf J).1 hs L h)
end
section
variable[Frm]
omit [Frm] in
theorem Br.dt{p:Prop}[Decidable p](h:p)(a:A):Br (decide p) A B:=⟨λ_=>a,λz=>absurd h (zyg z)⟩
omit [Frm] in
theorem Br.di{p:Prop}[Decidable p](a:p->A)(b:¬p->B):Br (decide p) A B:=⟨λz=>a (zzO z),λz=>b (zyg z)⟩
theorem fq{g:DG}{b:DTS}{E:DEnds}(N:Int->DS->Prop):∀(n:Nat) (lo:Int),(∀ρ,N (lo+n) ρ->E.nx ρ) ->
  (∀(k:Int) (ρ:DS) (X:DS->Prop),lo<=k->k<lo+n->N k ρ->(∀d,N (k+1) d->X d)->g (.int k) ρ λJ=>b {E with nx:=X,ct:=X,bk:=E.nx} J)->∀ρ,N lo ρ->cX g b (dh lo n) E ρ
 |0,lo,m,_,ρ,h=>m ρ (by simpa using h)|n+1,lo,m,q,ρ,h=>q lo ρ _ (zzN _) (by lia) h λd s=>fq N n (lo+1) (λρ h=>m ρ (by rw[show lo+((n+1:Nat):Int)=lo+1+(n:Int) by lia];exact h)) (λk ρ X h1 h2=>q k ρ X (by lia) (by lia)) d s
section
variable{F:Fx}
noncomputable def cK(k:Nat):ab D->ab D
 |[]=>[]|d::r=>.tup [.int k,d]::cK (k+1) r
omit [Frm] in
theorem aM:∀(ds:ab D) (k:Nat),(cK k ds).length=ds.length
 |[],_=>rfl|_::r,k=>by simp[cK,aM r]
omit [Frm] in
theorem gA:∀(ds:ab D) (k i:Nat) (d:D),(cK k ds)[i]?=some d->∃e,ds[i]?=some e/\d=.tup [.int ((k+i:Nat):Int),e]
 |[],_,i,d,h=>by simp[cK]at h
 |e::r,k,0,d,h=>by simp[cK]at h;exact⟨e,rfl,h.symm⟩
 |e::r,k,i+1,d,h=>by obtain⟨J,g,m⟩:=gA r (k+1) i d h;exact⟨J,g,by rw[m];congr 3;congr 1;lia⟩
noncomputable def zipD:ab D->ab D->ab D
 |x::xs,y::ys=>.tup [x,y]::zipD xs ys|_,_=>[]
omit [Frm] in
theorem fV:∀(xs ys:ab D),(zipD xs ys).length=min xs.length ys.length
 |[],_=>by simp[zipD]
 |_::_,[]=>by simp[zipD]
 |_::xs,_::ys=>by simp[zipD,fV xs ys]
omit [Frm] in
theorem nB:∀(xs ys:ab D) (i:Nat) (d:D),(zipD xs ys)[i]?=some d->∃x y,xs[i]?=some x/\ys[i]?=some y/\d=.tup [x,y]
 |[],_,i,d,h=>by simp[zipD]at h
 |_::_,[],i,d,h=>by simp[zipD]at h
 |x::xs,y::ys,0,d,h=>by simp[zipD]at h;exact⟨x,y,rfl,rfl,h.symm⟩
 |x::xs,y::ys,i+1,d,h=>by exact nB xs ys i d h
noncomputable abbrev Ho(t:DA):DA:=λh Q=>t h λg d=>match g with
 |[.lst xs]=>Q (cK 0 xs) d|_=>False
theorem sB{Q:DA}{k:Nat}(s:X.mg "enumerate" = none)(g:PAD X [l] Q)(he:starEach [l] X.env=(false,eval l X.env)::starEach [] X.env:=by rfl)(b:(backTo pos (starEach [] X.env)).any (·.1)=false:=by rfl)(o:Gl X "enumerate":=by rfl) :
  PID X (.Tuple ifs k tp) (.Call (.Name "enumerate" p) [l] [] pos) (Ho Q):=by
 obtain⟨T,w,r⟩:=g;refine⟨_,DV o s w he b,λA h k=>r A h λh m j J=>?_⟩;split at h
 case h_2=>exact h.elim
 rename_i u;obtain⟨x,r0,rfl,⟨a,xs,rfl,s,Y,g,J⟩,rfl⟩:=J;refine⟨a,rfl,⟨xs,SqL.of g⟩,k h m j ⟨λG E q i d y H3 e B=>?_,λG E q i C=>?_,λG E q i C=>?_⟩⟩
 ·obtain⟨T,z,I,rfl,v,rfl⟩:=B;obtain⟨d',L,rfl⟩:=gA u 0 i d e;obtain⟨v',c,n⟩:=J.get' L;have:=v xs (SqL.of (q.lst a xs g s Y).1);rw[c]at this;cases this;refine⟨.new I,?_⟩;exact⟨T,_,rfl,ae,.cons (by rw[Nat.zero_add];exact aR) (.one ((n.mv q).mv (.new I)))⟩
 ·have U:i<xs.length:=by rw[←J.length,←aM u 0];exact C
  exact⟨xs,xs[i],SqL.of (q.lst a xs g s Y).1,by simp[U]⟩
 ·exact⟨xs,SqL.of (q.lst a xs g s Y).1,by rw[←J.length,←aM u 0];exact C⟩
noncomputable abbrev JU(t:DA):DA:=λh Q=>t h λg d=>match g with
 |[.lst xs,.lst ys]=>Q (zipD xs ys) d|_=>False
theorem uL{o:DA}{k:Nat}(s:X.mg "zip" = none)(q:PAD X [l,tg] o)(he:starEach [l,tg] X.env=(false,eval l X.env)::starEach [tg] X.env:=by rfl)(A:(backTo pos (starEach [tg] X.env)).any (·.1)=false:=by rfl)(hg:Gl X "zip":=by rfl) :
  PID X (.Tuple ifs k tp) (.Call (.Name "zip" p) [l,tg] [] pos) (JU o):=by
 obtain⟨T,pa,r⟩:=q;refine⟨_,GJ hg s pa he A,λrs h k=>r rs h λh m N u=>?_⟩;split at h
 case h_2=>exact h.elim
 rename_i n j;obtain⟨x,r0,rfl,⟨a,xs,rfl,s,I,q,u⟩,x',r0',rfl,⟨b,ys,rfl,J,U,C,Y⟩,rfl⟩:=u;have L:=fV n j;refine⟨a,b,rfl,⟨xs,SqL.of q⟩,⟨ys,SqL.of C⟩,k h m N ⟨λc Q g i d y H3 e yl=>?_,λc Q g i G=>?_,λc Q g i G=>?_⟩⟩
 ·obtain⟨T,z,z',E,rfl,hz,M,rfl⟩:=yl;obtain⟨d1,d2,v,w,rfl⟩:=nB n j i d e;obtain⟨v1,B,b1⟩:=u.get' v;obtain⟨v2,H,b2⟩:=Y.get' w;have:=hz xs (SqL.of (g.lst a xs q s I).1);rw[B]at this;cases this;have:=M ys (SqL.of (g.lst b ys C J U).1);rw[H]at this;cases this;refine⟨.new E,?_⟩;exact⟨T,_,rfl,ae,.cons ((b1.mv g).mv (.new E)) (.one ((b2.mv g).mv (.new E)))⟩
 ·rw[L,u.length,Y.length]at G;have h1:i<xs.length:=by lia
  have h2:i<ys.length:=by lia
  exact⟨xs,ys,xs[i],ys[i],SqL.of (g.lst a xs q s I).1,SqL.of (g.lst b ys C J U).1,by simp[h1],by simp[h2]⟩
 ·rw[L,u.length,Y.length]at G;exact⟨xs,ys,SqL.of (g.lst a xs q s I).1,SqL.of (g.lst b ys C J U).1,by lia⟩
def Hq(k:Nat)(d:D)(ρ:DS)(Q:DS->Prop)(j:D):Sl->Prop
 |.own g=>match j with
  |.int i=>∃n,ixN g.length i=some n/\Q (ρ.set k (.own (g.set n d)))|_=>False
 |_=>False
noncomputable abbrev JV(k:Nat)(J:DE):DG:=λd h Q=>yL (slot h k)/\J h λj g=>Hq k d g Q j (slot g k)
theorem Cr{k:Nat}{o i:dy}{C:DE}(w:PE X o (tVar k))(c:PED X i C)(b:∀v,assign (.Subscript o i pos) X.env v=(do
   let Y ←holding [v] (eval o X.env)
   let g ←holding [v,Y] (eval i X.env)
   standAt pos
   holding [v,Y,g] (setItem Y g v)
   release [v,Y,g] []):=by intro _;rfl):PGD X (.Subscript o i pos) (JV k C):=by
 obtain⟨T,p,r⟩:=c;refine⟨_,ud w p je b,λ{F M H σ ρ d v Q P} z A h x=>?_⟩;obtain⟨h0,h⟩:=h;obtain⟨ds,q⟩:=jl h0;obtain⟨_,J,l,xs,rfl,_⟩:=z.at (aD q);refine⟨.ref l,J,r z h λ{j s _ _ _} h m U B=>?_⟩;cases u:slot s k<;>rw[u]at h<;>first|exact h.elim|skip
 cases j<;>first|exact h.elim|skip
 obtain⟨n,e,h⟩:=h;have g1:=aD u;obtain⟨l',I,a,_,_,_,E,L⟩:=U.sl k _ _ g1 J;cases a;subst B;obtain⟨y,G⟩:=U.write g1 J (L.set (A.mv m) n);exact⟨l,I,_,n,rfl,rfl,E,by rw[←L.length];exact e,x h (m.trans y) G⟩
omit [Frm] in
theorem yR{i:Int}(h0:0<=i)(h:i<n):ixN n i=some i.toNat:=by unfold ixN;rw[zzk h0,zzk h]
def dIxS(ρ:DS)(Q:D->DS->Prop)(j:D):Sl->Prop
 |.own g=>gIx (.lst g) j λd=>Q d ρ|_=>False
noncomputable abbrev dIxO(k:Nat)(J:DE):DE:=λg Q=>yL (slot g k)/\J g λj d=>dIxS d Q j (slot d k)
theorem Ct{k:Nat}{a b:dy}{z:DE}(I:PE X a (tVar k))(Q:PED X b z)(hs:eO b):PED X (.Subscript a b pos) (dIxO k z):=by
 obtain⟨T,p,r⟩:=Q;refine⟨_,kZ mZ I p hs,λu h c=>?_⟩;obtain⟨h0,h⟩:=h;obtain⟨ds,q⟩:=jl h0;obtain⟨_,J,l,xs,rfl,_⟩:=u.at (aD q);refine⟨.ref l,J,r u h λ{j g _ _ _} h m L i=>?_⟩;cases s:slot g k<;>rw[s]at h<;>first|exact h.elim|skip
 cases j<;>first|exact h.elim|skip
 obtain⟨d,e,h⟩:=uK h;obtain⟨l',C,E,_,_,_,U,Y⟩:=L.sl k _ _ (aD s) J;cases E;subst i;obtain⟨v,G,n⟩:=nA Y e;exact⟨l,C,_,v,rfl,rfl,U,G,c h m L n⟩
end
end
noncomputable abbrev DTN:=(D->Prop)->(ab D->Prop)->DS->Prop
section
variable[Frm]
structure EN(K:zwW)(F:Fx)(M:List Addr)(H:Hp)(Q:D->Prop)(L:List D->Prop)(D:Ends):Prop where
 rt:∀{M' H' σ' ρ' d v},Mv K F.pp M H M' H'->RSt K F M' H' σ' ρ'->Rep K F.pp M' H' d v->Q d->D.rt v H'
 nx:∀{M' H' σ' ρ'},Mv K F.pp M H M' H'->RSt K F M' H' σ' ρ'->Q .non->D.nx σ' H'
 nw:∀{M' H' ds l xs},SameP K F.pp F.H0 H'->(∀a∈F.M0,a∈M')->F.H0 l=none->F.pp≠some l->l∈M'->H' l=some (.lst xs)->Reps K F.pp M' H' ds xs->L ds->D.rt (.ref l) H'
theorem EN.mv{K:zwW}{F:Fx}{Q:DL.D->Prop}{L:ab DL.D->Prop}{D:Ends}(o:EN K F M H Q L D)(m:Mv K F.pp M H M1 H'):EN K F M1 H' Q L D :=
 ⟨λJ=>o.rt (m.trans J),λJ=>o.nx (m.trans J),o.nw⟩
def PSsN(X:Cx)(st:ab Stmt)(t:DTN):Prop:=∃T:TS,PSs X st T/\∀{F:Fx} {M H σ ρ Q L D},RSt X.K F M H σ ρ->t Q L ρ->EN X.K F M H Q L D->T D σ H
variable{t:DTS}{u:DTN}{tl:DA}
theorem nC(h:PLD X e tl):PSsN X [.Return (some e) pos] (λ_ L ρ=>tl ρ λds _=>L ds):=by obtain⟨T,p,r⟩:=h;refine⟨_,dA (jv p),λY q U=>r Y q λq m J d k=>?_⟩;exact U.nw (J.sameT.trans (.new d)) (λa g=>zzb _ (J.sub a g)) (J.h0 d) (J.liv.fresh d).2 zze ae (k.mv (.newOwn d)) q
theorem gC(d:PSD X st t)(g:PSsN X rest u):PSsN X (st::rest) (λQ L ρ=>t {nx:=u Q L,rt:=Q} ρ):=by obtain⟨T,p,r⟩:=d;obtain⟨U,q,s⟩:=g;exact⟨_,aU p q,λk h Y=>r k h ⟨λm J h=>s J h (Y.mv m),λ_ _ q=>q.elim,λ_ _ q=>q.elim,Y.rt⟩⟩
theorem Et(g:PSD X st t)(k:PSsN X rest u):PSsN X (st::rest) (λQ L ρ=>∃N:DS->Prop,t {nx:=N,rt:=Q} ρ/\∀d,N d->u Q L d):=by obtain⟨T,p,r⟩:=g;obtain⟨U,q,s⟩:=k;refine⟨_,aU p q,λC h Y=>?_⟩;obtain⟨N,h,z⟩:=h;exact r C h ⟨λm J h=>s J (z _ h) (Y.mv m),λ_ _ q=>q.elim,λ_ _ q=>q.elim,Y.rt⟩
end
noncomputable abbrev DSpN:=ab D->(D->Prop)->(ab D->Prop)->Prop
def spDN(K:zwW)(n:Nat)(g:DSpN):Sp:=λk H Q _=>∃pp M h P L,Lv pp M H/\Reps K pp M H h k/\h.length=n/\g h P L/\(∀{d H' v},P d->SameP K pp H H'->Rep K pp M H' d v->Q v H') /\
 ∀{es M' H' l xs},L es->SameP K pp H H'->(∀a∈M,a∈M')->H l=none->pp≠some l->l∈M'->H' l=some (.lst xs)->Reps K pp M' H' es xs->Q (.ref l) H'
theorem fnDN{P:ef}{K:zwW}{base:cm}{st:Stmt}{f:bn}{k:Nat}{g:DSpN}{t:DTN}(U:Fun K x y st f fd)(S:FnScope N ps (aj st))(Y:∀{u:bb} {A:Around} {d:ab Env} {s:bx} {H:Hp} {E:XK},Room k (A.deeper (envOfC y (aj st) s.heap.objs.size f u))->N.Nodup -> @PSsN _ Frm.free (cxOf CX0 P w K mg base N y (aj st) f u A d s H E).nox (bN st) t)(z:∀ds Q L,ds.length=ps.length->g ds Q L->t Q L (jU N.length ds)):FnOk P w K mg base CX0 (k+1) f fd ps (spDN K ps.length g):=by
 refine U.ok S (λj H Q E h=>?_) (λu A d s H j Q E a h=>?_)
 ·obtain⟨pp,M,ds,P,L,_,r,e,_⟩:=h;rw[←r.length,e]
 ·obtain⟨pp,M,ds,P,L,lv,r,e,h,k,b⟩:=h;obtain⟨T,p,run⟩:=Y a S.nd;exact⟨T,p,run (jV lv r trivial) (z ds _ _ e h) ⟨λm J c q=>k q J.sameT (c.mv (.less J.sub)),λm J q=>k q J.sameT (by simp only[Rep]),λs sub h0 I G C i q=>b q s sub h0 I G C i⟩⟩
theorem FnOk.asD{P:ef}{K:zwW}{base:cm}{k:Nat}{f:bn}{g:DSpN}{d:DSp}(h:FnOk P w K mg base CX0 k f fd ps (spDN K n g))(L:∀ds Q,d ds Q->g ds Q (λes=>Q (.lst es))):FnOk P w K mg base CX0 k f fd ps (spD K n d) :=
 h.imp λvs H Q E h=>by obtain⟨pp,M,ds,P,lv,r,e,h,k⟩:=h;refine⟨pp,M,ds,P,_,lv,r,e,L _ _ h,k,λq s sub m U hm J Y=>k q s ?_⟩;exact⟨_,_,rfl,(lv.fresh m).1,U,J,Y.mv (.less sub)⟩
section
variable[Frm]
noncomputable def lx:DS->Bool
 |[]=>true|.own _::_=>false|.obj _::_=>false|_::r=>lx r
noncomputable def cu:Nat->DS->Bool
 |_,[]=>true|0,_::r=>lx r|_+1,.own _::_=>false|_+1,.obj _::_=>false|k+1,_::r=>cu k r
omit [Frm] in
theorem jZ:∀{ρ:DS} {j:Nat} {ds:ab D},lx ρ=true->ρ[j]?=some (.own ds)->False
 |[],j,ds,_,h=>by simp at h
 |s::r,0,ds,h,e=>by simp at e;subst e;simp[lx]at h
 |s::r,j+1,ds,h,e=>by cases s<;>first|(simp[lx]at h;done)|exact jZ (by simpa[lx]using h) (by simpa using e)
omit [Frm] in
theorem io:∀{ρ:DS} {k j:Nat} {ds:ab D},cu k ρ=true->ρ[j]?=some (.own ds)->j=k
 |[],k,j,ds,_,h=>by simp at h
 |s::r,0,0,ds,h,e=>rfl|s::r,0,j+1,ds,h,e=>(jZ (by simpa[cu]using h) (by simpa using e)).elim|s::r,k+1,0,ds,h,e=>by simp at e;subst e;simp[cu]at h
 |s::r,k+1,j+1,ds,h,e=>by cases s<;>first|(simp[cu]at h;done)|exact congrArg Nat.succ (io (by simpa[cu]using h) (by simpa using e))
omit [Frm] in
theorem ka:∀{ρ:DS} {j:Nat} {q:O},lx ρ=true->ρ[j]?=some (.obj q)->False
 |[],j,d,_,h=>by simp at h
 |s::r,0,d,h,e=>by simp at e;subst e;simp[lx]at h
 |s::r,j+1,d,h,e=>by cases s<;>first|(simp[lx]at h;done)|exact ka (by simpa[lx]using h) (by simpa using e)
omit [Frm] in
theorem me:∀{ρ:DS} {k j:Nat} {q:O},cu k ρ=true->ρ[j]?=some (.obj q)->j=k
 |[],k,j,d,_,h=>by simp at h
 |s::r,0,0,d,h,e=>rfl|s::r,0,j+1,d,h,e=>(ka (by simpa[cu]using h) (by simpa using e)).elim|s::r,k+1,0,d,h,e=>by simp at e;subst e;simp[cu]at h
 |s::r,k+1,j+1,d,h,e=>by cases s<;>first|(simp[cu]at h;done)|exact congrArg Nat.succ (me (by simpa[cu]using h) (by simpa using e))
section
variable{F:Fx}{M0:ab bn}{ρ:DS}{ds:ab D}{v:V}
theorem RSt.thaw(r:RSt K F M H σ ρ)(h:ρ[i]?=some (.own ds))(Q:cu i ρ=true)(y:σ[i]?=some (some v))(m0:Mv K F.pp M H M0 H)(rl:Rep K F.pp M0 H (.lst ds) v)(m:Mv K F.pp M0 H M' H')(I:RSt K F M' H' σ (ρ.set i (.val (.lst ds)))) :
  ∃E,(Mv K F.pp M H E H'/\RSt K F E H' σ ρ)/\∀b∈E,v=.ref b∨b∈M':=by
 obtain⟨o,J,l,xs,rfl,N,h0,A,x,T⟩:=r.at h;rw[J]at y;cases y;obtain⟨l2,xs2,e,n2,p2,C,r2⟩:=rl;cases e;rw[x]at C;obtain⟨U,hn'⟩:=m.lst l xs x n2 p2;have Y:=m0.trans m;have G:Mv K F.pp M H (l::M') H':=by
  refine⟨Y.tup,λa o e n p=>?_,Y.pen,Y.tb⟩;obtain⟨q1,q2⟩:=Y.oth a o e n p;refine⟨q1,λz=>?_⟩;rcases zzi.mp z with rfl|z
  ·exact n N
  ·exact q2 z
 refine⟨l::M',⟨G,⟨r.len,λj s o u C=>?_,⟨λj=>if j=i then[l] else[],λj s o u C=>?_,λj a g=>?_,λj k e a g L=>?_⟩,λa g=>zzb _ (I.sub a g),I.same,r.old,⟨λa g=>?_,I.liv.p⟩,r.lk.cl G⟩⟩,λb L=>(zzi.mp L).imp (λz=>by rw[z]) id⟩
 ·have q:=r.sl j s o u C;cases s with
  |nil=>trivial|val d=>obtain⟨v,e,q⟩:=q;exact⟨v,e,q.mv G⟩
  |pin w d=>obtain⟨v,e,B,q⟩:=q;exact⟨v,e,B,q.mv G⟩
  |own es =>
   have e:=io Q u;subst e;rw[h]at u;cases u;rw[J]at C;cases C;exact⟨l,xs,rfl,zze,h0,A,U,T.mv G⟩
  |obj z=>exact q
 ·show Ow K F _ H' s o (if j=i then[l] else[]);cases s with
  |nil=>trivial|val d=>trivial|pin w d=>trivial|own es =>
   have e:=io Q u;subst e;rw[J]at C;cases C;rw[zzk rfl];exact⟨l,rfl,rfl⟩
  |obj z =>
   have e:=me Q u;subst e;rw[h]at u;cases u
 ·replace g:a∈(if j=i then[l] else[]):=g
  by_cases e:j=i
  ·rw[zzk e]at g;rw[zzG.mp g];exact⟨zze,h0,A⟩
  ·rw[zzh e]at g;simp at g
 ·replace g:a∈(if j=i then[l] else[]):=g
  replace L:a∈(if k=i then[l] else[]):=L
  by_cases c:j=i
  ·subst c;rw[zzh (Ne.symm e)]at L;simp at L
  ·rw[zzh c]at g;simp at g
 ·rcases zzi.mp g with rfl|g
  ·rw[U];intro z;cases z
  ·exact I.liv.m a g
end
noncomputable abbrev Hr(k:Nat)(t:DT):DT:=λd Q=>∃g,slot d k=.own g/\cu k d=true/\t (d.set k (.val (.lst g))) λb h=>h=d.set k (.val (.lst g))/\Q b d
theorem nD{t:DT}(k:Nat)(h:PTD X e t):PTD X e (Hr k t):=by obtain⟨T,p,r⟩:=h;refine⟨T,p,λY q g=>?_⟩;obtain⟨ds,e,o,q⟩:=q;obtain⟨M0,v,d,s,L,z⟩:=Y.freeze (aD e);refine r L q λq m J=>?_;obtain⟨rfl,q⟩:=q;obtain⟨M2,⟨u,U⟩,_⟩:=Y.thaw (aD e) o d s z m J;exact g q u U
omit [Frm] in
theorem Reps.reverse{K:zwW}{M:ab bn}{H:Hp}:∀{ds:ab D} {xs:ab V},Reps K pp M H ds xs->Reps K pp M H ds.reverse xs.reverse
 |[],xs,r=>by subst r;exact .nil
 |d::ds,xs,r=>by obtain⟨x,r',rfl,hd,J⟩:=r;rw[zwm,zwm];exact(Reps.reverse J).append (.one hd)
def gRev:D->(D->Prop)->Prop
 |.tup xs,P=>P (.tup xs.reverse)|.lst xs,P=>P (.lst xs.reverse)|_,_=>False
noncomputable abbrev dRev(te:DE)(tk:DO):DE:=λg Q=>te g λx J=>tk J λk L=>k=some (-1)/\gRev x λd=>Q d L
theorem Hs{st:dy}{te s:DE}(he:PED X e te)(hs:PED X st s):PED X (.Subscript e (.Slice none none (some st) py) pos) (dRev te (yM s)):=by
 obtain⟨T,p,r⟩:=he;obtain⟨Tk,z,rk⟩:=cJ hs;refine⟨_,GK p z,λE h k=>r E h λ{x _ _ _ _} h q L C=>rk L h λh m J=>?_⟩;obtain⟨u,h⟩:=h;refine⟨u,?_⟩;have Y:=C.mv m;cases x<;>first|exact h.elim|skip
 ·obtain⟨a,xs,rfl,g,U⟩:=Y;refine .inl ⟨a,xs,rfl,SqT.of g,λl d=>k h ((q.trans m).trans (.new d)) (J.sameP (.new d)) ?_⟩;exact⟨l,_,rfl,ae,U.reverse.mv (.new d)⟩
 ·obtain⟨a,xs,rfl,hm,hp,g,U⟩:=Y;refine .inr ⟨a,xs,rfl,SqL.of g,λl d=>k h ((q.trans m).trans (.new d)) (J.sameP (.new d)) ?_⟩;exact⟨l,_,rfl,(J.liv.fresh d).1,(J.liv.fresh d).2,ae,U.reverse.mv (.new d)⟩
end
section
noncomputable def dO:D->Bool
 |.non=>true|.bl _=>true|.int _=>true|.str _=>true|_=>false
noncomputable def toV:D->V
 |.bl b=>.bl b|.int i=>.int i|.str s=>.str s|_=>.non
noncomputable def eqF(x y:D):Bool:=eqV (toV x) (toV y)
theorem jm{d:D}(f:dO d=true)(r:Rep K pp M H d v):v=toV d/\eM v=true:=by
 cases d<;>first|exact absurd (show false=true from f) zzI|skip
 all_goals
  subst r;exact⟨rfl,rfl⟩
theorem gD:∀{ds:ab D} {xs:ab V},ds.all dO=true->Reps K pp M H ds xs->xs=ds.map toV/\xs.all eM=true
 |[],xs,_,r=>by subst r;exact⟨rfl,rfl⟩
 |d::ds,xs,f,r=>by obtain⟨x,r',rfl,hd,g⟩:=r;rw[zwy,zzV]at f;obtain⟨J,L⟩:=jm f.1 hd;obtain⟨U,Y⟩:=gD f.2 g;subst J U;exact⟨rfl,by rw[zwy,L,Y];rfl⟩
variable[Frm]
def gIn(x y:D)(P:D->Prop):Prop:=match y with
 |.tup ys=>(dO x=true/\ys.all dO=true)/\P (.bl (ys.any λy=>eqF y x))
 |.lst ys=>(dO x=true/\ys.all dO=true)/\P (.bl (ys.any λy=>eqF y x))
 |_=>False
theorem Be{K:zwW}{pp:ca bn}{x:D}{ys:ab D}(d:Rep K pp M H x v)(h:dO x=true/\ys.all dO=true)(r:Reps K pp M H ys xs):eM v=true/\xs.all eM=true/\inV v xs=ys.any λy=>eqF y x:=by obtain⟨J,L⟩:=jm h.1 d;obtain⟨U,Y⟩:=gD h.2 r;refine⟨L,Y,?_⟩;unfold inV;rw[U,J,List.any_map];rfl
theorem Ht:OpD X (compareOp .In) gIn:=by
 refine⟨_,xJ,λ{pp M H x y v u Q P} _ J L h k=>?_⟩;cases y<;>first|exact False.elim h|skip
 ·obtain⟨a,g,rfl,d,r⟩:=L;obtain⟨g1,g2,g3⟩:=Be J h.1 r;refine⟨a,g,rfl,.inr (SqT.of d),g1,g2,?_⟩;rw[zzh zzI,g3];exact k h.2 .refl bJ
 ·obtain⟨a,g,rfl,hm,hp,d,r⟩:=L;obtain⟨g1,g2,g3⟩:=Be J h.1 r;refine⟨a,g,rfl,.inl (SqL.of d),g1,g2,?_⟩;rw[zzh zzI,g3];exact k h.2 .refl bJ
structure M1D(X:Cx)(name:Str)(id:String)(g:D->D->(D->Prop)->Prop):Prop where
 slot:Slot "list" name id
 ty:typeOf (.builtin id)=pure (.type "method_descriptor")
 run:∃r,MtR X id r/\∀{pp M H x y v u Q P},Rep X.K pp M H x v->Rep X.K pp M H y u->g x y P->(∀{d w},P d->Rep X.K pp M H d w->Q w H)->r v [u] H Q
def JW:D->Prop
 |.lst _=>True|_=>False
noncomputable abbrev dM1(g:D->D->(D->Prop)->Prop)(to te:DE):DE:=λh Q=>to h λx J=>JW x/\te J λy L=>g x y λd=>Q d L
theorem pY{g:D->D->(D->Prop)->Prop}{o:dy}{to u:DE}(d:M1D X y T g)(I:PED X o to)(he:PED X e u)(J:attributeBase o y X.env (eval o X.env)=eval o X.env:=by rfl)(U:((backTo p (starEach [e] X.env)).all (λx=>!x.1) && (backToKw p (keywordEach [] X.env)).all (λx=>x.1.isSome)
   && decide ([e].length+([]:ab Keyword).length+(if ([]:ab Keyword).isEmpty then 0 else 1)<30))=true:=by rfl)(L:(pos.endLine==p.line)=true:=by rfl)(Y:starEach [e] X.env=(false,eval e X.env)::starEach [] X.env:=by rfl)(z:(backTo p (starEach [] X.env)).any (·.1)=false:=by rfl) :
  PED X (.Call (.Attribute o y pos) [e] [] p) (dM1 g to u):=by
 obtain⟨r,i,Q⟩:=d.run;obtain⟨To,po,n⟩:=I;obtain⟨Te,j,re⟩:=he;refine⟨_,rF zxs d.slot d.ty i po (aQ j bD Y) J U L Y z,λv h k=>n v h λ{x _ _ _ _} h c C s=>?_⟩;obtain⟨b,h⟩:=h;refine⟨?_,re C h λh m E l=>Q (s.mv m) l h λq rw=>k q (c.trans m) E rw⟩;cases x<;>first|exact b.elim|skip
 obtain⟨a,xs,rfl,_,_,G,_⟩:=s;exact .inl ⟨rfl,xs,SqL.of G⟩
def JX:D->D->(D->Prop)->Prop
 |.lst d,y,P=>(dO y=true/\d.all dO=true)/\P (.int ((d.countP λz=>eqF z y:Nat):Int))
 |_,_,_=>False
theorem Bf:M1D X "count" "list.count" JX:=by
 refine⟨PySem.F.slot_list_count,PySem.F.type_list_count,_,AI,λ{pp M H x y v u Q P} g m h k=>?_⟩;cases x<;>first|exact h.elim|skip
 obtain⟨a,xs,rfl,hm,hp,d,r⟩:=g;obtain⟨⟨f1,f2⟩,h⟩:=h;obtain⟨J,L⟩:=jm f1 m;obtain⟨U,Y⟩:=gD f2 r;refine⟨a,xs,u,rfl,rfl,d,L,Y,?_⟩;subst J U;rw[List.countP_map];exact k h aR
def Hu:D->D->(D->Prop)->Prop
 |.lst d,y,P=>(dO y=true/\d.all dO=true)/\∃j:Nat,((∃z,d[j]?=some z/\eqF z y=true)/\∀m z,m<j->d[m]?=some z->eqF z y=false)/\P (.int (j:Int))|_,_,_=>False
theorem eC:M1D X "index" "list.index" Hu:=by
 refine⟨PySem.F.slot_list_index,PySem.F.type_list_index,_,AJ,λ{pp M H x y v u Q P} c e h k=>?_⟩;cases x<;>first|exact h.elim|skip
 rename_i s;obtain⟨a,xs,rfl,g,hp,I,r⟩:=c;obtain⟨⟨f1,f2⟩,j,⟨⟨z,b,G⟩,L⟩,h⟩:=h;obtain⟨U,C⟩:=jm f1 e;obtain⟨Y,E⟩:=gD f2 r;refine⟨a,xs,u,j,rfl,rfl,I,C,E,⟨toV z,?_,?_⟩,λm w g J=>?_,k h aR⟩
 ·rw[Y,zzr,b];rfl
 ·rw[U];exact G
 ·rw[Y,zzr]at J;cases q:s[m]? with
  |none=>rw[q]at J;cases J
  |some d =>
   rw[q]at J;cases J;rw[U];exact L m d g q
theorem ww{g:DG}{b:DTS}{E:DEnds}{ds:ab D}(N:Nat->DS->Prop)(s:∀ρ,N ds.length ρ->E.nx ρ)
  (hs:∀(i:Nat) (d:D) (ρ:DS) (X:DS->Prop),ds[i]?=some d->N i ρ->(∀m,N (i+1) m->X m)->g (.tup [.int i,d]) ρ λJ=>b {E with nx:=X,ct:=X,bk:=E.nx} J) (ρ:DS) (h:N 0 ρ):cX g b (cK 0 ds) E ρ:=by
 have key:∀(post:ab D) (k:Nat),k<=ds.length->ds.drop k=post->∀ρ,N k ρ->cX g b (cK k post) E ρ:=by
  intro post
  induction post with
  |nil =>
   intro k L e ρ h;have q:ds.length<=k:=zxU.mp e;have z:k=ds.length:=Nat.le_antisymm L q;subst z;exact s ρ h
  |cons d r U =>
   intro k L e ρ h;have hd:ds[k]?=some d:=by have:=congrArg (λl=>l[0]?) e;simpa using this
   refine hs k d ρ _ hd h (U (k+1) (zzy.mp hd).1 ?_);rw[←List.drop_drop,e];rfl
 exact key ds 0 (zzM _) rfl ρ h
noncomputable abbrev dSlL(te:DE)(tl th:DO):DA:=λg Q=>te g λx J=>tl J λlo L=>th L λd U=>match x with
 |.lst xs=>Q (cutD xs lo d) U|_=>False
theorem gE{lo g:ca dy}{s:DE}{tl th:DO}(he:PED X e s)(d:POD X lo tl)(z:POD X g th):PLD X (.Subscript e (.Slice lo g none py) pos) (dSlL s tl th):=by
 obtain⟨T,p,r⟩:=he;obtain⟨Tl,E,b⟩:=d;obtain⟨Th,Y,Q⟩:=z;refine⟨_,ui DB p E Y,λc h k=>r c h λ{x _ _ _ _} h C J G=>b J h λh m L=>Q L h λh q U=>?_⟩;have I:=(G.mv m).mv q;cases x<;>first|exact h.elim|skip
 obtain⟨a,xs,rfl,_,_,u,i⟩:=I;exact⟨a,xs,rfl,SqL.of u,λl d=>k h ((C.trans m).trans q) U d (i.cut _ _)⟩
noncomputable abbrev Hv(ta tb:DE):DA:=λd Q=>ta d λx J=>tb J λy L=>match x,y with
 |.lst xs,.lst ys=>xs.length+ys.length<=sizeLine/\Q (xs++ys) L|_,_=>False
theorem gF{a b:dy}{ta q:DE}(s:PED X a ta)(u:PED X b q):PLD X (.BinOp a .Add b pos) (Hv ta q):=by
 obtain⟨Ta,I,e⟩:=s;obtain⟨Tb,Q,i⟩:=u;refine⟨_,cP Gv I Q,λj h k=>e j h λ{x _ _ _ _} h G U L=>i U h λ{y _ _ _ _} h d Y c=>?_⟩;have L:=L.mv d;cases x<;>first|exact h.elim|skip
 cases y<;>first|exact h.elim|skip
 obtain⟨l,xs,rfl,_,_,z,g⟩:=L;obtain⟨E,ys,rfl,_,_,J,m⟩:=c;exact⟨l,E,xs,ys,rfl,rfl,z,J,by rw[←g.length,←m.length];exact h.1,λp C=>k h.2 (G.trans d) Y C (g.append m)⟩
noncomputable abbrev Hw(ta tb:DE):DA:=λd Q=>ta d λx J=>tb J λy L=>match x,y with
 |.lst xs,.int k=>((-(2^63)<=k/\k<2^63)/\xs.length*k.toNat<=sizeLine)/\Q (List.replicate k.toNat xs).flatten L|_,_=>False
theorem Reps.reps{K:zwW}{M:ab bn}{H:Hp}{ds:ab D}{xs:ab V}(r:Reps K pp M H ds xs):∀k:Nat,Reps K pp M H (List.replicate k ds).flatten (List.replicate k xs).flatten
 |0=>by simp[Reps]
 |k+1=>by exact r.append (Reps.reps r k)
theorem yS{a b:dy}{ta g:DE}(m:PED X a ta)(q:PED X b g):PLD X (.BinOp a .Mult b pos) (Hw ta g):=by
 obtain⟨Ta,C,I⟩:=m;obtain⟨Tb,E,Q⟩:=q;refine⟨_,cP Gw C E,λc h k=>I c h λ{x _ _ _ _} h z L J=>Q L h λ{y _ _ _ _} h d U G=>?_⟩;have J:=J.mv d;cases x<;>first|exact h.elim|skip
 cases y<;>first|exact h.elim|skip
 obtain⟨l,xs,rfl,_,_,s,Y⟩:=J;subst G;exact⟨l,_,xs,rfl,rfl,s,h.1.1.1,h.1.1.2,by rw[←Y.length];exact h.1.2,λp u=>k h.2 (z.trans d) U u (Reps.reps Y _)⟩
end
section
variable[Frm]
noncomputable def sC:ab D->ca (ab Bool)
 |[]=>some []|.bl b::r=>(sC r).map (b :: ·)|_=>none
theorem pZ:∀bs:ab Bool,sC (bs.map D.bl)=some bs
 |[]=>rfl|n::r=>by simp[sC,pZ r]
theorem Bg:∀{ds:ab D} {bs:ab Bool},sC ds=some bs->ds=bs.map D.bl:=by
 intro ds
 induction ds with
 |nil=>intro _ h;cases h;rfl
 |cons d r J =>
  intro ns h;cases d<;>try cases h
  simp only[sC,zxz]at h;obtain⟨ms,h,rfl⟩:=h;rw[J h];rfl
theorem nE{K:zwW}{pp:ca bn}{M:ab bn}{H:Hp}:∀{d:ab Bool} {xs:ab V},Reps K pp M H (d.map D.bl) xs->xs=d.map V.bl
 |[],xs,h=>by simpa only[zyp,Reps]using h
 |n::r,xs,h=>by obtain⟨x,t,rfl,rfl,h⟩:=h;rw[nE h];rfl
def gTru(f:ab Bool->Bool):DSp:=λd P=>match d with
 |[.lst xs]=>match sC xs with
  |some bs=>P (.bl (f bs))|none=>False
 |_=>False
theorem sD{f:ab Bool->Bool}{bs:ab Bool}{P:D->Prop}(h:P (.bl (f bs))):gTru f [.lst (bs.map D.bl)] P:=by unfold gTru;simp only[pZ];exact h
theorem uM{f:ab Bool->Bool}{ds:ab D}{P:D->Prop}(h:gTru f ds P):∃bs:ab Bool,ds=[.lst (bs.map D.bl)]/\P (.bl (f bs)):=by
 unfold gTru at h;split at h
 ·rename_i xs;cases e:sC xs with
  |none=>rw[e]at h;exact h.elim|some d =>
   rw[e]at h;exact⟨d,by rw[Bg e],h⟩
 ·exact h.elim
theorem yT(J:X.calm=true:=by rfl):CallD X (.builtin "all") (gTru λbs=>bs.all id):=by refine⟨_,AK J,λ{pp M H ds vs Q P} _ r h k=>?_⟩;obtain⟨m,rfl,d⟩:=uM h;obtain⟨x,_,rfl,⟨a,ys,rfl,_,_,g,L⟩,rfl⟩:=r;exact⟨a,m,rfl,SqL.of (by rw[g,nE L]),k d .refl bJ⟩
theorem Hx(J:X.calm=true:=by rfl):CallD X (.builtin "any") (gTru λbs=>bs.any id):=by refine⟨_,AL J,λ{pp M H ds vs Q P} _ r h k=>?_⟩;obtain⟨m,rfl,d⟩:=uM h;obtain⟨x,_,rfl,⟨a,ys,rfl,_,_,g,L⟩,rfl⟩:=r;exact⟨a,m,rfl,SqL.of (by rw[g,nE L]),k d .refl bJ⟩
theorem ft{i:Int}{t:Tok}(J:Gl X x)(d:X.mg x=some (.int i t))(hd:(x==("__debug__" : Str))=false:=by decide):PED X (.Name x pos) (dC (.int i)) :=
 .con (xu (v:=.int i) J d ⟨t,rfl⟩ hd) λ_ _ _=>by simp only[Rep]
mutual
def flD:D->Prop
 |.non=>True|.bl _=>True|.int _=>True|.str _=>True|.ty _=>True|.cls _=>True|.tup d=>flDs d|_=>False
def flDs:ab D->Prop
 |[]=>True|d::r=>flD d/\flDs r
end
omit [Frm] in
mutual
theorem RO.live:∀(q:O) (v:V) (A:ab bn),RO K pp M H q v A->∀a∈A,H a≠none
 |.val d,v,A,h,a,g=>by simp only[RO]at h;rw[h.1]at g;simp at g
 |.lst os,v,A,h,a,g=>by
  simp only[RO]at h;obtain⟨b,xs,B,e,J,rfl,r⟩:=h;rcases zzi.mp g with rfl|g
  ·rw[J];intro z;cases z
  ·exact ROs.live os xs B r a g
 |.dct ks os,v,A,h,a,g=>by
  simp only[RO]at h;obtain⟨b,kvs,B,e,J,e2,rfl,r⟩:=h;rcases zzi.mp g with rfl|g
  ·rw[J];intro z;cases z
  ·exact ROs.live os _ B r a g
 |.tup os,v,A,h,a,g=>by simp only[RO]at h;obtain⟨b,xs,e,J,r⟩:=h;exact ROs.live os xs A r a g
theorem ROs.live:∀(os:ab O) (xs:ab V) (A:ab bn),ROs K pp M H os xs A->∀a∈A,H a≠none
 |[],xs,A,h,a,d=>by simp only[ROs]at h;rw[h.2]at d;simp at d
 |o::os,xs,A,h,a,d=>by
  simp only[ROs]at h;obtain⟨x,r,B,C,e,rfl,g,k⟩:=h;rcases zzA.mp d with d|d
  ·exact RO.live o x B g a d
  ·exact ROs.live os r C k a d
end
omit [Frm] in
theorem ROs.vals:∀{ds:ab D} {xs:ab V},Reps K pp M H ds xs->ROs K pp M H (ds.map O.val) xs []
 |[],xs,h=>by simp only[Reps]at h;simp only[zyp,ROs];exact⟨h,trivial⟩
 |d::ds,xs,h=>by obtain⟨x,r,rfl,g,k⟩:=h;exact⟨x,r,[],[],rfl,rfl,⟨rfl,g⟩,ROs.vals k⟩
section
variable{F:Fx}{ρ:DS}{q q':O}
theorem RSt.newObj{A:ab bn}(r:RSt K F M1 H σ ρ)(s:SameP K F.pp H H')(B:A.Nodup)(h:∀a∈A,H a=none/\F.pp≠some a)(I:RO K F.pp (A++M1) H' q v A)(i:Nat) :
  Mv K F.pp M1 H (A++M1) H'/\RSt K F (A++M1) H' (σ.set i (some v)) (ρ.set i (.obj q)):=by
 have u:Mv K F.pp M1 H M1 H':=s.mv;have m:Mv K F.pp M1 H (A++M1) H':=by
  refine⟨u.tup,λa o e n p=>⟨(u.oth a o e n p).1,λz=>?_⟩,u.pen,u.tb⟩;rcases zzA.mp z with z|z
  ·rw[(h a z).1]at e;cases e
  ·exact n z
 have y:∀a∈A,F.H0 a=none:=λa g=>by
  cases e:F.H0 a with
  |none=>rfl|some o=>exact absurd (h a g).1 (r.same.live a (by rw[e];intro z;cases z))
 refine⟨m,⟨by simp[r.len],λj t o C E=>?_,r.ow.step m i (λj e=>zzP (Ne.symm e)) (λj e=>zzP (Ne.symm e)) (λA0 _ _=>⟨A,λt o c l=>?_,λb k=>⟨zzA.mpr (.inl k),y b k,(h b k).2,.inr λz=>r.liv.m b z (h b k).1⟩,λa g M N _=>⟨zzA.mpr (.inr g),(s.ow a g M N).2⟩⟩),λa g=>zzA.mpr (.inr (r.sub a g)),r.same.trans s.toSameQ,r.old,⟨λa g=>?_,λp e=>s.live p (r.liv.p p e)⟩,r.lk.cl m⟩⟩
 ·by_cases e:i=j
  ·subst e;rw[aV C,aV E];exact⟨v,rfl⟩
  ·rw[zzP e]at C E;have q':=r.sl j t o C E;cases t with
   |nil=>trivial|val d=>obtain⟨v,e,q⟩:=q';exact⟨v,e,q.mv m⟩
   |pin w d=>obtain⟨v,e,x,q⟩:=q';exact⟨v,e,x,q.mv m⟩
   |own es =>
    obtain⟨G,T,rfl,U,J,Y,L,Q⟩:=q';exact⟨G,T,rfl,zzA.mpr (.inr U),J,Y,(s.ow G U Y J).2 _ L (by intro _ z;cases z),Q.mv m⟩
   |obj q=>exact q'
 ·rw[aV c,aV l];exact⟨B,v,rfl,I⟩
 ·rcases zzA.mp g with g|g
  ·exact RO.live q v A I a g
  ·exact s.live a (r.liv.m a g)
end
noncomputable abbrev DTB:=(D->Prop)->(O->Prop)->DS->Prop
section
structure EB(K:zwW)(F:Fx)(M:List Addr)(H:Hp)(Q:D->Prop)(L:O->Prop)(D:Ends):Prop where
 rt:∀{M' H' σ' ρ' d v},Mv K F.pp M H M' H'->RSt K F M' H' σ' ρ'->Rep K F.pp M' H' d v->Q d->D.rt v H'
 nx:∀{M' H' σ' ρ'},Mv K F.pp M H M' H'->RSt K F M' H' σ' ρ'->Q .non->D.nx σ' H'
 nw:∀{M' H' q v A},SameP K F.pp F.H0 H'->(∀a∈F.M0,a∈M')->A.Nodup->(∀a∈A,a∈M'/\F.H0 a=none/\F.pp≠some a)->RO K F.pp M' H' q v A->L q->D.rt v H'
theorem EB.mv{K:zwW}{F:Fx}{Q:DL.D->Prop}{L:O->Prop}{D:Ends}(o:EB K F M H Q L D)(m:Mv K F.pp M H M1 H'):EB K F M1 H' Q L D :=
 ⟨λJ=>o.rt (m.trans J),λJ=>o.nx (m.trans J),o.nw⟩
def PSsB(X:Cx)(st:ab Stmt)(t:DTB):Prop:=∃T:TS,PSs X st T/\∀{F:Fx} {M H σ ρ Q L D},RSt X.K F M H σ ρ->t Q L ρ->EB X.K F M H Q L D->T D σ H
variable{t:DTS}{u:DTB}{te:DE}
def slB(L:O->Prop):Sl->Prop
 |.own d=>L (.lst (d.map .val))|.obj q=>L q|_=>False
theorem RSt.slB{K:zwW}{F:Fx}{M:ab bn}{H:Hp}{σ:St}{ρ:DS}{i:Nat}{L:O->Prop}(r:RSt K F M H σ ρ)(h:slB L (slot ρ i)) :
  ∃q v A,σ[i]?=some (some v)/\A.Nodup/\RO K F.pp M H q v A/\(∀a∈A,a∈M/\F.H0 a=none/\F.pp≠some a)/\L q:=by
 cases z:slot ρ i with
 |nil=>rw[z]at h;exact h.elim|val d=>rw[z]at h;exact h.elim|pin w d=>rw[z]at h;exact h.elim|own ds =>
  rw[z]at h;obtain⟨oo1,g,l,xs,rfl,Y,J,k,U,m⟩:=r.at (aD z (by intro z;cases z));refine⟨_,.ref l,[l],g,by simp,?_,λa C=>?_,h⟩
  ·simp only[RO];exact⟨l,xs,[],rfl,U,rfl,ROs.vals m⟩
  ·rw[zzG.mp C];exact⟨Y,J,k⟩
 |obj q =>
  rw[z]at h;obtain⟨v,A,E,I,G,s,_⟩:=r.objAt (aD z (by intro z;cases z));exact⟨q,v,A,E,I,G,s,h⟩
theorem Bh{x1}(he:PED X e te)(E:PE X tg (tVar i))(h:starEach [e,tg] X.env=(false,eval e X.env)::starEach [tg] X.env:=by rfl)(k:starEach [tg] X.env=(false,eval tg X.env)::starEach [] X.env:=by rfl) :
  PSsB X [.Return (some (.Tuple [e,tg] x1 p)) pos] (λ_ L ρ=>te ρ λd g=>slB (λq=>L (.tup [.val d,q])) (slot g i)):=by
 obtain⟨T,p,r⟩:=he;refine⟨_,dA (jv (Cd (aQ p (aQ E bD k) h))),λQ q Y=>r Q q λ{d _ M1 H1 v} q m1 J I=>?_⟩;obtain⟨q,w,A,z,G,C,m,s⟩:=J.slB q;refine⟨w,z,by show 2<=sizeLine;decide,λt U=>Y.nw (J.sameT.trans (.new U)) J.sub G m ?_ s⟩;exact⟨t,_,rfl,ae,v,[w],[],A,rfl,rfl,⟨rfl,I.mv (.new U)⟩,w,[],A,[],rfl,by simp,RO.mv (.new U) q w A (λa ha x e _=>cW U e) C,rfl,rfl⟩
theorem Bi(d:PSD X st t)(g:PSsB X rest u):PSsB X (st::rest) (λQ L ρ=>t {nx:=u Q L,rt:=Q} ρ):=by obtain⟨T,p,r⟩:=d;obtain⟨U,q,s⟩:=g;exact⟨_,aU p q,λk h Y=>r k h ⟨λm J h=>s J h (Y.mv m),λ_ _ q=>q.elim,λ_ _ q=>q.elim,Y.rt⟩⟩
theorem Eu(g:PSD X st t)(k:PSsB X rest u):PSsB X (st::rest) (λQ L ρ=>∃N:DS->Prop,t {nx:=N,rt:=Q} ρ/\∀d,N d->u Q L d):=by obtain⟨T,p,r⟩:=g;obtain⟨U,q,s⟩:=k;refine⟨_,aU p q,λC h Y=>?_⟩;obtain⟨N,h,z⟩:=h;exact r C h ⟨λm J h=>s J (z _ h) (Y.mv m),λ_ _ q=>q.elim,λ_ _ q=>q.elim,Y.rt⟩
end
noncomputable abbrev DSpB:=ab D->(D->Prop)->(O->Prop)->Prop
def spDB(K:zwW)(n:Nat)(g:DSpB):Sp:=λk H Q _=>∃pp M h P L,Lv pp M H/\Reps K pp M H h k/\h.length=n/\g h P L/\(∀{d H' v},P d->SameP K pp H H'->Rep K pp M H' d v->Q v H') /\
 ∀{q M' H' v A},L q->SameP K pp H H'->(∀a∈M,a∈M')->A.Nodup->(∀a∈A,a∈M'/\H a=none/\pp≠some a)->RO K pp M' H' q v A->Q v H'
omit [Frm] in
theorem fnDB{P:ef}{K:zwW}{base:cm}{st:Stmt}{f:bn}{k:Nat}{g:DSpB}{t:DTB}(U:Fun K x y st f fd)(S:FnScope N ps (aj st))(z:∀{u:bb} {A:Around} {d:ab Env} {s:bx} {H:Hp} {E:XK},Room k (A.deeper (envOfC y (aj st) s.heap.objs.size f u))->N.Nodup -> @PSsB _ Frm.free (cxOf CX0 P w K mg base N y (aj st) f u A d s H E).nox (bN st) t)(C:∀ds Q L,ds.length=ps.length->g ds Q L->t Q L (jU N.length ds)):FnOk P w K mg base CX0 (k+1) f fd ps (spDB K ps.length g):=by
 refine U.ok S (λi H Q E h=>?_) (λu A d s H i Q E G h=>?_)
 ·obtain⟨pp,M,ds,P,L,_,r,e,_⟩:=h;rw[←r.length,e]
 ·obtain⟨pp,M,ds,P,L,lv,r,e,h,k,I⟩:=h;obtain⟨T,p,run⟩:=z G S.nd;exact⟨T,p,run (jV lv r trivial) (C ds _ _ e h) ⟨λm J b q=>k q J.sameT (b.mv (.less J.sub)),λm J q=>k q J.sameT (by simp only[Rep]),λs sub a Y c q=>I q s sub a Y c⟩⟩
omit [Frm] in
theorem FnOk.asDB{P:ef}{K:zwW}{base:cm}{k:Nat}{f:bn}{g:DSpB}{d:DSp}(h:FnOk P w K mg base CX0 k f fd ps (spDB K n g))(L:∀ds Q,d ds Q->g ds Q (λq=>Q (fzO q))):FnOk P w K mg base CX0 k f fd ps (spD K n d) :=
 h.imp λvs H Q E h=>by obtain⟨pp,M,ds,P,lv,r,e,h,k⟩:=h;exact⟨pp,M,ds,P,_,lv,r,e,L _ _ h,k,λU s sub nd J Y=>k U s (RO.fz (.less sub) _ _ _ (λa m=>⟨(lv.fresh (J a m).2.1).1,(J a m).2.2⟩) Y)⟩
omit [Frm] in
theorem atI_nat{xs:ab α}{n:Nat}{x:α}(h:xs[n]?=some x):atI xs (n:Int)=some x:=by have hn:n<xs.length:=(zzy.mp h).1;unfold atI ixN;rw[zzk (by lia),zzk (by lia)];simpa using h
end
def Hy:HO->Prop
 |.lst _=>True|.dT _=>True|_=>False
theorem Mv.writeX{l:bn}{u:HO}(d:H l=some o)(g:Hy o)(m:l∈M)(J:pp≠some l):Mv K pp M H M (upd H l u):=by
 refine⟨λa L e=>by rw[af (kY e d (by rintro rfl;exact g))];exact e,λa L e n q=>⟨by rw[af (by rintro rfl;exact n m)];exact e,n⟩,λp e h=>?_,λz=>z.upd d (by rintro(⟨_,rfl⟩|⟨_,_,rfl⟩)<;>exact g)⟩;obtain⟨a,s,t,k,h⟩:=h;refine⟨a,s,t,k,?_,?_,h.t0⟩
 ·rw[af (by rintro rfl;exact J e)];exact h.lst
 ·rcases h.scr with ⟨o',e⟩|e
  ·refine .inl ⟨o',?_⟩;rw[af (kY e d (by rintro rfl;exact g))];exact e
  ·exact .inr e
noncomputable def k1D:Key->D
 |.inl i=>.int i|.inr x=>.str x
noncomputable def keyD(k:ab Key):D:=.tup (k.map k1D)
theorem nF{K:zwW}{pp:ca bn}{M:ab bn}{H:Hp}:∀{k:ab Key} {xs:ab V},Reps K pp M H (k.map k1D) xs->xs=k.map kV
 |[],xs,h=>by simpa only[zyp,Reps]using h
 |.inl i::r,xs,h=>by obtain⟨x,t,rfl,rfl,h⟩:=h;rw[nF h];rfl
 |.inr i::r,xs,h=>by obtain⟨x,t,rfl,rfl,h⟩:=h;rw[nF h];rfl
theorem nG{K:zwW}{pp:ca bn}{M:ab bn}{H:Hp}:∀(k:ab Key),Reps K pp M H (k.map k1D) (k.map kV)
 |[]=>by simp only[zyp,Reps]
 |.inl i::r=>by exact⟨_,_,rfl,rfl,nG r⟩
 |.inr i::r=>by exact⟨_,_,rfl,rfl,nG r⟩
theorem du{K:zwW}{pp:ca bn}{k:ab Key}(h:Rep K pp M H (keyD k) v):∃b,v=.ref b/\H b=some (.tup (k.map kV)):=by obtain⟨b,xs,rfl,J,h⟩:=h;rw[nF h]at J;exact⟨b,rfl,J⟩
theorem uN{K:zwW}{pp:ca bn}{k:ab Key}(h:H b=some (.tup (k.map kV))):Rep K pp M H (keyD k) (.ref b):=by exact⟨b,_,rfl,h,nG k⟩
section
variable{α β:Type}
noncomputable def bu(ps:ab (ab Key×α))(k:ab Key):ca α:=(ps.find? λp=>decide (p.1=k)).map (·.2)
noncomputable def putA(ps:ab (ab Key×α))(k:ab Key)(x:α):ab (ab Key×α) :=
 if (ps.any λp=>decide (p.1=k))=true then ps.map (λp=>if p.1=k then(p.1,x) else p) else ps++[(k,x)]
noncomputable abbrev PK(R:α->β->Prop):ab (ab Key×α)->ab (ab Key×β)->Prop:=Paired λp q=>p.1=q.1/\R p.2 q.2
theorem PK.find{R:α->β->Prop}{ps:ab (ab Key×α)}{d:ab (ab Key×β)}(h:PK R ps d)(k:ab Key):(bu ps k=none/\bu d k=none)∨∃x y,bu ps k=some x/\bu d k=some y/\R x y:=by
 induction h with
 |nil=>exact .inl ⟨rfl,rfl⟩|@cons p q ps d h _ L =>
  unfold bu at L ⊢;by_cases e:p.1=k
  ·have J:q.1=k:=h.1.symm.trans e;refine .inr ⟨p.2,q.2,?_,?_,h.2⟩
   ·rw[zzX (by simpa using e)];rfl
   ·rw[zzX (by simpa using J)];rfl
  ·have J:¬q.1=k:=λz=>e (h.1.trans z);rw[zzY (by simpa using e),zzY (by simpa using J)];exact L
theorem PK.any{R:α->β->Prop}{ps:ab (ab Key×α)}{d:ab (ab Key×β)}(h:PK R ps d)(k:ab Key):(ps.any λp=>decide (p.1=k))=d.any λp=>decide (p.1=k):=by
 induction h with
 |nil=>rfl|@cons p q ps d h _ J=>simp only[zxh,J,h.1]
theorem PK.put{R:α->β->Prop}{ps:ab (ab Key×α)}{d:ab (ab Key×β)}(h:PK R ps d)(k:ab Key){x:α}{y:β}(r:R x y):PK R (putA ps k x) (putA d k y):=by
 unfold putA;rw[h.any k];by_cases e:(d.any λp=>decide (p.1=k))=true
 ·rw[zzk e,zzk e];clear e
  induction h with
  |nil=>exact .nil|@cons p q ps d h _ J =>
   rw[zzj,zzj];refine .cons ?_ J;by_cases e:p.1=k
   ·rw[zzk e,zzk (h.1.symm.trans e)];exact⟨h.1,r⟩
   ·rw[zzh e,zzh (λz=>e (h.1.trans z))];exact h
 ·rw[zzh e,zzh e];exact Paired.snoc h ⟨rfl,r⟩
theorem PK.keys{R:α->β->Prop}{ps:ab (ab Key×α)}{d:ab (ab Key×β)}(h:PK R ps d):ps.map (·.1)=d.map (·.1):=by
 induction h with
 |nil=>rfl|cons h _ J=>simp only[zzj,J,h.1]
end
theorem Jc(d:ab (ab Key×V))(k:ab Key):bu d k=valV d k:=rfl
theorem Ev:∀{J:ab (ab Key×D)} {d:ab (ab Key×V)},d.map (·.1)=J.map (·.1)->Reps K pp M H (J.map (·.2)) (d.map (·.2))->PK (Rep K pp M H) J d
 |[],[],_,_=>.nil|[],_::_,h,_=>by simp at h
 |_::_,[],h,_=>by simp at h
 |p::ps,q::qs,h,r=>by simp only[zzj,zwe]at h;obtain⟨x,t,e,Y,g⟩:=r;injection e with L U;subst L U;exact .cons ⟨h.1.symm,Y⟩ (Ev h.2 g)
theorem Ew{J:ab (ab Key×D)}{d:ab (ab Key×V)}(h:PK (Rep K pp M H) J d):Reps K pp M H (J.map (·.2)) (d.map (·.2)):=by
 induction h with
 |nil=>simp only[zyp,Reps]|cons h _ L=>exact .cons h.2 L
theorem PK.imp{R S:α->β->Prop}{ps:ab (ab Key×α)}{qs:ab (ab Key×β)}(h:PK R ps qs)(f:∀a b,R a b->S a b):PK S ps qs:=by
 induction h with
 |nil=>exact .nil|cons h _ J=>exact .cons ⟨h.1,f _ _ h.2⟩ J
noncomputable def dvO(J:ab (ab Key×D)):O:=.dct (J.map (·.1)) (J.map λp=>.val p.2)
theorem ro_dv{J:ab (ab Key×D)}{A:ab bn}:RO K pp M H (dvO J) v A↔∃a kvs,v=.ref a/\H a=some (.dT kvs)/\A=[a]/\PK (Rep K pp M H) J kvs:=by
 have vals:∀{J:ab (ab Key×D)} {xs:ab V} {B:ab bn},ROs K pp M H (J.map λp=>O.val p.2) xs B->B=[]/\Reps K pp M H (J.map (·.2)) xs:=by
  intro J
  induction J with
  |nil=>intro xs B h;exact⟨h.2,by simp only[zyp,Reps];exact h.1⟩|cons p ps L =>
   intro xs B h;obtain⟨x,r,B1,C,rfl,rfl,⟨rfl,k⟩,m⟩:=h;obtain⟨rfl,q⟩:=L m;exact⟨rfl,.cons k q⟩
 constructor
 ·intro h;obtain⟨a,kvs,B,rfl,d,g,rfl,r⟩:=h;obtain⟨rfl,U⟩:=vals r;exact⟨a,kvs,rfl,d,rfl,Ev g U⟩
 ·rintro⟨a,kvs,rfl,d,rfl,r⟩;refine⟨a,kvs,[],rfl,d,r.keys.symm,rfl,?_⟩;have:=ROs.vals (Ew r);rw[zzo]at this;exact this
noncomputable def dlO(kls:ab (ab Key×ab D)):O:=.dct (kls.map (·.1)) (kls.map λp=>.lst (p.2.map .val))
def PL(K:zwW)(pp:ca bn)(M:ab bn)(H:Hp):ab (ab Key×ab D)->ab (ab Key×V)->ab bn->Prop
 |[],d,g=>d=[]/\g=[]|p::ps,d,g=>∃l xs r t,d=(p.1,.ref l)::r/\g=l::t/\H l=some (.lst xs)/\Reps K pp M H p.2 xs/\PL K pp M H ps r t
theorem Bj{ds:ab D}{B:ab bn}(h:ROs K pp M H (ds.map O.val) xs B):B=[]/\Reps K pp M H ds xs:=by
 induction ds generalizing xs B with
 |nil=>simp only[zyp,ROs]at h;exact⟨h.2,by simp only[Reps];exact h.1⟩|cons d ds J =>
  obtain⟨x,r,B1,C,rfl,rfl,⟨rfl,g⟩,k⟩:=h;obtain⟨rfl,m⟩:=J k;exact⟨rfl,.cons g m⟩
theorem Hz:∀{d:ab (ab Key×ab D)} {g:ab (ab Key×V)} {B:ab bn},g.map (·.1)=d.map (·.1)->ROs K pp M H (d.map λp=>O.lst (p.2.map .val)) (g.map (·.2)) B->PL K pp M H d g B
 |[],[],B,_,h=>by simp only[zyp,ROs]at h;exact⟨rfl,h.2⟩
 |[],_::_,_,h,_=>by simp at h
 |_::_,[],_,h,_=>by simp at h
 |p::ps,q::z,B,e,h=>by simp only[zzj,zwe]at e;obtain⟨x,r,B1,C,J,rfl,⟨l,xs,B2,rfl,u,rfl,k⟩,m⟩:=h;injection J with L U;subst U;obtain⟨rfl,s⟩:=Bj k;exact⟨l,xs,z,C,by rw[←e.1,←L],rfl,u,s,Hz e.2 m⟩
theorem HA:∀{g:ab (ab Key×ab D)} {d:ab (ab Key×V)} {B:ab bn},PL K pp M H g d B->d.map (·.1)=g.map (·.1)/\ROs K pp M H (g.map λp=>O.lst (p.2.map .val)) (d.map (·.2)) B
 |[],d,B,h=>by obtain⟨rfl,rfl⟩:=h;simp only[zyp,ROs];exact⟨trivial,trivial,trivial⟩
 |p::ps,d,B,h=>by obtain⟨l,xs,r,t,rfl,rfl,s,k,m⟩:=h;obtain⟨e,q⟩:=HA m;refine⟨by simp only[zzj,e],?_⟩;exact⟨.ref l,_,[l],t,rfl,rfl,⟨l,xs,[],rfl,s,rfl,ROs.vals k⟩,q⟩
theorem ro_dl{g:ab (ab Key×ab D)}{A:ab bn}:RO K pp M H (dlO g) v A↔∃a d ls,v=.ref a/\H a=some (.dT d)/\A=a::ls/\PL K pp M H g d ls:=by
 constructor
 ·intro h;obtain⟨a,d,B,rfl,k,m,rfl,r⟩:=h;exact⟨a,d,B,rfl,k,rfl,Hz m r⟩
 ·rintro⟨a,d,ls,rfl,k,rfl,r⟩;obtain⟨e,r⟩:=HA r;exact⟨a,d,ls,rfl,k,e,rfl,r⟩
section
variable[Frm]
section
variable{F:Fx}{ρ:DS}{q q':O}
theorem RSt.objStep(r:RSt K F M H σ ρ)(h:ρ[i]?=some (.obj q))(m:Mv K F.pp M H M' H')
  (k:∀v A,σ[i]?=some (some v)->A.Nodup->RO K F.pp M H q v A->(∀a∈A,a∈M/\F.H0 a=none/\F.pp≠some a)->∃J,J.Nodup/\RO K F.pp M' H' q' v J/\(∀b∈J,b∈M'/\F.H0 b=none/\F.pp≠some b/\(b∈A∨b∉M)) /\
   ∀a,a∈M->F.pp≠some a->F.H0 a=none->a∉A->a∈M'/\∀x,H a=some x->NT x->H' a=some x)
  (sub:∀a∈F.M0,a∈M') (same:SameQ K F.pp F.H0 H') (liv:Lv0 F.pp M' H'):RSt K F M' H' σ (ρ.set i (.obj q')):=by
 obtain⟨v,A,g,nd,hq,hA,Y⟩:=r.objAt h;obtain⟨_,_,_,_,ke⟩:=k v A g nd hq hA;refine⟨by simp[r.len],λj s o u C=>?_,r.ow.step m i (λ_ _=>rfl) (λj e=>zzP (Ne.symm e)) (λc l n=>?_),sub,same,r.old,liv,r.lk.cl m⟩
 ·by_cases e:i=j
  ·subst e;rw[g]at C;rw[aV u];cases C;exact⟨v,rfl⟩
  ·rw[zzP e]at u;have q':=r.sl j s o u C;cases s with
   |nil=>trivial|val d=>obtain⟨v,e,q⟩:=q';exact⟨v,e,q.mv m⟩
   |pin w d=>obtain⟨v,e,ew,q⟩:=q';exact⟨v,e,ew,q.mv m⟩
   |own es =>
    obtain⟨G,zs,rfl,p,L,I,U,B⟩:=q';have nl:G∉A:=Y j _ _ (Ne.symm e) u C _ ⟨es,rfl⟩ rfl;obtain⟨k1,k2⟩:=ke G p I L nl;exact⟨G,zs,rfl,k1,L,I,k2 _ U (by intro _ z;cases z),B.mv m⟩
   |obj q=>exact q'
 ·obtain⟨T,v1,E,y⟩:=l _ _ h g;cases E;obtain⟨J,N,ro,hb,ha⟩:=k v c g T y n;refine⟨J,λs o E Q=>?_,hb,ha⟩;rw[g]at Q;cases Q;rw[aV E];exact⟨N,v,rfl,ro⟩
theorem Lv0.upd{pp:ca bn}{l:bn}{o:HO}(h:Lv0 pp M H):Lv0 pp M (L2.upd H l o):=by
 refine⟨λa d=>?_,λp e=>?_⟩
 ·by_cases z:a=l
  ·subst z;rw[ae];intro z;cases z
  ·rw[af z];exact h.m a d
 ·by_cases z:p=l
  ·subst z;rw[ae];intro z;cases z
  ·rw[af z];exact h.p p e
theorem RSt.sameW{l:bn}(r:RSt K F M H σ ρ)(h0:F.H0 l=none)(m:Mv K F.pp M H M' (L2.upd H l o)):SameQ K F.pp F.H0 (L2.upd H l o):=by
 refine⟨λb o e n=>?_,λp e h=>m.pen p e (r.same.pen p e h),λb e=>?_⟩
 ·rw[af (by rintro rfl;rw[h0]at e;cases e)];exact r.same.keep b o e n
 ·by_cases z:b=l
  ·subst z;rw[ae];intro z;cases z
  ·rw[af z];exact r.same.live b e
end
def HB:Sl->Prop
 |.obj _=>True|_=>False
omit [Frm] in
theorem Bl{s:Sl}(h:HB s):∃q,s=.obj q:=by cases s<;>first|exact⟨_,rfl⟩|exact h.elim
noncomputable abbrev JY(i:Nat):DTS:=λE d=>E.nx (d.set i (.obj (.dct [] [])))
theorem nH(i:Nat)(Y:X.N.Nodup:=by assumption)(h:X.N[i]?=some y:=by rfl)(k:Loc X.env.scope y:=by first|exact Or.inl rfl|exact Or.inr rfl)(hs:swapsWith (.Dict [] [] tp) (some (.Name y py)) pos.line X.env=pure false:=by rfl)(g:X.fn y=true∨X.env.scope.names.lookup y=some .local:=by first|exact .inl rfl|exact .inr rfl|assumption):PSD X (.Assign [.Name y py] (.Dict [] [] tp) pos) (JY i):=by refine⟨_,fL Y h k AB hs g,λ{F M H σ ρ E D} U q o p J=>?_⟩;have lf:=U.liv.fresh J;obtain⟨m,L⟩:=U.newObj (q:=.dct [] []) (A:=[p]) (.new J) (by simp) (λa d=>by rw[zzG.mp d];exact⟨J,lf.2⟩) (by simp only[RO,ROs];exact⟨p,[],[],rfl,ae,rfl,rfl,rfl,rfl⟩) i;exact o.nx m L q
noncomputable abbrev HC(i:Nat)(tk te:DE):DTS:=λE g=>te g λd L=>HB (slot L i)/\tk L λY U=>∃J k,slot U i=.obj (dvO J)/\Y=keyD k/\J.length<sizeLine/\E.nx (U.set i (.obj (dvO (putA J k d))))
omit [Frm] in
theorem HD{R:α->β->Prop}{ps:ab (ab Key×α)}{d:ab (ab Key×β)}(h:PK R ps d):ps.length=d.length:=dJ h
theorem yU{r:Nat}{o:dy}{tk w:DE}(hr:Room r X.A)(ho:PE X o (tVar i))(hk:PED X tg tk)(he:PED X e w)(hs:swapsWith e (some (.Subscript o tg p)) pos.line X.env=pure false:=by rfl) :
  PSD X (.Assign [.Subscript o tg p] e pos) (HC i tk w):=by
 obtain⟨Tk,C,rk⟩:=hk;obtain⟨Te,pe,re⟩:=he;refine⟨_,xP (by have:=hr.units;lia) ho C pe hs,λ{F M H σ ρ E D} rs h oo=>re rs h λ{d ρ1 M1 H1 v} h m1 l r1=>?_⟩;obtain⟨q0,T⟩:=Bl h.1;obtain⟨v0,_,L,_⟩:=l.objAt (aD T);refine⟨v0,L,rk l h.2 λ{dk ρ2 I G y} h n J r2=>?_⟩;obtain⟨kds,k,es,rfl,hl,h⟩:=h;obtain⟨b,rfl,hb⟩:=du r2;have g:=aD es;obtain⟨v1,A,j,nd,hq,hA,_⟩:=J.objAt g;rw[L]at j;cases j;obtain⟨a,u,rfl,q,rfl,C⟩:=ro_dv.mp hq;obtain⟨am,Q,ap⟩:=hA a (by simp);have m:Mv X.K F.pp I G I (upd G a (.dT (putK u k v))):=.writeX q trivial am ap;refine⟨a,_,rfl,DPut.t q hb (by rw[←HD C];exact hl),oo.nx ((m1.trans n).trans m) (J.objStep g m (λv' A' Y _ B hA'=>?_) J.sub (J.sameW Q m) J.liv.upd) h⟩;rw[L]at Y;cases Y;obtain⟨a',kvs',e,U,rfl,N⟩:=ro_dv.mp B;cases e;rw[q]at U;cases U;refine⟨[a],by simp,ro_dv.mpr ⟨a,_,rfl,ae,rfl,(N.imp λx y z=>z.mv m).put k ((r1.mv n).mv m)⟩,λc s=>?_,λc s _ _ hn=>⟨s,λx e _=>?_⟩⟩
 ·rw[zzG.mp s];exact⟨am,Q,ap,.inl (by simp)⟩
 ·rw[af (by rintro rfl;exact hn (by simp))];exact e
def gIxT:D->D->(D->Prop)->Prop:=λx y P=>∃(J:ab (ab Key×D)) (k:ab Key) (d:D),x=.dT (J.map (·.1)) (J.map (·.2))/\y=keyD k/\bu J k=some d/\P d
theorem uO{r:Nat}{a b:dy}{ta u:DE}(Q:Room r X.A)(G:PED X a ta)(L:PED X b u)(hs:NoSl b):PED X (.Subscript a b pos) (dOp gIxT ta u):=by
 obtain⟨Ta,j,o⟩:=G;obtain⟨Tb,l,p⟩:=L;refine⟨_,rJ (by have:=Q.units;lia) j l hs,λw h e=>o w h λh i Y U=>p Y h λh s z n=>?_⟩;obtain⟨kds,k,d,rfl,rfl,q,h⟩:=h;obtain⟨b,rfl,L⟩:=du n;have U:=U.mv s;obtain⟨c,g,rfl,_,_,I,E,v⟩:=U;rcases (Ev E v).find k with ⟨J,m⟩|⟨x,y,J,m,C⟩
 ·rw[q]at J;cases J
 ·rw[q]at J;cases J;exact⟨c,y,rfl,m ▸ .inr ⟨g,k,b,I,rfl,L,rfl⟩,e h (i.trans s) z C⟩
def Cu:DSp:=λg P=>match g with
 |[.dT d _]=>((∀k∈d,pI k)/\(2<=d.length->∀k∈d,k≠[])/\d.length<64)/\P (.lst ((srtK d).map keyD))|_=>False
omit [Frm] in
theorem qa{K:zwW}{pp:ca bn}{d:ab (ab Key)}(h:Paired (rR H) d xs):Reps K pp M H (d.map keyD) xs:=by
 induction h with
 |nil=>simp only[zyp,Reps]|cons h _ L =>
  obtain⟨b,rfl,J⟩:=h;exact .cons (uN J) L
theorem nI(J:X.calm=true:=by rfl):CallD X (.builtin "sorted") Cu:=by
 refine⟨_,wg J,λ{pp M H ds vs Q P} lv r h k=>?_⟩;unfold Cu at h;split at h
 case h_2=>exact h.elim
 obtain⟨⟨s,m,q⟩,h⟩:=h;obtain⟨x,t,rfl,⟨a,g,rfl,_,_,u,rfl,_⟩,rfl⟩:=r;rw[zza]at m q;refine⟨a,g,rfl,u,s,m,q,λl bs d L=>k h (.new d) ?_⟩;exact⟨l,bs,rfl,(lv.fresh d).1,(lv.fresh d).2,ae,(qa L).mv (.new d)⟩
omit [Frm] in
theorem fu{K:zwW}{pp:ca bn}{M:ab bn}{H:Hp}:∀{d:ab Int} {xs:ab V},Reps K pp M H (d.map D.int) xs->xs=d.map V.int
 |[],xs,h=>by simpa only[zyp,Reps]using h
 |n::r,xs,h=>by obtain⟨x,t,rfl,rfl,h⟩:=h;rw[fu h];rfl
noncomputable abbrev Ex(te:DE):DE:=λk Q=>te k λd h=>∃g:ab Int,d=.tup (g.map .int)/\g.length<=1000/\Q (.int (wj g)) h
theorem yV{s:DE}(E:X.calm=true)(J:Gl X "len")(U:X.mg "len" = none)(L:Gl X "set")(Y:X.mg "set" = none)(he:PED X e s)(d:starEach [e] X.env=(false,eval e X.env)::starEach [] X.env:=by rfl)(z:starEach [.Call (.Name "set" py) [e] [] tp] X.env=(false,eval (.Call (.Name "set" py) [e] [] tp) X.env)::starEach [] X.env:=by rfl)(hp:(backTo pos (starEach [] X.env)).any (·.1)=false:=by rfl)(hp':(backTo tp (starEach [] X.env)).any (·.1)=false:=by rfl) :
  PED X (.Call (.Name "len" p) [.Call (.Name "set" py) [e] [] tp] [] pos) (Ex s):=by
 obtain⟨T,Q,re⟩:=he;refine⟨_,fg yg J U zxM (aQ (gj (he:=d) (yf E) L Y rfl (aQ Q bD d)) bD z),λi h k=>re i h λh I u b=>?_⟩;obtain⟨q,rfl,G,C⟩:=h;obtain⟨a,xs,rfl,g,c⟩:=b;rw[fu c]at g;exact⟨a,q,rfl,g,G,λl S m=>⟨l,S,wj q,rfl,ae,k C (I.trans (.new m)) (u.sameP (.new m)) aR⟩⟩
def JZ(i:Nat)(E:DEnds)(ρ:DS)(d:D):Sl->Prop
 |.own g=>∃es,d=.lst es/\g.length+es.length<=sizeLine/\E.nx (ρ.set i (.own (g++es)))|_=>False
noncomputable abbrev dExt(i:Nat)(te:DE):DTS:=λE h=>yL (slot h i)/\te h λd g=>JZ i E g d (slot g i)
theorem Cv{o:dy}{I:DE}(B:PE X o (tVar i))(he:PED X e I)(J:attributeBase o "extend" X.env (eval o X.env)=eval o X.env:=by rfl)(Y:((backTo tp (starEach [e] X.env)).all (λx=>!x.1) && (backToKw tp (keywordEach [] X.env)).all (λx=>x.1.isSome)
   && decide ([e].length+([]:ab Keyword).length+(if ([]:ab Keyword).isEmpty then 0 else 1)<30))=true:=by rfl)(L:(py.endLine==tp.line)=true:=by rfl)(s:starEach [e] X.env=(false,eval e X.env)::starEach [] X.env:=by rfl)(j:(backTo tp (starEach [] X.env)).any (·.1)=false:=by rfl)(hs:swapsWith (.Call (.Attribute o "extend" py) [e] [] tp) none pos.line X.env=pure false:=by rfl):PSD X (.Expr (.Call (.Attribute o "extend" py) [e] [] tp) pos) (dExt i I):=by
 obtain⟨T,p,r⟩:=he;refine⟨_,mO (rF zxs PySem.F.slot_list_extend PySem.F.type_list_extend xK B (aQ p bD s) J Y L s j) hs,λ{F M H σ ρ E D} C h oo=>?_⟩;obtain⟨h0,h⟩:=h;obtain⟨ds,q⟩:=jl h0;obtain⟨_,U,l,xs,rfl,_,_,_,b,_⟩:=C.at (aD q);refine⟨.ref l,U,.inl ⟨rfl,xs,SqL.of b⟩,r C h λ{d g _ _ _} h m u rd=>?_⟩;cases z:slot g i<;>rw[z]at h<;>first|exact h.elim|skip
 obtain⟨es,rfl,Q,A⟩:=h;have g1:=aD z;obtain⟨l',w,y,_,_,_,a,k⟩:=u.sl i _ _ g1 U;cases y;obtain⟨c,zs,rfl,hc,_,n,G⟩:=rd;obtain⟨N,v⟩:=u.write g1 U (k.append G);exact⟨l,c,w,zs,rfl,rfl,a,n,by rw[←k.length,←G.length];exact Q,oo.nx (m.trans N) v A⟩
omit [Frm] in
theorem PL.mv(m:Mv K pp M H M' H'):∀{g:ab (ab Key×ab D)} {d:ab (ab Key×V)} {ls:ab bn},(∀b∈ls,∀o,H b=some o->H' b=some o)->PL K pp M H g d ls->PL K pp M' H' g d ls
 |[],d,ls,_,h=>h|p::ps,d,ls,k,h=>by obtain⟨l,xs,r,t,rfl,rfl,u,q,s⟩:=h;exact⟨l,xs,r,t,rfl,rfl,k l zze _ u,q.mv m,PL.mv m (λb J=>k b (zzb _ J)) s⟩
omit [Frm] in
theorem PL.snoc{k:ab Key}{es:ab D}{l:bn}{xs:ab V}(m:H l=some (.lst xs))(U:Reps K pp M H es xs):∀{g:ab (ab Key×ab D)} {d:ab (ab Key×V)} {ls:ab bn},PL K pp M H g d ls->PL K pp M H (g++[(k,es)]) (d++[(k,.ref l)]) (ls++[l])
 |[],d,ls,h=>by obtain⟨rfl,rfl⟩:=h;exact⟨l,xs,[],[],rfl,rfl,m,U,rfl,rfl⟩
 |p::ps,d,ls,h=>by obtain⟨Y,L,r,t,rfl,rfl,J,q,s⟩:=h;exact⟨Y,L,r++[(k,.ref l)],t++[l],rfl,rfl,J,q,PL.snoc m U s⟩
noncomputable def kb(k:ab Key)(d:D):ab (ab Key×ab D)->ab (ab Key×ab D)
 |[]=>[(k,[d])]|p::r=>if p.1=k then(p.1,p.2++[d])::r else p::kb k d r
section
noncomputable abbrev dSda(i jk J:Nat):DTS:=λE h=>∃(g:ab (ab Key×ab D)) (k:ab Key) (d:D),slot h i=.obj (dlO g)/\slot h jk=.val (keyD k)/\slot h J=.val d/\g.length<sizeLine/\(∀p∈g,p.2.length<sizeLine)/\E.nx (h.set i (.obj (dlO (kb k d g))))
omit [Frm] in
theorem PL.len{K:zwW}{pp:ca bn}{M:ab bn}{H:Hp}:∀{g:ab (ab Key×ab D)} {d:ab (ab Key×V)} {ls:ab bn},PL K pp M H g d ls->g.length=d.length
 |[],d,ls,h=>by rw[h.1];rfl
 |p::ps,d,ls,h=>by obtain⟨l,xs,r,t,rfl,rfl,hl,h1,k⟩:=h;simp[PL.len k]
variable{F:Fx}{ρ:DS}
theorem RSt.dlAt{g:ab (ab Key×ab D)}(Y:RSt K F M H σ ρ)(g1:ρ[i]?=some (.obj (dlO g))):∃a d ls,σ[i]?=some (some (.ref a))/\H a=some (.dT d)/\(a::ls).Nodup/\PL K F.pp M H g d ls/\∀b∈a::ls,b∈M/\F.H0 b=none/\F.pp≠some b:=by obtain⟨v0,A,J,h,U,L,_⟩:=Y.objAt g1;obtain⟨a,d,ls,rfl,hd,rfl,k⟩:=ro_dl.mp U;exact⟨a,d,ls,J,hd,h,k,L⟩
end
end
section
variable[Frm]
theorem Bn{k:Nat}{f:bn}{g:DSpN}{e:dy}{t:DA}(m:FnOk X.prog X.w X.K X.mg X.base CX0 k f fd ps (spDN X.K n g))(i:Room k X.A)(E:Gl X x)(b:X.mg x=some (.ref f))(G:PySem.W.keepIn X.K (.ref f)=true)(C:Binds X.K fd ps [])(d:PAD X (e::ifs) t)(U:(x==("__debug__" : Str))=false:=by decide)(he:starEach (e::ifs) X.env=(false,eval e X.env)::starEach ifs X.env:=by rfl)(Y:(backTo py (starEach ifs X.env)).any (·.1)=false:=by rfl) :
  PSsN X [.Return (some (.Call (.Name x p) (e::ifs) [] py)) pos] (λQ L ρ=>t ρ λds _=>ds.length=n/\g ds Q L):=by
 obtain⟨T,l,v⟩:=d;refine⟨_,dA (jv (mR m i E b G C .nil vW l U he Y)),λB q h=>v B q λq j J o=>?_⟩;rw[zzs];exact⟨_,_,_,_,_,J.liv,o,q.1,q.2,λq s r=>h.rt (j.trans s.mv) (J.sameP s) r q,λq s sub I c z u y=>h.nw (J.sameT.trans s) (λa d=>sub a (J.sub a d)) (J.h0 I) c z u y q⟩
end
def HE:D->D->(D->Prop)->Prop
 |.tup xs,.tup ys,P=>(xs.length+ys.length<=sizeLine)/\P (.tup (xs++ys))|_,_,_=>False
theorem Ey:OpD X (binaryOp .Add) HE:=by
 refine⟨_,Ea,λ{pp M H x y v u Q P} lv q s h k=>?_⟩;cases x<;>first|exact h.elim|skip
 cases y<;>first|exact h.elim|skip
 rename_i xs ys;have U:=q;have Y:=s;obtain⟨a,C,rfl,d,J⟩:=q;obtain⟨b,E,rfl,g,L⟩:=s;by_cases z:xs=[]
 ·subst z;have e:C=[]:=zzH.mp J.length.symm;subst e;exact .inr ⟨a,b,E,rfl,rfl,SqT.of d,SqT.of g,k h.2 .refl Y⟩
 ·obtain⟨I,h⟩:=h;refine .inl ⟨a,b,C,E,rfl,rfl,SqT.of d,SqT.of g,?_,by rw[←J.length,←L.length];exact I,λe=>?_,λe l m=>k h (.new m) ?_⟩
  ·rintro rfl;exact z (zzH.mp J.length)
  ·subst e;have G:ys=[]:=zzH.mp L.length;subst G;rw[zzs]at h;exact k h .refl U
  ·simp only[Rep];exact⟨l,_,rfl,ae,(J.append L).mv (.new m)⟩
section
variable[Frm]
noncomputable abbrev Ez(t:DA):DA:=λh Q=>t h λg d=>match g with
 |[.tup xs]=>Q (cK 0 xs) d|_=>False
theorem uP{I:DA}{k:Nat}(n:X.mg "enumerate" = none)(g:PAD X [l] I)(he:starEach [l] X.env=(false,eval l X.env)::starEach [] X.env:=by rfl)(Y:(backTo pos (starEach [] X.env)).any (·.1)=false:=by rfl)(j:Gl X "enumerate":=by rfl) :
  PID X (.Tuple ifs k tp) (.Call (.Name "enumerate" p) [l] [] pos) (Ez I):=by
 obtain⟨T,v,r⟩:=g;refine⟨_,AS j n v he Y,λw h k=>r w h λh m b J=>?_⟩;split at h
 case h_2=>exact h.elim
 rename_i s;obtain⟨x,r0,rfl,⟨a,xs,rfl,g,J⟩,rfl⟩:=J;refine⟨a,rfl,⟨xs,SqT.of g⟩,k h m b ⟨λE C q i d y H3 e A=>?_,λE C q i u=>?_,λE C q i u=>?_⟩⟩
 ·obtain⟨T,z,G,rfl,o,rfl⟩:=A;obtain⟨d',L,rfl⟩:=gA s 0 i d e;obtain⟨v',Q,c⟩:=J.get' L;have:=o xs (SqT.of (q.tup a xs g));rw[Q]at this;cases this;refine⟨.new G,?_⟩;exact⟨T,_,rfl,ae,.cons (by rw[Nat.zero_add];exact aR) (.one ((c.mv q).mv (.new G)))⟩
 ·have U:i<xs.length:=by rw[←J.length,←aM s 0];exact u
  exact⟨xs,xs[i],SqT.of (q.tup a xs g),by simp[U]⟩
 ·exact⟨xs,SqT.of (q.tup a xs g),by rw[←J.length,←aM s 0];exact u⟩
end
def HF(x y:D)(P:D->Prop):Prop:=match y with
 |.tup ys=>(dO x=true/\ys.all dO=true)/\P (.bl (!(ys.any λy=>eqF y x)))
 |.lst ys=>(dO x=true/\ys.all dO=true)/\P (.bl (!(ys.any λy=>eqF y x)))
 |_=>False
theorem jp:OpD X (compareOp .NotIn) HF:=by
 refine⟨_,oS,λ{pp M H x y v u Q P} _ J L h k=>?_⟩;cases y<;>first|exact False.elim h|skip
 ·obtain⟨a,g,rfl,d,r⟩:=L;obtain⟨g1,g2,g3⟩:=Be J h.1 r;refine⟨a,g,rfl,.inr (SqT.of d),g1,g2,?_⟩;rw[zzk rfl,g3];exact k h.2 .refl bJ
 ·obtain⟨a,g,rfl,hm,hp,d,r⟩:=L;obtain⟨g1,g2,g3⟩:=Be J h.1 r;refine⟨a,g,rfl,.inl (SqL.of d),g1,g2,?_⟩;rw[zzk rfl,g3];exact k h.2 .refl bJ
end DL
namespace DL
open PySem PySem.Spec L2
open PyProof.Rows hiding St
variable{C a x:bn}{N ps:ab Str}{e o:dy}{fd:ck}{fs':ab (Str×V)}{k n:Nat}{m:Str}{p p' p2 pos:Pos}{te to:DE}
variable{K:zwW}{pp:ca bn}{M:ab bn}{H H':Hp}{X:Cx}
theorem kc{c:Type}:∀{l:ab (bn×c)} {a:bn} {o:c},l.lookup a=some o->(a,o)∈l
 |[],_,_,e=>by cases e
 |(b,x)::r,a,o,e=>by
  rw[zym]at e;cases J:a==b with
  |true=>rw[J]at e;cases e;rw[eq_of_beq J];exact .head _
  |false=>rw[J]at e;exact .tail _ (kc e)
theorem EA{d:ab (bn×Str)}(K:zwW)(H:Hp)(a:bn)(c:ab Int)(g:∀b,H b=none∨(∃o xs,H b=some (.frz o (.lst xs)))∨H b=some (.tbl #[]))(J:∀P∈d.map (·.1),H P=some (.tbl #[]))(h:SqL K H a (c.map V.int)) :
  @spLaw ⟨d⟩ K [.ref a] H (λv _=>v=.bl true) λ_ _ _=>False:=by
 refine⟨a,c,rfl,?_,λP L e=>⟨#[],J P (zzf.mpr ⟨(P,L),kc e,rfl⟩),trivial,λpos cv z=>by cases z⟩,λ_=>rfl⟩;rcases h with (h|⟨o,h⟩)|h
 ·rcases g a with z|⟨o,xs,z⟩|z
  ·rw[z]at h;cases h
  ·rw[z]at h;cases h
  ·rw[z]at h;cases h
 ·exact .inl ⟨o,h⟩
 ·exact .inr λH'=>.inr h
theorem walk_ofT{l:PySem.W.OpenLaw}{q:ef}{E:(Str->ca bb)->cm->Prop}{y:World->cm->Prop}{d:DefRec}{K:Params->zwW}{x:Str}{B:ab bn}(hn:l.most=some n)(C:n<=sizeLine)(m:d.params.defaults=[])(hr:Room k callerA)(hY:∀(w:World) (h:cm),y w h->(K w.params).In h)(Q:∀(w:World) (h:cm),y w h->∀P∈B,h.get? P=some (PySem.W.tabObj #[]))(F:∀(w:World) (i:Str->ca bb) (j:bn) (h:cm),(K w.params).In h->h.Ns mainGlobals i->i d.name=some (.ref j) ->
   ∃(fd:ck) (r:ab (bn×Str)),(∀(s:bx) (u:bb),BindsTo s fd ⟨[u],[]⟩ [(x,u)])/\(∀q∈r,(∃c,PySem.W.codeHdIn (K w.params) c q.1=true)/\q.1∈B/\(K w.params).lookup q.1=none) /\
    ∀base:cm,(K w.params).In base->base.Ns mainGlobals i->Bm i base->FnOk l.prog w (K w.params) i base CX0 k j fd [x] (@spLaw ⟨r⟩ (K w.params))) :
  PySem.W.WalkO q ps E y l.row.toRowW d [] (λf vs=>PySem.call f vs):=by
 refine Att.attach_call hn m λw s₀ s₁ i mb j o pm cd doc a vs ns G Y ho hd hcd p I L U hg=>?_;have v:=hY w _ Y;obtain⟨fd,r,hb,ht,M⟩:=F w i j _ v G.T.g p;have A:∀P∈r.map (·.1),(∃c,PySem.W.codeHdIn (K w.params) c P=true)/\P∈B/\(K w.params).lookup P=none:=λP J=>by obtain⟨q,hq,rfl⟩:=zzf.mp J;exact ht q hq
 exact yq v G.T.g G.T.b G.T.builtins G.T.nolimit ⟨G.T.bmain⟩ hg I L (zzl U C) hr (λP J=>Q w _ Y P (A P J).2.1) (λP J=>let ⟨c,e⟩:=(A P J).1;⟨c,PySem.W.codeHd_of_K v e⟩) (λP J=>(A P J).2.2) M hb
  (λH N hT hS=>EA (K w.params) H a ns N hT hS) λH e s' z=>z
section
variable[TB]
theorem Ka{P:ef}{w:World}{K:zwW}{l:Str->ca bb}{base:cm}{st:Stmt}{f:bn}{x:Str}{t:DTS}{m:Stmt}{rest:ab Stmt}(C:Fun K "law" "law" st f fd)(S:FnScope N [x] (aj st))(hs:bN st=m::rest)(hN:2<=N.length)(M:∀(g:bb) (A:Around) (c:ab Env) (s:bx) (H:Hp) (E:XK),Room k (A.deeper (envOfC "law" (aj st) s.heap.objs.size f g))->PS (cxOf CX0 P w K l base N "law" (aj st) f g A c s H E).nox m (tAsg (Gn (Cf K) [] E0 (Gm (tVar 0) tNil)) (gName 1)))(hb:∀{g:bb} (_:g=fd.code) {A:Around} {c:ab Env} {s:bx} {H:Hp} {E:XK},Room k (A.deeper (envOfC "law" (aj st) s.heap.objs.size f g))->N.Nodup -> @PSsD _ Frm.free (cxOf CX0 P w K l base N "law" (aj st) f g A c s H E).nox rest t)(hg:t {nx:=λ_=>False,rt:=λd=>d=.bl true} (.nil :: .val .pen::List.replicate (N.length - 2) .nil)):FnOk P w K l base CX0 (k+1) f fd [x] (spLaw K):=by
 obtain⟨oc,od,kV,doc,pm,an,g,ct,osl,e,lk,L⟩:=C.ex;have U:g=fd.code:=by rw[e]
 subst e;refine Go lk L S (λn H Q E h=>?_) (λA c s H n Q E G h=>?_)
 ·obtain⟨a,v,rfl,_⟩:=h;rfl
 ·suffices hh:∃t,PSs (cxOf CX0 P w K l base N "law" (aj st) f g A c s H E).nox (bN st) t/\t {nx:=λ_ H'=>Q .non H',rt:=Q} (L2.start N n) H by
   obtain⟨t,a,b⟩:=hh;exact⟨t,a.nox,b⟩
  obtain⟨a,v,rfl,Y,hT,h⟩:=h;rw[hs];refine⟨_,aU (u:=λD y H'=>∃p:bn,@RSt _ Frm.free K ⟨some p,[],H'⟩ [] H' y (.nil :: .val .pen::List.replicate (N.length - 2) .nil)/\∀r,D.rt (.bl true) r) (M g A c s H E G) ?_,?_⟩
  ·intro j s' y H' D I ⟨p,rs,q⟩;obtain⟨T,pT,run⟩:=hb U G S.nd;refine pT j s' y H' D I (run rs hg ⟨λ_ _ q=>q.elim,λ_ _ q=>q.elim,λ_ _ q=>q.elim,λ_ _ rd e=>?_⟩);subst e;subst rd;exact q _
  ·refine⟨.ref a,?_,a,v,rfl,Y,λp H' hp pen sm=>⟨p,⟨?_,λi s o J B=>?_,OwF.none (λi s J=>?_),λa z=>by simp at z,.refl,λa z=>by simp at z,⟨λa z=>by simp at z,λq e=>?_⟩,⟨trivial,hT.of λb o e _=>sm b o e⟩⟩,h⟩⟩
   ·simp[L2.start]
   ·simp[L2.start];lia
   ·match i,J with
    |0,J=>simp at J;subst J;trivial|1,J =>
     simp at J;subst J;have hi:1<(L2.start N [V.ref a]).length:=by simp[L2.start];lia
     simp[hi]at B;subst B;refine⟨_,rfl,?_⟩;exact⟨p,rfl,rfl,a,v,0,0,pen⟩
    |i+2,J =>
     have:=zyG (zyb (by simpa using J));subst this;trivial
   ·have:=zyb J;simp at this;rcases this with rfl|rfl|⟨_,rfl⟩<;>exact⟨λds z=>(by cases z),λq z=>(by cases z)⟩
   ·cases e;rw[pen.lst];intro z;cases z
end
variable[TB]
theorem Mv.more{A:ab bn}(m:Mv K pp M H M H')(J:∀a∈A,H a=none):Mv K pp M H (A++M) H' :=
 ⟨m.tup,λa o e n q=>⟨(m.oth a o e n q).1,λz=>(zzA.mp z).elim (λz=>by rw[J a z]at e;cases e) (λz=>n z)⟩,m.pen,m.tb⟩
theorem HG:OpD X (binaryOp .LShift) (g2I CPow λi j=>.int (i*2^j.toNat)):=.ofI Gb λ_ _ _ _ _=>aR
theorem HH:OpD X (binaryOp .RShift) (g2I (λ_ j=>0<=j) λi j=>.int (i / 2^j.toNat)):=.ofI Gc λ_ _ _ _ _=>aR
theorem EC:OpD X (binaryOp .BitAnd) (g2I0 λi j=>.int (Builtin.bitAnd i j)):=.ofI0 Gd λ_ _ _ _ _=>aR
section
section
structure Dz(H H':Hp):Prop where
 oth:∀a u,H a=some u->(∀k,u ≠ .dT k)->(∀o k,u ≠ .frz o (.dT k))->H' a=some u
 dts:∀a k,Rd H a (.dT k)->Rd H' a (.dT k)
theorem Dz.pen(z:Dz H H'){p:bn}{b:ab Int}{t l:Int}(q:Pen K H p a b t l):Pen K H' p a b t l:=by
 refine⟨z.oth _ _ q.lst (by simp) (by simp),?_,q.t0⟩;rcases q.scr with ⟨c,r⟩|r
 ·exact .inl ⟨c,z.oth _ _ r (by simp) (by simp)⟩
 ·exact .inr r
mutual
theorem Rep.dz(z:Dz H H'):∀(x:D) (v:V),Rep K pp M H x v->Rep K pp M H' x v
 |.non,_,h=>by simp only[Rep]at h ⊢;exact h
 |.bl _,_,h=>by simp only[Rep]at h ⊢;exact h
 |.int _,_,h=>by simp only[Rep]at h ⊢;exact h
 |.str _,_,h=>by simp only[Rep]at h ⊢;exact h
 |.ty _,_,h=>by simp only[Rep]at h ⊢;exact h
 |.tup c,_,h=>by simp only[Rep]at h ⊢;obtain⟨a,b,J,d,g⟩:=h;exact⟨a,b,J,z.oth _ _ d (by simp) (by simp),Reps.dz z c b g⟩
 |.lst c,_,h=>by simp only[Rep]at h ⊢;obtain⟨a,b,J,h0,L,d,g⟩:=h;exact⟨a,b,J,h0,L,z.oth _ _ d (by simp) (by simp),Reps.dz z c b g⟩
 |.dT ks c,_,h=>by simp only[Rep]at h ⊢;obtain⟨a,b,J,h0,L,d,g,i⟩:=h;exact⟨a,b,J,h0,L,z.dts _ _ d,g,Reps.dz z c _ i⟩
 |.pen,_,h=>by simp only[Rep]at h ⊢;obtain⟨p,J,U,a,j,t,l,q⟩:=h;exact⟨p,J,U,a,j,t,l,z.pen q⟩
 |.cls _,_,h=>by simp only[Rep]at h ⊢;exact h
 |.ins C j c,_,h=>by simp only[Rep]at h ⊢;obtain⟨a,dx,b,J,h0,L,d,g,i⟩:=h;exact⟨a,dx,b,J,h0,L,z.oth _ _ d (by simp) (by simp),g,Reps.dz z c _ i⟩
theorem Reps.dz(z:Dz H H'):∀(ds:ab D) (xs:ab V),Reps K pp M H ds xs->Reps K pp M H' ds xs
 |[],_,h=>by simp only[Reps]at h ⊢;exact h
 |x::ds,_,h=>by simp only[Reps]at h ⊢;obtain⟨y,r,J,b,c⟩:=h;exact⟨y,r,J,Rep.dz z x y b,Reps.dz z ds r c⟩
end
variable{d:bn}{kvs:ab (ab Key×V)}{o:Obj}
theorem Dz.fz(e:H d=some (.dT kvs)):Dz H (upd H d (.frz o (.dT kvs))) :=
 ⟨λa u h J _=>by rw[af (by rintro rfl;rw[e]at h;cases h;exact J _ rfl)];exact h,λa k h=>by
  by_cases z:a=d
  ·subst z;rcases h with h|⟨b,h⟩<;>(rw[e]at h;cases h)
   exact .inr ⟨o,ae⟩
  ·rcases h with h|⟨b,h⟩
   ·exact .inl (by rw[af z];exact h)
   ·exact .inr ⟨b,by rw[af z];exact h⟩⟩
theorem Dz.th(e:H d=some (.frz o (.dT kvs))):Dz H (upd H d (.dT kvs)) :=
 ⟨λa u h _ J=>by rw[af (by rintro rfl;rw[e]at h;cases h;exact J _ _ rfl)];exact h,λa k h=>by
  by_cases z:a=d
  ·subst z;rcases h with h|⟨b,h⟩<;>(rw[e]at h;cases h)
   exact .inl ae
  ·rcases h with h|⟨b,h⟩
   ·exact .inl (by rw[af z];exact h)
   ·exact .inr ⟨b,by rw[af z];exact h⟩⟩
end
variable[Frm]
def g2S(C:Str->Str->Prop)(f:Str->Str->D):D->D->(D->Prop)->Prop
 |.str i,.str j,P=>C i j/\P (f i j)|_,_,_=>False
theorem uQ:OpD X (compareOp .LtE) (g2S (λ_ _=>True) λi j=>.bl (!decide (j.cps.toList<i.cps.toList))):=by
 refine⟨_,yt,λ{pp M H x y v u Q P} _ J L h k=>?_⟩;cases x<;>first|exact h.elim|skip
 cases y<;>first|exact h.elim|skip
 exact⟨_,_,J,L,k h.2 .refl bJ⟩
theorem bf:OpD X (binaryOp .Add) (g2S (λi j=>i.length+j.length<=sizeLine) λi j=>.str (i++j)):=by
 refine⟨_,vP,λ{pp M H x y v u Q P} _ J L h k=>?_⟩;cases x<;>first|exact h.elim|skip
 cases y<;>first|exact h.elim|skip
 exact⟨_,_,J,L,h.1,k h.2 .refl fS⟩
def gIxS:D->D->(D->Prop)->Prop
 |.str z,.int i,P=>z.length<=sizeLine/\∃c,atI z.cps.toList i=some c/\P (.str ⟨#[c]⟩)|_,_,_=>False
theorem yW{a b:dy}(j:PED X a te)(J:PED X b to)(hs:eO b):PED X (.Subscript a b pos) (dOp gIxS te to):=by
 obtain⟨Ta,L,Y⟩:=j;obtain⟨Tb,U,l⟩:=J;refine⟨_,kZ Gr L U hs,ig (λ{pp M H x y v u Q P} _ q r h k=>?_) Y l⟩;cases x<;>first|exact h.elim|skip
 cases y<;>first|exact h.elim|skip
 obtain⟨d,c,g,i⟩:=h;exact⟨_,_,c,q,r,d,g,k i .refl fS⟩
noncomputable abbrev dSlS(te:DE)(tl th:DO):DE:=λc Q=>te c λx J=>tl J λlo L=>th L λb U=>∃z,x=.str z/\z.length<=sizeLine/\Q (.str (Txt.slice z lo b)) U
theorem HI{lo b:ca dy}{tl th:DO}(he:PED X e te)(d:POD X lo tl)(c:POD X b th):PED X (.Subscript e (.Slice lo b none p2) pos) (dSlS te tl th):=by obtain⟨T,p,r⟩:=he;obtain⟨Tl,q,v⟩:=d;obtain⟨Th,l,u⟩:=c;refine⟨_,ui GS p q l,λw h k=>r w h λh g J s=>v J h λh i L=>u L h λh j U=>?_⟩;obtain⟨z,rfl,Y,h⟩:=h;exact⟨z,s,Y,k h ((g.trans i).trans j) U fS⟩
def HJ:DSp:=λb P=>match b with
 |[.str z]=>z.length<=sizeLine/\P (.int z.length)|_=>False
theorem sE:CallD X (.builtin "len") HJ:=by
 refine⟨_,oT,λ{pp M H ds vs Q P} _ r h k=>?_⟩;unfold HJ at h;split at h
 case h_2=>exact h.elim
 obtain⟨x,r,rfl,rfl,rfl⟩:=r;exact⟨_,rfl,h.1,k h.2 .refl aR⟩
def HK:DSp:=λb P=>match b with
 |[.int i]=>i.natAbs.log2<1920/\P (.str (toString i))|_=>False
theorem dF:CallD X (.type "str") HK:=by
 refine⟨_,oM,λ{pp M H ds vs Q P} _ r h k=>?_⟩;unfold HK at h;split at h
 case h_2=>exact h.elim
 obtain⟨x,r,rfl,rfl,rfl⟩:=r;exact⟨_,rfl,h.1,k h.2 .refl fS⟩
def HL:DSp:=λb P=>match b with
 |[.str z]=>z.length<=640/\∃n,intText? z=some n/\P (.int n)|_=>False
theorem yX:CallD X (.type "int") HL:=by
 refine⟨_,pN,λ{pp M H ds vs Q P} _ r h k=>?_⟩;unfold HL at h;split at h
 case h_2=>exact h.elim
 obtain⟨x,r,rfl,rfl,rfl⟩:=r;obtain⟨b,n,c,d⟩:=h;exact⟨_,n,rfl,c,b,k d .refl aR⟩
omit [Frm] in
theorem kf{K:zwW}{pp:ca bn}{M:ab bn}{H:Hp}:∀{b:ab Str} {xs:ab V},Reps K pp M H (b.map D.str) xs->xs=b.map V.str
 |[],xs,h=>by simpa only[zyp,Reps]using h
 |n::b,xs,h=>by obtain⟨x,r,rfl,rfl,c⟩:=h;rw[kf c,zzj]
noncomputable abbrev Kb(to te:DE):DE:=λc Q=>to c λx J=>∃z,x=.str z/\te J λy L=>∃b:ab Str,(y=.lst (b.map .str)/\JoinOk z b=true)/\Q (.str (Txt.join z b)) L
theorem bW(j:PED X o to)(he:PED X e te)(J:attributeBase o "join" X.env (eval o X.env)=eval o X.env:=by rfl)(U:((backTo p (starEach [e] X.env)).all (λx=>!x.1) && (backToKw p (keywordEach [] X.env)).all (λx=>x.1.isSome)
   && decide ([e].length+([]:ab Keyword).length+(if ([]:ab Keyword).isEmpty then 0 else 1)<30))=true:=by rfl)(L:(pos.endLine==p.line)=true:=by rfl)(Y:starEach [e] X.env=(false,eval e X.env)::starEach [] X.env:=by rfl)(d:(backTo p (starEach [] X.env)).any (·.1)=false:=by rfl) :
  PED X (.Call (.Attribute o "join" pos) [e] [] p) (Kb to te):=by
 obtain⟨To,po,v⟩:=j;obtain⟨Te,r,re⟩:=he;refine⟨_,rF PySem.F.plainAttrs_str PySem.F.slot_str_join PySem.F.type_str_join Ee po (aQ r bD Y) J U L Y d,λw h k=>v w h λh l g s=>?_⟩;obtain⟨z,rfl,h⟩:=h;subst s;refine⟨rfl,re g h λh q i u=>?_⟩;obtain⟨A,⟨rfl,b⟩,h⟩:=h;obtain⟨a,xs,rfl,_,_,c,y⟩:=u;rw[kf y]at c;exact⟨z,a,A,rfl,rfl,SqL.of c,b,k h (l.trans q) i fS⟩
noncomputable abbrev HM(to te:DE):DA:=λb Q=>to b λx J=>∃z,x=.str z/\te J λy L=>∃w,(y=.str w/\(w.length==0)=false/\z.length+2<=sizeLine)/\Q ((Txt.split z w).map .str) L
omit [Frm] in
theorem qb{K:zwW}{pp:ca bn}{M:ab bn}{H:Hp}:∀{b:ab Str},Reps K pp M H (b.map D.str) (b.map V.str)
 |[]=>by simp only[zyp,Reps]
 |n::b=>by exact⟨_,_,rfl,fS,qb⟩
theorem gG(i:PED X o to)(he:PED X e te)(J:attributeBase o "split" X.env (eval o X.env)=eval o X.env:=by rfl)(U:((backTo p (starEach [e] X.env)).all (λx=>!x.1) && (backToKw p (keywordEach [] X.env)).all (λx=>x.1.isSome)
   && decide ([e].length+([]:ab Keyword).length+(if ([]:ab Keyword).isEmpty then 0 else 1)<30))=true:=by rfl)(L:(pos.endLine==p.line)=true:=by rfl)(Y:starEach [e] X.env=(false,eval e X.env)::starEach [] X.env:=by rfl)(b:(backTo p (starEach [] X.env)).any (·.1)=false:=by rfl) :
  PLD X (.Call (.Attribute o "split" pos) [e] [] p) (HM to te):=by
 obtain⟨To,po,A⟩:=i;obtain⟨Te,u,re⟩:=he;refine⟨_,rF PySem.F.plainAttrs_str PySem.F.slot_str_split PySem.F.type_str_split AU po (aQ u bD Y) J U L Y b,λB h k=>A B h λh r c v=>?_⟩;obtain⟨z,rfl,h⟩:=h;subst v;refine⟨rfl,re c h λh s d y=>?_⟩;obtain⟨w,⟨rfl,j,q⟩,h⟩:=h;subst y;exact⟨z,w,rfl,rfl,j,q,λl g=>k h (r.trans s) d g qb⟩
noncomputable def nJ(z:Str):ab D:=z.cps.toList.map λc=>.str ⟨#[c]⟩
noncomputable abbrev Kc(te:DE):DA:=λc Q=>te c λd b=>∃z,d=.str z/\Q (nJ z) b
theorem Cw{l:dy}(s:PED X l te):PID X e l (Kc te):=by
 obtain⟨T,p,r⟩:=s;refine⟨_,GT p,λ{F M H σ ρ Q P} u h k=>r u h λ{d ρ' M' H' v} h m J Y=>?_⟩;obtain⟨z,rfl,h⟩:=h;refine⟨z,Y,k h m J (ItOkV.of (vs:=z.cps.toList.map λc=>V.str ⟨#[c]⟩) ⟨λj g q i x H3 e1 y=>?_,λj g q i b=>?_,λj g q i b=>?_⟩ ?_)⟩
 ·obtain⟨rfl,c,L,rfl⟩:=y;exact⟨rfl,by rw[zzr,zxL,L];rfl⟩
 ·show i<z.cps.size;simpa using b
 ·show z.cps.size<=i;simpa using b
 ·unfold nJ
  induction z.cps.toList with
  |nil=>simp only[zyp,Reps]|cons c cs U =>
   exact⟨_,_,rfl,fS,U⟩
noncomputable abbrev Bo(te:DE):DE:=λg Q=>te g λd c=>∃b:ab Str,d=.lst (b.map .str)/\b.length<=1000/\Q (.int (metS b).length) c
theorem wx(q:X.calm=true)(J:Gl X "len")(U:X.mg "len" = none)(L:Gl X "set")(Y:X.mg "set" = none)(he:PED X e te)(b:starEach [e] X.env=(false,eval e X.env)::starEach [] X.env:=by rfl)(i:starEach [.Call (.Name "set" p') [e] [] p2] X.env=(false,eval (.Call (.Name "set" p') [e] [] p2) X.env)::starEach [] X.env:=by rfl)(hp:(backTo pos (starEach [] X.env)).any (·.1)=false:=by rfl)(hp':(backTo p2 (starEach [] X.env)).any (·.1)=false:=by rfl) :
  PED X (.Call (.Name "len" p) [.Call (.Name "set" p') [e] [] p2] [] pos) (Bo te):=by
 obtain⟨T,u,re⟩:=he;refine⟨_,fg yx J U zxM (aQ (gj (he:=b) (yw q) L Y rfl (aQ u bD b)) bD i),λy h k=>re y h λh s g v=>?_⟩;obtain⟨z,rfl,r,j⟩:=h;obtain⟨a,xs,rfl,_,_,c,w⟩:=v;rw[kf w]at c;exact⟨a,z,rfl,SqL.of c,r,λl d=>⟨l,_,rfl,ae,k j (s.trans (.new d)) (g.sameP (.new d)) aR⟩⟩
def gGtP:D->D->(D->Prop)->Prop:=λx y P=>∃c i b j,(x=.tup [.tup (c.map .int),.int i]/\y=.tup [.tup (b.map .int),.int j])/\P (.bl (gtP c i b j))
theorem HN(g:Room k X.A):OpD X (compareOp .Gt) gGtP:=by refine⟨_,GU (by have:=g.units;lia),λ_ s u h k=>?_⟩;obtain⟨r,i,l,j,⟨rfl,rfl⟩,h⟩:=h;obtain⟨a,xs,rfl,c,x1,r1,rfl,⟨p,ys,rfl,U,J⟩,x2,r2,rfl,rfl,rfl⟩:=s;obtain⟨b,us,rfl,d,y1,s1,rfl,⟨q,zs,rfl,Y,L⟩,y2,s2,rfl,rfl,rfl⟩:=u;rw[fu J]at U;rw[fu L]at Y;exact⟨a,b,p,q,r,l,i,j,rfl,rfl,SqT.of c,SqT.of d,SqT.of U,SqT.of Y,k h .refl bJ⟩
end
noncomputable def fldD:ab Str->ab D->Str->ca D
 |n::c,d::b,f=>if f=n then some d else fldD c b f
 |_,_,_=>none
theorem uR{K:zwW}{pp:ca bn}{M:ab bn}{H:Hp}{f:Str}{d:D}:∀{fs:ab (Str×V)} {ds:ab D},Reps K pp M H ds (fs.map (·.2))->fldD (fs.map (·.1)) ds f=some d->∃v,fs.lookup f=some v/\Rep K pp M H d v
 |[],ds,_,h=>by cases ds<;>simp[fldD]at h
 |p::fs,[],_,h=>by simp[fldD]at h
 |p::fs,x::ds,r,h=>by
  obtain⟨y,r',e,b,c⟩:=r;injection e with J L;subst J L;simp only[zzj,fldD]at h;by_cases z:f=p.1
  ·rw[zzk z]at h;cases h;exact⟨p.2,by rw[zym,z];simp,b⟩
  ·rw[zzh z]at h;obtain⟨v,e,q⟩:=uR c h;refine⟨v,?_,q⟩;rw[zym];have:(f==p.1)=false:=by simpa using z
   rw[this];exact e
theorem qc{m:Str}:∀{fs:ab (Str×V)},m∉fs.map (·.1)->fs.lookup m=none
 |[],_=>rfl|p::fs,h=>by
  rw[zym];have:(m==p.1)=false:=by have:m≠p.1:=λz=>h (by rw[z];simp);simpa using this
  rw[this];exact qc λz=>h (zzb _ z)
section
variable[Frm]
noncomputable abbrev dFld(K:zwW)(te:DE)(f:Str):DE:=λg Q=>te g λd J=>∃C c b L,d=.ins C c b/\Cls K C/\NoAttr K C f/\fldD c b f=some L/\Q L J
theorem Cy{K:zwW}{f:Str}(c:K=X.K)(he:PED X e te)(d:attributeBase e f X.env (eval e X.env)=eval e X.env):PED X (.Attribute e f pos) (dFld K te f):=by subst c;obtain⟨T,l,re⟩:=he;refine⟨tFld X.K T f,Gk l d,λs q k=>re s q λq j J r=>?_⟩;obtain⟨C,ns,ds,d',rfl,g,i,h,q⟩:=q;obtain⟨a,dx,fs,rfl,h1,h2,b,rfl,Y⟩:=r;obtain⟨v,L,U⟩:=uR Y h;exact⟨a,C,dx,fs,v,rfl,b,g,i,L,k q j J U⟩
noncomputable abbrev Kd(C:bn)(m:Str)(n:Nat)(g:DSp)(to:DE)(t:DA):DE:=λi Q=>to i λd J=>∃c h,d=.ins C c h/\m∉c/\t J λb L=>b.length+1=n/\g (d::b) λU=>Q U L
theorem kg{H:Sem Bool}{f:bn}{g:DSp}{e:dy}{b:ab dy}{t:DA}(j:FnOk X.prog X.w X.K X.mg X.base CX0 k f fd ps (spD X.K n g))(G:Room k X.A)(c:Cls X.K C)(z:Meth X.K C m f)(y:Binds X.K fd ps [])(E:PED X o to)(v:PAD X (e::b) t)(U:starEach (e::b) X.env=(false,eval e X.env)::starEach b X.env:=by rfl)(L:(backTo pos (starEach b X.env)).any (·.1)=false:=by rfl)(I:eval (.Call (.Attribute o m p) (e::b) [] pos) X.env=(do
   let h ←eval o X.env
   standAt p.atName
   let (f,first) ←holding [h] (getMethod h m H)
   callWith pos f first (backTo pos (starEach (e::b) X.env)) (backToKw pos (keywordEach [] X.env))):=by rfl) :
  PED X (.Call (.Attribute o m p) (e::b) [] pos) (Kd C m n g to t):=by
 obtain⟨To,po,ro⟩:=E;obtain⟨T,x,N⟩:=v;refine⟨_,Dv po c z j G y .nil vW x U L I,λrs q k=>ro rs q λq Q l i=>?_⟩;obtain⟨ns,ds,rfl,B,q⟩:=q;have Y:=i;obtain⟨a,dx,fs,rfl,h1,h2,u,rfl,h4⟩:=i;refine⟨a,dx,fs,rfl,u,qc B,N l q λq d J M=>?_⟩;rw[zzs];exact⟨_,_,_::_,_,J.liv,.cons (Y.mv d) M,by simpa using q.1,q.2,λq s r=>k q ((Q.trans d).trans s.mv) (J.sameP s) r⟩
omit [Frm] in
theorem ED{K:zwW}{H:Hp}{p dx:bn}{fs:ab (Str×V)}(J:H x=some (.ins C dx fs)):(∃a b t k,Pen K H p a b t k)->∃a b t k,Pen K (upd H x (.ins C dx fs')) p a b t k:=by
 rintro⟨a,b,t,k,h⟩;refine⟨a,b,t,k,?_,?_,h.t0⟩
 ·rw[af (by rintro rfl;have:=h.lst;rw[J]at this;cases this)];exact h.lst
 ·rcases h.scr with ⟨o,e⟩|e
  ·refine .inl ⟨o,?_⟩;rw[af (by rintro rfl;rw[J]at e;cases e)];exact e
  ·exact .inr e
omit [Frm] in
theorem EE{fs:ab (Str×V)}:¬TF (.ins C a fs):=by rintro(⟨_,e⟩|⟨_,_,e⟩)<;>cases e
omit [Frm] in
theorem Mv.ins{K:zwW}{pp:ca bn}{M:ab bn}{H:Hp}{x C dx:bn}{fs fs':ab (Str×V)}(J:H x=some (.ins C dx fs))(b:x∈M):Mv K pp M H M (upd H x (.ins C dx fs')) :=
 ⟨λa L e=>by rw[af (by rintro rfl;rw[J]at e;cases e)];exact e,λa L e n _=>⟨by rw[af (by rintro rfl;exact n b)];exact e,n⟩,λ_ _ h=>ED J h,λt=>t.upd J EE⟩
def spMk(K:zwW)(C:bn)(ns:ab Str)(g:D->(ab D->Prop)->Prop):Sp:=λh H Q _=>∃pp M d x dx v P,h=[.ref x,v]/\(H x=some (.ins C dx [])/\x∈M/\pp≠some x)/\Lv pp M H/\Rep K pp M H d v /\
 g d P/\∀{c H' fs},P c->(∀b o,b≠x->H b=some o->NW pp b o->H' b=some o)->(∀p,pp=some p->(∃a ns t l,Pen K H p a ns t l)->∃a ns t l,Pen K H' p a ns t l)->(∀b,H b≠none->H' b≠none)->Tabs H'->H' x=some (.ins C dx fs)->fs.map (·.1)=ns->Reps K pp M H' c (fs.map (·.2))->Q .non H'
noncomputable abbrev Ke(C:bn)(ns:ab Str)(g:D->(ab D->Prop)->Prop)(te:DE):DE:=λc Q=>te c λd J=>g d λb=>Q (.ins C ns b) J
theorem EF{f:bn}{g:D->(ab D->Prop)->Prop}{x:Str}(M:Mk X.K C f)(s:FnOk X.prog X.w X.K X.mg X.base CX0 k f fd ps (spMk X.K C N g))(hr:Room (k+1) X.A)(I:Gl X x)(hm:X.mg x=some (.ref C))(L:Binds X.K fd ps [])(he:PED X e te)(y:(x==("__debug__" : Str))=false:=by decide)(U:starEach [e] X.env=(false,eval e X.env)::starEach [] X.env:=by rfl)(E:(backTo pos (starEach [] X.env)).any (·.1)=false:=by rfl) :
  PED X (.Call (.Name x p) [e] [] pos) (Ke C N g te):=by
 obtain⟨T,pe,re⟩:=he;refine⟨_,Dw M s hr I hm L .nil vW (aQ pe bD U) y U E,λ{F M H σ ρ Q P} rs q k=>re rs q λ{d ρ1 i c v} q m1 J r1=>?_⟩;intro x dx Y B ne;have j:=J.liv.fresh Y;have u:(upd c dx (.own x)) x=none:=by rw[af (Ne.symm ne)];exact Y
 have s0:SameP X.K F.pp c (upd (upd c dx (.own x)) x (.ins C dx [])):=(SameP.new B).trans (.new u);have mm:Mv X.K F.pp i c (x::i) (upd (upd c dx (.own x)) x (.ins C dx [])):=(s0.mv).more λb L=>by rw[zzG.mp L];exact Y
 have lv:Lv F.pp (x::i) (upd (upd c dx (.own x)) x (.ins C dx [])):=by
  refine⟨⟨λa l=>?_,λp e=>s0.live p (J.liv.p p e)⟩,s0.tb J.lk.t⟩;rcases zzi.mp l with rfl|l
  ·rw[ae];intro z;cases z
  ·exact s0.live a (J.liv.m a l)
 refine⟨F.pp,x::i,d,x,dx,v,_,rfl,⟨ae,zze,j.2⟩,lv,r1.mv mm,q,λ{ds H' fs} q k1 k2 k3 k4 k5 k6 k7=>⟨rfl,?_⟩⟩;have r:SameP X.K F.pp c H':=by
  refine⟨⟨λb o e n=>?_,λp e h=>k2 p e (s0.pen p e h),λb L=>k3 b (s0.live b L)⟩,λ_=>k4⟩;have G:b≠x:=by rintro rfl;rw[Y]at e;cases e
  exact k1 b o G (s0.keep b o e n) n
 refine k q (m1.trans r.mv) (J.sameP r) ?_;exact⟨x,dx,fs,rfl,j.1,j.2,k5,k6,k7.mv (.less λb L=>zzb _ L)⟩
end
end DL
namespace DL
open PySem PySem.Spec L2
open PyProof.Rows hiding St
open PyProof.Rows.KTD
variable[TB]
variable{a e:dy}{h:cm}{p pos:Pos}{ta te:DE}
def TabK(K:zwW)(a:bn)(D:ab (Str×Dat)):Prop:=tabLook (datLooks λb=>List.lookup b K) (λb=>List.lookup b K) a D=true
def BT(base:cm)(t:bn)(ds:ab PyData):Prop:=∃b,IsTup base t (List.toArray b)/\Flats b ds/\ds.length<=1000
theorem TabK.here{K:zwW}{a:bn}{D:ab (Str×Dat)}(k:TabK K a D)(c:K.In h):TextTab h a D:=text_of_look (λb o e=>c b o e) k
noncomputable def ofPy:PyData->ca D
 |.int i=>some (.int i)|.none=>some .non|_=>none
noncomputable def wy:PyData->V
 |.int i=>.int i|_=>.non
theorem Cz{v:bb}{d:PyData}{x:D}(f:PyProof.V.Flat v d)(e:ofPy d=some x):RelV (wy d) v/\∀(K:zwW) (pp:ca bn) (M:ab bn) (H:Hp),Rep K pp M H x (wy d):=by
 cases d<;>simp only[ofPy,zwp,reduceCtorEq]at e
 ·subst e;have:=f default;cases this;exact⟨rfl,λ_ _ _ _=>by simp only[Rep,wy]⟩
 ·subst e;have:=f default;cases this;exact⟨⟨_,rfl⟩,λ_ _ _ _=>by simp only[Rep,wy]⟩
theorem nK:∀{vs:ab bb} {ds:ab PyData} {i:Nat} {d:PyData},Flats vs ds->ds[i]?=some d->∃v,vs[i]?=some v/\PyProof.V.Flat v d
 |_,_,_,_,.nil,h=>by simp at h
 |v::vs,d::ds,0,_,.cons f _,h=>by simp at h;subst h;exact⟨v,rfl,f⟩
 |v::vs,d::ds,i+1,_,.cons _ r,h=>by obtain⟨u,e,q⟩:=nK r (by simpa using h);exact⟨u,by simpa using e,q⟩
theorem yY:∀{vs:ab bb} {ds:ab PyData},Flats vs ds->vs.length=ds.length:=by
 intro vs ds h
 induction h with
 |nil=>rfl|cons _ r J=>simp[J]
theorem uS{J:cm}{k:Str}{P:bb->Prop}{d:Dat}:∀{D:ab (Str×Dat)},datumAt k D=some d->Opened J P d->EachL J k P D
 |[],_,_=>trivial|[(x,e)],h,o=>λz=>by simp only[datumAt]at h;rw[zzk (zzp z)]at h;cases h;exact o
 |(x,e)::p::D,h,o=>by
  by_cases z:k=x
  ·simp only[datumAt]at h;rw[zzk (zzp z)]at h;cases h;exact eachL_hit z o
  ·simp only[datumAt]at h;rw[zzh (by simpa using z)]at h;exact eachL_miss z (uS h o)
section
variable[Frm]{X:Cx}
def EG(K:zwW):D->D->(D->Prop)->Prop
 |.str k,.cls a,P=>∃D,TabK K a D/\P (.bl (!inKeys k D))|_,_,_=>False
theorem sF{K:zwW}(Y:K=X.K):OpD X (compareOp .NotIn) (EG K):=by
 subst Y;refine⟨λx y H Q=>∃k a D,x=.str k/\y=.ref a/\TabK X.K a D/\Q (.bl (!inKeys k D)) H,λpins s σ H x y v u Q I J L h=>?_,λ{pp M H x y v u Q P} _ J L h k=>?_⟩
 ·obtain⟨k,a,D,rfl,rfl,U,q⟩:=h;obtain⟨t,rfl⟩:=J;cases L;exact notin_text ⟨U.here I.mod.kin,I.bk⟩ ⟨.bl _,H,I.tok _,rfl,q⟩
 ·cases x<;>first|exact h.elim|skip
  cases y<;>first|exact h.elim|skip
  obtain⟨D,a,b⟩:=h;exact⟨_,_,D,J,L,a,k b .refl bJ⟩
noncomputable abbrev HP(K:zwW)(base:cm)(a:bn)(te:DE):DE:=λc Q=>te c λx J=>∃k D b,x=.str k/\TabK K a D/\inKeys k D=true/\datumAt k D=some (.tup b)/\b.length<=1000/\∀t,BT base t b->Q (.cls t) J
theorem Bp{K:zwW}{base:cm}{a:bn}{x:Str}(r:K=X.K)(n:base=X.base)(z:Gl X x)(B:X.mg x=some (.ref a))(he:PED X e te)(hs:eO e)(hd:(x==("__debug__" : Str))=false:=by decide) :
  PED X (.Subscript (.Name x p) e pos) (HP K base a te):=by
 subst r n;obtain⟨T,G,re⟩:=he;refine⟨λg H Q=>T g H λy i=>∃k D c,y=.str k/\TabK X.K a D/\inKeys k D=true/\datumAt k D=some (.tup c)/\c.length<=1000/\∀t,BT X.base t c->Q (.ref t) i,λd s g H Q I h=>?_,λrs q C=>re rs q λq E Y N=>?_⟩
 ·refine Subscript_ (mL I z B ?_ hd);refine thn (G d s g H _ I h) λu s2 M=>?_;obtain⟨y,j,J,ry,q⟩:=M;obtain⟨k,D,c,rfl,o,U,L,A,q⟩:=q;obtain⟨t,rfl⟩:=ry;refine item_text ⟨o.here J.mod.kin,J.bk⟩ U (uS L λb vs v w=>?_) (hs _ _);exact⟨.ref b,j,J.tok _,rfl,q b ⟨vs,v,w,A⟩⟩
 ·obtain⟨k,D,c,rfl,a2,a3,l,m,q⟩:=q;exact⟨k,D,c,N,a2,a3,l,m,λt h=>C (q t h) E Y (by simp only[Rep])⟩
def gIxB(base:cm):D->D->(D->Prop)->Prop
 |.cls t,.int i,P=>∃b d x,BT base t b/\atI b i=some d/\ofPy d=some x/\P x|_,_,_=>False
theorem EH:IxR X (λx y H Q=>∃t i ds d e,x=.ref t/\y=.int i/\BT X.base t ds/\atI ds i=some d/\ofPy d=some e/\Q (wy d) H):=by
 intro value slice b s E H x y v u Q I A B h n;obtain⟨t,i,ds,d,e,rfl,rfl,⟨C,z,U,hl⟩,m,c,q⟩:=h;cases A;obtain⟨tk,rfl⟩:=B;obtain⟨j,k,l,h3,h4,h5⟩:=jB m;obtain⟨w,Y,g⟩:=nK U l;have J:=yY U;have L:IsTup s.heap t (List.toArray C):=by obtain⟨o,c,r⟩:=z;exact⟨o,I.bk _ _ c,r⟩
 have fin:EP X b E Q w s:=⟨wy d,H,I,(Cz g c).1,q⟩;exact zwu L.typeIs slot_tuple_getitem.lookup
  (getItem_tuple L (by lia) (by lia) (by rw[zzB,J];exact k) (by simpa using Y) ⟨rfl,fin⟩) n
theorem yZ{base:cm}{b:dy}(Y:base=X.base)(m:PED X a ta)(n:PED X b te)(hs:eO b):PED X (.Subscript a b pos) (dOp (gIxB base) ta te):=by
 subst Y;obtain⟨Ta,q,s⟩:=m;obtain⟨Tb,r,z⟩:=n;refine⟨_,kZ EH q r hs,ig (λ{pp M H x y v u Q P} _ A B h k=>?_) s z⟩;cases x<;>first|exact h.elim|skip
 cases y<;>first|exact h.elim|skip
 obtain⟨l,d,e,c,g,i,U⟩:=h;have J:=c;obtain⟨vs,_,o,_⟩:=J;obtain⟨j,g1,g2,g3,g4,g5⟩:=jB g;obtain⟨w,ew,L⟩:=nK o g2;exact⟨_,_,l,d,e,A,B,c,g,i,k U .refl ((Cz L i).2 _ _ _ _)⟩
end
end DL
namespace DL
open PySem PySem.Spec L2
open PyProof.Rows hiding St
variable[TB]
variable{a l:bn}{d:D}{e ej ek o:dy}{es:ab D}{j jk k r:Nat}{kls:ab (ab Key×ab D)}{kvs:ab (ab Key×V)}{p1 p2 pos q:Pos}{ps:ab Str}{ta te:DE}{tb:DTS}{x y:Str}
variable{K:zwW}{pp:ca bn}{M:ab bn}{H H':Hp}{X:Cx}{F:Fx}{σ:St}{ρ:DS}
section
mutual
theorem RO.dz(z:Dz H H'):∀(q:O) (v:V) (A:ab bn),(∀a∈A,∀o,H a=some o->H' a=some o)->RO K pp M H q v A->RO K pp M H' q v A
 |.val d,v,A,_,h=>by simp only[RO]at h ⊢;exact⟨h.1,Rep.dz z d v h.2⟩
 |.lst os,v,A,k,h=>by simp only[RO]at h ⊢;obtain⟨a,g,B,e,c,rfl,r⟩:=h;exact⟨a,g,B,e,k a zze _ c,rfl,ROs.dz z os g B (λb J=>k b (zzb _ J)) r⟩
 |.dct ks os,v,A,k,h=>by simp only[RO]at h ⊢;obtain⟨a,kvs,B,e,c,L,rfl,r⟩:=h;exact⟨a,kvs,B,e,k a zze _ c,L,rfl,ROs.dz z os _ B (λb J=>k b (zzb _ J)) r⟩
 |.tup os,v,A,k,h=>by simp only[RO]at h ⊢;obtain⟨a,g,e,c,r⟩:=h;exact⟨a,g,e,z.oth _ _ c (by simp) (by simp),ROs.dz z os g A k r⟩
theorem ROs.dz(z:Dz H H'):∀(os:ab O) (xs:ab V) (A:ab bn),(∀a∈A,∀o,H a=some o->H' a=some o)->ROs K pp M H os xs A->ROs K pp M H' os xs A
 |[],xs,A,_,h=>by simp only[ROs]at h ⊢;exact h
 |o::os,xs,A,k,h=>by simp only[ROs]at h ⊢;obtain⟨x,r,B,C,e,rfl,c,g⟩:=h;exact⟨x,r,B,C,e,rfl,RO.dz z o x B (λb J=>k b (zzA.mpr (.inl J))) c,ROs.dz z os r C (λb J=>k b (zzA.mpr (.inr J))) g⟩
end
section
variable{a:bn}{kvs:ab (ab Key×V)}{ob:Obj}
theorem RSt.dz{c:Hp}(r:RSt K F M H σ ρ)(z:Dz H H')(ow:∀b∈M,∀o,H b=some o->H' b=some o)(h0:∀b∈M,F.H0 b=none->c b=none)(Q:SameQ K F.pp c H')(G:∀b∈F.M0,c b≠none)(tb:Tabs H')(lv:∀b,H b≠none->H' b≠none):RSt K ⟨F.pp,F.M0,c⟩ M H' σ ρ:=by
 obtain⟨u,C,L,E⟩:=r.ow;refine⟨r.len,λi s o g h=>?_,⟨u,λi s o g h=>?_,λi b J=>⟨(L i b J).1,h0 b (L i b J).1 (L i b J).2.1,(L i b J).2.2⟩,E⟩,r.sub,Q,G,⟨λb J=>lv b (r.liv.m b J),λp B=>lv p (r.liv.p p B)⟩,⟨trivial,tb⟩⟩
 ·have q:=r.sl i s o g h;cases s with
  |nil=>trivial|val d=>obtain⟨v,e,q⟩:=q;exact⟨v,e,q.dz z⟩
  |pin w d=>obtain⟨v,e,A,q⟩:=q;exact⟨v,e,A,q.dz z⟩
  |obj y=>exact q|own ds=>obtain⟨l,T,e,U,Y,n,I,N⟩:=q;exact⟨l,T,e,U,h0 l U Y,n,ow l U _ I,N.dz z⟩
 ·have q:=C i s o g h;cases s with
  |obj y =>
   obtain⟨U,v,Y,n⟩:=q;exact⟨U,v,Y,RO.dz z y v _ (λb J=>ow b (L i b J).1) n⟩
  |_=>exact q
theorem Tabs.th(tb:Tabs H)(U:H a=some (.frz ob (.dT kvs)))(n:∃es b,ob.data=.dict es b)   : Tabs (L2.upd H a (.dT kvs)):=by
 intro P p i;obtain⟨ps,L,g,h⟩:=tb P p i;refine⟨ps,by rw[af (kY L U (by intro z;cases z))];exact L,g,λpos Y e=>?_⟩;obtain⟨c,m,u,s,t,f1,f2,J⟩:=h pos Y e;refine⟨c,m,u,s,t,f1,?_,J⟩;rw[af]
 ·exact f2
 ·rintro rfl;rw[U]at f2;cases f2;obtain⟨es,b,q⟩:=n;rw[q]at J;exact absurd J.1 (by intro z;cases z)
theorem cB{u:HO}(b:bn)(h:H b≠none):upd H a u b≠none:=by
 by_cases q:b=a
 ·subst q;rw[ae];intro z;cases z
 ·rw[af q];exact h
theorem RSt.fz(g:RSt K F M H σ ρ)(A:H a=some (.dT kvs))(am:a∉M)(ap:F.pp≠some a)(d:∃es x,ob.data=.dict es x):∃j,RSt K ⟨F.pp,F.M0,j⟩ M (upd H a (.frz ob (.dT kvs))) σ ρ /\
  ∀h H' w ρ',Mv K F.pp M (upd H a (.frz ob (.dT kvs))) h H'->RSt K ⟨F.pp,F.M0,j⟩ h H' w ρ'->H' a=some (.frz ob (.dT kvs))/\Mv K F.pp M H h (upd H' a (.dT kvs))/\RSt K F h (upd H' a (.dT kvs)) w ρ':=by
 have N:Dz H (upd H a (.frz ob (.dT kvs))):=.fz A;have own:∀{M:ab bn} {H:Hp} {u:HO},a∉M->∀b∈M,∀o,H b=some o->upd H a u b=some o:=λn b Y o e=>by rw[af (by rintro rfl;exact n Y)];exact e
 have mv:∀h H',Mv K F.pp M (upd H a (.frz ob (.dT kvs))) h H'->(H' a=some (.frz ob (.dT kvs))/\a∉h)/\Mv K F.pp M H h (upd H' a (.dT kvs)):=λh H' m=>by
  have k:=m.oth a _ ae am (np ap);refine⟨k,λb y e=>?_,λb o e n p=>?_,λp e ⟨C,G,t,l,i⟩=>?_,λtb=>(m.tb (tb.upd A yC)).th k.1 d⟩
  ·have c:b≠a:=by rintro rfl;rw[A]at e;cases e
   rw[af c];exact m.tup b y (by rw[af c];exact e)
  ·by_cases c:b=a
   ·subst c;rw[A]at e;cases e;exact⟨ae,k.2⟩
   ·rw[af c];exact m.oth b o (by rw[af c];exact e) n p
  ·obtain⟨a2,U,v,s,L⟩:=m.pen p e ⟨C,G,t,l,N.pen i⟩;exact⟨a2,U,v,s,(Dz.th k.1).pen L⟩
 by_cases E:F.H0 a=some (.dT kvs)
 ·refine⟨upd F.H0 a (.frz ob (.dT kvs)),g.dz N (own am) (λb Y e=>?_) ⟨λb o e n=>?_,λp e ⟨C,G,t,l,i⟩=>?_,λb Y=>?_⟩ (λb Y=>cB b (g.old b Y)) (g.lk.t.upd A yC) cB,λh H' w ρ' m J=>?_⟩
  ·rw[af (by rintro rfl;exact am Y)];exact e
  ·by_cases c:b=a
   ·subst c;rw[ae]at e ⊢;exact e
   ·rw[af c]at e ⊢;exact g.same.keep b o e n
  ·have q:=(Dz.th (H:=upd F.H0 a (.frz ob (.dT kvs))) ae).pen i;have eq:upd (upd F.H0 a (.frz ob (.dT kvs))) a (.dT kvs)=F.H0:=by
    funext b;by_cases c:b=a
    ·subst c;rw[ae];exact E.symm
    ·rw[af c,af c]
   rw[eq]at q;obtain⟨a2,U,v,s,L⟩:=g.same.pen p e ⟨C,G,t,l,q⟩;exact⟨a2,U,v,s,N.pen L⟩
  ·refine cB b (g.same.live b λz=>?_);by_cases c:b=a
   ·subst c;rw[E]at z;cases z
   ·rw[af c]at Y;exact Y z
  ·obtain⟨⟨B,Q⟩,T⟩:=mv h H' m;have I:=Dz.th B;refine⟨B,T,J.dz (F:=⟨F.pp,F.M0,_⟩) I (own Q) (λb Y e=>?_) ⟨λb o e n=>?_,λp e ⟨C,G,t,l,i⟩=>?_,λb Y=>cB b (J.same.live b (cB b Y))⟩ g.old (J.lk.t.th B d) cB⟩
   ·have e:upd F.H0 a (.frz ob (.dT kvs)) b=none:=e;rw[af (by rintro rfl;exact Q Y)]at e;exact e
   ·by_cases c:b=a
    ·subst c;rw[E]at e;rw[ae];exact e
    ·rw[af c];exact J.same.keep b o (by show upd F.H0 a _ b=_;rw[af c];exact e) n
   ·obtain⟨a2,U,v,s,L⟩:=J.same.pen p e ⟨C,G,t,l,(Dz.fz E).pen i⟩;exact⟨a2,U,v,s,I.pen L⟩
 ·have r:∀{b:bn} {o:HO},F.H0 b=some o->NW F.pp b o->b≠a:=λe n z=>by
   subst z;have:=g.same.keep _ _ e n;rw[A]at this;cases this;exact E e
  refine⟨F.H0,g.dz N (own am) (λb Y e=>e) ⟨λb o e n=>by rw[af (r e n)];exact g.same.keep b o e n,λp e i=>?_,λb Y=>cB b (g.same.live b Y)⟩ g.old (g.lk.t.upd A yC) cB,λh H' w ρ' m J=>?_⟩
  ·obtain⟨a2,U,v,s,L⟩:=g.same.pen p e i;exact⟨a2,U,v,s,N.pen L⟩
  ·obtain⟨⟨B,Q⟩,T⟩:=mv h H' m;have I:=Dz.th B;refine⟨B,T,J.dz (F:=⟨F.pp,F.M0,_⟩) I (own Q) (λb Y e=>e) ⟨λb o e n=>by rw[af (r e n)];exact J.same.keep b o e n,λp e i=>?_,λb Y=>cB b (J.same.live b Y)⟩ g.old (J.lk.t.th B d) cB⟩;obtain⟨a2,U,v,s,L⟩:=J.same.pen p e i;exact⟨a2,U,v,s,I.pen L⟩
noncomputable abbrev Kf(j:Nat)(g:DG)(b:DTS):DTS:=λE ρ=>∃c es,slot ρ j=.val (.dT c es)/\cX g b (c.map keyD) {nx:=E.nx,rt:=λ_=>False} ρ
theorem EI{p:Pos}{body:ab Stmt}{g:DG}(hp:PassesOwn (model X.prog X.w) X.A X.env X.xe)(hc:X.calm=true)(hi:PE X (.Name x p) (tVar j))(hg:PGD X ek g)(hb:PSsD X body tb)(hs:∀v,foldedSetIterable (.Name x p) X.env v=pure v:=by intro _;rfl):PSD X (.For ek (.Name x p) body [] pos) (Kf j g tb):=by
 obtain⟨G,pg,rg⟩:=hg;obtain⟨T,p,r⟩:=hb;have core:∀{F:Fx} {I:ab bn} {C:Hp} {a6:St} {a0:DS} {a:bn} {kvs:ab (ab Key×V)} {ob:Obj} {E:DEnds} {D:Ends},RSt X.K F I C a6 a0->C a=some (.frz ob (.dT kvs))->a∉I->F.pp≠some a->cX g tb ((kvs.map (·.1)).map keyD) {nx:=E.nx,rt:=λ_=>False} a0 ->
   (∀B H' c n,Mv X.K F.pp I C B H'->RSt X.K F B H' c n->E.nx n->D.nx c H')->∃W:Nat->Nat->St->Hp->Prop,(∃m,W 0 m a6 C)/\∀i m σ H,W i m σ H ->
    ((Itk a ob kvs).stop i H/\D.nx σ H)∨((Itk a ob kvs).go i H/\∃N:St->Hp->Prop,(∀c H',N c H'->∃m',m'<m/\W (i+1) m' c H')/\∀x H',(Itk a ob kvs).yld i H x H'->G x σ H' λU s=>T {D with nx:=N,ct:=N,bk:=D.nx} U s):=λ{F I C a6 a0 a kvs ob E D} a5 e1 am ap h o=>by
  have ok:ItOk X.K F.pp (Itk a ob kvs) I C ((kvs.map (·.1)).map keyD):=by refine⟨λz s m i d x H3 e y=>?_,λz s m i hi=>⟨(m.oth _ _ e1 am (np ap)).1,by simpa using hi⟩,λz s m i hi=>⟨(m.oth _ _ e1 am (np ap)).1,by simpa using hi⟩⟩;obtain⟨rfl,q,b,hq,rfl,hb⟩:=y;rw[zzr,zzr,hq]at e;cases e;exact⟨.refl,uN hb⟩
  generalize (kvs.map (·.1)).map keyD=u at ok h;refine⟨λi m U s=>∃z a4,m=u.length - i/\i<=u.length/\Mv X.K F.pp I C z s/\RSt X.K F z s U a4/\cX g tb (u.drop i) {nx:=E.nx,rt:=λ_=>False} a4,⟨u.length,I,a0,rfl,zzM _,.refl,a5,h⟩,?_⟩;rintro i m U s ⟨z,a4,rfl,hi2,l,a8,h2⟩;by_cases Y:i<u.length
  ·have e1:u[i]?=some u[i]:=by simp[Y]
   rw[zyR Y]at h2;refine .inr ⟨ok.go z s l i Y,λc H'=>∃B n,Mv X.K F.pp I C B H'/\RSt X.K F B H' c n/\cX g tb (u.drop (i+1)) {nx:=E.nx,rt:=λ_=>False} n,λc H' ⟨B,n,mm,J,h'⟩=>⟨u.length - (i+1),by lia,B,n,rfl,Y,mm,J,h'⟩,λx H3 y=>?_⟩;obtain⟨sp,rx⟩:=ok.yld z s l i _ x H3 e1 y;exact rg (a8.sameP sp) rx h2 λh3 m3 b0=>r b0 h3 ⟨λm4 L k=>⟨_,_,((l.trans sp.mv).trans m3).trans m4,L,k⟩,λm4 L k=>o _ _ _ _ (((l.trans sp.mv).trans m3).trans m4) L k,λm4 L k=>⟨_,_,((l.trans sp.mv).trans m3).trans m4,L,k⟩,λ_ _ _ k=>False.elim k⟩
  ·have e:i=u.length:=by lia
   have hd:u.drop i=[]:=by rw[zxU];lia
   rw[hd]at h2;exact .inl ⟨ok.stop z s l i (by lia),o z s U a4 l a8 h2⟩
 refine⟨_,AW (Cc hp hc (Ed hi) pg p hs),λ{F M H σ ρ E D} rs h o=>?_⟩;obtain⟨ks,es,a9,h⟩:=h;obtain⟨_,ho,v,rfl,r0⟩:=rs.at (aD a9);simp only[Rep]at r0;obtain⟨a,kvs,rfl,am,ap,Q,rfl,rr⟩:=r0;rcases Q with Q|⟨ob,Q⟩
 ·refine .inl ⟨a,kvs,Q,.ref a,ho,a,kvs,rfl,.inl ⟨Q,λob od=>?_⟩⟩;obtain⟨H0,a5,a7⟩:=rs.fz Q am ap od;refine core (E:=E) a5 ae am ap h λB H' c n m J q=>?_;obtain⟨b1,b2,b3⟩:=a7 B H' c n m J;exact⟨ob,b1,o.nx b2 b3 q⟩
 ·exact .inr ⟨.ref a,ho,a,kvs,rfl,.inr ⟨ob,Q,core (E:=E) rs Q am ap h λ_ _ _ _ m J q=>o.nx m J q⟩⟩
end
noncomputable def setA(k:ab Key)(es:ab D):ab (ab Key×ab D)->ab (ab Key×ab D)
 |[]=>[]|p::r=>if p.1=k then(p.1,es)::r else p::setA k es r
theorem cY{p:ab Key×ab D}{r:ab (ab Key×ab D)}{k:ab Key}(e:p.1=k):bu (p::r) k=some p.2:=by unfold bu;rw[zzX (by simpa using e)];rfl
theorem bX{p:ab Key×ab D}{r:ab (ab Key×ab D)}{k:ab Key}(e:p.1≠k):bu (p::r) k=bu r k:=by unfold bu;rw[zzY (by simpa using e)]
theorem PL.find(k:ab Key):∀{kls:ab (ab Key×ab D)} {kvs:ab (ab Key×V)} {ls:ab bn},PL K pp M H kls kvs ls->ls.Nodup ->
  (valV kvs k=none/\bu kls k=none)∨∃J xs es,valV kvs k=some (.ref J)/\bu kls k=some es/\J∈ls/\H J=some (.lst xs)/\Reps K pp M H es xs /\
   ∀{g:ab bn} {H':Hp} {es':ab D} {c:ab V},Mv K pp M H g H'->Reps K pp g H' es' c->H' J=some (.lst c)->(∀b∈ls,b≠J->∀o,H b=some o->H' b=some o)->PL K pp g H' (setA k es' kls) kvs ls
 |[],kvs,ls,h,_=>by obtain⟨rfl,rfl⟩:=h;exact .inl ⟨rfl,rfl⟩
 |p::ps,kvs,ls,h,B=>by
  obtain⟨l,xs,r,t,rfl,rfl,u,n,s⟩:=h;obtain⟨v,A⟩:=zzT.mp B;by_cases e:p.1=k
  ·refine .inr ⟨l,xs,p.2,jf e,cY e,zze,u,n,λ{g H' es' c} m Y U i=>?_⟩;unfold setA;rw[zzk e];exact⟨l,c,r,t,rfl,rfl,U,Y,PL.mv m (λb L=>i b (zzb _ L) (by rintro rfl;exact v L)) s⟩
  ·rcases PL.find k s A with ⟨a1,a2⟩|⟨J,c,es,a1,a2,a3,w,z,f⟩
   ·exact .inl ⟨by rw[gk e];exact a1,by rw[bX e];exact a2⟩
   ·refine .inr ⟨J,c,es,by rw[gk e];exact a1,by rw[bX e];exact a2,zzb _ a3,w,z,λ{g H' es' zs} m Y U i=>?_⟩;unfold setA;rw[zzh e];exact⟨l,xs,r,t,rfl,rfl,i l zze (by rintro rfl;exact v a3) _ u,n.mv m,f m Y U λb L=>i b (zzb _ L)⟩
section
variable{i:Nat}
theorem RSt.putDL{l:bn}{xs:ab V}(Y:RSt K F M H σ ρ)(g1:ρ[i]?=some (.obj (dlO kls)))(B:σ[i]?=some (some (.ref a)))(hd:H a=some (.dT kvs))(b:H l=none)(rx:Reps K F.pp M H es xs){k:ab Key}(h:valV kvs k=none) :
  Mv K F.pp M H (l::M) (upd (upd H l (.lst xs)) a (.dT (putK kvs k (.ref l))))/\RSt K F (l::M) (upd (upd H l (.lst xs)) a (.dT (putK kvs k (.ref l)))) σ (ρ.set i (.obj (dlO (kls++[(k,es)])))):=by
 obtain⟨a1,kvs1,ls,C,v,nd,pl,hA⟩:=Y.dlAt g1;rw[B]at C;cases C;rw[hd]at v;cases v;obtain⟨am,n,ap⟩:=hA a zze;have g:a≠l:=by rintro rfl;rw[hd]at b;cases b
 have lf:=Y.liv.fresh b;have w:upd H l (.lst xs) a=some (.dT kvs):=by rw[af g];exact hd
 have I:RSt K F M (upd H l (.lst xs)) σ ρ:=Y.sameP (.new b);have r:F.H0 l=none:=by
  cases e:F.H0 l with
  |none=>rfl|some o=>exact absurd b (Y.same.live l (by rw[e];intro z;cases z))
 have N:putK kvs k (.ref l)=kvs++[(k,.ref l)]:=by unfold putK;rw[jg,h];rfl
 rw[N];have m1:Mv K F.pp M H (l::M) (upd H l (.lst xs)):=.newOwn b;have m2:Mv K F.pp (l::M) (upd H l (.lst xs)) (l::M) (upd (upd H l (.lst xs)) a (.dT (kvs++[(k,.ref l)]))):=.writeX w trivial (zzb _ am) ap;have d:Mv K F.pp M (upd H l (.lst xs)) M (upd (upd H l (.lst xs)) a (.dT (kvs++[(k,.ref l)]))):=.writeX w trivial am ap;have m:=m1.trans m2;have G:=I.liv.upd (l:=a) (o:=.dT (kvs++[(k,.ref l)]));refine⟨m,Y.objStep g1 m (λv' A' A j T s=>?_) (λc J=>zzb _ (Y.sub c J)) (I.sameW n d) ⟨λc J=>?_,G.p⟩⟩
 ·rw[B]at A;cases A;obtain⟨a',kvs',U,e,u,rfl,q⟩:=ro_dl.mp T;cases e;rw[hd]at u;cases u;obtain⟨L,Q⟩:=zzT.mp j;have E:l∉U:=λz=>lf.1 (s l (zzb _ z)).1;have keep:∀c x,c≠a->c≠l->H c=some x->upd (upd H l (.lst xs)) a (.dT (kvs++[(k,.ref l)])) c=some x:=λc x h1 h2 h3=>by
   rw[af h1,af h2];exact h3
  refine⟨a::(U++[l]),?_,ro_dl.mpr ⟨a,_,U++[l],rfl,ae,rfl,?_⟩,λc J=>?_,λc J _ _ h=>⟨zzb _ J,λx e _=>keep c x (by rintro rfl;exact h zze) (by rintro rfl;exact lf.1 J) e⟩⟩
  ·refine zzT.mpr ⟨λz=>?_,zxj.mpr ⟨Q,by simp,λx hx y hy e=>?_⟩⟩
   ·rcases zzA.mp z with z|z
    ·exact L z
    ·exact g (zzG.mp z)
   ·rw[zzG.mp hy]at e;subst e;exact E hx
  ·exact PL.snoc (xs:=xs) (by rw[af (Ne.symm g),ae]) (rx.mv m) (q.mv m λc J x e=>keep c x (by rintro rfl;exact L J) (by rintro rfl;exact E J) e)
  ·rcases zzi.mp J with rfl|J
   ·exact⟨zzb _ am,n,ap,.inl zze⟩
   rcases zzA.mp J with J|J
   ·have:=s c (zzb _ J);exact⟨zzb _ this.1,this.2.1,this.2.2,.inl (zzb _ J)⟩
   ·rw[zzG.mp J];exact⟨zze,r,lf.2,.inr lf.1⟩
 ·rcases zzi.mp J with rfl|J
  ·rw[af (Ne.symm g),ae];intro z;cases z
  ·exact G.m c J
theorem RSt.setDL{k:ab Key}{es':ab D}{h:ab V}(g:RSt K F M H σ ρ)(g1:ρ[i]?=some (.obj (dlO kls)))(u:σ[i]?=some (some (.ref a)))(hd:H a=some (.dT kvs))(m:valV kvs k=some (.ref l))(ry:Reps K F.pp M H es' h) :
  Mv K F.pp M H M (upd H l (.lst h))/\RSt K F M (upd H l (.lst h)) σ (ρ.set i (.obj (dlO (setA k es' kls)))):=by
 obtain⟨a1,kvs1,ls,v,Y,nd,pl,q⟩:=g.dlAt g1;rw[u]at v;cases v;rw[hd]at Y;cases Y;obtain⟨nd1,j⟩:=zzT.mp nd;rcases pl.find k j with ⟨a1,_⟩|⟨Q,xs,es,a1,a2,a3,E,_⟩
 ·rw[m]at a1;cases a1
 rw[m]at a1;cases a1;obtain⟨y,T,d⟩:=q l (zzb _ a3);have b:Mv K F.pp M H M (upd H l (.lst h)):=.writeX E trivial y d;refine⟨b,g.objStep g1 b (λv' A' s A N J=>?_) g.sub (g.sameW T b) g.liv.upd⟩;rw[u]at s;cases s;obtain⟨a',kvs',w,e,U,rfl,o⟩:=ro_dl.mp N;cases e;rw[hd]at U;cases U;obtain⟨G,I⟩:=zzT.mp A;rcases o.find k I with ⟨z,_⟩|⟨Q,xs',es',B,_,C,z3,_,f⟩
 ·rw[m]at z;cases z
 rw[m]at B;cases B;have na:a≠l:=by rintro rfl;exact G C
 have keep:∀c x,c≠l->H c=some x->upd H l (.lst h) c=some x:=λc x n p=>by rw[af n];exact p
 refine⟨a::w,A,ro_dl.mpr ⟨a,kvs,w,rfl,keep a _ na hd,rfl,f b (ry.mv b) ae λc _ n x p=>keep c x n p⟩,λc L=>⟨(J c L).1,(J c L).2.1,(J c L).2.2,.inl L⟩,λc L _ _ r=>⟨L,λx e _=>keep c x (by rintro rfl;exact r (zzb _ C)) e⟩⟩
theorem RSt.vl(J:RSt K F M H σ ρ)(h:slot ρ j=.val d):∃v,σ[j]?=some (some v)/\Rep K F.pp M H d v:=by obtain⟨_,b,v,rfl,r⟩:=J.at (aD h (by intro z;cases z));exact⟨v,b,r⟩
noncomputable abbrev EJ(i jk:Nat):DT:=λρ Q=>∃kls k,slot ρ i=.obj (dlO kls)/\slot ρ jk=.val (keyD k)/\Q (bu kls k).isNone ρ
theorem za(Y:Room r X.A)(g:PE X o (tVar i))(U:PE X ek (tVar jk))(c:behindInMarks .NotIn o=false:=by rfl):PTD X (.Compare ek [.NotIn] [o] pos) (EJ i jk):=by
 refine⟨_,FN (xO (by have:=Y.units;lia) U g) c,λJ h p=>?_⟩;obtain⟨kls,k,es,ek,h⟩:=h;obtain⟨y,n,v⟩:=J.vl ek;obtain⟨b,rfl,L⟩:=du v;obtain⟨a,kvs,ls,m,hd,s,u,_⟩:=J.dlAt (aD es);refine⟨_,n,_,m,a,valV kvs k,rfl,.inr ⟨kvs,k,b,.inl hd,rfl,L,rfl⟩,_,rfl,?_⟩;have:=p h .refl J;rcases u.find k (zzT.mp s).2 with ⟨a1,a2⟩|⟨l0,xs,es,a1,a2,_⟩
 all_goals
  rw[a2]at this;rw[a1];exact this
noncomputable abbrev Kg(i jk:Nat)(tl:DA):DTS:=λE ρ=>tl ρ λb J=>∃kls k,slot J i=.obj (dlO kls)/\slot J jk=.val (keyD k)/\bu kls k=none/\kls.length<sizeLine/\E.nx (J.set i (.obj (dlO (kls++[(k,b)]))))
theorem EK{n:DA}(v:Room r X.A)(u:PE X o (tVar i))(s:PE X ek (tVar jk))(he:PLD X e n)(hs:swapsWith e (some (.Subscript o ek p1)) pos.line X.env=pure false:=by rfl) :
  PSD X (.Assign [.Subscript o ek p1] e pos) (Kg i jk n):=by
 obtain⟨T,p,r⟩:=he;refine⟨_,xP (by have:=v.units;lia) u s p hs,λI h G=>r I h λ{ds ρ1 M1 H1 l j} h m J c N=>?_⟩;obtain⟨kls,k,es,ek,fn,ln,h⟩:=h;obtain⟨y,w,Q⟩:=J.vl ek;obtain⟨b,rfl,U⟩:=du Q;have g1:=aD es;obtain⟨a,kvs,ls,Y,hd,E,g,_⟩:=J.dlAt g1;have d:valV kvs k=none:=by
  rcases g.find k (zzT.mp E).2 with ⟨a1,a2⟩|⟨l0,j,es,a1,a2,_⟩
  ·exact a1
  ·rw[fn]at a2;cases a2
 obtain⟨C,L⟩:=J.putDL g1 Y hd c N d;have z:a≠l:=by rintro rfl;rw[hd]at c;cases c
 have B:b≠l:=by rintro rfl;rw[U]at c;cases c
 exact⟨_,Y,_,w,a,_,rfl,.inr ⟨kvs,k,b,by rw[af z];exact hd,rfl,by rw[af B];exact U,by rw[←g.len];exact ln,rfl⟩,G.nx (m.trans C) L h⟩
noncomputable abbrev dIxL(i jk J:Nat):DE:=λρ Q=>∃kls k es n d,slot ρ i=.obj (dlO kls)/\slot ρ jk=.val (keyD k)/\slot ρ J=.val (.int n)/\bu kls k=some es/\atI es n=some d/\Q d ρ
theorem HQ(C:Room r X.A)(B:PE X o (tVar i))(w:PE X ek (tVar jk))(u:PE X ej (tVar j))(x:NoSl ek)(H:eO ej):PED X (.Subscript (.Subscript o ek p1) ej p2) (dIxL i jk j):=by
 refine⟨_,kZ mZ (rJ (by have:=C.units;lia) B w x) u H,λJ h N=>?_⟩;obtain⟨kls,k,es,n,d,p,ek,ej,c,L,h⟩:=h;obtain⟨y,G,l⟩:=J.vl ek;obtain⟨b,rfl,s⟩:=du l;obtain⟨z,I,q⟩:=J.vl ej;subst q;obtain⟨a,kvs,ls,E,hd,Q,T,_⟩:=J.dlAt (aD p);rcases T.find k (zzT.mp Q).2 with ⟨a1,a2⟩|⟨U,M,es',a1,a2,a3,Y,g,_⟩
 ·rw[c]at a2;cases a2
 rw[c]at a2;cases a2;obtain⟨v,m,e⟩:=nA g L;exact⟨_,E,_,G,a,.ref U,rfl,.inr ⟨kvs,k,b,.inl hd,rfl,s,a1.symm⟩,_,I,U,M,n,v,rfl,rfl,Y,m,N h .refl J e⟩
noncomputable abbrev Kh(i jk L:Nat)(te:DE):DTS:=λE ρ=>te ρ λd J=>∃kls k es n m,slot J i=.obj (dlO kls)/\slot J jk=.val (keyD k)/\slot J L=.val (.int n)/\bu kls k=some es/\ixN es.length n=some m/\E.nx (J.set i (.obj (dlO (setA k (es.set m d) kls))))
theorem EL(l:Room r X.A)(d:PE X o (tVar i))(Q:PE X ek (tVar jk))(N:PE X ej (tVar j))(he:PED X e te)(s1:NoSl ek)(hs:swapsWithSole [.Subscript (.Subscript o ek p1) ej p2] e pos.line X.env=pure false:=by rfl)(x:swappedStores [.Subscript (.Subscript o ek p1) ej p2] e X.env=pure none:=by rfl)(E:(assignEach [.Subscript (.Subscript o ek p1) ej p2] X.env).map (·.2)=[assign (.Subscript (.Subscript o ek p1) ej p2) X.env]:=by rfl)(G:∀v,assign (.Subscript (.Subscript o ek p1) ej p2) X.env v=(do
   let L ←holding [v] (eval (.Subscript o ek p1) X.env)
   let Y ←holding [v,L] (eval ej X.env)
   standAt p2
   holding [v,L,Y] (setItem L Y v)
   release [v,L,Y] []):=by intro _;rfl):PSD X (.Assign [.Subscript (.Subscript o ek p1) ej p2] e pos) (Kh i jk j te):=by
 obtain⟨T,p,r⟩:=he;refine⟨_,lK p (ud (rJ (by have:=l.units;lia) d Q s1) N je G) hs x E,λrs h oo=>r rs h λh m J rv=>?_⟩;obtain⟨kls,k,es,n,q,C,ek,ej,g,U,h⟩:=h;obtain⟨y,H,ry⟩:=J.vl ek;obtain⟨b,rfl,I⟩:=du ry;obtain⟨z,M,rz⟩:=J.vl ej;subst rz;have g1:=aD C;obtain⟨a,kvs,ls,s,hd,nd,pl,_⟩:=J.dlAt g1;rcases pl.find k (zzT.mp nd).2 with ⟨a1,a2⟩|⟨u,xs,es',a1,a2,a3,B,c,_⟩
 ·rw[g]at a2;cases a2
 rw[g]at a2;cases a2;obtain⟨mw,w⟩:=J.setDL g1 s hd a1 (Reps.set rv q c);exact⟨_,s,_,H,a,.ref u,rfl,.inr ⟨kvs,k,b,.inl hd,rfl,I,a1.symm⟩,_,M,u,xs,n,q,rfl,rfl,B,by rw[←c.length];exact U,oo.nx (m.trans mw) w h⟩
theorem wz{k:ab Key}(h:bu kls k=some es):kb k d kls=setA k (es++[d]) kls/\∃p∈kls,p.2=es:=by
 induction kls with
 |nil=>cases h
 |cons p r U =>
  by_cases e:p.1=k
  ·rw[cY e]at h;cases h;exact⟨by simp[kb,setA,e],p,zze,rfl⟩
  ·rw[bX e]at h;obtain⟨q,z,L,J⟩:=U h;exact⟨by simp[kb,setA,e,q],z,zzb _ L,J⟩
theorem wA{k:ab Key}(h:bu kls k=none):setA k [d] (kls++[(k,[])])=kb k d kls:=by
 induction kls with
 |nil=>simp[kb,setA]|cons p r J =>
  by_cases e:p.1=k
  ·rw[cY e]at h;cases h
  ·rw[bX e]at h;simp[kb,setA,e,J h]
theorem zb{k:ab Key}{v:V}(h:valV kvs k=none):valV (putK kvs k v) k=some v:=by unfold putK;rw[jg,h];simp only[valV,Option.map_eq_none_iff]at h ⊢;simp[List.find?_append,h]
theorem HR{i:Nat}{p3 Y:Pos}(hr:Room r X.A)(ho:PE X o (tVar i))(hk:PE X ek (tVar jk))(ha:PE X e (tVar j))(b1:attributeBase o "setdefault" X.env (eval o X.env)=eval o X.env:=by rfl)(f1:((backTo p2 (starEach [ek,.List [] q] X.env)).all (λx=>!x.1) && (backToKw p2 (keywordEach [] X.env)).all (λx=>x.1.isSome)
   && decide ([ek,.List [] q].length+([]:ab Keyword).length+(if ([]:ab Keyword).isEmpty then 0 else 1)<30))=true:=by rfl)(l1:(p1.endLine==p2.line)=true:=by rfl)(s1:starEach [ek,.List [] q] X.env=(false,eval ek X.env)::starEach [.List [] q] X.env:=by rfl)(b3:starEach [.List [] q] X.env=(false,eval (.List [] q) X.env)::starEach [] X.env:=by rfl)(q1:(backTo p2 (starEach [.List [] q] X.env)).any (·.1)=false:=by rfl)(b2:attributeBase (.Call (.Attribute o "setdefault" p1) [ek,.List [] q] [] p2) "append" X.env (eval (.Call (.Attribute o "setdefault" p1) [ek,.List [] q] [] p2) X.env)=eval (.Call (.Attribute o "setdefault" p1) [ek,.List [] q] [] p2) X.env:=by rfl)(f2:((backTo Y (starEach [e] X.env)).all (λx=>!x.1) && (backToKw Y (keywordEach [] X.env)).all (λx=>x.1.isSome)
   && decide ([e].length+([]:ab Keyword).length+(if ([]:ab Keyword).isEmpty then 0 else 1)<30))=true:=by rfl)(l2:(p3.endLine==Y.line)=true:=by rfl)(s2:starEach [e] X.env=(false,eval e X.env)::starEach [] X.env:=by rfl)(q2:(backTo Y (starEach [] X.env)).any (·.1)=false:=by rfl)(hs:swapsWith (.Call (.Attribute (.Call (.Attribute o "setdefault" p1) [ek,.List [] q] [] p2) "append" p3) [e] [] Y) none pos.line X.env=pure false:=by rfl) :
  PSD X (.Expr (.Call (.Attribute (.Call (.Attribute o "setdefault" p1) [ek,.List [] q] [] p2) "append" p3) [e] [] Y) pos) (dSda i jk j):=by
 have hm:=rF zxs PySem.F.slot_list_append PySem.F.type_list_append jC (rF PySem.F.plainAttrs_dict PySem.F.slot_dict_setdefault PySem.F.type_dict_setdefault (nq (X:=X) (by have:=hr.units;lia)) ho (aQ hk (aQ (ug (pos:=q) bD) bD b3) s1) b1 f1 l1 s1 q1) (aQ ha bD s2) b2 f2 l2 s2 q2;refine⟨_,mO hm hs,λ{F M H σ ρ E D} g h y=>?_⟩;obtain⟨kls,k,d,e1,e2,e3,a8,U,N⟩:=h;have g1:=aD e1;obtain⟨a,kvs,ls,L,hd,nd,pl,hA⟩:=g.dlAt g1;obtain⟨_,a9,vk,rfl,rk⟩:=g.at (aD e2);obtain⟨_,z,n,rfl,ra⟩:=g.at (aD e3);obtain⟨b,rfl,hb⟩:=du rk;have pf:=pl.find k (zzT.mp nd).2;refine⟨.ref a,L,.inr (.inr (.inl ⟨rfl,.inr ⟨kvs,hd⟩⟩)),.ref b,a9,zzM _,λl c=>?_⟩;have la:a≠l:=by rintro rfl;rw[hd]at c;cases c
 have G:upd H l (.lst []) a=some (.dT kvs):=cW c hd;refine⟨a,kvs,k,b,.ref l,rfl,rfl,G,cW c hb,by rw[←pl.len];exact a8,λv u=>?_,λs=>?_⟩
 ·rcases pf with ⟨a1,_⟩|⟨Q,w,es,a1,a2,a3,B,C,_⟩
  ·rw[u]at a1;cases a1
  rw[u]at a1;cases a1;obtain⟨m,J⟩:=(g.sameP (.new c)).setDL g1 L G u ((C.append (.one ra)).mv (.new c));obtain⟨e4,p,hp,rfl⟩:=wz (d:=d) a2;rw[←e4]at J;exact⟨.inl ⟨rfl,w,SqL.of (cW c B)⟩,n,z,Q,w,n,rfl,rfl,cW c B,by rw[←C.length];exact U p hp,y.nx ((Mv.new c).trans m) J N⟩
 ·rcases pf with ⟨_,a2⟩|⟨Q,w,es,a1,_⟩
  ·obtain⟨T,b0⟩:=g.putDL g1 L hd c (.nil:Reps X.K F.pp M H [] []) s;obtain⟨m2,J⟩:=b0.setDL (by rw[zws (zzy.mp g1).1]) L ae (zb s) (.one (ra.mv T));rw[List.set_set,wA a2]at J;have I:upd (upd H l (.lst [])) a (.dT (putK kvs k (.ref l))) l=some (.lst []):=by rw[af (Ne.symm la),ae]
   exact⟨.inl ⟨rfl,[],SqL.of I⟩,n,z,l,[],n,rfl,rfl,I,by decide,y.nx (T.trans m2) J N⟩
  ·rw[s]at a1;cases a1
end
variable[Frm]
theorem qd{K:zwW}{pp:ca bn}{M:ab bn}{H:Hp}:∀{b:ab (ab Key)} {bs:ab V},Reps K pp M H (b.map keyD) bs->Paired (rR H) b bs
 |[],bs,h=>by subst h;exact .nil
 |k::b,bs,h=>by obtain⟨x,r,rfl,c,g⟩:=h;exact .cons (du c) (qd g)
def HS:DSp:=λc P=>∃b:ab (ab Key),c=[.lst (b.map keyD)]/\(∀k∈b,pI k)/\(2<=b.length->∀k∈b,k≠[])/\b.length<64/\P (.lst ((srtK b).map keyD))
theorem Bq:CallD X (.builtin "sorted") HS:=by refine⟨_,wq,λ{pp M H ds vs Q P} lv r h k=>?_⟩;obtain⟨m,rfl,b,c,d,h⟩:=h;obtain⟨x,t,rfl,⟨a,n,rfl,_,_,i,L⟩,rfl⟩:=r;refine⟨a,m,n,rfl,i,qd L,b,c,d,λl bs g J=>k h (.new g) ?_⟩;exact⟨l,bs,rfl,(lv.fresh g).1,(lv.fresh g).2,ae,(qa J).mv (.new g)⟩
end
section
variable[Frm]
section
variable{x:Str}{p pos:Pos}{e:dy}{es:ab dy}{t:DA}{te:DE}{g:DSp}
theorem dv(i:Nat)(L:X.N[i]?=some x:=by rfl)(U:Vis X.env.scope x:=by first|exact Or.inl rfl|exact Or.inr (Or.inl rfl)|exact Or.inr (Or.inr rfl))(hd:(x==("__debug__" : Str))=false:=by decide)(J:(x==("__classdict__" : Str))=false:=by decide):PED X (.Name x pos) (dVar i):=GV i (pv i L U hd J)
theorem dcl{n:Nat}{st:Stmt}{D:Dd X.K X.mg x st ps}(Y:D.Ok X.prog X.w X.base CX0 k (spD X.K n g))(u:Room jk X.A)(c:PAD X (e::es) t)(i:k<=jk:=by decide)(h:Gl X x:=by rfl)(L:(x==("__debug__" : Str))=false:=by decide)(he:starEach (e::es) X.env=(false,eval e X.env)::starEach es X.env:=by rfl)(U:(backTo pos (starEach es X.env)).any (·.1)=false:=by rfl) :
  PED X (.Call (.Name x p) (e::es) [] pos) (rW n g t):=by
 obtain⟨T,v,B⟩:=c;refine⟨_,mR Y (u.mono i) h D.d.m D.d.F.kp D.d.b .nil vW v L he U,λC q k=>B C q λq m J z=>?_⟩;rw[zzs];exact⟨_,_,_,_,J.liv,z,q.1,q.2,λq s r=>k q (m.trans s.mv) (J.sameP s) r⟩
theorem dse(i:Nat)(h:PED X e te)(J:X.N.Nodup:=by assumption)(b:X.N[i]?=some x:=by rfl)(U:Loc X.env.scope x:=by first|exact Or.inl rfl|exact Or.inr rfl)(hs:swapsWith e (some (.Name x p1)) pos.line X.env=pure false:=by rfl)(L:X.fn x=true∨X.env.scope.names.lookup x=some .local:=by first|exact .inl rfl|exact .inr rfl|assumption) :
  PSD X (.Assign [.Name x p1] e pos) (dSet i te):=GZ J b U h hs L
theorem dow(i:Nat)(h:PLD X e t)(J:X.N.Nodup:=by assumption)(b:X.N[i]?=some x:=by rfl)(U:Loc X.env.scope x:=by first|exact Or.inl rfl|exact Or.inr rfl)(hs:swapsWith e (some (.Name x p1)) pos.line X.env=pure false:=by rfl)(L:X.fn x=true∨X.env.scope.names.lookup x=some .local:=by first|exact .inl rfl|exact .inr rfl|assumption) :
  PSD X (.Assign [.Name x p1] e pos) (dOwn i t):=Ha J b U h hs L
theorem dgn(i:Nat)(J:X.N.Nodup:=by assumption)(b:X.N[i]?=some x:=by rfl)(U:Loc X.env.scope x:=by first|exact Or.inl rfl|exact Or.inr rfl)(L:X.fn x=true∨X.env.scope.names.lookup x=some .local:=by first|exact .inl rfl|exact .inr rfl|assumption):PGD X (.Name x pos) (bc i):=yF J b U L
theorem dgb{b:Scope}{cl:ab (Str×bn)}{B:Blk}(i:Nat)(J:ps.Nodup:=by decide +kernel)(c:ps[i]?=some x:=by rfl)(U:Loc (cxB X b cl ps B).env.scope x:=by first|exact Or.inl rfl|exact Or.inr rfl)(L:(cxB X b cl ps B).fn x=true∨(cxB X b cl ps B).env.scope.names.lookup x=some .local:=by first|exact .inl rfl|exact .inr rfl|assumption):PGD (cxB X b cl ps B) (.Name x pos) (bc i):=yF J c U L
theorem dix{a b:dy}(c:PED X a ta)(J:PED X b te)(hs:eO b:=by exact λ_ _=>rfl):PED X (.Subscript a b pos) (dOp gIx ta te):=JR c J hs
theorem fnd{P:ef}{w:World}{K:zwW}{h:Str->ca bb}{base:cm}{st:Stmt}{D:Dd K h x st ps}(N:ab Str)(J:∀{c:bb} {A:Around} {b:ab Env} {s:bx} {H:Hp} {E:XK},Room k (A.deeper (envOfC x (aj st) s.heap.objs.size D.f c))->N.Nodup -> @PSsD _ Frm.free (cxOf CX0 P w K h base N x (aj st) D.f c A b s H E).nox (bN st) tb)(L:∀ds Q,ds.length=ps.length->g ds Q->tb {nx:=λ_=>Q .non,rt:=Q} (jU N.length ds))(S:FnScope N ps (aj st):=by exact lu):D.Ok P w base CX0 (k+1) (spD K ps.length g):=fnD D.d.F S J L
theorem a1(i:Nat)(h:PED X (.Name x p) (dVar i):=by exact dv _):PAD X [.Name x p] (aF (dVar i) cF):=ac h bK
theorem a2(i j:Nat)(h:PED X (.Name x p) (dVar i):=by exact dv _)(b:PAD X [.Name y q] (aF (dVar j) cF):=by exact a1 _):PAD X [.Name x p,.Name y q] (aF (dVar i) (aF (dVar j) cF)):=ac h b
theorem a3(i j k:Nat){z:Str}{r:Pos}(h:PED X (.Name x p) (dVar i):=by exact dv _)(b:PAD X [.Name y q,.Name z r] (aF (dVar j) (aF (dVar k) cF)):=by exact a2 _ _):PAD X [.Name x p,.Name y q,.Name z r] (aF (dVar i) (aF (dVar j) (aF (dVar k) cF))):=ac h b
theorem da1(h:PED X e te)(hs:starEach [e] X.env=(false,eval e X.env)::starEach [] X.env:=by rfl):PAD X [e] (aF te cF):=ac h bK hs
theorem dx(i:Nat){n j q}(h:PED X (.Name x p) (dVar i):=by exact dv _):PED X (.Subscript (.Name x p) (.Constant (.int n) j q) pos) (dOp gIx (dVar i) (dC (.int n))):=dix h ad
theorem dr(h:PED X e te):PSsD X [.Return (some e) pos] (dRet te):=ai (GY h)
theorem dif{a:ab Stmt}{b:DT}{u:DTS}(J:PTD X o b)(c:PSsD X a u):PSD X (.If o a [] pos) (dIfS b u rX):=JP J c Eh
theorem dir{b:DT}(J:PTD X o b)(h:PED X e te):PSD X (.If o [.Return (some e) p] [] pos) (dIfS b (dRet te) rX):=dif J (dr h)
theorem dnv{st:Stmt}:PSsD X [st] Cj:=ai nz
theorem dln{g:DSp}(J:CallD X (.builtin "len") g)(b:X.mg "len" = none)(h:PED X e te)(he:starEach [e] X.env=(false,eval e X.env)::starEach [] X.env:=by rfl)(L:Gl X "len":=by rfl):PED X (.Call (.Name "len" p) [e] [] pos) (dCB g (aF te cF)):=aZ J b zxM (ac h bK he) L (he:=he)
theorem dgt{es:ab dy}{g:DGs}(n:Nat)(h:PGsD X es g)(L:X.calm=true:=by rfl)(b:(assignEach es X.env).length=n:=by rfl)(J:(assignEach es X.env).findIdx? (·.1)=none:=by rfl):PGD X (.Tuple es k pos) (rY n g):=Hb L h b J
theorem dg2(i j:Nat)(b:PGD X (.Name x p) (bc i):=by first|exact dgn _|exact dgb _)(c:PGD X (.Name y q) (bc j):=by first|exact dgn _|exact dgb _)(J:X.calm=true:=by rfl):PGD X (.Tuple [.Name x p,.Name y q] k pos) (rY 2 (eQ (bc i) (eQ (bc j) wu))):=dgt 2 (ji b (ji c yG)) J
end
end
end DL
namespace My
open PySem L2
variable{A B kk z:Str}{E:DEnds}{Q:ab D->Prop}{a m n:Nat}{az dX fa fc:bn}{b k:ab Int}{c d:Int×Int}{cC cS cT ce:Tok}{ds ys:ab D}{e:D}{h s x:Int}{hs ws:ab Str}{ks xs:ab (ab Int)}{q:Rat}{s' y:Sl}{α β:Type}
noncomputable def top(i:Nat):Stmt:=PySem.Challenge.pw_othersum_k60_whole_from_text_to_answer.main.body.getD i (.Pass ⟨0,0,0,0⟩)
noncomputable abbrev mf:Stmt:=top 43
theorem sG:FnScope ["many","pairs","found","kinds","counts","cells"] ["many","pairs"] (aj mf):=lu
noncomputable abbrev CA:Stmt:=top 56
theorem EM:FnScope ["table","a","b"] ["table","a","b"] (aj CA):=lu
noncomputable abbrev iK:Stmt:=top 60
theorem nL:FnScope ["table","house","tried"] ["table","house"] (aj iK):=lu
noncomputable abbrev uT:Stmt:=top 61
theorem zc:FnScope ["table","house","rows","weight","share"] ["table","house"] (aj uT):=lu
noncomputable abbrev mh:Stmt:=top 87
theorem sH:FnScope ["book","some"] ["book","some"] (aj mh):=lu
noncomputable abbrev mi:Stmt:=top 89
theorem sI:FnScope ["book","some"] ["book","some"] (aj mi):=lu
noncomputable abbrev mj:Stmt:=top 152
theorem sJ:FnScope ["_law_script"] ["_law_script"] (aj mj):=lu
noncomputable abbrev kh:Stmt:=top 153
theorem sc__law_next:FnScope ["_law_pen_here","_law_many","_law_script","_law_turn","_law_left","_law_cell","_law_number"] ["_law_pen_here","_law_many"] (aj kh):=lu
noncomputable abbrev HU:Stmt:=top 166
theorem sc_law:FnScope ["_law_script","_law_pen_here","_law_turn","_law_houses","_law_marks","_law_word","_law_many","_law_cells_here","_law_rows","_law_text_here","_law_sets_here","_law_tables","_law_some","_law_words_here","_law_whole","_law_desk","_law_a","_law_told"] ["_law_script"] (aj HU):=lu
noncomputable abbrev bO:Stmt:=xT (top 133) 0
theorem sc_Desk_init:FnScope ["self","text","told"] ["self","text"] (aj bO):=⟨rfl,rfl,rfl,by decide +kernel,rfl,by decide +kernel,by decide +kernel⟩
noncomputable abbrev cw:Stmt:=xT (top 133) 1
theorem sK:FnScope ["self","row","words"] ["self","row"] (aj cw):=⟨rfl,rfl,rfl,by decide +kernel,rfl,by decide +kernel,by decide +kernel⟩
noncomputable def dP:ab (Str×PyProof.Rows.KTD.Dat):=[("show",.tup [.int 1,.int 1]),("whole",.tup [.int 1,.int 1]),("ranks",.tup [.int 1,.int 1]),("back",.tup [.int 1,.int 1]),("parts",.tup [.int 1,.none]),("turn",.tup [.int 3,.none]),("push",.tup [.int 3,.none]),("gap",.tup [.int 3,.none]),("level",.tup [.int 3,.none]),("knots",.tup [.int 3,.none]),("marks",.tup [.int 3,.int 3]),("few",.tup [.int 3,.int 3]),("hide",.tup [.int 6,.int 10])]
set_option genInjectivity false in
set_option genSizeOf false in
structure Ta(K:zwW)(mg:Str->Option Value) where
 gQ:Dd K mg "greatest_divisor" (top 15) ["one","other"]
 xa:Dd K mg "ratio_of" (top 16) ["top","bottom"]
 IR:Dd K mg "plus" (top 17) ["one","other"]
 FC:Dd K mg "minus" (top 18) ["one","other"]
 d_times:Dd K mg "times" (top 19) ["one","other"]
 IT:Dd K mg "over" (top 20) ["one","other"]
 IY:Dd K mg "less" (top 21) ["one","other"]
 d_total:Dd K mg "total" (top 22) ["ratios"]
 Ag:Dd K mg "common_bottom" (top 24) ["ratios"]
 FF:Dd K mg "top_over" (top 25) ["ratio","bottom"]
 xm:Dd K mg "is_whole" (top 27) ["thing"]
 tT:Dd K mg "is_within" (top 28) ["thing","least","most"]
 xo:Dd K mg "together" (top 30) ["counts"]
 gd:Dd K mg "together_by_house" (top 31) ["many","rows"]
 xp:Dd K mg "share_of" (top 32) ["count"]
 Jb:Dd K mg "said" (top 33) ["one","other"]
 cV:Dd K mg "gathered" mf ["many","pairs"]
 xf:Dd K mg "is_tried" (top 44) ["counts"]
 kO:Dd K mg "counts_of_row" (top 45) ["row","many"]
 oA:Dd K mg "check_house" (top 51) ["many","house"]
 qS:Dd K mg "check_pair" (top 52) ["many","a","b"]
 tK:Dd K mg "houses_of" (top 53) ["table"]
 Ad:Dd K mg "sums_of" (top 55) ["table"]
 Ab:Dd K mg "says" CA ["table","a","b"]
 Ah:Dd K mg "turning" (top 57) ["table","a","b"]
 jc:Dd K mg "turned_or_kept" (top 58) ["number","whole"]
 fe:Dd K mg "weights_of" iK ["table","house"]
 oq:Dd K mg "mixing" uT ["table","house"]
 Aa:Dd K mg "ends_of" (top 62) ["table","house"]
 oH:Dd K mg "whole_count" (top 63) ["table","house"]
 tG:Dd K mg "whole_gap" (top 64) ["table","a","b"]
 tS:Dd K mg "shares_in" (top 65) ["table","house"]
 qU:Dd K mg "ends_among" (top 66) ["ratios"]
 vK:Dd K mg "check_same_parts" (top 72) ["table","a","b"]
 iD:Dd K mg "parts_by" mh ["book","some"]
 xk:Dd K mg "whole_of" (top 88) ["book"]
 iA:Dd K mg "table_by" mi ["book","some"]
 tO:Dd K mg "values_by" (top 90) ["kinds","some"]
 qW:Dd K mg "check_mark" (top 91) ["book","mark"]
 oG:Dd K mg "check_marks" (top 92) ["book","some"]
 IU:Dd K mg "push" (top 99) ["table","a","b"]
 kT:Dd K mg "push_to_level" (top 100) ["lead","reach"]
 Ca:Dd K mg "mixed_share" (top 101) ["table","house","weights"]
 d_reach:Dd K mg "reach" (top 103) ["table","a","b"]
 Jd:Dd K mg "levels" (top 105) ["table","a","b"]
 vJ:Dd K mg "rising" (top 106) ["shares"]
 IZ:Dd K mg "show" (top 111) ["names","book"]
 vL:Dd K mg "read" (top 112) ["text"]
 jb:Dd K mg "is_houses_line" (top 113) ["words"]
 xj:Dd K mg "marks_of" (top 114) ["lines"]
 lF:Dd K mg "is_mark_line" (top 115) ["words","taken"]
 zZ:Dd K mg "rows_of" (top 116) ["lines","names"]
 tN:Dd K mg "is_behind" (top 117) ["row","other"]
 BW:Dd K mg "row_of" (top 118) ["words","names"]
 tH:Dd K mg "are_names" (top 119) ["words"]
 Ai:Dd K mg "is_name" (top 120) ["word"]
 tV:Dd K mg "is_number" (top 121) ["word"]
 tW:Dd K mg "turned_by" (top 127) ["book","a","b"]
 zY:Dd K mg "choices" (top 128) ["many"]
 BX:Dd K mg "longer" (top 129) ["tuples","many"]
 gR:Dd K mg "has_right_length" (top 134) ["words"]
 oE:Dd K mg "marks_named" (top 135) ["names"]
 xg:Dd K mg "place_of" (top 136) ["word","words"]
 BY:Dd K mg "answer" (top 138) ["names","book","words"]
 qP:Dd K mg "some_marks" (top 139) ["names","words"]
 tQ:Dd K mg "table_for" (top 143) ["book","some","a","b"]
 lI:Dd K mg "table_answer" (top 144) ["names","word","table","a","b"]
 tJ:Dd K mg "said_name" (top 145) ["names","number","a","b"]
 FB:Dd K mg "named" (top 147) ["names","places","sign"]
 ou:Dd K mg "all_or_none" (top 148) ["found","sign"]
 rm:Dd K mg "ratio_text" (top 149) ["ratio"]
 qR:Dd K mg "count_text" (top 150) ["count"]
 dZ:Dd K mg "_law_pen" mj ["_law_script"]
 gh:Dd K mg "_law_next" kh ["_law_pen_here","_law_many"]
 qV:Dd K mg "_law_words" (top 154) ["_law_pen_here","_law_many"]
 oC:Dd K mg "_law_uneven" (top 155) ["_law_pen_here"]
 qZ:Dd K mg "_law_cells" (top 156) ["_law_pen_here","_law_sizes","_law_many"]
 tI:Dd K mg "_law_text" (top 157) ["_law_names","_law_cells_here"]
 rq:Dd K mg "_law_parts" (top 158) ["_law_cells_here","_law_some","_law_many"]
 tX:Dd K mg "_law_said" (top 159) ["_law_one","_law_other"]
 xb:Dd K mg "_law_due" (top 160) ["_law_parts_here","_law_whole","_law_a","_law_b"]
 xc:Dd K mg "_law_can" (top 161) ["_law_parts_here","_law_a","_law_b"]
 tY:Dd K mg "_law_sets" (top 162) ["_law_many"]
 kQ:Dd K mg "_law_words_of" (top 163) ["_law_due_here","_law_names"]
 iB:Dd K mg "_law_pair_right" (top 164) ["_law_desk","_law_houses","_law_tables","_law_whole","_law_a","_law_b"]
 gi:Dd K mg "_law_tables_right" (top 165) ["_law_book","_law_tables","_law_sets_here","_law_whole"]
 Ac:Dd K mg "law" HU ["_law_script"]
 Dg:mg "ValueError" = none
 z_abs:mg "abs" = none
 IW:mg "sum" = none
 cz:mg "tuple" = none
 KH:mg "any" = none
 FD:mg "all" = none
 bv:mg "len" = none
 dg:mg "enumerate" = none
 BZ:mg "zip" = none
 z_min:mg "min" = none
 Aj:mg "list" = none
 jt:mg "sorted" = none
 bI:mg "range" = none
 oF:mg "int" = none
 cI:mg "isinstance" = none
 z_max:mg "max" = none
 iZ:mg "str" = none
 IV:mg "bool" = none
 IS:mg "set" = none
set_option genInjectivity false in
structure Tx[DL.TB](K:zwW)(mg:Str->Option Value) extends Ta K mg where
 az:Addr
 Fw:mg "Desk" = some (.ref az)
 dX:Addr
 mJ:mg "LENGTHS" = some (.ref dX)
 ce:Tok
 kR:mg "LEAST_HOUSES" = some (.int 2 ce)
 cC:Tok
 lE:mg "MOST_HOUSES" = some (.int 6 cC)
 cS:Tok
 oz:mg "MOST_MARKS" = some (.int 5 cS)
 cT:Tok
 oB:mg "MOST_KINDS" = some (.int 6 cT)
 cg:Tok
 kX:mg "LONGEST_NAME" = some (.int 8 cg)
 cf:Tok
 kW:mg "MOST_FIGURES" = some (.int 30 cf)
 dG:Cls K az
 gS:NoAttr K az "names"
 iP:NoAttr K az "book"
 qT:NoAttr K az "past"
 gg:Addr
 eZ:FuncData
 tF:Fun K "__init__" "Desk.__init__" bO gg eZ
 tM:Binds K eZ ["self","text"] []
 qY:L2.Mk K az gg
 iC:Addr
 gf:FuncData
 xl:Fun K "say" "Desk.say" cw iC gf
 dY:Binds K gf ["self","row"] []
 df:Meth K az "say" iC
 mK:DL.TabK K dX dP
 fc:∃c P,vJ.fd.code=.ref c/\PySem.W.codeHdIn K c P=true/\DL.TB.tb.lookup P=some ("rising.<locals>.<lambda>" : Str)
open DL
section
variable{P:ef}{w:World}{K:zwW}{mg:Str->ca bb}{base:cm}[DL.TB]
theorem sL(T:Tx K mg):T.dZ.Ok P w base CX0 1 (Cf K):=by
 refine T.dZ.d.F.ok sJ (λi H Q E h=>?_) (λcdv A outer s H i Q E hr h=>?_)
 ·obtain⟨a,g,rfl,_⟩:=h;rfl
 ·obtain⟨a,g,rfl,hs,k⟩:=h;refine⟨_,(dA (jv (ug (aQ (pv 0) (aQ bA (aQ bA bD)))))),?_⟩;refine⟨_,rfl,(by show (3:Nat)<=sizeLine;decide),λp J=>?_⟩;refine k p _ J ⟨ae,?_,zzN 0⟩ (ur J);rcases hs with ⟨o,e⟩|e
  ·exact .inl ⟨o,cW J e⟩
  ·exact .inr e
theorem qe(T:Tx K mg):T.gh.Ok P w base CX0 1 (xX K):=by
 refine T.gh.d.F.ok sc__law_next (λC H Q E h=>?_) (λcdv A outer s H C Q E hr h=>?_)
 ·obtain⟨p,a,o,t,l,m,rfl,_⟩:=h;rfl
 ·obtain⟨p,a,o,t,l,m,rfl,pen,m1,m2,k⟩:=h;refine⟨_,(aU (lK (pv 0) (GE rfl (jd (mP (i:=2) sc__law_next.nd rfl (Or.inl rfl)) (jd (mP (i:=3) sc__law_next.nd rfl (Or.inl rfl)) (jd (mP (i:=4) sc__law_next.nd rfl (Or.inl rfl)) xv)))))
   (aU (Ao (jx Jp (pv 4) bA (lM _)) (aU (lK (cP jw (pv 3) bA) (ud (pv 0) bA je))
   (aU (Ao (PW.pt (FQ (jx Jr (pv 3) (fg cD rfl T.bv zxM (aQ (pv 2) bD)) (lM _)) (Cb (jx Gg (kZ mS (pv 2) (pv 3) (λ_ _=>rfl)) (cP Ga bA bA) (lM _))))) (aU (fL (i:=5) sc__law_next.nd rfl (Or.inl rfl) bA)
   (aU (Ao (jx Gh (fg cD rfl T.bv zxM (aQ (pv 2) bD)) bA (lM _)) (dA (fL (i:=5) sc__law_next.nd rfl (Or.inl rfl) (cP iF (kZ mS (pv 2) (cP iF (pv 3) (fg cD rfl T.bv zxM (aQ (pv 2) bD))) (λ_ _=>rfl)) bA))) mM)
   (aU (fL (i:=6) sc__law_next.nd rfl (Or.inl rfl) (cP iF (cP gX (cP jw (cP jw (pv 5) (cP gX bA (pv 3))) bA) bA) bA))
   (aU (fL (i:=6) sc__law_next.nd rfl (Or.inl rfl) (cP iF (cP jw (cP jw (cP gX (pv 6) (pv 6)) (cP gX bA (pv 3))) bA) bA))
   (dA (jv (cP iF (cP uq (cP iF (cP gX (pv 6) (cP jw (pv 6) bA)) bA) bA) (pv 1)))))))) mM)
   (dA (fL (i:=4) sc__law_next.nd rfl (Or.inl rfl) (kZ mS (pv 2) (pv 3) (λ_ _=>rfl)))))) mM)
   (aU (lK (cP uq (pv 4) (pv 1)) (ud (pv 0) bA je))
   (dA (jv (cP iF (pv 4) (pv 1))))))),?_⟩
  have L:=pen.t0;have g:(0:Int)<m:=by lia
  refine⟨_,rfl,p,_,rfl,pen.lst,rfl,_,_,rfl,_,_,rfl,_,_,rfl,rfl,?_⟩;refine⟨_,rfl,rfl,_,rfl,?_⟩;refine ite2 (λv=>?_) (λv=>?_)
  ·
   refine⟨_,rfl,_,_,rfl,rfl,_,rfl,p,_,1,1,rfl,rfl,pen.lst,rfl,?_⟩;have J:Pen K (upd H p (.lst [.ref a,.int (t+1),.int l])) p a o (t+1) l:=pen.put (by lia);have sq:=J.scr.sq;refine⟨_,rfl,_,rfl,a,_,rfl,.inl sq,_,_,rfl,rfl,_,rfl,?_⟩;refine ite2 (λj=>iteT ?_) (λj=>⟨_,rfl,_,rfl,a,_,t,_,rfl,rfl,sq,xV L (by simp only[zyJ,zza]at j;lia),_,_,rfl,rfl,⟨by decide,by decide,by decide⟩,_,_,rfl,rfl,_,rfl,ite2 (λu=>?_) (λu=>?_)⟩)
   rotate_left 2
   ·
    simp only[zyJ,zza]at j;refine⟨_,rfl,_,rfl,a,_,t,_,rfl,rfl,sq,xV L (by lia),?_⟩;refine⟨_,rfl,_,rfl,_,_,rfl,rfl,⟨g,xY (by lia) (by lia)⟩,_,rfl,p,_,2,2,rfl,rfl,J.lst,rfl,?_⟩;refine⟨_,rfl,_,rfl,_,_,rfl,rfl,g,?_⟩;exact k _ (t+1) _ _ (zyU _ (by lia)) (zyC _ g) (J.put (by lia)) (SBut.upd.trans SBut.upd)
   all_goals
    refine⟨_,rfl,a,_,rfl,.inl sq,_,_,rfl,rfl,_,rfl,?_⟩;refine ite2 (λr=>?_) (λr=>?_)
    ·simp only[zyJ,zza]at r;refine⟨_,rfl,_,rfl,_,rfl,a,_,rfl,.inl sq,_,_,rfl,rfl,(by show (0:Int)<((o.map V.int).length:Int);rw[zza];lia),a,_,_,_,rfl,rfl,sq,xV (by rw[zza];exact zyU _ (by lia)) (by rw[zza];exact zyC _ (by lia)),_,_,rfl,rfl,mpos,?_⟩;refine⟨_,rfl,_,rfl,_,_,rfl,rfl,AD,_,_,rfl,rfl,_,_,rfl,rfl,_,_,rfl,rfl,GF,_,_,rfl,rfl,mpos,?_⟩;refine⟨_,rfl,_,rfl,_,_,rfl,rfl,nj (by decide) (by decide),_,rfl,_,_,rfl,rfl,AD,_,_,rfl,rfl,_,_,rfl,rfl,_,_,rfl,rfl,mpos,?_⟩;refine⟨_,rfl,_,rfl,_,_,rfl,rfl,_,_,rfl,rfl,nj (by decide) (by decide),_,_,rfl,rfl,mpos,_,_,rfl,rfl,⟨by decide,pA (by decide) (by decide)⟩,_,rfl,_,_,rfl,rfl,g,?_⟩;exact k _ (t+1) _ _ (zyU _ (by lia)) (zyC _ g) J SBut.upd
    ·refine⟨_,rfl,_,rfl,_,_,rfl,rfl,AD,_,_,rfl,rfl,_,_,rfl,rfl,_,_,rfl,rfl,GF,_,_,rfl,rfl,mpos,?_⟩;refine⟨_,rfl,_,rfl,_,_,rfl,rfl,nj (by decide) (by decide),_,rfl,_,_,rfl,rfl,AD,_,_,rfl,rfl,_,_,rfl,rfl,_,_,rfl,rfl,mpos,?_⟩;refine⟨_,rfl,_,rfl,_,_,rfl,rfl,_,_,rfl,rfl,nj (by decide) (by decide),_,_,rfl,rfl,mpos,_,_,rfl,rfl,⟨by decide,pA (by decide) (by decide)⟩,_,rfl,_,_,rfl,rfl,g,?_⟩;exact k _ (t+1) _ _ (zyU _ (by lia)) (zyC _ g) J SBut.upd
  ·
   refine⟨_,rfl,_,rfl,_,_,rfl,rfl,⟨g,xY (by lia) (by lia)⟩,_,rfl,p,_,2,2,rfl,rfl,pen.lst,rfl,?_⟩;refine⟨_,rfl,_,rfl,_,_,rfl,rfl,g,?_⟩;exact k _ t _ _ (zyU _ (by lia)) (zyC _ g) (pen.put L) SBut.upd
theorem aC(T:Tx K mg):T.gh.Ok P w base CX0 1 (spD K 2 AZ):=En (qe T)
noncomputable def HV:D->Bool
 |.int _=>true|_=>false
def gW:DSp:=λds Q=>match ds with
 |[d]=>AY d=true/\Q (.bl (HV d))|_=>False
theorem wB(T:Tx K mg):T.xm.Ok P w base CX0 1 (spD K 1 gW):=by
 refine fnd ["thing"] (λhr _=>(dr (gx (aZ yJ T.cI rfl (ac (dv 0) (da1 (yD rfl T.oF rfl)))) (gw (GW (aZ wv T.cI rfl (ac (dv 0) (da1 (yD rfl T.IV rfl))))))))) (λds Q hl h=>?_);unfold gW at h;split at h
 case h_2=>exact h.elim
 rename_i d;obtain⟨g,h⟩:=h;refine⟨rfl,g,?_⟩;cases d with
 |int i=>exact Br.t ⟨rfl,g,h⟩|bl i=>exact Br.t ⟨rfl,g,h⟩|_=>exact Br.f h
noncomputable def aq(c:Int×Int):D:=.tup [.int c.1,.int c.2]
def gTog:DSp:=λds Q=>match ds with
 |[.lst xs]=>∃g:ab (Int×Int),xs=g.map aq/\g.length<=1000/\Q (.tup [.int (g.map (·.1)).sum,.int (g.map (·.2)).sum])|[.tup xs]=>∃g:ab (Int×Int),xs=g.map aq/\g.length<=1000/\Q (.tup [.int (g.map (·.1)).sum,.int (g.map (·.2)).sum])|_=>False
theorem Ki{g:ab (Int×Int)}{s:Sl}(U:g.length<=1000)(j:Q ((g.map (·.1)).map D.int)):bU (bc 0) bG (dOp gIx (dVar 0) (dC (.int 0))) (g.map aq) [] [s] Q:=by refine aA (D.int ∘ (·.1)) (λi=>∃s,i=[s]) (zzl U (by decide)) (λc _ i Y Z J L=>?_) _ ⟨_,rfl⟩ (by rw[←zzo];exact j);obtain⟨s,rfl⟩:=J;exact Br.t (L _ ⟨_,rfl⟩)
theorem Kj{g:ab (Int×Int)}{s:Sl}(U:g.length<=1000)(j:Q ((g.map (·.2)).map D.int)):bU (bc 0) bG (dOp gIx (dVar 0) (dC (.int 1))) (g.map aq) [] [s] Q:=by refine aA (D.int ∘ (·.2)) (λi=>∃s,i=[s]) (zzl U (by decide)) (λc _ i Y Z J L=>?_) _ ⟨_,rfl⟩ (by rw[←zzo];exact j);obtain⟨s,rfl⟩:=J;exact Br.t (L _ ⟨_,rfl⟩)
theorem wC(T:Tx K mg):T.xo.Ok P w base CX0 1 (spD K 1 gTog):=by
 refine fnd ["counts","tried","well"] (λhr _=>(aa (dse 1 (aZ Cp T.IW PyProof.Rows.boot_sum (da1 (dfc (ao ["count"] [none] rfl (Cq (dv 0)) (dgb 0) ax (dx 0)))))) (aa (dse 2 (aZ Cp T.IW PyProof.Rows.boot_sum (da1 (dfc (ao ["count"] [none] rfl (Cq (dv 0)) (dgb 0) ax (dx 0)))))) (dr (ay (a2 1 2)))))) (λds Q hl h=>?_);unfold gTog at h;split at h
 case h_3=>exact h.elim
 all_goals
  obtain⟨cs,rfl,J,h⟩:=h;refine Ki J (yQ ?_);refine Kj J (yQ ?_);exact⟨sz,h⟩
noncomputable def dj(t w t' J:Int):D:=if t=0∨t'=0 then .non else if t*J<w*t' then .int 1 else if w*t'<t*J then .int (-1) else .int 0
def Bs:DSp:=λds Q=>match ds with
 |[.tup [.int t,.int w],.tup [.int g,.int J]]=>(Bd 7000 t/\Bd 7000 w/\Bd 7000 g/\Bd 7000 J)/\Q (dj t w g J)|_=>False
theorem CB(T:Tx K mg):T.Jb.Ok P w base CX0 1 (spD K 2 Bs):=by
 refine fnd ["one","other","first","second"] (λY _=>(aa (dir (PWD.pt (gv (ah (aW Y) (dx 0) ad) (dM (ah (aW Y) (dx 1) ad)))) dn) (aa (dse 2 (ar bR (dx 0) (dx 1))) (aa (dse 3 (ar bR (dx 1) (dx 0))) (aa (dir (ah ik (dv 2) (dv 3)) ad) (aa (dir (ah AX (dv 2) (dv 3)) (fJ cN ad)) (dr ad))))))) (λds Q hl h=>?_);unfold Bs at h;split at h
 case h_2=>exact h.elim
 rename_i t w t' J;obtain⟨⟨g,i,j,l⟩,h⟩:=h;unfold dj at h;refine⟨⟨rfl,rfl⟩,λe=>Br.t ?_,λe=>⟨⟨rfl,rfl⟩,λU=>?_,λU=>?_⟩⟩
 ·have e:t=0:=by simpa[aK]using e
  rw[zzk (.inl e)]at h;exact h
 ·have U:t'=0:=by simpa[aK]using U
  rw[zzk (.inr U)]at h;exact h
 ·have e:t≠0:=by simpa[aK]using e
  have U:t'≠0:=by simpa[aK]using U
  rw[zzh (by simp[e,U])]at h;refine⟨i.cmul j,l.cmul g,⟨λc=>?_,λc=>⟨λL=>?_,λL=>?_⟩⟩⟩
  ·have c:J*t<w*t':=by simpa using c
   rw[zzk (by rw[zxN t J];exact c)]at h;exact h
  ·have c:¬J*t<w*t':=by simpa using c
   have L:w*t'<J*t:=by simpa using L
   rw[zzh (by rw[zxN t J];exact c),zzk (by rw[zxN t J];exact L)]at h;exact h
  ·have c:¬J*t<w*t':=by simpa using c
   have L:¬w*t'<J*t:=by simpa using L
   rw[zzh (by rw[zxN t J];exact c),zzh (by rw[zxN t J];exact L)]at h;exact h
structure Cnt(n:Nat)(t w:Int):Prop where
 lo:0 <= w
 hi:w <= t
 bt:Bd n t
 bw:Bd n w
theorem Cnt.mono{m n:Nat}{t w:Int}(h:Cnt m t w)(l:m<=n):Cnt n t w:=⟨h.lo,h.hi,h.bt.mono l,h.bw.mono l⟩
theorem mq{w:Int}(lo:0<=w)(g:w<=h)(b:Bd n h):Cnt n h w:=⟨lo,g,b,b.le (by lia)⟩
noncomputable abbrev Row:=ab (Int×Int)
variable{g:ab (ab Int×ab Row)}{p:ab Int×Row}{ps qs:ab (ab Int×Row)}{r:Row}
noncomputable def rowD(r:Row):D:=.tup (r.map aq)
def RowN(n m:Nat)(r:Row):Prop:=r.length=m/\∀c∈r,Cnt n c.1 c.2
noncomputable abbrev wD(m:Nat)(r:Row):Prop:=RowN 200 m r
theorem RowN.up(o:RowN n m r)(h:n<=200:=by decide):wD m r:=⟨o.1,λc J=>(o.2 c J).mono h⟩
structure Tbl(m:Nat)(t:List Row):Prop where
 m2:2 <= m
 m6:m <= 6
 p1:1 <= t.length
 p60:t.length <= 100
 rows:∀r∈t,wD m r
noncomputable def at_(r:Row)(h:Nat):Int×Int:=r.getD h (0,0)
noncomputable def col(t:ab Row)(h:Nat):ab (Int×Int):=t.map λr=>at_ r h
noncomputable def sumP(cs:ab (Int×Int)):Int×Int:=((cs.map (·.1)).sum,(cs.map (·.2)).sum)
noncomputable def sums(t:ab Row)(m:Nat):Row:=(List.range m).map λh=>sumP (col t h)
theorem eJ(o:RowN n m r){h:Nat}(i:h<m):r[h]?=some (at_ r h)/\Cnt n (at_ r h).1 (at_ r h).2:=by
 have j:h<r.length:=by rw[o.1];exact i
 have e:r[h]?=some (at_ r h):=by unfold at_;simp[j]
 exact⟨e,o.2 _ (zyb e)⟩
theorem ki(o:RowN n m r){Q:D->Prop}(h0:0<=h)(h1:h<m)(q:Q (aq (at_ r h.toNat))):opt (atI (r.map aq) h) Q:=by refine au h0 ?_ q;rw[zzr,(eJ o (by lia)).1];rfl
def HW:DSp:=λds Q=>match ds with
 |[.int x,.int lo,.int i]=>(lo<=x/\x<=i)/\Q (.bl true)|_=>False
theorem kj(T:Tx K mg):T.tT.Ok P w base CX0 2 (spD K 3 HW):=by
 refine fnd ["thing","least","most"] (λJ _=>(dr (gx (dcl (wB T) J (a1 0)) (gw (gy iW iW (dv 1) (dv 0) (dv 2)))))) (λds Q hl h=>?_);unfold HW at h;split at h
 case h_2=>exact h.elim
 rename_i x lo o;obtain⟨⟨j,l⟩,h⟩:=h;have i:Q (.bl (decide (x<=o))):=by rw[zzp l];exact h
 exact⟨rfl,rfl,Br.t (Br.dt j i)⟩
def gChH:DSp:=λds Q=>match ds with
 |[.int m,.int h]=>(0<=h/\h<m)/\Q .non|_=>False
theorem eD(T:Tx K mg):T.oA.Ok P w base CX0 3 (spD K 2 gChH):=by
 refine fnd ["many","house"] (λJ _=>(ai (dif (cj (bV (dcl (kj T) J (ac (dv 1) (ac ad (da1 (ar jW (dv 0) ad))))))) dnv))) (λds Q hl h=>?_);unfold gChH at h;split at h
 case h_2=>exact h.elim
 obtain⟨⟨i,h2⟩,h⟩:=h;exact⟨rfl,⟨i,by lia⟩,Br.f h⟩
def gHs:DSp:=λds Q=>match ds with
 |[.lst (.tup xs::_)]=>Q (.int xs.length)|_=>False
theorem eE(T:Tx K mg):T.tK.Ok P w base CX0 1 (spD K 1 gHs):=by
 refine fnd ["table"] (λhr _=>(dr (dln aX T.bv (dx 0)))) (λds Q hl h=>?_);unfold gHs at h;split at h
 case h_2=>exact h.elim
 exact au (zzN 0) rfl h
theorem fv{t:ab Row}(o:Tbl m t){Q:D->Prop}(q:Q (.int m)):gHs [.lst (t.map rowD)] Q:=by
 cases t with
 |nil=>have:=o.p1;simp at this|cons r rest =>
  have:=(o.rows r zze).1;show Q (.int ((r.map aq).length:Nat));rw[zza,this];exact q
theorem Bt{t:ab Row}(G:∀r∈t,wD m r)(C:t.length<=1000)(h0:0<=h)(u:h<m){s:Sl}(q:Q ((col t h.toNat).map aq)) :
  bU (bc 0) bG (dOp gIx (dVar 0) (dVar 1)) (t.map rowD) [] [s,.val (.int h)] Q:=by
 refine aH (λpre J l=>∃i j:ab Row,t=i++j/\pre=i.map rowD/\J=(col i h.toNat).map aq/\∃s,l=[s,.val (.int h)]) (λJ l L=>?_) (λpre d post J l Y e L v=>?_) _ ⟨[],t,rfl,rfl,rfl,_,rfl⟩
 ·obtain⟨i,j,rfl,e,rfl,_⟩:=L;have:j=[]:=by
   have:=congrArg List.length e;simp at this;exact this
  subst this;simpa using q
 ·obtain⟨i,j,rfl,rfl,rfl,s,rfl⟩:=L;rw[zzc]at e;have e:=zzz e;cases j with
  |nil=>simp at e|cons r j =>
   injection e with U e2;subst U;have o:=G r (by simp);refine Br.t (ki o h0 u ⟨?_,v _ _ ⟨i++[r],j,by simp,by simp,by simp[col],_,rfl⟩⟩);rw[zza];unfold col;rw[zza];have:i.length<=1000:=by rw[zzg]at C;lia
   exact zzw this (by decide)
def gTbh:DSp:=λds Q=>match ds with
 |[.int m,.lst xs]=>∃(n:Nat) (t:ab Row),m=n/\xs=t.map rowD/\(n<=6/\t.length<=1000/\∀r∈t,wD n r)/\Q (rowD (sums t n))|_=>False
theorem km:∀(n:Nat) (lo:Int),dh lo n=(List.range n).map λ(i:Nat)=>D.int (lo+i)
 |0,_=>rfl|n+1,lo=>by
  rw[zwv,zzj,zzo,dh,km n (lo+1)];congr 1
  ·simp
  ·apply zzF;lia
theorem bP(T:Tx K mg):T.gd.Ok P w base CX0 2 (spD K 2 gTbh):=by
 refine fnd ["many","rows"] (λv _=>(dr (al bM T.cz (da1 (dfc (ao ["house","rows"] [none,some 1] rfl (bd T.bI (a1 0)) (dgb 0) ax (dcl (wC T) v (da1 (dfc (ao ["row","house"] [none,some 0] rfl (aB (dv 1)) (dgb 0) ax (dix (dv 0) (dv 1)))))))))))) (λds Q hl h=>?_);unfold gTbh at h;split at h
 case h_2=>exact h.elim
 obtain⟨n,t,rfl,rfl,⟨o,J,u⟩,h⟩:=h;refine⟨⟨by lia,by lia⟩,?_⟩;rw[zzC,km];refine aA (λi:Nat=>aq (sumP (col t (0+(i:Int)).toNat))) (λl=>∃s,l=[s,.val (.lst (t.map rowD))]) ?_ (λi j l Y Z L U=>?_) _ ⟨_,rfl⟩ ?_
 ·rw[zyI];exact zzl o (by decide)
 ·obtain⟨s,rfl⟩:=L;have j:=zyo.mp j;refine Br.t (Bt u J (by lia) (by lia) ⟨rfl,col t (0+(i:Int)).toNat,rfl,?_,U _ ⟨_,rfl⟩⟩);unfold col;rw[zza];exact J
 ·show Q (.tup (List.map _ (List.range n)));have e:(List.range n).map (λi:Nat=>aq (sumP (col t (0+(i:Int)).toNat)))=(sums t n).map aq:=by
   unfold sums;rw[zzo];apply zzF;intro i _;congr 3;lia
  rw[e];exact h
def HX:DSp:=λds Q=>match ds with
 |[.lst xs]=>∃(n:Nat) (t:ab Row),xs=t.map rowD/\Tbl n t/\Q (rowD (sums t n))|_=>False
theorem qf(T:Tx K mg):T.Ad.Ok P w base CX0 3 (spD K 1 HX):=by
 refine fnd ["table"] (λJ _=>(dr (dcl (bP T) J (ac (dcl (eE T) J (a1 0)) (a1 0))))) (λds Q hl h=>?_);unfold HX at h;split at h
 case h_2=>exact h.elim
 obtain⟨n,t,rfl,o,h⟩:=h;refine⟨rfl,fv o ⟨rfl,n,t,rfl,rfl,⟨o.m6,zzl o.p60 (by decide),o.rows⟩,h⟩⟩
def gChP:DSp:=λds Q=>match ds with
 |[.int m,.int a,.int b]=>(0<=a/\a<m/\0<=b/\b<m/\a≠b)/\Q .non|_=>False
theorem dw(T:Tx K mg):T.qS.Ok P w base CX0 4 (spD K 3 gChP):=by
 refine fnd ["many","a","b"] (λJ _=>(aa (dE (dcl (eD T) J (a2 0 1))) (aa (dE (dcl (eD T) J (a2 0 2))) (ai (dif (ah (aW J) (dv 1) (dv 2)) dnv))))) (λds Q hl h=>?_);unfold gChP at h;split at h
 case h_2=>exact h.elim
 obtain⟨⟨i,j,l,L,U⟩,h⟩:=h;refine⟨rfl,⟨i,j⟩,rfl,⟨l,L⟩,⟨rfl,rfl⟩,λz=>?_,λ_=>h⟩;exact absurd (by simpa[aK]using z) U
noncomputable def muG(ρ:DS):Nat:=match slot ρ 1 with
 |.val (.int y)=>y.natAbs|_=>0
theorem gH(T:Tx K mg):T.gQ.Ok P w base CX0 1 (spD K 2 gGcd):=by
 refine fnd ["one","other","rest"] (λY _=>(aw (uH (ah (fT Y) (dv 1) ad) (aa (dse 2 (ar Ei (dv 0) (dv 1))) (aa (dse 0 (dv 1)) (ai (dse 1 (dv 2)))))) (dr (aZ Hh T.z_abs rfl (a1 0))))) (λds Q hl h=>?_);unfold gGcd at h;split at h
 case h_2=>exact h.elim
 rename_i a b;refine⟨λi=>∃(x:Int) (s:Sl),i=[.val (.int x),.val (.int 0),s]/\Int.gcd x 0=Int.gcd a b,?_,?_⟩
 ·refine lY (λi=>∃(x y:Int) (s:Sl),i=[.val (.int x),.val (.int y),s]/\Int.gcd x y=Int.gcd a b) muG (λi X L U=>?_) _ ⟨a,b,_,rfl,rfl⟩;obtain⟨x,y,s,rfl,e⟩:=L;refine⟨⟨rfl,rfl⟩,λJ=>?_,λJ=>?_⟩
  ·have J:y≠0:=by simpa[aK]using J
   exact⟨J,U _ ⟨y,x.fmod y,_,rfl,by rw[Ra.gcd_step J,e]⟩ (Ra.fmod_less J)⟩
  ·have J:y=0:=by simpa[aK]using J
   subst J;exact⟨x,s,rfl,e⟩
 ·rintro _ ⟨x,s,rfl,e⟩;show Q (.int (if x<0 then -x else x));rw[Ra.gcd_zero,e];exact h
theorem dQ(T:Tx K mg):T.xa.Ok P w base CX0 2 (spD K 2 Co):=by
 refine fnd ["top","bottom","divisor"] (λY _=>(aa (dif (ah (aW Y) (dv 1) ad) dnv) (aa (dse 2 (dcl (gH T) Y (a2 0 1))) (aw (dif (ah AX (dv 1) ad) (ai (dse 2 (fJ cN (dv 2))))) (dr (ay (ac (ar uI (dv 0) (dv 2)) (da1 (ar uI (dv 1) (dv 2)))))))))) (λds Q hl h=>?_);unfold Co at h;split at h
 case h_2=>exact h.elim
 rename_i a b;obtain⟨⟨U,ba,i⟩,h⟩:=h;refine⟨⟨rfl,rfl⟩,λe=>?_,λ_=>?_⟩
 ·exact U (by simpa[aK]using e)
 refine⟨rfl,?_⟩;refine⟨λj=>∃d:Int,d=(if b<0 then -((Int.gcd a b:Nat):Int) else((Int.gcd a b:Nat):Int))/\j=[.val (.int a),.val (.int b),.val (.int d)],⟨λe=>?_,λe=>?_⟩,?_⟩
 ·have e:b<0:=by simpa using e
  exact⟨_,by rw[zzk e],rfl⟩
 ·have e:¬b<0:=by simpa using e
  exact⟨_,by rw[zzh e],rfl⟩
 ·rintro _ ⟨d,hd,rfl⟩;have hg:0<Int.gcd a b:=Int.gcd_pos_of_ne_zero_right a U;have hgb:Int.gcd a b<=b.natAbs:=Nat.le_of_dvd (Int.natAbs_pos.mpr U) (Int.gcd_dvd_natAbs_right a b);have J:d≠0:=by rw[hd];split<;>lia
  have L:Big d:=(i.le (by rw[hd];split<;>lia)).big (by decide);exact⟨⟨J,L⟩,⟨J,L⟩,sz,h _ _ (Ra.low_of U hd)⟩
theorem HY(T:Tx K mg):T.IR.Ok P w base CX0 3 (spD K 2 Ep):=by
 refine fnd ["one","other"] (λj _=>(dr (dcl (dQ T) j (ac (ar bB (ar bR (dx 0) (dx 1)) (ar bR (dx 1) (dx 0))) (da1 (ar bR (dx 0) (dx 1))))))) (λds Q hl h=>?_);unfold Ep gRR at h;split at h
 case h_2=>exact h.elim
 obtain⟨⟨Y,i,J,U,L⟩,h⟩:=h;exact⟨i.cmul L,U.cmul J,J.cmul L,rfl,⟨Y,((i.mul L).add (U.mul J)).mono (by decide),(J.mul L).mono (by decide)⟩,h⟩
theorem zd(T:Tx K mg):T.FC.Ok P w base CX0 3 (spD K 2 yN):=by
 refine fnd ["one","other"] (λj _=>(dr (dcl (dQ T) j (ac (ar jW (ar bR (dx 0) (dx 1)) (ar bR (dx 1) (dx 0))) (da1 (ar bR (dx 0) (dx 1))))))) (λds Q hl h=>?_);unfold yN gRR at h;split at h
 case h_2=>exact h.elim
 obtain⟨⟨Y,i,J,U,L⟩,h⟩:=h;exact⟨i.cmul L,U.cmul J,J.cmul L,rfl,⟨Y,((i.mul L).sub (U.mul J)).mono (by decide),(J.mul L).mono (by decide)⟩,h⟩
theorem HZ(T:Tx K mg):T.IT.Ok P w base CX0 3 (spD K 2 Er):=by
 refine fnd ["one","other"] (λj _=>(dr (dcl (dQ T) j (ac (ar bR (dx 0) (dx 1)) (da1 (ar bR (dx 0) (dx 1))))))) (λds Q hl h=>?_);unfold Er gRR at h;split at h
 case h_2=>exact h.elim
 obtain⟨⟨Y,i,J,L,U⟩,h⟩:=h;exact⟨i.cmul U,J.cmul L,rfl,⟨Y,(i.mul U).mono (by decide),(J.mul L).mono (by decide)⟩,h⟩
theorem uU(T:Tx K mg):T.IY.Ok P w base CX0 1 (spD K 2 Ba):=by
 refine fnd ["one","other"] (λhr _=>(dr (cE AX (ar bR (dx 0) (dx 1)) (ar bR (dx 1) (dx 0))))) (λds Q hl h=>?_);unfold Ba at h;split at h
 case h_2=>exact h.elim
 obtain⟨⟨i,J,L,U⟩,h⟩:=h;exact⟨i.cmul U,L.cmul J,h⟩
def qg:DSp:=λds Q=>match ds with
 |[.tup [.int t,.int w]]=>(Bd 7000 t/\Bd 7000 w)/\(t=0->Q .non)/\(t≠0->∀x y,Ra.Low w t x y->Q (.tup [.int x,.int y]))|_=>False
theorem fA(T:Tx K mg):T.xp.Ok P w base CX0 3 (spD K 1 qg):=by
 refine fnd ["count"] (λJ _=>(aa (dir (ah (aW J) (dx 0) ad) dn) (dr (dcl (dQ T) J (ac (dx 0) (da1 (dx 0))))))) (λds Q hl h=>?_);unfold qg at h;split at h
 case h_2=>exact h.elim
 rename_i t w;obtain⟨⟨i,L⟩,h0,j⟩:=h;refine⟨⟨rfl,rfl⟩,λe=>?_,λe=>?_⟩
 ·exact h0 (by simpa[aK]using e)
 ·have e:t≠0:=by simpa[aK]using e
  exact⟨rfl,⟨e,L,i⟩,j e⟩
noncomputable def kI(ks:ab Int):ab Key:=ks.map .inl
noncomputable def ak(ks:ab Int):D:=.tup (ks.map .int)
theorem cx(ks:ab Int):ak ks=keyD (kI ks):=by unfold keyD kI ak;rw[zzo];rfl
theorem iL{a:ab Int}(h:kI a=kI b):a=b:=by exact(zwU (λ_ _ e=>Sum.inl.inj e)).mp h
theorem wE{a:ab Int}:(kI a=kI b)↔a=b:=⟨iL,λe=>by rw[e]⟩
theorem uV(ks:ab Int):pI (kI ks):=λx J=>by obtain⟨i,_,rfl⟩:=zzf.mp J;exact⟨i,rfl⟩
noncomputable def addG(k:ab Int)(r:Row):ab (ab Int×ab Row)->ab (ab Int×ab Row)
 |[]=>[(k,[r])]|p::t=>if p.1=k then(p.1,p.2++[r])::t else p::addG k r t
noncomputable def grp(ps:ab (ab Int×Row)):ab (ab Int×ab Row):=ps.foldl (λg p=>addG p.1 p.2 g) []
theorem nM(ps:ab (ab Int×Row))(p:ab Int×Row):grp (ps++[p])=addG p.1 p.2 (grp ps):=by unfold grp;rw[zxG];rfl
noncomputable def emb(g:ab (ab Int×ab Row)):ab (ab Key×ab D):=g.map λp=>(kI p.1,p.2.map rowD)
noncomputable def embV(g:ab (ab Int×ab Row)):ab (ab Key×D):=g.map λp=>(kI p.1,.lst (p.2.map rowD))
theorem ze(k:ab Int)(r:Row):∀g,kb (kI k) (rowD r) (emb g)=emb (addG k r g)
 |[]=>rfl|p::t=>by
  show kb (kI k) (rowD r) ((kI p.1,p.2.map rowD)::emb t)=_;unfold kb addG;by_cases e:p.1=k
  ·rw[zzk (show (kI p.1,p.2.map rowD).1=kI k by rw[e]),zzk e];simp[emb]
  ·rw[zzh (show ¬(kI p.1,p.2.map rowD).1=kI k from λz=>e (iL z)),zzh e,ze k r t];rfl
theorem jq(k:ab Int)(r:Row):∀g:ab (ab Int×ab Row),(addG k r g).map (·.1)=if k∈g.map (·.1) then g.map (·.1) else g.map (·.1)++[k]
 |[]=>rfl|p::t=>by
  unfold addG;by_cases e:p.1=k
  ·rw[zzk e,zzk (by simp[e])];rfl
  ·rw[zzh e,zzj,jq k r t];by_cases m:k∈t.map (·.1)
   ·rw[zzk m,zzk (by rw[zzj];exact zzb _ m),zzj]
   ·rw[zzh m,zzh (by rw[zzj];intro z;rcases zzi.mp z with z|z;exact e z.symm;exact m z),zzj];rfl
structure GOk(C:List Int->Prop)(R:Row->Prop)(n:Nat)(g:List (List Int×List Row)):Prop where
 nd:(g.map (·.1)).Nodup
 it:∀p∈g,C p.1/\p.2≠[]/\p.2.length <= n/\∀r∈p.2,R r
 len:g.length <= n
theorem GOk.add{C:ab Int->Prop}{R:Row->Prop}(h:GOk C R n g)(j:C k)(U:R r):GOk C R (n+1) (addG k r g):=by
 refine⟨?_,?_,?_⟩
 ·rw[jq];split
  ·exact h.nd
  ·rename_i m;refine zxj.mpr ⟨h.nd,by simp,λa i b Y e=>?_⟩;rw[zzG.mp Y]at e;exact m (e ▸ i)
 ·have key:∀g:ab (ab Int×ab Row),(∀p∈g,C p.1/\p.2≠[]/\p.2.length<=n/\∀r∈p.2,R r)->∀p∈addG k r g,C p.1/\p.2≠[]/\p.2.length<=n+1/\∀r∈p.2,R r:=by
   intro g
   induction g with
   |nil =>
    intro _ p J;rw[zzG.mp J];exact⟨j,by simp,by simp,λx L=>by rw[zzG.mp L];exact U⟩
   |cons q t l =>
    intro h p J;unfold addG at J;split at J
    ·rcases zzi.mp J with rfl|J
     ·have:=h q zze;refine⟨this.1,by simp,by simp;exact this.2.2.1,λx L=>?_⟩;rcases zzA.mp L with L|L
      ·exact this.2.2.2 x L
      ·rw[zzG.mp L];exact U
     ·have:=h p (zzb _ J);exact⟨this.1,this.2.1,zwq this.2.2.1,this.2.2.2⟩
    ·rcases zzi.mp J with rfl|J
     ·have:=h p zze;exact⟨this.1,this.2.1,zwq this.2.2.1,this.2.2.2⟩
     ·exact l (λp J=>h p (zzb _ J)) p J
  exact key g h.it
 ·have:=congrArg List.length (jq k r g);rw[zza]at this;rw[this];split
  ·rw[zza];exact zwq h.len
  · simp;exact h.len
theorem mt{C:ab Int->Prop}{R:Row->Prop}:∀(ps:ab (ab Int×Row)),(∀p∈ps,C p.1/\R p.2)->GOk C R ps.length (grp ps):=by
 intro ps;generalize i:ps.length=n
 induction n generalizing ps with
 |zero =>
  intro _;have:ps=[]:=zzH.mp i;subst this;exact⟨zxm,λp J=>by simp[grp]at J,zzM _⟩
 |succ n U =>
  intro h;obtain⟨qs,p,rfl⟩:∃qs p,ps=qs++[p]:=⟨ps.dropLast,ps.getLast (by intro z;rw[z]at i;simp at i),(List.dropLast_concat_getLast _).symm⟩;rw[nM];have J:=h p (by simp);exact(U qs (by simp at i;exact i) λq L=>h q (by simp[L])).add J.1 J.2
noncomputable def aI(g:ab (ab Int×ab Row))(k:ab Int):ab Row:=((g.find? λp=>decide (p.1=k)).map (·.2)).getD []
theorem zg(h:k∈g.map (·.1)):∃p∈g,p.1=k/\aI g k=p.2/\bu (embV g) (kI k)=some (.lst (p.2.map rowD)):=by
 induction g with
 |nil=>simp at h|cons q t L =>
  by_cases e:q.1=k
  ·refine⟨q,zze,e,?_,?_⟩
   ·unfold aI;rw[zzX (by simpa using e)];rfl
   ·unfold bu embV;rw[zzj,zzX (by simpa[wE]using e)];rfl
  ·have j:k∈t.map (·.1):=by
    rcases zzi.mp h with h|h
    ·exact absurd h.symm e
    ·exact h
   obtain⟨p,l,o,i,J⟩:=L j;refine⟨p,zzb _ l,o,?_,?_⟩
   ·unfold aI at i ⊢;rw[zzY (by simpa using e)];exact i
   ·unfold bu embV at J ⊢;rw[zzj,zzY (by simpa[wE]using e)];exact J
noncomputable def cy(ks:ab (ab Int)):ab (ab Int):=if ks.length<2 then ks else(kRun (λi j=>lexI ((ks.map kI).getD i []) ((ks.map kI).getD j [])) (PySem.W.kas_sort ks.length)).toList.map λi=>ks.getD i []
theorem kq(ks:ab (ab Int))(i:Nat):(ks.map kI).getD i []=kI (ks.getD i []):=by rw[zzx,zzx,zzr];cases ks[i]?<;>rfl
theorem nN(ks:ab (ab Int)):srtK (ks.map kI)=(cy ks).map kI:=by
 unfold srtK cy;rw[zza];split
 ·rfl
 ·rw[zzo];apply zzF;intro i _;exact kq ks i
theorem aO(ks:ab (ab Int)):(cy ks).Perm ks:=by
 unfold cy;split
 ·exact List.Perm.refl _
 ·exact pF (KGood.end _ _ (dI (by lia)))
noncomputable def ci(c:ab Int×Row):D:=.tup [ak c.1,rowD c.2]
noncomputable def aP(m:Nat)(ps:ab (ab Int×Row)):ab (ab Int×Row):=(cy ((grp ps).map (·.1))).map λk=>(k,sums (aI (grp ps) k) m)
def eK(r:Row):Prop:=∃c∈r,0<c.1
theorem Ia(h:∀n∈k,0<=n):∀x∈k,x<=k.sum/\0<=k.sum:=by
 induction k with
 |nil=>intro x J;simp at J|cons a r L =>
  intro x J;have h0:=h a zze;have hr:0<=r.sum:=by
   cases r with
   |nil=>simp|cons b t=>exact(L (λn i=>h n (zzb _ i)) b zze).2
  rw[zyc];rcases zzi.mp J with rfl|J
  ·lia
  ·have:=(L (λn i=>h n (zzb _ i)) x J).1;lia
theorem wF{rows:ab Row}(o:∀r∈rows,RowN n m r)(U:rows≠[])(C:∀r∈rows,eK r):eK (sums rows m):=by
 cases rows with
 |nil=>exact absurd rfl U|cons i Y =>
  obtain⟨c,u,hpos⟩:=C i zze;obtain⟨h,j⟩:=List.getElem?_of_mem u;have l:h<m:=by have:=(zzy.mp j).1;rw[(o i zze).1]at this;exact this
  refine⟨sumP (col (i::Y) h),zzf.mpr ⟨h,zyo.mpr l,rfl⟩,?_⟩;have e:at_ i h=c:=by unfold at_;rw[zzx,j];rfl
  have L:c.1∈(col (i::Y) h).map (·.1):=zzf.mpr ⟨c,zzf.mpr ⟨i,zze,e⟩,rfl⟩;have J:∀x∈(col (i::Y) h).map (·.1),0<=x:=λx G=>by obtain⟨d,hd,rfl⟩:=zzf.mp G;obtain⟨r,v,rfl⟩:=zzf.mp hd;have:=(eJ (o r v) l).2;have h1:=this.lo;have h2:=this.hi;lia
  have:=(Ia J _ L).1;unfold sumP;lia
theorem CC(ds:ab D):fzOs (ds.map O.val)=ds:=by
 induction ds with
 |nil=>rfl|cons d r J=>simp only[zzj,fzOs,fzO,J]
theorem Kk(g:ab (ab Int×ab Row)):fzO (dlO (emb g))=.dT ((embV g).map (·.1)) ((embV g).map (·.2)):=by
 unfold dlO emb embV;refine congr (congrArg D.dT ?_) ?_
 ·rw[zzo,zzo];rfl
 ·rw[jh,zzo,zzo,zzo];apply zzF;intro p _;simp only[Function.comp,fzO,CC]
theorem sM{l:Nat}(o:ks.Nodup)(j:∀k∈ks,k.length=l)(i:2<=ks.length):∀k∈ks,k≠[]:=by
 intro k L z;subst z;have U:l=0:=(j [] L).symm;subst U
 match ks,o,j,i with
 |a::b::r,o,j,_ =>
  have u:a=[]:=zzH.mp (j a (by simp));have J:b=[]:=zzH.mp (j b (by simp));subst u J;simp at o
 |[_],_,_,i=>simp at i|[],_,_,i=>simp at i
noncomputable def ltI:ab Int->ab Int->Bool
 |[],[]=>false|[],_::_=>true|_::_,[]=>false|a::r,b::i=>if a=b then ltI r i else decide (a<b)
theorem kr:∀a b:ab Int,lexI (kI a) (kI b)=ltI a b
 |[],[]=>rfl|[],_::_=>rfl|_::_,[]=>rfl|a::r,b::i=>by
  show (if a=b then lexI (kI r) (kI i) else decide (a<b))=if a=b then ltI r i else decide (a<b)
  rw[kr r i]
theorem nO:∀a:ab Int,ltI a a=false
 |[]=>rfl|a::r=>by show (if a=a then ltI r r else _)=_;rw[zzk rfl];exact nO r
theorem zh:∀a b c:ab Int,ltI a b=true->ltI b c=true->ltI a c=true
 |[],[],_,h,_=>by cases h
 |[],_::_,[],_,h=>by cases h
 |[],_::_,_::_,_,_=>rfl|_::_,[],_,h,_=>by cases h
 |_::_,_::_,[],_,h=>by cases h
 |a::r,b::s,c::t,i,j=>by
  unfold ltI at i j ⊢;by_cases L:a=b
  ·rw[zzk L]at i;subst L;by_cases J:a=c
   ·rw[zzk J]at j ⊢;exact zh r s t i j
   ·rw[zzh J]at j ⊢;exact j
  ·rw[zzh L]at i;have i:=zzO i;by_cases J:b=c
   ·subst J;rw[zzh L];exact zzp i
   ·rw[zzh J]at j;rw[zzh (by lia)];exact zzp (by lia)
theorem CD{a:ab Int}(h:ltI a b=true):ltI b a=false:=by
 cases e:ltI b a with
 |false=>rfl|true =>
  have:=zh a b a h e;rw[nO]at this;cases this
theorem CF:∀a b:ab Int,a≠b->ltI a b=false->ltI b a=true
 |[],[],h,_=>absurd rfl h|[],_::_,_,h=>by cases h
 |_::_,[],_,_=>rfl|a::r,b::s,h,e=>by
  unfold ltI at e ⊢;by_cases z:a=b
  ·subst z;rw[zzk rfl]at e ⊢;exact CF r s (λz=>h (by rw[z])) e
  ·rw[zzh z]at e;rw[zzh (Ne.symm z)];exact zzp (by lia)
theorem jr(v:ks.Nodup):(cy ks).Pairwise λa b=>ltI a b=true:=by
 unfold cy;by_cases h:ks.length<2
 ·rw[zzk h];rcases ks with _|⟨_,_|_⟩
  ·exact .nil
  ·exact List.pairwise_singleton _ _
  ·simp at h;lia
 ·rw[zzh h];have O:StrO ks.length (λi j=>lexI ((ks.map kI).getD i []) ((ks.map kI).getD j [])):=by
   refine⟨λi j k _ _ _ l u=>?_,λi j _ _ l=>?_,λi j o J e l=>?_⟩
   ·simp only[kq,kr]at *;exact zh _ _ _ l u
   ·simp only[kq,kr]at *;exact CD l
   ·simp only[kq,kr]at *;refine CF _ _ (λz=>e ?_) l;have L:ks.getD i []=ks[i]:=by simp[o]
    have U:ks.getD j []=ks[j]:=by simp[J]
    rw[L,U]at z;exact(zxR v).mp z
  have pm:=KGood.end (λi j=>lexI ((ks.map kI).getD i []) ((ks.map kI).getD j [])) _ (dI (N:=ks.length) (by lia));have as:=AO O (by lia);have sz:=pm.size;generalize kRun (λi j=>lexI ((ks.map kI).getD i []) ((ks.map kI).getD j [])) (PySem.W.kas_sort ks.length)=p at pm as sz;rw[List.pairwise_map,zyr];intro i j o J Y;have:=as i j Y (by rw[zyh]at J;lia);simp only[kq,kr]at this;rw[zyh]at o J;have L:p.getD i 0=p[i]:=by simp[Array.getD,o]
  have U:p.getD j 0=p[j]:=by simp[Array.getD,J]
  rw[L,U]at this;simpa using this
theorem EQ:∀{xs ys:ab (ab Int)},xs.Pairwise (λa b=>ltI a b=true)->ys.Pairwise (λa b=>ltI a b=true)->(∀k,k∈xs↔k∈ys)->xs=ys
 |[],[],_,_,_=>rfl|[],y::ys,_,_,h=>absurd ((h y).mpr zze) (by simp)|x::xs,[],_,_,h=>absurd ((h x).mp zze) (by simp)|x::xs,y::ys,o,u,h=>by
  obtain⟨L,j⟩:=List.pairwise_cons.mp o;obtain⟨U,l⟩:=List.pairwise_cons.mp u;have i:x=y:=by
   rcases zzi.mp ((h x).mp zze) with e|e
   ·exact e
   ·rcases zzi.mp ((h y).mpr zze) with Y|Y
    ·exact Y.symm
    ·have a:=U x e;have b:=L y Y;rw[CD a]at b;cases b
  subst i;have ni:∀{zs:ab (ab Int)},(∀z∈zs,ltI x z=true)->x∉zs:=λv m=>by have:=v x m;rw[nO]at this;cases this
  rw[EQ j l λk=>⟨λJ=>?_,λJ=>?_⟩]
  ·rcases zzi.mp ((h k).mp (zzb _ J)) with rfl|e
   ·exact absurd J (ni L)
   ·exact e
  ·rcases zzi.mp ((h k).mpr (zzb _ J)) with rfl|e
   ·exact absurd J (ni U)
   ·exact e
theorem zi(J:xs.Nodup)(L:ks.Nodup)(h:∀k,k∈xs↔k∈ks):cy xs=cy ks :=
 EQ (jr J) (jr L) λk=>by rw[(aO xs).mem_iff,(aO ks).mem_iff];exact h k
theorem uW(ps:ab (ab Int×Row)):((grp ps).map (·.1)).Nodup:=(mt (C:=λ_=>True) (R:=λ_=>True) ps λ_ _=>⟨trivial,trivial⟩).nd
theorem uX(k:ab Int)(r:Row)(i:ab Int):∀g:ab (ab Int×ab Row),aI (addG k r g) i=if k=i then aI g i++[r] else aI g i
 |[]=>by
  unfold addG aI;by_cases e:k=i
  ·rw[zzk e,zzX (by simpa using e)];rfl
  ·rw[zzh e,zzY (by simpa using e)]
 |p::t=>by
  have L:=uX k r i t;unfold addG;unfold aI at L ⊢;by_cases e:p.1=k
  ·rw[zzk e];by_cases J:k=i
   ·rw[zzk J,zzX (by simp[e,J]),zzX (by simp[e,J])];rfl
   ·rw[zzh J,zzY (by simp[e,J]),zzY (by simp[e,J])]
  ·rw[zzh e];by_cases J:p.1=i
   ·rw[zzX (by simpa using J),zzX (by simpa using J),zzh (λz=>e (by rw[J,z]))]
   ·rw[zzY (by simpa using J),zzY (by simpa using J)];exact L
theorem ip(ps:ab (ab Int×Row))(k:ab Int):aI (grp ps) k=(ps.filter λp=>decide (p.1=k)).map (·.2):=by
 have key:∀(qs:ab (ab Int×Row)) g,aI (qs.foldl (λg (p:ab Int×Row)=>addG p.1 p.2 g) g) k=aI g k++(qs.filter λp=>decide (p.1=k)).map (·.2):=by
  intro qs
  induction qs with
  |nil=>intro g;simp|cons q t J =>
   intro g;rw[zwb,J,uX];by_cases e:q.1=k
   ·rw[zzk e,zyd (by simpa using e),zzj,zzR];rfl
   ·rw[zzh e,zzZ (by simpa using e)]
 rw[grp,key];rfl
theorem nP(ps:ab (ab Int×Row))(k:ab Int):k∈(grp ps).map (·.1)↔k∈ps.map (·.1):=by
 have key:∀(qs:ab (ab Int×Row)) g,k∈(qs.foldl (λg (p:ab Int×Row)=>addG p.1 p.2 g) g).map (·.1)↔k∈g.map (·.1)∨k∈qs.map (·.1):=by
  intro qs
  induction qs with
  |nil=>intro g;simp|cons q t J =>
   intro g;rw[zwb,J,jq,zzj,zzi];by_cases m:q.1∈g.map (·.1)
   ·rw[zzk m];constructor
    ·rintro(h|h)
     ·exact .inl h
     ·exact .inr (.inr h)
    ·rintro(h|h|h)
     ·exact .inl h
     ·exact .inl (h ▸ m)
     ·exact .inr h
   ·rw[zzh m,zzA,zzG];constructor
    ·rintro((h|h)|h)
     ·exact .inl h
     ·exact .inr (.inl h)
     ·exact .inr (.inr h)
    ·rintro(h|h|h)
     ·exact .inl (.inl h)
     ·exact .inl (.inr h)
     ·exact .inr h
 rw[grp,key];simp
theorem mx(J:∀k,k∈ps.map (·.1)↔k∈qs.map (·.1))(hs:∀k∈ps.map (·.1),sums ((ps.filter λp=>decide (p.1=k)).map (·.2)) m=sums ((qs.filter λp=>decide (p.1=k)).map (·.2)) m):aP m ps=aP m qs:=by
 unfold aP;rw[zi (uW ps) (uW qs) λk=>by rw[nP,nP];exact J k];apply zzF;intro k h;have h:k∈ps.map (·.1):=by rw[(aO _).mem_iff,nP]at h;exact(J k).mpr h
 rw[ip,ip,hs k h]
noncomputable def my(r:Row):Bool:=(r.map λc=>decide (0<c.1)).any id
theorem triedB_iff:my r=true↔eK r:=by
 unfold my eK;rw[zyq];constructor
 ·rintro⟨b,L,e⟩;obtain⟨c,J,rfl⟩:=zzf.mp L;exact⟨c,J,by simpa using e⟩
 ·rintro⟨c,J,U⟩;exact⟨true,zzf.mpr ⟨c,J,by simpa using U⟩,rfl⟩
def CG:DSp:=λds Q=>match ds with
 |[.tup xs]=>∃r:Row,xs=r.map aq/\r.length<=1000/\Q (.bl (my r))|_=>False
theorem wG(T:Tx K mg):T.xf.Ok P w base CX0 1 (spD K 1 CG):=by
 refine fnd ["counts"] (λhr _=>(dr (aZ Hx T.KH PyProof.Rows.boot_any (da1 (dfc (ao ["count"] [none] rfl (dN (dv 0)) (dgb 0) ax (cE ik (dx 0) ad))))))) (λds Q i h=>?_);unfold CG at h;split at h
 case h_2=>exact h.elim
 obtain⟨r,rfl,i,h⟩:=h;refine aA (D.bl ∘ λc=>decide (0<c.1)) (λj=>∃s,j=[s]) (zzl i (by decide)) (λc _ j Y Z J L=>?_) _ ⟨_,rfl⟩ ?_
 ·obtain⟨s,rfl⟩:=J;exact Br.t (L _ ⟨_,rfl⟩)
 ·rw[←zzo];exact sD h
noncomputable def gath(n:Nat)(ps:ab (ab Int×Row)):ab (ab Int×Row):=(aP n ps).filter λc=>my c.2
def uY:DSpN:=λds _ L=>match ds with
 |[.int m,.lst xs]=>∃(n:Nat) (ps:ab (ab Int×Row)) (l:Nat),m=n/\xs=ps.map ci/\(n<=6/\ps.length<=60/\∀p∈ps,p.1.length=l/\RowN 110 n p.2)/\L ((gath n ps).map ci)|_=>False
theorem kt(T:Tx K mg):T.cV.Ok P w base CX0 3 (spDN K 2 uY):=by
 refine fnDN T.cV.d.F sG (λm _=>(gC (nH 2) (Et (aN (aB (dv 1)) (dg2 3 4) (ai (HR m (pv 2) (pv 3) (pv 4)))) (gC (eB 5 (ao ["kinds","many","found"] [none,some 0,some 2] rfl (aB (aZ nI T.jt (by decide +kernel) (a1 2))) (dgb 0) ax (ay (ac (dv 0) (da1 (dcl (bP T) m (ac (dv 1) (da1 (uO m (dv 2) (dv 0) (λ_ _=>rfl)))))))))) (nC (PCD.pld (ao ["cell"] [none] rfl (aB (dv 5)) (dgb 0) (im (bV (dcl (wG T) m (da1 (dx 0))))) (dv 0)))))))) (λds Q L hl h=>?_);unfold uY at h;split at h
 case h_2=>exact h.elim
 obtain⟨n,ps,l,rfl,rfl,⟨n6,y,a7⟩,h⟩:=h;have a0:∀qs:ab (ab Int×Row),(∀p∈qs,p∈ps)->GOk (λk=>k.length=l) (λr=>RowN 110 n r) qs.length (grp qs):=λqs H=>mt qs λp x=>a7 p (H p x);refine⟨λj=>∃a b:Sl,j=[.val (.int n),.val (.lst (ps.map ci)),.obj (dlO (emb (grp ps))),a,b,.nil],?_,?_⟩
 ·refine aG (λpre j=>∃u N:ab (ab Int×Row),ps=u++N/\pre=u.map ci/\∃a b:Sl,j=[.val (.int n),.val (.lst (ps.map ci)),.obj (dlO (emb (grp u))),a,b,.nil]) (λj o=>?_) (λpre d post j X e o hX=>?_) _ ⟨[],ps,rfl,rfl,_,_,rfl⟩
  ·obtain⟨u,N,rfl,e,a,b,rfl⟩:=o;have:N=[]:=by
    have:=congrArg List.length e;simp at this;exact this
   subst this;rw[zzs];exact⟨a,b,rfl⟩
  ·obtain⟨u,N,rfl,rfl,a,b,rfl⟩:=o;rw[zzc]at e;have e:=zzz e;cases N with
   |nil=>simp at e|cons p N =>
    rw[zzj]at e;injection e with G A;subst G;have go:=a0 u λq H=>by simp[H]
    have pl:u.length<=60:=by rw[zzg]at y;lia
    refine⟨rfl,emb (grp u),kI p.1,rowD p.2,rfl,?_,rfl,?_,λq H=>?_,hX _ ⟨u++[p],N,by simp,by simp,_,_,by rw[ze,←nM];rfl⟩⟩
    ·show Sl.val (ak p.1)=_;rw[cx]
    ·unfold emb;rw[zza];exact zzw (show (grp u).length<=60 from zzl go.len pl) (by decide)
    ·obtain⟨q',a8,rfl⟩:=zzf.mp H;rw[zza];exact zzw (show q'.2.length<=60 from zzl (go.it q' a8).2.2.1 pl) (by decide)
 ·rintro _ ⟨a,b,rfl⟩;have go:=a0 ps λq H=>H;have g:(emb (grp ps)).map (·.1)=((grp ps).map (·.1)).map kI:=by unfold emb;rw[zzo,zzo];rfl
  have kl:((grp ps).map (·.1)).length<=60:=by rw[zza];exact zzl go.len y
  have a9:∀k∈(grp ps).map (·.1),k.length=l:=λk g=>by obtain⟨p,x,rfl⟩:=zzf.mp g;exact(go.it p x).1
  have sl:(cy ((grp ps).map (·.1))).length<=60:=by rw[(aO _).length_eq];exact kl
  refine⟨⟨λk U=>?_,λE k U=>?_,?_⟩,?_⟩
  ·rw[g]at U;obtain⟨k',_,rfl⟩:=zzf.mp U;exact uV k'
  ·rw[g]at E U;rw[zza]at E;obtain⟨k',a6,rfl⟩:=zzf.mp U;intro z;exact sM go.nd a9 E k' a6 (iL (b:=[]) z)
  ·rw[g,zza];lia
  ·have G:(srtK ((emb (grp ps)).map (·.1))).map keyD=(cy ((grp ps).map (·.1))).map ak:=by
    rw[g,nN,zzo];apply zzF;intro k _;exact(cx k).symm
   show bU _ _ _ ((srtK ((emb (grp ps)).map (·.1))).map keyD) _ _ _;rw[G];refine aH (λpre J j=>∃I M:ab (ab Int),cy ((grp ps).map (·.1))=I++M/\pre=I.map ak/\J=(I.map λk=>(k,sums (aI (grp ps) k) n)).map ci/\∃s:Sl,j=[s,.val (.int n),.val (fzO (dlO (emb (grp ps))))]) (λJ j o=>?_) (λpre d post J j Y e o B=>?_) _ ⟨[],_,rfl,rfl,rfl,_,rfl⟩
   ·obtain⟨I,M,e,A,rfl,s,rfl⟩:=o;have:M=[]:=by
     have:=congrArg List.length A;rw[e]at this;simp at this;exact this
    subst this;rw[zzs]at e;rw[←e];have a4:((cy ((grp ps).map (·.1))).map λk=>(k,sums (aI (grp ps) k) n))=aP n ps:=rfl;rw[a4];have b0:(aP n ps).length<=60:=by unfold aP;rw[zza];exact sl
    refine aH (λpre J j=>∃C v:ab (ab Int×Row),aP n ps=C++v/\pre=C.map ci/\J=(C.filter λc=>my c.2).map ci/\∃s:Sl,j=[s]) (λJ j o=>?_) (λpre d post J j Y e o B=>?_) _ ⟨[],_,rfl,rfl,rfl,_,rfl⟩
    ·obtain⟨C,v,i,e4,rfl,s,rfl⟩:=o;have:v=[]:=by
      have:=congrArg List.length e4;rw[i]at this;simp at this;exact this
     subst this;rw[zzs]at i;rw[←i];exact h
    ·obtain⟨C,v,i,rfl,rfl,s,rfl⟩:=o;rw[i,zzc]at e;have e:=zzz e;cases v with
     |nil=>simp at e|cons c v =>
      rw[zzj]at e;injection e with G A;subst G;rw[i,zzg]at b0;have hc:c∈aP n ps:=by rw[i];simp
      have a5:c.2.length<=1000:=by obtain⟨k,_,rfl⟩:=zzf.mp hc;show (sums _ n).length<=1000;unfold sums;rw[zza,zyI];lia
      refine⟨rfl,c.2,rfl,a5,?_⟩;cases z:my c.2 with
      |true =>
       refine Br.t ⟨?_,B _ _ ⟨C++[c],v,by rw[i];simp,by simp,by rw[zya,zyd (by simpa using z)];simp,_,rfl⟩⟩;rw[zza];exact zzw (show _<=60 from zzl (zyk _ _) (by lia)) (by decide)
      |false=>exact Br.f (B _ _ ⟨C++[c],v,by rw[i];simp,by simp,by rw[zya,zzZ (by simp[z])];simp,_,rfl⟩)
   ·obtain⟨I,M,i,rfl,rfl,s,rfl⟩:=o;rw[i,zzc]at e;have e:=zzz e;cases M with
    |nil=>simp at e|cons k M =>
     rw[zzj]at e;injection e with G A;subst G;have U:k∈cy ((grp ps).map (·.1)):=by rw[i];simp
     obtain⟨p,x,_,h3,h4⟩:=zg ((aO _).mem_iff.mp U);have gp:=go.it p x;rw[i,zzg]at sl;refine Br.t ⟨embV (grp ps),kI k,.lst (p.2.map rowD),Kk _,cx k,h4,rfl,n,p.2,rfl,rfl,⟨n6,zzl gp.2.2.1 (by lia),λr m=>(gp.2.2.2 r m).up⟩,sz,?_,B _ _ ⟨I++[k],M,by rw[i];simp,by simp,by rw[zzc,zzc,←h3];rfl,_,rfl⟩⟩;rw[zza,zza];exact zzw (show I.length<=60 by lia) (by decide)
def Kl:DSp:=λds Q=>uY ds Q λi=>Q (.lst i)
theorem wH(T:Tx K mg):T.cV.Ok P w base CX0 3 (spD K 2 Kl):=DL.FnOk.asD (kt T) (λds Q h=>h)
theorem Bu{l:Nat}(h:∀p∈ps,p.1.length=l/\RowN 110 n p.2/\eK p.2):gath n ps=aP n ps:=by unfold gath;rw[zxZ];intro c U;obtain⟨k,Y,rfl⟩:=zzf.mp U;obtain⟨p,J,_,i,_⟩:=zg ((aO _).mem_iff.mp Y);have go:=(mt (C:=λk=>k.length=l) (R:=λr=>RowN 110 n r/\eK r) ps λp J=>⟨(h p J).1,(h p J).2⟩).it p J;rw[triedB_iff];rw[i];exact wF (λr L=>(go.2.2.2 r L).1) go.2.1 λr L=>(go.2.2.2 r L).2
structure Bk where
 m:Nat
 marks:List Int
 cells:List (List Int×Row)
noncomputable def eS(b:Bk):D:=.tup [.int b.m,ak b.marks,.tup (b.cells.map ci)]
structure BkOk(b:Bk):Prop where
 m2:2 <= b.m
 m6:b.m <= 6
 mk5:b.marks.length <= 5
 c60:b.cells.length <= 60
 it:∀c∈b.cells,c.1.length=b.marks.length/\RowN 110 b.m c.2/\eK c.2
structure SoOk(b:Bk)(so:List Int):Prop where
 it:∀x∈so,0 <= x/\x<b.marks.length
 nd:so.Nodup
 len:so.length <= 5
noncomputable def vals(ks so:ab Int):ab Int:=so.map λx=>ks.getD x.toNat 0
noncomputable def bS(b:Bk)(so:ab Int):ab (ab Int×Row):=aP b.m (b.cells.map λc=>(vals c.1 so,c.2))
theorem qh(U:∀x∈b,0<=x/\x<k.length)(j:b.length<=1000){s:Sl}(q:Q ((vals k b).map D.int)) :
  bU (bc 0) bG (dOp gIx (dVar 1) (dVar 0)) (b.map D.int) [] [s,.val (ak k)] Q:=by
 unfold vals at q;rw[zzo]at q;refine aA _ (λi=>∃s,i=[s,.val (ak k)]) (zzl j (by decide)) (λx l i Y Z J L=>?_) _ ⟨_,rfl⟩ q;obtain⟨s,rfl⟩:=J;obtain⟨h0,h1⟩:=U x l;refine Br.t (au (d:=.int (k.getD x.toNat 0)) h0 ?_ (L _ ⟨_,rfl⟩));have:x.toNat<k.length:=by lia
 simp[this]
def Km:DSp:=λds Q=>∃ks i:ab Int,ds=[ak ks,ak i]/\(∀x∈i,0<=x/\x<ks.length)/\i.length<=1000/\Q (ak (vals ks i))
theorem sN(T:Tx K mg):T.tO.Ok P w base CX0 1 (spD K 2 Km):=by refine fnd ["kinds","some"] (λhr _=>(dr (al bM T.cz (da1 (dfc (ao ["mark","kinds"] [none,some 0] rfl (dN (dv 1)) (dgb 0) ax (dix (dv 1) (dv 0)))))))) (λds Q hl h=>?_);obtain⟨ks,so,rfl,i,j,h⟩:=h;exact qh i j h
def gChM:DSp:=λds Q=>∃(b:Bk) (x:Int),ds=[eS b,.int x]/\(0<=x/\x<b.marks.length)/\b.marks.length<=5/\Q .non
theorem qi(T:Tx K mg):T.qW.Ok P w base CX0 3 (spD K 2 gChM):=by
 refine fnd ["book","mark"] (λJ _=>(ai (dif (cj (bV (dcl (kj T) J (ac (dv 1) (ac ad (da1 (ar jW (dln aX T.bv (dx 0)) ad))))))) dnv))) (λds Q hl h=>?_);obtain⟨b,x,rfl,⟨h0,h1⟩,h2,h⟩:=h;have e:((b.marks.map D.int).length:Int)=b.marks.length:=by rw[zza]
 refine⟨rfl,⟨h0,?_⟩,Br.f h⟩;lia
theorem ER{d:D}(h:shp d=true){A B:Prop}(q:B):Br (!eqD d d) A B:=by rw[cQ h];exact Br.f q
theorem Kn{d:D}(h:d=e)(s:shp e=true){A B:Prop}(q:B):Br (!eqD d e) A B:=by rw[h];exact ER s q
def Ko:DSp:=λds Q=>∃(b:Bk) (i:ab Int),ds=[eS b,ak i]/\SoOk b i/\b.marks.length<=5/\Q .non
theorem nQ(T:Tx K mg):T.oG.Ok P w base CX0 4 (spD K 2 Ko):=by
 refine fnd ["book","some","mark"] (λJ _=>(aa (dif (cj (bV (aZ sf T.cI rfl (ac (dv 1) (da1 (yD rfl T.cz rfl)))))) dnv) (aw (aN (dN (dv 1)) (dgn 2) (ai (dE (dcl (qi T) J (a2 0 2))))) (ai (dif (ah (fT J) (yV rfl rfl T.bv rfl T.IS (dv 1)) (dln aX T.bv (dv 1))) dnv))))) (λds Q hl h=>?_);obtain⟨b,i,rfl,o,l,h⟩:=h;refine⟨rfl,rfl,Br.f ?_⟩;refine⟨λj=>∃s:Sl,j=[.val (eS b),.val (ak i),s],?_,?_⟩
 ·refine pV (λj=>∃s:Sl,j=[.val (eS b),.val (ak i),s]) (λj h=>h) (λd hd j X L U=>?_) _ ⟨_,rfl⟩;obtain⟨s,rfl⟩:=L;obtain⟨x,Y,rfl⟩:=zzf.mp hd;exact⟨rfl,b,x,rfl,o.it x Y,l,U _ ⟨_,rfl⟩⟩
 ·rintro _ ⟨s,rfl⟩;have e:D.int (wj i:Nat)=D.int ((i.map D.int).length:Nat):=by rw[rS o.nd,zza]
  exact⟨i,rfl,zzl o.len (by decide),⟨rfl,rfl⟩,Kn e rfl h⟩
def zj:DSpN:=λds _ L=>∃(b:Bk) (i:ab Int),ds=[eS b,ak i]/\BkOk b/\SoOk b i/\L ((bS b i).map ci)
theorem sO(T:Tx K mg):T.iD.Ok P w base CX0 5 (spDN K 2 zj):=by
 refine fnDN T.iD.d.F sH (λI _=>(gC (dE (dcl (nQ T) I (a2 0 1))) (Bn (kt T) (I.mono (by decide)) rfl T.cV.d.m T.cV.d.F.kp T.cV.d.b (ac (dx 0) (da1 (dfc (ao ["cell","some"] [none,some 1] rfl (dN (dx 0)) (dgb 0) ax (ay (ac (dcl (sN T) I (ac (dx 0) (a1 1))) (da1 (dx 0))))))))))) (λds Q L hl h=>?_);obtain⟨b,l,rfl,U,o,h⟩:=h;refine⟨rfl,b,l,rfl,o,U.mk5,?_⟩;have C:=U.c60;refine aH (λpre J M=>∃i j:ab (ab Int×Row),b.cells=i++j/\pre=i.map ci/\J=(i.map λc=>(vals c.1 l,c.2)).map ci/\∃s:Sl,M=[s,.val (ak l)]) (λJ M G=>?_) (λpre d post J M Y e G k=>?_) _ ⟨[],_,rfl,rfl,rfl,_,rfl⟩
 ·obtain⟨i,j,e,N,rfl,s,rfl⟩:=G;have:j=[]:=by
   have:=congrArg List.length N;rw[e]at this;simp at this;exact this
  subst this;rw[zzs]at e;rw[←e];have fin:uY [.int b.m,.lst ((b.cells.map λc=>(vals c.1 l,c.2)).map ci)] Q L:=by
   have g:=Bu (ps:=b.cells.map λc=>(vals c.1 l,c.2)) λp H=>by obtain⟨c,u,rfl⟩:=zzf.mp H;exact⟨by unfold vals;rw[zza],(U.it c u).2⟩
   refine⟨b.m,_,l.length,rfl,rfl,⟨U.m6,by rw[zza];exact U.c60,λp H=>?_⟩,by rw[g];exact h⟩;obtain⟨c,u,rfl⟩:=zzf.mp H;exact⟨by unfold vals;rw[zza],(U.it c u).2.1⟩
  exact⟨rfl,fin⟩
 ·obtain⟨i,j,v,rfl,rfl,s,rfl⟩:=G;rw[v,zzc]at e;have e:=zzz e;cases j with
  |nil=>simp at e|cons c j =>
   injection e with a N;subst a;have u:=U.it c (by rw[v];simp);rw[v,zzg]at C;refine Br.t ⟨rfl,c.1,l,rfl,λx n=>by rw[u.1];exact o.it x n,zzl o.len (by decide),sz,?_,k _ _ ⟨i++[c],j,by rw[v];simp,by simp,by rw[zzc,zzc];rfl,_,rfl⟩⟩;rw[zza,zza];exact zzw (show i.length<=60 by lia) (by decide)
theorem qj{b:Bk}(J:BkOk b):(bS b k).length<=60:=by unfold bS aP;rw[zza,(aO _).length_eq,zza];have:=(mt (C:=λ_=>True) (R:=λ_=>True) (b.cells.map λc=>(vals c.1 k,c.2)) λ_ _=>⟨trivial,trivial⟩).len;rw[zza]at this;exact zzl this J.c60
def Ib:DSp:=λds Q=>zj ds Q λi=>Q (.lst i)
theorem wI(T:Tx K mg):T.iD.Ok P w base CX0 5 (spD K 2 Ib):=DL.FnOk.asD (sO T) (λds Q h=>h)
def zk:DSpN:=λds _ L=>∃(b:Bk) (i:ab Int),ds=[eS b,ak i]/\BkOk b/\SoOk b i/\L (((bS b i).map (·.2)).map rowD)
theorem sP(T:Tx K mg):T.iA.Ok P w base CX0 6 (spDN K 2 zk):=by refine fnDN T.iA.d.F sI (λl _=>(nC (PCD.pld (ao ["part"] [none] rfl (aB (dcl (wI T) l (a2 0 1))) (dgb 0) ax (dx 0))))) (λds Q L hl h=>?_);obtain⟨b,u,rfl,J,o,h⟩:=h;refine⟨rfl,b,u,rfl,J,o,?_⟩;refine aA (rowD ∘ (·.2)) (λi=>∃s,i=[s]) (zzl (qj J) (by decide)) (λc _ i Y Z U j=>?_) _ ⟨_,rfl⟩ (by rw[←zzo];exact h);obtain⟨s,rfl⟩:=U;exact Br.t (j _ ⟨_,rfl⟩)
noncomputable def isS(s:Int)(d:D):Bool:=eqF d (.int s)
def four(d:D):Prop:=d=.non∨d=.int 1∨d=.int (-1)∨d=.int 0
theorem zm{d:D}(h:four d):dO d=true:=by rcases h with rfl|rfl|rfl|rfl<;>rfl
theorem Bv{d:D}(h:four d):shp d=true:=by rcases h with rfl|rfl|rfl|rfl<;>rfl
theorem zn{d:D}(h:four d):eqD d (.int s)=isS s d:=by rcases h with rfl|rfl|rfl|rfl<;>rfl
structure AbOk(m:Nat)(a b:Int):Prop where
 a0:0 <= a
 a1:a<m
 b0:0 <= b
 b1:b<m
 ne:a≠b
noncomputable def ku(a b:Nat)(r:Row):D:=dj (at_ r a).1 (at_ r a).2 (at_ r b).1 (at_ r b).2
theorem qk{g:DSp}(H:∀(c d:Int×Int) (Q:D->Prop),Cnt 200 c.1 c.2->Cnt 200 d.1 d.2->Q (dj c.1 c.2 d.1 d.2)->g [aq c,aq d] Q){t:ab Row}(M:∀r∈t,wD m r)(I:t.length<=1000){a b:Int}(u:0<=a)(a1:a<m)(v:0<=b)(C:b<m){s:Sl}{Q:ab D->Prop}(q:Q (t.map (ku a.toNat b.toNat))) :
  bU (bc 0) bG (rW 2 g (aF (dOp gIx (dVar 0) (dVar 1)) (aF (dOp gIx (dVar 0) (dVar 2)) cF))) (t.map rowD) [] [s,.val (.int a),.val (.int b)] Q:=by
 refine aH (λpre J l=>∃i j:ab Row,t=i++j/\pre=i.map rowD/\J=i.map (ku a.toNat b.toNat)/\∃s,l=[s,.val (.int a),.val (.int b)]) (λJ l L=>?_) (λpre d post J l Y e L G=>?_) _ ⟨[],t,rfl,rfl,rfl,_,rfl⟩
 ·obtain⟨i,j,rfl,e,rfl,_⟩:=L;have:j=[]:=by
   have:=congrArg List.length e;simp at this;exact this
  subst this;simpa using q
 ·obtain⟨i,j,rfl,rfl,rfl,s,rfl⟩:=L;rw[zzc]at e;have e:=zzz e;cases j with
  |nil=>simp at e|cons r j =>
   injection e with U e2;subst U;have o:=M r (by simp);refine Br.t (ki o u a1 (ki o v C ⟨rfl,H _ _ _ (eJ o (by lia)).2 (eJ o (by lia)).2 ⟨?_,G _ _ ⟨i++[r],j,by simp,by simp,by simp[ku],_,rfl⟩⟩⟩));rw[zza];have:i.length<=1000:=by rw[zzg]at I;lia
   exact zzw this (by decide)
theorem Bw(c d:Int×Int)(Q:D->Prop)(J:Cnt 200 c.1 c.2)(hd:Cnt 200 d.1 d.2)(q:Q (dj c.1 c.2 d.1 d.2)):Bs [aq c,aq d] Q :=
 ⟨⟨J.bt.mono (by decide),J.bw.mono (by decide),hd.bt.mono (by decide),hd.bw.mono (by decide)⟩,q⟩
def Ic:DSpN:=λds _ L=>match ds with
 |[.lst xs,.int a,.int b]=>∃(n:Nat) (t:ab Row),xs=t.map rowD/\Tbl n t/\(0<=a/\a<n/\0<=b/\b<n/\a≠b)/\L (t.map (ku a.toNat b.toNat))|_=>False
theorem ES(T:Tx K mg):T.Ab.Ok P w base CX0 5 (spDN K 3 Ic):=by
 refine fnDN T.Ab.d.F EM (λJ _=>(gC (dE (dcl (dw T) J (ac (dcl (eE T) J (a1 0)) (a2 1 2)))) (nC (PCD.pld (ao ["part","a","b"] [none,some 1,some 2] rfl (aB (dv 0)) (dgb 0) ax (dcl (CB T) J (ac (dix (dv 0) (dv 1)) (da1 (dix (dv 0) (dv 2)))))))))) (λds Q L hl h=>?_);unfold Ic at h;split at h
 case h_2=>exact h.elim
 obtain⟨n,t,rfl,o,⟨i,a1,j,l,U⟩,h⟩:=h;refine⟨rfl,fv o ⟨rfl,⟨i,a1,j,l,U⟩,?_⟩⟩;exact qk Bw o.rows (zzl o.p60 (by decide)) i a1 j l h
noncomputable def fK:D->Bool
 |.non=>true|.int i=>i==0|_=>false
noncomputable def tkT(s:Int)(x:D):D:=if eqD x (.int s)=true then .tup [.str "kept",.int s] else .tup [.str "turned",.int s,x]
noncomputable def bY(told:ab D)(x:D):D :=
 if told.all (isS 1)=true then tkT 1 x else if told.all (isS (-1))=true then tkT (-1) x else
 match told.findIdx? fK with
 | some j=>.tup [.str "open",.int j]| none=>.tup [.str "apart",.int (told.findIdx (isS 1)),.int (told.findIdx (isS (-1)))]
theorem cU(a b:Nat)(r:Row):ku a b r=.non∨ku a b r=.int 1∨ku a b r=.int (-1)∨ku a b r=.int 0:=by
 unfold ku dj;split
 ·exact .inl rfl
 ·split
  ·exact .inr (.inl rfl)
  ·split
   ·exact .inr (.inr (.inl rfl))
   ·exact .inr (.inr (.inr rfl))
theorem mz(t w t' J:Int):(∃i,dj t w t' J=.int i)∨dj t w t' J=.non:=by
 unfold dj;split
 ·exact .inr rfl
 ·split
  ·exact .inl ⟨_,rfl⟩
  ·split<;>exact .inl ⟨_,rfl⟩
noncomputable abbrev told(t:ab Row)(a b:Nat):ab D:=t.map (ku a b)
theorem qm(t:ab Row)(a b:Nat):(told t a b).all dO=true:=by rw[zyj];intro d hd;obtain⟨r,_,rfl⟩:=zzf.mp hd;rcases cU a b r with e|e|e|e<;>(rw[e];rfl)
def gTKt:DSp:=λds Q=>match ds with
 |[.int s,x]=>((∃i,x=.int i)∨x=.non)/\Q (tkT s x)|_=>False
theorem uZ{x:D}(h:(∃i,x=.int i)∨x=.non):shp x=true:=by
 rcases h with ⟨i,rfl⟩|rfl
 ·exact Shp.shp (n:=0) .int
 ·exact Shp.shp (n:=0) .non
theorem iX(T:Tx K mg):T.jc.Ok P w base CX0 1 (spD K 2 gTKt):=by
 refine fnd ["number","whole"] (λJ _=>(aa (dir (ah (aW J) (dv 1) (dv 0)) (ay (ac ag (a1 0)))) (dr (ay (ac ag (a2 0 1)))))) (λds Q hl h=>?_);unfold gTKt at h;split at h
 case h_2=>exact h.elim
 rename_i s x;obtain⟨L,h⟩:=h;unfold tkT at h;refine⟨⟨uZ L,rfl⟩,λe=>?_,λe=>?_⟩
 ·have e:eqD x (.int s)=true:=e;rw[zzk e]at h;exact⟨sz,h⟩
 ·have e:eqD x (.int s)=false:=e;rw[zzh (by rw[e];exact zzI)]at h;exact⟨sz,h⟩
theorem vb:∀{j:ab Int},(∀i∈j,Bd n i)->∀{k:Nat},j.length<=2^k->Bd (n+k) j.sum:=by
 have key:∀j:ab Int,(∀i∈j,Bd n i)->j.sum.natAbs<=j.length*(2^n - 1):=by
  intro j
  induction j with
  |nil=>intro _;simp|cons a r L =>
   intro h;have l:=L λi u=>h i (zzb _ u);have o:a.natAbs<2^n:=h a zze;rw[zyc,zzu,Nat.succ_mul];lia
 intro j h k J;have l:=key j h;unfold Bd;have o:j.length*(2^n - 1)<=2^k*(2^n - 1):=Nat.mul_le_mul_right _ J;have h3:2^k*(2^n - 1)<2^k*2^n:=Nat.mul_lt_mul_of_pos_left (by have:=Nat.two_pow_pos n;lia) (Nat.two_pow_pos k);lia
theorem bL{t:ab Row}(o:Tbl m t){h:Nat}(v:h<m):0<=(sumP (col t h)).2/\(sumP (col t h)).2<=(sumP (col t h)).1/\Bd 300 (sumP (col t h)).1/\Bd 300 (sumP (col t h)).2:=by
 have J:∀c∈col t h,Cnt 200 c.1 c.2:=λc J=>by obtain⟨r,U,rfl⟩:=zzf.mp J;exact(eJ (o.rows r U) v).2
 have l:(col t h).length<=2^10:=by unfold col;rw[zza];exact zzl o.p60 (by decide)
 have u:0<=((col t h).map (·.2)).sum/\((col t h).map (·.2)).sum<=((col t h).map (·.1)).sum:=by
  generalize col t h=cs at J
  induction cs with
  |nil=>simp|cons c r Y =>
   have:=Y λd hd=>J d (zzb _ hd);have h1:=(J c zze).lo;have h2:=(J c zze).hi;simp only[zzj,zyc];lia
 refine⟨u.1,u.2,(vb (n:=200) (λi j=>?_) (by rw[zza];exact l)).mono (by decide),(vb (n:=200) (λi j=>?_) (by rw[zza];exact l)).mono (by decide)⟩
 ·obtain⟨c,L,rfl⟩:=zzf.mp j;exact(J c L).bt
 ·obtain⟨c,L,rfl⟩:=zzf.mp j;exact(J c L).bw
noncomputable def cH(t:ab Row)(a b:Nat):D:=dj (sumP (col t a)).1 (sumP (col t a)).2 (sumP (col t b)).1 (sumP (col t b)).2
theorem cZ{t:ab Row}{Q:D->Prop}(h0:0<=h)(h1:h<m)(q:Q (aq (sumP (col t h.toNat)))):opt (atI ((sums t m).map aq) h) Q:=by refine au h0 ?_ q;unfold sums;rw[zzr,zzr,zyZ (by lia)];rfl
def vc:DSp:=λds Q=>match ds with
 |[.lst xs,.int a,.int b]=>∃(n:Nat) (t:ab Row),xs=t.map rowD/\Tbl n t/\(0<=a/\a<n/\0<=b/\b<n/\a≠b)/\Q (bY (told t a.toNat b.toNat) (cH t a.toNat b.toNat))|_=>False
def CH:DSp:=λds Q=>match ds with
 |[.lst xs,.int a,.int b]=>∃(n:Nat) (t:ab Row),xs=t.map rowD/\Tbl n t/\(0<=a/\a<n/\0<=b/\b<n/\a≠b)/\Q (.lst (told t a.toNat b.toNat))|_=>False
theorem Id(T:Tx K mg):T.Ab.Ok P w base CX0 5 (spD K 3 CH):=DL.FnOk.asD (ES T) (λds Q h=>by
 unfold CH at h;split at h
 ·exact h
 ·exact h.elim)
theorem count_all:(eqD (.int ((ds.countP λz=>eqF z (.int s):Nat):Int)) (.int (ds.length:Int))=true)↔ds.all (isS s)=true:=by
 rw[aK,zyJ];have h:((ds.countP λz=>eqF z (.int s):Nat):Int)=(ds.length:Int)↔(ds.countP λz=>eqF z (.int s))=ds.length:=by lia
 rw[h,List.countP_eq_length,zyj];rfl
theorem wJ{t:ab Row}{b:Nat}(j:(told t a b).findIdx? fK=none)(hs:s=1∨s = -1)(i:¬(told t a b).all (isS (-s))=true) :
  ∃z,(told t a b)[(told t a b).findIdx (isS s)]?=some z/\isS s z=true:=by
 have hex:∃d∈told t a b,isS s d=true:=by
  rw[zyj]at i;have:∃d∈told t a b,¬isS (-s) d=true:=by apply zwf;intro h;exact i λd hd=>zwf λq=>h ⟨d,hd,q⟩
  obtain⟨d,hd,q⟩:=this;refine⟨d,hd,?_⟩;have J:fK d=false:=by have:=zwg.mp j d hd;simpa using this
  obtain⟨r,_,rfl⟩:=zzf.mp hd;rcases cU a b r with e|e|e|e<;>rw[e]at q J ⊢
  ·exact absurd J (by decide)
  ·rcases hs with rfl|rfl
   ·rfl
   ·exact absurd rfl q
  ·rcases hs with rfl|rfl
   ·exact absurd rfl q
   ·rfl
  ·exact absurd J (by decide)
 have L:=List.findIdx_lt_length.mpr hex;exact⟨(told t a b)[(told t a b).findIdx (isS s)],zzn L,zwI⟩
theorem vd{t:ab Row}{b:Nat}(l:(told t a b).findIdx? fK=none)(hs:s=1∨s = -1)(j:¬(told t a b).all (isS (-s))=true){Q:D->Prop}(q:Q (.int ((told t a b).findIdx (isS s):Nat))) :
  Hu (.lst (told t a b)) (.int s) Q:=by
 refine⟨⟨rfl,qm t a b⟩,(told t a b).findIdx (isS s),⟨wJ l hs j,λm z i L=>?_⟩,q⟩;have:=List.not_of_lt_findIdx i;have J:=zzy.mp L;obtain⟨hl,e⟩:=J;subst e;exact this
theorem kx(T:Tx K mg):T.Ah.Ok P w base CX0 6 (spD K 3 vc):=by
 refine fnd ["table","a","b","told","whole","number","part"] (λJ _=>(aa (dse 3 (dcl (Id T) J (a3 0 1 2))) (aa (dse 4 (dcl (qf T) J (a1 0))) (aw (aN (dN (ay (ac ad (da1 (fJ cN ad))))) (dgn 5) (ai (dir (ah (aW J) (pY Bf (dv 3) (dv 5)) (dln aX T.bv (dv 3))) (dcl (iX T) J (ac (dv 5) (da1 (dcl (CB T) J (ac (dix (dv 4) (dv 1)) (da1 (dix (dv 4) (dv 2))))))))))) (aw (aN (sB T.dg (a1 3)) (dg2 6 5) (ai (dir (PWD.pt (gv (ah uJ (dv 5) dn) (dM (ah (aW J) (dv 5) ad)))) (ay (ac ag (a1 6)))))) (dr (ay (ac ag (ac (pY eC (dv 3) ad) (da1 (pY eC (dv 3) (fJ cN ad)))))))))))) (λds Q I h=>?_);unfold vc at h;split at h
 case h_2=>exact h.elim
 rename_i a b;obtain⟨n,t,rfl,o,u,h⟩:=h;have s:=u.1;have a1:=u.2.1;have x:=u.2.2.1;have y:=u.2.2.2.1;have wa:=bL o (h:=a.toNat) (by lia);have wb:=bL o (h:=b.toNat) (by lia);have tf:=qm t a.toNat b.toNat;have sw:=mz (sumP (col t a.toNat)).1 (sumP (col t a.toNat)).2 (sumP (col t b.toNat)).1 (sumP (col t b.toNat)).2;refine⟨rfl,n,t,rfl,o,u,rfl,n,t,rfl,o,?_⟩;refine⟨λl=>(¬(told t a.toNat b.toNat).all (isS 1)=true/\¬(told t a.toNat b.toNat).all (isS (-1))=true)/\∃L U:Sl,l=[.val (.lst (t.map rowD)),.val (.int a),.val (.int b),.val (.lst (told t a.toNat b.toNat)),.val (rowD (sums t n)),L,U],?_,?_⟩
 ·have bs:∀{c:Int×Int},(0<=c.2/\c.2<=c.1/\Bd 300 c.1/\Bd 300 c.2)->Bd 7000 c.1/\Bd 7000 c.2:=λh=>⟨h.2.2.1.mono (by decide),h.2.2.2.mono (by decide)⟩;have E:∀{Q:D->Prop},Q (cH t a.toNat b.toNat)->Bs [aq (sumP (col t a.toNat)),aq (sumP (col t b.toNat))] Q:=λq=>⟨⟨(bs wa).1,(bs wa).2,(bs wb).1,(bs wb).2⟩,q⟩;refine⟨sz,trivial,⟨rfl,tf⟩,⟨rfl,rfl⟩,λz=>?_,λz=>⟨trivial,⟨rfl,tf⟩,⟨rfl,rfl⟩,λY=>?_,λY=>?_⟩⟩
  ·have z:=count_all.mp z;have e:bY (told t a.toNat b.toNat) (cH t a.toNat b.toNat)=tkT 1 (cH t a.toNat b.toNat):=by unfold bY;rw[zzk z]
   rw[e]at h;exact cZ s a1 (cZ x y ⟨rfl,E ⟨rfl,sw,h⟩⟩)
  ·have Y:=count_all.mp Y;have z:¬(told t a.toNat b.toNat).all (isS 1)=true:=λq=>by rw[count_all.mpr q]at z;cases z
   have e:bY (told t a.toNat b.toNat) (cH t a.toNat b.toNat)=tkT (-1) (cH t a.toNat b.toNat):=by unfold bY;rw[zzh z,zzk Y]
   rw[e]at h;exact cZ s a1 (cZ x y ⟨rfl,E ⟨rfl,sw,h⟩⟩)
  ·have z:¬(told t a.toNat b.toNat).all (isS 1)=true:=λq=>by rw[count_all.mpr q]at z;cases z
   have Y:¬(told t a.toNat b.toNat).all (isS (-1))=true:=λq=>by rw[count_all.mpr q]at Y;cases Y
   exact⟨⟨z,Y⟩,_,_,rfl⟩
 ·rintro _ ⟨⟨N,g⟩,L,U,rfl⟩;refine⟨λl=>(told t a.toNat b.toNat).findIdx? fK=none/\∃L U:Sl,l=[.val (.lst (t.map rowD)),.val (.int a),.val (.int b),.val (.lst (told t a.toNat b.toNat)),.val (rowD (sums t n)),L,U],?_,?_⟩
  ·refine ww (λi l=>(∀m z,m<i->(told t a.toNat b.toNat)[m]?=some z->fK z=false)/\∃L U:Sl,l=[.val (.lst (t.map rowD)),.val (.int a),.val (.int b),.val (.lst (told t a.toNat b.toNat)),.val (rowD (sums t n)),L,U]) ?_ ?_ _ ⟨λm z C=>absurd C (zxx _),_,_,rfl⟩
   ·rintro l ⟨G,J⟩;refine⟨?_,J⟩;rw[zwg];intro d hd;obtain⟨m,C,e⟩:=zyH.mp hd;exact G m d C (by rw[←e];exact zzn C)
   ·rintro i d l X hd ⟨G,L,U,rfl⟩ A;have ret:fK d=true->Q (.tup [.str "open",.int i]):=λp=>by
     have v:(told t a.toNat b.toNat).findIdx? fK=some i:=by rw[zww];obtain⟨I,e⟩:=zzy.mp hd;refine⟨I,by rw[e];exact p,λj B=>?_⟩;have:=G j ((told t a.toNat b.toNat)[j]'(zwF B I)) B (zzn _);rw[this];exact zzI
     unfold bY at h;rw[zzh N,zzh g,v]at h;exact h
    have k:fK d=false->∀m z,m<i+1->(told t a.toNat b.toNat)[m]?=some z->fK z=false:=λp m z C M=>by
     by_cases e:m=i
     ·subst e;rw[hd]at M;cases M;exact p
     ·exact G m z (by lia) M
    obtain⟨r,_,rfl⟩:=zzf.mp (zyb hd);rcases cU a.toNat b.toNat r with e|e|e|e<;>rw[e]at ret k ⊢
    ·exact⟨rfl,Br.t (Br.t ⟨sz,ret rfl⟩)⟩
    ·exact⟨rfl,Br.f ⟨⟨rfl,rfl⟩,Br.f (A _ ⟨k rfl,_,_,rfl⟩)⟩⟩
    ·exact⟨rfl,Br.f ⟨⟨rfl,rfl⟩,Br.f (A _ ⟨k rfl,_,_,rfl⟩)⟩⟩
    ·exact⟨rfl,Br.f ⟨⟨rfl,rfl⟩,Br.t ⟨sz,ret rfl⟩⟩⟩
  ·rintro _ ⟨v,L,U,rfl⟩;unfold bY at h;rw[zzh N,zzh g,v]at h;refine⟨trivial,vd v (.inl rfl) g ⟨trivial,?_⟩⟩;obtain⟨i1,j,i2,H⟩:=vd (Q:=λd=>d=.int ((told t a.toNat b.toNat).findIdx (isS (-1)):Nat)) v (.inr rfl) N rfl;injection H with H;have H:j=(told t a.toNat b.toNat).findIdx (isS (-1)):=by lia
   subst H;exact⟨i1,_,i2,sz,h⟩
theorem zo{rows:ab Row}(v:∀r∈rows,RowN 110 m r)(u:rows.length<=60):RowN 200 m (sums rows m):=by
 refine⟨by unfold sums;simp,λc L=>?_⟩;obtain⟨h,j,rfl⟩:=zzf.mp L;have j:=zyo.mp j;have cn:∀x∈col rows h,Cnt 110 x.1 x.2:=λx Y=>by obtain⟨r,U,rfl⟩:=zzf.mp Y;exact(eJ (v r U) j).2
 have cl:(col rows h).length<=2^10:=by unfold col;rw[zza];exact zzl u (by decide)
 have o:0<=((col rows h).map (·.2)).sum/\((col rows h).map (·.2)).sum<=((col rows h).map (·.1)).sum:=by
  generalize col rows h=cs at cn
  induction cs with
  |nil=>simp|cons c r C =>
   have:=C λd hd=>cn d (zzb _ hd);have h1:=(cn c zze).lo;have h2:=(cn c zze).hi;simp only[zzj,zyc];lia
 refine⟨o.1,o.2,(vb (n:=110) (λi l=>?_) (by rw[zza];exact cl)).mono (by decide),(vb (n:=110) (λi l=>?_) (by rw[zza];exact cl)).mono (by decide)⟩
 ·obtain⟨c,J,rfl⟩:=zzf.mp l;exact(cn c J).bt
 ·obtain⟨c,J,rfl⟩:=zzf.mp l;exact(cn c J).bw
theorem Bx(d:α)(l:ab α):(List.range l.length).map (λi=>l.getD i d)=l:=by
 apply List.ext_getElem
 ·simp
 ·intro i h1 j;simp[j]
theorem iq(m:Nat)(ps:ab (ab Int×Row)):(aP m ps).map (·.1)=cy ((grp ps).map (·.1)):=by unfold aP;rw[zzo];exact zwR _
theorem By(m:Nat)(ps:ab (ab Int×Row)):((aP m ps).map (·.1)).Pairwise λa b=>ltI a b=true:=by rw[iq];exact jr (uW _)
theorem parts_mem:k∈(aP m ps).map (·.1)↔k∈ps.map (·.1):=by rw[iq,(aO _).mem_iff,nP]
theorem ky{c:ab Int×Row}(h:c∈aP m ps):c.2=sums ((ps.filter λp=>decide (p.1=c.1)).map (·.2)) m:=by obtain⟨k,_,rfl⟩:=zzf.mp h;rw[ip]
theorem ve(m:Nat)(ps:ab (ab Int×Row)):aP m ps=((aP m ps).map (·.1)).map λk=>(k,sums ((ps.filter λp=>decide (p.1=k)).map (·.2)) m):=by
 rw[zzo]
 conv=>lhs;rw[←zwR (aP m ps)]
 apply zzF;intro c J;show c=(c.1,_);rw[←ky J]
theorem vf(m:Nat)(ps:ab (ab Int×Row)):((aP m ps).map (·.1)).Nodup:=by rw[iq];exact(aO _).nodup_iff.mpr (uW _)
theorem ET{rows:ab Row}{h:Nat}(i:h<n):at_ (sums rows n) h=sumP (col rows h):=by unfold at_ sums;rw[zzx,zzr,zyZ i];rfl
theorem sum1(h:r.length=m):sums [r] m=r:=by
 subst h;unfold sums;have:(List.range r.length).map (λh=>sumP (col [r] h))=(List.range r.length).map λh=>r.getD h (0,0):=by apply zzF;unfold sumP col at_;simp
 rw[this];exact Bx (0,0) r
theorem wK(j:(ps.map (·.1)).Nodup)(J:p∈ps):ps.filter (λq=>decide (q.1=p.1))=[p]:=by
 induction ps with
 |nil=>simp at J|cons q ps Y =>
  obtain⟨U,i⟩:=zzT.mp (by simpa using j:(q.1::ps.map (·.1)).Nodup);rcases zzi.mp J with rfl|J
  ·rw[zyd (by simp),zxB.mpr];intro l L z;exact U (zzf.mpr ⟨l,L,by simpa using z⟩)
  ·rw[zzZ,Y i J];intro z;have z:q.1=p.1:=by simpa using z
   exact U (zzf.mpr ⟨p,J,z.symm⟩)
theorem Kp{l:ab (ab Int)}(h:l.Pairwise λa b=>ltI a b=true):l.Nodup:=h.imp λ{a b} J z=>by rw[z,nO]at J;cases J
theorem wL(up:(ps.map (·.1)).Pairwise λa b=>ltI a b=true)(j:∀p∈ps,p.2.length=m):aP m ps=ps:=by
 rw[ve];have i:(aP m ps).map (·.1)=ps.map (·.1):=EQ (By m ps) up λk=>parts_mem;rw[i,zzo]
 conv=>rhs;rw[←zwR ps]
 apply zzF;intro p J;show (p.1,sums ((ps.filter λq=>decide (q.1=p.1)).map (·.2)) m)=p;rw[wK (Kp up) J,zyE,sum1 (j p J)]
noncomputable def aS(s:ab Int):Int:=match s.getLast? with
 |some x=>x+1|none=>0
noncomputable def extI(n:Nat)(s:ab Int):ab (ab Int):=(List.range (n - (aS s).toNat)).map λ(i:Nat)=>s++[aS s+(i:Int)]
noncomputable def lgr(n:Nat)(J:ab (ab Int)):ab (ab Int):=J.flatMap (extI n)
noncomputable def lv(n:Nat):Nat->ab (ab Int)
 |0=>[[]]|k+1=>lgr n (lv n k)
noncomputable def chs(n:Nat):Nat->ab (ab Int)
 |0=>[]|k+1=>chs n k++lv n (k+1)
theorem vg:∀n,n<=5->∀k,k<=6->(lv n k).length<=10:=by decide +kernel
theorem Ie:∀n,n<=5->lv n (n+1)=[]:=by decide +kernel
theorem Kq:∀n,n<=5->∀k,k<=n->lv n k≠[]:=by decide +kernel
theorem dR:∀n,n<=5->∀k,k<=6->(chs n k).length<=31:=by decide +kernel
noncomputable def ascB:ab Int->Bool
 |[]=>true|x::r=>r.all (λy=>decide (x<y)) && ascB r
noncomputable def okB(n:Nat)(s:ab Int):Bool:=decide (s.length<=5) && (s.all (λx=>decide (0<=x) && decide (x<(n:Int))) && ascB s)
theorem CI:∀{s:ab Int},ascB s=true->s.Nodup
 |[],_=>zxm|x::r,h=>by have h:(r.all (λy=>decide (x<y)) && ascB r)=true:=h;rw[zzV,zyj]at h;refine zzT.mpr ⟨λm=>?_,CI h.2⟩;have:=zzO (h.1 x m);lia
theorem CJ{n:Nat}{s:ab Int}(h:okB n s=true):s.length<=5/\(∀x∈s,0<=x/\x<(n:Int))/\s.Nodup:=by unfold okB at h;rw[zzV,zzV,zyj]at h;refine⟨zzO h.1,λx J=>?_,CI h.2.2⟩;have:=h.2.1 x J;rw[zzV]at this;exact⟨zzO this.1,zzO this.2⟩
theorem Ig:∀n,n<=5->∀k,k<=6->(lv n k).all (okB n)=true:=by decide +kernel
theorem EU:∀n,n<=5->∀k,k<=6->(chs n k).all (okB n)=true:=by decide +kernel
theorem Ih{n:Nat}(i:n<=5){k:Nat}(J:k<=6){s:ab Int}(h:s∈lv n k):s.length<=5/\(∀x∈s,0<=x/\x<(n:Int))/\s.Nodup:=CJ (zyj.mp (Ig n i k J) s h)
theorem vh{n:Nat}(i:n<=5){k:Nat}(J:k<=6){s:ab Int}(h:s∈chs n k):s.length<=5/\(∀x∈s,0<=x/\x<(n:Int))/\s.Nodup:=CJ (zyj.mp (EU n i k J) s h)
noncomputable def bZ(J:ab (ab Int)):D:=.lst (J.map ak)
theorem EV(n:Nat)(s:ab Int):(extI n s).length<=n:=by unfold extI;rw[zza,zyI];lia
theorem EW(n:Nat)(J:ab (ab Int)):(lgr n J).length<=n*J.length:=by
 unfold lgr
 induction J with
 |nil=>simp|cons a r ih =>
  rw[zyK,zzg,zzu,Nat.mul_succ];have:=EV n a;lia
theorem Bz{n:Nat}{s:ab Int}(h:∀x∈s,0<=x/\x<(n:Int)):0<=aS s/\aS s<=n:=by
 unfold aS;cases e:s.getLast? with
 |none=>exact⟨by simp,by simp⟩|some x =>
  have:=h x (List.mem_of_getLast? e);lia
def gLg:DSp:=λds Q=>∃(n:Nat) (J:ab (ab Int)),ds=[bZ J,.int n]/\n<=5/\J.length<=100/\(∀s∈J,s.length<=5/\∀x∈s,0<=x/\x<(n:Int))/\Q (bZ (lgr n J))
theorem BA(T:Tx K mg):T.BX.Ok P w base CX0 1 (spD K 2 gLg):=by
 refine fnd ["tuples","many","told","some","start","mark"] (λhr _=>(aa (dow 2 (aL bK)) (aw (aN (aB (dv 0)) (dgn 3) (aa (dse 4 (fm (ah ik (dln aX T.bv (dv 3)) ad) (ar bB (dix (dv 3) (fJ cN ad)) ad) ad)) (ai (aN (pQ T.bI (a2 4 1)) (dgn 5) (ai (cO (pv 2) (ar Ey (dv 3) (ay (a1 5))))))))) (dr (dv 2))))) (λds Q hl h=>?_);obtain⟨n,Y,rfl,r,G,ok,h⟩:=h;refine⟨sz,λρ=>∃j U J:Sl,ρ=[.val (bZ Y),.val (.int n),.own ((lgr n Y).map ak),j,U,J],?_,?_⟩
 ·refine aG (λpre ρ=>∃L o:ab (ab Int),Y=L++o/\pre=L.map ak/\∃j U J:Sl,ρ=[.val (bZ Y),.val (.int n),.own ((lgr n L).map ak),j,U,J]) (λρ v=>?_) (λpre d post ρ X e v m=>?_) _ ⟨[],Y,rfl,rfl,_,_,_,rfl⟩
  ·obtain⟨L,o,l,H,j,U,J,rfl⟩:=v;have:o=[]:=by
    have:=congrArg List.length H;rw[l]at this;simp at this;exact this
   subst this;rw[zzs]at l;subst l;exact⟨_,_,_,rfl⟩
  ·obtain⟨L,o,l,rfl,j,U,J,rfl⟩:=v;rw[l,zzc]at e;have e:=zzz e;cases o with
   |nil=>simp at e|cons c o =>
    rw[zzj]at e;injection e with I e4;subst I;have co:=ok c (by rw[l];simp);have st:=Bz co.2;have cl:L.length<=100:=by rw[l,zzg]at G;lia
    have ll:=EW n L;have lm:n*L.length<=5*100:=Nat.mul_le_mul r cl;have inner:∀E:DEnds,(∀ρ,(∃j U J:Sl,ρ=[.val (bZ Y),.val (.int n),.own ((lgr n (L++[c])).map ak),j,U,J])->E.nx ρ)->dFor (diR2 (aF (dVar 4) (aF (dVar 1) cF))) (bc 5) (dApp 2 (dOp HE (dVar 3) (dTup (aF (dVar 5) cF)))) E [.val (bZ Y),.val (.int n),.own ((lgr n L).map ak),.val (ak c),.val (.int (aS c)),J]:=λE g=>by
     have e5:((n:Int) - aS c).toNat=n - (aS c).toNat:=by lia
     refine⟨⟨by lia,by lia,by lia,by lia⟩,?_⟩;refine fq (λk ρ=>∃J:Sl,ρ=[.val (bZ Y),.val (.int n),.own ((lgr n L++(List.range (k - aS c).toNat).map λ(i:Nat)=>c++[aS c+(i:Int)]).map ak),.val (ak c),.val (.int (aS c)),J]) _ _ ?_ ?_ _ ⟨J,by rw[Int.sub_self];simp⟩
     ·rintro ρ ⟨J,rfl⟩;refine g _ ⟨.val (ak c),.val (.int (aS c)),J,?_⟩;have M:lgr n (L++[c])=lgr n L++(List.range (aS c+(((n:Int) - aS c).toNat:Nat) - aS c).toNat).map λ(i:Nat)=>c++[aS c+(i:Int)]:=by
       unfold lgr;rw[zyL,List.flatMap_singleton];have:(aS c+(((n:Int) - aS c).toNat:Nat) - aS c).toNat=n - (aS c).toNat:=by lia
       rw[this];rfl
      rw[M]
     ·rintro k ρ Z k0 k1 ⟨J,rfl⟩ p;have a:(List.range (k+1 - aS c).toNat).map (λ(i:Nat)=>c++[aS c+(i:Int)])=(List.range (k - aS c).toNat).map (λ(i:Nat)=>c++[aS c+(i:Int)])++[c++[k]]:=by
       rw[show (k+1 - aS c).toNat=(k - aS c).toNat+1 by lia,zxy,zzc];congr 2;show [c++[aS c+(((k - aS c).toNat:Nat):Int)]]=_;rw[show aS c+(((k - aS c).toNat:Nat):Int)=k by lia]
      refine⟨trivial,sz,?_,?_,p _ ⟨.val (.int k),?_⟩⟩
      ·show (c.map D.int).length+1<=sizeLine;rw[zza];exact zzl (show c.length+1<=6 by lia) (by decide)
      ·rw[zza,zzg,zza,zyI];exact zzw (show _<=600 by lia) (by decide)
      ·have em:∀A:ab (ab Int),(A++[c++[k]]).map ak=A.map ak++[.tup (c.map D.int++[.int k])]:=λA=>by
        rw[zzc];unfold ak;simp
       rw[a,←zzR,em];rfl
    have go:∀E:DEnds,(∀ρ,(∃j U J:Sl,ρ=[.val (bZ Y),.val (.int n),.own ((lgr n (L++[c])).map ak),j,U,J])->E.nx ρ)->True:=λ_ _=>trivial;have fin:∀ρ,(∃j U J:Sl,ρ=[.val (bZ Y),.val (.int n),.own ((lgr n (L++[c])).map ak),j,U,J])->X ρ:=λρ ⟨j,U,J,b⟩=>m ρ ⟨L++[c],o,by rw[l];simp,by simp,j,U,J,b⟩;have el:(((c.map D.int).length:Nat):Int)=c.length:=by rw[zza]
    refine Br.di (λz=>?_) (λz=>?_)
    ·obtain⟨x,C⟩:∃x,c.getLast? = some x:=by
      cases q:c.getLast? with
      |none =>
       rw[List.getLast?_eq_none_iff]at q;rw[q]at z;exact absurd z (by decide)
      |some x=>exact⟨x,rfl⟩
     have u:aS c=x+1:=by unfold aS;rw[C]
     rw[u]at inner;have cp:0<c.length:=by lia
     have N:atI (c.map D.int) (-1)=some (.int x):=by unfold atI ixN;rw[zza,zzh (by decide),zzk (by lia)];show (c.map D.int)[(-1+(c.length:Int)).toNat]?=_;rw[zzr,show (-1+(c.length:Int)).toNat=c.length - 1 by lia,←List.getLast?_eq_getElem?,C];rfl
     show opt (atI (c.map D.int) (-1)) _;rw[N];exact inner _ fin
    ·have cn:c=[]:=by
      have:c.length=0:=by lia
      exact zzH.mp this
     have u:aS c=0:=by rw[cn];rfl
     rw[u]at inner;exact inner _ fin
 ·rintro _ ⟨j,U,J,rfl⟩;exact h
def gCh:DSp:=λds Q=>∃n:Nat,ds=[.int n]/\n<=5/\Q (bZ (chs n (n+1)))
noncomputable def cntO:Sl->Nat
 |.own l=>2*(40 - l.length)|_=>0
noncomputable def flg:Sl->Nat
 |.val (.lst (_::_))=>1|_=>0
noncomputable def muC(ρ:DS):Nat:=cntO (slot ρ 1)+flg (slot ρ 2)
theorem zp(T:Tx K mg):T.zY.Ok P w base CX0 2 (spD K 1 gCh):=by
 refine fnd ["many","told","longest"] (λo _=>(aa (dow 1 (aL bK)) (aa (dse 2 (aE (aL (da1 (ay bK))))) (aw (uH (ah ik (dln aX T.bv (dv 2)) ad) (aa (dse 2 (dcl (BA T) o (a2 2 0))) (ai (Cv (pv 1) (dv 2))))) (dr (dv 1)))))) (λds Q hl h=>?_);obtain⟨n,rfl,J,h⟩:=h;refine⟨sz,sz,sz,λi=>∃j:Sl,i=[.val (.int n),.own ((chs n (n+1)).map ak),j],?_,?_⟩
 ·refine lY (λi=>∃k,k<=n+1/\i=[.val (.int n),.own ((chs n k).map ak),.val (bZ (lv n k))]) muC (λi X Y l=>?_) _ ⟨0,by lia,rfl⟩;obtain⟨k,kn,rfl⟩:=Y;have l10:=vg n J k (by lia);have cl:=dR n J k (by lia);by_cases z:k=n+1
  ·subst z;have e:=Ie n J;rw[e];exact Br.f ⟨_,rfl⟩
  ·have L:k<=n:=by lia
   have ne:=Kq n J k L;have lp:0<(lv n k).length:=List.length_pos_iff.mpr ne;have el:((((lv n k).map ak).length:Nat):Int)=(lv n k).length:=by rw[zza]
   refine Br.dt (by lia) ?_;refine⟨rfl,n,lv n k,rfl,J,by lia,λs hs=>⟨(Ih J (by lia) hs).1,(Ih J (by lia) hs).2.1⟩,trivial,?_⟩;have l10':=vg n J (k+1) (by lia);have e1:lgr n (lv n k)=lv n (k+1):=rfl;have U:(chs n (k+1)).map ak=(chs n k).map ak++(lv n (k+1)).map ak:=by show (chs n k++lv n (k+1)).map ak=_;rw[zzc]
   refine⟨_,rfl,?_,l _ ⟨k+1,by lia,by rw[U];rfl⟩ ?_⟩
   ·rw[zza,zza];exact zzl (show _<=100 by lia) (by decide)
   ·have c2:(chs n (k+1)).length=(chs n k).length+(lv n (k+1)).length:=by
     show (chs n k++lv n (k+1)).length=_;rw[zzg]
    show 2*(40 - ((chs n k).map ak++(lv n (k+1)).map ak).length)+flg (.val (bZ (lv n (k+1))))<2*(40 - ((chs n k).map ak).length)+flg (.val (bZ (lv n k)));have u:flg (.val (bZ (lv n k)))=1:=by
     cases q:lv n k with
     |nil=>exact absurd q ne|cons a r=>rfl
    have m2:flg (.val (bZ (lv n (k+1))))<=(lv n (k+1)).length/\flg (.val (bZ (lv n (k+1))))<=1:=by
     cases q:lv n (k+1) with
     |nil=>exact⟨zzq _,zzM _⟩|cons a r=>exact⟨Nat.succ_le_succ (zzM _),zzq _⟩
    rw[u,zzg,zza,zza];lia
 ·rintro _ ⟨j,rfl⟩;exact h
theorem ir(T:Tx K mg):T.iA.Ok P w base CX0 6 (spD K 2 (λds Q=>zk ds Q λi=>Q (.lst i))):=DL.FnOk.asD (sP T) (λds Q h=>h)
noncomputable def tblB(b:Bk)(so:ab Int):ab Row:=(bS b so).map (·.2)
noncomputable def trnB(b:Bk)(x y:Nat)(so:ab Int):D:=bY (told (tblB b so) x y) (cH (tblB b so) x y)
noncomputable def hdD:D->D
 |.tup (d::_)=>d|_=>.non
noncomputable def isT(b:Bk)(x y:Nat)(so:ab Int):Bool:=eqD (hdD (trnB b x y so)) (.str (PySem.Str.ofString "turned"))
theorem wM(ws:ab D)(d:D):∃s r,bY ws d=.tup (.str s::r)/\shp (.str s)=true:=by
 have i:∀s:Int,∃s' r,tkT s d=.tup (.str s'::r)/\shp (.str s')=true:=λs=>by
  unfold tkT;split
  ·exact⟨_,_,rfl,Shp.shp (n:=0) ⟨rfl,by decide +kernel,zzM _⟩⟩
  ·exact⟨_,_,rfl,Shp.shp (n:=0) ⟨rfl,by decide +kernel,zzM _⟩⟩
 unfold bY;split
 ·exact i 1
 ·split
  ·exact i (-1)
  ·split
   ·exact⟨_,_,rfl,Shp.shp (n:=0) ⟨rfl,by decide +kernel,zzM _⟩⟩
   ·exact⟨_,_,rfl,Shp.shp (n:=0) ⟨rfl,by decide +kernel,zzM _⟩⟩
noncomputable def tby(b:Bk)(x y:Nat):ab (ab Int):=if b.cells=[] then[] else(chs b.marks.length (b.marks.length+1)).filter (isT b x y)
def gTB:DSp:=λds Q=>∃(b:Bk) (x y:Int),ds=[eS b,.int x,.int y]/\BkOk b/\AbOk b.m x y/\Q (bZ (tby b x.toNat y.toNat))
theorem dS{b:Bk}(J:BkOk b)(cn:b.cells≠[])(i:ab Int):Tbl b.m (tblB b i):=by
 refine⟨J.m2,J.m6,?_,?_,λr L=>?_⟩
 ·cases q:b.cells with
  |nil=>exact absurd q cn|cons c t =>
   have:vals c.1 i∈(bS b i).map (·.1):=by unfold bS;rw[parts_mem,zzo,zzf];exact⟨c,by rw[q];exact zze,rfl⟩
   unfold tblB;cases e:bS b i with
   |nil=>rw[e]at this;simp at this|cons _ _=>simp
 ·unfold tblB;rw[zza];exact zzl (qj J) (by decide)
 ·obtain⟨c,U,rfl⟩:=zzf.mp L;rw[ky U];refine zo (λr L=>?_) ?_
  ·obtain⟨p,Y,rfl⟩:=zzf.mp L;obtain⟨d,hd,rfl⟩:=zzf.mp (zzQ.mp Y).1;exact(J.it d hd).2.1
  ·rw[zza];refine zzl (zyk _ _) ?_;rw[zza];exact J.c60
theorem zq:shp (.str (PySem.Str.ofString "turned"))=true:=Shp.shp (n:=0) ⟨rfl,by decide +kernel,zzM _⟩
theorem sQ(T:Tx K mg):T.tW.Ok P w base CX0 7 (spD K 3 gTB):=by
 refine fnd ["book","a","b"] (λl _=>(aa (dE (dcl (dw T) l (ac (dx 0) (a2 1 2)))) (aa (dir (ah (aW l) (dln aX T.bv (dx 0)) ad) (aE (aL bK))) (dr (dfc (ao ["some","book","a","b"] [none,some 0,some 1,some 2] rfl (aB (dcl (zp T) l (da1 (dln aX T.bv (dx 0))))) (dgb 0) (im (ah (aW l) (dix (dcl (kx T) l (ac (dcl (ir T) l (a2 1 0)) (a2 2 3))) ad) ag)) (dv 0))))))) (λds Q hl h=>?_);obtain⟨b,x,y,rfl,u,J,h⟩:=h;have j:=u.mk5;refine⟨rfl,⟨J.a0,J.a1,J.b0,J.b1,J.ne⟩,⟨rfl,rfl⟩,λz=>?_,λz=>?_⟩
 ·have z:(((b.cells.map ci).length:Nat):Int)=0:=by simpa[aK]using z
  have cn:b.cells=[]:=by rw[zza]at z;exact zzH.mp (by lia)
  unfold tby at h;rw[zzk cn]at h;exact⟨sz,h⟩
 ·have z:(((b.cells.map ci).length:Nat):Int)≠0:=by simpa[aK]using z
  have cn:b.cells≠[]:=λq=>z (by rw[q];rfl);unfold tby at h;rw[zzh cn]at h;have em:(((b.marks.map D.int).length:Nat):Int)=((b.marks.length:Nat):Int):=by rw[zza]
  refine⟨rfl,b.marks.length,by rw[em],j,?_⟩;have G:∀s∈chs b.marks.length (b.marks.length+1),SoOk b s:=λs hs=>by have:=vh j (show b.marks.length+1<=6 by lia) hs;exact⟨this.2.1,this.2.2,this.1⟩
  have cl:=dR _ j (b.marks.length+1) (by lia);generalize chs b.marks.length (b.marks.length+1)=cs at h G cl;refine aH (λpre o C=>∃U i:ab (ab Int),cs=U++i/\pre=U.map ak/\o=(U.filter (isT b x.toNat y.toNat)).map ak/\∃s:Sl,C=[s,.val (eS b),.val (.int x),.val (.int y)]) (λo C v=>?_) (λpre d post o C Y e v M=>?_) _ ⟨[],cs,rfl,rfl,rfl,_,rfl⟩
  ·obtain⟨U,i,L,a,rfl,s,rfl⟩:=v;have:i=[]:=by
    have:=congrArg List.length a;rw[L]at this;simp at this;exact this
   subst this;rw[zzs]at L;subst L;exact h
  ·obtain⟨U,i,L,rfl,rfl,s,rfl⟩:=v;rw[L,zzc]at e;have e:=zzz e;cases i with
   |nil=>simp at e|cons c i =>
    rw[zzj]at e;injection e with g e4;subst g;have k:=G c (by rw[L];simp);have n:=dS u cn c;have N:(U.filter (isT b x.toNat y.toNat)).length<=31:=by rw[L,zzg]at cl;exact zzl (zyk _ _) (by lia)
    refine⟨rfl,b,c,rfl,u,k,rfl,b.m,tblB b c,rfl,n,⟨J.a0,J.a1,J.b0,J.b1,J.ne⟩,?_⟩;obtain⟨p,r,I,sw⟩:=wM (told (tblB b c) x.toNat y.toNat) (cH (tblB b c) x.toNat y.toNat);have H:isT b x.toNat y.toNat c=eqD (.str p) (.str (PySem.Str.ofString "turned")):=by unfold isT trnB;rw[I];rfl
    rw[I];refine au (zzN 0) rfl ⟨⟨sw,zq⟩,λz=>?_,λz=>?_⟩
    ·have z:isT b x.toNat y.toNat c=true:=by rw[H];exact z
     refine⟨?_,M _ _ ⟨U++[c],i,by rw[L];simp,by simp,?_,_,rfl⟩⟩
     ·rw[zza];exact zzw N (by decide)
     ·rw[zya,zyd z,zzc];rfl
    ·have z:isT b x.toNat y.toNat c=false:=by rw[H];exact z
     refine M _ _ ⟨U++[c],i,by rw[L];simp,by simp,?_,_,rfl⟩;rw[zya,zzZ (by rw[z];exact zzI)];simp
noncomputable def lowP(a b:Int):Int×Int:=(a.fdiv (if b<0 then -((Int.gcd a b:Nat):Int) else((Int.gcd a b:Nat):Int)),b.fdiv (if b<0 then -((Int.gcd a b:Nat):Int) else((Int.gcd a b:Nat):Int)))
theorem fB{a b:Int}(J:b≠0):Ra.Low a b (lowP a b).1 (lowP a b).2:=Ra.low_of J rfl
theorem CK{a b:Int}(J:b≠0)(l:Ra.Low a b x h):x=(lowP a b).1/\h=(lowP a b).2:=l.uniq J (fB J)
noncomputable def ratD(a b:Int):D:=.tup [.int (lowP a b).1,.int (lowP a b).2]
theorem Ii{a b:Int}(U:b≠0){Q:D->Prop}(q:Q (ratD a b)):∀x y,Ra.Low a b x y->Q (.tup [.int x,.int y]):=λx y l=>by obtain⟨J,L⟩:=CK U l;rw[J,L];exact q
noncomputable def bp(c:Int×Int):D:=if c.1=0 then .non else ratD c.2 c.1
theorem nR{Q:D->Prop}(i:n<=7000)(j:Bd n c.1)(l:Bd n c.2)(q:Q (bp c)):qg [aq c] Q:=by
 refine⟨⟨j.mono i,l.mono i⟩,λe=>?_,λe=>Ii e ?_⟩
 ·unfold bp at q;rw[zzk e]at q;exact q
 ·unfold bp at q;rw[zzh e]at q;exact q
def gWC:DSp:=λds Q=>match ds with
 |[.lst xs,.int h]=>∃(n:Nat) (t:ab Row),xs=t.map rowD/\Tbl n t/\(0<=h/\h<n)/\(sumP (col t h.toNat)).1≠0/\Q (aq (sumP (col t h.toNat)))|_=>False
theorem cc(T:Tx K mg):T.oH.Ok P w base CX0 4 (spD K 2 gWC):=by
 refine fnd ["table","house","count"] (λJ _=>(aa (dE (dcl (eD T) J (ac (dcl (eE T) J (a1 0)) (a1 1)))) (aa (dse 2 (dix (dcl (qf T) J (a1 0)) (dv 1))) (aa (dif (ah (aW J) (dx 2) ad) dnv) (dr (dv 2)))))) (λds Q hl h=>?_);unfold gWC at h;split at h
 case h_2=>exact h.elim
 obtain⟨n,t,rfl,o,⟨h0,i⟩,hs,h⟩:=h;refine⟨rfl,fv o ⟨rfl,⟨h0,i⟩,rfl,n,t,rfl,o,cZ h0 i ⟨⟨rfl,rfl⟩,λz=>?_,λ_=>h⟩⟩⟩;exact absurd (by simpa[aK]using z) hs
theorem wN{t:ab Row}(G:∀r∈t,wD m r)(C:t.length<=1000)(h0:0<=h)(u:h<m){s:Sl}(q:Q ((col t h.toNat).map bp)) :
  bU (bc 0) bG (rW 1 qg (aF (dOp gIx (dVar 0) (dVar 1)) cF)) (t.map rowD) [] [s,.val (.int h)] Q:=by
 refine aH (λpre J l=>∃i j:ab Row,t=i++j/\pre=i.map rowD/\J=(col i h.toNat).map bp/\∃s,l=[s,.val (.int h)]) (λJ l L=>?_) (λpre d post J l Y e L v=>?_) _ ⟨[],t,rfl,rfl,rfl,_,rfl⟩
 ·obtain⟨i,j,rfl,e,rfl,_⟩:=L;have:j=[]:=by
   have:=congrArg List.length e;simp at this;exact this
  subst this;simpa using q
 ·obtain⟨i,j,rfl,rfl,rfl,s,rfl⟩:=L;rw[zzc]at e;have e:=zzz e;cases j with
  |nil=>simp at e|cons r j =>
   injection e with U e2;subst U;have o:=G r (by simp);have c:=(eJ o (h:=h.toNat) (by lia)).2;refine Br.t (ki o h0 u ⟨rfl,nR (by decide) c.bt c.bw ⟨?_,v _ _ ⟨i++[r],j,by simp,by simp,by simp[col],_,rfl⟩⟩⟩);rw[zza];unfold col;rw[zza];have:i.length<=1000:=by rw[zzg]at C;lia
   exact zzw this (by decide)
def Ij:DSp:=λds Q=>match ds with
 |[.lst xs,.int h]=>∃(n:Nat) (t:ab Row),xs=t.map rowD/\Tbl n t/\(0<=h/\h<n)/\Q (.lst ((col t h.toNat).map bp))|_=>False
theorem kA(T:Tx K mg):T.tS.Ok P w base CX0 4 (spD K 2 Ij):=by
 refine fnd ["table","house"] (λJ _=>(dr (dfc (ao ["part","house"] [none,some 1] rfl (aB (dv 0)) (dgb 0) ax (dcl (fA T) J (da1 (dix (dv 0) (dv 1)))))))) (λds Q hl h=>?_);unfold Ij at h;split at h
 case h_2=>exact h.elim
 obtain⟨n,t,rfl,o,⟨h0,i⟩,h⟩:=h;exact wN o.rows (zzl o.p60 (by decide)) h0 i h
noncomputable def ly(c d:Int×Int):Bool:=decide (c.2*d.1<d.2*c.1)
noncomputable def step(cs:Row)(st:Nat×Nat)(k:Nat):Nat×Nat:=(if ly (at_ cs k) (at_ cs st.1)=true then k else st.1,if ly (at_ cs st.2) (at_ cs k)=true then k else st.2)
noncomputable def plE(cs:Row)(n:Nat):ab Nat:=(List.range n).filter λk=>decide ((at_ cs k).1≠0)
noncomputable def EX(cs:Row)(ks:ab Nat):Nat×Nat:=match ks with
 |[]=>(0,0)|p::ps=>(p::ps).foldl (step cs) (p,p)
noncomputable def aY(cs:Row):Nat×Nat:=EX cs (plE cs cs.length)
noncomputable def sR(c:Int×Int):D:=ratD c.2 c.1
noncomputable def BB(cs:Row):D:=.tup [sR (at_ cs (aY cs).1),.int (aY cs).1,sR (at_ cs (aY cs).2),.int (aY cs).2]
theorem vi(i:Row)(n:Nat):plE i (n+1)=plE i n++(if (at_ i n).1≠0 then[n] else[]):=by
 unfold plE;rw[zxy,zya,List.filter_cons,List.filter_nil];by_cases h:(at_ i n).1≠0
 ·rw[zzk h,zzk (zzp h)]
 ·rw[zzh h,zzh (by rw[zzv h];exact zzI)]
theorem fW{k:Nat}(h:k∈plE r n):k<n/\(at_ r k).1≠0:=by unfold plE at h;rw[zzQ,zyo]at h;exact⟨h.1,zzO h.2⟩
theorem eU(i:Row):∀(ks:ab Nat),ks≠[]->(EX i ks).1∈ks/\(EX i ks).2∈ks:=by
 have key:∀(ks:ab Nat) (st:Nat×Nat) (all:ab Nat),st.1∈all->st.2∈all->(∀k∈ks,k∈all)->(ks.foldl (step i) st).1∈all/\(ks.foldl (step i) st).2∈all:=by
  intro ks
  induction ks with
  |nil=>intro st all j l _;exact⟨j,l⟩|cons k r L =>
   intro st all j l o;have hk:=o k zze;refine L (step i st k) all ?_ ?_ λx J=>o x (zzb _ J)
   ·unfold step;split<;>assumption
   ·unfold step;dsimp only;split<;>assumption
 intro ks h;cases ks with
 |nil=>exact absurd rfl h|cons p ps=>exact key (p::ps) (p,p) (p::ps) zze zze λ_ h=>h
theorem vj(J:Cnt 200 c.1 c.2)(hd:Cnt 200 d.1 d.2)(L:c.1≠0)(U:d.1≠0){Q:D->Prop}(q:Q (.bl (ly c d))):Ba [sR c,sR d] Q:=by
 have Y:=fB (a:=c.2) L;have ld:=fB (a:=d.2) U;have i:0<c.1:=by have:=J.lo;have:=J.hi;lia
 have j:0<d.1:=by have:=hd.lo;have:=hd.hi;lia
 refine⟨⟨(J.bw.le (Y.le L).1).mono (by decide),(J.bt.le (Y.le L).2).mono (by decide),(hd.bw.le (ld.le U).1).mono (by decide),(hd.bt.le (ld.le U).2).mono (by decide)⟩,?_⟩;have e:decide ((lowP c.2 c.1).1*(lowP d.2 d.1).2<(lowP d.2 d.1).1*(lowP c.2 c.1).2)=ly c d:=by exact decide_eq_decide.mpr (Ra.less_iff i j Y ld)
 rw[e];exact q
def gEA:DSp:=λds Q=>match ds with
 |[.lst xs]=>∃i:Row,xs=i.map bp/\(∀c∈i,Cnt 200 c.1 c.2)/\i.length<=1000/\plE i i.length≠[]/\Q (BB i)|_=>False
theorem mB(i:∀c∈r,Cnt 200 c.1 c.2){k:Nat}(J:k<r.length):r[k]?=some (at_ r k)/\Cnt 200 (at_ r k).1 (at_ r k).2:=eJ ⟨rfl,i⟩ J
theorem wO(l:∀c∈r,Cnt 200 c.1 c.2){k:Nat}(J:k∈plE r r.length){Q:D->Prop}(q:Q (sR (at_ r k))):opt (atI (r.map bp) (k:Int)) Q:=by obtain⟨i,j⟩:=fW J;refine au (by lia) ?_ q;rw[zzC,zzr,(mB l i).1];show some (bp (at_ r k))=_;unfold bp;rw[zzh j];rfl
theorem sS(hl:r.length<=1000){x:Sl}(q:Q ((plE r r.length).map λ(k:Nat)=>D.int k)) :
  bU (rY 2 (eQ (bc 0) (eQ (bc 1) wu))) (dB (dOp (gIsN true) (dVar 1) (dC .non))) (dVar 0) (cK 0 (r.map bp)) [] [x,y] Q:=by
 refine aH (λpre J l=>J=(plE r pre.length).map (λ(k:Nat)=>D.int k)/\∃x y,l=[x,y]) (λJ l j=>?_) (λpre d post J l Y e j o=>?_) _ ⟨rfl,_,_,rfl⟩
 ·rw[j.1,aM,zza];exact q
 ·obtain⟨rfl,x,y,rfl⟩:=j;have U:=congrArg List.length e;rw[aM,zza,zzg,zzu]at U;have H:(cK 0 (r.map bp))[pre.length]?=some d:=by
   rw[e,zzK (zzq _),zxO];rfl
  obtain⟨v,L,rfl⟩:=gA _ _ _ _ H;have I:pre.length<r.length:=by lia
  have C:v=bp (at_ r pre.length):=by
   rw[zzr]at L;have:r[pre.length]?=some (at_ r pre.length):=by unfold at_;simp[I]
   rw[this]at L;cases L;rfl
  subst C;have u:∀m:Nat,(plE r m).length<=m:=λm=>by unfold plE;have:=zyk (λk=>decide ((at_ r k).1≠0)) (List.range m);simpa using this
  have lt:((plE r pre.length).map (λ(k:Nat)=>D.int k)).length<sizeLine:=by rw[zza];exact zzw (show (plE r pre.length).length<=1000 by have:=u pre.length;lia) (by decide)
  have G:((0+pre.length:Nat):Int)=(pre.length:Int):=by lia
  by_cases h0:(at_ r pre.length).1=0
  ·have i:bp (at_ r pre.length)=.non:=by unfold bp;rw[zzk h0]
   rw[i];refine⟨rfl,Br.f (o _ _ ⟨?_,_,_,rfl⟩)⟩;rw[zzg,zxf,vi,zzh (by simpa using h0),zzs]
  ·have i:bp (at_ r pre.length)=sR (at_ r pre.length):=by unfold bp;rw[zzh h0];rfl
   rw[i];refine⟨rfl,Br.t ⟨lt,o _ _ ⟨?_,_,_,rfl⟩⟩⟩;rw[zzg,zxf,vi,zzk h0,zzc,G];rfl
theorem qp(T:Tx K mg):T.qU.Ok P w base CX0 2 (spD K 1 gEA):=by
 refine fnd ["ratios","places","least","greatest","place"] (λa _=>(aa (eB 1 (ao ["place","ratio"] [none,none] rfl (sB T.dg (a1 0)) (dg2 0 1) (im (ah Ek (dv 1) dn)) (dv 0))) (aa (dse 2 (dx 1)) (aa (dse 3 (dx 1)) (aw (aN (aB (dv 1)) (dgn 4) (aw (dif (bV (dcl (uU T) a (ac (dix (dv 0) (dv 4)) (da1 (dix (dv 0) (dv 2)))))) (ai (dse 2 (dv 4)))) (ai (dif (bV (dcl (uU T) a (ac (dix (dv 0) (dv 3)) (da1 (dix (dv 0) (dv 4)))))) (ai (dse 3 (dv 4))))))) (dr (ay (ac (dix (dv 0) (dv 2)) (ac (dv 2) (ac (dix (dv 0) (dv 3)) (a1 3))))))))))) (λds Q hl h=>?_);unfold gEA at h;split at h
 case h_2=>exact h.elim
 obtain⟨i,rfl,l,g,H,h⟩:=h;refine sS g ?_;generalize U:plE i i.length=ps at H;obtain⟨p,rest,rfl⟩:∃p rest,ps=p::rest:=by
  cases ps with
  |nil=>exact absurd rfl H|cons p rest=>exact⟨p,rest,rfl⟩
 have j:∀k∈p::rest,k∈plE i i.length:=λk E=>by rw[U];exact E
 refine au (d:=D.int (p:Int)) (zzN 0) rfl (au (d:=D.int (p:Int)) (zzN 0) rfl ?_);have q:aY i=(p::rest).foldl (step i) (p,p):=by unfold aY;rw[U];rfl
 refine⟨λo=>∃s:Sl,o=[.val (.lst (i.map bp)),.val (.lst ((p::rest).map λ(k:Nat)=>D.int k)),.val (.int (aY i).1),.val (.int (aY i).2),s],?_,?_⟩
 ·refine aG (λpre o=>∃ks J:ab Nat,p::rest=ks++J/\pre=ks.map (λ(k:Nat)=>D.int k)/\(ks.foldl (step i) (p,p)).1∈p::rest/\(ks.foldl (step i) (p,p)).2∈p::rest/\∃s:Sl,o=[.val (.lst (i.map bp)),.val (.lst ((p::rest).map λ(k:Nat)=>D.int k)),.val (.int (ks.foldl (step i) (p,p)).1),.val (.int (ks.foldl (step i) (p,p)).2),s]) (λo v=>?_) (λpre d post o X e v A=>?_) _ ⟨[],p::rest,rfl,rfl,zze,zze,_,rfl⟩
  ·obtain⟨ks,J,L,m,_,_,s,rfl⟩:=v;have:J=[]:=by
    have:=congrArg List.length m;have r:=congrArg List.length L;simp only[zza,zzg]at this r;exact zzH.mp (by lia)
   subst this;rw[zzs]at L;rw[q,L];exact⟨s,rfl⟩
  ·obtain⟨ks,J,L,rfl,C,G,s,rfl⟩:=v;rw[L,zzc]at e;have e:=zzz e;cases J with
   |nil=>simp at e|cons k J =>
    rw[zzj]at e;injection e with n e4;subst n;have mk:k∈p::rest:=by rw[L];simp
    have u:=fW (j k mk);have I:=fW (j _ C);have M:=fW (j _ G);have N:∀{x y:Nat},x∈p::rest->y∈p::rest->∀b:Bool,(if b=true then x else y)∈p::rest:=λhx hy b=>by split<;>assumption
    refine⟨λo=>o=[.val (.lst (i.map bp)),.val (.lst ((p::rest).map λ(k:Nat)=>D.int k)),.val (.int ((if ly (at_ i k) (at_ i (ks.foldl (step i) (p,p)).1)=true then k else(ks.foldl (step i) (p,p)).1:Nat):Int)),.val (.int (ks.foldl (step i) (p,p)).2),.val (.int (k:Int))],wO l (j k mk) (wO l (j _ C) ⟨rfl,vj (mB l u.1).2 (mB l I.1).2 u.2 I.2 ⟨λz=>?_,λz=>?_⟩⟩),?_⟩
    ·show _=_;rw[zzk z];rfl
    ·show _=_;rw[zzh (by rw[z];exact zzI)];rfl
    ·rintro _ rfl;have Y:∀b:Bool,b=ly (at_ i (ks.foldl (step i) (p,p)).2) (at_ i k)->X [.val (.lst (i.map bp)),.val (.lst ((p::rest).map λ(k:Nat)=>D.int k)),.val (.int ((if ly (at_ i k) (at_ i (ks.foldl (step i) (p,p)).1)=true then k else(ks.foldl (step i) (p,p)).1:Nat):Int)),.val (.int ((if b=true then k else(ks.foldl (step i) (p,p)).2:Nat):Int)),.val (.int (k:Int))]:=λb B=>by
      refine A _ ⟨ks++[k],J,by rw[L];simp,by simp,?_,?_,.val (.int (k:Int)),?_⟩
      ·rw[zxG];exact N mk C _
      ·rw[zxG];exact N mk G _
      ·rw[zxG,B];rfl
     refine wO l (j _ G) (wO l (j k mk) ⟨rfl,vj (mB l M.1).2 (mB l u.1).2 M.2 u.2 ⟨λz=>?_,λz=>?_⟩⟩)
     ·have:=Y true z.symm;exact this
     ·have:=Y false z.symm;exact this
 ·rintro _ ⟨s,rfl⟩;have c:=eU i (plE i i.length) (by rw[U];simp);exact wO l c.1 (wO l c.2 ⟨sz,h⟩)
def gEO:DSp:=λds Q=>match ds with
 |[.lst xs,.int h]=>∃(n:Nat) (t:ab Row),xs=t.map rowD/\Tbl n t/\(0<=h/\h<n)/\(sumP (col t h.toNat)).1≠0/\Q (BB (col t h.toNat))|_=>False
theorem fX{t:ab Row}(o:Tbl n t){h:Nat}(i:h<n):∀c∈col t h,Cnt 200 c.1 c.2:=λc J=>by obtain⟨r,L,rfl⟩:=zzf.mp J;exact(eJ (o.rows r L) i).2
theorem zr{t:ab Row}(o:Tbl n t){h:Nat}:(col t h).length<=1000:=by unfold col;rw[zza];exact zzl o.p60 (by decide)
theorem gI{i:Row}(hs:(sumP i).1≠0):plE i i.length≠[]:=λz=>by
 apply hs;have J:∀k,k<i.length->(at_ i k).1=0:=λk U=>zwf λh=>by
  have:k∈plE i i.length:=by unfold plE;rw[zzQ,zyo];exact⟨U,zzp h⟩
  rw[z]at this;simp at this
 have L:∀c∈i,c.1=0:=λc Y=>by obtain⟨k,U,e⟩:=zyH.mp Y;have:=J k U;unfold at_ at this;rw[zzx,zzn U]at this;rw[e]at this;exact this
 show (i.map (·.1)).sum=0;clear z J hs
 induction i with
 |nil=>rfl|cons c r j =>
  rw[zzj,zyc,L c zze,j λd hd=>L d (zzb _ hd)];rfl
theorem qq(T:Tx K mg):T.Aa.Ok P w base CX0 5 (spD K 2 gEO):=by
 refine fnd ["table","house"] (λJ _=>(aa (dE (dcl (cc T) J (a2 0 1))) (dr (dcl (qp T) J (da1 (dcl (kA T) J (a2 0 1))))))) (λds Q hl h=>?_);unfold gEO at h;split at h
 case h_2=>exact h.elim
 obtain⟨n,t,rfl,o,⟨h0,i⟩,hs,h⟩:=h;exact⟨rfl,n,t,rfl,o,⟨h0,i⟩,hs,rfl,n,t,rfl,o,⟨h0,i⟩,rfl,_,rfl,fX o (by lia),zr o,gI hs,h⟩
namespace Rq
variable{b c d:Int}{m n:Nat}{p q:Rat}
theorem iu{b:Int}(J:b≠0):(b:Rat)≠0:=λh=>J (Rat.intCast_inj.mp (by simpa using h))
theorem Kr{a c:Int}(J:b≠0)(hd:d≠0):(a:Rat) / b=(c:Rat) / d↔a*d=c*b:=by
 have hb':=iu J;have hd':=iu hd;constructor
 ·intro h;have:(a:Rat)*d=c*b:=by grind
  have:((a*d:Int):Rat)=((c*b:Int):Rat):=by rw[Rat.intCast_mul,Rat.intCast_mul];exact this
  exact Rat.intCast_inj.mp this
 ·intro h;have:((a*d:Int):Rat)=((c*b:Int):Rat):=by rw[h]
  grind
theorem self(q:Rat):(q.num:Rat) / ((q.den:Int):Rat)=q:=by rw[←Rat.divInt_eq_div];exact Rat.num_divInt_den q
theorem den_pos(q:Rat):(0:Int)<(q.den:Int):=by have:=q.den_pos;lia
theorem fO(q:Rat):(q.den:Int)≠0:=by have:=den_pos q;lia
theorem lowQ{a:Int}(J:b≠0):Ra.Low a b ((a:Rat) / b).num (((a:Rat) / b).den:Int):=by
 refine⟨den_pos _,?_,?_⟩
 ·exact((a:Rat) / b).reduced
 ·exact(Kr (fO _) J).mp (self ((a:Rat) / b))
theorem low{a x:Int}(J:b≠0)(l:Ra.Low a b x c):x=((a:Rat) / b).num/\c=(((a:Rat) / b).den:Int):=l.uniq J (lowQ J)
theorem CL(p q:Rat):((p.num*(q.den:Int)+q.num*(p.den:Int):Int):Rat) / (((p.den:Int)*(q.den:Int):Int):Rat)=p+q:=by
 have hp:=self p;have hq:=self q;have dp:=iu (fO p);have dq:=iu (fO q)
 grind
theorem CM(p q:Rat):((p.num*(q.den:Int) - q.num*(p.den:Int):Int):Rat) / (((p.den:Int)*(q.den:Int):Int):Rat)=p - q:=by
 have hp:=self p;have hq:=self q;have dp:=iu (fO p);have dq:=iu (fO q)
 grind
theorem num_ne(h:q≠0):q.num≠0:=λz=>h (Rat.num_eq_zero.mp z)
theorem CN(p q:Rat)(h:q≠0):((p.num*(q.den:Int):Int):Rat) / (((p.den:Int)*q.num:Int):Rat)=p / q:=by
 have hp:=self p;have hq:=self q
 grind
structure QB(n:Nat)(q:Rat):Prop where
 nu:Bd n q.num
 de:Bd n (q.den:Int)
theorem QB.mono{m n:Nat}{q:Rat}(h:QB m q)(l:m<=n):QB n q:=⟨h.nu.mono l,h.de.mono l⟩
theorem QB.of{a:Int}(J:b≠0)(L:Bd n a)(U:Bd n b):QB n ((a:Rat) / b):=⟨L.le ((lowQ J).le J).1,U.le ((lowQ J).le J).2⟩
theorem wP(p q:Rat):((p.den:Int)*(q.den:Int))≠0:=zwJ (fO p) (fO q)
theorem QB.add{m n:Nat}{p q:Rat}(h:QB m p)(k:QB n q):QB (m+n+1) (p+q):=by rw[←CL];exact QB.of (wP p q) (((h.nu.mul k.de).add (k.nu.mul h.de)).mono (by lia)) ((h.de.mul k.de).mono (by lia))
theorem QB.sub{m n:Nat}{p q:Rat}(h:QB m p)(k:QB n q):QB (m+n+1) (p - q):=by rw[←CM];exact QB.of (wP p q) (((h.nu.mul k.de).sub (k.nu.mul h.de)).mono (by lia)) ((h.de.mul k.de).mono (by lia))
theorem QB.div(h:QB m p)(k:QB n q)(J:q≠0):QB (m+n) (p / q):=by rw[←CN p q J];exact QB.of (zwJ (fO p) (num_ne J)) (h.nu.mul k.de) (h.de.mul k.nu)
end Rq
open Rq
noncomputable def ratQ(q:Rat):D:=.tup [.int q.num,.int (q.den:Int)]
theorem nS{a b:Int}(U:b≠0){Q:D->Prop}(q:Q (ratQ ((a:Rat) / b))):∀x y,Ra.Low a b x y->Q (.tup [.int x,.int y]):=λx y l=>by obtain⟨J,L⟩:=Rq.low U l;rw[J,L];exact q
theorem Ks{p:Rat}(h:QB 3000 p)(k:QB 3000 q){Q:D->Prop}(r:Q (ratQ (p+q))):Ep [ratQ p,ratQ q] Q :=
 ⟨⟨wP p q,h.nu,h.de,k.nu,k.de⟩,nS (wP p q) (by rw[CL];exact r)⟩
theorem CO{p:Rat}(h:QB 3000 p)(k:QB 3000 q){Q:D->Prop}(r:Q (ratQ (p - q))):yN [ratQ p,ratQ q] Q :=
 ⟨⟨wP p q,h.nu,h.de,k.nu,k.de⟩,nS (wP p q) (by rw[CM];exact r)⟩
theorem Kt{p:Rat}(h:QB 3000 p)(k:QB 3000 q)(J:q≠0){Q:D->Prop}(r:Q (ratQ (p / q))):Er [ratQ p,ratQ q] Q :=
 ⟨⟨zwJ (fO p) (num_ne J),h.nu,h.de,k.nu,k.de⟩,nS (zwJ (fO p) (num_ne J)) (by rw[CN p q J];exact r)⟩
theorem Ik{p:Rat}(h:QB 7000 p)(k:QB 7000 q){Q:D->Prop}(r:Q (.bl (decide (p<q)))):Ba [ratQ p,ratQ q] Q:=by refine⟨⟨h.nu,h.de,k.nu,k.de⟩,?_⟩;have e:decide (p.num*(q.den:Int)<q.num*(p.den:Int))=decide (p<q):=decide_eq_decide.mpr (Rat.lt_iff p q).symm;rw[e];exact r
noncomputable def shQ(c:Int×Int):Rat:=(c.2:Rat) / (c.1:Rat)
theorem zu{a b:Int}(J:b≠0):ratD a b=ratQ ((a:Rat) / b):=by obtain⟨L,U⟩:=Rq.low J (fB J);unfold ratD ratQ;rw[L,U]
theorem vm(h:c.1≠0):sR c=ratQ (shQ c):=zu h
theorem zv(h:c.1≠0):bp c=ratQ (shQ c):=by unfold bp;rw[zzh h];exact zu h
theorem Ku(h:Cnt n c.1 c.2)(h0:c.1≠0):QB n (shQ c):=QB.of h0 h.bw h.bt
theorem gJ(J:0<c.1)(hd:0<d.1):ly c d=decide (shQ c<shQ d):=by refine decide_eq_decide.mpr ?_;rw[Rat.lt_iff];exact(Ra.less_iff J hd (lowQ (by lia)) (lowQ (by lia))).symm
noncomputable def wQ(t:ab Row)(h:Int):Rat:=shQ (sumP (col t h.toNat))
theorem wQ_B{t:ab Row}(o:Tbl n t)(h0:0<=h)(h1:h<n)(hs:(sumP (col t h.toNat)).1≠0):QB 300 (wQ t h):=by have w:=bL o (h:=h.toNat) (by lia);exact QB.of hs w.2.2.2 w.2.2.1
theorem CP{Q:D->Prop}(l:n<=7000)(i:Bd n c.1)(j:Bd n c.2)(h0:c.1≠0)(q:Q (ratQ (shQ c))):qg [aq c] Q :=
 nR l i j (by rw[zv h0];exact q)
theorem zw(l:∀c∈r,Cnt 200 c.1 c.2){k:Nat}(J:k∈plE r r.length):(0<(at_ r k).1)/\QB 200 (shQ (at_ r k)):=by obtain⟨i,j⟩:=fW J;have c:=(mB l i).2;exact⟨by have:=c.lo;have:=c.hi;lia,Ku c j⟩
theorem kB(i:∀c∈r,Cnt 200 c.1 c.2)(J:plE r r.length≠[]):(0<(at_ r (aY r).1).1/\QB 200 (shQ (at_ r (aY r).1)))/\(0<(at_ r (aY r).2).1/\QB 200 (shQ (at_ r (aY r).2))) :=
 ⟨zw i (eU r _ J).1,zw i (eU r _ J).2⟩
theorem vo(i:∀c∈r,Cnt 200 c.1 c.2)(J:plE r r.length≠[]):BB r=.tup [ratQ (shQ (at_ r (aY r).1)),.int (aY r).1,ratQ (shQ (at_ r (aY r).2)),.int (aY r).2]:=by have e:=kB i J;unfold BB;rw[vm (by lia),vm (by lia)]
def gGap:DSp:=λds Q=>match ds with
 |[.lst xs,.int a,.int b]=>∃(n:Nat) (t:ab Row),xs=t.map rowD/\Tbl n t/\(0<=a/\a<n)/\(0<=b/\b<n)/\(sumP (col t a.toNat)).1≠0/\(sumP (col t b.toNat)).1≠0/\Q (ratQ (wQ t a - wQ t b))|_=>False
theorem sT(T:Tx K mg):T.tG.Ok P w base CX0 5 (spD K 3 gGap):=by
 refine fnd ["table","a","b"] (λJ _=>(dr (dcl (zd T) J (ac (dcl (fA T) J (da1 (dcl (cc T) J (a2 0 1)))) (da1 (dcl (fA T) J (da1 (dcl (cc T) J (a2 0 2))))))))) (λds Q hl h=>?_);unfold gGap at h;split at h
 case h_2=>exact h.elim
 rename_i a b;obtain⟨n,t,rfl,o,⟨j,a1⟩,⟨l,u⟩,i,L,h⟩:=h;have U:=bL o (h:=a.toNat) (by lia);have Y:=bL o (h:=b.toNat) (by lia);exact⟨rfl,n,t,rfl,o,⟨j,a1⟩,i,rfl,CP (by decide) U.2.2.1 U.2.2.2 i ⟨rfl,n,t,rfl,o,⟨l,u⟩,L,rfl,CP (by decide) Y.2.2.1 Y.2.2.2 L ⟨rfl,CO ((wQ_B o j a1 i).mono (by decide)) ((wQ_B o l u L).mono (by decide)) h⟩⟩⟩
theorem q0B:QB (n+1) 0:=⟨Bd.mono (m:=1) (by unfold Bd;decide) (by lia),Bd.mono (m:=1) (by unfold Bd;decide) (by lia)⟩
theorem Br.ni{p:Prop}[Decidable p]{A B:Prop}(a:¬p->A)(b:p->B):Br (!decide p) A B:=by
 by_cases h:p
 ·rw[zzp h];exact Br.f (b h)
 ·rw[zzv h];exact Br.t (a h)
noncomputable def lvl(lead reach:Rat):Rat:=if 0<lead then lead / (lead+reach) else 0
def gPtl:DSp:=λds Q=>∃i reach:Rat,ds=[ratQ i,ratQ reach]/\QB 700 i/\QB 700 reach/\(0<i->i+reach≠0)/\Q (ratQ (lvl i reach))
theorem kC(T:Tx K mg):T.kT.Ok P w base CX0 4 (spD K 2 gPtl):=by
 refine fnd ["lead","reach"] (λJ _=>(aa (dir (cj (bV (dcl (uU T) J (ac (ay (ac ad (da1 ad))) (a1 0))))) (ay (ac ad (da1 ad)))) (dr (dcl (HZ T) J (ac (dv 0) (da1 (dcl (HY T) J (a2 0 1)))))))) (λds Q hl h=>?_);obtain⟨lead,reach,rfl,i,L,j,h⟩:=h;unfold lvl at h;refine⟨sz,rfl,Ik q0B (i.mono (by decide)) (Br.ni (λz=>?_) (λz=>?_))⟩
 ·rw[zzh z]at h;exact⟨sz,h⟩
 ·rw[zzk z]at h;exact⟨rfl,Ks (i.mono (by decide)) (L.mono (by decide)) ⟨rfl,Kt (i.mono (by decide)) ((i.add L).mono (by decide)) (j z) h⟩⟩
noncomputable def EY(cs ds:Row)(lead:Rat):D:=if shQ (at_ cs (aY cs).1)<shQ (at_ ds (aY ds).2) then .tup [.str "can",.int (aY cs).1,.int (aY ds).2,ratQ (lvl lead (shQ (at_ ds (aY ds).2) - shQ (at_ cs (aY cs).1)))] else .tup [.str "never",.int (aY cs).1,.int (aY ds).2]
def Il:DSp:=λds Q=>match ds with
 |[.lst xs,.int a,.int b]=>∃(n:Nat) (t:ab Row),xs=t.map rowD/\Tbl n t/\(0<=a/\a<n)/\(0<=b/\b<n)/\a≠b/\(sumP (col t a.toNat)).1≠0/\(sumP (col t b.toNat)).1≠0/\Q (EY (col t a.toNat) (col t b.toNat) (wQ t a - wQ t b))|_=>False
theorem Im(T:Tx K mg):T.IU.Ok P w base CX0 6 (spD K 3 Il):=by
 refine fnd ["table","a","b","ends","others","t"] (λJ _=>(aa (dE (dcl (dw T) J (ac (dcl (eE T) J (a1 0)) (a2 1 2)))) (aa (dse 3 (dcl (qq T) J (a2 0 1))) (aa (dse 4 (dcl (qq T) J (a2 0 2))) (aa (dir (cj (bV (dcl (uU T) J (ac (dx 3) (da1 (dx 4)))))) (ay (ac ag (ac (dx 3) (da1 (dx 4)))))) (aa (dse 5 (dcl (kC T) J (ac (dcl (sT T) J (a3 0 1 2)) (da1 (dcl (zd T) J (ac (dx 4) (da1 (dx 3)))))))) (dr (ay (ac ag (ac (dx 3) (ac (dx 4) (a1 5)))))))))))) (λds Q hl h=>?_);unfold Il at h;split at h
 case h_2=>exact h.elim
 rename_i a b;obtain⟨n,t,rfl,o,⟨j,a1⟩,⟨l,u⟩,Y,i,L,h⟩:=h;have U:=fX o (h:=a.toNat) (by lia);have G:=fX o (h:=b.toNat) (by lia);have v:=kB U (gI i);have C:=kB G (gI L);refine⟨rfl,fv o ⟨rfl,⟨j,a1,l,u,Y⟩,rfl,n,t,rfl,o,⟨j,a1⟩,i,?_⟩⟩;rw[vo U (gI i)];refine⟨rfl,n,t,rfl,o,⟨l,u⟩,L,?_⟩;rw[vo G (gI L)];unfold EY at h;refine⟨rfl,Ik (v.1.2.mono (by decide)) (C.2.2.mono (by decide)) (Br.ni (λz=>?_) (λz=>?_))⟩
 ·rw[zzh z]at h;exact⟨sz,h⟩
 ·rw[zzk z]at h;refine⟨rfl,n,t,rfl,o,⟨j,a1⟩,⟨l,u⟩,i,L,rfl,CO (C.2.2.mono (by decide)) (v.1.2.mono (by decide)) ⟨rfl,_,_,rfl,?_,?_,?_,?_⟩⟩
  ·exact((wQ_B o j a1 i).sub (wQ_B o l u L)).mono (by decide)
  ·exact(C.2.2.sub v.1.2).mono (by decide)
  ·intro g
   grind
  ·exact⟨sz,h⟩
theorem zx{g:DG}{b:DTS}{E:DEnds}{xs:ab D}(N:Nat->DS->Prop)(o:∀ρ,N (min xs.length ys.length) ρ->E.nx ρ)(hs:∀(i:Nat) (x y:D) (ρ:DS) (X:DS->Prop),xs[i]?=some x->ys[i]?=some y->N i ρ->(∀j,N (i+1) j->X j)->g (.tup [x,y]) ρ λL=>b {E with nx:=X,ct:=X,bk:=E.nx} L)(ρ:DS)(h:N 0 ρ):cX g b (zipD xs ys) E ρ:=by
 refine aG (λpre ρ=>N pre.length ρ) (λρ J=>o ρ (by rw[fV]at J;exact J)) (λpre d post ρ X e J U=>?_) _ h;have Y:(zipD xs ys)[pre.length]?=some d:=by rw[e,zzK (zzq _),zxO];rfl
 obtain⟨x,y,u,v,rfl⟩:=nB _ _ _ _ Y;exact hs _ x y ρ X u v J λj l=>U j (by rw[zzg];exact l)
noncomputable def wtW(W:Int)(cs:Row):ab D:=cs.map λc=>ratD c.1 W
noncomputable def mixD(W:Int)(c:Int×Int):D:=if c.1=0 then .non else .tup [ratD c.1 W,ratD c.2 c.1]
def gWts:DSpN:=λds _ L=>match ds with
 |[.lst xs,.int h]=>∃(n:Nat) (t:ab Row),xs=t.map rowD/\Tbl n t/\(0<=h/\h<n)/\(sumP (col t h.toNat)).1≠0/\L (wtW (sumP (col t h.toNat)).1 (col t h.toNat))|_=>False
theorem nT(T:Tx K mg):T.fe.Ok P w base CX0 5 (spDN K 2 gWts):=by
 refine fnDN T.fe.d.F nL (λN _=>(gC (dse 2 (dix (dcl (cc T) N (a2 0 1)) ad)) (nC (PCD.pld (ao ["part","house","tried"] [none,some 1,some 2] rfl (aB (dv 0)) (dgb 0) ax (dcl (dQ T) N (ac (dix (dix (dv 0) (dv 1)) ad) (a1 2)))))))) (λds Q L hl h=>?_);unfold gWts at h;split at h
 case h_2=>exact h.elim
 rename_i u;obtain⟨n,t,rfl,o,⟨h0,I⟩,hs,h⟩:=h;have b:=bL o (h:=u.toNat) (by lia);refine⟨rfl,n,t,rfl,o,⟨h0,I⟩,hs,?_⟩;obtain⟨W,M⟩:∃W,(sumP (col t u.toNat)).1=W:=⟨_,rfl⟩;rw[M]at hs b h;refine aH (λpre J G=>∃i j:ab Row,t=i++j/\pre=i.map rowD/\J=wtW W (col i u.toNat)/\∃s,G=[s,.val (.int u),.val (.int W)]) (λJ G v=>?_) (λpre d post J G Y e v g=>?_) _ ⟨[],t,rfl,rfl,rfl,.nil,by rw[←M];rfl⟩
 ·obtain⟨i,j,rfl,e,rfl,_⟩:=v;have:j=[]:=by
   have:=congrArg List.length e;simp at this;exact this
  subst this;rw[zzs]at h;exact h
 ·obtain⟨i,j,rfl,rfl,rfl,s,rfl⟩:=v;rw[zzc]at e;have e:=zzz e;cases j with
  |nil=>simp at e|cons r j =>
   injection e with U H;subst U;have a:=o.rows r (by simp);have c:=(eJ a (h:=u.toNat) (by lia)).2;refine Br.t (ki a h0 I ⟨rfl,⟨hs,c.bt.mono (by decide),b.2.2.1.mono (by decide)⟩,λx y l=>?_⟩);obtain⟨U,H⟩:=CK hs l;rw[U,H];refine⟨?_,g _ _ ⟨i++[r],j,by simp,by simp,by simp[col,wtW,ratD],_,rfl⟩⟩;unfold wtW col;rw[zza,zza];have C:=o.p60;rw[zzg]at C;exact zzw (show i.length<=1000 by lia) (by decide)
def Io:DSp:=λds Q=>match ds with
 |[.lst xs,.int h]=>∃(n:Nat) (t:ab Row),xs=t.map rowD/\Tbl n t/\(0<=h/\h<n)/\(sumP (col t h.toNat)).1≠0/\Q (.lst (wtW (sumP (col t h.toNat)).1 (col t h.toNat)))|_=>False
theorem qt(T:Tx K mg):T.fe.Ok P w base CX0 5 (spD K 2 Io):=DL.FnOk.asD (nT T) (λds Q h=>by
 unfold Io at h;split at h
 ·exact h
 ·exact h.elim)
noncomputable def mixO(cs:Row):O:=.tup [.val (ratD (sumP cs).2 (sumP cs).1),.lst ((cs.map (mixD (sumP cs).1)).map .val)]
def gMix:DSpB:=λds _ L=>match ds with
 |[.lst xs,.int h]=>∃(n:Nat) (t:ab Row),xs=t.map rowD/\Tbl n t/\(0<=h/\h<n)/\(sumP (col t h.toNat)).1≠0/\L (mixO (col t h.toNat))|_=>False
theorem zy(T:Tx K mg):T.oq.Ok P w base CX0 6 (spDB K 2 gMix):=by
 refine fnDB T.oq.d.F zc (λv _=>(Bi (dow 2 (aL bK)) (Eu (aN (uL T.BZ (ac (dcl (qt T) v (a2 0 1)) (da1 (dcl (kA T) v (a2 0 1))))) (dg2 3 4) (ai (cO (pv 2) (fm (ah uJ (dv 4) dn) dn (ay (a2 3 4)))))) (Bh (dcl (fA T) v (da1 (dcl (cc T) v (a2 0 1)))) (pv 2))))) (λds Q L hl h=>?_);unfold gMix at h;split at h
 case h_2=>exact h.elim
 rename_i j;obtain⟨n,t,rfl,o,⟨h0,C⟩,hs,h⟩:=h;have M:=bL o (h:=j.toNat) (by lia);have Y:=zr o (h:=j.toNat);obtain⟨W,I⟩:∃W,(sumP (col t j.toNat)).1=W:=⟨_,rfl⟩;refine⟨sz,λu=>∃a b:Sl,u=[.val (.lst (t.map rowD)),.val (.int j),.own ((col t j.toNat).map (mixD W)),a,b],?_,?_⟩
 ·refine⟨rfl,n,t,rfl,o,⟨h0,C⟩,hs,rfl,n,t,rfl,o,⟨h0,C⟩,?_⟩;rw[I];generalize hcs:col t j.toNat=cs at Y;refine zx (λi u=>∃a b:Sl,u=[.val (.lst (t.map rowD)),.val (.int j),.own ((cs.take i).map (mixD W)),a,b]) (λu G=>?_) (λi x y u X J l G N=>?_) _ ⟨_,_,rfl⟩
  ·obtain⟨a,b,rfl⟩:=G;refine⟨a,b,?_⟩;have:cs.take (min (wtW W cs).length (cs.map bp).length)=cs:=zxA (by unfold wtW;simp);rw[this]
  ·obtain⟨a,b,rfl⟩:=G;unfold wtW at J;rw[zzr]at J l;cases H:cs[i]? with
   |none=>rw[H]at J;cases J
   |some c =>
    rw[H]at J l;simp only[Option.map_some,zwp]at J l;have e:cs.take (i+1)=cs.take i++[c]:=by rw[List.take_add_one,H];rfl
    have key:∀d,d=mixD W c->((cs.take i).map (mixD W)).length<sizeLine/\X [.val (.lst (t.map rowD)),.val (.int j),.own ((cs.take i).map (mixD W)++[d]),.val x,.val y]:=λd hd=>by refine⟨?_,N _ ⟨_,_,by rw[e,zzc,hd];rfl⟩⟩;rw[zza,zyM];exact zzw (show min i cs.length<=1000 by lia) (by decide)
    by_cases z:c.1=0
    ·have U:y=.non:=by rw[←l];unfold bp;rw[zzk z]
     subst U;exact⟨rfl,trivial,Br.t (key .non (by unfold mixD;rw[zzk z]))⟩
    ·have U:y=ratD c.2 c.1:=by rw[←l];unfold bp;rw[zzh z]
     subst U;exact⟨rfl,trivial,Br.f ⟨sz,key _ (by unfold mixD;rw[zzh z,J])⟩⟩
 ·rintro _ ⟨a,b,rfl⟩;refine⟨rfl,n,t,rfl,o,⟨h0,C⟩,hs,rfl,nR (by decide) M.2.2.1 M.2.2.2 ?_⟩;unfold bp;rw[zzh hs];unfold mixO at h;rw[I]at h ⊢;exact h
theorem zz:∀ds:ab D,fzOs (ds.map O.val)=ds
 |[]=>rfl|d::r=>by simp only[zzj,fzOs,fzO,zz r]
noncomputable def mixT(cs:Row):D:=.tup [ratD (sumP cs).2 (sumP cs).1,.lst (cs.map (mixD (sumP cs).1))]
theorem Ip(cs:Row):fzO (mixO cs)=mixT cs:=by unfold mixO mixT;simp only[fzO,fzOs,zz]
def Iq:DSp:=λds Q=>match ds with
 |[.lst xs,.int h]=>∃(n:Nat) (t:ab Row),xs=t.map rowD/\Tbl n t/\(0<=h/\h<n)/\(sumP (col t h.toNat)).1≠0/\Q (mixT (col t h.toNat))|_=>False
theorem BC(T:Tx K mg):T.oq.Ok P w base CX0 6 (spD K 2 Iq):=DL.FnOk.asDB (zy T) (λds Q h=>by
 unfold Iq at h;split at h
 ·obtain⟨n,t,a,b,c,d,h⟩:=h;exact⟨n,t,a,b,c,d,by show Q (fzO (mixO _));rw[Ip];exact h⟩
 ·exact h.elim)
noncomputable def qu(lo hi:Nat)(x:Str):Bool:=x.cps.toList.all λc=>decide (lo<=c) && decide (c<=hi)
theorem zA(a c:Nat):(!decide ([c] < [a]))=decide (a<=c):=by
 by_cases h:a<=c
 ·rw[zzp h,zzv]
  ·rfl
  ·intro z;cases z with
   |rel z=>exact absurd z (by lia)|cons z=>cases z
 ·rw[zzv h,zzp]
  ·rfl
  ·exact .rel (by lia)
theorem mC{b:Nat}{s:Sl}{x:Str}(o:x.length<=100000)(U:Q (x.cps.toList.map λc=>D.bl (decide (a<=c) && decide (c<=b)))) :
  bU (bc 0) bG (uF (g2S (λ_ _=>True) λi j=>D.bl !decide (j.cps.toList<i.cps.toList)) (g2S (λ_ _=>True) λi j=>D.bl !decide (j.cps.toList<i.cps.toList)) (dC (.str ⟨#[a]⟩)) (dVar 0) (dC (.str ⟨#[b]⟩))) (nJ x) [] [s] Q:=by
 refine aA _ (λl=>∃s,l=[s]) (by rw[zyh];exact zzl o (by decide)) (λc _ l Y Z J L=>?_) _ ⟨_,rfl⟩ U;obtain⟨s,rfl⟩:=J;refine Br.t ⟨trivial,?_⟩;show Br (!decide ([c] < [a])) _ _;rw[zA];have:=L [.val (.str ⟨#[c]⟩)] ⟨_,rfl⟩;refine⟨λe=>⟨trivial,?_⟩,λe=>?_⟩
 ·show Y (.bl (!decide ([b] < [c]))) _;simp only[e,zxi]at this;rw[zA];exact this
 ·simp only[e,zxH]at this;exact this
noncomputable def isNm(x:Str):Bool:=decide (1<=x.length) && decide (x.length<=8) && qu 97 122 x
theorem qw{b:Nat}{x:Str}{P:D->Prop}(h:P (.bl (qu a b x))):gTru (λbs=>bs.all id) [.lst (x.cps.toList.map λc=>D.bl (decide (a<=c) && decide (c<=b)))] P:=by
 have:=sD (f:=λbs=>bs.all id) (P:=P) (by rw[List.all_map];exact h)
 rw[zzo]at this;exact this
def gName:DSp:=λds Q=>∃x:Str,ds=[.str x]/\x.length<=100000/\Q (.bl (isNm x))
theorem qx(T:Tx K mg):T.Ai.Ok P w base CX0 1 (spD K 1 gName):=by
 refine fnd ["word"] (λhr _=>(dr (gx (gy iW iW ad (dln sE T.bv (dv 0)) (ft rfl T.kX)) (gw (aZ yT T.FD PyProof.Rows.boot_all (da1 (dfc (ao ["sign"] [none] rfl (Cw (dv 0)) (dgb 0) ax (gy uQ uQ ag (dv 0) ag))))))))) (λds Q hl h=>?_);obtain⟨x,rfl,U,h⟩:=h;unfold isNm at h;refine⟨(show x.length<=sizeLine from zzl U (by decide)),λJ=>⟨λL=>?_,λL=>?_⟩,λJ=>Br.f ?_⟩
 ·rw[zzp (by have:=zzO J;lia),zzp (by have:=zzO L;lia)]at h;exact⟨x,rfl,mC U (qw h)⟩
 ·rw[zzv (p:=x.length<=8) (by have:=zyg L;lia),Bool.and_false]at h;exact h
 ·rw[zzv (by have:=zyg J;lia)]at h;exact h
theorem bq{i:Str}:eqD (.str i) (.str z)=decide (i=z):=by show (i==z)=_;by_cases h:i=z<;>simp[h]
structure TxOk(x:Str):Prop where
 le:x.length <= 100000
 ok:PyData.strOk x=true
theorem db{x:Str}(h:PyData.strOk x=true):shp (.str x)=true:=by show (true && (PyData.strOk x && decide (0<=64)))=true;rw[h];rfl
theorem ok1(h:n<1114112):PyData.strOk ⟨#[n]⟩=true:=by simp[PyData.strOk,h]
theorem Ir{x:Str}(h:PyData.strOk x=true)(J:n∈x.cps.toList):n<1114112:=by have:=zyO.mp h n (zyS.mp J);simpa using this
noncomputable def Iu:Str:=Str.ofString "0"
theorem at0(h:1<=z.length):∃c,atI z.cps.toList 0=some c/\z.cps.toList.head? = some c:=by obtain⟨d,J,L⟩:=Cn (xs:=z.cps.toList) (zzN 0) (by rw[zyh];have:z.length=z.cps.size:=rfl;lia);exact⟨d,J,by rw[List.head?_eq_getElem?];exact L⟩
theorem one_eq{d:Nat}:((⟨#[n]⟩:Str)=⟨#[d]⟩)↔n=d:=⟨λh=>by injection h with h;simpa using h,λh=>by rw[h]⟩
noncomputable def qy(x:Str):Bool:=decide (1<=x.length) && decide (x.length<=30) && qu 48 57 x && (decide (x=Iu) || !decide (x.cps.toList.head? = some 48))
def gNum:DSp:=λds Q=>∃x:Str,ds=[.str x]/\TxOk x/\Q (.bl (qy x))
theorem kD(T:Tx K mg):T.tV.Ok P w base CX0 1 (spD K 1 gNum):=by
 refine fnd ["word"] (λo _=>(aa (dir (PWD.pt (gv (cj (uG iW iW ad (dln sE T.bv (dv 0)) (ft rfl T.kW))) (dM (cj (bV (aZ yT T.FD PyProof.Rows.boot_all (da1 (dfc (ao ["sign"] [none] rfl (Cw (dv 0)) (dgb 0) ax (gy uQ uQ ag (dv 0) ag)))))))))) ie) (dr (GX (cE (aW o) (dv 0) ag) (gw (cE (fT o) (yW (dv 0) ad (λ_ _=>rfl)) ag)))))) (λds Q hl h=>?_);obtain⟨x,rfl,⟨u,i⟩,h⟩:=h;unfold qy at h;have v:x.length<=sizeLine:=zzl u (by decide);refine⟨v,λJ=>?_,λJ=>Br.t (Br.t ?_)⟩
 ·have J:=zzO J;rw[zzp (by lia)]at h;by_cases j:x.length<=30
  ·rw[zzp j]at h;have L:decide (((x.length:Nat):Int)<=30)=true:=zzp (by lia);show Br (!decide (((x.length:Nat):Int)<=30)) _ _;rw[L];refine Br.f ⟨x,rfl,mC u (qw ?_)⟩;show Br (!qu 48 57 x) _ _;cases l:qu 48 57 x with
   |false =>
    rw[l]at h;exact Br.t h
   |true =>
    rw[l]at h;refine Br.f ⟨⟨db i,db (by decide +kernel)⟩,?_⟩;show Br (eqD (.str x) (.str Iu)) _ _;rw[bq];refine⟨λU=>?_,λU=>?_⟩
    ·rw[U]at h;exact h
    ·rw[U]at h;obtain⟨c,C,Y⟩:=at0 (z:=x) (by lia);refine⟨v,c,C,⟨db (ok1 (Ir i (List.mem_of_mem_head? Y))),db (by decide +kernel)⟩,?_⟩;show Q (.bl (!eqD (.str ⟨#[c]⟩) (.str ⟨#[48]⟩)));rw[bq];rw[Y]at h;have:decide ((⟨#[c]⟩:Str)=⟨#[48]⟩)=decide (some c=some 48):=by
      by_cases q:c=48
      · simp
      ·rw[zzv (λz=>q (one_eq.mp z)),zzv (λz=>q (zzS z))]
     rw[this];exact h
  ·rw[zzv j]at h;have L:decide (((x.length:Nat):Int)<=30)=false:=zzv (by lia);show Br (!decide (((x.length:Nat):Int)<=30)) _ _;rw[L];exact Br.t (Br.t h)
 ·have J:=zyg J;rw[zzv (by lia)]at h;exact h
noncomputable def nmsB(ws:ab Str):Bool:=ws.all isNm && decide ((metS ws).length=ws.length)
def Iv:DSp:=λds Q=>∃ws:ab Str,ds=[.lst (ws.map .str)]/\ws.length<=1000/\(∀x∈ws,x.length<=100000)/\Q (.bl (nmsB ws))
theorem kE(T:Tx K mg):T.tH.Ok P w base CX0 2 (spD K 1 Iv):=by
 refine fnd ["words"] (λL _=>(dr (gx (aZ yT T.FD PyProof.Rows.boot_all (da1 (dfc (ao ["word"] [none] rfl (aB (dv 0)) (dgb 0) ax (dcl (qx T) L (a1 0)))))) (gw (cE (aW L) (wx rfl rfl T.bv rfl T.IS (dv 0)) (dln aX T.bv (dv 0))))))) (λds Q i h=>?_);obtain⟨ws,rfl,i,u,h⟩:=h;refine aA (D.bl ∘ isNm) (λj=>∃s,j=[s]) (zzl i (by decide)) (λx o j Y Z U l=>?_) _ ⟨_,rfl⟩ ?_
 ·obtain⟨s,rfl⟩:=U;exact Br.t ⟨rfl,x,rfl,u x o,l _ ⟨_,rfl⟩⟩
 ·rw[←zzo];refine sD ?_;unfold nmsB at h;rw[List.all_map];refine⟨λJ=>⟨ws,rfl,i,⟨rfl,rfl⟩,?_⟩,λJ=>?_⟩
  ·rw[show ws.all isNm=true from J,zxi]at h;rw[aK,zza];have:decide (((metS ws).length:Int)=(ws.length:Int))=decide ((metS ws).length=ws.length):=by
    by_cases q:(metS ws).length=ws.length
    ·rw[zzp q,zzp (by lia)]
    ·rw[zzv q,zzv (by lia)]
   rw[this];exact h
  ·rw[show ws.all isNm=false from J,zxH]at h;exact h
theorem cR(f:α->D)(k:Nat)(ws:ab α)(h:k<=ws.length):cutD (ws.map f) (some (k:Int)) none=(ws.drop k).map f:=by unfold cutD;rw[HT.sIx_none,HT.sIx_nat,zza,Nat.min_eq_left h,←List.map_drop,zxA (by simp)]
noncomputable def aJ:Str:=Str.ofString "houses"
noncomputable def kF:Str:=Str.ofString "mark"
noncomputable def eN:Str:=Str.ofString "case"
noncomputable def hlB(w:Str)(r:ab Str):Bool:=decide (w=aJ) && (decide (2<=r.length) && decide (r.length<=6)) && nmsB r
def gHl:DSp:=λds Q=>∃(w:Str) (r:ab Str),ds=[.lst ((w::r).map .str)]/\r.length<=999/\TxOk w/\(∀x∈r,TxOk x)/\Q (.bl (hlB w r))
theorem iY(T:Tx K mg):T.jb.Ok P w base CX0 3 (spD K 1 gHl):=by
 refine fnd ["words"] (λY _=>(dr (gx (cE (aW Y) (dx 0) ag) (gx (gy iW iW (ft rfl T.kR) (ar jW (dln aX T.bv (dv 0)) ad) (ft rfl T.lE)) (gw (dcl (kE T) Y (da1 (aE (gE (dv 0) (cJ ad) eA))))))))) (λds Q hl h=>?_);obtain⟨x,r,rfl,Y,j,i,h⟩:=h;unfold hlB at h;refine au (zzN 0) rfl ⟨⟨db j.ok,db (by decide +kernel)⟩,?_⟩;show Br (eqD (.str x) (.str aJ)) _ _;rw[bq];refine⟨λL=>?_,λL=>?_⟩
 ·rw[L,zxi]at h;have el:(((((x::r).map D.str).length:Nat):Int) - 1)=(r.length:Int):=by rw[zza,zzu];lia
  refine⟨λJ=>⟨λU=>?_,λU=>?_⟩,λJ=>Br.f ?_⟩
  ·have J:=zzO J;rw[zzp (by lia),zzp (by lia)]at h;refine⟨rfl,r,?_,by lia,λy l=>(i y l).le,h⟩;have:=cR D.str 1 (x::r) (by simp);exact congrArg (λz=>[D.lst z]) this
  ·have U:=zyg U;rw[zzv (p:=r.length<=6) (by lia),Bool.and_false]at h;exact h
  ·have J:=zyg J;rw[zzv (by lia)]at h;exact h
 ·rw[L]at h;exact h
theorem dc(ws:ab Str):(ws.map D.str).all dO=true:=by rw[List.all_map];exact zyj.mpr λ_ _=>rfl
theorem sU{a b:Str}:eqF (.str a) (.str b)=decide (a=b):=by show (a==b)=_;by_cases h:a=b<;>simp[h]
theorem nU{n:Str}:((ws.map D.str).any λy=>eqF y (.str n))=decide (n∈ws):=by
 rw[List.any_map];by_cases h:n∈ws
 ·rw[zzp h];exact zyq.mpr ⟨n,h,by show eqF (.str n) (.str n)=true;rw[sU];simp⟩
 ·rw[zzv h];refine List.any_eq_false.mpr λy J=>?_;show ¬(eqF (.str y) (.str n)=true);intro z;have:=zzO z;subst this;exact h J
noncomputable def mlB(taken:ab Str):ab Str->Bool
 |w::n::r=>decide (w=kF) && (decide (1<=r.length) && decide (r.length<=6)) && isNm n && !decide (n∈taken) && nmsB r|_=>false
def gMl:DSp:=λds Q=>∃(ws taken:ab Str),ds=[.lst (ws.map .str),.lst (taken.map .str)]/\ws≠[]/\ws.length<=999/\(∀x∈ws,TxOk x)/\Q (.bl (mlB taken ws))
theorem lz(T:Tx K mg):T.lF.Ok P w base CX0 3 (spD K 2 gMl):=by
 refine fnd ["words","taken"] (λL _=>(aa (dir (PWD.pt (gv (ah (fT L) (dx 0) ag) (dM (cj (uG iW iW ad (ar jW (dln aX T.bv (dv 0)) ad) (ft rfl T.oB)))))) ie) (dr (gx (dcl (qx T) L (da1 (dx 0))) (gx (cE jp (dx 0) (dv 1) rfl) (gw (dcl (kE T) L (da1 (aE (gE (dv 0) (cJ ad) eA)))))))))) (λds Q hl h=>?_);obtain⟨ws,i,rfl,v,L,l,h⟩:=h;cases ws with
 |nil=>exact absurd rfl v|cons x r =>
 refine au (d:=.str x) (zzN 0) rfl ⟨⟨db (l x (by simp)).ok,db (by decide +kernel)⟩,?_⟩;show Br (!eqD (.str x) (.str kF)) _ _;rw[bq];by_cases U:x=kF
 ·rw[zzp U];refine Br.f ?_;have u:((((x::r).map D.str).length:Nat):Int)=(r.length:Int)+1:=by rw[zza,zzu];lia
  refine⟨λJ=>?_,λJ=>Br.t ?_⟩
  ·have J:=zzO J;cases r with
   |nil=>exact absurd J (by simp)|cons n r =>
    change Q (.bl (decide (x=kF) && (decide (1<=r.length) && decide (r.length<=6)) && isNm n && !decide (n∈i) && nmsB r)) at h;rw[zzp U,zxi]at h;have u:((((x::n::r).map D.str).length:Nat):Int) - 2=(r.length:Int):=by rw[zza,zzu,zzu];lia
    rw[zzp (p:=1<=r.length) (by lia),zxi]at h;by_cases o:r.length<=6
    ·rw[zzp o,zxi]at h;show Br (!decide (((((x::n::r).map D.str).length:Nat):Int) - 2<=6)) _ _;rw[zzp (p:=((((x::n::r).map D.str).length:Nat):Int) - 2<=6) (by lia)];have G:=l n (by simp);refine Br.f (au (d:=.str n) (r:=1) (by decide) rfl ⟨rfl,n,rfl,G.le,?_⟩);refine⟨λY=>?_,λY=>?_⟩
     ·rw[Y,zxi]at h;refine au (d:=.str n) (r:=1) (by decide) rfl ⟨⟨rfl,dc i⟩,?_⟩;rw[nU];refine⟨λj=>?_,λj=>?_⟩
      ·rw[show (!decide (n∈i))=true from j,zxi]at h;refine⟨rfl,r,?_,by simp at L;lia,λy C=>(l y (by simp[C])).le,h⟩;have:=cR D.str 2 (x::n::r) (by simp);exact congrArg (λz=>[D.lst z]) this
      ·rw[show (!decide (n∈i))=false from j,zxH]at h;exact h
     ·rw[Y,zxH,zxH]at h;exact h
    ·rw[zzv o]at h;show Br (!decide (((((x::n::r).map D.str).length:Nat):Int) - 2<=6)) _ _;rw[zzv (p:=((((x::n::r).map D.str).length:Nat):Int) - 2<=6) (by lia)];exact Br.t h
  ·have J:=zyg J;cases r with
   |nil=>exact h|cons n r =>
    change Q (.bl (decide (x=kF) && (decide (1<=r.length) && decide (r.length<=6)) && isNm n && !decide (n∈i) && nmsB r)) at h;have u:((((x::n::r).map D.str).length:Nat):Int) - 2=(r.length:Int):=by rw[zza,zzu,zzu];lia
    rw[zzv (p:=1<=r.length) (by lia)]at h;simpa using h
 ·rw[zzv U];refine Br.t (Br.t ?_);cases r with
  |nil=>exact h|cons n r =>
   change Q (.bl (decide (x=kF) && (decide (1<=r.length) && decide (r.length<=6)) && isNm n && !decide (n∈i) && nmsB r)) at h;rw[zzv U]at h;simpa using h
structure Rt where
 h:Int
 ks:List Int
 t:Int
 w:Int
noncomputable def rtD(r:Rt):D:=.tup [.int r.h,.tup (r.ks.map .int),.int r.t,.int r.w]
def EZ:DSp:=λds Q=>∃r o:Rt,ds=[rtD r,rtD o]/\Q (.bl (gtP r.ks r.h o.ks o.h))
theorem sV(T:Tx K mg):T.tN.Ok P w base CX0 1 (spD K 2 EZ):=by refine fnd ["row","other"] (λJ _=>(dr (cE (HN J) (ay (ac (dx 0) (da1 (dx 0)))) (ay (ac (dx 1) (da1 (dx 1))))))) (λds Q hl h=>?_);obtain⟨r,o,rfl,h⟩:=h;exact⟨sz,sz,r.ks,r.h,o.ks,o.h,⟨rfl,rfl⟩,h⟩
noncomputable abbrev Mk:=Str×ab Str
variable{ms:ab Mk}
noncomputable abbrev mkD(m:Mk):D:=.tup [.str m.1,.lst (m.2.map .str)]
noncomputable abbrev nmD(hs:ab Str)(ms:ab Mk):D:=.tup [.lst (hs.map .str),.lst (ms.map mkD)]
noncomputable def plc(x:Str)(ws:ab Str):Nat:=ws.findIdx λy=>decide (y=x)
structure CsOk(hs:List Str)(ms:List Mk)(hn:Str)(kw:List Str)(a b:Str)(t w:Nat):Prop where
 hh:hn∈hs
 kl:kw.length=ms.length
 kk:∀(i:Nat) (x:Str) (m:Mk),kw[i]? = some x->ms[i]? = some m->x∈m.2
 na:qy a=true
 nb:qy b=true
 ta:intText? a=some (t:Int)
 tb:intText? b=some (w:Int)
 t0:0<t
 tw:w <= t
 oa:TxOk a
 ob:TxOk b
noncomputable def kpl(kw:ab Str)(ms:ab Mk):ab Int:=(kw.zip ms).map λp=>(plc p.1 p.2.2:Int)
theorem zB{xs:ab α}{k:Nat}(hk:0<k){d:α}(hl:k<=xs.length)(e:xs[xs.length - k]?=some d):atI xs (-(k:Int))=some d:=by unfold atI ixN;rw[zzh (by lia),zzk (by lia),show (-(k:Int)+xs.length).toNat=xs.length - k by lia];exact e
theorem qz{x:Str}(h:qy x=true):x.length<=30:=by unfold qy at h;simp only[zzV,zyJ]at h;exact h.1.1.2
theorem nV{x:Str}(h:x∈ws):(∃z,(ws.map D.str)[plc x ws]?=some z/\eqF z (.str x)=true)/\∀m z,m<plc x ws->(ws.map D.str)[m]?=some z->eqF z (.str x)=false:=by
 have i:plc x ws<ws.length:=zxq ⟨x,h,by simp⟩;refine⟨⟨.str ws[plc x ws],by rw[zzr,zzn i];rfl,?_⟩,λm z j U=>?_⟩
 ·rw[sU];exact zwI (w:=i)
 ·rw[zzr]at U;obtain⟨y,L,rfl⟩:=zxz.mp U;rw[sU];have J:m<ws.length:=by lia
  rw[zzn J]at L;cases L;have:=List.not_of_lt_findIdx j;simpa using this
def Iw:DSp:=λds Q=>∃(hs:ab Str) (ms:ab Mk) (i:Str) (j:ab Str) (a b:Str) (t w:Nat),ds=[.lst ((eN::i::j++[a,b]).map .str),nmD hs ms]/\CsOk hs ms i j a b t w/\(ms.length<=5/\hs.length<=6/\∀m∈ms,m.2.length<=6)/\Q (rtD ⟨plc i hs,kpl j ms,t,w⟩)
theorem BD(T:Tx K mg):T.BW.Ok P w base CX0 2 (spD K 2 Iw):=by
 refine fnd ["words","names","kinds","word","mark","tried","well"] (λC _=>(aa (dir (PWD.pt (gv (ah (fT C) (dx 0) ag) (dM (ah (fT C) (dln aX T.bv (dv 0)) (ar bB ad (dln aX T.bv (dx 1))))))) dn) (aa (dir (PWD.pt (gv (ah jp (dx 0) (dx 1) rfl) (gv (cj (bV (dcl (kD T) C (da1 (dix (dv 0) (fJ cN ad)))))) (dM (cj (bV (dcl (kD T) C (da1 (dix (dv 0) (fJ cN ad)))))))))) dn) (aa (dow 2 (aL bK)) (aw (aN (uL T.BZ (ac (aE (gE (dv 0) (cJ ad) (cJ (fJ cN ad)))) (da1 (dx 1)))) (dg2 3 4) (aa (dir (ah jp (dv 3) (dx 4) rfl) dn) (ai (cO (pv 2) (pY eC (dx 4) (dv 3)))))) (aa (dse 5 (al yX T.oF (da1 (dix (dv 0) (fJ cN ad))))) (aa (dse 6 (al yX T.oF (da1 (dix (dv 0) (fJ cN ad))))) (aa (dir (PWD.pt (gv (ah (aW C) (dv 5) ad) (dM (ah ik (dv 6) (dv 5))))) dn) (dr (ay (ac (pY eC (dx 1) (dx 0)) (ac (al bM T.cz (a1 2)) (a2 5 6))))))))))))) (λds Q hl h=>?_);obtain⟨hs,ms,l,j,a,b,t,w,rfl,c,⟨z1,z2,z3⟩,h⟩:=h;have A:(((eN::l::j++[a,b]).map D.str).length:Int)=4+(((ms.map mkD).length:Nat):Int):=by have:=c.kl;simp only[zza,zzg,zzu,zxw];lia
 have s:∀{Q:D->Prop},Q (.str a)->opt (atI ((eN::l::j++[a,b]).map D.str) (-2)) Q:=λq=>by show opt (atI _ (-((2:Nat):Int))) _;rw[zB (k:=2) (by decide) (d:=.str a) (by simp) (by simp)];exact q
 have n:∀{Q:D->Prop},Q (.str b)->opt (atI ((eN::l::j++[a,b]).map D.str) (-1)) Q:=λq=>by show opt (atI _ (-((1:Nat):Int))) _;rw[zB (k:=1) (by decide) (d:=.str b) (by simp) (by simp)];exact q
 refine au (d:=.str eN) (zzN 0) rfl ⟨⟨db (by decide +kernel),db (by decide +kernel)⟩,?_⟩;show Br (!eqD (.str eN) (.str eN)) _ _;rw[bq,zzp rfl];refine Br.f ⟨⟨rfl,rfl⟩,?_⟩;show Br (!eqD (.int _) (.int _)) _ _;rw[aK,zzp A];refine Br.f ?_;refine au (d:=.str l) (r:=1) (by decide) rfl ⟨⟨rfl,dc hs⟩,?_⟩;rw[nU,zzp c.hh];refine Br.f (s ⟨rfl,a,rfl,c.oa,?_⟩);rw[c.na];refine Br.f (n ⟨rfl,b,rfl,c.ob,?_⟩);rw[c.nb];refine Br.f ⟨sz,?_⟩;refine⟨λG=>∃u U Y v:Sl,G=[.val (.lst ((eN::l::j++[a,b]).map .str)),.val (nmD hs ms),.own ((kpl j ms).map D.int),u,U,Y,v],?_,?_⟩
 ·show cX _ _ (zipD _ _) _ _;have y:cutD ((eN::l::j++[a,b]).map D.str) (some 2) (some (-2))=j.map D.str:=by
   unfold cutD;have l1:((eN::l::j++[a,b]).map D.str).length=j.length+4:=by simp
   have l2:HT.sIx (j.length+4) 0 (some 2)=2:=by show (if (2:Int)<0 then((2:Int)+((j.length+4:Nat):Int)).toNat else min (2:Int).toNat (j.length+4))=2;rw[zzh (by decide)];lia
   have l3:HT.sIx (j.length+4) (j.length+4) (some (-2))=j.length+2:=by show (if (-2:Int)<0 then((-2:Int)+((j.length+4:Nat):Int)).toNat else min (-2:Int).toNat (j.length+4))=j.length+2;rw[zzk (by decide)];lia
   rw[l1,l2,l3];show ((j++[a,b]).map D.str).take (j.length+2 - 2)=_;rw[zzc,Nat.add_sub_cancel,List.take_left' (by rw[zza])]
  have z:∀(ws:ab Str) (ms:ab Mk),zipD (ws.map D.str) (ms.map mkD)=(ws.zip ms).map λp=>D.tup [.str p.1,mkD p.2]:=λws=>by
   induction ws with
   |nil=>intro ms;cases ms<;>rfl
   |cons x ws E =>
    intro ms;cases ms with
    |nil=>rfl|cons m ms=>rw[zzj,zzj,zipD,E,zyF,zzj]
  rw[y,z];have g:∀p∈j.zip ms,p.1∈p.2.2:=λp H=>by obtain⟨i,N⟩:=zxP.mp H;rw[zwh]at N;exact c.kk i p.1 p.2 N.1 N.2
  refine aG (λpre G=>∃(J o:ab (Str×Mk)) (u U Y v:Sl),j.zip ms=J++o/\pre=J.map (λp=>D.tup [.str p.1,mkD p.2])/\G=[.val (.lst ((eN::l::j++[a,b]).map .str)),.val (nmD hs ms),.own ((J.map λp=>(plc p.1 p.2.2:Int)).map D.int),u,U,Y,v]) (λG M=>?_) (λpre d post G X e M B=>?_) _ ⟨[],_,_,_,_,_,rfl,rfl,rfl⟩
  ·obtain⟨J,o,u,U,Y,v,L,I,rfl⟩:=M;have:o=[]:=by
    have:=congrArg List.length I;rw[L]at this;simp at this;exact this
   subst this;rw[zzs]at L;unfold kpl;rw[L];exact⟨_,_,_,_,rfl⟩
  ·obtain⟨J,o,u,U,Y,v,L,rfl,rfl⟩:=M;rw[L,zzc]at e;have e:=zzz e;cases o with
   |nil=>simp at e|cons p o =>
    rw[zzj]at e;injection e with I e5;subst I;have H:=g p (by rw[L];simp);refine⟨rfl,⟨rfl,dc p.2.2⟩,?_⟩;rw[nU,zzp H];refine Br.f ⟨trivial,trivial,⟨rfl,dc p.2.2⟩,plc p.1 p.2.2,nV H,?_,B _ ⟨J++[p],o,_,_,_,_,by rw[L,zzR];rfl,by rw[zzc];rfl,by rw[show ((J++[p]).map λp=>(plc p.1 p.2.2:Int)).map D.int=(J.map λp=>(plc p.1 p.2.2:Int)).map D.int++[.int (plc p.1 p.2.2)] by rw[zzc,zzc];rfl];rfl⟩⟩;have:J.length<=5:=by have:=congrArg List.length L;rw[zyV,zzg]at this;lia
    rw[zza,zza];exact zzw this (by decide)
 ·rintro _ ⟨u,U,Y,v,rfl⟩;refine s ⟨zzl (qz c.na) (by decide),t,c.ta,n ⟨zzl (qz c.nb) (by decide),w,c.tb,⟨⟨rfl,rfl⟩,?_⟩⟩⟩;have t0:=c.t0;have tw:=c.tw;show Br (eqD (.int t) (.int 0)) _ _;rw[aK,zzv (by lia)];refine Br.f ?_;show Br (decide ((t:Int)<(w:Int))) _ _;rw[zzv (by lia)];refine Br.f ?_;refine⟨trivial,au (d:=.str l) (r:=1) (by decide) rfl ⟨⟨rfl,dc hs⟩,plc l hs,nV c.hh,?_⟩⟩;exact⟨sz,h⟩
noncomputable abbrev lnD(ws:ab Str):D:=.lst (ws.map .str)
noncomputable def mkLn(m:Mk):ab Str:=kF::m.1::m.2
structure MsT(ms:List Mk):Prop where
 l5:ms.length <= 5
 nd:(ms.map (·.1)).Nodup
 nm:∀m∈ms,isNm m.1=true/\1 <= m.2.length/\m.2.length <= 6/\nmsB m.2=true/\TxOk m.1/\∀x∈m.2,TxOk x
def Ix:DSp:=λds Q=>∃(J:ab Str) (ms:ab Mk) (i:ab (ab Str)),ds=[.lst ((J::ms.map mkLn++i).map lnD)]/\MsT ms/\(∀l∈i,∃r,l=eN::r/\r.length<=100/\∀x∈r,TxOk x)/\Q (.lst (ms.map mkD))
theorem wR(T:Tx K mg):T.xj.Ok P w base CX0 4 (spD K 1 Ix):=by
 refine fnd ["lines","marks","words"] (λM _=>(aa (dow 1 (aL bK)) (aw (aN (aB (aE (gE (dv 0) (cJ ad) eA))) (dgn 2) (aa (dir (PWD.pt (gv (nD 1 (ah (aW M) (dln aX T.bv (dv 1)) (ft rfl T.oz))) (dM (cj (nD 1 (bV (dcl (lz T) M (ac (dv 2) (da1 (dfc (ao ["name","kinds"] [none,none] rfl (aB (dv 1)) (dg2 0 1) ax (dv 0)))))))))))) (dv 1)) (ai (cO (pv 1) (ay (ac (dx 2) (da1 (aE (gE (dv 2) (cJ ad) eA))))))))) (dr (dv 1))))) (λds Q hl h=>?_);obtain⟨G,ms,j,rfl,H,co,h⟩:=h;have hw:∀m∈ms,∀x∈mkLn m,TxOk x:=λm u x U=>by
  obtain⟨_,_,_,_,o1,o2⟩:=H.nm m u;rcases zzi.mp U with rfl|U
  ·exact⟨by decide +kernel,by decide +kernel⟩
  ·rcases zzi.mp U with rfl|U
   ·exact o1
   ·exact o2 x U
 have l5:=H.l5;refine⟨sz,λρ=>∃s:Sl,ρ=[.val (.lst ((G::ms.map mkLn++j).map lnD)),.own (ms.map mkD),s],?_,?_⟩
 ·have p:cutD ((G::ms.map mkLn++j).map lnD) (some 1) none=(ms.map mkLn++j).map lnD:=cR lnD 1 (G::(ms.map mkLn++j)) (by simp);show cX _ _ (cutD ((G::ms.map mkLn++j).map lnD) (some 1) none) _ _;rw[p];have i:∀{J:ab Mk} {ρ:DS} {a b:Sl} {Q:ab D->Prop},J.length<=5->Q ((J.map (·.1)).map D.str)->bU (rY 2 (eQ (bc 0) (eQ (bc 1) wu))) bG (dVar 0) (J.map mkD) [] [a,b] Q:=λ{J ρ a b Q} u E=>by
   refine aA (D.str ∘ (·.1)) (λρ=>∃a b,ρ=[a,b]) (zzl u (by decide)) (λm _ ρ Y Z C B=>?_) _ ⟨_,_,rfl⟩ (by rw[←zzo];exact E);obtain⟨a,b,rfl⟩:=C;exact⟨rfl,Br.t (B _ ⟨_,_,rfl⟩)⟩
  refine aG (λpre ρ=>∃(J o:ab Mk) (s:Sl),ms=J++o/\pre=J.map (λm=>lnD (mkLn m))/\ρ=[.val (.lst ((G::ms.map mkLn++j).map lnD)),.own (J.map mkD),s]) (λρ C=>?_) (λpre d post ρ X e C A=>?_) _ ⟨[],ms,_,rfl,rfl,rfl⟩
  ·obtain⟨J,o,s,L,v,rfl⟩:=C;have:=congrArg List.length v;rw[L]at this;simp only[zza,zzg]at this;have:o=[]:=zzH.mp (by lia);subst this;rw[zzs]at L;subst L;exact⟨_,rfl⟩
  ·obtain⟨J,o,s,L,rfl,rfl⟩:=C;have I:J.length<=5:=by
    have:=congrArg List.length L;rw[zzg]at this;lia
   have elen:(((J.map mkD).length:Nat):Int)=(J.length:Int):=by rw[zza]
   refine⟨_,rfl,rfl,⟨rfl,rfl⟩,rfl,?_⟩;show Br (eqD (.int _) (.int 5)) _ _;rw[aK];cases o with
   |nil =>
    rw[zzs]at L;subst L;refine⟨λ_=>Br.t h,λ_=>?_⟩;rw[zzc,zzo]at e;have e:=zzz e;cases j with
    |nil=>simp at e|cons l j =>
     rw[zzj]at e;injection e with v q;subst v;obtain⟨r,rfl,r1,r2⟩:=co l (by simp);refine⟨_,rfl,rfl,i (ρ:=[]) I ⟨rfl,eN::r,_,rfl,by simp,by simp;lia,λx U=>?_,?_⟩⟩
     ·rcases zzi.mp U with rfl|U
      ·exact⟨by decide +kernel,by decide +kernel⟩
      ·exact r2 x U
     ·have:mlB (ms.map (·.1)) (eN::r)=false:=by
       cases r with
       |nil=>rfl|cons n r =>
        show (decide (eN=kF) && (decide (1<=r.length) && decide (r.length<=6)) && isNm n && !decide (n∈ms.map (·.1)) && nmsB r)=false;rw[show decide (eN=kF)=false by decide +kernel];simp
      rw[this];exact⟨rfl,Br.t h⟩
   |cons m o =>
    have g:¬((((J.map mkD).length:Nat):Int)=5):=by have:=congrArg List.length L;rw[zzg,zzu]at this;lia
    rw[zzv g];refine Br.f ?_;have u:m∈ms:=by rw[L];simp
    rw[zzc,L,zzc,zzc,zzo,zzR]at e;have e:=zzz e;rw[zzj,zzj,zyP]at e;injection e with v q;subst v;obtain⟨a1,a2,a3,c,a5,a6⟩:=H.nm m u;refine⟨_,rfl,rfl,i (ρ:=[]) I ⟨rfl,mkLn m,_,rfl,by simp[mkLn],by simp[mkLn];lia,hw m u,?_⟩⟩;have:mlB (J.map (·.1)) (mkLn m)=true:=by show (decide (kF=kF) && (decide (1<=m.2.length) && decide (m.2.length<=6)) && isNm m.1 && !decide (m.1∈J.map (·.1)) && nmsB m.2)=true;have N:=H.nd;rw[L,zzc,zzj]at N;have k:m.1∉J.map (·.1):=λz=>(zxj.mp N).2.2 m.1 z m.1 (by simp) rfl;rw[zzp rfl,zzp a2,zzp a3,a1,zzv k,c];rfl
    rw[this];refine⟨rfl,Br.f ⟨trivial,?_⟩⟩;have y:cutD ((mkLn m).map D.str) (some 2) none=m.2.map D.str:=cR D.str 2 (mkLn m) (by simp[mkLn]);refine au (d:=.str m.1) (r:=1) (by decide) rfl ?_;refine⟨sz,?_,A _ ⟨J++[m],o,_,by rw[L,zzR];rfl,by rw[zzc];rfl,by rw[show (J++[m]).map mkD=J.map mkD++[.tup [.str m.1,.lst (cutD ((mkLn m).map D.str) (some 2) none)]] by rw[zzc,y];rfl];rfl⟩⟩;rw[zza];exact zzw I (by decide)
 ·rintro _ ⟨s,rfl⟩;exact h
structure Cs where
 hn:Str
 kw:List Str
 a:Str
 b:Str
 t:Nat
 w:Nat
noncomputable def Cs.ln(c:Cs):ab Str:=eN::c.hn::c.kw++[c.a,c.b]
noncomputable def Cs.rt(hs:ab Str)(ms:ab Mk)(c:Cs):Rt:=⟨plc c.hn hs,kpl c.kw ms,c.t,c.w⟩
def Kv:DSp:=λds Q=>∃(hs:ab Str) (ms:ab Mk) (j:ab Cs) (J:ab Str),ds=[.lst ((J::ms.map mkLn++j.map Cs.ln).map lnD),nmD hs ms]/\(ms.length<=5/\hs.length<=6/\∀m∈ms,m.2.length<=6)/\j.length<=200 /\
 (∀c∈j,CsOk hs ms c.hn c.kw c.a c.b c.t c.w)/\(∀(i:Nat) (x y:Cs),j[i]?=some x->j[i+1]?=some y->gtP (kpl y.kw ms) (plc y.hn hs) (kpl x.kw ms) (plc x.hn hs)=true)/\Q (.lst ((j.map (Cs.rt hs ms)).map rtD))
theorem zC(T:Tx K mg):T.zZ.Ok P w base CX0 4 (spD K 2 Kv):=by
 refine fnd ["lines","names","rows","line","row"] (λI _=>(aa (dow 2 (aL bK)) (aw (aN (pQ T.bI (ac (ar bB ad (dln aX T.bv (dx 1))) (da1 (dln aX T.bv (dv 0))))) (dgn 3) (aa (dse 4 (dcl (BD T) I (ac (dix (dv 0) (dv 3)) (a1 1)))) (aa (dif (PWD.pt (gv (ah uJ (dv 4) dn) (dM (PWD.pt (yE (nD 2 (ah ik (dln aX T.bv (dv 2)) ad)) (rV (cj (nD 2 (bV (dcl (sV T) I (ac (dv 4) (da1 (dix (dv 2) (fJ cN ad)))))))))))))) dnv) (ai (cO (pv 2) (dv 4)))))) (dr (dv 2))))) (λds Q hl h=>?_);obtain⟨hs,ms,cs,l,rfl,z,cl,co,g,h⟩:=h;have e1:(((l::ms.map mkLn++cs.map Cs.ln).map lnD).length:Int)=1+ms.length+cs.length:=by simp only[zza,zzg,zzu];lia
 have m:(((ms.map mkD).length:Nat):Int)=ms.length:=by rw[zza]
 have z1:=z.1;refine⟨sz,λo=>∃i U:Sl,o=[.val (.lst ((l::ms.map mkLn++cs.map Cs.ln).map lnD)),.val (nmD hs ms),.own ((cs.map (Cs.rt hs ms)).map rtD),i,U],?_,?_⟩
 ·refine⟨⟨by lia,by lia,by lia,by lia⟩,?_⟩;refine fq (λk o=>∃(J j:ab Cs) (i U:Sl),cs=J++j/\k=1+ms.length+J.length/\o=[.val (.lst ((l::ms.map mkLn++cs.map Cs.ln).map lnD)),.val (nmD hs ms),.own ((J.map (Cs.rt hs ms)).map rtD),i,U]) _ _ (λo C=>?_) (λk o X k0 k1 C n=>?_) _ ⟨[],cs,_,_,rfl,by rw[m];simp,rfl⟩
  ·obtain⟨J,j,i,U,L,e4,rfl⟩:=C;have:=congrArg List.length L;rw[zzg]at this;have:j=[]:=zzH.mp (by lia);subst this;rw[zzs]at L;subst L;exact⟨_,_,rfl⟩
  ·obtain⟨J,j,i,U,L,rfl,rfl⟩:=C;have Y:=congrArg List.length L;rw[zzg]at Y;cases j with
   |nil =>
    rw[zxw]at Y;lia
   |cons c j =>
    have q:c∈cs:=by rw[L];simp
    have N:((l::ms.map mkLn++cs.map Cs.ln).map lnD)[(1+(ms.length:Int)+(J.length:Int)).toNat]?=some (lnD c.ln):=by rw[show (1+(ms.length:Int)+(J.length:Int)).toNat=(ms.length+J.length)+1 by lia];show ((ms.map mkLn++cs.map Cs.ln).map lnD)[ms.length+J.length]?=_;rw[zzc,zzK (by simp),L];simp
    refine au (d:=lnD c.ln) (by lia) N ⟨rfl,hs,ms,c.hn,c.kw,c.a,c.b,c.t,c.w,rfl,co c q,z,?_⟩;refine Br.f ⟨_,rfl,rfl,rfl,?_⟩;have M:J.length<sizeLine:=zzw (show J.length<=200 by lia) (by decide);have em:((J++[c]).map (Cs.rt hs ms)).map rtD=(J.map (Cs.rt hs ms)).map rtD++[rtD (c.rt hs ms)]:=by rw[zzc,zzc];rfl
    have fin:∀i U:Sl,X [.val (.lst ((l::ms.map mkLn++cs.map Cs.ln).map lnD)),.val (nmD hs ms),.own ((J.map (Cs.rt hs ms)).map rtD++[rtD (c.rt hs ms)]),i,U]:=λi U=>n _ ⟨J++[c],j,i,U,by rw[L,zzR];rfl,by rw[zzg];simp;lia,by rw[em]⟩;have el:(((J.map (Cs.rt hs ms)).map rtD).length:Int)=J.length:=by rw[zza,zza]
    have H:((J.map (Cs.rt hs ms)).map rtD).length<sizeLine:=by rw[zza,zza];exact M
    refine⟨λu=>?_,λu=>Br.f ⟨trivial,H,fin _ _⟩⟩;have u:=zzO u;rcases List.eq_nil_or_concat J with rfl|⟨v,p,rfl⟩
    ·exact absurd u (by simp)
    ·have G:((v.concat p).map (Cs.rt hs ms)).map rtD=(v.map (Cs.rt hs ms)).map rtD++[rtD (p.rt hs ms)]:=by rw[zwB,zzc,zzc];rfl
     have e:=g v.length p c (by rw[L,zwB,zzR,zzK (zzq _)];simp) (by rw[L,zwB,zzR,zzK (zxb _)];simp);refine⟨_,rfl,rfl,?_⟩;show opt (atI (((v.concat p).map (Cs.rt hs ms)).map rtD) (-((1:Nat):Int))) _;rw[zB (k:=1) (by decide) (d:=rtD (p.rt hs ms)) (by rw[G];simp) (by rw[G];simp)];refine⟨rfl,c.rt hs ms,p.rt hs ms,rfl,?_⟩;rw[show gtP (c.rt hs ms).ks (c.rt hs ms).h (p.rt hs ms).ks (p.rt hs ms).h=true from e];exact⟨rfl,Br.f ⟨trivial,H,fin _ _⟩⟩
 ·rintro _ ⟨i,U,rfl⟩;exact h
noncomputable def fY(n:Nat)(r:Rt):Row:=(List.replicate n (0,0)).set r.h.toNat (r.t,r.w)
structure RtOk(n:Nat)(r:Rt):Prop where
 h0:0 <= r.h
 h1:r.h<n
 w0:0 <= r.w
 wt:r.w <= r.t
 t1:r.t<10^30
def gCoR:DSp:=λds Q=>∃(r:Rt) (n:Nat),ds=[rtD r,.int n]/\RtOk n r/\n<=6/\Q (rowD (fY n r))
theorem kG(T:Tx K mg):T.kO.Ok P w base CX0 1 (spD K 2 gCoR):=by
 refine fnd ["row","many","counts"] (λhr _=>(aa (dow 2 (yS (aE (aL (da1 (ay (ac ad (da1 ad)))))) (dv 1))) (aa (sA (ay (ac (dx 0) (da1 (dx 0)))) (Cr (pv 2) (dx 0))) (dr (al bM T.cz (a1 2)))))) (λds Q hl h=>?_);obtain⟨r,n,rfl,o,n6,h⟩:=h;have h0:=o.h0;have i:=o.h1;have e:∀k:Nat,(List.replicate k [D.tup [.int 0,.int 0]]).flatten=(List.replicate k ((0,0):Int×Int)).map aq:=λk=>by
  induction k with
  |zero=>rfl|succ k J=>rw[zys,zys,zxE,zzj,J];rfl
 refine⟨sz,sz,⟨⟨by lia,by lia⟩,?_⟩,?_⟩
 ·rw[zzC];exact zzl (show 1*n<=6 by lia) (by decide)
 rw[zzC,e];refine⟨sz,trivial,r.h.toNat,yR h0 (by rw[zza,zxI];exact i),?_⟩;show Q (.tup (((List.replicate n ((0,0):Int×Int)).map aq).set r.h.toNat (aq (r.t,r.w))));rw[←List.map_set];exact h
theorem Fa{r:Rt}(o:RtOk n r):RowN 110 n (fY n r):=by
 refine⟨by unfold fY;simp,λc J=>?_⟩;rcases List.mem_or_eq_of_mem_set J with J|rfl
 ·rw[zyG J];exact mq (zzN 0) (zzN 0) (by unfold Bd;exact Nat.two_pow_pos _)
 ·refine mq o.w0 o.wt ?_;have:=o.t1;have:=o.w0;have:=o.wt;unfold Bd;have e:(2:Nat)^110=1298074214633706907132624082305024:=by decide
  lia
noncomputable def nlS:Str:=Str.ofString "\n"
noncomputable def spS:Str:=Str.ofString " "
structure TextOk(z:Str)(hs:List Str)(ms:List Mk)(cs:List Cs):Prop where
 zl:z.length <= 100000
 sp:(Txt.split z nlS).map (λl=>Txt.split l spS)=(aJ::hs)::ms.map mkLn++cs.map Cs.ln
 ll:∀l∈Txt.split z nlS,l.length <= 100000
 h2:2 <= hs.length
 h6:hs.length <= 6
 hn:nmsB hs=true
 ho:∀x∈hs,TxOk x
 mo:MsT ms
 cl:cs.length <= 60
 co:∀c∈cs,CsOk hs ms c.hn c.kw c.a c.b c.t c.w/\c.t<10^30/\∀x∈c.hn::c.kw,TxOk x
 cb:∀(i:Nat) (x y:Cs),cs[i]? = some x->cs[i+1]? = some y->gtP (kpl y.kw ms) (plc y.hn hs) (kpl x.kw ms) (plc x.hn hs)=true
noncomputable def Fb(hs:ab Str)(ms:ab Mk)(cs:ab Cs):D:=.tup [nmD hs ms,.tup [.int hs.length,.tup (ms.map λm=>.int m.2.length),.tup ((gath hs.length (cs.map λc=>(kpl c.kw ms,fY hs.length (c.rt hs ms)))).map ci)]]
def Iy:DSp:=λds Q=>∃(z:Str) (hs:ab Str) (ms:ab Mk) (i:ab Cs),ds=[.str z]/\TextOk z hs ms i/\Q (Fb hs ms i)
theorem CQ(T:Tx K mg):T.vL.Ok P w base CX0 5 (spD K 1 Iy):=by
 refine fnd ["text","lines","marks","names","many","pairs","book"] (λL _=>(aa (dif (cj (bV (aZ pS T.cI rfl (ac (dv 0) (da1 (yD (n:="str") rfl T.iZ rfl)))))) dnv) (aa (eB 1 (ao ["line"] [none] rfl (aB (aE (gG (dv 0) ag))) (dgb 0) ax (aE (gG (dv 0) ag)))) (aa (dif (cj (bV (dcl (iY T) L (da1 (dx 1))))) dnv) (aa (dse 2 (dcl (wR T) L (a1 1))) (aa (dse 3 (ay (ac (aE (gE (dx 1) (cJ ad) eA)) (a1 2)))) (aa (dse 4 (dln aX T.bv (dx 3))) (aa (eB 5 (ao ["row","many"] [none,some 4] rfl (aB (dcl (zC T) L (a2 1 3))) (dgb 0) ax (ay (ac (dx 0) (da1 (dcl (kG T) L (a2 0 1))))))) (aa (dse 6 (ay (ac (dv 4) (ac (al bM T.cz (da1 (dfc (ao ["name","kinds"] [none,none] rfl (aB (dv 2)) (dg2 0 1) ax (dln aX T.bv (dv 1)))))) (da1 (al bM T.cz (da1 (dcl (wH T) L (a2 4 5))))))))) (dr (ay (a2 3 6)))))))))))) (λds Q M h=>?_);obtain⟨z,hs,ms,j,rfl,o,h⟩:=h;have e:∀{n:Nat},n<=100000->n+2<=sizeLine:=λh=>zzl (zxV h 2) (by decide);have y:(Txt.split z nlS).map (λl=>D.lst ((Txt.split l spS).map .str))=((aJ::hs)::ms.map mkLn++j.map Cs.ln).map lnD:=by rw[←o.sp,zzo];rfl
 have g:(Txt.split z nlS).length<=1000:=by have:=congrArg List.length o.sp;have:=o.mo.l5;have:=o.cl;simp only[zza,zzg,zzu]at *;lia
 refine⟨rfl,rfl,Br.f ⟨z,rfl,nlS,⟨rfl,by decide +kernel,e o.zl⟩,?_⟩⟩;refine aA (λl=>.lst ((Txt.split l spS).map .str)) (λi=>∃s,i=[s]) (zzl g (by decide)) (λl G i Y Z v C=>?_) _ ⟨_,rfl⟩ ?_
 ·obtain⟨s,rfl⟩:=v;exact Br.t ⟨l,rfl,spS,⟨rfl,by decide +kernel,e (o.ll l G)⟩,C _ ⟨_,rfl⟩⟩
 rw[y];refine au (d:=lnD (aJ::hs)) (zzN 0) rfl ⟨rfl,aJ,hs,rfl,by have:=o.h6;lia,⟨by decide +kernel,by decide +kernel⟩,o.ho,?_⟩;have hh:hlB aJ hs=true:=by unfold hlB;rw[zzp rfl,zzp o.h2,zzp o.h6,o.hn];rfl
 rw[hh];refine Br.f ⟨rfl,aJ::hs,ms,j.map Cs.ln,rfl,o.mo,λl M=>?_,?_⟩
 ·obtain⟨c,J,rfl⟩:=zzf.mp M;obtain⟨U,k,q⟩:=o.co c J;have:=o.mo.l5;have:=U.kl;refine⟨c.hn::c.kw++[c.a,c.b],rfl,by simp;lia,λx u=>?_⟩;rcases zzA.mp u with u|u
  ·exact q x u
  ·simp only[zzi,zzW,zyD]at u;rcases u with rfl|rfl
   ·exact U.oa
   ·exact U.ob
 have A:cutD ((aJ::hs).map D.str) (some 1) none=hs.map D.str:=cR D.str 1 (aJ::hs) (by simp);refine au (d:=lnD (aJ::hs)) (zzN 0) rfl ?_;refine⟨sz,?_⟩;rw[A];have H:=o.h6;have I:∀c∈j,RtOk hs.length (c.rt hs ms):=λc J=>by obtain⟨U,k,_⟩:=o.co c J;have N:plc c.hn hs<hs.length:=zxq ⟨c.hn,U.hh,by simp⟩;have:=U.tw;exact⟨by show (0:Int)<=(plc c.hn hs:Nat);lia,by show ((plc c.hn hs:Nat):Int)<_;lia,by show (0:Int)<=(c.w:Nat);lia,by show ((c.w:Nat):Int)<=(c.t:Nat);lia,by show ((c.t:Nat):Int)<_;lia⟩
 refine⟨rfl,hs,ms,j,aJ::hs,rfl,⟨o.mo.l5,H,λm G=>(o.mo.nm m G).2.2.1⟩,by have:=o.cl;lia,λc J=>(o.co c J).1,o.cb,?_⟩;refine aA (λr=>ci (r.ks,fY hs.length r)) (λi=>∃s,i=[s,.val (.int hs.length)]) (by rw[zza];exact zzl o.cl (by decide)) (λr L i Y Z v C=>?_) _ ⟨_,by rw[zza];rfl⟩ ?_
 ·obtain⟨s,rfl⟩:=v;obtain⟨c,J,rfl⟩:=zzf.mp L;exact Br.t ⟨rfl,c.rt hs ms,hs.length,rfl,I c J,H,sz,C _ ⟨_,rfl⟩⟩
 have B:((j.map (Cs.rt hs ms)).map λr=>ci (r.ks,fY hs.length r))=(j.map λc=>(kpl c.kw ms,fY hs.length (c.rt hs ms))).map ci:=by rw[zzo,zzo];rfl
 rw[B];refine aA (λm=>.int (m.2.map D.str).length) (λi=>∃s s',i=[s,s']) (zzl o.mo.l5 (by decide)) (λm G i Y Z v C=>?_) _ ⟨_,_,rfl⟩ ?_
 ·obtain⟨s,s',rfl⟩:=v;exact⟨rfl,Br.t (C _ ⟨_,_,rfl⟩)⟩
 have E:(ms.map λm=>D.int (m.2.map D.str).length)=ms.map λm=>.int m.2.length:=by simp only[zza]
 rw[E,show (hs.map D.str).length=hs.length from zza ..];refine⟨rfl,hs.length,_,ms.length,rfl,rfl,⟨H,by rw[zza];exact o.cl,λp N=>?_⟩,sz,sz,h⟩;obtain⟨c,J,rfl⟩:=zzf.mp N;refine⟨?_,Fa (I c J)⟩;have:=(o.co c J).1.kl;show (kpl c.kw ms).length=_;unfold kpl;rw[zza,zyV];lia
noncomputable def numS(n:Int):Str:=Str.ofString (toString n)
noncomputable def wds(ms:ab Mk)(ks:ab Int):ab Str:=(ms.zip ks).map λp=>p.1.2.getD p.2.toNat Str.empty
noncomputable def csOf(hs:ab Str)(ms:ab Mk)(c:ab Int×Row):ab Cs:=((hs.zip c.2).filter λp=>decide (0<p.2.1)).map λp=>⟨p.1,wds ms c.1,numS p.2.1,numS p.2.2,p.2.1.toNat,p.2.2.toNat⟩
noncomputable def bh(hs:ab Str)(ms:ab Mk)(cells:ab (ab Int×Row)):ab (ab Str):=(aJ::hs)::ms.map mkLn++(cells.flatMap (csOf hs ms)).map Cs.ln
noncomputable def fP(hs:ab Str)(ms:ab Mk)(cells:ab (ab Int×Row)):Str:=Txt.join nlS ((bh hs ms cells).map (Txt.join spS))
structure ShOk(hs:List Str)(ms:List Mk)(cells:List (List Int×Row)):Prop where
 h6:hs.length <= 6
 m5:ms.length <= 5
 c7:cells.length <= 8
 hl:∀x∈hs,x.length <= 8
 ml:∀m∈ms,m.1.length <= 8/\m.2.length <= 6/\∀x∈m.2,x.length <= 8
 kl:∀c∈cells,c.1.length=ms.length/\RowN 100 hs.length c.2
 kk:∀c∈cells,∀(i:Nat) (k:Int) (m:Mk),c.1[i]? = some k->ms[i]? = some m->0 <= k/\k<m.2.length
theorem nW(ms:ab Mk)(ks:ab Int):(wds ms ks).length<=ms.length:=by unfold wds;rw[zza,zyV];lia
theorem nX{n:Int}(h0:0<=n)(b:Bd 100 n):(numS n).length<=31:=by
 refine PyProof.Rows.toString_length_le h0 (by decide) ?_;unfold Bd at b;have e:(2:Nat)^100=1267650600228229401496703205376:=by decide
 lia
theorem Kw{cells:ab (ab Int×Row)}(o:ShOk hs ms cells)(ks:ab Int):∀x∈wds ms ks,x.length<=8:=λx L=>by
 obtain⟨p,J,rfl⟩:=zzf.mp L;have i:=(o.ml p.1 (zyT J).1).2.2;rw[zzx];cases q:p.1.2[p.2.toNat]? with
 |none=>exact zzM _|some y=>exact i y (zyb q)
theorem sX{cells:ab (ab Int×Row)}(o:ShOk hs ms cells):∀l∈bh hs ms cells,l.length<=12/\∀x∈l,x.length<=40:=λl i=>by
 have h6:=o.h6;have m5:=o.m5;rcases zzA.mp i with i|i
 ·rcases zzi.mp i with rfl|i
  ·refine⟨by simp;lia,λx J=>?_⟩;rcases zzi.mp J with rfl|J
   ·decide +kernel
   ·exact zzl (o.hl x J) (by decide)
  ·obtain⟨m,j,rfl⟩:=zzf.mp i;obtain⟨a1,a2,a3⟩:=o.ml m j;refine⟨by simp[mkLn];lia,λx J=>?_⟩;rcases zzi.mp J with rfl|J
   ·decide +kernel
   ·rcases zzi.mp J with rfl|J
    ·lia
    ·exact zzl (a3 x J) (by decide)
 ·obtain⟨c,U,rfl⟩:=zzf.mp i;obtain⟨cl,Y,U⟩:=zxa.mp U;obtain⟨p,L,rfl⟩:=zzf.mp U;have L:=zyT (zzQ.mp L).1;have cn:=(o.kl cl Y).2.2 p.2 L.2;have wl:=nW ms cl.1;have lo:=cn.lo;have hi:=cn.hi;refine⟨by simp[Cs.ln];lia,λx J=>?_⟩;unfold Cs.ln at J;simp only[zzA,zzi,zzW,zyD]at J;rcases J with (rfl|rfl|J)|rfl|rfl
  ·decide +kernel
  ·exact zzl (o.hl _ L.1) (by decide)
  ·exact zzl (Kw o cl.1 x J) (by decide)
  ·exact zzl (nX (by lia) cn.bt) (by decide)
  ·exact zzl (nX (by lia) cn.bw) (by decide)
theorem eV{cells:ab (ab Int×Row)}(o:ShOk hs ms cells):(bh hs ms cells).length<=60:=by
 have h6:=o.h6;have m5:=o.m5;have c7:=o.c7;have key:∀i:ab (ab Int×Row),(i.flatMap (csOf hs ms)).length<=6*i.length:=λi=>by
  induction i with
  |nil=>simp|cons c i ih =>
   rw[zyK,zzg,zzu];have:(csOf hs ms c).length<=6:=by unfold csOf;rw[zza];refine zzl (zyk _ _) ?_;rw[zyV];lia
   lia
 have:=key cells;unfold bh;simp only[zzg,zzu,zza];lia
theorem cL{B:Nat}(J:∀y∈ws,y.length<=B)(h:ws.length*B+ws.length*z.length<=16777216):JoinOk z ws=true:=by unfold JoinOk;rw[StrLaws.joinFits J h];rfl
theorem nY{B:Nat}(J:∀y∈ws,y.length<=B)(i:ws.length<=12):(Txt.join spS ws).length<=12*B+12:=by
 have h1:=zxC spS ws;have h2:=zwr ws J;have e:spS.length=1:=by decide +kernel
 have h3:ws.length*B<=12*B:=Nat.mul_le_mul_right B i;have e2:Txt.join spS ws=Str.join spS ws:=zzU ..;lia
def Kx:DSp:=λds Q=>∃(hs:ab Str) (ms:ab Mk) (i:ab (ab Int×Row)) (a b:D),ds=[nmD hs ms,.tup [a,b,.tup (i.map ci)]]/\ShOk hs ms i/\Q (.str (fP hs ms i))
theorem BE{xs:ab α}{ys:ab β}(h:ys.length<xs.length)(y:β):xs.zip (ys++[y])=xs.zip ys++[(xs[ys.length],y)]:=by
 have J:xs=xs.take ys.length++xs[ys.length]::xs.drop (ys.length+1):=by rw[←zyR h,List.take_append_drop]
 have L:(xs.take ys.length).length=ys.length:=by rw[zyM];lia
 have U:(xs.take ys.length++xs[ys.length]::xs.drop (ys.length+1)).zip (ys++[y])=_:=zwK L;have Y:(xs.take ys.length++xs[ys.length]::xs.drop (ys.length+1)).zip (ys++[])=_:=zwK L;rw[←J,zyF,zxd]at U;rw[←J,zzs,zxd,zzs]at Y;rw[U,Y]
theorem fQ{n:Int}(b:Bd m n)(h:m<1920):n.natAbs.log2<1920:=by
 by_cases z:n.natAbs=0
 ·rw[z];decide
 ·have:=(Nat.log2_lt z).mpr b;lia
theorem dU:∀(xs ys:ab D) (k:Nat),cK k (xs++ys)=cK k xs++cK (k+xs.length) ys
 |[],ys,k=>by simp[cK]
 |x::xs,ys,k=>by rw[zyP,cK,cK,dU xs ys (k+1),zyP,zzu,show k+1+xs.length=k+(xs.length+1) by lia]
theorem BF{cells:ab (ab Int×Row)}(o:ShOk hs ms cells)(v:p∈cells){s:Sl}(q:Q ((wds ms p.1).map D.str)) :
  bU (rY 2 (eQ (bc 0) (eQ (bc 1) wu))) bG (dOp gIx (dOp gIx (dOp gIx (dOp gIx (dVar 2) (dC (.int 1))) (dVar 0)) (dC (.int 1))) (dVar 1)) (cK 0 (p.1.map D.int)) [] [s,s',.val (nmD hs ms)] Q:=by
 have m5:=o.m5;have kl:=(o.kl p v).1;refine aH (λpre U l=>∃(J i:ab Int) (s s':Sl),p.1=J++i/\pre=cK 0 (J.map D.int)/\U=(wds ms J).map D.str/\l=[s,s',.val (nmD hs ms)]) (λU l j=>?_) (λpre d post U l Y e j T=>?_) _ ⟨[],p.1,_,_,rfl,rfl,by unfold wds;rw[zxd];rfl,rfl⟩
 ·obtain⟨J,i,s,s',L,H,rfl,rfl⟩:=j;have:=congrArg List.length H;rw[aM,aM,L,zza,zza,zzg]at this;have:i=[]:=zzH.mp (by lia);subst this;rw[zzs]at L;rw[←L];exact q
 ·obtain⟨J,i,s,s',L,rfl,rfl,rfl⟩:=j;rw[L,zzc,dU]at e;have e:=zzz e;cases i with
  |nil=>simp[cK]at e|cons k i =>
   rw[zzj,cK]at e;injection e with I e5;subst I;have a:=congrArg List.length L;rw[zzg,zzu]at a;have u:J.length<ms.length:=by lia
   have em:ms[J.length]?=some ms[J.length]:=zzn u;obtain⟨G,b1⟩:=o.kk p v J.length k ms[J.length] (by rw[L,zzK (zzq _)];simp) em;have M:(ms[J.length]).2[k.toNat]?=some ((ms[J.length]).2.getD k.toNat Str.empty):=by rw[zzx,zzn (by lia)];rfl
   have N:wds ms (J++[k])=wds ms J++[(ms[J.length]).2.getD k.toNat Str.empty]:=by
    unfold wds;have:ms=ms.take J.length++ms[J.length]::ms.drop (J.length+1):=by rw[←zyR u,List.take_append_drop]
    have C:(ms.take J.length).length=J.length:=by rw[zyM];lia
    have b:ms.zip (J++[k])=(ms.take J.length).zip J++[(ms[J.length],k)]:=by
     conv=>lhs;rw[this]
     rw[zwK C,zyF,zxd]
    have c:ms.zip J=(ms.take J.length).zip J:=by have h:(ms.take J.length++ms[J.length]::ms.drop (J.length+1)).zip (J++[])=_:=zwK C;rw[←this,zzs,zxd,zzs]at h;exact h
    rw[b,c,zzc];rfl
   refine⟨rfl,Br.t ?_⟩;refine au (d:=mkD ms[J.length]) (by simp) (by rw[zza,Nat.zero_add,zzC,zzr,em];rfl) ?_;refine au (d:=.str ((ms[J.length]).2.getD k.toNat Str.empty)) G (by rw[zzr,M];rfl) ⟨?_,T _ _ ⟨J++[k],i,_,_,by rw[L];simp,by rw[zzc,dU];rfl,by rw[N,zzc];rfl,rfl⟩⟩;rw[zza];have:=nW ms J;exact zzw (show _<=5 by lia) (by decide)
theorem Iz(T:Tx K mg):T.IZ.Ok P w base CX0 1 (spD K 2 Kx):=by
 refine fnd ["names","book","lines","name","kinds","counts","words","house","count"] (λhr _=>(aa (dow 2 (aL (da1 (aE (gF (aE (aL (da1 ag))) (aE (su rfl T.Aj rfl (dx 0)))))))) (aw (aN (aB (dx 0)) (dg2 3 4) (ai (cO (pv 2) (aE (gF (aE (aL (ac ag (a1 3)))) (aE (su rfl T.Aj rfl (dv 4)))))))) (aw (aN (dN (dx 1)) (dg2 4 5) (aa (eB 6 (ao ["mark","kind","names"] [none,none,some 0] rfl (uP T.dg (a1 4)) (dg2 0 1) ax (dix (dix (dix (dx 2) (dv 0)) ad) (dv 1)))) (ai (aN (uP T.dg (a1 5)) (dg2 7 8) (ai (dif (ah ik (dx 8) ad) (ai (cO (pv 2) (aE (gF (aE (gF (aE (aL (ac ag (da1 (dix (dx 0) (dv 7)))))) (dv 6))) (aE (aL (ac (al dF T.iZ (da1 (dx 8))) (da1 (al dF T.iZ (da1 (dx 8))))))))))))))))) (dr (bW ag (dfc (ao ["line"] [none] rfl (aB (dv 2)) (dgb 0) ax (bW ag (dv 0)))))))))) (λds Q N h=>?_);obtain⟨hs,ms,cells,a,b,rfl,o,h⟩:=h;have E:∀{n:Nat},n<=1000->n<=sizeLine:=λh=>zzl h (by decide);have h6:=o.h6;have m5:=o.m5;refine⟨sz,⟨E (by simp;lia),sz,?_⟩⟩;refine⟨λu=>∃i v C G J L:Sl,u=[.val (nmD hs ms),.val (.tup [a,b,.tup (cells.map ci)]),.own (((aJ::hs)::ms.map mkLn).map lnD),i,v,C,G,J,L],?_,?_⟩
 ·refine aG (λpre u=>∃(k A:ab Mk) (i v C G J L:Sl),ms=k++A/\pre=k.map mkD/\u=[.val (nmD hs ms),.val (.tup [a,b,.tup (cells.map ci)]),.own (((aJ::hs)::k.map mkLn).map lnD),i,v,C,G,J,L]) (λu H=>?_) (λpre d post u X e H hX=>?_) _ ⟨[],ms,_,_,_,_,_,_,rfl,rfl,rfl⟩
  ·obtain⟨k,A,i,v,C,G,J,L,U,r,rfl⟩:=H;have:=congrArg List.length r;rw[U]at this;simp only[zza,zzg]at this;have:A=[]:=zzH.mp (by lia);subst this;rw[zzs]at U;subst U;exact⟨_,_,_,_,_,_,rfl⟩
  ·obtain⟨k,A,i,v,C,G,J,L,U,rfl,rfl⟩:=H;rw[U,zzc]at e;have e:=zzz e;cases A with
   |nil=>simp at e|cons m A =>
    rw[zzj]at e;injection e with r e5;subst r;have hm:=(o.ml m (by rw[U];simp)).2.1;have N:=congrArg List.length U;rw[zzg]at N;refine⟨rfl,trivial,sz,E (by simp;lia),?_,hX _ ⟨k++[m],A,_,_,_,_,_,_,by rw[U,zzR];rfl,by rw[zzc];rfl,by rw[show ((aJ::hs)::(k++[m]).map mkLn).map lnD=((aJ::hs)::k.map mkLn).map lnD++[lnD (mkLn m)] by simp];rfl⟩⟩;exact zzw (show (((aJ::hs)::k.map mkLn).map lnD).length<=100 by simp;lia) (by decide)
 ·rintro _ ⟨i,v,C,G,J,L,rfl⟩;refine⟨λu=>∃i v C G J L:Sl,u=[.val (nmD hs ms),.val (.tup [a,b,.tup (cells.map ci)]),.own ((bh hs ms cells).map lnD),i,v,C,G,J,L],?_,?_⟩
  ·have base:∀I M,cells=I++M->((aJ::hs)::ms.map mkLn++(I.flatMap (csOf hs ms)).map Cs.ln).length<=60:=λI M e=>by
    have:=eV o;unfold bh at this;rw[e,zyL,zzc,←zzR,zzg]at this;lia
   refine aG (λpre u=>∃(I M:ab (ab Int×Row)) (i v C G J L:Sl),cells=I++M/\pre=I.map ci/\u=[.val (nmD hs ms),.val (.tup [a,b,.tup (cells.map ci)]),.own (((aJ::hs)::ms.map mkLn++(I.flatMap (csOf hs ms)).map Cs.ln).map lnD),i,v,C,G,J,L]) (λu H=>?_) (λpre d post u X e H hX=>?_) _ ⟨[],cells,i,v,C,G,J,L,rfl,rfl,by simp⟩
   ·obtain⟨I,M,i,v,C,G,J,L,U,r,rfl⟩:=H;have:=congrArg List.length r;rw[U]at this;simp only[zza,zzg]at this;have:M=[]:=zzH.mp (by lia);subst this;rw[zzs]at U;subst U;exact⟨_,_,_,_,_,_,rfl⟩
   ·obtain⟨I,M,i,v,C,G,J,L,U,rfl,rfl⟩:=H;have e':=e;rw[U,zzc]at e;have e:=zzz e;cases M with
    |nil=>simp at e|cons c M =>
     rw[zzj]at e;injection e with r e5;subst r;have hc:c∈cells:=by rw[U];simp
     refine⟨rfl,BF o hc ?_⟩;have hr:=(o.kl c hc).2;have hbase:=base I _ U;have lf:=eV o;refine aG (λpre u=>∃(j p:Row) (i J L:Sl),c.2=j++p/\pre=cK 0 (j.map aq)/\u=[.val (nmD hs ms),.val (.tup [a,b,.tup (cells.map ci)]),.own (((aJ::hs)::ms.map mkLn++(I.flatMap (csOf hs ms)).map Cs.ln).map lnD++((csOf hs ms (c.1,j)).map Cs.ln).map lnD),i,.val (ak c.1),.val (rowD c.2),.val (.lst ((wds ms c.1).map .str)),J,L]) (λu H=>?_) (λpre d post u X' e H a4=>?_) _ ⟨[],c.2,i,J,L,rfl,rfl,by unfold csOf;simp⟩
     ·obtain⟨j,p,i,J,L,g,e7,rfl⟩:=H;have:=congrArg List.length e7;rw[aM,aM,g,zza,zza,zzg]at this;have:p=[]:=zzH.mp (by lia);subst this;rw[zzs]at g;refine hX _ ⟨I++[c],M,i,.val (ak c.1),.val (rowD c.2),.val (.lst ((wds ms c.1).map .str)),J,L,by rw[U];simp,by rw[zzc];rfl,?_⟩;rw[←g,←zzc,zzR,←zzc,zyL,zyK,zwA,zzs]
     ·obtain⟨j,p,i,J,L,g,rfl,rfl⟩:=H;rw[g,zzc,dU]at e;have e:=zzz e;cases p with
      |nil=>simp[cK]at e|cons x p =>
       rw[zzj,cK]at e;injection e with e7 e8;subst e7;have N:=congrArg List.length g;rw[zzg,zzu,hr.1]at N;have a5:j.length<hs.length:=by lia
       have cn:=hr.2 x (by rw[g];simp);have ez:csOf hs ms (c.1,j++[x])=csOf hs ms (c.1,j)++(if 0<x.1 then[⟨hs[j.length],wds ms c.1,numS x.1,numS x.2,x.1.toNat,x.2.toNat⟩] else[]):=by
        unfold csOf;show ((hs.zip (j++[x])).filter _).map _=_;rw[BE a5,zya,zzc];by_cases q:0<x.1
        ·rw[zzk q];simp[q]
        ·rw[zzh q];simp[q]
       refine⟨rfl,λz=>?_,λz=>?_⟩
       ·have z:=zzO z;rw[zzk z]at ez;have wl:=nW ms c.1;have hcs:(csOf hs ms (c.1,j)).length<=6:=by
         unfold csOf;rw[zza];refine zzl (zyk _ _) ?_;rw[zyV];lia
        refine⟨trivial,au (d:=.str hs[j.length]) (by lia) (by rw[zza,Nat.zero_add,zzC,zzr,zzn a5];rfl) ⟨sz,E (by simp;lia),fQ cn.bt (by decide),fQ cn.bw (by decide),sz,E (by simp;lia),?_,a4 _ ⟨j++[x],p,i,.val (.int ((0+(j.map aq).length:Nat):Int)),.val (aq x),by rw[g];simp,by rw[zzc,dU];rfl,?_⟩⟩⟩
        ·rw[zzg,zza,zza,zza];exact zzw (show _<=100 by lia) (by decide)
        ·have el:((csOf hs ms (c.1,j++[x])).map Cs.ln).map lnD=((csOf hs ms (c.1,j)).map Cs.ln).map lnD++[.lst (([.str eN,.str hs[j.length]]++(wds ms c.1).map D.str)++[.str (numS x.1),.str (numS x.2)])]:=by
          rw[ez,zzc,zzc];simp[Cs.ln]
         rw[el,←zzR];rfl
       ·have z:=zyg z;rw[zzh z,zzs]at ez;refine a4 _ ⟨j++[x],p,i,_,_,by rw[g];simp,by rw[zzc,dU];rfl,by rw[ez];rfl⟩
  ·rintro _ ⟨i,v,C,G,J,L,rfl⟩;have lb:=sX o;have ll:=eV o;have a7:spS.length=1:=by decide +kernel
   have a6:nlS.length=1:=by decide +kernel
   refine⟨nlS,rfl,?_⟩;refine aA (D.str ∘ Txt.join spS) (λu=>∃s,u=[s]) (E (by lia)) (λl N u Y Z H hY=>?_) _ ⟨_,rfl⟩ ?_
   ·obtain⟨s,rfl⟩:=H;refine Br.t ⟨spS,rfl,l,⟨rfl,cL (lb l N).2 ?_⟩,hY _ ⟨_,rfl⟩⟩;have:=(lb l N).1;rw[a7];lia
   ·rw[←zzo];refine⟨_,⟨rfl,cL (B:=492) (λy hy=>?_) ?_⟩,h⟩
    ·obtain⟨l,N,rfl⟩:=zzf.mp hy;exact nY (B:=40) (lb l N).2 (lb l N).1
    ·rw[zza,a6];lia
noncomputable def jn(c:Nat):ab (ab Nat)->ab Nat
 |[]=>[]|[x]=>x|x::y::r=>x++c::jn c (y::r)
theorem zD{c:Nat}:∀{a L b J:ab Nat},c∉a->c∉L->a++c::b=L++c::J->a=L/\b=J
 |[],[],b,J,_,_,h=>by simpa using h
 |[],x::L,b,J,_,j,h=>by simp only[List.nil_append,zyP,zwe]at h;exact absurd (by simp[h.1]) j
 |x::a,[],b,J,i,_,h=>by simp only[List.nil_append,zyP,zwe]at h;exact absurd (by simp[h.1]) i
 |x::a,y::L,b,J,i,j,h=>by simp only[zyP,zwe]at h;obtain⟨U,Y⟩:=zD (λz=>i (zzb _ z)) (λz=>j (zzb _ z)) h.2;exact⟨by rw[h.1,U],Y⟩
theorem CS{c:Nat}:∀{xs ys:ab (ab Nat)},xs≠[]->ys≠[]->(∀x∈xs,c∉x)->(∀y∈ys,c∉y)->jn c xs=jn c ys->xs=ys
 |[],_,h,_,_,_,_=>absurd rfl h|_,[],_,h,_,_,_=>absurd rfl h|[x],[y],_,_,_,_,h=>by rw[show x=y from h]
 |[x],y::i::r,_,_,J,_,h=>by have h:x=y++c::jn c (i::r):=h;exact absurd (by rw[h];simp) (J x (by simp))
 |x::Y::r,[y],_,_,_,L,h=>by have h:x++c::jn c (Y::r)=y:=h;exact absurd (by rw[←h];simp) (L y (by simp))
 |x::Y::r,y::i::u,_,_,J,L,h=>by obtain⟨j,l⟩:=zD (J x (by simp)) (L y (by simp)) (show x++c::jn c (Y::r)=y++c::jn c (i::u) from h);have o:=CS (by simp) (by simp) (λz U=>J z (zzb _ U)) (λz U=>L z (zzb _ U)) l;rw[j,o]
theorem sY(c:Nat):∀ls:ab Str,(Str.join ⟨#[c]⟩ ls).cps.toList=jn c (ls.map λl=>l.cps.toList)
 |[]=>rfl|[x]=>rfl|x::y::r=>by have J:=sY c (y::r);show (x++⟨#[c]⟩++Str.join ⟨#[c]⟩ (y::r)).cps.toList=x.cps.toList++c::jn c ((y::r).map λl=>l.cps.toList);rw[zyQ,zyQ,zyA,zyA,J];simp
theorem iw{a b:Str}(h:a.cps.toList=b.cps.toList):a=b:=by cases a;simp only at h;rw[Array.toList_inj.mp h]
theorem ix{ls:ab Str}(L:ls≠[])(h:∀l∈ls,n∉l.cps.toList):Txt.split (Txt.join ⟨#[n]⟩ ls) ⟨#[n]⟩=ls:=by
 have u:Txt.join ⟨#[n]⟩ ls=Str.join ⟨#[n]⟩ ls:=zzU ..;have J:=StrLaws.join_split (Txt.join ⟨#[n]⟩ ls) ⟨#[n]⟩;have j:=StrLaws.split_free (Txt.join ⟨#[n]⟩ ls) n;have o:Txt.split (Txt.join ⟨#[n]⟩ ls) ⟨#[n]⟩≠[]:=λz=>by have:=PyProof.Rows.split_pos (Txt.join ⟨#[n]⟩ ls) ⟨#[n]⟩;rw[z]at this;exact absurd this (by decide)
 generalize Txt.split (Txt.join ⟨#[n]⟩ ls) ⟨#[n]⟩=ps at J j o;rw[u]at J;have Y:=congrArg (λz:Str=>z.cps.toList) J;simp only[sY]at Y;have v:=CS (by simpa using o) (by simpa using L) (λx U=>by obtain⟨l,i,rfl⟩:=zzf.mp U;exact j l i) (λx U=>by obtain⟨l,i,rfl⟩:=zzf.mp U;exact h l i) Y;exact zwU (λ_ _=>iw) |>.mp v
theorem fC(m:Nat):NumText.AllDigits (numS ((m:Nat):Int)).cps.toList:=λc J=>by unfold numS at J;rw[zxQ]at J;obtain⟨ch,L,e⟩:=zzf.mp J;have r:=PyProof.Rows.digit_range (Nat.isDigit_of_mem_toDigits (by decide) (by decide) L);rw[←e];exact r
theorem num_ne(m:Nat):(numS ((m:Nat):Int)).cps.toList≠[]:=by unfold numS;rw[zxQ];intro e;have h:=PySem.toDigits_len_ge 10 m;rw[zwa.mp e]at h;exact absurd h (by decide)
theorem qA{n:Int}(h0:0<=n)(b:Bd 100 n):intText? (numS n)=some n:=by have i:=nX h0 b;obtain⟨m,rfl⟩:=zyl h0;have e:=PySem.intText_digits (fC m) (num_ne m) (zzl i (by decide));unfold numS at e ⊢;rw[zxQ,PySem.W.KIN.val_back]at e;exact e
theorem BG(m:Nat)(j:0<m):((Nat.toDigits 10 m).map Char.toNat).head? ≠ some 48:=by
 induction m using Nat.strongRecOn with
 |_ m U =>
  by_cases h:m<10
  ·rw[Nat.toDigits_of_lt_base h];have key:∀d:Nat,d<10->0<d->(Nat.digitChar d).toNat≠48:=by decide
   intro z;exact key m h j (zzS z)
  ·have L:m % 10<10:=Nat.mod_lt m (by decide);have t:Nat.toDigits 10 (m / 10)++Nat.toDigits 10 (m % 10)=Nat.toDigits 10 (10*(m / 10)+m % 10):=Nat.toDigits_append_toDigits (by decide) (by lia) L;rw[Nat.div_add_mod]at t;have i:=U (m / 10) (by lia) (by lia);have J:(Nat.toDigits 10 (m / 10)).map Char.toNat≠[]:=λe=>by
    have h:=PySem.toDigits_len_ge 10 (m / 10);rw[zwa.mp e]at h;exact absurd h (by decide)
   rw[←t,zzc];cases q:(Nat.toDigits 10 (m / 10)).map Char.toNat with
   |nil=>exact absurd q J|cons c r =>
    rw[q]at i;exact i
theorem vp{b:Nat}{x:Str}(h:∀c∈x.cps.toList,a<=c/\c<=b):qu a b x=true:=by unfold qu;rw[zyj];intro c J;rw[zzp (h c J).1,zzp (h c J).2];rfl
theorem qB{n:Int}(h0:0<=n)(h:n<10^30):qy (numS n)=true:=by
 have j:(numS n).length<=30:=PyProof.Rows.toString_length_le h0 (by decide) h;obtain⟨m,rfl⟩:=zyl h0;have i:1<=(numS (m:Int)).length:=by
  have:=num_ne m;cases q:(numS (m:Int)).cps.toList with
  |nil=>exact absurd q this|cons c r =>
   have e:(numS (m:Int)).cps.toList.length=(numS (m:Int)).length:=zyh;rw[q,zzu]at e;lia
 unfold qy;rw[zzp i,zzp j,vp (fC m)];by_cases z:m=0
 ·subst z;rfl
 ·have:=BG m (by lia);have e:(numS (m:Int)).cps.toList.head? ≠ some 48:=by
   unfold numS;rw[zxQ];exact this
  rw[zzv e];simp
theorem zE{n:Int}(h0:0<=n)(b:Bd 100 n):TxOk (numS n):=by refine⟨zzl (nX h0 b) (by decide),?_⟩;obtain⟨m,rfl⟩:=zyl h0;refine zyO.mpr λc J=>?_;have:=(fC m c (zyS.mpr J)).2;exact zzp (by lia)
def Wd(x:Str):Prop:=∀c∈x.cps.toList,33<=c/\c<128
theorem nl_is:nlS=⟨#[10]⟩:=by decide +kernel
theorem IA:spS=⟨#[32]⟩:=by decide +kernel
theorem CT{c d:Nat}:∀{xs:ab (ab Nat)},d∈jn c xs->d=c∨∃x∈xs,d∈x
 |[],h=>by simp[jn]at h
 |[x],h=>.inr ⟨x,by simp,h⟩|x::y::r,h=>by
  rcases zzA.mp h with h|h
  ·exact .inr ⟨x,by simp,h⟩
  ·rcases zzi.mp h with h|h
   ·exact .inl h
   ·rcases CT h with h|⟨z,J,h⟩
    ·exact .inl h
    ·exact .inr ⟨z,zzb _ J,h⟩
theorem vq{d:Nat}{ls:ab Str}(h:d∈(Txt.join ⟨#[n]⟩ ls).cps.toList):d=n∨∃x∈ls,d∈x.cps.toList:=by
 have J:Txt.join ⟨#[n]⟩ ls=Str.join ⟨#[n]⟩ ls:=zzU ..;rw[J,sY]at h;rcases CT h with h|⟨x,L,h⟩
 ·exact .inl h
 ·obtain⟨l,i,rfl⟩:=zzf.mp L;exact .inr ⟨l,i,h⟩
theorem wS{L:ab (ab Str)}(h:L≠[])(j:∀l∈L,l≠[])(i:∀l∈L,∀x∈l,Wd x):Txt.split (Txt.join nlS (L.map (Txt.join spS))) nlS=L.map (Txt.join spS)/\(L.map (Txt.join spS)).map (λl=>Txt.split l spS)=L:=by
 refine⟨ix (by simpa using h) λl U=>?_,?_⟩
 ·obtain⟨ws,J,rfl⟩:=zzf.mp U;intro z;rcases vq z with z|⟨x,Y,z⟩
  ·exact absurd z (by decide)
  ·have:=i ws J x Y 10 z;lia
 ·rw[zzo]
  conv=>rhs;rw[←zwR L]
  refine zzF λws J=>?_;refine ix (j ws J) λx Y z=>?_;have:=i ws J x Y 32 z;lia
theorem Wd.num{n:Int}(h0:0<=n):Wd (numS n):=λc J=>by obtain⟨m,rfl⟩:=zyl h0;have:=fC m c J;lia
theorem eW{x:Str}(h:isNm x=true):∀c∈x.cps.toList,97<=c/\c<=122:=λc J=>by unfold isNm qu at h;rw[zzV,zyj]at h;have:=h.2 c J;simpa using this
theorem bC{x:Str}(h:isNm x=true):1<=x.length/\x.length<=8:=by unfold isNm at h;simp only[zzV,zyJ]at h;exact h.1
theorem Wd.nm{x:Str}(h:isNm x=true):Wd x:=λc J=>by have:=eW h c J;lia
theorem vt{x:Str}(h:isNm x=true):TxOk x:=by refine⟨zzl (bC h).2 (by decide),zyO.mpr λc J=>?_⟩;have:=eW h c (zyS.mpr J);exact zzp (by lia)
structure BkT(hs:List Str)(ms:List Mk)(cells:List (List Int×Row)):Prop where
 h2:2 <= hs.length
 h6:hs.length <= 6
 hn:∀x∈hs,isNm x=true
 hd:hs.Nodup
 m5:ms.length <= 5
 mn:∀m∈ms,isNm m.1=true/\1 <= m.2.length/\m.2.length <= 6/\(∀x∈m.2,isNm x=true)/\m.2.Nodup
 md:(ms.map (·.1)).Nodup
 c7:cells.length <= 8
 kl:∀c∈cells,c.1.length=ms.length/\RowN 95 hs.length c.2/\eK c.2
 kk:∀c∈cells,∀(i:Nat) (k:Int) (m:Mk),c.1[i]? = some k->ms[i]? = some m->0 <= k/\k<m.2.length
 up:∀(i j:Nat) (x y:List Int×Row),i<j->cells[i]? = some x->cells[j]? = some y->HT.lexLt x.1 y.1=true
theorem BkT.sh{cells:ab (ab Int×Row)}(o:BkT hs ms cells):ShOk hs ms cells where
 h6:=o.h6
 m5:=o.m5
 c7:=o.c7
 hl:=λx J=>(bC (o.hn x J)).2
 ml:=λm i=>⟨(bC (o.mn m i).1).2,(o.mn m i).2.2.1,λx J=>(bC ((o.mn m i).2.2.2.1 x J)).2⟩
 kl:=λc L=>⟨(o.kl c L).1,(o.kl c L).2.1.1,λx J=>((o.kl c L).2.1.2 x J).mono (by decide)⟩
 kk:=o.kk
theorem qC(j:ws.Nodup){k:Nat}(J:k<ws.length):plc ws[k] ws=k:=by
 have i:plc ws[k] ws<ws.length:=zxq ⟨ws[k],zyn J,by simp⟩;have e:ws[plc ws[k] ws]=ws[k]:=by have:=zwI (w:=i);exact zzO this
 exact(zxR j).mp e
theorem sZ:∀(ms:ab Mk) (ks:ab Int),ks.length=ms.length->(∀m∈ms,m.2.Nodup)->(∀(i:Nat) (k:Int) (m:Mk),ks[i]?=some k->ms[i]?=some m->0<=k/\k<m.2.length)->kpl (wds ms ks) ms=ks
 |[],[],_,_,_=>rfl|[],_::_,h,_,_=>by simp at h
 |_::_,[],h,_,_=>by simp at h
 |m::ms,k::ks,h,j,L=>by
  have Y:=sZ ms ks (by simpa using h) (λx U=>j x (zzb _ U)) (λi a b l o=>L (i+1) a b (by simpa using l) (by simpa using o));obtain⟨k0,k1⟩:=L 0 k m rfl rfl;have J:k.toNat<m.2.length:=by lia
  show (plc (m.2.getD k.toNat Str.empty) m.2:Int)::kpl (wds ms ks) ms=_;rw[Y,zzx,zzn J,Option.getD_some,qC (j m (by simp)) J];congr 1;lia
theorem CU:∀(ms:ab Mk) (ks:ab Int),ks.length=ms.length->(∀(i:Nat) (k:Int) (m:Mk),ks[i]?=some k->ms[i]?=some m->0<=k/\k<m.2.length)->(wds ms ks).length=ms.length/\∀(i:Nat) (x:Str) (m:Mk),(wds ms ks)[i]?=some x->ms[i]?=some m->x∈m.2
 |[],[],_,_=>⟨rfl,λi x m h=>by simp[wds]at h⟩
 |[],_::_,h,_=>by simp at h
 |_::_,[],h,_=>by simp at h
 |m::ms,k::ks,h,L=>by
  obtain⟨o,u⟩:=CU ms ks (by simpa using h) (λi a b j l=>L (i+1) a b (by simpa using j) (by simpa using l));obtain⟨k0,k1⟩:=L 0 k m rfl rfl;have J:k.toNat<m.2.length:=by lia
  have e:wds (m::ms) (k::ks)=m.2[k.toNat]::wds ms ks:=by unfold wds;rw[zyF,zzj,zzx,zzn J];rfl
  rw[e];refine⟨by rw[zzu,zzu,o],λi x a j l=>?_⟩;cases i with
  |zero =>
   simp at j l;subst j l;exact zyn J
  |succ i=>exact u i x a (by simpa using j) (by simpa using l)
theorem IB{n:Int}(h:Bd 95 n):n<10^29:=by
 unfold Bd at h;have e:(2:Nat)^95=39614081257132168796771975168:=by decide
 lia
theorem wT{cells:ab (ab Int×Row)}(o:BkT hs ms cells){c:ab Int×Row}(U:c∈cells){d:Cs}(hd:d∈csOf hs ms c) :
  CsOk hs ms d.hn d.kw d.a d.b d.t d.w/\d.t<10^30/\(∀x∈d.hn::d.kw,isNm x=true)/\kpl d.kw ms=c.1:=by
 obtain⟨p,Y,rfl⟩:=zzf.mp hd;obtain⟨Y,hpos⟩:=zzQ.mp Y;obtain⟨l,H⟩:=zyT Y;obtain⟨a1,a2,a3⟩:=o.kl c U;have cn:=a2.2 p.2 H;obtain⟨u,v⟩:=CU ms c.1 a1 (o.kk c U);have lo:=cn.lo;have j:=cn.hi;have b1:=IB cn.bt;have G:∀x∈wds ms c.1,isNm x=true:=λx L=>by
  obtain⟨i,j⟩:=zxP.mp L;have J:i<ms.length:=by rw[←u];exact(zzy.mp j).1
  have:=v i x ms[i] j (zzn J);exact(o.mn _ (zyn J)).2.2.2.1 x this
 refine⟨⟨l,u,v,qB (by lia) (by lia),qB (by lia) (by lia),?_,?_,by show 0<p.2.1.toNat;lia,by show p.2.2.toNat<=p.2.1.toNat;lia,zE (by lia) (cn.bt.mono (by decide)),zE (by lia) (cn.bw.mono (by decide))⟩,by show p.2.1.toNat<_;lia,λx L=>?_,sZ ms c.1 a1 (λm C=>(o.mn m C).2.2.2.2) (o.kk c U)⟩
 ·rw[qA (by lia) (cn.bt.mono (by decide))];exact congrArg some (by show p.2.1=((p.2.1.toNat:Nat):Int);lia)
 ·rw[qA (by lia) (cn.bw.mono (by decide))];exact congrArg some (by show p.2.2=((p.2.2.toNat:Nat):Int);lia)
 ·rcases zzi.mp L with rfl|L
  ·exact o.hn _ l
  ·exact G x L
theorem qD:∀ks:ab Int,HT.lexLt ks ks=false
 |[]=>rfl|k::ks=>by rw[HT.lexLt_cons,zzk rfl,qD ks]
theorem IC(l:hs.Nodup)(r:Row):(hs.zip r).Pairwise λp q=>plc p.1 hs<plc q.1 hs:=by
 rw[zyr];intro i j o Y L;have J:i<hs.length:=by rw[zyV]at o;lia
 have U:j<hs.length:=by rw[zyV]at Y;lia
 rw[List.getElem_zip,List.getElem_zip];rw[qC l J,qC l U];exact L
theorem Fc{cells:ab (ab Int×Row)}(o:BkT hs ms cells):(cells.flatMap (csOf hs ms)).Pairwise λx y=>gtP (kpl y.kw ms) (plc y.hn hs) (kpl x.kw ms) (plc x.hn hs)=true:=by
 rw[List.pairwise_flatMap];refine⟨λc L=>?_,?_⟩
 ·have hk:kpl (wds ms c.1) ms=c.1:=sZ ms c.1 (o.kl c L).1 (λm v=>(o.mn m v).2.2.2.2) (o.kk c L);unfold csOf;rw[List.pairwise_map];refine List.Pairwise.imp ?_ ((IC o.hd c.2).filter _);intro p q hpq;unfold gtP;rw[zzk rfl];exact zzp (show ((plc p.1 hs:Nat):Int)<((plc q.1 hs:Nat):Int) by lia)
 ·rw[zyr];intro i j l U J x C y G;have Y:=(wT o (zyn l) C).2.2.2;have u:=(wT o (zyn U) G).2.2.2;have lt:=o.up i j cells[i] cells[j] J (zzn l) (zzn U);rw[Y,u];unfold gtP;rw[zzh (λz=>by rw[z,qD]at lt;exact zzI lt)];exact lt
theorem CV(h:∀x∈ws,isNm x=true)(i:ws.Nodup):nmsB ws=true:=by unfold nmsB;rw[zyj.mpr h,wn i,zzp rfl];rfl
theorem vv{cells:ab (ab Int×Row)}(o:BkT hs ms cells):∀l∈bh hs ms cells,l≠[]/\∀x∈l,Wd x:=λl i=>by
  rcases zzA.mp i with i|i
  ·rcases zzi.mp i with rfl|i
   ·refine⟨by simp,λx J=>?_⟩;rcases zzi.mp J with rfl|J
    ·unfold Wd;decide +kernel
    ·exact Wd.nm (o.hn x J)
   ·obtain⟨m,u,rfl⟩:=zzf.mp i;obtain⟨a1,a2,a3,Y,a5⟩:=o.mn m u;refine⟨by simp[mkLn],λx J=>?_⟩;rcases zzi.mp J with rfl|J
    ·unfold Wd;decide +kernel
    ·rcases zzi.mp J with rfl|J
     ·exact Wd.nm a1
     ·exact Wd.nm (Y x J)
  ·obtain⟨d,hd,rfl⟩:=zzf.mp i;obtain⟨c,U,hd⟩:=zxa.mp hd;obtain⟨b1,b2,j,b4⟩:=wT o U hd;refine⟨by simp[Cs.ln],λx J=>?_⟩;have L:Wd d.a/\Wd d.b:=by
    obtain⟨p,v,rfl⟩:=zzf.mp hd;have cn:=(o.kl c U).2.1.2 p.2 (zyT (zzQ.mp v).1).2;have lo:=cn.lo;have hi:=cn.hi;exact⟨Wd.num (by lia),Wd.num (by lia)⟩
   rcases zzA.mp J with J|J
   ·rcases zzi.mp J with rfl|J
    ·unfold Wd;decide +kernel
    ·exact Wd.nm (j x J)
   ·simp only[zzi,zzW,zyD]at J;rcases J with rfl|rfl
    ·exact L.1
    ·exact L.2
theorem zF{cells:ab (ab Int×Row)}(o:BkT hs ms cells):TextOk (fP hs ms cells) hs ms (cells.flatMap (csOf hs ms)):=by
 have Y:=sX o.sh;have h:=eV o.sh;have ln:bh hs ms cells≠[]:=by unfold bh;simp
 have G:=vv o;obtain⟨H,k⟩:=wS ln (λl j=>(G l j).1) (λl j=>(G l j).2);have C:∀l∈(bh hs ms cells).map (Txt.join spS),l.length<=492:=λl j=>by obtain⟨ws,L,rfl⟩:=zzf.mp j;exact nY (Y ws L).2 (Y ws L).1
 refine⟨?_,?_,?_,o.h2,o.h6,CV o.hn o.hd,λx J=>vt (o.hn x J),⟨o.m5,o.md,λm b=>?_⟩,?_,?_,?_⟩
 ·have u:=zxC nlS ((bh hs ms cells).map (Txt.join spS));have v:=zwr _ C;have e:nlS.length=1:=by decide +kernel
  have e2:fP hs ms cells=Str.join nlS ((bh hs ms cells).map (Txt.join spS)):=zzU ..;rw[zza]at u v;lia
 ·unfold fP;rw[H,k];rfl
 ·unfold fP;rw[H];exact λl j=>zzl (C l j) (by decide)
 ·obtain⟨a1,a2,a3,U,I⟩:=o.mn m b;exact⟨a1,a2,a3,CV U I,vt a1,λx J=>vt (U x J)⟩
 ·have:(bh hs ms cells).length<=60:=h;unfold bh at this;simp only[zzg,zza,zzu]at this;lia
 ·intro d hd;obtain⟨c,a,hd⟩:=zxa.mp hd;obtain⟨M,N,T,b4⟩:=wT o a hd;exact⟨M,N,λx J=>vt (T x J)⟩
 ·intro i x y J g;obtain⟨u,rfl⟩:=zzy.mp J;obtain⟨v,rfl⟩:=zzy.mp g;exact zyr.mp (Fc o) i (i+1) u v (by lia)
theorem Fd{h:Nat}(i:h<n)(x:Int×Int)(j:Nat)(J:j<n)(ks:ab Int):at_ (fY n ⟨h,ks,x.1,x.2⟩) j=if j=h then x else(0,0):=by
 unfold at_ fY;rw[zzx,show ((h:Nat):Int).toNat=h by lia,List.getElem?_set];by_cases e:h=j
 ·subst e;simp[i]
 ·rw[zzh e,zzh (Ne.symm e)];simp[J]
theorem vw:sumP []=(0,0):=rfl
theorem gK(c:Int×Int)(i:ab (Int×Int)):sumP (c::i)=(c.1+(sumP i).1,c.2+(sumP i).2):=by unfold sumP;rw[zzj,zzj,zyc,zyc]
theorem BH(a b:ab (Int×Int)):sumP (a++b)=((sumP a).1+(sumP b).1,(sumP a).2+(sumP b).2):=by
 induction a with
 |nil=>simp[vw]|cons c a J =>
  rw[zyP,gK,J,gK];simp only[Prod.mk.injEq];constructor<;>lia
theorem tj:∀a b:ab Int,a.length=b.length->HT.lexLt a b=ltI a b
 |[],[],_=>rfl|[],_::_,h=>by simp at h
 |_::_,[],h=>by simp at h
 |a::r,b::s,h=>by rw[HT.lexLt_cons,tj r s (by simpa using h)];rfl
theorem vx{hs:ab Str}{n h:Nat}(l:h<n)(ks:ab Int):∀(J:ab Str) (r:Row) (s:Nat),J.length=r.length->s+J.length<=n->(∀(i:Nat) (j:i<J.length),plc J[i] hs=s+i)->(∀c∈r,0<=c.2/\c.2<=c.1) ->
  sumP (((J.zip r).filter λp=>decide (0<p.2.1)).map λp=>at_ (fY n ⟨(plc p.1 hs:Nat),ks,(p.2.1.toNat:Nat),(p.2.2.toNat:Nat)⟩) h)=if s<=h then at_ r (h - s) else(0,0)
 |[],[],s,_,_,_,_=>by unfold at_;simp[vw]
 |[],_::_,_,h,_,_,_=>by simp at h
 |_::_,[],_,h,_,_,_=>by simp at h
 |x::J,c::r,s,G,L,Y,U=>by
  have o:=vx (hs:=hs) l ks J r (s+1) (by simpa using G) (by simp at L;lia) (λi j=>by have:=Y (i+1) (by simpa using j);simp only[List.getElem_cons_succ]at this;lia) (λd hd=>U d (zzb _ hd));have H:plc x hs=s:=by have:=Y 0 (by simp);simpa using this
  obtain⟨c0,c1⟩:=U c zze;have I:s<n:=by simp at L;lia
  have u:=Fd I (((c.1.toNat:Nat):Int),((c.2.toNat:Nat):Int)) h l ks;rw[zyF];have v:(((c.1.toNat:Nat):Int),((c.2.toNat:Nat):Int))=c:=Prod.ext (by show ((c.1.toNat:Nat):Int)=c.1;lia) (by show ((c.2.toNat:Nat):Int)=c.2;lia);have C:(if s<=h then at_ (c::r) (h - s) else(0,0))=if h=s then c else if s+1<=h then at_ r (h - (s+1)) else(0,0):=by
   by_cases e:h=s
   ·subst e;rw[zzk (zzq _),zzk rfl,zxO];rfl
   ·rw[zzh e];by_cases q:s<=h
    ·rw[zzk q,zzk (by lia),show h - s=(h - (s+1))+1 by lia];rfl
    ·rw[zzh q,zzh (by lia)]
  rw[C];by_cases z:0<c.1
  ·rw[zyd (by simpa using z),zzj,gK,o];rw[H,u,v];by_cases e:h=s
   ·rw[zzk e,zzk e,zzh (by lia)];simp
   ·rw[zzh e,zzh e];simp
  ·rw[zzZ (by simpa using z),o];by_cases e:h=s
   ·rw[zzk e,zzh (by lia)];exact Prod.ext (by show (0:Int)=c.1;lia) (by show (0:Int)=c.2;lia)
   ·rw[zzh e]
theorem Fe(a b:ab Row)(h:Nat):col (a++b) h=col a h++col b h:=by unfold col;rw[zzc]
theorem vy{h:Nat}{k:ab Int}(f:ab Int×Row->ab (ab Int×Row)):∀L:ab (ab Int×Row),(∀x∈L,(∀p∈f x,p.1=x.1)/\sumP (col ((f x).map (·.2)) h)=at_ x.2 h) ->
  sumP (col (((L.flatMap f).filter λp=>decide (p.1=k)).map (·.2)) h)=sumP (col ((L.filter λp=>decide (p.1=k)).map (·.2)) h)
 |[],_=>rfl|x::L,H=>by
  obtain⟨i,j⟩:=H x zze;have Y:=vy (k:=k) f L λy U=>H y (zzb _ U);rw[zyK,zya,zzc,Fe,BH,Y];by_cases e:x.1=k
  ·rw[zyd (by simpa using e),zzj];have:(f x).filter (λp=>decide (p.1=k))=f x:=zxZ.mpr λp J=>by rw[i p J];simpa using e
   rw[this,j];exact(gK _ _).symm
  ·rw[zzZ (by simpa using e)];have:(f x).filter (λp=>decide (p.1=k))=[]:=zxB.mpr λp J=>by rw[i p J];simpa using e
   rw[this];show (0+_,0+_)=_;simp
theorem zG{cells:ab (ab Int×Row)}(o:BkT hs ms cells):gath hs.length ((cells.flatMap (csOf hs ms)).map λc=>(kpl c.kw ms,fY hs.length (c.rt hs ms)))=cells:=by
 have d:(cells.flatMap (csOf hs ms)).map (λc=>(kpl c.kw ms,fY hs.length (c.rt hs ms)))=cells.flatMap λx=>(csOf hs ms x).map λc=>(kpl c.kw ms,fY hs.length (c.rt hs ms)):=by rw[List.map_flatMap]
 have g:∀x∈cells,∀c∈x.2,0<=c.2/\c.2<=c.1:=λx J c L=>by have:=(o.kl x J).2.1.2 c L;exact⟨this.lo,this.hi⟩
 have key:∀x∈cells,∀p∈(csOf hs ms x).map (λc=>(kpl c.kw ms,fY hs.length (c.rt hs ms))),p.1=x.1:=λx J p U=>by obtain⟨c,L,rfl⟩:=zzf.mp U;exact(wT o J L).2.2.2
 have up:(cells.map (·.1)).Pairwise λa b=>ltI a b=true:=by rw[List.pairwise_map,zyr];intro i j l C M;have:=o.up i j cells[i] cells[j] M (zzn l) (zzn C);rw[tj _ _ (by rw[(o.kl _ (zyn l)).1,(o.kl _ (zyn C)).1])]at this;exact this
 have T:aP hs.length ((cells.flatMap (csOf hs ms)).map λc=>(kpl c.kw ms,fY hs.length (c.rt hs ms)))=aP hs.length cells:=by
  rw[d];refine mx (λk=>⟨λv=>?_,λv=>?_⟩) λk _=>?_
  ·obtain⟨p,U,rfl⟩:=zzf.mp v;obtain⟨x,J,U⟩:=zxa.mp U;rw[key x J p U];exact zzf.mpr ⟨x,J,rfl⟩
  ·obtain⟨x,J,rfl⟩:=zzf.mp v;obtain⟨c,L,Y⟩:=(o.kl x J).2.2;obtain⟨i,l⟩:=zxP.mp L;obtain⟨I,hi2⟩:=zzy.mp l;have N:i<hs.length:=by rw[←(o.kl x J).2.1.1];exact I
   have m:(hs[i],c)∈hs.zip x.2:=zxP.mpr ⟨i,by rw[zwh];exact⟨zzn N,l⟩⟩;have G:(⟨hs[i],wds ms x.1,numS c.1,numS c.2,c.1.toNat,c.2.toNat⟩:Cs)∈csOf hs ms x:=zzf.mpr ⟨(hs[i],c),zzQ.mpr ⟨m,by simpa using Y⟩,rfl⟩;refine zzf.mpr ⟨_,zxa.mpr ⟨x,J,zzf.mpr ⟨_,G,rfl⟩⟩,?_⟩;exact(wT o J G).2.2.2
  ·unfold sums;apply zzF;intro h u;have u:=zyo.mp u;refine vy _ cells λx J=>⟨key x J,?_⟩;have e:=(o.kl x J).2.1.1;have H:=vx u (kpl (wds ms x.1) ms) hs x.2 0 e.symm (by lia) (λi l=>by rw[qC o.hd l];lia) (g x J);rw[zzk (zzM _),Nat.sub_zero]at H;rw[←H];unfold col csOf;rw[zzo,zzo,zzo];rfl
 unfold gath;rw[T,wL up λp U=>(o.kl p U).2.1.1];exact zxZ.mpr λc L=>triedB_iff.mpr (o.kl c L).2.2
theorem qE{cells:ab (ab Int×Row)}(o:BkT hs ms cells):Fb hs ms (cells.flatMap (csOf hs ms))=.tup [nmD hs ms,.tup [.int hs.length,.tup (ms.map λm=>.int m.2.length),.tup (cells.map ci)]]:=by unfold Fb;rw[zG o]
noncomputable abbrev mkN(ms:ab Mk):ab Int:=ms.map λm=>(m.2.length:Int)
noncomputable abbrev bkB(hs:ab Str)(ms:ab Mk)(cells:ab (ab Int×Row)):Bk:=⟨hs.length,mkN ms,cells⟩
noncomputable abbrev bkD(hs:ab Str)(ms:ab Mk)(cells:ab (ab Int×Row)):D:=.tup [.int hs.length,.tup (ms.map λm=>.int m.2.length),.tup (cells.map ci)]
theorem ID(hs:ab Str)(ms:ab Mk)(cells:ab (ab Int×Row)):bkD hs ms cells=eS (bkB hs ms cells):=by unfold eS ak;rw[zzo];rfl
noncomputable def slS:Str:=Str.ofString "/"
noncomputable def dotS:Str:=Str.ofString "."
theorem szl(h:n<=100000):n<=sizeLine:=zzl h (by decide)
theorem numL{n:Int}(h0:0<=n)(b:Bd m n):(numS n).length<=m+1:=by
 refine PyProof.Rows.toString_length_le h0 (Nat.succ_pos m) ?_;unfold Bd at b;have h1:(2:Nat)^m<=10^m:=Nat.pow_le_pow_left (by decide) m;have i:n.natAbs<10^(m+1):=by lia
 have:(n.natAbs:Int)<((10^(m+1):Nat):Int):=by exact_mod_cast i
 rw[Int.natAbs_of_nonneg h0]at this
 exact_mod_cast this
noncomputable def frT(a b:Int):Str:=numS a++slS++numS b
theorem bz(a b:Str):(a++b).length=a.length+b.length:=by show (a++b).cps.size=_;rw[zyQ,Array.size_append];rfl
def gCT:DSp:=λds Q=>∃c:Int×Int,ds=[aq c]/\(0<=c.1/\0<=c.2/\Bd 1700 c.1/\Bd 1700 c.2)/\Q (.str (frT c.2 c.1))
theorem Ff{a b:Int}(h:0<=a/\0<=b/\Bd 1700 a/\Bd 1700 b):(numS a).length+slS.length<=sizeLine/\(numS a++slS).length+(numS b).length<=sizeLine:=by
 have h1:=numL h.1 h.2.2.1;have h2:=numL h.2.1 h.2.2.2;have h3:slS.length=1:=by decide +kernel
 have h4:=bz (numS a) slS;exact⟨szl (by lia),szl (by lia)⟩
theorem qF(T:Tx K mg):T.qR.Ok P w base CX0 1 (spD K 1 gCT):=by refine fnd ["count"] (λhr _=>(dr (ar bf (ar bf (al dF T.iZ (da1 (dx 0))) ag) (al dF T.iZ (da1 (dx 0)))))) (λds Q hl h=>?_);obtain⟨c,rfl,⟨L,U,i,J⟩,h⟩:=h;obtain⟨Y,j⟩:=Ff ⟨U,L,J,i⟩;exact⟨fQ J (by decide),Y,fQ i (by decide),j,h⟩
def gRT:DSp:=λds Q=>∃a b:Int,ds=[.tup [.int a,.int b]]/\(0<=a/\0<=b/\Bd 1700 a/\Bd 1700 b)/\Q (.str (frT a b))
theorem iM(T:Tx K mg):T.rm.Ok P w base CX0 1 (spD K 1 gRT):=by refine fnd ["ratio"] (λhr _=>(dr (ar bf (ar bf (al dF T.iZ (da1 (dx 0))) ag) (al dF T.iZ (da1 (dx 0)))))) (λds Q hl h=>?_);obtain⟨a,b,rfl,⟨L,U,i,J⟩,h⟩:=h;obtain⟨Y,j⟩:=Ff ⟨L,U,i,J⟩;exact⟨fQ i (by decide),Y,fQ J (by decide),j,h⟩
theorem frW{a b:Int}(i:0<=a)(L:0<=b):Wd (frT a b):=λc J=>by
 unfold frT at J;rw[zyQ,zyQ,zyA,zyA]at J;rcases zzA.mp J with J|J
 ·rcases zzA.mp J with J|J
  ·exact Wd.num i c J
  ·have:∀c∈slS.cps.toList,33<=c/\c<128:=by decide +kernel
   exact this c J
 ·exact Wd.num L c J
def gSN:DSp:=λds Q=>∃(hs:ab Str) (ms:ab Mk) (s:Int) (a b:Nat),ds=[nmD hs ms,.int s,.int a,.int b]/\(a<hs.length/\b<hs.length)/\Q (.str (hs.getD (if s=1 then a else b) Str.empty))
theorem kH{a:Nat}(h:a<hs.length){Q:D->Prop}(q:Q (.str (hs.getD a Str.empty))):opt (atI (hs.map D.str) (a:Int)) Q :=
 au (by lia) (by rw[zzC,zzr,zzn h,zzx,zzn h];rfl) q
theorem tm(T:Tx K mg):T.tJ.Ok P w base CX0 1 (spD K 4 gSN):=by
 refine fnd ["names","number","a","b"] (λL _=>(dr (fm (ah (aW L) (dv 1) ad) (dix (dx 0) (dv 2)) (dix (dx 0) (dv 3))))) (λds Q hl h=>?_);obtain⟨hs,ms,s,a,b,rfl,⟨i,J⟩,h⟩:=h;refine⟨⟨rfl,rfl⟩,?_⟩;refine⟨λe=>?_,λe=>?_⟩
 ·rw[zzk (zzO e)]at h;exact kH i h
 ·rw[zzh (zyg e)]at h;exact kH J h
noncomputable def bH(ws:ab Str)(ps:ab Int):ab Str:=ps.map λp=>ws.getD p.toNat Str.empty
def gNmd:DSp:=λds Q=>∃(ws:ab Str) (ps:ab Int) (sg:Str),ds=[.lst (ws.map .str),ak ps,.str sg]/\(sg.length<=2/\ps.length<=10/\(∀x∈ws,x.length<=8)/\∀p∈ps,0<=p/\p<ws.length)/\Q (.str (Txt.join sg (bH ws ps)))
theorem fE{B:Nat}(h:∀x∈ws,x.length<=B)(i:Nat):(ws.getD i Str.empty).length<=B:=by
 rw[zzx];cases q:ws[i]? with
 |none=>exact zzM _|some y=>exact h y (zyb q)
theorem Fg(T:Tx K mg):T.FB.Ok P w base CX0 1 (spD K 3 gNmd):=by
 refine fnd ["names","places","sign"] (λhr _=>(dr (bW (dv 2) (dfc (ao ["place","names"] [none,some 0] rfl (dN (dv 1)) (dgb 0) ax (dix (dv 1) (dv 0))))))) (λds Q hl h=>?_);obtain⟨ws,ps,sg,rfl,⟨u,o,v,po⟩,h⟩:=h;refine⟨sg,rfl,?_⟩;refine aA (λp=>.str (ws.getD p.toNat Str.empty)) (λi=>∃s,i=[s,.val (.lst (ws.map .str))]) (szl (by lia)) (λp U i Y Z J L=>?_) _ ⟨_,rfl⟩ ?_
 ·obtain⟨s,rfl⟩:=J;obtain⟨l,p1⟩:=po p U;obtain⟨n,rfl⟩:=zyl l;exact Br.t (kH (by lia) (L _ ⟨_,rfl⟩))
 ·refine⟨bH ws ps,⟨by unfold bH;rw[zzo];rfl,cL (B:=8) (λy j=>?_) ?_⟩,h⟩
  ·obtain⟨p,_,rfl⟩:=zzf.mp j;exact fE v _
  ·have:(bH ws ps).length=ps.length:=by unfold bH;rw[zza]
   have:=Nat.mul_le_mul o u;lia
noncomputable def zH:Str:=Str.ofString "none"
noncomputable def allT(ws:ab Str)(sg:Str):Str:=if ws=[] then zH else Txt.join sg ws
def gAon:DSp:=λds Q=>∃(ws:ab Str) (sg:Str),ds=[.lst (ws.map .str),.str sg]/\(sg.length<=2/\ws.length<=100/\∀x∈ws,x.length<=1000)/\Q (.str (allT ws sg))
theorem gL(T:Tx K mg):T.ou.Ok P w base CX0 1 (spD K 2 gAon):=by
 refine fnd ["found","sign"] (λhr _=>(dr (fm (ah ik (dln aX T.bv (dv 0)) ad) (bW (dv 1) (dv 0)) ag))) (λds Q hl h=>?_);obtain⟨ws,sg,rfl,⟨i,J,L⟩,h⟩:=h;unfold allT at h;refine⟨λe=>?_,λe=>?_⟩
 ·have e:0<ws.length:=by have:=zzO e;rw[zza]at this;lia
  rw[zzh (λz=>by rw[z]at e;simp at e)]at h;refine⟨sg,rfl,ws,⟨rfl,cL L ?_⟩,h⟩;have:=Nat.mul_le_mul J i;lia
 ·have e:¬ 0<ws.length:=by have:=zyg e;rw[zza]at this;lia
  rw[zzk (zzH.mp (by lia))]at h;exact h
def gPlc:DSp:=λds Q=>∃(x:Str) (ws:ab Str),ds=[.str x,.lst (ws.map .str)]/\x∈ws/\Q (.int (plc x ws))
theorem iy(T:Tx K mg):T.xg.Ok P w base CX0 1 (spD K 2 gPlc):=by refine fnd ["word","words"] (λhr _=>(aa (dif (ah jp (dv 0) (dv 1) rfl) dnv) (dr (pY eC (dv 1) (dv 0))))) (λds Q hl h=>?_);obtain⟨x,ws,rfl,J,h⟩:=h;refine⟨⟨rfl,dc ws⟩,?_⟩;rw[nU,zzp J];exact Br.f ⟨trivial,⟨rfl,dc ws⟩,plc x ws,nV J,h⟩
def gMnd:DSp:=λds Q=>∃(hs:ab Str) (ms:ab Mk),ds=[nmD hs ms]/\ms.length<=10/\Q (.lst ((ms.map (·.1)).map .str))
theorem gM(T:Tx K mg):T.oE.Ok P w base CX0 1 (spD K 1 gMnd):=by refine fnd ["names"] (λhr _=>(dr (dfc (ao ["name","kinds"] [none,none] rfl (aB (dx 0)) (dg2 0 1) ax (dv 0))))) (λds Q hl h=>?_);obtain⟨hs,ms,rfl,ml,h⟩:=h;refine aA (D.str ∘ (·.1)) (λi=>∃a b,i=[a,b]) (szl (by lia)) (λm _ i Y Z J L=>?_) _ ⟨_,_,rfl⟩ (by rw[←zzo];exact h);obtain⟨a,b,rfl⟩:=J;exact⟨rfl,Br.t (L _ ⟨_,_,rfl⟩)⟩
def gSmk:DSp:=λds Q=>∃(hs:ab Str) (ms:ab Mk) (ws:ab Str),ds=[nmD hs ms,.lst (ws.map .str)]/\(ms.length<=10/\ws.length<=100/\∀x∈ws,x∈ms.map (·.1))/\Q (ak (ws.map λx=>(plc x (ms.map (·.1)):Int)))
theorem qG(T:Tx K mg):T.qP.Ok P w base CX0 2 (spD K 2 gSmk):=by refine fnd ["names","words"] (λJ _=>(dr (al bM T.cz (da1 (dfc (ao ["word","names"] [none,some 0] rfl (aB (dv 1)) (dgb 0) ax (dcl (iy T) J (ac (dv 0) (da1 (dcl (gM T) J (a1 1))))))))))) (λds Q hl h=>?_);obtain⟨hs,ms,ws,rfl,⟨l,wl,o⟩,h⟩:=h;unfold ak at h;rw[zzo]at h;refine aA (λx=>.int (plc x (ms.map Prod.fst):Nat)) (λi=>∃s,i=[s,.val (nmD hs ms)]) (szl (by lia)) (λx j i Y Z L U=>?_) _ ⟨_,rfl⟩ h;obtain⟨s,rfl⟩:=L;exact Br.t ⟨rfl,hs,ms,rfl,l,rfl,x,ms.map (·.1),rfl,o x j,U _ ⟨_,rfl⟩⟩
noncomputable def Ky:Str:=Str.ofString "show"
noncomputable def Kz:Str:=Str.ofString "whole"
noncomputable def turnS:Str:=Str.ofString "turn"
noncomputable def pushS:Str:=Str.ofString "push"
noncomputable def marsS:Str:=Str.ofString "marks"
noncomputable def cM:Str:=Str.ofString "turned"
noncomputable def lC:Str:=Str.ofString "kept"
noncomputable def canS:Str:=Str.ofString "can "
noncomputable def mD:Str:=Str.ofString "never"
theorem s0(x:String)(h:PyData.strOk (Str.ofString x)=true:=by decide +kernel):shp (.str (Str.ofString x))=true:=db h
def gTf:DSp:=λds Q=>∃(b:Bk) (i:ab Int) (x y:Int),ds=[eS b,ak i,.int x,.int y]/\(BkOk b/\b.cells≠[]/\SoOk b i/\AbOk b.m x y)/\Q (.lst ((tblB b i).map rowD))
theorem tq(T:Tx K mg):T.tQ.Ok P w base CX0 7 (spD K 4 gTf):=by
 refine fnd ["book","some","a","b","table"] (λL _=>(aa (dE (dcl (dw T) L (ac (dx 0) (a2 2 3)))) (aa (dse 4 (dcl (ir T) L (a2 0 1))) (aa (dif (ah (aW L) (dln aX T.bv (dv 4)) ad) dnv) (dr (dv 4)))))) (λds Q hl h=>?_);obtain⟨b,i,x,y,rfl,⟨Y,j,U,J⟩,h⟩:=h;refine⟨rfl,⟨J.a0,J.a1,J.b0,J.b1,J.ne⟩,rfl,b,i,rfl,Y,U,⟨rfl,rfl⟩,?_⟩;have l:=dS Y j i;show Br (eqD (.int ((((tblB b i).map rowD).length:Nat):Int)) (.int 0)) _ _;rw[aK,zzv]
 ·exact Br.f h
 ·have:=l.p1;rw[zza];lia
noncomputable def kJ(hs:ab Str)(a b:Nat):D->Str
 |.tup (.str w :: .int s::_)=>if w=cM∨w=lC then w++spS++hs.getD (if s=1 then a else b) Str.empty else w
 |_=>Str.empty
theorem Fh(J:ab D)(x:D):∃(w:Str) (s:Int) (r:ab D),bY J x=.tup (.str w :: .int s::r)/\(w=cM∨w=lC∨w=Str.ofString "open" ∨ w=Str.ofString "apart"):=by
 have i:∀s,∃(w:Str) (s':Int) (r:ab D),tkT s x=.tup (.str w :: .int s'::r)/\(w=cM∨w=lC∨w=Str.ofString "open" ∨ w=Str.ofString "apart"):=λs=>by
  unfold tkT;split
  ·exact⟨_,_,_,rfl,.inr (.inl rfl)⟩
  ·exact⟨_,_,_,rfl,.inl rfl⟩
 unfold bY;split
 ·exact i 1
 ·split
  ·exact i (-1)
  ·split
   ·exact⟨_,_,_,rfl,.inr (.inr (.inl rfl))⟩
   ·exact⟨_,_,_,rfl,.inr (.inr (.inr rfl))⟩
def vz(cs ds:Row)(z:Str):Prop:=if shQ (at_ cs (aY cs).1)<shQ (at_ ds (aY ds).2) then ∃r,Wd r/\r.length<=10000/\z=canS++r else z=mD
def gTa:DSp:=λds Q=>∃(hs:ab Str) (ms:ab Mk) (t:ab Row) (x y:Int),(Tbl hs.length t/\AbOk hs.length x y/\∀n∈hs,n.length<=8) /\
 ((ds=[nmD hs ms,.str turnS,.lst (t.map rowD),.int x,.int y]/\Q (.str (kJ hs x.toNat y.toNat (bY (told t x.toNat y.toNat) (cH t x.toNat y.toNat))))) ∨
  (ds=[nmD hs ms,.str pushS,.lst (t.map rowD),.int x,.int y]/\((sumP (col t x.toNat)).1≠0/\(sumP (col t y.toNat)).1≠0)/\∀z,vz (col t x.toNat) (col t y.toNat) z->Q (.str z)))
theorem lvl0{lead:Rat}(h:0<q):0<=lvl lead q:=by
 unfold lvl;split
 ·rename_i z;have i:0<lead+q:=by grind
  have j:0<(lead+q)⁻¹:=Rat.inv_pos.mpr i;have:0<=lead*(lead+q)⁻¹:=Rat.mul_nonneg (Rat.le_of_lt z) (Rat.le_of_lt j);exact this
 ·exact zxX
theorem lD(T:Tx K mg):T.lI.Ok P w base CX0 7 (spD K 5 gTa):=by
 refine fnd ["names","word","table","a","b","told"] (λU _=>(aa (dif (ah (aW U) (dv 1) ag) dnv) (aa (dif (ah (aW U) (dv 1) ag) (aa (dse 5 (dcl (kx T) U (a3 2 3 4))) (aa (dir (PWD.pt (gv (ah (aW U) (dx 5) ag) (dM (ah (aW U) (dx 5) ag)))) (ar bf (ar bf (dx 5) ag) (dcl (tm T) U (ac (dv 0) (ac (dx 5) (a2 3 4)))))) (dr (dx 5))))) (aa (dif (ah (aW U) (dv 1) ag) (aa (dse 5 (dcl (Im T) U (a3 2 3 4))) (dr (fm (ah (aW U) (dx 5) ag) ag (ar bf ag (dcl (iM T) U (da1 (dx 5)))))))) (aa nz (dr (fm (ah (aW U) (dx 5) ag) ag (ar bf ag (dcl (iM T) U (da1 (dx 5))))))))))) (λds Q hl h=>?_);obtain⟨hs,ms,t,x,y,⟨l,J,nl⟩,h⟩:=h;have N:=s0 "gap";have u:=s0 "turn";have Y:=s0 "push";rcases h with ⟨rfl,h⟩|⟨rfl,⟨G,H⟩,h⟩
 ·refine⟨⟨u,N⟩,?_⟩;show Br (eqD (.str turnS) (.str (Str.ofString "gap"))) _ _;rw[bq,show decide (turnS=Str.ofString "gap")=false by decide +kernel];refine Br.f ⟨⟨u,u⟩,?_⟩;show Br (eqD (.str turnS) (.str (Str.ofString "turn"))) _ _;rw[bq,show decide (turnS=Str.ofString "turn")=true by decide +kernel];refine Br.t ⟨rfl,hs.length,t,rfl,l,⟨J.a0,J.a1,J.b0,J.b1,J.ne⟩,?_⟩;obtain⟨L,s',r,p,s⟩:=Fh (told t x.toNat y.toNat) (cH t x.toNat y.toNat);obtain⟨a,rfl⟩:=zyl J.a0;obtain⟨b,rfl⟩:=zyl J.b0;have a1:=J.a1;have b1:=J.b1;rw[p]at h ⊢;change Q (.str (if L=cM∨L=lC then L++spS++hs.getD (if s'=1 then a else b) Str.empty else L)) at h;have sw:shp (.str L)=true/\L.length<=6:=by
   rcases s with rfl|rfl|rfl|rfl
   ·exact⟨s0 "turned",by decide +kernel⟩
   ·exact⟨s0 "kept",by decide +kernel⟩
   ·exact⟨s0 "open",by decide +kernel⟩
   ·exact⟨s0 "apart",by decide +kernel⟩
  have e1:spS.length=1:=by decide +kernel
  have e2:=bz L spS;have go:∀{Q':D->Prop},Q' (.str (L++spS++hs.getD (if s'=1 then a else b) Str.empty))->L.length+spS.length<=sizeLine/\gSN [nmD hs ms,.int s',.int a,.int b] λd=>g2S (λi j=>i.length+j.length<=sizeLine) (λi j=>.str (i++j)) (.str (L++spS)) d Q':=λq=>by refine⟨szl (by lia),hs,ms,s',a,b,rfl,⟨by lia,by lia⟩,szl ?_,q⟩;have:=fE nl (if s'=1 then a else b);lia
  refine au (d:=.str L) (zzN 0) rfl ⟨⟨sw.1,s0 "turned"⟩,?_⟩;show Br (eqD (.str L) (.str cM)) _ _;rw[bq];refine⟨λz=>?_,λz=>?_⟩
  ·rw[zzk (.inl (zzO z))]at h;obtain⟨g1,g2⟩:=go h;exact Br.t (au (d:=.str L) (zzN 0) rfl ⟨g1,au (d:=.int s') (by decide) rfl ⟨rfl,g2⟩⟩)
  ·refine au (d:=.str L) (zzN 0) rfl ⟨⟨sw.1,s0 "kept"⟩,?_⟩;show Br (eqD (.str L) (.str lC)) _ _;rw[bq];refine⟨λM=>?_,λM=>?_⟩
   ·rw[zzk (.inr (zzO M))]at h;obtain⟨g1,g2⟩:=go h;exact au (d:=.str L) (zzN 0) rfl ⟨g1,au (d:=.int s') (by decide) rfl ⟨rfl,g2⟩⟩
   ·rw[zzh (λq=>q.elim (zyg z) (zyg M))]at h;exact au (d:=.str L) (zzN 0) rfl h
 ·refine⟨⟨Y,N⟩,?_⟩;show Br (eqD (.str pushS) (.str (Str.ofString "gap"))) _ _;rw[bq,show decide (pushS=Str.ofString "gap")=false by decide +kernel];refine Br.f ⟨⟨Y,u⟩,?_⟩;show Br (eqD (.str pushS) (.str (Str.ofString "turn"))) _ _;rw[bq,show decide (pushS=Str.ofString "turn")=false by decide +kernel];refine Br.f ⟨⟨Y,Y⟩,?_⟩;show Br (eqD (.str pushS) (.str (Str.ofString "push"))) _ _;rw[bq,show decide (pushS=Str.ofString "push")=true by decide +kernel];refine Br.t ⟨rfl,hs.length,t,rfl,l,⟨J.a0,J.a1⟩,⟨J.b0,J.b1⟩,J.ne,G,H,?_⟩;have g:=fX l (h:=x.toNat) (by have:=J.a0;have:=J.a1;lia);have k:=fX l (h:=y.toNat) (by have:=J.b0;have:=J.b1;lia);have m:=(kB g (gI G)).1;have n:=(kB k (gI H)).2;have E:=wQ_B l J.a0 J.a1 G;have wb:=wQ_B l J.b0 J.b1 H;unfold vz at h;unfold EY;by_cases z:shQ (at_ (col t x.toNat) (aY (col t x.toNat)).1)<shQ (at_ (col t y.toNat) (aY (col t y.toNat)).2)
  ·rw[zzk z];simp only[zzk z]at h;have B:0<shQ (at_ (col t y.toNat) (aY (col t y.toNat)).2) - shQ (at_ (col t x.toNat) (aY (col t x.toNat)).1):=by grind
   have A:=n.2.sub m.2;have e:=E.sub wb;have o:QB 1700 (lvl (wQ t x - wQ t y) (shQ (at_ (col t y.toNat) (aY (col t y.toNat)).2) - shQ (at_ (col t x.toNat) (aY (col t x.toNat)).1))):=by
    unfold lvl;split
    ·rename_i q;exact(e.div (e.add A) (by grind)).mono (by decide)
    ·exact q0B
   have c:=lvl0 (lead:=wQ t x - wQ t y) B;generalize lvl (wQ t x - wQ t y) _=v at o c;have I:0<=v.num:=Rat.num_nonneg.mpr c;have C:=den_pos v;refine⟨⟨s0 "can",s0 "never"⟩,?_⟩;show Br (eqD (.str (Str.ofString "can")) (.str (Str.ofString "never"))) _ _;rw[bq,show decide (Str.ofString "can" = Str.ofString "never")=false by decide +kernel];have fl:(frT v.num (v.den:Int)).length<=5000:=by
    unfold frT;rw[bz,bz];have h1:=numL I o.nu;have h2:=numL (zwG C) o.de;have h3:slS.length=1:=by decide +kernel
    lia
   refine Br.f ⟨rfl,v.num,(v.den:Int),rfl,⟨I,zwG C,o.nu,o.de⟩,szl ?_,h _ ⟨_,frW I (zwG C),by lia,rfl⟩⟩;have h4:(Str.ofString "can ").length=4:=by decide +kernel
   lia
  ·rw[zzh z];simp only[zzh z]at h;refine⟨⟨s0 "never",s0 "never"⟩,?_⟩;show Br (eqD (.str (Str.ofString "never")) (.str (Str.ofString "never"))) _ _;rw[bq,zzp rfl];exact Br.t (h _ rfl)
theorem CW{k:Str}{i:PyData}(h:PyProof.Rows.KTD.datumAt k dP=some (.tup [.int s,i])):PyProof.Rows.KTD.inKeys k dP=true:=by rw[←PyProof.Rows.KTD.isSome_datumAt,h];rfl
def gHrl:DSp:=λds Q=>∃(k:Str) (r:ab Str) (lo:Int) (i:PyData),ds=[.lst ((k::r).map .str)]/\PyProof.Rows.KTD.datumAt k dP=some (.tup [.int lo,i])/\(lo<=r.length+1/\(i=.none∨i=.int (r.length+1)))/\Q (.bl true)
theorem gN(T:Tx K mg):T.gR.Ok P w base CX0 1 (spD K 1 gHrl):=by
 refine fnd ["words","bounds"] (λhr _=>(aa (dse 1 (Bp rfl rfl rfl T.mJ (dx 0) (λ_ _=>rfl))) (dr (gx (cE iW (yZ rfl (dv 1) ad (λ_ _=>rfl)) (dln aX T.bv (dv 0))) (gw (GX (cE uJ (yZ rfl (dv 1) ad (λ_ _=>rfl)) dn) (gw (cE iW (dln aX T.bv (dv 0)) (yZ rfl (dv 1) ad (λ_ _=>rfl)))))))))) (λds Q hl h=>?_);obtain⟨k,r,lo,hi,rfl,L,⟨j,l⟩,h⟩:=h;have J:((((k::r).map D.str).length:Nat):Int)=r.length+1:=by rw[zza,zzu];lia
 refine au (zzN 0) rfl ⟨k,_,_,rfl,T.mK,CW L,L,by simp,λt i=>?_⟩;refine⟨_,.int lo,_,i,rfl,rfl,?_⟩;show Br (decide (lo<=((((k::r).map D.str).length:Nat):Int))) _ _;rw[J,zzp j];rcases l with rfl|rfl
 ·exact Br.t ⟨_,.none,_,i,rfl,rfl,Br.t h⟩
 ·refine Br.t ⟨_,.int (r.length+1),_,i,rfl,rfl,Br.f ⟨_,.int (r.length+1),_,i,rfl,rfl,?_⟩⟩;show Q (.bl (decide (((((k::r).map D.str).length:Nat):Int)<=(r.length:Int)+1)));rw[J,zzp (zzN _)];exact h
structure DkOk(hs:List Str)(ms:List Mk)(cells:List (List Int×Row)):Prop where
 t:BkT hs ms cells
 ne:cells≠[]
theorem Fi{cells:ab (ab Int×Row)}(o:BkT hs ms cells):BkOk (bkB hs ms cells) :=
 ⟨o.h2,o.h6,by show (mkN ms).length<=5;rw[zza];exact o.m5,by show cells.length<=60;have:=o.c7;lia,λc J=>⟨by show c.1.length=(mkN ms).length;rw[zza];exact(o.kl c J).1,⟨(o.kl c J).2.1.1,λx L=>((o.kl c J).2.1.2 x L).mono (by decide)⟩,(o.kl c J).2.2⟩⟩
def Fj(hs:ab Str)(ms:ab Mk)(cells:ab (ab Int×Row))(ws:ab Str)(Q:Str->Prop):Prop :=
 (ws=[Ky]/\Q (fP hs ms cells)) ∨
 (ws=[Kz]/\Q (Txt.join spS ((sums (cells.map (·.2)) hs.length).map λc=>frT c.2 c.1))) ∨
 ∃(a b:Nat) (i:ab Int),(AbOk hs.length (a:Int) (b:Int)/\SoOk (bkB hs ms cells) i) /\
  ((ws=turnS::hs.getD a Str.empty::hs.getD b Str.empty::bH (ms.map (·.1)) i/\Q (kJ hs a b (trnB (bkB hs ms cells) a b i))) ∨
   (ws=pushS::hs.getD a Str.empty::hs.getD b Str.empty::bH (ms.map (·.1)) i/\((sumP (col (tblB (bkB hs ms cells) i) a)).1≠0/\(sumP (col (tblB (bkB hs ms cells) i) b)).1≠0)/\∀z,vz (col (tblB (bkB hs ms cells) i) a) (col (tblB (bkB hs ms cells) i) b) z->Q z) ∨
   (ws=[marsS,hs.getD a Str.empty,hs.getD b Str.empty]/\Q (allT ((tby (bkB hs ms cells) a b).map λp=>Txt.join dotS (bH (ms.map (·.1)) p)) spS)))
def gAns:DSp:=λds Q=>∃(hs:ab Str) (ms:ab Mk) (i:ab (ab Int×Row)) (ws:ab Str),ds=[nmD hs ms,bkD hs ms i,.lst (ws.map .str)]/\DkOk hs ms i/\Fj hs ms i ws λz=>Q (.str z)
def IE:DSp:=λds Q=>∃b:Bk,ds=[eS b]/\BkOk b/\Q (rowD (sums (b.cells.map (·.2)) b.m))
theorem wU(T:Tx K mg):T.xk.Ok P w base CX0 3 (spD K 1 IE):=by
 refine fnd ["book"] (λL _=>(dr (dcl (bP T) L (ac (dx 0) (da1 (dfc (ao ["cell"] [none] rfl (dN (dx 0)) (dgb 0) ax (dx 0)))))))) (λds Q hl h=>?_);obtain⟨b,rfl,J,h⟩:=h;refine aA (rowD ∘ (·.2)) (λi=>∃s,i=[s]) (zzl J.c60 (by decide)) (λc _ i Y Z U j=>?_) _ ⟨_,rfl⟩ ?_
 ·obtain⟨s,rfl⟩:=U;exact Br.t (j _ ⟨_,rfl⟩)
 ·rw[←zzo];refine⟨rfl,b.m,_,rfl,rfl,⟨J.m6,by rw[zza];exact zzl J.c60 (by decide),λr L=>?_⟩,h⟩;obtain⟨c,l,rfl⟩:=zzf.mp L;exact(J.it c l).2.1.up
theorem sk{i:Nat}{W s:Str}{ws:ab D}{t r:DTS}{ρ:DS}(hs:slot ρ i=.val (.lst (.str W::ws)))(J:shp (.str W)=true)(j:shp (.str s)=true)(ne:W≠s)(q:r E ρ) :
  dSeq (dIfS (dB (dOp (gEq false) (dOp gIx (dVar i) (dC (.int 0))) (dC (.str s)))) t rX) r E ρ:=by
 show Eg i ρ _ (slot ρ i);rw[hs];refine au (zzN 0) rfl ⟨⟨J,j⟩,?_⟩;rw[bq,zzv ne];exact Br.f q
theorem hit{i:Nat}{W:Str}{ws:ab D}{t r:DTS}{E:DEnds}{ρ:DS}(hs:slot ρ i=.val (.lst (.str W::ws)))(J:shp (.str W)=true)(q:t {E with nx:=r E} ρ) :
  dSeq (dIfS (dB (dOp (gEq false) (dOp gIx (dVar i) (dC (.int 0))) (dC (.str W)))) t rX) r E ρ:=by
 show Eg i ρ _ (slot ρ i);rw[hs];refine au (zzN 0) rfl ⟨⟨J,J⟩,?_⟩;rw[bq,zzp rfl];exact Br.t q
theorem eF(h:a<hs.length):hs.getD a Str.empty∈hs:=by rw[zzx,zzn h];exact zyn h
theorem nZ(i:hs.Nodup)(h:a<hs.length):plc (hs.getD a Str.empty) hs=a:=by rw[zzx,zzn h];exact qC i h
theorem Fk{ws:ab Str}(i:ws.Nodup)(h:∀x∈k,0<=x/\x<ws.length):(bH ws k).map (λx=>(plc x ws:Int))=k:=by
 unfold bH;rw[zzo]
 conv=>rhs;rw[←zwR k]
 refine zzF λx J=>?_;obtain⟨h0,h1⟩:=h x J;show ((plc (ws.getD x.toNat Str.empty) ws:Nat):Int)=x;rw[nZ i (by lia)];lia
theorem BI(T:Tx K mg):T.BY.Ok P w base CX0 9 (spD K 3 gAns):=by
 refine fnd ["names","book","words","found","a","b","some"] (λJ _=>(aa (dir (ah (aW J) (dx 2) ag) (dcl (Iz T) J (a2 0 1))) (aa (dir (ah (aW J) (dx 2) ag) (bW ag (dfc (ao ["count"] [none] rfl (dN (dcl (wU T) J (a1 1))) (dgb 0) ax (dcl (qF T) J (a1 0)))))) (aa (dif (ah (aW J) (dx 2) ag) (aa nz (dr (dcl (gL T) J (ac (dv 3) (da1 ag)))))) (aa (dif (ah (aW J) (dx 2) ag) dnv) (aa (dse 4 (dcl (iy T) J (ac (dx 2) (da1 (dx 0))))) (aa (dse 5 (dcl (iy T) J (ac (dx 2) (da1 (dx 0))))) (aa (dse 6 (dcl (qG T) J (ac (dv 0) (da1 (aE (gE (dv 2) (cJ ad) eA)))))) (aa (dif (ah (aW J) (dx 2) ag) dnv) (aa (dif (ah (aW J) (dx 2) ag) (aa (eB 3 (ao ["marks","names"] [none,some 0] rfl (aB (dcl (sQ T) J (a3 1 4 5))) (dgb 0) ax (dcl (Fg T) J (ac (dcl (gM T) J (a1 1)) (ac (dv 0) (da1 ag)))))) (dr (dcl (gL T) J (ac (dv 3) (da1 ag)))))) (aa (dif (ah (aW J) (dx 2) ag) dnv) (dr (dcl (lD T) J (ac (dv 0) (ac (dx 2) (ac (dcl (tq T) J (ac (dv 1) (a3 6 4 5))) (a2 4 5))))))))))))))))) (λds Q hl h=>?_);obtain⟨hs,ms,i,ws,rfl,⟨o,cn⟩,h⟩:=h;have U:=Fi o;have A:=ID hs ms i;have h6:=o.h6;have m5:=o.m5;rcases h with ⟨rfl,h⟩|⟨rfl,h⟩|⟨a,b,j,⟨v,N⟩,h⟩
 ·exact hit rfl (s0 "show") ⟨rfl,hs,ms,i,_,_,rfl,o.sh,h⟩
 ·refine sk rfl (s0 "whole") (s0 "show") (by decide +kernel) (hit rfl (s0 "whole") ?_);refine⟨spS,rfl,rfl,bkB hs ms i,by rw[←A],U,?_⟩;have rn:RowN 200 hs.length (sums (i.map (·.2)) hs.length):=zo (λr J=>by
   obtain⟨c,C,rfl⟩:=zzf.mp J;exact(U.it c C).2.1) (by rw[zza];exact U.c60)
  have cb:∀c∈sums (i.map (·.2)) hs.length,0<=c.1/\0<=c.2/\Bd 1700 c.1/\Bd 1700 c.2/\(frT c.2 c.1).length<=500:=λc C=>by
   have cn:=rn.2 c C;have lo:=cn.lo;have hi:=cn.hi;refine⟨by lia,lo,cn.bt.mono (by decide),cn.bw.mono (by decide),?_⟩;unfold frT;rw[bz,bz];have k:=numL lo cn.bw;have h2:=numL (n:=c.1) (by lia) cn.bt;have h3:slS.length=1:=by decide +kernel
   lia
  have rl:(sums (i.map (·.2)) hs.length).length=hs.length:=rn.1;refine aA (λc=>.str (frT c.2 c.1)) (λI=>∃s,I=[s]) (szl (by show (sums (i.map (·.2)) hs.length).length<=_;lia)) (λc C I Y Z M hY=>?_) _ ⟨_,rfl⟩ ?_
  ·obtain⟨s,rfl⟩:=M;obtain⟨g,b2,b3,b4,_⟩:=cb c C;exact Br.t ⟨rfl,c,rfl,⟨g,b2,b3,b4⟩,hY _ ⟨_,rfl⟩⟩
  ·refine⟨_,⟨by rw[zzo];rfl,cL (B:=500) (λy hy=>?_) ?_⟩,h⟩
   ·obtain⟨c,C,rfl⟩:=zzf.mp hy;exact(cb c C).2.2.2.2
   ·have e:spS.length=1:=by decide +kernel
    rw[zza,e,rl];lia
 ·have a1:a<hs.length:=by have:=v.a1;lia
  have g:b<hs.length:=by have:=v.b1;lia
  have sl:j.length<=5:=N.len;have si:∀x∈j,0<=x/\x<(ms.map (·.1)).length:=λx L=>by have:=N.it x L;have e:(bkB hs ms i).marks.length=ms.length:=zza _;rw[e]at this;rw[zza];exact this
  have a7:∀x∈bH (ms.map (·.1)) j,x∈ms.map (·.1):=λx L=>by obtain⟨p,l,rfl⟩:=zzf.mp L;have:=si p l;exact eF (by lia)
  have pn:=Fk o.md si;have nl:∀n∈hs,n.length<=8:=λn hn=>(bC (o.hn n hn)).2;have cut:∀w:Str,cutD ((w::hs.getD a Str.empty::hs.getD b Str.empty::bH (ms.map (·.1)) j).map D.str) (some 3) none=(bH (ms.map (·.1)) j).map D.str:=λw=>cR D.str 3 _ (by simp);have a5:(bH (ms.map (·.1)) j).length<=5:=by unfold bH;rw[zza];exact sl
  have tb:=dS U cn j;have go:∀(w:Str) (xs:ab Str) (ps:ab Int) (R:DTS) (E:DEnds),(∀x∈xs,x∈ms.map (·.1))->xs.length<=5->xs.map (λx=>(plc x (ms.map (·.1)):Int))=ps ->
    R E [.val (nmD hs ms),.val (bkD hs ms i),.val (.lst ((w::hs.getD a Str.empty::hs.getD b Str.empty::xs).map .str)),.nil,.val (.int a),.val (.int b),.val (ak ps)] ->
    dSeq (dSet 4 (rW 2 gPlc (aF (dOp gIx (dVar 2) (dC (.int 1))) (aF (dOp gIx (dVar 0) (dC (.int 0))) cF)))) (dSeq (dSet 5 (rW 2 gPlc (aF (dOp gIx (dVar 2) (dC (.int 2))) (aF (dOp gIx (dVar 0) (dC (.int 0))) cF)))) (dSeq (dSet 6 (rW 2 gSmk (aF (dVar 0) (aF (dFrz (dSlL (dVar 2) (yM (dC (.int 3))) Cm)) cF)))) R)) E
     [.val (nmD hs ms),.val (bkD hs ms i),.val (.lst ((w::hs.getD a Str.empty::hs.getD b Str.empty::xs).map .str)),.nil,.nil,.nil,.nil]:=λw xs ps R E k h2 h3 q=>by
   refine au (d:=.str (hs.getD a Str.empty)) (by decide) rfl ⟨rfl,_,hs,rfl,eF a1,?_⟩;rw[nZ o.hd a1];refine au (d:=.str (hs.getD b Str.empty)) (by decide) rfl ⟨rfl,_,hs,rfl,eF g,?_⟩;rw[nZ o.hd g];have cut:cutD ((w::hs.getD a Str.empty::hs.getD b Str.empty::xs).map D.str) (some 3) none=xs.map D.str:=cR D.str 3 _ (by simp);refine⟨rfl,hs,ms,xs,congrArg (λz=>[nmD hs ms,D.lst z]) cut,⟨by lia,by lia,k⟩,?_⟩;rw[h3];exact q
  have a5:(bH (ms.map (·.1)) j).length<=5:=by unfold bH;rw[zza];exact sl
  have tb:=dS U cn j;rcases h with ⟨rfl,h⟩|⟨rfl,hw,h⟩|⟨rfl,h⟩
  ·refine sk rfl (s0 "turn") (s0 "show") (by decide +kernel) (sk rfl (s0 "turn") (s0 "whole") (by decide +kernel) (sk rfl (s0 "turn") (s0 "ranks") (by decide +kernel) (sk rfl (s0 "turn") (s0 "parts") (by decide +kernel) ?_)));refine go turnS _ j _ _ a7 a5 pn ?_;refine sk rfl (s0 "turn") (s0 "knots") (by decide +kernel) (sk rfl (s0 "turn") (s0 "marks") (by decide +kernel) (sk rfl (s0 "turn") (s0 "few") (by decide +kernel) ?_));refine au (d:=.str turnS) (zzN 0) rfl ⟨rfl,bkB hs ms i,j,a,b,by rw[←A],⟨U,cn,N,v⟩,?_⟩;exact⟨rfl,hs,ms,tblB (bkB hs ms i) j,a,b,⟨tb,v,nl⟩,.inl ⟨rfl,h⟩⟩
  ·refine sk rfl (s0 "push") (s0 "show") (by decide +kernel) (sk rfl (s0 "push") (s0 "whole") (by decide +kernel) (sk rfl (s0 "push") (s0 "ranks") (by decide +kernel) (sk rfl (s0 "push") (s0 "parts") (by decide +kernel) ?_)));refine go pushS _ j _ _ a7 a5 pn ?_;refine sk rfl (s0 "push") (s0 "knots") (by decide +kernel) (sk rfl (s0 "push") (s0 "marks") (by decide +kernel) (sk rfl (s0 "push") (s0 "few") (by decide +kernel) ?_));refine au (d:=.str pushS) (zzN 0) rfl ⟨rfl,bkB hs ms i,j,a,b,by rw[←A],⟨U,cn,N,v⟩,?_⟩;exact⟨rfl,hs,ms,tblB (bkB hs ms i) j,a,b,⟨tb,v,nl⟩,.inr ⟨rfl,hw,h⟩⟩
  ·refine sk rfl (s0 "marks") (s0 "show") (by decide +kernel) (sk rfl (s0 "marks") (s0 "whole") (by decide +kernel) (sk rfl (s0 "marks") (s0 "ranks") (by decide +kernel) (sk rfl (s0 "marks") (s0 "parts") (by decide +kernel) ?_)));refine go marsS [] [] _ _ (λx L=>by simp at L) (by simp) rfl ?_;refine sk rfl (s0 "marks") (s0 "knots") (by decide +kernel) (hit rfl (s0 "marks") ?_);refine⟨rfl,bkB hs ms i,a,b,by rw[←A],U,v,?_⟩;have ml:((bkB hs ms i).marks.length:Nat)=ms.length:=zza _;have tl:(tby (bkB hs ms i) a b).length<=31:=by
    unfold tby;rw[zzh cn];exact zzl (zyk _ _) (dR _ U.mk5 _ (by rw[ml];lia))
   have tok:∀p∈tby (bkB hs ms i) a b,p.length<=5/\∀x∈p,0<=x/\x<(ms.map (·.1)).length:=λp l=>by unfold tby at l;rw[zzh cn]at l;have:=vh U.mk5 (show (bkB hs ms i).marks.length+1<=6 by rw[ml];lia) (zzQ.mp l).1;refine⟨this.1,λx L=>?_⟩;have:=this.2.1 x L;rw[ml]at this;rw[zza];exact this
   have a6:∀x∈ms.map (·.1),x.length<=8:=λx L=>by obtain⟨m,hm,rfl⟩:=zzf.mp L;exact(bC (o.mn m hm).1).2
   have e1:dotS.length=1:=by decide +kernel
   refine aH (λpre a4 I=>∃G H:ab (ab Int),tby (bkB hs ms i) a b=G++H/\pre=G.map ak/\a4=(G.map λp=>Txt.join dotS (bH (ms.map (·.1)) p)).map D.str/\∃s,I=[s,.val (nmD hs ms)]) (λa4 I M=>?_) (λpre d post a4 I Y e M hY=>?_) _ ⟨[],_,rfl,rfl,rfl,_,rfl⟩
   ·obtain⟨G,H,u,e3,rfl,_⟩:=M;have:H=[]:=by
     have:=congrArg List.length e3;rw[zzC,zzC,u]at this;simp at this;exact this
    subst this;rw[zzs]at u;rw[u]at h tl tok;refine⟨rfl,_,spS,rfl,⟨by decide +kernel,by rw[zza];lia,λx L=>?_⟩,h⟩;obtain⟨p,l,rfl⟩:=zzf.mp L;have k:=zxC dotS (bH (ms.map (·.1)) p);have h2:=zwr (bH (ms.map (·.1)) p) (B:=8) λy hy=>by obtain⟨q,_,rfl⟩:=zzf.mp hy;exact fE a6 _
    have h3:(bH (ms.map (·.1)) p).length<=5:=by unfold bH;rw[zza];exact(tok p l).1
    have e4:Txt.join dotS (bH (ms.map (·.1)) p)=Str.join dotS (bH (ms.map (·.1)) p):=zzU ..;rw[e4];rw[e1]at k;lia
   ·obtain⟨G,H,u,rfl,rfl,s,rfl⟩:=M;rw[zzC,zzC,u,zzc]at e;have e:=zzz e;cases H with
    |nil=>simp at e|cons p H =>
     rw[zzj]at e;injection e with e4 e5;subst e4;have l:=tok p (by rw[u];simp);refine Br.t ⟨rfl,hs,ms,rfl,by lia,rfl,ms.map (·.1),p,dotS,rfl,⟨by lia,by lia,a6,l.2⟩,?_,hY _ _ ⟨G++[p],H,by rw[u];simp,by simp,by simp,_,rfl⟩⟩;rw[u,zzg]at tl;rw[zza,zza];exact zzw (show G.length<=31 by lia) (by decide)
theorem Fl{cells:ab (ab Int×Row)}{Q:Str->Prop}(h:Fj hs ms cells ws Q) :
  ∃(k:Str) (r:ab Str) (lo:Int) (i:PyData),ws=k::r/\(shp (.str k)=true/\k≠Str.ofString "case" /\ k≠Str.ofString "hide" /\ k≠Str.ofString "back")/\PyProof.Rows.KTD.datumAt k dP=some (.tup [.int lo,i])/\(lo<=r.length+1/\(i=.none∨i=.int (r.length+1))):=by
 rcases h with ⟨rfl,_⟩|⟨rfl,_⟩|⟨a,b,so,_,⟨rfl,_⟩|⟨rfl,_⟩|⟨rfl,_⟩⟩
 ·exact⟨_,_,1,.int 1,rfl,⟨s0 "show",by decide +kernel,by decide +kernel,by decide +kernel⟩,rfl,by simp,.inr rfl⟩
 ·exact⟨_,_,1,.int 1,rfl,⟨s0 "whole",by decide +kernel,by decide +kernel,by decide +kernel⟩,rfl,by simp,.inr rfl⟩
 ·exact⟨_,_,3,.none,rfl,⟨s0 "turn",by decide +kernel,by decide +kernel,by decide +kernel⟩,rfl,by simp;lia,.inl rfl⟩
 ·exact⟨_,_,3,.none,rfl,⟨s0 "push",by decide +kernel,by decide +kernel,by decide +kernel⟩,rfl,by simp;lia,.inl rfl⟩
 ·exact⟨_,_,3,.int 3,rfl,⟨s0 "marks",by decide +kernel,by decide +kernel,by decide +kernel⟩,rfl,by simp,.inr rfl⟩
def gSay(C:bn):DSp:=λds Q=>∃(hs:ab Str) (ms:ab Mk) (i:ab (ab Int×Row)) (z:Str),ds=[.ins C ["names","book","past"] [nmD hs ms,bkD hs ms i,.lst []],.str z]/\z.length<=10000/\DkOk hs ms i/\Fj hs ms i (Txt.split z spS) λz=>Q (.str z)
theorem dW(T:Tx K mg):FnOk P w K mg base CX0 10 T.iC T.gf ["self","row"] (spD K 2 (gSay T.az)):=by refine fnD T.xl sK (λJ _=>(aa (dif (cj (bV (aZ pS T.cI rfl (ac (dv 1) (da1 (yD rfl T.iZ rfl)))))) dnv) (aa (dse 2 (aE (gG (dv 1) ag))) (aa (dif (ah (aW J) (dx 2) ag) dnv) (aa (dif (PWD.pt (gv (ah (sF rfl) (dx 2) (Hn rfl T.mJ) rfl) (dM (cj (bV (dcl (gN T) J (a1 2))))))) dnv) (aa (dif (ah (aW J) (dx 2) ag) dnv) (aa (dif (ah (aW J) (dx 2) ag) dnv) (dr (dcl (BI T) J (ac (Cy rfl (dv 0) rfl) (ac (Cy rfl (dv 0) rfl) (a1 2)))))))))))) (λds Q hl h=>?_);obtain⟨hs,ms,i,z,rfl,G,o,h⟩:=h;obtain⟨k,r,lo,j,U,⟨Y,l,u,v⟩,L,C⟩:=Fl h;refine⟨rfl,rfl,Br.f ⟨z,rfl,spS,⟨rfl,by decide +kernel,zzl (zxV G 2) (by decide)⟩,?_⟩⟩;rw[U]at h ⊢;have go:∀(q:Str) (E:DEnds) (t R:DTS),shp (.str q)=true->k≠q->R E [.val (.ins T.az ["names","book","past"] [nmD hs ms,bkD hs ms i,.lst []]),.val (.str z),.val (.lst ((k::r).map .str))]->dSeq (dIfS (dB (dOp (gEq false) (dOp gIx (dVar 2) (dC (D.int 0))) (dC (D.str q)))) t rX) R E [.val (.ins T.az ["names","book","past"] [nmD hs ms,bkD hs ms i,.lst []]),.val (.str z),.val (.lst ((k::r).map .str))]:=λq E t R a b c=>sk rfl Y a b c;refine go _ _ _ _ (s0 "case") l ?_;refine au (zzN 0) rfl ⟨_,T.mK,?_⟩;rw[CW L];refine Br.f ⟨rfl,k,r,lo,j,rfl,L,C,Br.f ?_⟩;refine go _ _ _ _ (s0 "hide") u (go _ _ _ _ (s0 "back") v ?_);exact⟨_,_,_,_,rfl,T.dG,T.gS,rfl,_,_,_,_,rfl,T.dG,T.iP,rfl,rfl,hs,ms,i,k::r,rfl,o,h⟩
def KA:D->(ab D->Prop)->Prop:=λd Q=>Iy [d] λr=>∃J L,r=.tup [J,L]/\Q [J,L,.lst []]
theorem tt(T:Tx K mg):FnOk P w K mg base CX0 6 T.gg T.eZ ["self","text"] (spMk K T.az ["names","book","past"] KA):=by
 refine T.tF.ok (k:=5) sc_Desk_init (λvs H Q E h=>?_) (λcdv A outer s H vs Q E hr h=>?_)
 ·obtain⟨pp,M,d,x,dx,v,_,rfl,_⟩:=h;rfl
 obtain⟨pp,M,d,x,dx,v,_,rfl,⟨hx,y,hp⟩,lv,r,g,kk⟩:=h;refine⟨_,aU (fL (i:=2) sc_Desk_init.nd rfl (by first|exact Or.inl rfl|exact Or.inr rfl) (mR (CQ T) (hr.mono (by decide)) rfl T.vL.d.m T.vL.d.F.kp T.vL.d.b .nil vW (aQ (pv 1) bD)))
  (aU (xE (pv 0) (kZ rQ (pv 2) bA (λ_ _=>rfl)) rfl) (aU (xE (pv 0) (kZ rQ (pv 2) bA (λ_ _=>rfl)) rfl) (dA (xE (pv 0) (ug bD) rfl)))),?_⟩
 refine⟨v,rfl,pp,M,[d],_,lv,.cons r .nil,rfl,g,λ{_ j _} k u N=>?_⟩;obtain⟨d1,d2,rfl,k⟩:=k;have U:j x=some (.ins T.az dx []):=u.keep x _ hx (nw hp);simp only[Rep,Reps]at N;obtain⟨t,_,rfl,ht,v1,_,rfl,N,l,_,rfl,r2,rfl⟩:=N;have nt:∀{c:Hp} {fs:ab (Str×V)},c x=some (.ins T.az dx fs)->∀{xs:ab V},c t=some (.tup xs)->∀C,upd c x (.ins T.az dx C) t=some (.tup xs):=λa xs b C=>by rw[af (by rintro rfl;rw[a]at b;cases b)];exact b
 have a5:=nt U ht [("names",v1)];have m2:Mv K pp M j M (upd j x (.ins T.az dx [("names",v1)])):=.ins U y;have B:upd j x (.ins T.az dx [("names",v1)]) x=some (.ins T.az dx [("names",v1)]):=ae;refine⟨_,rfl,t,_,0,v1,rfl,rfl,ht,rfl,_,rfl,x,_,dx,[],rfl,U,T.dG,T.gS,by decide,?_⟩;refine⟨_,rfl,t,_,1,l,rfl,rfl,a5,rfl,_,rfl,x,_,dx,_,rfl,B,T.dG,T.iP,by simp,?_⟩;have m3:Mv K pp M _ M (upd (upd j x (.ins T.az dx [("names",v1)])) x (.ins T.az dx [("names",v1),("book",l)])):=.ins B y;refine⟨by decide,λp J=>?_⟩;have m4:=Mv.new (K:=K) (pp:=pp) (M:=M) (o:=.lst []) J;have I:x≠p:=by rintro rfl;rw[ae]at J;cases J
 have a4:upd (upd (upd j x (.ins T.az dx [("names",v1)])) x (.ins T.az dx (putF "book" l [("names",v1)]))) p (.lst []) x=some (.ins T.az dx [("names",v1),("book",l)]):=by rw[af I];exact ae
 refine⟨_,rfl,x,_,dx,_,rfl,a4,T.dG,T.qT,by simp,?_⟩;have m5:Mv K pp M _ M (upd (upd (upd (upd j x (.ins T.az dx [("names",v1)])) x (.ins T.az dx (putF "book" l [("names",v1)]))) p (.lst [])) x (.ins T.az dx [("names",v1),("book",l),("past",.ref p)])):=.ins a4 y;have G:=((m2.trans m3).trans m4).trans m5;have Y:j p=none:=by rw[af (Ne.symm I),af (Ne.symm I)]at J;exact J
 have kp:∀b o,b≠x->j b=some o->upd (upd (upd (upd j x (.ins T.az dx [("names",v1)])) x (.ins T.az dx (putF "book" l [("names",v1)]))) p (.lst [])) x (.ins T.az dx [("names",v1),("book",l),("past",.ref p)]) b=some o:=λb o L e=>by rw[af L,af (by rintro rfl;rw[Y]at e;cases e),af L,af L];exact e
 refine kk (fs:=[("names",v1),("book",l),("past",.ref p)]) k (λb o L e n=>kp b o L (u.keep b o e n)) (λq e h=>G.pen q e (u.pen q e h)) (λb hb=>?_) (G.tb (u.tb lv.t)) ae rfl ?_
 ·by_cases L:b=x
  ·subst L;rw[ae];intro z;cases z
  ·have:=u.live b hb;cases e:j b with
   |none=>exact absurd e this|some o=>exact λz=>by have:=kp b o L e;exact nomatch this.symm.trans z
 ·have fp:=(lv.sameP u).fresh Y;refine .cons (N.mv G) (.cons (r2.mv G) (.cons ?_ .nil));simp only[Rep,Reps];exact⟨p,[],rfl,fp.1,fp.2,by rw[af (Ne.symm I)];exact ae,rfl⟩
def gDue:DSp:=λds Q=>match ds with
 |[.tup [.int t,.int w],.tup [.int i,.int J]]=>(Bd 7000 t/\Bd 7000 w/\Bd 7000 i/\Bd 7000 J)/\Q (dj t w i J)|_=>False
theorem fZ(T:Tx K mg):T.tX.Ok P w base CX0 1 (spD K 2 gDue):=by
 refine fnd ["_law_one","_law_other","_law_left","_law_right"] (λY _=>(aa (dir (PWD.pt (gv (ah (aW Y) (dx 0) ad) (dM (ah (aW Y) (dx 1) ad)))) dn) (aa (dse 2 (ar bR (dx 0) (dx 1))) (aa (dse 3 (ar bR (dx 1) (dx 0))) (dr (ar jW (al lX T.oF (da1 (cE ik (dv 2) (dv 3)))) (al lX T.oF (da1 (cE AX (dv 2) (dv 3)))))))))) (λds Q hl h=>?_);unfold gDue at h;split at h
 case h_2=>exact h.elim
 rename_i t w i L;obtain⟨⟨j,l,o,u⟩,h⟩:=h;unfold dj at h;refine⟨⟨rfl,rfl⟩,λe=>Br.t ?_,λe=>⟨⟨rfl,rfl⟩,λJ=>?_,λJ=>?_⟩⟩
 ·have e:t=0:=by simpa[aK]using e
  rw[zzk (.inl e)]at h;exact h
 ·have J:i=0:=by simpa[aK]using J
  rw[zzk (.inr J)]at h;exact h
 ·have e:t≠0:=by simpa[aK]using e
  have J:i≠0:=by simpa[aK]using J
  rw[zzh (by simp[e,J])]at h;refine⟨l.cmul o,u.cmul j,?_⟩;show Q (.int ((if decide (L*t<w*i)=true then 1 else 0) - (if decide (w*i<L*t)=true then 1 else 0)));rw[zxN t L]at h;by_cases c:L*t<w*i
  ·have U:¬w*i<L*t:=by lia
   simpa[c,U]using h
  ·by_cases U:w*i<L*t
   ·simpa[c,U]using h
   ·simpa[c,U]using h
theorem oe:∀{n:Nat} {lo:Int} {pre:ab D} {d:D} {post:ab D},dh lo n=pre++d::post->d=.int (lo+pre.length)/\pre.length<n
 |0,lo,pre,d,post,e=>by simp[dh]at e
 |n+1,lo,[],d,post,e=>by injection e with J L;subst J;exact⟨by simp,Nat.succ_pos _⟩
 |n+1,lo,p::pre,d,post,e=>by injection e with J L;obtain⟨i,h2⟩:=oe L;rw[i,zzu];lia
theorem fF:∀(n:Nat) (lo:Int),(dh lo n).length=n
 |0,_=>rfl|n+1,lo=>by rw[dh,zzu,fF n]
theorem fG{g:DG}{b:DTS}{E:DEnds}(N:Nat->DS->Prop)(o:∀ρ,N n ρ->E.nx ρ)(hs:∀(i:Nat) (ρ:DS) (X:DS->Prop),i<n->N i ρ->(∀j,N (i+1) j->X j)->g (.int i) ρ λL=>b {E with nx:=X,ct:=X,bk:=E.nx} L)(ρ:DS)(h:N 0 ρ):cX g b (dh 0 n) E ρ:=by refine aG (λpre ρ=>N pre.length ρ) (λρ J=>o ρ (by rw[fF]at J;exact J)) (λpre d post ρ X e J U=>?_) _ h;obtain⟨rfl,lt⟩:=oe e;rw[Int.zero_add];exact hs pre.length ρ X lt J λj l=>U j (by rw[zzg];exact l)
theorem vA{g:DG}{o:DT}{u:DE}(N:Nat->ab D->DS->Prop)(I:∀J ρ,N n J ρ->Q J)(hs:∀(i:Nat) (J:ab D) (ρ:DS) (Y:ab D->DS->Prop),i<n->N i J ρ->(∀L j,N (i+1) L (cG j)->Y L j)->g (.int i) ρ λv=>o v λb U=>Br b (u U λy C=>J.length<sizeLine/\Y (J++[y]) C) (Y J U))(ρ:DS)(h:N 0 [] ρ):bU g o u (dh 0 n) [] ρ Q:=by refine aH (λpre J ρ=>N pre.length J ρ) (λJ ρ l=>I J ρ (by rw[fF]at l;exact l)) (λpre d post J ρ Y e l H=>?_) _ h;obtain⟨rfl,lt⟩:=oe e;rw[Int.zero_add];exact hs pre.length J ρ Y lt l λL j G=>H L j (by rw[zzg];exact G)
def gDu:DSp:=λds Q=>∃(n:Nat) (t:ab Row) (a b:Int),ds=[.lst (t.map rowD),rowD (sums t n),.int a,.int b]/\Tbl n t/\AbOk n a b/\Q (bY (told t a.toNat b.toNat) (cH t a.toNat b.toNat))
theorem BJ(t:ab Row)(a b:Nat):∀d∈told t a b,shp d=true:=λd hd=>by obtain⟨r,_,rfl⟩:=zzf.mp hd;rcases cU a b r with e|e|e|e<;>(rw[e];rfl)
theorem Fm(t:ab Row)(a b:Nat)(s:Int):∀d∈told t a b,eqD d (.int s)=isS s d:=λd hd=>by obtain⟨r,_,rfl⟩:=zzf.mp hd;exact zn (cU a b r)
theorem mE(T:Tx K mg):T.xb.Ok P w base CX0 2 (spD K 4 gDu):=by
 refine fnd ["_law_parts_here","_law_whole","_law_a","_law_b","_law_told","_law_there","_law_s","_law_some"] (λC _=>(aa (dse 4 (dfc (ao ["_law_part","_law_a","_law_b"] [none,some 2,some 3] rfl (aB (dv 0)) (dgb 0) ax (dcl (fZ T) C (ac (dix (dv 0) (dv 1)) (da1 (dix (dv 0) (dv 2)))))))) (aa (dse 5 (dcl (fZ T) C (ac (dix (dv 1) (dv 2)) (da1 (dix (dv 1) (dv 3)))))) (aw (aN (dN (ay (ac ad (da1 (fJ cN ad))))) (dgn 6) (ai (dir (ah (aW C) (dfc (ao ["_law_one","_law_s"] [none,some 6] rfl (aB (dv 4)) (dgb 0) (im (ah (fT C) (dv 0) (dv 1))) (dv 0))) (aE (aL bK))) (dix (aE (aL (ac (ay (ac ag (a2 6 5))) (da1 (ay (ac ag (a1 6))))))) (al lX T.oF (da1 (cE (aW C) (dv 5) (dv 6)))))))) (aa (eB 7 (ao ["_law_k","_law_told"] [none,some 4] rfl (bd T.bI (da1 (dln aX T.bv (dv 4)))) (dgb 0) (im (ah Ht (dix (dv 1) (dv 0)) (ay (ac ad (da1 dn))) rfl)) (dv 0))) (aa (dir (ah (fT C) (dv 7) (aE (aL bK))) (ay (ac ag (da1 (dx 7))))) (dr (ay (ac ag (ac (pY eC (dv 4) ad) (da1 (pY eC (dv 4) (fJ cN ad))))))))))))) (λds Q hl h=>?_);obtain⟨n,t,a,b,rfl,o,A,h⟩:=h;have a0:=A.a0;have a1:=A.a1;have b0:=A.b0;have b1:=A.b1;have wa:=bL o (h:=a.toNat) (by lia);have wb:=bL o (h:=b.toNat) (by lia);have sw:=mz (sumP (col t a.toNat)).1 (sumP (col t a.toNat)).2 (sumP (col t b.toNat)).1 (sumP (col t b.toNat)).2;have tl:(told t a.toNat b.toNat).length<=1000:=by rw[zza];exact zzl o.p60 (by decide)
 refine qk (λc d Q hc hd q=>⟨⟨hc.bt.mono (by decide),hc.bw.mono (by decide),hd.bt.mono (by decide),hd.bw.mono (by decide)⟩,q⟩) o.rows (zzl o.p60 (by decide)) a0 a1 b0 b1 ?_;have bs:∀{c:Int×Int},(0<=c.2/\c.2<=c.1/\Bd 300 c.1/\Bd 300 c.2)->Bd 7000 c.1/\Bd 7000 c.2:=λh=>⟨h.2.2.1.mono (by decide),h.2.2.2.mono (by decide)⟩;refine cZ a0 a1 (cZ b0 b1 ⟨rfl,⟨(bs wa).1,(bs wa).2,(bs wb).1,(bs wb).2⟩,?_⟩);obtain⟨J,U⟩:∃J,J=told t a.toNat b.toNat:=⟨_,rfl⟩;obtain⟨x,ex⟩:∃x,x=cH t a.toNat b.toNat:=⟨_,rfl⟩;have sx:(∃i,x=.int i)∨x=.non:=by rw[ex];exact sw
 have a7:∀d∈J,shp d=true:=by rw[U];exact BJ t _ _
 have a8:∀s d,d∈J->eqD d (.int s)=isS s d:=λs d hd=>Fm t a.toNat b.toNat s d (by rw[←U];exact hd);have h4:∀d∈J,four d:=λd hd=>by rw[U]at hd;obtain⟨r,_,rfl⟩:=zzf.mp hd;exact cU ..
 show ∃N,_/\_;rw[show t.map (ku a.toNat b.toNat)=J from U.symm,show dj (sumP (col t a.toNat)).1 (sumP (col t a.toNat)).2 (sumP (col t b.toNat)).1 (sumP (col t b.toNat)).2=x from ex.symm];rw[←U]at tl;rw[←U,←ex]at h;have a6:∀(s:Int) (s0:Sl) (X:ab D->Prop),X (J.filter λd=>!isS s d)->bU (bc 0) (dB (dOp (gEq true) (dVar 0) (dVar 1))) (dVar 0) J [] [s0,.val (.int s)] X:=λs s0 X q=>by
  refine aH (λpre L v=>L=pre.filter (λd=>!isS s d)/\∃s0,v=[s0,.val (.int s)]) (λL v u=>by rw[u.1];exact q) (λpre d post L v Y e u g=>?_) _ ⟨rfl,_,rfl⟩;obtain⟨rfl,s1,rfl⟩:=u;have hd:d∈J:=by rw[e];simp
  refine⟨⟨a7 d hd,rfl⟩,?_⟩;show Br (!eqD d (.int s)) _ _;rw[a8 s d hd];cases z:isS s d with
  |true=>exact Br.f (g _ _ ⟨by rw[zya,zzZ (by simp[z])];simp,_,rfl⟩)|false =>
   refine Br.t ⟨?_,g _ _ ⟨by rw[zya,zyd (by simp[z])];simp,_,rfl⟩⟩;have l:=zyk (λd=>!isS s d) pre;have G:pre.length<=J.length:=by rw[e];simp
   exact zzw (zzl l (zzl G tl)) (by decide)
 have a5:∀ys:ab D,eqD (.lst ys) (.lst [])=ys.isEmpty:=λys=>by cases ys<;>rfl
 have a9:∀ys:ab D,(∀d∈ys,four d)->shp (.lst ys)=true:=λys hy=>(Shp.lst (n:=0) λd hd=>by rcases hy d hd with rfl|rfl|rfl|rfl<;>first|exact .non|exact .int).shp;have a4:∀s,(J.filter λd=>!isS s d).isEmpty=J.all (isS s):=λs=>by
  cases z:J.all (isS s) with
  |true =>
   rw[List.isEmpty_iff,zxB];intro d hd;rw[zyj.mp z d hd];decide
  |false =>
   cases z':(J.filter λd=>!isS s d).isEmpty with
   |false=>rfl|true =>
    rw[List.isEmpty_iff,zxB]at z';rw[←z,zyj.mpr λd hd=>by simpa using z' d hd]
 have one:∀(s:Int) (E:Sl) (N':DS->Prop) (bk ct:DS->Prop),(J.all (isS s)=true->Q (tkT s x))->(J.all (isS s)=false->N' [.val (.lst (t.map rowD)),.val (rowD (sums t n)),.val (.int a),.val (.int b),.val (.lst J),.val x,.val (.int s),.nil]) ->
   dIfS (dB (dOp (gEq false) (dFrz (Hm (Hd (dVar 4)) [none,some 6] (bc 0) (dB (dOp (gEq true) (dVar 0) (dVar 1))) (dVar 0))) (dFrz (dLst cF))))
     (dRet (dOp gIx (dFrz (dLst (aF (dTup (aF (dC (D.str (Str.ofString "turned"))) (aF (dVar 6) (aF (dVar 5) cF)))) (aF (dTup (aF (dC (D.str (Str.ofString "kept"))) (aF (dVar 6) cF))) cF)))) (dCB Em (aF (dOp (gEq false) (dVar 5) (dVar 6)) cF)))) rX
    {nx:=N',rt:=Q,bk:=bk,ct:=ct} [.val (.lst (t.map rowD)),.val (rowD (sums t n)),.val (.int a),.val (.int b),.val (.lst J),.val x,.val (.int s),.nil]:=λs E N' bk ct H q2=>by
  refine a6 s _ _ ⟨sz,⟨a9 _ λd hd=>h4 d (zzQ.mp hd).1,rfl⟩,?_⟩;show Br (eqD (.lst (J.filter λd=>!isS s d)) (.lst [])) _ _;rw[a5,a4];cases z:J.all (isS s) with
  |false=>exact Br.f (q2 z)|true =>
   have H:=H z;unfold tkT at H;refine Br.t ⟨sz,sz,sz,⟨uZ sx,rfl⟩,?_⟩;show opt (atI _ (if eqD x (.int s)=true then 1 else 0)) _;cases z:eqD x (.int s) with
   |true=>rw[zzk z]at H;exact H|false=>rw[zzh (by rw[z];decide)]at H;exact H
 refine⟨λv=>(J.all (isS 1)=false/\J.all (isS (-1))=false)/\∃E:Sl,v=[.val (.lst (t.map rowD)),.val (rowD (sums t n)),.val (.int a),.val (.int b),.val (.lst J),.val x,E,.nil],?_,?_⟩
 ·refine⟨sz,?_⟩;refine one 1 .nil _ _ _ (λz=>?_) (λM=>one (-1) .nil _ _ _ (λz=>?_) λp=>⟨⟨M,p⟩,_,rfl⟩)
  ·unfold bY at h;rw[zzk z]at h;exact h
  ·unfold bY at h;rw[zzh (by rw[M];decide),zzk z]at h;exact h
 ·rintro _ ⟨⟨M,p⟩,E,rfl⟩;unfold bY at h;rw[zzh (by rw[M];decide),zzh (by rw[p];decide)]at h;have go:∀(X:ab D->Prop),(∀L,(J.findIdx? fK=none/\L=[])∨(∃(j:Nat) (r:ab D),J.findIdx? fK=some j/\L=.int j::r/\∀d∈r,∃i:Int,d=.int i)->X L) ->
    bU (bc 0) (dB (dOp gIn (dOp gIx (dVar 1) (dVar 0)) (dTup (aF (dC (D.int 0)) (aF (dC D.non) cF))))) (dVar 0) (dh 0 ((J.length:Nat):Int).toNat) [] [.nil,.val (.lst J)] X:=λX q=>by
   rw[zzC];refine vA (λi L v=>(L.length<=i/\(((∀m z,m<i->J[m]?=some z->fK z=false)/\L=[])∨∃(j:Nat) (r:ab D),J.findIdx? fK=some j/\L=.int j::r/\∀d∈r,∃i:Int,d=.int i))/\∃s0,v=[s0,.val (.lst J)]) (λL v u=>q L ?_) (λi L v Y lt u g=>?_) _ ⟨⟨zzM _,.inl ⟨λm z k=>absurd k (zxx _),rfl⟩⟩,_,rfl⟩
   ·rcases u.1.2 with ⟨l,G⟩|l
    ·refine .inl ⟨?_,G⟩;rw[zwg];intro d hd;obtain⟨m,k,e⟩:=zyH.mp hd;exact l m d k (by rw[←e];exact zzn k)
    ·exact .inr l
   ·obtain⟨⟨la,u⟩,s0,rfl⟩:=u;have hi:J[i]?=some J[i]:=zzn lt;have hd:J[i]∈J:=zyn lt;have fl:dO J[i]=true:=zm (h4 _ hd);refine au (d:=J[i]) (by lia) (by rw[zzC];exact hi) ⟨sz,⟨fl,rfl⟩,?_⟩;have eo:(([D.int 0,D.non]:ab D).any λy=>eqF y J[i])=fK J[i]:=by rcases h4 _ hd with e|e|e|e<;>(rw[e];rfl)
    show Br (([D.int 0,D.non]:ab D).any λy=>eqF y J[i]) _ _;rw[eo];cases z:fK J[i] with
    |false =>
     refine Br.f (g _ _ ⟨⟨zwq la,u.imp (λ⟨l,G⟩=>⟨λm z' k hz=>?_,G⟩) λh=>h⟩,_,rfl⟩);by_cases e:m=i
     ·subst e;rw[hi]at hz;cases hz;exact z
     ·exact l m z' (by lia) hz
    |true =>
     refine Br.t ⟨zzw (zzl la (by lia:i<=1000)) (by decide),g _ _ ⟨⟨by simp;exact la,.inr ?_⟩,_,rfl⟩⟩;rcases u with ⟨l,rfl⟩|⟨j,r,l,rfl,G⟩
     ·refine⟨i,[],?_,rfl,λd hd=>by simp at hd⟩;rw[zww];exact⟨lt,z,λj hj=>by rw[l j _ hj (zzn (zwF hj lt))];decide⟩
     ·refine⟨j,r++[.int i],l,rfl,λd hd=>?_⟩;rcases zzA.mp hd with hd|hd
      ·exact G d hd
      ·exact⟨i,zzG.mp hd⟩
  refine⟨⟨by lia,by lia⟩,go _ λL ha=>?_⟩;rcases ha with ⟨I,rfl⟩|⟨j,r,I,rfl,C⟩
  ·rw[I]at h;refine⟨sz,⟨rfl,rfl⟩,Br.f ?_⟩;rw[U]at I M p h ⊢;refine⟨trivial,vd I (.inl rfl) (by rw[p];decide) ⟨trivial,?_⟩⟩;obtain⟨i1,j,i2,B⟩:=vd (Q:=λd=>d=.int ((told t a.toNat b.toNat).findIdx (isS (-1)):Nat)) I (.inr rfl) (by rw[show (-(-1:Int))=1 from rfl,M];decide) rfl;injection B with B;have B:j=(told t a.toNat b.toNat).findIdx (isS (-1)):=by lia
   subst B;exact⟨i1,_,i2,sz,h⟩
  ·rw[I]at h;refine⟨sz,⟨(Shp.lst (n:=0) λd hd=>?_).shp,rfl⟩,Br.t (au (d:=.int j) (zzN 0) rfl ⟨sz,h⟩)⟩;rcases zzi.mp hd with rfl|hd
   ·exact .int
   ·obtain⟨i,rfl⟩:=C d hd;exact .int
noncomputable def canB(t:ab Row)(a b:Nat):Bool:=t.any λr=>t.any λq=>isS (-1) (dj (at_ r a).1 (at_ r a).2 (at_ q b).1 (at_ q b).2)
def gCan:DSp:=λds Q=>∃(n:Nat) (t:ab Row) (a b:Int),ds=[.lst (t.map rowD),.int a,.int b]/\Tbl n t/\AbOk n a b/\Q (.bl (canB t a.toNat b.toNat))
theorem qH(t w t' J:Int):four (dj t w t' J):=by
 unfold dj;split
 ·exact .inl rfl
 ·split
  ·exact .inr (.inl rfl)
  ·split
   ·exact .inr (.inr (.inl rfl))
   ·exact .inr (.inr (.inr rfl))
theorem wV(T:Tx K mg):T.xc.Ok P w base CX0 2 (spD K 3 gCan):=by
 refine fnd ["_law_parts_here","_law_a","_law_b","_law_part","_law_other"] (λG _=>(aw (aN (aB (dv 0)) (dgn 3) (ai (aN (aB (dv 0)) (dgn 4) (ai (dir (ah (aW G) (dcl (fZ T) G (ac (dix (dv 3) (dv 1)) (da1 (dix (dv 4) (dv 2))))) (fJ cN ad)) ie))))) (dr ie))) (λds Q hl h=>?_);obtain⟨n,t,a,b,rfl,o,I,h⟩:=h;have x:=I.a0;have a1:=I.a1;have A:=I.b0;have B:=I.b1;refine⟨λi=>canB t a.toNat b.toNat=false/\∃H J:Sl,i=[.val (.lst (t.map rowD)),.val (.int a),.val (.int b),H,J],?_,?_⟩
 ·refine aG (λpre i=>∃v l:ab Row,t=v++l/\pre=v.map rowD/\(v.any λr=>t.any λq=>isS (-1) (dj (at_ r a.toNat).1 (at_ r a.toNat).2 (at_ q b.toNat).1 (at_ q b.toNat).2))=false/\∃H J:Sl,i=[.val (.lst (t.map rowD)),.val (.int a),.val (.int b),H,J]) (λi Y=>?_) (λpre d post i X e Y hX=>?_) _ ⟨[],t,rfl,rfl,rfl,_,_,rfl⟩
  ·obtain⟨v,l,L,E,N,C⟩:=Y;have:l=[]:=by
    have:=congrArg List.length E;rw[L]at this;simp at this;exact this
   subst this;rw[zzs]at L;subst L;exact⟨N,C⟩
  ·obtain⟨v,l,L,rfl,N,H,J,rfl⟩:=Y;rw[L,zzc]at e;have e:=zzz e;cases l with
   |nil=>simp at e|cons r l =>
    rw[zzj]at e;injection e with e3 e4;subst e3;have G:r∈t:=by rw[L];simp
    have s:=o.rows r G;refine aG (λpre i=>∃u j:ab Row,t=u++j/\pre=u.map rowD/\(u.any λq=>isS (-1) (dj (at_ r a.toNat).1 (at_ r a.toNat).2 (at_ q b.toNat).1 (at_ q b.toNat).2))=false/\∃J:Sl,i=[.val (.lst (t.map rowD)),.val (.int a),.val (.int b),.val (rowD r),J]) (λi Y=>?_) (λpre d post i X' e Y y=>?_) _ ⟨[],t,rfl,rfl,rfl,_,rfl⟩
    ·obtain⟨u,j,U,M,C,J,rfl⟩:=Y;have:j=[]:=by
      have:=congrArg List.length M;rw[U]at this;simp at this;exact this
     subst this;rw[zzs]at U;refine hX _ ⟨v++[r],l,by rw[L];simp,by simp,?_,_,_,rfl⟩;rw[List.any_append,N,zxh,List.any_nil,U,C];rfl
    ·obtain⟨u,j,U,rfl,C,J,rfl⟩:=Y;rw[U,zzc]at e;have e:=zzz e;cases j with
     |nil=>simp at e|cons q j =>
      rw[zzj]at e;injection e with M e7;subst M;have m:q∈t:=by rw[U];simp
      have p:=o.rows q m;have c:=(eJ s (show a.toNat<n by lia)).2;have g:=(eJ p (show b.toNat<n by lia)).2;have k:=qH (at_ r a.toNat).1 (at_ r a.toNat).2 (at_ q b.toNat).1 (at_ q b.toNat).2;refine ki s x a1 (ki p A B ⟨rfl,⟨c.bt.mono (by decide),c.bw.mono (by decide),g.bt.mono (by decide),g.bw.mono (by decide)⟩,⟨Bv k,rfl⟩,?_⟩);show Br (eqD (dj (at_ r a.toNat).1 (at_ r a.toNat).2 (at_ q b.toNat).1 (at_ q b.toNat).2) (.int (-1))) _ _;rw[zn k];cases z:isS (-1) (dj (at_ r a.toNat).1 (at_ r a.toNat).2 (at_ q b.toNat).1 (at_ q b.toNat).2) with
      |true =>
       refine Br.t ?_;have:canB t a.toNat b.toNat=true:=zyq.mpr ⟨r,G,zyq.mpr ⟨q,m,z⟩⟩;rw[this]at h;exact h
      |false =>
       refine Br.f (y _ ⟨u++[q],j,by rw[U];simp,by simp,?_,_,rfl⟩);rw[List.any_append,C,zxh,List.any_nil,z];rfl
 ·rintro _ ⟨hc,H,J,rfl⟩;rw[hc]at h;exact h
theorem og(J:ab D)(x:D):∃(w:Str) (s:Int) (r:ab D),bY J x=.tup (.str w :: .int s::r)/\(((w=cM∨w=lC)/\(s=1∨s = -1))∨(w=Str.ofString "open" ∨ w=Str.ofString "apart")):=by
 have i:∀s,(s=1∨s = -1)->∃(w:Str) (s':Int) (r:ab D),tkT s x=.tup (.str w :: .int s'::r)/\(((w=cM∨w=lC)/\(s'=1∨s' = -1))∨(w=Str.ofString "open" ∨ w=Str.ofString "apart")):=λs hs=>by
  unfold tkT;split
  ·exact⟨_,_,_,rfl,.inl ⟨.inr rfl,hs⟩⟩
  ·exact⟨_,_,_,rfl,.inl ⟨.inl rfl,hs⟩⟩
 unfold bY;split
 ·exact i 1 (.inl rfl)
 ·split
  ·exact i (-1) (.inr rfl)
  ·split
   ·exact⟨_,_,_,rfl,.inr (.inl rfl)⟩
   ·exact⟨_,_,_,rfl,.inr (.inr rfl)⟩
def gWo:DSp:=λds Q=>∃(hs:ab Str) (a b:Nat) (J:ab D) (x:D),ds=[bY J x,.lst [.str (hs.getD a Str.empty),.str (hs.getD b Str.empty)]]/\(∀n∈hs,n.length<=8)/\Q (.str (kJ hs a b (bY J x)))
theorem kK(T:Tx K mg):T.kQ.Ok P w base CX0 1 (spD K 2 gWo):=by
 refine fnd ["_law_due_here","_law_names"] (λY _=>(aa (dir (ah Ht (dx 0) (ay (ac ag (da1 ag))) rfl) (dx 0)) (dr (ar bf (ar bf (dx 0) ag) (dix (dv 1) (al lX T.oF (da1 (cE (aW Y) (dx 0) (fJ cN ad))))))))) (λds Q hl h=>?_);obtain⟨hs,a,b,j,x,rfl,i,h⟩:=h;obtain⟨w,s,r,e,J⟩:=og j x;rw[e]at h ⊢;rcases J with ⟨J,L⟩|J
 ·have U:kJ hs a b (.tup (.str w :: .int s::r))=w++spS++hs.getD (if s=1 then a else b) Str.empty:=by show (if w=cM∨w=lC then _ else _)=_;rw[zzk J]
  rw[U]at h;have wl:w.length<=10:=by rcases J with rfl|rfl<;>decide +kernel
  have l1:=bz w spS;have l2:spS.length=1:=by decide +kernel
  have g8:=fE i (if s=1 then a else b);refine au (zzN 0) rfl ⟨sz,⟨rfl,rfl⟩,?_⟩;have ne:(([D.str (Str.ofString "open"),D.str (Str.ofString "apart")]:ab D).any λy=>eqF y (.str w))=false:=by rcases J with rfl|rfl<;>decide +kernel
  rw[ne];refine Br.f (au (zzN 0) rfl ⟨szl (by show w.length+spS.length<=_;lia),?_⟩);refine au (by decide) rfl ⟨⟨rfl,rfl⟩,?_⟩;rcases L with rfl|rfl
  ·exact⟨szl (by show (w++spS).length+(hs.getD (if (1:Int)=1 then a else b) Str.empty).length<=_;lia),h⟩
  ·exact⟨szl (by show (w++spS).length+(hs.getD (if (-1:Int)=1 then a else b) Str.empty).length<=_;lia),h⟩
 ·have U:kJ hs a b (.tup (.str w :: .int s::r))=w:=by
   show (if w=cM∨w=lC then _ else _)=_;rw[zzh];rcases J with rfl|rfl<;>decide +kernel
  rw[U]at h;have ne:(([D.str (Str.ofString "open"),D.str (Str.ofString "apart")]:ab D).any λy=>eqF y (.str w))=true:=by rcases J with rfl|rfl<;>decide +kernel
  refine au (zzN 0) rfl ⟨sz,⟨rfl,rfl⟩,?_⟩;rw[ne];exact Br.t (au (zzN 0) rfl h)
noncomputable def bitI(b k:Nat):Bool:=decide (Builtin.bitAnd ((b:Int) / 2^k) 1=1)
noncomputable def bts(n b:Nat):ab Int:=((List.range n).filter (bitI b)).map λ(k:Nat)=>(k:Int)
noncomputable def szs(n z j:Nat):ab (ab Int):=((List.range j).map (bts n)).filter λs=>decide (s.length=z)
noncomputable def qI(n i:Nat):ab (ab Int):=(List.range i).flatMap λz=>cy (szs n z (2^n))
theorem BK:∀n,n<4->1<=n->qI n (n+1)=[]::chs n (n+1):=by decide +kernel
theorem BL:∀n,n<4->∀i,i<5->(qI n i).length<=8:=by decide +kernel
theorem CY:∀n,n<4->∀z,z<5->∀j,j<=2^n->(szs n z j).length<=8/\(2<=(szs n z j).length->∀k∈szs n z j,k≠[]):=by decide +kernel
def KB:DSp:=λds Q=>∃n:Nat,ds=[.int n]/\(1<=n/\n<=3)/\Q (bZ ([]::chs n (n+1)))
theorem zI(k:ab Int):pI (kI k):=λx J=>by obtain⟨i,_,rfl⟩:=zzf.mp J;exact⟨i,rfl⟩
theorem tu(T:Tx K mg):T.tY.Ok P w base CX0 1 (spD K 1 KB):=by
 refine fnd ["_law_many","_law_found","_law_size","_law_some","_law_bits","_law_marks"] (λe _=>(aa (dow 1 (aL bK)) (aw (aN (bd T.bI (da1 (ar bB (dv 0) ad))) (dgn 2) (aa (dow 3 (aL bK)) (aw (aN (bd T.bI (da1 (ar HG ad (dv 0)))) (dgn 4) (aa (dse 5 (al bM T.cz (da1 (dfc (ao ["_law_k","_law_bits"] [none,some 4] rfl (bd T.bI (a1 0)) (dgb 0) (im (ah (aW e) (ar EC (ar HH (dv 1) (dv 0)) ad) ad)) (dv 0)))))) (ai (dif (ah (aW e) (dln aX T.bv (dv 5)) (dv 2)) (ai (cO (pv 3) (dv 5))))))) (ai (Cv (pv 1) (aZ Bq T.jt (by decide +kernel) (a1 3))))))) (dr (dv 1))))) (λds Q hl h=>?_);obtain⟨n,rfl,⟨y,A⟩,h⟩:=h;have B:2^n<=2^3:=zxT (by decide) A;have lt:∀{m:Nat},m<=8->m<sizeLine:=λh=>zzw h (by decide);refine⟨sz,?_⟩;refine⟨λl=>∃o u J L:Sl,l=[.val (.int n),.own ((qI n (n+1)).map ak),o,u,J,L],?_,?_⟩
 ·refine⟨⟨by lia,by lia⟩,?_⟩;rw[show ((n:Int)+1).toNat=n+1 by lia];refine fG (λi l=>∃o u J L:Sl,l=[.val (.int n),.own ((qI n i).map ak),o,u,J,L]) (λl U=>U) (λi l X li U r=>?_) _ ⟨_,_,_,_,rfl⟩;obtain⟨o,u,J,L,rfl⟩:=U;refine⟨sz,λl=>∃J L:Sl,l=[.val (.int n),.own ((qI n i).map ak),.val (.int i),.own ((szs n i (2^n)).map ak),J,L],?_,?_⟩
  ·refine⟨⟨by lia,by lia,by decide⟩,?_⟩;have p:(1:Int)*2^(n:Int).toNat=((2^n:Nat):Int):=by rw[Int.one_mul,zzC,Int.natCast_pow];rfl
   show (_/\_)/\cX _ _ (dh 0 ((1:Int)*2^(n:Int).toNat).toNat) _ _;rw[p,zzC];refine⟨⟨Int.le_trans (by decide) (Int.natCast_nonneg _),Int.lt_of_le_of_lt (Int.ofNat_le.mpr B) (by decide)⟩,?_⟩;refine fG (λj l=>∃J L:Sl,l=[.val (.int n),.own ((qI n i).map ak),.val (.int i),.own ((szs n i j).map ak),J,L]) (λl U=>U) (λj l X' lj U H=>?_) _ ⟨_,_,rfl⟩;obtain⟨J,L,rfl⟩:=U;refine⟨⟨by lia,by lia⟩,?_⟩;rw[zzC];refine vA (λk v l=>(v=(((List.range k).filter (bitI j)).map λ(k:Nat)=>(k:Int)).map D.int/\k<=n)/\∃s0,l=[s0,.val (.int j)]) (λv l U=>?_) (λk v l Y g U c=>?_) _ ⟨⟨rfl,zzM _⟩,_,rfl⟩
   ·obtain⟨⟨rfl,_⟩,_⟩:=U;refine⟨⟨rfl,rfl⟩,?_⟩;show Br (eqD (.int ((((bts n j).map D.int).length:Nat):Int)) (.int i)) _ _;rw[aK];have N:∀z,szs n z (j+1)=szs n z j++(if (bts n j).length=z then[bts n j] else[]):=λz=>by
     unfold szs;rw[zxy,zzc,zya];congr 1;by_cases q:(bts n j).length=z
     ·rw[zzk q,zyE,zyd (by simpa using q)];rfl
     ·rw[zzh q,zyE,zzZ (by simpa using q)];rfl
    refine Br.di (λz=>?_) (λz=>?_)
    ·have z:(bts n j).length=i:=by rw[zza]at z;lia
     refine⟨trivial,?_,H _ ⟨_,_,by rw[N i,zzk z,zzc];rfl⟩⟩;rw[zza];exact lt (CY n (by lia) i (by lia) j (by lia)).1
    ·have z:¬(bts n j).length=i:=by rw[zza]at z;lia
     exact H _ ⟨_,_,by rw[N i,zzh z,zzs];rfl⟩
   ·obtain⟨⟨rfl,kn⟩,s0,rfl⟩:=U;have M:∀b,bitI j k=b->((List.range (k+1)).filter (bitI j))=(List.range k).filter (bitI j)++(if b=true then[k] else[]):=λb d=>by
     rw[zxy,zya];congr 1;cases b with
     |true=>rw[zyd d];rfl|false=>rw[zzZ (by rw[d];decide)];rfl
    refine⟨by lia,⟨rfl,rfl⟩,?_⟩;show Br (eqD (.int (Builtin.bitAnd ((j:Int) / 2^(k:Int).toNat) 1)) (.int 1)) _ _;rw[aK,zzC];show Br (bitI j k) _ _;cases z:bitI j k with
    |true =>
     refine Br.t ⟨?_,c _ _ ⟨⟨by rw[M true z,zzk rfl];simp,g⟩,_,rfl⟩⟩;rw[zza,zza];refine lt (zzl (zyk _ _) ?_);rw[zyI];lia
    |false=>exact Br.f (c _ _ ⟨⟨by rw[M false z,zzh (by decide),zzs],g⟩,_,rfl⟩)
  ·rintro _ ⟨J,L,rfl⟩;have ok:=CY n (by lia) i (by lia) (2^n) (zzq _);have I:∀ks:ab (ab Int),ks.map ak=(ks.map kI).map keyD:=λks=>by
    rw[zzo];exact zzF λk _=>cx k
   refine⟨trivial,(szs n i (2^n)).map kI,by rw[←I],λk G=>?_,λa k G=>?_,?_,(cy (szs n i (2^n))).map ak,?_,?_,r _ ⟨.val (.int i),.val (.lst ((szs n i (2^n)).map ak)),J,L,?_⟩⟩
   ·obtain⟨x,_,rfl⟩:=zzf.mp G;exact zI x
   ·obtain⟨x,s,rfl⟩:=zzf.mp G;rw[zza]at a;have:=ok.2 a x s;intro z;exact this (zwa.mp z)
   ·rw[zza];have:=ok.1;lia
   ·rw[nN,←I]
   ·have C:=BL n (by lia) (i+1) (by lia);unfold qI at C;rw[zxy,zyL,zzg,zyK,zwA,zzs]at C;rw[zza,zza];exact Nat.le_of_lt (lt C)
   ·unfold qI;rw[zxy,zyL,zzc,zyK,zwA,zzs];rfl
 ·rintro _ ⟨o,u,J,L,rfl⟩;rw[BK n (by lia) y];exact h
noncomputable def abcS:Str:=Str.ofString "abcdefghijklmnopqrstuvwxyz"
theorem CZ{i:Int}(h0:0<=i)(j:i<26):∃c,atI abcS.cps.toList i=some c/\c=97+i.toNat:=by
 have l:abcS.cps.toList.length=26:=by decide +kernel
 obtain⟨d,J,L⟩:=Cn h0 (by rw[l];exact j);refine⟨d,J,?_⟩;have key:∀i:Fin 26,abcS.cps.toList[i.val]?=some (97+i.val):=by decide +kernel
 have:=key ⟨i.toNat,by lia⟩;rw[L]at this;exact zzS this
def Sm(x:Str):Prop:=∀c∈x.cps.toList,97<=c/\c<=122
theorem Sm.one(h:97<=n/\n<=122):Sm ⟨#[n]⟩:=λd hd=>by
 have:d=n:=by simpa using hd
 lia
theorem Sm.nm{x:Str}(h:Sm x)(i:1<=x.length)(J:x.length<=8):isNm x=true:=by unfold isNm;rw[zzp i,zzp J,vp h];rfl
theorem wW(h:∀x∈ws,Sm x/\x.length=1):Sm (Txt.join Str.empty ws)/\(Txt.join Str.empty ws).length=ws.length:=by
 have Y:Txt.join Str.empty ws=Str.join Str.empty ws:=zzU ..;rw[Y]
 induction ws with
 |nil=>exact⟨λc J=>(by cases J),rfl⟩
 |cons x r o =>
  cases r with
  |nil=>exact⟨(h x (by simp)).1,(h x (by simp)).2⟩|cons y r =>
   obtain⟨j,l⟩:=o (λz i=>h z (zzb _ i)) (zzU ..);obtain⟨u,v⟩:=h x (by simp);have e:Str.join Str.empty (x::y::r)=x++Str.empty++Str.join Str.empty (y::r):=rfl;have U:(Str.join Str.empty (x::y::r)).cps.toList=x.cps.toList++(Str.join Str.empty (y::r)).cps.toList:=by rw[e,zyQ,zyQ,zyA,zyA];show (x.cps.toList++[])++_=_;rw[zzs]
   refine⟨λc J=>?_,?_⟩
   ·rw[U]at J;rcases zzA.mp J with J|J
    ·exact u c J
    ·exact j c J
   ·have L:∀z:Str,z.length=z.cps.toList.length:=λz=>zyh.symm;rw[L,U,zzg,←L,←L,l,v,zzu,zzu,zzu];lia
theorem Fo(hs:Sm z)(j:z.length<=7){n:Int}(Y:0<=n)(l:n<=z.length)(U:97<=m/\m<=122) :
  isNm (Txt.slice z none (some n)++⟨#[m]⟩)=true/\(Txt.slice z none (some n)++(⟨#[m]⟩:Str)).cps.toList.getLast? = some m/\(Txt.slice z none (some n)).length<=7:=by
 have L:z.cps.toList.length=z.length:=zyh;have e:Txt.slice z none (some n)=⟨((z.cps.toList.drop 0).take (n - 0).toNat).toArray⟩:=StrLaws.sliceText_to ⟨Y,by rw[L];exact l⟩;have J:(Txt.slice z none (some n)++(⟨#[m]⟩:Str)).cps.toList=z.cps.toList.take n.toNat++[m]:=by rw[e,zyQ,zyA];simp
 have i:(Txt.slice z none (some n)++(⟨#[m]⟩:Str)).length=(z.cps.toList.take n.toNat++[m]).length:=by rw[←J];exact zyh.symm
 refine⟨Sm.nm (λd hd=>?_) ?_ ?_,?_,zzl (Txt.slice_le _ _ _) j⟩
 ·rw[J]at hd;rcases zzA.mp hd with hd|hd
  ·exact hs d (List.mem_of_mem_take hd)
  ·rw[zzG.mp hd];exact U
 ·rw[i,zzg];simp
 ·rw[i,zzg,zyM];simp;lia
 ·rw[J];simp
structure Wds(n:Int)(ws:List Str):Prop where
 l:(ws.length:Int)=n
 m:∀x∈ws,isNm x=true
 d:ws.Nodup
def IF:DSp:=λds Q=>∃n:Int,ds=[.pen,.int n]/\(0<=n/\n<=7)/\∀ws,Wds n ws->Q (.lst (ws.map .str))
theorem eX(T:Tx K mg):T.qV.Ok P w base CX0 2 (spD K 2 IF):=by
 refine fnd ["_law_pen_here","_law_many","_law_letters","_law_turn","_law_stem","_law_found","_law_k","_law_size"] (λC _=>(aa (dse 2 ag) (aa (dse 3 (dcl (aC T) C (ac (dv 0) (da1 ad)))) (aa (dse 4 (bW ag (dfc (ao ["_law_j","_law_letters","_law_pen_here"] [none,some 2,some 0] rfl (bd T.bI (da1 (dcl (aC T) C (ac (dv 0) (da1 ad))))) (dgb 0) ax (yW (dv 1) (dcl (aC T) C (ac (dv 2) (da1 ad))) (λ_ _=>rfl)))))) (aa (dow 5 (aL bK)) (aw (aN (bd T.bI (a1 1)) (dgn 6) (aa (dse 7 (dcl (aC T) C (ac (dv 0) (da1 (ar bB (dln sE T.bv (dv 4)) ad))))) (ai (cO (pv 5) (ar bf (HI (dv 4) eA (cJ (dv 7))) (yW (dv 2) (ar yH (ar bB (dv 3) (dv 6)) ad) (λ_ _=>rfl))))))) (dr (dv 5)))))))) (λds Q hl h=>?_);obtain⟨n,rfl,⟨n0,n7⟩,h⟩:=h;refine⟨rfl,⟨by decide,by decide⟩,λo t0 t1=>⟨Str.empty,rfl,rfl,⟨by decide,by decide⟩,λm m0 m1=>⟨⟨by lia,by lia⟩,?_⟩⟩⟩;refine aH (λpre L u=>∃ws:ab Str,L=ws.map .str/\ws.length=pre.length/\(∀x∈ws,Sm x/\x.length=1)/\∃s,u=[s,.val (.str abcS),.val .pen]) (λL u a=>?_) (λpre d post L u Y e a hY=>?_) _ ⟨[],rfl,rfl,λx J=>by simp at J,_,rfl⟩
 rotate_left
 ·obtain⟨ws,rfl,H,I,s,rfl⟩:=a;have pl:pre.length<8:=by
   have:=congrArg List.length e;rw[fF,zzg,zzu]at this;lia
  refine Br.t ⟨rfl,⟨by decide,by decide⟩,λi i0 i1=>?_⟩;obtain⟨c,N,g⟩:=CZ i0 i1;refine⟨by decide +kernel,c,N,?_,hY _ _ ⟨ws++[⟨#[c]⟩],by rw[zzc];rfl,by simp[H],λx J=>?_,_,rfl⟩⟩
  ·rw[zza,H];exact zzJ pl (by decide)
  ·rcases zzA.mp J with J|J
   ·exact I x J
   ·rw[zzG.mp J];exact⟨Sm.one (by lia),rfl⟩
 ·obtain⟨ws,rfl,H,I,s,rfl⟩:=a;rw[fF]at H;obtain⟨A,sl⟩:=wW I;refine⟨ws,⟨rfl,cL (B:=1) (λy hy=>by rw[(I y hy).2];exact zzq _) ?_⟩,?_⟩
  ·have:Str.empty.length=0:=rfl;rw[this];lia
  generalize Txt.join Str.empty ws=stem at A sl;have v:stem.length<=7:=by lia
  refine⟨sz,λu=>∃(l:ab Str) (U v:Sl),Wds n l/\u=[.val .pen,.val (.int n),.val (.str abcS),.val (.int o),.val (.str stem),.own (l.map .str),U,v],⟨⟨by lia,by lia⟩,?_⟩,?_⟩
  ·refine fq (λk u=>∃(l:ab Str) (U v:Sl),(l.length:Int)=k/\(∀x∈l,isNm x=true)/\(∀(j:Nat) (x:Str),l[j]?=some x->x.cps.toList.getLast? = some (97+((o+j) % 26).toNat))/\u=[.val .pen,.val (.int n),.val (.str abcS),.val (.int o),.val (.str stem),.own (l.map .str),U,v]) _ _ ?_ ?_ _ ⟨[],_,_,rfl,λx J=>by simp at J,λj x J=>by simp at J,rfl⟩
   ·rintro u ⟨l,U,M,ul,b,G,rfl⟩;refine⟨l,U,M,⟨by lia,b,?_⟩,rfl⟩;refine zyr.mpr λi j hi hj hij z=>?_;have E:=G j l[j] (zzn hj);have p:=G i l[j] (by rw[←z];exact zzn hi);rw[E]at p;have:=zzS p;lia
   ·rintro k u X k0 k1 ⟨l,U,M,ul,b,G,rfl⟩ hX;refine⟨zzl v (by decide),rfl,⟨by lia,by lia⟩,λz z0 z1=>?_⟩;obtain⟨c,N,g⟩:=CZ (i:=(o+k) % 26) (zyU _ (by decide)) (zyC _ (by decide));have hc:97<=c/\c<=122:=by lia
    obtain⟨o1,o2,o3⟩:=Fo A v z0 (by lia) hc;refine⟨trivial,stem,rfl,zzl v (by decide),show (0:Int)<26 by decide,by decide +kernel,c,N,?_,?_,hX _ ⟨l++[Txt.slice stem none (some z)++⟨#[c]⟩],_,_,by simp;lia,λx J=>?_,λj x J=>?_,by rw[zzc];rfl⟩⟩
    ·exact zzl (show _<=8 by show _+1<=8;lia) (by decide)
    ·rw[zza];exact zzw (show l.length<=10 by lia) (by decide)
    ·rcases zzA.mp J with J|J
     ·exact b x J
     ·rw[zzG.mp J];exact o1
    ·by_cases q:j<l.length
     ·rw[zyB q]at J;exact G j x J
     ·rw[zzK (by lia)]at J;have q2:j - l.length=0:=by
       cases q3:j - l.length with
       |zero=>rfl|succ r=>rw[q3]at J;simp at J
      rw[q2]at J;have J:Txt.slice stem none (some z)++(⟨#[c]⟩:Str)=x:=by simpa using J
      subst J;rw[o2,g,show (j:Int)=k by lia]
  ·rintro _ ⟨l,U,M,wd,rfl⟩;exact h l wd
noncomputable abbrev gb(c:ab Int×Row):D:=.tup [ak c.1,.lst (c.2.map aq)]
noncomputable abbrev jL(L:ab (ab Str)):ab D:=(L.map (Txt.join spS)).map D.str
theorem zJ(L:ab (ab Str))(l:ab Str):jL (L++[l])=jL L++[.str (Txt.join spS l)]:=by simp
theorem zK{cells:ab (ab Int×Row)}(o:ShOk hs ms cells)(l:p∈cells){s:Sl}(q:Q ((wds ms p.1).map D.str)) :
  bU (bc 0) bG (dOp gIx (dOp gIx (dOp gIx (dVar 1) (dVar 0)) (dC (.int 1))) (dOp gIx (dVar 2) (dVar 0))) (dh 0 ((p.1.map D.int).length:Int).toNat) [] [s,.val (.lst (ms.map mkD)),.val (ak p.1)] Q:=by
 have m5:=o.m5;have kl:=(o.kl p l).1;have T:(wds ms p.1).length=p.1.length:=by unfold wds;rw[zza,zyV];lia
 have u:(dh 0 ((p.1.map D.int).length:Int).toNat).length=p.1.length:=by rw[fF,zza];lia
 refine aH (λpre J i=>J=((wds ms p.1).map D.str).take pre.length/\∃s,i=[s,.val (.lst (ms.map mkD)),.val (ak p.1)]) (λJ i U=>?_) (λpre d post J i Y e U M=>?_) _ ⟨by simp,_,rfl⟩
 ·obtain⟨rfl,_⟩:=U;rw[u,←T,←zza,List.take_length];exact q
 ·obtain⟨rfl,s,rfl⟩:=U;have N:pre.length<p.1.length:=by
   have:=congrArg List.length e;rw[u,zzg,zzu]at this;lia
  have G:d=.int pre.length:=by
   have j:(dh 0 ((p.1.map D.int).length:Int).toNat)[pre.length]?=some d:=by rw[e,zzK (zzq _)];simp
   rw[km,zzr,zyZ (by rw[zza];lia)]at j;have:=zzS j;rw[←this];simp
  subst G;have v:pre.length<ms.length:=by lia
  have em:ms[pre.length]?=some ms[pre.length]:=zzn v;have L:p.1[pre.length]?=some p.1[pre.length]:=zzn N;obtain⟨C,b1⟩:=o.kk p l pre.length p.1[pre.length] ms[pre.length] L em;have H:(ms[pre.length]).2[(p.1[pre.length]).toNat]?=some ((ms[pre.length]).2.getD (p.1[pre.length]).toNat Str.empty):=by rw[zzx,zzn (by lia)];rfl
  have I:(wds ms p.1)[pre.length]?=some ((ms[pre.length]).2.getD (p.1[pre.length]).toNat Str.empty):=by unfold wds;rw[zzr,(zwh (z:=(ms[pre.length],p.1[pre.length]))).mpr ⟨em,L⟩];rfl
  refine Br.t (au (by lia) (by rw[zzC,zzr,em];rfl) ?_);refine au (by lia) (by rw[zzC,zzr,L];rfl) ?_;refine au C (by rw[zzr,H];rfl) ⟨?_,M _ _ ⟨?_,_,rfl⟩⟩
  ·rw[zyM];exact zzw (show _<=5 by lia) (by decide)
  ·rw[zzg,zxf,List.take_succ,zzr,I];rfl
def KC:DSp:=λds Q=>∃(hs:ab Str) (ms:ab Mk) (i:ab (ab Int×Row)),ds=[nmD hs ms,.lst (i.map gb)]/\ShOk hs ms i/\Q (.str (fP hs ms i))
theorem tz(T:Tx K mg):T.tI.Ok P w base CX0 1 (spD K 2 KC):=by
 refine fnd ["_law_names","_law_cells_here","_law_houses","_law_marks","_law_lines","_law_word","_law_some","_law_kinds","_law_counts","_law_told","_law_house","_law_count","_law_numbers"] (λhr _=>(aa (sA (dv 0) (dg2 2 3)) (aa (dow 4 (aL (da1 (bW ag (aE (gF (aE (aL (da1 ag))) (dv 2))))))) (aw (aN (aB (dv 3)) (dg2 5 6) (ai (cO (pv 4) (bW ag (aE (gF (aE (aL (ac ag (a1 5)))) (dv 6))))))) (aw (aN (aB (dv 1)) (dg2 7 8) (aa (eB 9 (ao ["_law_k","_law_marks","_law_kinds"] [none,some 3,some 7] rfl (bd T.bI (da1 (dln aX T.bv (dv 7)))) (dgb 0) ax (dix (dix (dix (dv 1) (dv 0)) ad) (dix (dv 2) (dv 0))))) (ai (aN (uL T.BZ (a2 2 8)) (dg2 10 11) (ai (dif (ah ik (dx 11) ad) (aa (dse 12 (aE (aL (ac (al dF T.iZ (da1 (dx 11))) (da1 (al dF T.iZ (da1 (dx 11)))))))) (ai (cO (pv 4) (bW ag (aE (gF (aE (gF (aE (aL (ac ag (a1 10)))) (dv 9))) (dv 12))))))))))))) (dr (bW ag (dv 4)))))))) (λds Q g h=>?_);obtain⟨hs,ms,cells,rfl,o,h⟩:=h;have A:∀{n:Nat},n<=1000->n<=sizeLine:=λh=>zzl h (by decide);have h6:=o.h6;have m5:=o.m5;have lb:=sX o;have lf:=eV o;have b1:spS.length=1:=by decide +kernel
 have b0:nlS.length=1:=by decide +kernel
 have a5:∀l,l∈bh hs ms cells->JoinOk spS l=true:=λl g=>cL (lb l g).2 (by have:=(lb l g).1;rw[b1];lia);refine⟨rfl,spS,rfl,sz,A (by simp;lia),aJ::hs,⟨rfl,a5 _ (by unfold bh;simp)⟩,sz,?_⟩;refine⟨λv=>∃Y i C G H L U J:Sl,v=[.val (nmD hs ms),.val (.lst (cells.map gb)),.val (.lst (hs.map .str)),.val (.lst (ms.map mkD)),.own (jL ((aJ::hs)::ms.map mkLn)),Y,i,C,G,H,L,U,J],?_,?_⟩
 ·refine aG (λpre v=>∃(s z:ab Mk) (Y i C G H L U J:Sl),ms=s++z/\pre=s.map mkD/\v=[.val (nmD hs ms),.val (.lst (cells.map gb)),.val (.lst (hs.map .str)),.val (.lst (ms.map mkD)),.own (jL ((aJ::hs)::s.map mkLn)),Y,i,C,G,H,L,U,J]) (λv M=>?_) (λpre d post v X e M hX=>?_) _ ⟨[],ms,_,_,_,_,_,_,_,_,rfl,rfl,rfl⟩
  ·obtain⟨s,z,Y,i,C,G,H,L,U,J,j,q,rfl⟩:=M;have:=congrArg List.length q;rw[j]at this;simp only[zza,zzg]at this;have:z=[]:=zzH.mp (by lia);subst this;rw[zzs]at j;subst j;exact⟨_,_,_,_,_,_,_,_,rfl⟩
  ·obtain⟨s,z,Y,i,C,G,H,L,U,J,j,rfl,rfl⟩:=M;rw[j,zzc]at e;have e:=zzz e;cases z with
   |nil=>simp at e|cons m z =>
    rw[zzj]at e;injection e with q e5;subst q;have hm:m∈ms:=by rw[j];simp
    have hlen:=(o.ml m hm).2.1;have g:=congrArg List.length j;rw[zzg]at g;refine⟨rfl,trivial,spS,rfl,sz,A (by simp;lia),mkLn m,⟨rfl,a5 _ (by unfold bh;simp;exact .inr (.inl ⟨m.1,m.2,hm,rfl⟩))⟩,?_,hX _ ⟨s++[m],z,_,_,_,_,_,_,_,_,by rw[j,zzR];rfl,by rw[zzc];rfl,by rw[zzc,zyE,←zyP,zJ];rfl⟩⟩;exact zzw (show (jL ((aJ::hs)::s.map mkLn)).length<=100 by simp;lia) (by decide)
 ·rintro _ ⟨Y,i,C,G,H,L,U,J,rfl⟩;refine⟨λv=>∃Y i C G H L U J:Sl,v=[.val (nmD hs ms),.val (.lst (cells.map gb)),.val (.lst (hs.map .str)),.val (.lst (ms.map mkD)),.own (jL (bh hs ms cells)),Y,i,C,G,H,L,U,J],?_,?_⟩
  ·refine aG (λpre v=>∃(b k:ab (ab Int×Row)) (Y i C G H L U J:Sl),cells=b++k/\pre=b.map gb/\v=[.val (nmD hs ms),.val (.lst (cells.map gb)),.val (.lst (hs.map .str)),.val (.lst (ms.map mkD)),.own (jL ((aJ::hs)::ms.map mkLn++(b.flatMap (csOf hs ms)).map Cs.ln)),Y,i,C,G,H,L,U,J]) (λv M=>?_) (λpre d post v X e M hX=>?_) _ ⟨[],cells,Y,i,C,G,H,L,U,J,rfl,rfl,by simp⟩
   ·obtain⟨b,k,Y,i,C,G,H,L,U,J,j,q,rfl⟩:=M;have:=congrArg List.length q;rw[j]at this;simp only[zza,zzg]at this;have:k=[]:=zzH.mp (by lia);subst this;rw[zzs]at j;subst j;exact⟨_,_,_,_,_,_,_,_,rfl⟩
   ·obtain⟨b,k,Y,i,C,G,H,L,U,J,j,rfl,rfl⟩:=M;rw[j,zzc]at e;have e:=zzz e;cases k with
    |nil=>simp at e|cons c k =>
     rw[zzj]at e;injection e with q e5;subst q;have E:c∈cells:=by rw[j];simp
     have kl:=(o.kl c E).1;have hr:=(o.kl c E).2;have e6:((c.1.map D.int).length:Int)=c.1.length:=by rw[zza]
     refine⟨rfl,⟨by lia,by lia⟩,zK o E ?_⟩;have ez:∀(ws:ab Str) (r:Row),zipD (ws.map D.str) (r.map aq)=(ws.zip r).map λp=>D.tup [.str p.1,aq p.2]:=λws=>by
      induction ws with
      |nil=>intro r;cases r<;>rfl
      |cons x ws ih =>
       intro r;cases r with
       |nil=>rfl|cons m r=>rw[zzj,zzj,zipD,ih,zyF,zzj]
     show cX _ _ (zipD (hs.map D.str) (c.2.map aq)) _ _;rw[ez];have a6:∀u:ab (Str×(Int×Int)),hs.zip c.2=u->csOf hs ms c=(u.filter λp=>decide (0<p.2.1)).map λp=>⟨p.1,wds ms c.1,numS p.2.1,numS p.2.2,p.2.1.toNat,p.2.2.toNat⟩:=λu h=>by rw[←h];rfl
     have a9:∀I u:ab (Str×(Int×Int)),hs.zip c.2=I++u->((aJ::hs)::ms.map mkLn++(b.flatMap (csOf hs ms)).map Cs.ln++((I.filter λp=>decide (0<p.2.1)).map λp=>(⟨p.1,wds ms c.1,numS p.2.1,numS p.2.2,p.2.1.toNat,p.2.2.toNat⟩:Cs)).map Cs.ln).length<=60:=λI u h=>by have:=lf;unfold bh at this;rw[j,zyL,zyK,a6 _ h,zya,zzc]at this;simp only[zzg,zza,zzu]at this ⊢;lia
     refine aG (λpre v=>∃(I u:ab (Str×(Int×Int))) (Y i L U J:Sl),hs.zip c.2=I++u/\pre=I.map (λp=>D.tup [.str p.1,aq p.2])/\v=[.val (nmD hs ms),.val (.lst (cells.map gb)),.val (.lst (hs.map .str)),.val (.lst (ms.map mkD)),.own (jL ((aJ::hs)::ms.map mkLn++(b.flatMap (csOf hs ms)).map Cs.ln++((I.filter λp=>decide (0<p.2.1)).map λp=>(⟨p.1,wds ms c.1,numS p.2.1,numS p.2.2,p.2.1.toNat,p.2.2.toNat⟩:Cs)).map Cs.ln)),Y,i,.val (ak c.1),.val (.lst (c.2.map aq)),.val (.lst ((wds ms c.1).map .str)),L,U,J]) (λv M=>?_) (λpre d post v X' e M a7=>?_) _ ⟨[],_,Y,i,L,U,J,rfl,rfl,by simp⟩
     ·obtain⟨I,u,Y,i,L,U,J,N,e8,rfl⟩:=M;have:=congrArg List.length e8;rw[N]at this;simp only[zza,zzg]at this;have:u=[]:=zzH.mp (by lia);subst this;rw[zzs]at N;refine hX _ ⟨b++[c],k,Y,i,.val (ak c.1),.val (.lst (c.2.map aq)),.val (.lst ((wds ms c.1).map .str)),L,U,J,by rw[j];simp,by rw[zzc];rfl,?_⟩;rw[zyL,zyK,zwA,zzs,a6 _ N,zzc,←zzR]
     ·obtain⟨I,u,Y,i,L,U,J,N,rfl,rfl⟩:=M;rw[N,zzc]at e;have e:=zzz e;cases u with
      |nil=>simp at e|cons p u =>
       rw[zzj]at e;injection e with e8 e9;subst e8;have hp:p∈hs.zip c.2:=by rw[N];simp
       obtain⟨hp1,b2⟩:=zyT hp;have cn:=hr.2 p.2 b2;refine⟨rfl,λa=>?_,λa=>?_⟩
       ·have a:=zzO a;have wl:=nW ms c.1;have a8:(⟨p.1,wds ms c.1,numS p.2.1,numS p.2.2,p.2.1.toNat,p.2.2.toNat⟩:Cs).ln∈bh hs ms cells:=by
         unfold bh;refine zye _ (zzf.mpr ⟨_,zxa.mpr ⟨c,E,zzf.mpr ⟨p,zzQ.mpr ⟨hp,by simpa using a⟩,rfl⟩⟩,rfl⟩)
        refine⟨fQ cn.bt (by decide),fQ cn.bw (by decide),sz,trivial,spS,rfl,sz,A (by simp;lia),A (by simp;lia),(⟨p.1,wds ms c.1,numS p.2.1,numS p.2.2,p.2.1.toNat,p.2.2.toNat⟩:Cs).ln,⟨?_,a5 _ a8⟩,?_,a7 _ ⟨I++[p],u,Y,i,.val (.str p.1),.val (aq p.2),.val (.lst [.str (numS p.2.1),.str (numS p.2.2)]),by rw[N];simp,by rw[zzc];rfl,?_⟩⟩
        ·unfold Cs.ln;rw[zzc];rfl
        ·rw[zza,zza];exact zzw (zzl (a9 I _ N) (by decide)) (show 100<sizeLine by decide)
        ·rw[zya,zyd (by simpa using a),List.filter_nil,zzc,zzc,zyE,zyE,←zzR,zJ];rfl
       ·have a:=zyg a;refine a7 _ ⟨I++[p],u,Y,i,.val (.str p.1),.val (aq p.2),J,by rw[N];simp,by rw[zzc];rfl,?_⟩;rw[zya,zzZ (by simpa using a),List.filter_nil,zzs];rfl
  ·rintro _ ⟨Y,i,C,G,H,L,U,J,rfl⟩;refine⟨nlS,rfl,_,⟨rfl,cL (B:=492) (λy hy=>?_) ?_⟩,h⟩
   ·obtain⟨l,g,rfl⟩:=zzf.mp hy;exact nY (B:=40) (lb l g).2 (lb l g).1
   ·rw[zza,b0];lia
structure UnOk(r:Row):Prop where
 n:RowN 95 2 r
 p:∀c∈r,0<c.1
def gUn:DSp:=λds Q=>ds=[.pen]/\∀J L:Row,UnOk J->UnOk L->Q (.lst [rowD J,rowD L])
theorem IG{w t' L:Int}(i:0<=w/\w<=s/\0<s/\s<100000)(j:0<=L/\L<=t'/\0<t'/\t'<100000):UnOk [(s,w),(t',L)]:=by
 have e:(2:Nat)^95=39614081257132168796771975168:=by decide
 have c:∀{s w:Int},0<=w/\w<=s/\0<s/\s<100000->Cnt 95 s w:=λh=>mq h.1 h.2.1 (by unfold Bd;rw[e];lia);refine⟨⟨rfl,λx J=>?_⟩,λx J=>?_⟩<;>simp only[zzi,zzW,zyD]at J<;>rcases J with rfl|rfl
 ·exact c i
 ·exact c j
 ·exact i.2.2.1
 ·exact j.2.2.1
theorem UnOk.rev(o:UnOk r):UnOk r.reverse:=⟨⟨by rw[zwM];exact o.n.1,λc J=>o.n.2 c (List.mem_reverse.mp J)⟩,λc J=>o.p c (List.mem_reverse.mp J)⟩
theorem oh(T:Tx K mg):T.oC.Ok P w base CX0 2 (spD K 1 gUn):=by
 refine fnd ["_law_pen_here","_law_by","_law_low","_law_high","_law_size","_law_one"] (λL _=>(aa (dse 1 (ar bB ad (dcl (aC T) L (ac (dv 0) (da1 ad))))) (aa (dse 2 (dcl (aC T) L (ac (dv 0) (da1 ad)))) (aa (dse 3 (ar bB (ar bB (dv 2) ad) (dcl (aC T) L (ac (dv 0) (da1 ad))))) (aw (dse 4 (ar bB (ar bB (dv 3) ad) (dcl (aC T) L (ac (dv 0) (da1 ad))))) (aa (dow 5 (aL (da1 (ay (ac (ay (ac (ar bR (dv 1) (dv 4)) (da1 (ar bR (dv 1) (ar bB (dv 2) ad))))) (da1 (ay (a2 4 2)))))))) (aa (cO (pv 5) (ay (ac (ay (ac (dv 4) (da1 (ar bB (dv 3) ad)))) (da1 (ay (ac (ar bR (dv 1) (dv 4)) (da1 (ar bR (dv 1) (dv 3))))))))) (aw (dif (ah (aW L) (dcl (aC T) L (ac (dv 0) (da1 ad))) ad) (ai (Es 5 (ao ["_law_part"] [none] rfl (aB (dv 5)) (dgb 0) ax (Hs (dv 0) (fJ cN ad)))))) (dr (dv 5)))))))))) (λds Q hl h=>?_);obtain⟨rfl,h⟩:=h;have U:∀{i j:Int},0<=i->i<1000->CMulB i j:=λa b=>.inl ⟨by lia,by lia⟩;refine⟨rfl,⟨by decide,by decide⟩,λx x0 x1=>⟨rfl,⟨by decide,by decide⟩,λlo G l1=>⟨rfl,⟨by decide,by decide⟩,λy y0 y1=>⟨λo=>∃q lo hi J:Int,(2<=q/\q<=61/\0<=lo/\lo+2<=hi/\hi+1<=J/\J<=30)/\o=[.val .pen,.val (.int q),.val (.int lo),.val (.int hi),.val (.int J),.nil],⟨rfl,⟨by decide,by decide⟩,λz z0 z1=>⟨2+x,lo,lo+2+y,lo+2+y+1+z,⟨by lia,by lia,by lia,by lia,by lia,by lia⟩,rfl⟩⟩,?_⟩⟩⟩⟩;rintro _ ⟨q,lo,hi,J,⟨q2,q61,G,lh,hs,s30⟩,rfl⟩;have H:q*(lo+1)<=q*J:=Int.mul_le_mul_of_nonneg_left (by lia) (by lia);have I:q*hi<=q*J:=Int.mul_le_mul_of_nonneg_left (by lia) (by lia);have u:0<q*J:=zwQ (by lia) (by lia);have m4:q*J<=61*30:=Int.mul_le_mul (by lia) (by lia) (by lia) (by decide);have M:0<=q*(lo+1):=Int.mul_nonneg (by lia) (by lia);have N:0<=q*hi:=Int.mul_nonneg (by lia) (by lia);have v:UnOk [(q*J,q*(lo+1)),(J,lo)]:=IG ⟨M,H,u,by lia⟩ ⟨by lia,by lia,by lia,by lia⟩;have C:UnOk [(J,hi+1),(q*J,q*hi)]:=IG ⟨by lia,by lia,by lia,by lia⟩ ⟨N,I,u,by lia⟩;refine⟨U (by lia) (by lia),U (by lia) (by lia),sz,sz,sz,sz,?_⟩;refine⟨trivial,sz,U (by lia) (by lia),U (by lia) (by lia),sz,sz,sz,?_⟩;refine⟨λo=>∃Y l:Row,UnOk Y/\UnOk l/\o=[.val .pen,.val (.int q),.val (.int lo),.val (.int hi),.val (.int J),.own [rowD Y,rowD l]],?_,?_⟩
 ·refine⟨rfl,⟨by decide,by decide⟩,λw w0 w1=>⟨⟨rfl,rfl⟩,λe=>?_,λe=>⟨_,_,v,C,rfl⟩⟩⟩;exact Br.t ⟨rfl,sz,Br.t ⟨rfl,sz,_,_,v.rev,C.rev,rfl⟩⟩
 ·rintro _ ⟨Y,l,c,d,rfl⟩;exact h Y l c d
noncomputable def embL(f:ab (ab Int×Row)):ab (ab Key×D):=f.map λp=>(kI p.1,.lst (p.2.map aq))
def KsOk(ms ks:ab Int):Prop:=ks.length=ms.length/\∀i,i<ks.length->0<=ks.getD i 0/\ks.getD i 0<ms.getD i 0
theorem KsOk.snoc(h:KsOk k b){r:Int}(r0:0<=r)(J:r<x):KsOk (k++[x]) (b++[r]):=by
 obtain⟨j,l⟩:=h;refine⟨by simp[j],λi o=>?_⟩;rw[zzg,zxf]at o;rw[zzx,zzx];by_cases z:i<b.length
 ·have:=l i z;rw[zyB z,zyB (by lia)];exact this
 ·have e:i=b.length:=by lia
  subst e;rw[zzK (zzq _),zzK (by lia),zxO,←j,zxO];exact⟨r0,J⟩
structure FOk(m:Nat)(ms:List Int)(f:List (List Int×Row)):Prop where
 nd:(f.map (·.1)).Nodup
 it:∀p∈f,KsOk ms p.1/\RowN 95 m p.2/\eK p.2
theorem FOk.put{f:ab (ab Int×Row)}(h:FOk m b f)(i:KsOk b k)(j:RowN 95 m r/\eK r):∃L,putA (embL f) (kI k) (.lst (r.map aq))=embL L/\FOk m b L/\L.length<=f.length+1:=by
 have l:((embL f).any λq=>decide (q.1=kI k))=f.any λq=>decide (q.1=k):=by unfold embL;rw[List.any_map];congr 1;funext q;simp[wE]
 unfold putA;rw[l];by_cases a:(f.any λq=>decide (q.1=k))=true
 ·rw[zzk a];refine⟨f.map λp=>if p.1=k then(p.1,r) else p,?_,⟨?_,λp J=>?_⟩,by rw[zza];lia⟩
  ·unfold embL;rw[zzo,zzo];apply zzF;intro p _;simp only[Function.comp,wE];split<;>rfl
  ·rw[zzo];have:f.map ((λx=>x.1) ∘ λp=>if p.1=k then(p.1,r) else p)=f.map (·.1):=by
    apply zzF;intro p _;simp only[Function.comp];split<;>rfl
   rw[this];exact h.nd
  ·obtain⟨q,U,rfl⟩:=zzf.mp J;split
   ·rename_i e;exact⟨by rw[e];exact i,j⟩
   ·exact h.it q U
 ·rw[zzh a];refine⟨f++[(k,r)],by unfold embL;rw[zzc];rfl,⟨?_,λp J=>?_⟩,by simp⟩
  ·rw[zzc];refine zxj.mpr ⟨h.nd,by simp,λx o y Y e=>?_⟩;have Y:y=k:=by simpa using Y
   subst Y;subst e;obtain⟨q,U,e⟩:=zzf.mp o;exact a (zyq.mpr ⟨q,U,by simpa using e⟩)
  ·rcases zzA.mp J with J|J
   ·exact h.it p J
   ·rw[zzG.mp J];exact⟨i,j⟩
theorem IH{f:ab (ab Int×Row)}(h:k∈f.map (·.1)):∃p∈f,p.1=k/\bu (embL f) (kI k)=some (.lst (p.2.map aq)):=by
 induction f with
 |nil=>simp at h|cons q t L =>
  by_cases e:q.1=k
  ·refine⟨q,zze,e,?_⟩;unfold bu embL;rw[zzj,zzX (by simpa[wE]using e)];rfl
  ·have i:k∈t.map (·.1):=by
    rcases zzi.mp h with h|h
    ·exact absurd h.symm e
    ·exact h
   obtain⟨p,j,l,J⟩:=L i;refine⟨p,zzb _ j,l,?_⟩;unfold bu embL at J ⊢;rw[zzj,zzY (by simpa[wE]using e)];exact J
theorem KD(J:ab (ab Key×D)):fzO (dvO J)=.dT (J.map (·.1)) (J.map (·.2)):=by unfold dvO;simp only[fzO];congr 1;rw[jh,zzo];apply zzF;intro p _;simp only[Function.comp,fzO]
theorem qJ(hs:∀x∈k,1<=x/\x<=1000)(H:k.length<=10){s:Sl}(q:∀ks,KsOk k ks->Q (ks.map D.int)) :
  bU (bc 0) bG (rW 2 AZ (aF (dVar 1) (aF (dVar 0) cF))) (k.map D.int) [] [s,.val .pen] Q:=by
 refine aH (λpre L o=>∃s0 j ks:ab Int,k=s0++j/\pre=s0.map D.int/\L=ks.map D.int/\KsOk s0 ks/\∃s,o=[s,.val .pen]) (λL o l=>?_) (λpre d post L o Y e l C=>?_) _ ⟨[],k,[],rfl,rfl,rfl,⟨rfl,λi G=>absurd G (zxx i)⟩,_,rfl⟩
 ·obtain⟨s0,j,ks,J,u,rfl,U,_⟩:=l;have:j=[]:=by
   have:=congrArg List.length u;rw[J]at this;simp at this;exact this
  subst this;rw[zzs]at J;rw[←J]at U;exact q ks U
 ·obtain⟨s0,j,ks,J,rfl,rfl,U,s,rfl⟩:=l;rw[J,zzc]at e;have e:=zzz e;cases j with
  |nil=>simp at e|cons x j =>
   injection e with v e4;subst v;have hx:=hs x (by rw[J];simp);rw[J,zzg]at H;refine Br.t ⟨rfl,⟨by lia,by lia⟩,λr I M=>⟨?_,C _ _ ⟨s0++[x],j,ks++[r],by rw[J];simp,by simp,by simp,U.snoc I M,_,rfl⟩⟩⟩;rw[zza,U.1];exact zzw (show s0.length<=10 by lia) (by decide)
structure ClOk(m:Nat)(ss:List Int)(f:List (List Int×Row)):Prop where
 o:FOk m ss f
 ne:f≠[]
 l8:f.length <= 8
noncomputable def eG(f:ab (ab Int×Row)):D:=.dT (f.map λp=>kI p.1) (f.map λp=>.lst (p.2.map aq))
theorem Fp(f:ab (ab Int×Row)):fzO (dvO (embL f))=eG f:=by rw[KD];unfold eG embL;rw[zzo,zzo];rfl
def II:DSp:=λds Q=>∃(i:ab Int) (m:Nat),ds=[.pen,.lst (i.map .int),.int m]/\((1<=i.length/\i.length<=3/\∀x∈i,2<=x/\x<=6)/\2<=m/\m<=3)/\∀f,ClOk m i f->Q (eG f)
theorem Da{f:ab (ab Int×Row)}{d:D}(e:putA (embL f) (kI k) d=embL ps):ps≠[]:=by
 rintro rfl;have:=congrArg List.length e;unfold putA embL at this;split at this
 ·rename_i z;rw[zza,zza]at this;have:f=[]:=zzH.mp this;subst this;simp at z
 ·simp at this
theorem KsOk.cons(h:KsOk k b){x r:Int}(r0:0<=r)(J:r<x):KsOk (x::k) (r::b):=by
 refine⟨by simp[h.1],λi j=>?_⟩;cases i with
 |zero=>exact⟨r0,J⟩|succ i=>exact h.2 i (by simpa using j)
theorem IJ(m2:2<=m)(m3:m<=3)(o:UnOk r):RowN 95 m (r++List.replicate (m - 2) (1,1))/\eK (r++List.replicate (m - 2) (1,1)):=by
 refine⟨⟨by rw[zzg,o.n.1,zxI];lia,λc J=>?_⟩,?_⟩
 ·rcases zzA.mp J with J|J
  ·exact o.n.2 c J
  ·rw[zyG J];exact mq (by decide) (by decide) (by unfold Bd;decide)
 ·have l:=o.n.1;cases r with
  |nil=>simp at l|cons c t=>exact⟨c,by simp,o.p c zze⟩
theorem qK(T:Tx K mg):T.qZ.Ok P w base CX0 3 (spD K 3 II):=by
 refine fnd ["_law_pen_here","_law_sizes","_law_many","_law_found","_law_turn","_law_counts","_law_house","_law_tried","_law_rest","_law_kind","_law_part"] (λI _=>(aa (nH 3) (aw (aN (bd T.bI (da1 (ar bB ad (dcl (aC T) I (ac (dv 0) (da1 ad)))))) (dgn 4) (aa (dow 5 (aL bK)) (aw (aN (bd T.bI (a1 2)) (dgn 6) (aa (dse 7 (dcl (aC T) I (ac (dv 0) (da1 ad)))) (ai (cO (pv 5) (ay (ac (dv 7) (da1 (dcl (aC T) I (ac (dv 0) (da1 (ar bB (dv 7) ad))))))))))) (aw (sA (ay (ac (ar bB (dix (Ct (pv 5) ad (λ_ _=>rfl)) ad) ad) (da1 (dix (Ct (pv 5) ad (λ_ _=>rfl)) ad)))) (Cr (pv 5) ad)) (ai (yU I (pv 3) (al bM T.cz (da1 (dfc (ao ["_law_size","_law_pen_here"] [none,some 0] rfl (aB (dv 1)) (dgb 0) ax (dcl (aC T) I (a2 1 0)))))) (dv 5))))))) (aw (dif (ah (aW I) (dcl (aC T) I (ac (dv 0) (da1 ad))) ad) (aa (dse 8 (al bM T.cz (da1 (dfc (ao ["_law_size","_law_pen_here"] [none,some 0] rfl (aB (aE (gE (dv 1) (cJ ad) eA))) (dgb 0) ax (dcl (aC T) I (a2 1 0))))))) (aa (nH 3) (ai (aN (sB T.dg (da1 (dcl (oh T) I (a1 0)))) (dg2 9 10) (ai (yU I (pv 3) (ar Eo (ay (a1 9)) (dv 8)) (aE (gF (aE (su rfl T.Aj rfl (dv 10))) (aE (yS (aE (aL (da1 (ay (ac ad (da1 ad)))))) (ar jW (dv 2) ad)))))))))))) (dr (dv 3)))))) (λds Q hl h=>?_);obtain⟨H,m,rfl,⟨⟨s1,s3,sb⟩,m2,m3⟩,h⟩:=h;have a4:∀x∈H,1<=x/\x<=1000:=λx hx=>by have:=sb x hx;lia
 have lt:∀{n:Nat},n<=100->n<sizeLine:=λh=>zzw h (by decide);have el:∀f:ab (ab Int×Row),(embL f).length=f.length:=λf=>by unfold embL;rw[zza]
 refine⟨λl=>∃f,ClOk m H f/\∃v C L U G u J:Sl,l=[.val .pen,.val (.lst (H.map .int)),.val (.int m),.obj (dvO (embL f)),v,C,L,U,G,u,J],⟨rfl,⟨by decide,by decide⟩,λn n0 n1=>⟨⟨by lia,by lia⟩,?_⟩⟩,?_⟩
 ·refine fq (λk l=>∃f,FOk m H f/\(f.length:Int)<=k/\(0<k->f≠[])/\∃v C L U G u J:Sl,l=[.val .pen,.val (.lst (H.map .int)),.val (.int m),.obj (dvO (embL f)),v,C,L,U,G,u,J]) _ _ ?_ ?_ _ ⟨[],⟨zxm,λp B=>by simp at B⟩,by simp,λz=>absurd z (by decide),_,_,_,_,_,_,_,rfl⟩
  ·rintro l ⟨f,N,fl,fn,v,C,L,U,G,u,J,rfl⟩;exact⟨f,⟨N,fn (by lia),by lia⟩,_,_,_,_,_,_,_,rfl⟩
  ·rintro k l X k0 k1 ⟨f,N,fl,fn,v,C,L,U,G,u,J,rfl⟩ hX;refine⟨sz,λl=>∃r:Row,RowN 94 m r/\∃L U:Sl,l=[.val .pen,.val (.lst (H.map .int)),.val (.int m),.obj (dvO (embL f)),.val (.int k),.own (r.map aq),L,U,G,u,J],⟨⟨by lia,by lia⟩,?_⟩,?_⟩
   ·rw[zzC];refine fG (λi l=>∃r:Row,RowN 94 i r/\∃L U:Sl,l=[.val .pen,.val (.lst (H.map .int)),.val (.int m),.obj (dvO (embL f)),.val (.int k),.own (r.map aq),L,U,G,u,J]) (λl A=>A) (λi l Y li A hY=>?_) _ ⟨[],⟨rfl,λc a=>by simp at a⟩,_,_,rfl⟩;obtain⟨r,M,L,U,rfl⟩:=A;refine⟨rfl,⟨by decide,by decide⟩,λt t0 t1=>⟨trivial,rfl,⟨by lia,by lia⟩,λw w0 w1=>⟨sz,?_,hY _ ⟨r++[(t,w)],⟨by simp[M.1],λc a=>?_⟩,_,_,by rw[zzc];rfl⟩⟩⟩⟩
    ·rw[zza,M.1];exact lt (by lia)
    ·rcases zzA.mp a with a|a
     ·exact M.2 c a
     ·rw[zzG.mp a];exact mq w0 (by show w<=t;lia) (zzJ (show t.natAbs<12 by lia) (by decide))
   ·rintro _ ⟨r,M,L,U,rfl⟩;obtain⟨c,rt,rfl⟩:∃c rt,r=c::rt:=by
     cases r with
     |nil=>have:=M.1;simp at this;lia|cons c rt=>exact⟨c,rt,rfl⟩
    have co:=M.2 c zze;have clo:=co.lo;have chi:=co.hi;have E:RowN 95 m ((c.1+1,c.2)::rt):=⟨M.1,λd hd=>by
     rcases zzi.mp hd with rfl|hd
     ·exact mq co.lo (by show c.2<=c.1+1;lia) (by
       have:=co.bt;unfold Bd at this ⊢;show (c.1+1).natAbs<_;have e1:(2:Nat)^94=19807040628566084398385987584:=by decide
       have e2:(2:Nat)^95=39614081257132168796771975168:=by decide
       rw[e1]at this;rw[e2];lia)
     ·exact(M.2 d (zzb _ hd)).mono (by decide)⟩
    have tr:eK ((c.1+1,c.2)::rt):=⟨_,zze,by show 0<c.1+1;lia⟩;refine⟨λl=>l=[.val .pen,.val (.lst (H.map .int)),.val (.int m),.obj (dvO (embL f)),.val (.int k),.own (((c.1+1,c.2)::rt).map aq),L,U,G,u,J],?_,?_⟩
    ·exact⟨trivial,au (d:=aq c) (zzN 0) rfl ⟨trivial,au (d:=aq c) (zzN 0) rfl ⟨sz,trivial,0,yR (zzN 0) (by simp),rfl⟩⟩⟩
    ·rintro _ rfl;refine⟨trivial,qJ a4 (by lia) λks s=>?_⟩;obtain⟨f',e,a5,fl'⟩:=N.put (k:=ks) (r:=(c.1+1,c.2)::rt) s ⟨E,tr⟩;refine⟨embL f,kI ks,rfl,cx ks,by rw[el];exact lt (by lia),?_⟩;rw[e];exact hX _ ⟨f',a5,by lia,λ_=>Da e,_,_,_,_,_,_,_,rfl⟩
 ·rintro _ ⟨f,N,v,C,L,U,G,u,J,rfl⟩;refine⟨λl=>∃f,ClOk m H f/\∃v C L U G u J:Sl,l=[.val .pen,.val (.lst (H.map .int)),.val (.int m),.obj (dvO (embL f)),v,C,L,U,G,u,J],⟨rfl,⟨by decide,by decide⟩,λq q0 q1=>⟨⟨rfl,rfl⟩,λe=>?_,λe=>⟨f,N,_,_,_,_,_,_,_,rfl⟩⟩⟩,?_⟩
  ·obtain⟨x,xs,rfl⟩:∃x xs,H=x::xs:=by
    cases H with
    |nil=>simp at s1|cons x xs=>exact⟨x,xs,rfl⟩
   have x2:=sb x zze;have ec:cutD ((x::xs).map D.int) (some 1) none=xs.map D.int:=cR D.int 1 (x::xs) (by simp);have a0:∀n:Nat,(List.replicate n [D.tup [.int 1,.int 1]]).flatten=(List.replicate n ((1,1):Int×Int)).map aq:=λn=>by
    induction n with
    |zero=>rfl|succ n ih=>rw[zys,zys,zxE,zzj,ih];rfl
   show bU _ _ _ (cutD ((x::xs).map D.int) (some 1) none) _ _ _;rw[ec];refine qJ (λy hy=>a4 y (zzb _ hy)) (by simp at s3;lia) λks s=>?_;refine⟨rfl,rfl,λr1 E o1 o2=>?_⟩;have one:∀(i:Int) (r:Row) (g:ab (ab Int×Row)) (u J:Sl) (nx bk ct:DS->Prop),UnOk r->0<=i->i<2->FOk m (x::xs) g->g.length<=2->(∀b,FOk m (x::xs) b->b≠[]->b.length<=g.length+1->nx [.val .pen,.val (.lst ((x::xs).map .int)),.val (.int m),.obj (dvO (embL b)),v,C,L,U,.val (ak ks),.val (.int i),.val (rowD r)]) ->
     HC 3 (dOp Hk (dTup (aF (dVar 9) cF)) (dVar 8)) (dFrz (Hv (dFrz (yK (dVar 10))) (dFrz (Hw (dFrz (dLst (aF (dTup (aF (dC (D.int 1)) (aF (dC (D.int 1)) cF))) cF))) (dOp (g2I0 λi j=>D.int (i - j)) (dVar 2) (dC (D.int 2)))))))
      {nx:=nx,rt:=Q,bk:=bk,ct:=ct} [.val .pen,.val (.lst ((x::xs).map .int)),.val (.int m),.obj (dvO (embL g)),v,C,L,U,.val (ak ks),.val (.int i),.val (rowD r)]:=λi r g u J nx bk ct o i0 i1 go gl q=>by
    obtain⟨M,rt⟩:=IJ m2 m3 o;obtain⟨b,e,a7,a6⟩:=go.put (k:=i::ks) (r:=r++List.replicate (m - 2) (1,1)) (s.cons i0 (by lia)) ⟨M,rt⟩;have en:((m:Int) - 2).toNat=m - 2:=by lia
    refine⟨sz,sz,⟨⟨by lia,by lia⟩,?_⟩,?_⟩
    ·rw[en];exact zzl (show 1*(m - 2)<=6 by lia) (by decide)
    show (_<=_)/\_;rw[en,a0,←zzc];have kl:ks.length<=3:=by rw[s.1];simp at s3;lia
    refine⟨?_,trivial,sz,⟨by simp,?_⟩,embL g,kI (i::ks),rfl,cx (i::ks),by rw[el];exact lt (by lia),?_⟩
    ·rw[zza,zza,o.n.1,zxI];exact zzl (show 2+(m - 2)<=6 by lia) (by decide)
    ·rw[zza];exact zzl (show 1+ks.length<=6 by lia) (by decide)
    ·show nx [.val .pen,.val (.lst ((x::xs).map .int)),.val (.int m),.obj (dvO (putA (embL g) (kI (i::ks)) _)),v,C,L,U,.val (ak ks),.val (.int i),.val (rowD r)];rw[e];exact q b a7 (Da e) a6
   refine⟨rfl,one 0 r1 [] .nil .nil _ _ _ o1 (by decide) (by decide) ⟨zxm,λp B=>by simp at B⟩ (by simp) λg1 f1 n1 l1=>⟨rfl,one 1 E g1 .nil .nil _ _ _ o2 (by decide) (by decide) f1 (by simp at l1;lia) λg2 f2 n2 l2=>⟨g2,⟨f2,n2,by simp at l1;lia⟩,_,_,_,_,_,_,_,rfl⟩⟩⟩
  ·rintro _ ⟨f,N,v,C,L,U,G,u,J,rfl⟩;show Q (fzO (dvO (embL f)));rw[Fp];exact h f N
noncomputable def embS(m:Nat)(g:ab (ab Int×ab Row)):ab (ab Key×ab D):=g.map λp=>(kI p.1,(sums p.2 m).map aq)
theorem mF{p:ab Int×ab Row}(e:p.1=k):aI (p::g) k=p.2:=by unfold aI;rw[zzX (by simpa using e)];rfl
theorem mG{p:ab Int×ab Row}(e:p.1≠k):aI (p::g) k=aI g k:=by unfold aI;rw[zzY (by simpa using e)]
theorem zL(m:Nat)(k:ab Int):∀g:ab (ab Int×ab Row),(k∈g.map (·.1)/\bu (embS m g) (kI k)=some ((sums (aI g k) m).map aq))∨(k∉g.map (·.1)/\bu (embS m g) (kI k)=none/\aI g k=[])
 |[]=>.inr ⟨by simp,rfl,rfl⟩|p::t=>by
  by_cases e:p.1=k
  ·refine .inl ⟨by simp[e],?_⟩;rw[mF e];exact cY (p:=(kI p.1,(sums p.2 m).map aq)) (by rw[e])
  ·have J:bu (embS m (p::t)) (kI k)=bu (embS m t) (kI k):=bX λz=>e (iL z);rw[J,mG e];rcases zL m k t with ⟨i,j⟩|⟨i,j⟩
   ·exact .inl ⟨by rw[zzj];exact zzb _ i,j⟩
   ·exact .inr ⟨by rw[zzj];intro z;rcases zzi.mp z with z|z;exact e z.symm;exact i z,j⟩
theorem zM(m:Nat)(k:ab Int)(r:Row):∀g:ab (ab Int×ab Row),k∈g.map (·.1)->setA (kI k) ((sums (aI g k++[r]) m).map aq) (embS m g)=embS m (addG k r g)
 |[],h=>by simp at h
 |p::t,h=>by
  show setA _ _ ((kI p.1,(sums p.2 m).map aq)::embS m t)=_;unfold setA addG;by_cases e:p.1=k
  ·rw[zzk (show (kI p.1,(sums p.2 m).map aq).1=kI k by rw[e]),zzk e,mF e];rfl
  ·rw[zzh (show ¬(kI p.1,(sums p.2 m).map aq).1=kI k from λz=>e (iL z)),zzh e,mG e,zM m k r t (by rw[zzj]at h;rcases zzi.mp h with h|h;exact absurd h.symm e;exact h)];rfl
theorem zN(m:Nat)(k:ab Int)(r:Row)(z:ab D):∀g:ab (ab Int×ab Row),k∉g.map (·.1)->setA (kI k) ((sums [r] m).map aq) (embS m g++[(kI k,z)])=embS m (addG k r g)/\bu (embS m g++[(kI k,z)]) (kI k)=some z
 |[],_=>⟨by show setA _ _ [(kI k,z)]=_;unfold setA;rw[zzk rfl];rfl,cY rfl⟩|p::t,h=>by
  have e:p.1≠k:=λe=>h (by simp[e]);obtain⟨i,j⟩:=zN m k r z t λq=>h (by rw[zzj];exact zzb _ q);have ne:¬(kI p.1,(sums p.2 m).map aq).1=kI k:=λz=>e (iL z);refine⟨?_,?_⟩
  ·show setA _ _ ((kI p.1,(sums p.2 m).map aq)::(embS m t++[(kI k,z)]))=_;unfold setA addG;rw[zzh ne,zzh e,i];rfl
  ·show bu ((kI p.1,(sums p.2 m).map aq)::(embS m t++[(kI k,z)])) _=_;rw[bX ne];exact j
theorem qL{k:ab Key}{i:ab D}:∀{l:ab (ab Key×ab D)},bu l k=some i->setA k i l=l
 |[],h=>by cases h
 |p::l,h=>by
  unfold setA;by_cases e:p.1=k
  ·rw[cY e]at h;rw[zzk e,←zzS h]
  ·rw[bX e]at h;rw[zzh e,qL h]
theorem mH{k:ab Key}{es es':ab D}:∀{l:ab (ab Key×ab D)},setA k es (setA k es' l)=setA k es l
 |[]=>rfl|p::l=>by
  by_cases e:p.1=k
  ·simp only[setA,e,if_true]
  ·simp only[setA,zzh e];rw[mH]
theorem qM{k:ab Key}{es es':ab D}:∀{l:ab (ab Key×ab D)},bu l k=some es->bu (setA k es' l) k=some es'
 |[],h=>by cases h
 |p::l,h=>by
  unfold setA;by_cases e:p.1=k
  ·rw[zzk e];exact cY e
  ·rw[zzh e,bX e];rw[bX e]at h;exact qM h
noncomputable def mixS(rows:ab Row)(row:Row)(m h:Nat):Row:=(List.range m).map λi=>if i<h then sumP (col (rows++[row]) i) else sumP (col rows i)
theorem KE(rows:ab Row)(row:Row)(m:Nat):mixS rows row m 0=sums rows m:=by exact zzF λi _=>zzh (zxx i)
theorem KF(rows:ab Row)(row:Row)(m:Nat):mixS rows row m m=sums (rows++[row]) m:=by exact zzF λi j=>zzk (zyo.mp j)
theorem IK(rows:ab Row)(row:Row){h:Nat}(lt:h<m):(mixS rows row m h)[h]?=some (sumP (col rows h)):=by unfold mixS;rw[zzr,zyZ lt];simp
theorem Fq(rows:ab Row)(row:Row){h:Nat}(lt:h<m):(mixS rows row m h).set h (sumP (col (rows++[row]) h))=mixS rows row m (h+1):=by
 apply List.ext_getElem?;intro i;unfold mixS;rw[List.getElem?_set];by_cases e:h=i
 ·subst e;rw[zzk rfl,zzk (by simpa using lt),zzr,zyZ lt];simp
 ·rw[zzh e,zzr,zzr];by_cases J:i<m
  ·rw[zyZ J];simp only[Option.map_some,zwp];by_cases q:i<h
   ·rw[zzk q,zzk (by lia)]
   ·rw[zzh q,zzh (by lia)]
  ·rw[List.getElem?_eq_none (by simpa using J)];rfl
theorem BM(rows:ab Row)(row:Row)(h:Nat):sumP (col (rows++[row]) h)=((sumP (col rows h)).1+(at_ row h).1,(sumP (col rows h)).2+(at_ row h).2):=by unfold col sumP;simp
theorem IL(i:ab (ab Key×ab D)):fzO (dlO i)=.dT (i.map (·.1)) (i.map λp=>.lst p.2):=by unfold dlO;refine congr (congrArg D.dT rfl) ?_;rw[jh,zzo];apply zzF;intro p _;simp only[Function.comp,fzO,CC]
noncomputable abbrev psOf(f:ab (ab Int×Row))(so:ab Int):ab (ab Int×Row):=f.map λc=>(vals c.1 so,c.2)
theorem vB(f:ab (ab Int×Row)):eG f=.dT ((embL f).map (·.1)) ((embL f).map (·.2)):=by unfold eG embL;rw[zzo,zzo];rfl
theorem Db{f:ab (ab Int×Row)}(o:FOk m k f)(L:p∈f):bu (embL f) (kI p.1)=some (.lst (p.2.map aq)):=by
 obtain⟨q,i,U,J⟩:=IH (zzf.mpr ⟨p,L,rfl⟩:p.1∈f.map (·.1));have u:=o.nd;have:q=p:=by
  clear J o
  induction f with
  |nil=>simp at L|cons x t j =>
   obtain⟨Y,l⟩:=zzT.mp u;rcases zzi.mp i with a|a<;>rcases zzi.mp L with b|b
   ·rw[a,b]
   ·exact absurd (show x.1∈t.map (·.1) from zzf.mpr ⟨p,b,by rw[←a];exact U.symm⟩) Y
   ·exact absurd (show x.1∈t.map (·.1) from zzf.mpr ⟨q,a,by rw[←b];exact U⟩) Y
   ·exact j b a l
 rw[this]at J;exact J
def gPts:DSp:=λds Q=>∃(m:Nat) (j:ab Int) (f:ab (ab Int×Row)) (i:ab Int),ds=[eG f,ak i,.int m]/\(ClOk m j f/\m<=6)/\((∀x∈i,0<=x/\x<j.length)/\i.length<=5)/\Q (.lst ((aP m (psOf f i)).map λp=>rowD p.2))
theorem iN(T:Tx K mg):T.rq.Ok P w base CX0 1 (spD K 3 gPts):=by
 refine fnd ["_law_cells_here","_law_some","_law_many","_law_found","_law_kinds","_law_values","_law_house","_law_old","_law_one"] (λy _=>(aa (nH 3) (aw (EI PassesOwn.never rfl (pv 0) (dgn 4) (aa (dse 5 (al bM T.cz (da1 (dfc (ao ["_law_k","_law_kinds"] [none,some 4] rfl (dN (dv 1)) (dgb 0) ax (dix (dv 1) (dv 0))))))) (aw (dif (za y (pv 3) (pv 5)) (ai (EK y (pv 3) (pv 5) (yS (aE (aL (da1 (ay (ac ad (da1 ad)))))) (dv 2))))) (ai (aN (bd T.bI (a1 2)) (dgn 6) (aa (dse 7 (HQ y (pv 3) (pv 5) (pv 6) (λ_ _=>rfl) (λ_ _=>rfl))) (aa (dse 8 (dix (uO y (dv 0) (dv 4) (λ_ _=>rfl)) (dv 6))) (ai (EL y (pv 3) (pv 5) (pv 6) (ay (ac (ar bB (dx 7) (dx 8)) (da1 (ar bB (dx 7) (dx 8))))) (λ_ _=>rfl)))))))))) (dr (dfc (ao ["_law_values","_law_found"] [none,some 3] rfl (aB (aZ nI T.jt (by decide +kernel) (a1 3))) (dgb 0) ax (al bM T.cz (da1 (uO y (dv 1) (dv 0) (λ_ _=>rfl)))))))))) (λds Q hl h=>?_);obtain⟨m,ss,f,so,rfl,⟨fo,m6⟩,⟨sr,r⟩,h⟩:=h;have l8:=fo.l8;have lt:∀{n:Nat},n<=100->n<sizeLine:=λh=>zzw h (by decide);refine⟨λi=>∃B r U j l:Sl,i=[.val (eG f),.val (ak so),.val (.int m),.obj (dlO (embS m (grp (psOf f so)))),B,r,U,j,l],⟨_,_,rfl,?_⟩,?_⟩
 ·refine aG (λpre i=>∃G f1:ab (ab Int×Row),f=G++f1/\pre.length=G.length/\∃B r U j l:Sl,i=[.val (eG f),.val (ak so),.val (.int m),.obj (dlO (embS m (grp (psOf G so)))),B,r,U,j,l]) (λi H=>?_) (λpre d post i X e H hX=>?_) _ ⟨[],f,rfl,rfl,_,_,_,_,_,rfl⟩
  ·obtain⟨G,f1,J,M,B,r,U,j,l,rfl⟩:=H;have:f1=[]:=by
    rw[J]at M;simp at M;exact M
   subst this;rw[zzs]at J;subst J;exact⟨_,_,_,_,_,rfl⟩
  ·obtain⟨G,f1,J,M,B,r,U,j,l,rfl⟩:=H;cases f1 with
   |nil =>
    rw[zzs]at J;have:=congrArg List.length e;rw[J]at this;simp at this;lia
   |cons p f1 =>
    have a:p∈f:=by rw[J];simp
    have ed:d=ak p.1:=by
     have g:((f.map λp=>kI p.1).map keyD)[pre.length]?=some d:=by rw[e,zzK (zzq _)];simp
     rw[zzr,zzr,M,J,zzK (zzq _),zxO]at g;have g:keyD (kI p.1)=d:=zzS g;rw[←g,cx]
    subst ed;have po:=fo.o.it p a;have pl:G.length<=8:=by rw[J,zzg]at l8;lia
    refine qh (λx hx=>by rw[po.1.1];exact sr x hx) (by lia) ?_;obtain⟨k,N⟩:∃k,k=vals p.1 so:=⟨_,rfl⟩;rw[←N];obtain⟨g,hg⟩:∃g,g=grp (psOf G so):=⟨_,rfl⟩;rw[←hg];have a6:embS m (addG k p.2 g)=embS m (grp (psOf (G++[p]) so)):=by rw[hg,N,show psOf (G++[p]) so=psOf G so++[(vals p.1 so,p.2)] from zzc ..,nM]
    have eg:(embS m g).length<=8:=by rw[hg];unfold embS;rw[zza];have:=(mt (C:=λ_=>True) (R:=λ_=>True) (psOf G so) λ_ _=>⟨trivial,trivial⟩).len;rw[zza]at this;lia
    have vk:Sl.val (ak k)=.val (keyD (kI k)):=by rw[cx]
    refine⟨λi=>∃(u:ab (ab Key×ab D)) (U j l:Sl),(bu u (kI k)=some ((sums (aI g k) m).map aq)/\setA (kI k) ((sums (aI g k++[p.2]) m).map aq) u=embS m (addG k p.2 g))/\i=[.val (eG f),.val (ak so),.val (.int m),.obj (dlO u),.val (ak p.1),.val (ak k),U,j,l],⟨embS m g,kI k,rfl,vk,?_⟩,?_⟩
    ·rcases zL m k g with ⟨z1,E⟩|⟨z1,E,z3⟩
     ·rw[E];exact Br.f ⟨embS m g,_,_,_,⟨E,zM m k p.2 g z1⟩,rfl⟩
     ·rw[E];have e0:(List.replicate (m:Int).toNat [D.tup [.int 0,.int 0]]).flatten=(sums (aI g k) m).map aq:=by
       rw[z3,zzC];have J:sums ([]:ab Row) m=List.replicate m (0,0):=by unfold sums;rw[show (λh=>sumP (col ([]:ab Row) h))=λ_=>((0,0):Int×Int) from rfl,List.map_const',zyI]
       rw[J];clear J;generalize m=q
       induction q with
       |zero=>rfl|succ n ih=>rw[zys,zys,zxE,zzj,ih];rfl
      obtain⟨w1,w2⟩:=zN m k p.2 ((sums (aI g k) m).map aq) g z1;refine Br.t ⟨sz,sz,⟨⟨by lia,by lia⟩,zzl (show 1*(m:Int).toNat<=6 by lia) (by decide)⟩,embS m g,kI k,rfl,vk,E,lt (by lia),embS m g++[(kI k,(sums (aI g k) m).map aq)],U,j,l,⟨w2,by rw[z3,List.nil_append];rw[z3]at w1;exact w1⟩,?_⟩;rw[←e0];rfl
    ·rintro _ ⟨u,U,j,l,⟨I,k2⟩,rfl⟩;refine⟨⟨by lia,by lia⟩,?_⟩;rw[zzC];refine fG (λh i=>∃U j l:Sl,i=[.val (eG f),.val (ak so),.val (.int m),.obj (dlO (setA (kI k) ((mixS (aI g k) p.2 m h).map aq) u)),.val (ak p.1),.val (ak k),U,j,l]) (λi H=>?_) (λh i Y lh H hY=>?_) _ ⟨_,_,_,by rw[KE,qL I]⟩
     ·obtain⟨U,j,l,rfl⟩:=H;exact hX _ ⟨G++[p],f1,by rw[J];simp,by simp[M],_,_,_,_,_,by rw[KF,k2,a6]⟩
     ·obtain⟨U,j,l,rfl⟩:=H;have fa:=qM (es':=(mixS (aI g k) p.2 m h).map aq) I;have ml:(mixS (aI g k) p.2 m h).length=m:=by unfold mixS;rw[zza,zyI]
      refine⟨_,kI k,_,h,aq (sumP (col (aI g k) h)),rfl,vk,rfl,fa,DL.atI_nat (by rw[zzr,IK _ _ lh];rfl),?_⟩;refine⟨embL f,kI p.1,.lst (p.2.map aq),vB f,cx p.1,Db fo.o a,?_⟩;have pr:=po.2.1;have ga:p.2[h]?=some (at_ p.2 h):=by unfold at_;rw[zzx,zzn (by rw[pr.1];exact lh)];rfl
      refine au (d:=aq (at_ p.2 h)) (by lia) (by rw[zzC,zzr,ga];rfl) ?_;refine⟨sz,_,kI k,_,h,h,rfl,vk,rfl,fa,yR (by lia) (by rw[zza,ml];lia),hY _ ⟨.val (.int h),.val (aq (sumP (col (aI g k) h))),.val (aq (at_ p.2 h)),?_⟩⟩;show [Sl.val (eG f),.val (ak so),.val (.int m),.obj (dlO (setA (kI k) (((mixS (aI g k) p.2 m h).map aq).set h (aq ((sumP (col (aI g k) h)).1+(at_ p.2 h).1,(sumP (col (aI g k) h)).2+(at_ p.2 h).2))) (setA (kI k) ((mixS (aI g k) p.2 m h).map aq) u))),.val (ak p.1),.val (ak k),.val (.int h),.val (aq (sumP (col (aI g k) h))),.val (aq (at_ p.2 h))]=_;rw[mH,←List.map_set,←BM,Fq _ _ lh]
 ·rintro _ ⟨B,r,U,j,l,rfl⟩;obtain⟨ps,a5⟩:∃ps,ps=psOf f so:=⟨_,rfl⟩;rw[←a5]at h ⊢;have p8:ps.length<=8:=by rw[a5,zza];exact l8
  have go:GOk (λk=>k.length=so.length) (λ_=>True) ps.length (grp ps):=mt ps λp a=>by rw[a5]at a;obtain⟨c,_,rfl⟩:=zzf.mp a;exact⟨by show (vals c.1 so).length=_;unfold vals;rw[zza],trivial⟩
  have N:(embS m (grp ps)).map (·.1)=((grp ps).map (·.1)).map kI:=by unfold embS;rw[zzo,zzo];rfl
  have kl:((grp ps).map (·.1)).length<=8:=by rw[zza];exact zzl go.len p8
  have a7:∀k∈(grp ps).map (·.1),k.length=so.length:=λk N=>by obtain⟨p,a,rfl⟩:=zzf.mp N;exact(go.it p a).1
  have sl:(cy ((grp ps).map (·.1))).length<=8:=by rw[(aO _).length_eq];exact kl
  refine⟨⟨λk L=>?_,λh2 k L=>?_,?_⟩,?_⟩
  ·rw[N]at L;obtain⟨k',_,rfl⟩:=zzf.mp L;exact uV k'
  ·rw[N]at h2 L;rw[zza]at h2;obtain⟨k',a4,rfl⟩:=zzf.mp L;intro z;exact sM go.nd a7 h2 k' a4 (iL (b:=[]) z)
  ·rw[N,zza];lia
  ·have J:(srtK ((embS m (grp ps)).map (·.1))).map keyD=(cy ((grp ps).map (·.1))).map ak:=by
    rw[N,nN,zzo];apply zzF;intro k _;exact(cx k).symm
   show bU _ _ _ ((srtK ((embS m (grp ps)).map (·.1))).map keyD) _ _ _;rw[J];refine aH (λpre a0 i=>∃A I:ab (ab Int),cy ((grp ps).map (·.1))=A++I/\pre=A.map ak/\a0=A.map (λk=>rowD (sums (aI (grp ps) k) m))/\∃s:Sl,i=[s,.val (fzO (dlO (embS m (grp ps))))]) (λa0 i H=>?_) (λpre d post a0 i Y e H hY=>?_) _ ⟨[],_,rfl,rfl,rfl,_,rfl⟩
   ·obtain⟨A,I,e,M,rfl,s,rfl⟩:=H;have:I=[]:=by
     have:=congrArg List.length M;rw[e]at this;simp at this;exact this
    subst this;rw[zzs]at e;rw[←e];unfold aP at h;rw[zzo]at h;exact h
   ·obtain⟨A,I,e3,rfl,rfl,s,rfl⟩:=H;rw[e3,zzc]at e;have e:=zzz e;cases I with
    |nil=>simp at e|cons k I =>
     rw[zzj]at e;injection e with J M;subst J;have L:k∈cy ((grp ps).map (·.1)):=by rw[e3];simp
     have a4:=(aO _).mem_iff.mp L;rw[e3,zzg]at sl;have fa:bu ((embS m (grp ps)).map λp=>(p.1,D.lst p.2)) (kI k)=some (.lst ((sums (aI (grp ps) k) m).map aq)):=by
      rcases zL m k (grp ps) with ⟨_,z⟩|⟨z,_⟩
      ·unfold bu at z ⊢;rw[List.find?_map];cases q:(embS m (grp ps)).find? ((λp=>decide (p.1=kI k))) with
       |none=>rw[q]at z;cases z
       |some v =>
        rw[q]at z;have z:v.2=_:=zzS z;have q':(embS m (grp ps)).find? ((λp=>decide (p.1=kI k)) ∘ λp=>(p.1,D.lst p.2))=some v:=q;rw[q'];show some (D.lst v.2)=_;rw[z]
      ·exact absurd a4 z
     refine Br.t ⟨(embS m (grp ps)).map λp=>(p.1,D.lst p.2),kI k,_,?_,cx k,fa,?_⟩
     ·rw[IL,zzo,zzo];rfl
     ·refine⟨?_,hY _ _ ⟨A++[k],I,by rw[e3];simp,by simp,by simp[rowD],_,rfl⟩⟩;rw[zza];exact lt (by lia)
theorem vC{α:Type}(f g:α->D):∀xs:ab α,zipD (xs.map f) (xs.map g)=xs.map λx=>.tup [f x,g x]
 |[]=>rfl|x::xs=>by rw[zzj,zzj,zipD,vC f g xs,zzj]
noncomputable abbrev tabD(b:Bk)(J:ab Int->Str)(so:ab Int):D:=.tup [.str (J so),.lst ((tblB b so).map rowD)]
def gTr:DSp:=λds Q=>∃(b:Bk) (J:ab (ab Int)) (L:ab Int->Str),ds=[eS b,.lst (J.map (tabD b L)),bZ J,rowD (sums (b.cells.map (·.2)) b.m)]/\(BkOk b/\b.cells≠[]/\∀i∈J,SoOk b i)/\(∀i∈J,sums (tblB b i) b.m=sums (b.cells.map (·.2)) b.m)/\Q (.bl true)
theorem zO{m:Nat}(m2:2<=m){a:Nat}(ha:a<m):AbOk m (a:Int) (((a:Int)+1) % (m:Int)):=by
 have h0:=zyU ((a:Int)+1) (show (m:Int)≠0 by lia);have i:=zyC ((a:Int)+1) (show (0:Int)<m by lia);refine⟨by lia,by lia,h0,i,λz=>?_⟩;by_cases e:a+1=m
 ·rw[show (a:Int)+1=m by lia,Int.emod_self]at z;lia
 ·rw[Int.emod_eq_of_lt (by lia) (by lia)]at z;lia
theorem BN{ws:ab D}{d:D}(h:four d):shp (bY ws d)=true:=by
 have j:∀s:Int,Shp 1 (tkT s d):=λs=>by
  unfold tkT;split
  ·exact .tup λe i=>by
    simp only[zzi,zzW,zyD]at i;rcases i with rfl|rfl
    ·exact⟨rfl,by decide +kernel,zzM _⟩
    ·exact .int
  ·exact .tup λe i=>by
    simp only[zzi,zzW,zyD]at i;rcases i with rfl|rfl|rfl
    ·exact⟨rfl,by decide +kernel,zzM _⟩
    ·exact .int
    ·rcases h with rfl|rfl|rfl|rfl
     ·exact .non
     ·exact .int
     ·exact .int
     ·exact .int
 have k:Shp 1 (bY ws d):=by
  unfold bY;split
  ·exact j 1
  ·split
   ·exact j (-1)
   ·split
    ·exact .tup λe i=>by
      simp only[zzi,zzW,zyD]at i;rcases i with rfl|rfl
      ·exact⟨rfl,by decide +kernel,zzM _⟩
      ·exact .int
    ·exact .tup λe i=>by
      simp only[zzi,zzW,zyD]at i;rcases i with rfl|rfl|rfl
      ·exact⟨rfl,by decide +kernel,zzM _⟩
      ·exact .int
      ·exact .int
 exact k.shp
theorem zP(h:c.1≠0):(lowP c.2 c.1).1*c.1=c.2*(lowP c.2 c.1).2:=(fB h).eq
theorem gc(T:Tx K mg):T.gi.Ok P w base CX0 7 (spD K 4 gTr):=by
 refine fnd ["_law_book","_law_tables","_law_sets_here","_law_whole","_law_some","_law_words_here","_law_parts_here","_law_table","_law_a","_law_b","_law_share"] (λC _=>(aw (aN (uL T.BZ (a2 2 1)) (dgt 2 (ji (dgn 4) (ji (dg2 5 6) yG))) (aa (dse 7 (dcl (ir T) C (a2 0 4))) (ai (aN (bd T.bI (da1 (dln aX T.bv (dv 3)))) (dgn 8) (aa (dse 9 (ar yH (ar bB (dv 8) ad) (dln aX T.bv (dv 3)))) (aa (dir (ah (fT C) (dcl (kx T) C (a3 7 8 9)) (dcl (mE T) C (ac (dv 6) (a3 3 8 9)))) ie) (ai (dif (ah ik (dix (dix (dv 3) (dv 8)) ad) ad) (aa (dse 10 (dix (dcl (BC T) C (a2 7 8)) ad)) (ai (dir (ah (fT C) (ar bR (dx 10) (dix (dix (dv 3) (dv 8)) ad)) (ar bR (dix (dix (dv 3) (dv 8)) ad) (dx 10))) ie))))))))))) (dr ie))) (λds Q hl h=>?_);obtain⟨b,J,u,rfl,⟨p,cn,so⟩,B,h⟩:=h;have m2:=p.m2;have m6:=p.m6;obtain⟨v,x⟩:∃v,v=sums (b.cells.map (·.2)) b.m:=⟨_,rfl⟩;rw[←x]at B ⊢;have r:(v.map aq).length=b.m:=by rw[x];unfold sums;simp
 refine⟨λl=>∃I M N g i j L:Sl,l=[.val (eS b),.val (.lst (J.map (tabD b u))),.val (bZ J),.val (rowD v),I,M,N,g,i,j,L],?_,?_⟩
 ·show cX _ _ (zipD (J.map ak) (J.map (tabD b u))) _ _;rw[vC];refine pV (λl=>∃I M N g i j L:Sl,l=[.val (eS b),.val (.lst (J.map (tabD b u))),.val (bZ J),.val (rowD v),I,M,N,g,i,j,L]) (λl o=>o) (λd hd l X o hX=>?_) _ ⟨_,_,_,_,_,_,_,rfl⟩;obtain⟨I,M,N,g,i,j,L,rfl⟩:=o;obtain⟨s,hs,rfl⟩:=zzf.mp hd;have E:=so s hs;have q:=dS p cn s;have es:=B s hs;refine⟨rfl,rfl,rfl,b,s,rfl,p,E,?_⟩;show (_/\_)/\cX _ _ (dh 0 (((v.map aq).length:Nat):Int).toNat) _ _;rw[r,zzC];refine⟨⟨by lia,by lia⟩,?_⟩;refine fG (λa l=>∃i j L:Sl,l=[.val (eS b),.val (.lst (J.map (tabD b u))),.val (bZ J),.val (rowD v),.val (ak s),.val (.str (u s)),.val (.lst ((tblB b s).map rowD)),.val (.lst ((tblB b s).map rowD)),i,j,L]) (λl o=>?_) (λa l Y A o y=>?_) _ ⟨_,_,_,rfl⟩
  ·obtain⟨i,j,L,rfl⟩:=o;exact hX _ ⟨_,_,_,_,_,_,_,rfl⟩
  ·obtain⟨i,j,L,rfl⟩:=o;have U:=zO m2 A;subst es;have n:=bL q (h:=a) A;refine⟨by show (0:Int)<(((sums (tblB b s) b.m).map aq).length:Nat);rw[r];lia,?_⟩;show dSeq _ _ _ [.val (eS b),.val (.lst (J.map (tabD b u))),.val (bZ J),.val (rowD (sums (tblB b s) b.m)),.val (ak s),.val (.str (u s)),.val (.lst ((tblB b s).map rowD)),.val (.lst ((tblB b s).map rowD)),.val (.int a),.val (.int (((a:Int)+1) % ((((sums (tblB b s) b.m).map aq).length:Nat):Int))),L];rw[r];obtain⟨e,he⟩:∃e,e=((a:Int)+1) % (b.m:Int):=⟨_,rfl⟩;rw[←he]at U ⊢;obtain⟨k,H⟩:∃k,k=bY (told (tblB b s) (a:Int).toNat e.toNat) (cH (tblB b s) (a:Int).toNat e.toNat):=⟨_,rfl⟩;have st:shp k=true:=by rw[H];exact BN (qH ..)
   refine⟨rfl,b.m,tblB b s,rfl,q,⟨U.a0,U.a1,U.b0,U.b1,U.ne⟩,rfl,b.m,tblB b s,a,e,rfl,q,U,?_⟩;rw[←H];refine⟨⟨st,st⟩,?_⟩;show Br (!eqD k k) _ _;rw[cQ st];refine Br.f (cZ U.a0 U.a1 (Br.di (λz=>?_) (λz=>y _ ⟨_,_,_,rfl⟩)));obtain⟨c,G⟩:∃c,c=sumP (col (tblB b s) a):=⟨_,rfl⟩;rw[←G]at n;have z:0<c.1:=by rw[G];exact z
   have lo:=fB (a:=c.2) (b:=c.1) (by lia);have le:=lo.le (by lia);have b1:Bd 300 (lowP c.2 c.1).1:=zzw le.1 n.2.2.2;have b2:Bd 300 (lowP c.2 c.1).2:=zzw le.2 n.2.2.1;refine⟨rfl,b.m,tblB b s,rfl,q,⟨U.a0,U.a1⟩,by show (sumP (col (tblB b s) (a:Int).toNat)).1≠0;rw[zzC,←G];lia,?_⟩;refine cZ U.a0 U.a1 ?_;rw[zzC,←G];refine⟨b1.cmul n.2.2.1,cZ U.a0 U.a1 ?_⟩;rw[zzC,←G];refine⟨n.2.2.2.cmul b2,⟨rfl,rfl⟩,?_⟩;show Br (!eqD (.int ((lowP c.2 c.1).1*c.1)) (.int (c.2*(lowP c.2 c.1).2))) _ _;rw[aK,zzp (zP (by lia))];exact Br.f (y _ ⟨_,_,_,rfl⟩)
 ·rintro _ ⟨I,M,N,g,i,j,L,rfl⟩;exact h
noncomputable def wdT(ws:ab Str):Str:=Txt.join Str.empty (ws.map λw=>spS++w)
noncomputable abbrev wX(ws:ab Str):ab Nat:=ws.flatMap λw=>32::w.cps.toList
theorem bi(a b:Str):(a++b).cps.toList=a.cps.toList++b.cps.toList:=by rw[zyQ,zyA]
theorem kL:spS.cps.toList=[32]:=by decide +kernel
theorem fH:∀(w:Str) (ws:ab Str),(Str.join spS (w::ws)).cps.toList=w.cps.toList++wX ws
 |w,[]=>by show w.cps.toList=_;simp
 |w,x::ws=>by have e:Str.join spS (w::x::ws)=w++spS++Str.join spS (x::ws):=rfl;rw[e,bi,bi,fH x ws,kL];simp
theorem zQ:∀ws:ab Str,(Str.join Str.empty (ws.map λw=>spS++w)).cps.toList=wX ws
 |[]=>rfl|[w]=>by show (spS++w).cps.toList=_;rw[bi,kL];simp
 |w::x::ws=>by have e:Str.join Str.empty ((w::x::ws).map λw=>spS++w)=(spS++w)++Str.empty++Str.join Str.empty ((x::ws).map λw=>spS++w):=rfl;rw[e,bi,bi,bi,zQ (x::ws),kL];show (([32]++w.cps.toList)++[])++_=_;simp
theorem qN(ws:ab Str):(wdT ws).cps.toList=wX ws:=by unfold wdT;rw[show Txt.join Str.empty (ws.map λw=>spS++w)=Str.join Str.empty (ws.map λw=>spS++w) from zzU ..];exact zQ ws
theorem BO{k:Str}(J:kk=k++spS)(ws:ab Str):kk++(A++spS++B)++wdT ws=Txt.join spS (k::A::B::ws):=by apply iw;rw[show Txt.join spS (k::A::B::ws)=Str.join spS (k::A::B::ws) from zzU ..,fH,bi,bi,bi,bi,qN,J,bi,kL];simp
theorem zR{k:Str}(J:kk=k++spS):kk++(A++spS++B)=Txt.join spS [k,A,B]:=by apply iw;rw[show Txt.join spS [k,A,B]=Str.join spS [k,A,B] from zzU ..,fH,bi,bi,bi,J,bi,kL];simp
theorem Fr(h:ws≠[]):wdT ws=Txt.join spS (Str.empty::ws):=by apply iw;rw[show Txt.join spS (Str.empty::ws)=Str.join spS (Str.empty::ws) from zzU ..,fH,qN];rfl
theorem gO(J:∀x∈ws,Wd x)(j:ws≠[]):Txt.split (Txt.join spS ws) spS=ws:=by
 exact ix j λl i z=>by have:=J l i 32 z;lia
theorem Wd.emp:Wd Str.empty:=λc J=>by cases J
theorem Dc{B:Nat}(h:∀x∈ws,x.length<=B):(wdT ws).length<=(B+1)*ws.length:=by
 have e:(wdT ws).length=(wX ws).length:=by rw[←qN];exact zyh.symm
 rw[e];clear e
 induction ws with
 |nil=>simp|cons w ws L =>
  have h1:=h w zze;have h2:=L λx J=>h x (zzb _ J);have i:w.cps.toList.length=w.length:=zyh;rw[show wX (w::ws)=(32::w.cps.toList)++wX ws from rfl,zzg,zzu,i,zzu,Nat.mul_add];lia
theorem wd_nil:wdT ws=Str.empty↔ws=[]:=by
 constructor
 ·intro h;have:=congrArg (λz:Str=>z.cps.toList) h;rw[qN]at this;cases ws with
  |nil=>rfl|cons w ws=>cases this
 ·rintro rfl;rfl
theorem vD(i:Row):∀(ks:ab Nat) (st:Nat×Nat),0<(at_ i st.1).1->0<(at_ i st.2).1->(∀k∈ks,0<(at_ i k).1) ->
  shQ (at_ i (ks.foldl (step i) st).1)<=shQ (at_ i st.1)/\shQ (at_ i st.2)<=shQ (at_ i (ks.foldl (step i) st).2)/\∀k∈ks,shQ (at_ i (ks.foldl (step i) st).1)<=shQ (at_ i k)/\shQ (at_ i k)<=shQ (at_ i (ks.foldl (step i) st).2)
 |[],st,_,_,_=>⟨zxX,zxX,λk L=>by simp at L⟩
 |k::ks,st,l,o,j=>by
  have L:=j k zze;have u:0<(at_ i (step i st k).1).1:=by unfold step;split<;>assumption
  have v:0<(at_ i (step i st k).2).1:=by unfold step;dsimp only;split<;>assumption
  obtain⟨i1,i2,U⟩:=vD i ks (step i st k) u v λx J=>j x (zzb _ J);have a1:shQ (at_ i (step i st k).1)<=shQ (at_ i st.1)/\shQ (at_ i (step i st k).1)<=shQ (at_ i k):=by
   unfold step;rw[gJ L l];split
   ·rename_i z;have z:=zzO z;exact⟨Rat.le_of_lt z,zxX⟩
   ·rename_i z;exact⟨zxX,by grind⟩
  have a2:shQ (at_ i st.2)<=shQ (at_ i (step i st k).2)/\shQ (at_ i k)<=shQ (at_ i (step i st k).2):=by
   unfold step;dsimp only;rw[gJ o L];split
   ·rename_i z;have z:=zzO z;exact⟨Rat.le_of_lt z,zxX⟩
   ·rename_i z;exact⟨zxX,by grind⟩
  refine⟨by grind,by grind,λx J=>?_⟩;rcases zzi.mp J with rfl|J
  ·exact⟨by grind,by grind⟩
  ·exact U x J
theorem qO(i:∀c∈r,Cnt 200 c.1 c.2){k:Nat}(J:k∈plE r r.length):shQ (at_ r (aY r).1)<=shQ (at_ r k)/\shQ (at_ r k)<=shQ (at_ r (aY r).2):=by
 have pos:∀j∈plE r r.length,0<(at_ r j).1:=λj L=>(zw i L).1;unfold aY;cases e:plE r r.length with
 |nil=>rw[e]at J;simp at J|cons p ps =>
  rw[e]at pos J;exact(vD r (p::ps) (p,p) (pos p zze) (pos p zze) pos).2.2 k J
theorem vE(t:ab Row)(a i:Nat)(j:i<t.length):at_ (col t a) i=at_ t[i] a:=by show (t.map λr=>at_ r a).getD i (0,0)=_;rw[zzx,zzr,zzn j];rfl
theorem said_neg:isS (-1) (dj c.1 c.2 d.1 d.2)=true↔(c.1≠0/\d.1≠0)/\ly c d=true:=by
 have J:∀i:Int,isS (-1) (.int i)=decide (i = -1):=λi=>by exact aK
 unfold dj ly;have L:=zxN d.2 c.1;by_cases z:c.1=0∨d.1=0
 ·rw[zzk z];constructor
  ·intro q;exact absurd q (by decide)
  ·rintro⟨⟨U,Y⟩,_⟩;rcases z with z|z
   ·exact absurd z U
   ·exact absurd z Y
 ·rw[zzh z,L,zyJ];have l:c.1≠0/\d.1≠0:=⟨λq=>z (.inl q),λq=>z (.inr q)⟩;by_cases q:c.1*d.2<c.2*d.1
  ·rw[zzk q,J];exact⟨λw=>absurd w (by decide),λw=>absurd w.2 (by lia)⟩
  ·rw[zzh q];by_cases j:c.2*d.1<c.1*d.2
   ·rw[zzk j,J];exact⟨λ_=>⟨l,j⟩,λ_=>by decide⟩
   ·rw[zzh j,J];exact⟨λw=>absurd w (by decide),λw=>absurd w.2 j⟩
theorem vF{t:ab Row}(o:Tbl n t){b:Nat}(c:a<n)(d:b<n)(B:(sumP (col t a)).1≠0)(E:(sumP (col t b)).1≠0):canB t a b=true↔shQ (at_ (col t a) (aY (col t a)).1)<shQ (at_ (col t b) (aY (col t b)).2):=by
 have L:=fX o c;have v:=fX o d;have G:=gI B;have H:=gI E;have p:(col t a).length=t.length:=zza _;have s:(col t b).length=t.length:=zza _;obtain⟨⟨y,_⟩,_⟩:=kB L G;obtain⟨_,⟨A,_⟩⟩:=kB v H;have w:(aY (col t a)).1∈plE (col t a) (col t a).length:=(eU _ _ G).1;have x:(aY (col t b)).2∈plE (col t b) (col t b).length:=(eU _ _ H).2;have k:=(fW w).1;have m:=(fW x).1;have u:∀{h i:Nat},i<t.length->(at_ (col t h) i).1≠0->i∈plE (col t h) (col t h).length:=λ{h i} l z=>by unfold plE;rw[zzQ,zyo,show (col t h).length=t.length from zza _];exact⟨l,zzp z⟩
 constructor
 ·intro h;obtain⟨r,g,h⟩:=zyq.mp h;obtain⟨q,e,h⟩:=zyq.mp h;obtain⟨⟨I,M⟩,U⟩:=said_neg.mp h;obtain⟨i,l,rfl⟩:=zyH.mp g;obtain⟨j,J,rfl⟩:=zyH.mp e;rw[←vE t a i l]at I U;rw[←vE t b j J]at M U;have C:=u l I;have Y:=u J M;have N:=(zw L C).1;have T:=(zw v Y).1;rw[gJ N T]at U;have e1:=(qO L C).1;have e2:=(qO v Y).2
  grind
 ·intro h;have l:(aY (col t a)).1<t.length:=by rw[←p];exact k
  have J:(aY (col t b)).2<t.length:=by rw[←s];exact m
  refine zyq.mpr ⟨t[(aY (col t a)).1],zyn l,zyq.mpr ⟨t[(aY (col t b)).2],zyn J,?_⟩⟩;rw[←vE t a _ l,←vE t b _ J];exact said_neg.mpr ⟨⟨by lia,by lia⟩,by rw[gJ y A];exact zzp h⟩
noncomputable abbrev oi(C:bn)(hs:ab Str)(ms:ab Mk)(cells:ab (ab Int×Row)):D:=.ins C ["names","book","past"] [nmD hs ms,bkD hs ms cells,.lst []]
noncomputable abbrev nms(ms:ab Mk)(so:ab Int):ab Str:=bH (ms.map (·.1)) so
noncomputable abbrev bT(ms:ab Mk):ab (ab Int):=[]::chs ms.length (ms.length+1)
theorem kM(h:∀c∈z.cps.toList,c<128):shp (.str z)=true:=Shp.shp (n:=0) ⟨rfl,zyO.mpr λc J=>zzp (by have:=h c (zyS.mpr J);lia),zzM _⟩
theorem gP{k:Nat}(L:k<128){ls:ab Str}(h:∀x∈ls,∀c∈x.cps.toList,c<128):∀c∈(Txt.join ⟨#[k]⟩ ls).cps.toList,c<128:=λc J=>by
 rcases vq J with rfl|⟨x,U,J⟩
 ·exact L
 ·exact h x U c J
theorem IM:dotS=⟨#[46]⟩:=by decide +kernel
theorem iO{cells:ab (ab Int×Row)}(o:BkT hs ms cells){p:ab Int}(U:∀y∈p,0<=y/\y<ms.length):∀x∈nms ms p,isNm x=true:=λx Y=>by obtain⟨y,j,rfl⟩:=zzf.mp Y;have:=U y j;have i:(ms.map (·.1)).getD y.toNat Str.empty∈ms.map (·.1):=eF (by rw[zza];lia);obtain⟨m,J,L⟩:=zzf.mp i;rw[←L];exact(o.mn m J).1
theorem IN{cells:ab (ab Int×Row)}(o:BkT hs ms cells){p:ab Int}(L:∀y∈p,0<=y/\y<ms.length):shp (.str (wdT (nms ms p)))=true:=kM λc J=>by
 rw[qN]at J;obtain⟨x,U,J⟩:=zxa.mp J;rcases zzi.mp J with rfl|J
 ·decide
 ·have:=eW (iO o L x U) c J;lia
theorem wd_nn{p:ab Int}:wdT (nms ms p)=Str.empty↔p=[]:=by rw[wd_nil];exact zwa
theorem BP{cells:ab (ab Int×Row)}(o:BkT hs ms cells){p:ab Int}(u:p≠[])(l:p.length<=5)(v:∀y∈p,0<=y/\y<ms.length) :
  ((Txt.join dotS (nms ms p)).length<=1000/\Txt.join dotS (nms ms p)≠Str.empty)/\∀c∈(Txt.join dotS (nms ms p)).cps.toList,c<128:=by
 have nm:=iO o v;have i:Txt.join dotS (nms ms p)=Str.join dotS (nms ms p):=zzU ..;refine⟨⟨?_,λz=>?_⟩,?_⟩
 ·have h1:=zxC dotS (nms ms p);have h2:=zwr (nms ms p) λy C=>(bC (nm y C)).2;have h3:(nms ms p).length<=5:=by unfold nms bH;rw[zza];exact l
  have e1:dotS.length=1:=by decide +kernel
  lia
 ·cases p with
  |nil=>exact u rfl|cons y p =>
   have U:=bC (nm _ (show (ms.map (·.1)).getD y.toNat Str.empty∈nms ms (y::p) from zze));have J:((ms.map (·.1)).getD y.toNat Str.empty).cps.toList≠[]:=λq=>by
    have:((ms.map (·.1)).getD y.toNat Str.empty).length=0:=by rw[show ((ms.map (·.1)).getD y.toNat Str.empty).length=((ms.map (·.1)).getD y.toNat Str.empty).cps.toList.length from zyh.symm,q];rfl
    lia
   have L:=congrArg (λz:Str=>z.cps.toList) z;rw[i]at L;cases p with
   |nil=>exact J L|cons Y p =>
    have e:Str.join dotS (nms ms (y::Y::p))=(ms.map (·.1)).getD y.toNat Str.empty++dotS++Str.join dotS (nms ms (Y::p)):=rfl;rw[e,bi,bi]at L;exact J (zwx.mp (zwx.mp L).1).1
 ·rw[IM];exact gP (by decide) λx U c j=>by have:=eW (nm x U) c j;lia
theorem BQ(i:∀n∈hs,isNm n=true){b:Nat}(ha:a<hs.length)(hb:b<hs.length)(L:ab D)(x:D):∀c∈(kJ hs a b (bY L x)).cps.toList,c<128:=by
 obtain⟨w,s,r,e,Y⟩:=og L x;have U:∀c∈w.cps.toList,c<128:=by rcases Y with ⟨rfl|rfl,_⟩|rfl|rfl<;>decide +kernel
 rw[e];show ∀c∈(if w=cM∨w=lC then w++spS++hs.getD (if s=1 then a else b) Str.empty else w).cps.toList,c<128;split
 ·intro c J;rw[bi,bi,kL]at J;rcases zzA.mp J with J|J
  ·rcases zzA.mp J with J|J
   ·exact U c J
   ·rw[zzG.mp J];decide
  ·have:=eW (i _ (eF (show (if s=1 then a else b)<hs.length by split<;>assumption))) c J;lia
 ·exact U
theorem IO:canS=Str.ofString "can" ++ spS:=by decide +kernel
theorem zS{r:Str}(h:Wd r):Txt.split (canS++r) spS=[Str.ofString "can",r]:=by
 have e:canS++r=Txt.join spS [Str.ofString "can",r]:=by rw[IO];apply iw;rw[show Txt.join spS [Str.ofString "can",r]=Str.join spS [Str.ofString "can",r] from zzU ..,fH,bi,bi,kL];simp
 rw[e];refine gO (λx J=>?_) (by simp);simp only[zzi,zzW,zyD]at J;rcases J with rfl|rfl
 ·have:∀c∈(Str.ofString "can").cps.toList,33<=c/\c<128:=by decide +kernel
  exact this
 ·exact h
theorem kN{k:Str}(h:∀c∈k.cps.toList,33<=c/\c<128):Txt.split k spS=[k]:=by
 have e:k=Txt.join spS [k]:=rfl
 conv=>lhs
 exact gO (λx J=>by rw[zzG.mp J];exact h) (by simp)
theorem De:∀n,n<=5->∀s∈chs n (n+1),s≠[]:=by decide +kernel
def gPr(C:bn):DSp:=λds Q=>∃(hs:ab Str) (ms:ab Mk) (i:ab (ab Int×Row)) (a b:Nat),ds=[oi C hs ms i,.lst (hs.map .str),.lst ((bT ms).map (tabD (bkB hs ms i) λj=>wdT (nms ms j))),rowD (sums (i.map (·.2)) hs.length),.int a,.int b]/\(DkOk hs ms i/\AbOk hs.length (a:Int) (b:Int))/\(∀j∈bT ms,SoOk (bkB hs ms i) j/\sums (tblB (bkB hs ms i) j) hs.length=sums (i.map (·.2)) hs.length)/\Q (.bl true)
theorem iz(T:Tx K mg):T.iB.Ok P w base CX0 11 (spD K 6 (gPr T.az)):=by
 refine fnd ["_law_desk","_law_houses","_law_tables","_law_whole","_law_a","_law_b","_law_pair","_law_turning_sets","_law_words_here","_law_parts_here","_law_due_here","_law_answer","_law_told","_law_marks"] (λv _=>(aa (dse 6 (ar bf (ar bf (dix (dv 1) (dv 4)) ag) (dix (dv 1) (dv 5)))) (aa (dow 7 (aL bK)) (aw (aN (aB (dv 2)) (dg2 8 9) (aa (dse 10 (dcl (mE T) v (ac (dv 9) (a3 3 4 5)))) (aw (dif (PWD.pt (yE (ah (aW v) (dx 10) ag) (rV (ah (fT v) (dv 8) ag)))) (ai (cO (pv 7) (bW ag (aE (gE (aE (gG (dv 8) ag)) (cJ ad) eA)))))) (aa (dse 11 (dcl (kK T) v (ac (dv 10) (da1 (aE (aL (ac (dix (dv 1) (dv 4)) (da1 (dix (dv 1) (dv 5)))))))))) (aa (dir (ah (fT v) (kg (dW T) (v.mono (by decide)) T.dG T.df T.dY (dv 0) (da1 (ar bf (ar bf ag (dv 6)) (dv 8)))) (dv 11)) ie) (ai (dif (PWD.pt (yE (ah ik (dix (dix (dv 3) (dv 4)) ad) ad) (rV (ah ik (dix (dix (dv 3) (dv 5)) ad) ad)))) (aa (dse 12 (dix (aE (gG (kg (dW T) (v.mono (by decide)) T.dG T.df T.dY (dv 0) (da1 (ar bf (ar bf ag (dv 6)) (dv 8)))) ag)) ad)) (ai (dir (ah (fT v) (dv 12) (dix (aE (aL (ac ag (da1 ag)))) (al lX T.oF (da1 (dcl (wV T) v (a3 9 4 5)))))) ie)))))))))) (aa (dse 13 (bW ag (dv 7))) (dr (cE (aW v) (kg (dW T) (v.mono (by decide)) T.dG T.df T.dY (dv 0) (da1 (ar bf ag (dv 6)))) (dix (aE (aL (ac (dv 13) (da1 ag)))) (al lX T.oF (da1 (cE (aW v) (dv 13) ag))))))))))) (λds Q hl h=>?_);obtain⟨hs,ms,cells,a,b,rfl,⟨j,m⟩,i,h⟩:=h;have bo:=Fi j.t;have a7:∀n∈hs,n.length<=8:=λn hn=>(bC (j.t.hn n hn)).2;have a1:a<hs.length:=by have:=m.a1;lia
 have H:b<hs.length:=by have:=m.b1;lia
 obtain⟨A,I⟩:∃A,A=hs.getD a Str.empty:=⟨_,rfl⟩;obtain⟨B,E⟩:∃B,B=hs.getD b Str.empty:=⟨_,rfl⟩;have lA:A.length<=8:=by rw[I];exact fE a7 a
 have lB:B.length<=8:=by rw[E];exact fE a7 b
 have l1:spS.length=1:=by decide +kernel
 have l2:=bz A spS;have l3:=bz (A++spS) B;refine kH a1 ⟨szl (by show (hs.getD a Str.empty).length+spS.length<=_;rw[←I];lia),kH H ⟨szl (by show (hs.getD a Str.empty++spS).length+(hs.getD b Str.empty).length<=_;rw[←I,←E];lia),?_⟩⟩;obtain⟨a8,hBk⟩:∃a8,a8=bkB hs ms cells:=⟨_,rfl⟩;obtain⟨M,b2⟩:∃M,M=sums (cells.map (·.2)) hs.length:=⟨_,rfl⟩;obtain⟨U,a4⟩:∃U,U=(bT ms).map (tabD (bkB hs ms cells) λi=>wdT (nms ms i)):=⟨_,rfl⟩;refine⟨sz,λρ=>∃s8 s9 a5 o J:Sl,ρ=[.val (oi T.az hs ms cells),.val (.lst (hs.map .str)),.val (.lst U),.val (rowD M),.val (.int a),.val (.int b),.val (.str (A++spS++B)),.own ((((bT ms).filter λi=>isT (bkB hs ms cells) a b i && decide (i≠[])).map λi=>Txt.join dotS (nms ms i)).map .str),s8,s9,a5,o,J,.nil],?_,?_⟩
 ·rw[←b2,←a4,←I,←E];refine aG (λpre ρ=>∃C N:ab (ab Int),bT ms=C++N/\pre.length=C.length/\∃s8 s9 a5 o J:Sl,ρ=[.val (oi T.az hs ms cells),.val (.lst (hs.map .str)),.val (.lst U),.val (rowD M),.val (.int a),.val (.int b),.val (.str (A++spS++B)),.own (((C.filter λi=>isT (bkB hs ms cells) a b i && decide (i≠[])).map λi=>Txt.join dotS (nms ms i)).map .str),s8,s9,a5,o,J,.nil]) (λρ hN=>?_) (λpre d post ρ X e hN hX=>?_) _ ⟨[],_,rfl,rfl,_,_,_,_,_,rfl⟩
  ·obtain⟨C,N,u,e2,s8,s9,a5,o,J,rfl⟩:=hN;have:N=[]:=by
    rw[a4,zza,u]at e2;simp at e2;exact e2
   subst this;rw[zzs]at u;rw[u];exact⟨_,_,_,_,_,rfl⟩
  ·obtain⟨C,N,u,e2,s8,s9,a5,o,J,rfl⟩:=hN;cases N with
   |nil =>
    rw[zzs]at u;have:=congrArg List.length e;rw[a4,zza,u]at this;simp at this;lia
   |cons p N =>
    have G:p∈bT ms:=by rw[u];simp
    have ed:d=tabD (bkB hs ms cells) (λi=>wdT (nms ms i)) p:=by
     have g:U[pre.length]?=some d:=by rw[e,zzK (zzq _)];simp
     rw[a4,zzr,e2,u,zzK (zzq _),zxO]at g;exact(zzS g).symm
    subst ed;obtain⟨a6,es⟩:=i p G;have tb:=dS bo j.ne p;rw[←b2]at es;have pr:∀y∈p,0<=y/\y<ms.length:=λy hy=>by have:=a6.it y hy;rw[show (bkB hs ms cells).marks.length=ms.length from zza _]at this;exact this
    have b5:=IN j.t pr;obtain⟨tk,l⟩:∃tk,tk=trnB (bkB hs ms cells) a b p:=⟨_,rfl⟩;refine⟨rfl,rfl,hs.length,tblB (bkB hs ms cells) p,a,b,by rw[es],tb,m,?_⟩;have b4:bY (told (tblB (bkB hs ms cells) p) (a:Int).toNat (b:Int).toNat) (cH (tblB (bkB hs ms cells) p) (a:Int).toNat (b:Int).toNat)=tk:=l.symm;rw[b4];obtain⟨w,sg,r,ew,hw⟩:=og (told (tblB (bkB hs ms cells) p) a b) (cH (tblB (bkB hs ms cells) p) a b);have ew:tk=.tup (.str w :: .int sg::r):=l.trans ew;have hi:isT (bkB hs ms cells) a b p=decide (w=cM):=by unfold isT;rw[←l,ew];exact bq
    refine⟨λρ=>∃o J:Sl,ρ=[.val (oi T.az hs ms cells),.val (.lst (hs.map .str)),.val (.lst U),.val (rowD M),.val (.int a),.val (.int b),.val (.str (A++spS++B)),.own ((((C++[p]).filter λi=>isT (bkB hs ms cells) a b i && decide (i≠[])).map λi=>Txt.join dotS (nms ms i)).map .str),.val (.str (wdT (nms ms p))),.val (.lst ((tblB (bkB hs ms cells) p).map rowD)),.val tk,o,J,.nil],?_,?_⟩
    ·have sw:shp (.str w)=true:=by rcases hw with ⟨rfl|rfl,_⟩|rfl|rfl<;>decide +kernel
     rw[ew];refine au (d:=.str w) (zzN 0) rfl ⟨⟨sw,s0 "turned"⟩,?_⟩;show Br (eqD (.str w) (.str cM)) _ _;rw[bq,←hi];have eo:∀q,(isT (bkB hs ms cells) a b p && decide (p≠[]))=q->((C++[p]).filter λi=>isT (bkB hs ms cells) a b i && decide (i≠[]))=(C.filter λi=>isT (bkB hs ms cells) a b i && decide (i≠[]))++(if q=true then[p] else[]):=λq hq=>by
      rw[zya];congr 1;cases q with
      |true=>rw[zyd (p:=λi=>isT (bkB hs ms cells) a b i && decide (i≠[])) hq];rfl
      |false=>rw[zzZ (p:=λi=>isT (bkB hs ms cells) a b i && decide (i≠[])) (by rw[hq];decide)];rfl
     cases zt:isT (bkB hs ms cells) a b p with
     |false=>exact Br.f (Br.f ⟨o,J,by rw[eo false (by rw[zt];rfl),zzh (by decide),zzs];rfl⟩)|true =>
      refine Br.t ⟨⟨b5,s0 ""⟩,?_⟩;show Br (!eqD (.str (wdT (nms ms p))) (.str Str.empty)) _ _;rw[bq];by_cases p0:p=[]
      ·rw[zzp (wd_nn.mpr p0)];exact Br.f ⟨o,J,by rw[eo false (by rw[zt,zzv (λq=>q p0)];rfl),zzh (by decide),zzs];rfl⟩
      ·rw[zzv (λq=>p0 (wd_nn.mp q))];refine Br.t ?_;have nn:nms ms p≠[]:=λq=>p0 (wd_nn.mp (wd_nil.mpr q));have wl:(wdT (nms ms p)).length<=45:=by
        have:=Dc (ws:=nms ms p) (B:=8) λx Y=>(bC (iO j.t pr x Y)).2;have l5:(nms ms p).length<=5:=by unfold nms bH;rw[zza];exact a6.len
        lia
       have es:Txt.split (wdT (nms ms p)) spS=Str.empty::nms ms p:=by
        rw[Fr nn];refine gO (λx Y=>?_) (by simp);rcases zzi.mp Y with rfl|Y
        ·exact Wd.emp
        ·exact Wd.nm (iO j.t pr x Y)
       refine⟨trivial,dotS,rfl,wdT (nms ms p),rfl,spS,⟨rfl,by decide +kernel,zzl (zxV wl 2) (by decide)⟩,?_⟩;rw[es];refine⟨nms ms p,⟨congrArg D.lst (cR D.str 1 (Str.empty::nms ms p) (by simp)),cL (B:=8) (λx Y=>(bC (iO j.t pr x Y)).2) ?_⟩,?_,o,J,?_⟩
       ·have u:dotS.length=1:=by decide +kernel
        have l5:(nms ms p).length<=5:=by unfold nms bH;rw[zza];exact a6.len
        rw[u];lia
       ·rw[zza,zza];refine zzw (zyk _ _) ?_;have ll:=congrArg List.length u;have l2:=dR ms.length j.t.m5 (ms.length+1) (by have:=j.t.m5;lia);rw[zzg,zzu]at ll;exact zzw (show C.length<=40 by lia) (by decide)
       ·rw[eo true (by rw[zt,zzp p0];rfl),zzk rfl,zzc,zzc];rfl
    ·rintro _ ⟨o,J,rfl⟩;refine kH a1 (kH H ?_);refine⟨sz,rfl,hs,a,b,_,_,by rw[l];rfl,a7,?_⟩;have ea:kJ hs a b (bY (told (tblB (bkB hs ms cells) p) a b) (cH (tblB (bkB hs ms cells) p) a b))=kJ hs a b tk:=by rw[l];rfl
     show dSeq _ _ _ [.val (oi T.az hs ms cells),.val (.lst (hs.map .str)),.val (.lst U),.val (rowD M),.val (.int a),.val (.int b),.val (.str (A++spS++B)),.own ((((C++[p]).filter λi=>isT (bkB hs ms cells) a b i && decide (i≠[])).map λi=>Txt.join dotS (nms ms i)).map .str),.val (.str (wdT (nms ms p))),.val (.lst ((tblB (bkB hs ms cells) p).map rowD)),.val tk,.val (.str (kJ hs a b (bY (told (tblB (bkB hs ms cells) p) a b) (cH (tblB (bkB hs ms cells) p) a b)))),J,.nil];rw[ea];have sa:shp (.str (kJ hs a b tk))=true:=by rw[l];exact kM (BQ j.t.hn a1 H _ _)
     obtain⟨an,a9⟩:∃an,an=kJ hs a b tk:=⟨_,rfl⟩;rw[←a9]at sa ⊢;obtain⟨ow,b0⟩:∃ow,ow=(((C++[p]).filter λi=>isT (bkB hs ms cells) a b i && decide (i≠[])).map λi=>Txt.join dotS (nms ms i)).map D.str:=⟨_,rfl⟩;rw[←b0];have wl:(wdT (nms ms p)).length<=45:=by
      have:=Dc (ws:=nms ms p) (B:=8) λx Y=>(bC (iO j.t pr x Y)).2;have l5:(nms ms p).length<=5:=by unfold nms bH;rw[zza];exact a6.len
      lia
     have row:∀(k kk:Str),kk=k++spS->Wd k->kk.length<=10->(kk++(A++spS++B)++wdT (nms ms p)).length<=10000/\Txt.split (kk++(A++spS++B)++wdT (nms ms p)) spS=k::hs.getD a Str.empty::hs.getD b Str.empty::bH (ms.map (·.1)) p:=λk kk hk wk lk=>by
      refine⟨?_,?_⟩
      ·rw[bz,bz];lia
      ·rw[BO hk,←I,←E];refine gO (λx Y=>?_) (by simp);rcases zzi.mp Y with rfl|Y
       ·exact wk
       rcases zzi.mp Y with rfl|Y
       ·rw[I];exact Wd.nm (j.t.hn _ (eF a1))
       rcases zzi.mp Y with rfl|Y
       ·rw[E];exact Wd.nm (j.t.hn _ (eF H))
       ·exact Wd.nm (iO j.t pr x Y)
     have lt5:(Str.ofString "turn ").length=5:=by decide +kernel
     have lp5:(Str.ofString "push ").length=5:=by decide +kernel
     obtain⟨r1,r2⟩:=row turnS (Str.ofString "turn ") (by decide +kernel) (by have:∀c∈turnS.cps.toList,33<=c/\c<128:=(by decide +kernel);exact this) (by lia);refine⟨_,_,rfl,by decide +kernel,szl (by show (Str.ofString "turn ").length+(A++spS++B).length<=_;lia),szl (by show (Str.ofString "turn " ++ (A++spS++B)).length+(wdT (nms ms p)).length<=_;rw[bz];lia),rfl,hs,ms,cells,_,rfl,r1,j,.inr (.inr ⟨a,b,p,⟨m,a6⟩,.inl ⟨r2,?_⟩⟩)⟩;rw[←l,←a9];refine⟨⟨sa,sa⟩,?_⟩;show Br (!eqD (.str an) (.str an)) _ _;rw[cQ sa];have fin:∀J:Sl,X [.val (oi T.az hs ms cells),.val (.lst (hs.map .str)),.val (.lst U),.val (rowD M),.val (.int a),.val (.int b),.val (.str (A++spS++B)),.own ow,.val (.str (wdT (nms ms p))),.val (.lst ((tblB (bkB hs ms cells) p).map rowD)),.val tk,.val (.str an),J,.nil]:=λJ=>hX _ ⟨C++[p],N,by rw[u];simp,by simp[e2],_,_,_,_,_,by rw[b0]⟩;have b3:∀{h:Nat} {Q:D->Prop},h<hs.length->Q (aq (sumP (col (tblB (bkB hs ms cells) p) h)))->opt (atI (M.map aq) (h:Int)) Q:=λlh q=>by rw[←es];exact cZ (by lia) (by lia) q
     refine Br.f (b3 a1 (Br.di (λN=>b3 H (Br.di (λz2=>?_) (λ_=>fin _))) (λ_=>Br.f (fin _))));obtain⟨r3,r4⟩:=row pushS (Str.ofString "push ") (by decide +kernel) (by have:∀c∈pushS.cps.toList,33<=c/\c<128:=(by decide +kernel);exact this) (by lia);have n1:(sumP (col (tblB (bkB hs ms cells) p) a)).1≠0:=by lia
     have n2:(sumP (col (tblB (bkB hs ms cells) p) b)).1≠0:=by lia
     refine⟨_,_,rfl,by decide +kernel,szl (by show (Str.ofString "push ").length+(A++spS++B).length<=_;lia),szl (by show (Str.ofString "push " ++ (A++spS++B)).length+(wdT (nms ms p)).length<=_;rw[bz];lia),rfl,hs,ms,cells,_,rfl,r3,j,.inr (.inr ⟨a,b,p,⟨m,a6⟩,.inr (.inl ⟨r4,⟨n1,n2⟩,λz hz=>?_⟩)⟩)⟩;obtain⟨rest,zl,zs⟩:∃rest,z.length<=10004/\Txt.split z spS=(if canB (tblB (bkB hs ms cells) p) a b=true then Str.ofString "can" else mD)::rest:=by
      unfold vz at hz;by_cases q:shQ (at_ (col (tblB (bkB hs ms cells) p) a) (aY (col (tblB (bkB hs ms cells) p) a)).1)<shQ (at_ (col (tblB (bkB hs ms cells) p) b) (aY (col (tblB (bkB hs ms cells) p) b)).2)
      ·rw[zzk q]at hz;obtain⟨r,wr,lr,rfl⟩:=hz;have l4:canS.length=4:=by decide +kernel
       exact⟨[r],by rw[bz];lia,by rw[zzk ((vF tb a1 H n1 n2).mpr q),zS wr]⟩
      ·rw[zzh q]at hz;subst hz;exact⟨[],by decide +kernel,by rw[zzh λw=>q ((vF tb a1 H n1 n2).mp w),kN (by decide +kernel)]⟩
     refine⟨z,rfl,spS,⟨rfl,by decide +kernel,zzl (zxV zl 2) (by decide)⟩,?_⟩;rw[zs];refine au (d:=.str (if canB (tblB (bkB hs ms cells) p) a b=true then Str.ofString "can" else mD)) (zzN 0) rfl ?_;refine⟨sz,rfl,hs.length,tblB (bkB hs ms cells) p,a,b,rfl,tb,m,?_⟩;rw[zzC,zzC];have sn:shp (.str mD)=true:=s0 "never";have sc:shp (.str (Str.ofString "can"))=true:=s0 "can";cases canB (tblB (bkB hs ms cells) p) a b with
     | true=>exact⟨⟨sc,sc⟩,by show Br (!eqD (.str (Str.ofString "can")) (.str (Str.ofString "can"))) _ _;rw[cQ sc];exact Br.f (fin _)⟩|false=>exact⟨⟨sn,sn⟩,by show Br (!eqD (.str mD) (.str mD)) _ _;rw[cQ sn];exact Br.f (fin _)⟩
 ·rintro _ ⟨s8,s9,a5,o,J,rfl⟩;have m5:=j.t.m5;have ml:(bkB hs ms cells).marks.length=ms.length:=zza _;have et:((bT ms).filter λi=>isT (bkB hs ms cells) a b i && decide (i≠[]))=tby (bkB hs ms cells) a b:=by
   unfold tby;rw[zzh j.ne,ml,zzZ (by simp)];refine List.filter_congr λs hs=>?_;rw[zzp (De ms.length m5 s hs),Bool.and_true]
  rw[et];obtain⟨L,hL⟩:∃L,L=(tby (bkB hs ms cells) a b).map λi=>Txt.join dotS (nms ms i):=⟨_,rfl⟩;rw[←hL];have kl:∀x∈L,(x.length<=1000/\x≠Str.empty)/\∀c∈x.cps.toList,c<128:=λx Y=>by rw[hL]at Y;obtain⟨p,G,rfl⟩:=zzf.mp Y;unfold tby at G;rw[zzh j.ne]at G;have G:=(zzQ.mp G).1;have ok:=vh bo.mk5 (show (bkB hs ms cells).marks.length+1<=6 by rw[ml];lia) G;rw[ml]at G;exact BP j.t (De ms.length m5 p G) ok.1 λy hy=>by have:=ok.2.1 y hy;rw[ml]at this;exact this
  have ll:L.length<=31:=by rw[hL,zza];unfold tby;rw[zzh j.ne];exact zzl (zyk _ _) (dR _ bo.mk5 _ (by rw[ml];lia))
  refine⟨spS,rfl,L,⟨rfl,cL (B:=1000) (λy hy=>(kl y hy).1.1) ?_⟩,?_⟩
  ·rw[l1];lia
  have l4:(Str.ofString "marks ").length=6:=by decide +kernel
  refine⟨_,_,rfl,by decide +kernel,szl (by show (Str.ofString "marks ").length+(A++spS++B).length<=_;lia),rfl,hs,ms,cells,_,rfl,?_,j,.inr (.inr ⟨a,b,[],⟨m,?_⟩,.inr (.inr ⟨?_,?_⟩)⟩)⟩
  ·rw[bz];lia
  ·exact(i [] (by simp)).1
  ·rw[zR (k:=marsS) (by decide +kernel),←I,←E];refine gO (λx Y=>?_) (by simp);simp only[zzi,zzW,zyD]at Y;rcases Y with rfl|rfl|rfl
   ·have:∀c∈marsS.cps.toList,33<=c/\c<128:=by decide +kernel
    exact this
   ·rw[I];exact Wd.nm (j.t.hn _ (eF a1))
   ·rw[E];exact Wd.nm (j.t.hn _ (eF H))
  ·have ej:=kM (gP (k:=32) (by decide) (ls:=L) λx Y=>(kl x Y).2);rw[←IA]at ej;rw[show (tby (bkB hs ms cells) a b).map (λp=>Txt.join dotS (bH (ms.map (·.1)) p))=L from hL.symm];refine⟨sz,⟨ej,s0 ""⟩,?_⟩;show opt (atI [D.str (Txt.join spS L),D.str zH] (if eqD (.str (Txt.join spS L)) (.str Str.empty)=true then 1 else 0)) _;unfold allT;cases L with
   | nil=>exact⟨⟨s0 "none",s0 "none"⟩,by show Q (.bl (eqD (.str zH) (.str zH)));rw[cQ (show shp (.str zH)=true from s0 "none")];exact h⟩|cons x r =>
    have ne:Txt.join spS (x::r)≠Str.empty:=λz=>by have z2:=congrArg (λz:Str=>z.cps.toList) z;rw[show Txt.join spS (x::r)=Str.join spS (x::r) from zzU ..]at z2;rw[fH]at z2;have:=(zwx.mp z2).1;exact(kl x zze).1.2 (iw this)
    rw[zzh (by rw[bq,zzv ne];decide),zzh (by simp)];exact⟨⟨ej,ej⟩,by show Q (.bl (eqD (.str (Txt.join spS (x::r))) (.str (Txt.join spS (x::r)))));rw[cQ ej];exact h⟩
theorem oj{α:Type}{F:α->Int}:∀{l:ab α},(∀x∈l,F x=0)->(l.map F).sum=0
 |[],_=>rfl|x::l,h=>by rw[zzj,zyc,h x zze,oj λy J=>h y (zzb _ J)];rfl
theorem zT{v:Int}{k:ab Int}:∀{K:ab (ab Int)},K.Nodup->k∈K->(K.map λx=>if k=x then v else 0).sum=v
 |[],_,h=>by simp at h
 |x::K,i,h=>by
  have i:=zzT.mp i;rw[zzj,zyc];by_cases z:k=x
  ·rw[zzk z];have:(K.map λx=>if k=x then v else 0).sum=0:=oj λy J=>zzh λe=>i.1 (by rw[←z,e];exact J);lia
  ·rw[zzh z,zT i.2 (by rcases zzi.mp h with h|h;exact absurd h z;exact h)];lia
theorem vG{α:Type}(F G:α->Int):∀l:ab α,(l.map λx=>F x+G x).sum=(l.map F).sum+(l.map G).sum
 |[]=>rfl|x::l=>by rw[zzj,zzj,zzj,zyc,zyc,zyc,vG F G l];lia
theorem vH(F:Row->Int){K:ab (ab Int)}(i:K.Nodup):∀(ps:ab (ab Int×Row)),(∀p∈ps,p.1∈K)->(K.map λk=>(((ps.filter λp=>decide (p.1=k)).map (·.2)).map F).sum).sum=((ps.map (·.2)).map F).sum
 |[],_=>oj λ_ _=>rfl|p::ps,h=>by
  have L:=vH F i ps λq J=>h q (zzb _ J);rw[zzj,zzj,zyc,←L,←zT (v:=F p.2) i (h p zze),←vG];congr 1;apply zzF;intro k _;rw[List.filter_cons];by_cases z:p.1=k
  ·rw[zzk (zzp z),zzk z,zzj,zzj,zyc]
  ·rw[zzh (by rw[zyJ];exact z),zzh z];lia
theorem wY(m:Nat)(ps:ab (ab Int×Row)):sums ((aP m ps).map (·.2)) m=sums (ps.map (·.2)) m:=by
 apply zzF;intro h j;have j:=zyo.mp j;have L:∀p∈ps,p.1∈(aP m ps).map (·.1):=λp U=>parts_mem.mpr (zzf.mpr ⟨p,U,rfl⟩);have key:∀g:Int×Int->Int,(∀i:ab (Int×Int),g (sumP i)=(i.map g).sum)->((col ((aP m ps).map (·.2)) h).map g).sum=((col (ps.map (·.2)) h).map g).sum:=λg J=>by
  have:=vH (λr=>g (at_ r h)) (vf m ps) ps L;unfold col;rw[zzo,zzo (f:=λr=>at_ r h)];refine Eq.trans ?_ this
  conv=>lhs;rw[ve m ps]
  rw[zzo,zzo];congr 1;apply zzF;intro k _;show g (at_ (sums ((ps.filter λp=>decide (p.1=k)).map (·.2)) m) h)=_;rw[ET j,J];unfold col;rw[zzo];rfl
 have l:=key (·.1) λi=>rfl;have Y:=key (·.2) λi=>rfl;unfold sumP;rw[l,Y]
theorem BR{b:Bk}(h:b.cells≠[])(i:ab Int):bS b i≠[]:=λz=>by
 cases q:b.cells with
 |nil=>exact h q|cons c t =>
  have:vals c.1 i∈(bS b i).map (·.1):=by unfold bS;rw[parts_mem,zzo,zzf];exact⟨c,by rw[q];exact zze,rfl⟩
  rw[z]at this;simp at this
theorem zU{b:Bk}(h:b.cells≠[]):∃r,bS b []=[([],r)]/\r=sums (b.cells.map (·.2)) b.m:=by
 have l:(b.cells.map λc=>(vals c.1 [],c.2)).filter (λp=>decide (p.1=[]))=b.cells.map λc=>(vals c.1 [],c.2):=zxZ.mpr λp o=>by obtain⟨d,_,rfl⟩:=zzf.mp o;exact zzp rfl
 have all:∀c∈bS b [],c=([],sums (b.cells.map (·.2)) b.m):=λc J=>by
  have i:c.1∈(bS b []).map (·.1):=zzf.mpr ⟨c,J,rfl⟩;unfold bS at i J;have L:=ky J;rw[parts_mem,zzo,zzf]at i;obtain⟨d,_,e⟩:=i;have e:c.1=[]:=by rw[←e];rfl
  rw[e,l,zzo]at L;exact Prod.ext e L
 have j:((bS b []).map (·.1)).Nodup:=by unfold bS;exact vf _ _
 refine⟨_,?_,rfl⟩;cases e:bS b [] with
 |nil=>exact absurd e (BR h [])|cons c t =>
  rw[all c (by rw[e];exact zze)];cases t with
  |nil=>rfl|cons d t =>
   rw[e]at j;have U:=all c (by rw[e];simp);have Y:=all d (by rw[e];simp);rw[U,Y]at j;simp at j
theorem ol(b:Bk)(i:ab Int):sums (tblB b i) b.m=sums (b.cells.map (·.2)) b.m:=by unfold tblB bS;rw[wY,zzo];rfl
theorem vI{a:ab Int}(h:a.Perm b):a.sum=b.sum:=by
 induction h with
 |nil=>rfl|cons x _ J=>rw[zyc,zyc,J]|swap x y l=>rw[zyc,zyc,zyc,zyc];lia|trans _ _ i j=>exact i.trans j
theorem zV{s t:ab Row}(h:s.Perm t)(m:Nat):sums s m=sums t m:=by refine zzF λi _=>?_;unfold sumP col;rw[vI ((h.map _).map _),vI ((h.map (λr=>at_ r i)).map (·.2))]
theorem wZ{f g:ab (ab Int×Row)}(h:f.Perm g)(m:Nat)(i:ab Int):aP m (psOf f i)=aP m (psOf g i) :=
 mx (λk=>((h.map _).map _).mem_iff) λk _=>zV (((h.map _).filter _).map _) m
noncomputable def rowL(f:ab (ab Int×Row))(k:ab Int):Row:=((f.find? λp=>decide (p.1=k)).map (·.2)).getD []
theorem tD:∀{f:ab (ab Int×Row)},(f.map (·.1)).Nodup->∀{p:ab Int×Row},p∈f->rowL f p.1=p.2
 |[],_,p,J=>by simp at J
 |q::f,i,p,J=>by
  obtain⟨L,U⟩:=zzT.mp i;unfold rowL;by_cases e:q.1=p.1
  ·rw[zzX (by simpa using e)];rcases zzi.mp J with rfl|J
   ·rfl
   ·exact absurd (show q.1∈f.map (·.1) from zzf.mpr ⟨p,J,e.symm⟩) L
  ·rw[zzY (by simpa using e)];rcases zzi.mp J with rfl|J
   ·exact absurd rfl e
   ·exact tD U J
noncomputable def eY(f:ab (ab Int×Row)):ab (ab Int×Row):=(cy (f.map (·.1))).map λk=>(k,rowL f k)
theorem mI{f:ab (ab Int×Row)}(i:(f.map (·.1)).Nodup):(eY f).Perm f:=by
 have e:(f.map (·.1)).map (λk=>(k,rowL f k))=f:=by
  rw[zzo]
  conv=>rhs;rw[←List.map_id' f]
  exact zzF λp J=>by show (p.1,rowL f p.1)=p;rw[tD i J]
 have h:=(aO (f.map (·.1))).map λk=>(k,rowL f k);rw[e]at h;exact h
structure NmT(hs:List Str)(ms:List Mk):Prop where
 h2:2 <= hs.length
 h3:hs.length <= 3
 hn:∀x∈hs,isNm x=true
 hd:hs.Nodup
 m1:1 <= ms.length
 m3:ms.length <= 3
 mn:∀m∈ms,isNm m.1=true/\2 <= m.2.length/\m.2.length <= 3/\(∀x∈m.2,isNm x=true)/\m.2.Nodup
 md:(ms.map (·.1)).Nodup
theorem BS(no:NmT hs ms){f:ab (ab Int×Row)}(J:ClOk hs.length (mkN ms) f):DkOk hs ms (eY f):=by
 have pm:=mI J.o.nd;have l:∀c∈eY f,c∈f:=λc L=>pm.mem_iff.mp L;have h3:=no.h3;have m3:=no.m3;refine⟨⟨no.h2,by lia,no.hn,no.hd,by lia,λm u=>?_,no.md,by rw[pm.length_eq];exact J.l8,λc L=>⟨?_,(J.o.it c (l c L)).2⟩,λc L i k m G u=>?_,λi j x y U C Y=>?_⟩,λz=>?_⟩
 ·obtain⟨a1,a2,a3,I,M⟩:=no.mn m u;exact⟨a1,by lia,by lia,I,M⟩
 ·rw[(J.o.it c (l c L)).1.1,zza]
 ·have kk:=(J.o.it c (l c L)).1;obtain⟨v,H⟩:=zzy.mp G;have:=kk.2 i v;rw[zzx,zzx,G,zzr,u]at this;exact this
 ·have up:=jr J.o.nd;obtain⟨v,H⟩:=zzy.mp C;obtain⟨T,a⟩:=zzy.mp Y;have N:(eY f).map (·.1)=cy (f.map (·.1)):=by unfold eY;rw[zzo];exact List.map_id' _
  rw[←N]at up;have:=zyr.mp up i j (by rw[zza];exact v) (by rw[zza];exact T) U;rw[List.getElem_map,List.getElem_map,H,a]at this;rw[tj _ _ (by rw[(J.o.it x (l x (zyb C))).1.1,(J.o.it y (l y (zyb Y))).1.1])];exact this
 ·rw[z]at pm;exact J.ne (List.nil_perm.mp pm)
theorem Fs{cells:ab (ab Int×Row)}(o:ms.length<=5):∀so∈bT ms,SoOk (bkB hs ms cells) so:=λso h=>by
 have u:(bkB hs ms cells).marks.length=ms.length:=zza _;rcases zzi.mp h with rfl|h
 ·exact⟨λx J=>by simp at J,zxm,by simp⟩
 ·obtain⟨i,j,l⟩:=vh o (show ms.length+1<=6 by lia) h;exact⟨λx J=>by rw[u];exact j x J,l,i⟩
theorem BU{cells:ab (ab Int×Row)}(o:BkT hs ms cells):shp (.str (fP hs ms cells))=true:=by refine kM ?_;unfold fP;refine gP (by decide) λl i=>?_;obtain⟨ws,J,rfl⟩:=zzf.mp i;exact gP (by decide) λx U c L=>((vv o ws J).2 x U c L).2
theorem IP{f:ab (ab Int×Row)}(j:(f.map (·.1)).Nodup)(i:ab Int):(aP hs.length (psOf f i)).map (λp=>rowD p.2)=(tblB (bkB hs ms (eY f)) i).map rowD:=by unfold tblB bS;rw[zzo];have e:=wZ (mI j) hs.length i;rw[←e];rfl
theorem BV{cells:ab (ab Int×Row)}(h:cells≠[]):tblB (bkB hs ms cells) []=[sums (cells.map (·.2)) hs.length]:=by obtain⟨r,J,L⟩:=zU (b:=bkB hs ms cells) h;unfold tblB;rw[J,L];rfl
theorem Ft(u:∀m∈ms,m.1.length<=8)(v:∀y∈k,0<=y/\y<ms.length)(o:k.length<=5){s:Sl}(q:Q (((nms ms k).map λw=>spS++w).map D.str)) :
  bU (bc 0) bG (dOp (g2S (λi j=>i.length+j.length<=sizeLine) λi j=>D.str (i++j)) (dC (D.str spS)) (dOp gIx (dOp gIx (dVar 1) (dVar 0)) (dC (.int 0)))) (k.map D.int) [] [s,.val (.lst (ms.map mkD))] Q:=by
 refine aA (λi=>.str (spS++(ms.map (·.1)).getD i.toNat Str.empty)) (λl=>∃s,l=[s,.val (.lst (ms.map mkD))]) (zzl o (by decide)) (λx C l Y Z L U=>?_) _ ⟨_,rfl⟩ ?_
 ·obtain⟨s,rfl⟩:=L;obtain⟨h0,h1⟩:=v x C;have lt:x.toNat<ms.length:=by lia
  have J:(ms.map (·.1)).getD x.toNat Str.empty=(ms[x.toNat]).1:=by rw[zzx,zzr,zzn lt];rfl
  have l8:=u _ (zyn lt);have l1:spS.length=1:=by decide +kernel
  refine Br.t (au (d:=mkD ms[x.toNat]) h0 (by rw[zzr,zzn lt];rfl) ⟨szl (by lia),?_⟩);rw[←J];exact U _ ⟨_,rfl⟩
 ·unfold nms bH at q;rw[zzo,zzo]at q;exact q
theorem zW(j:ms.length<=5){a b:Sl}(q:Q ((mkN ms).map D.int)):bU (rY 2 (eQ (bc 0) (eQ (bc 1) wu))) bG (dCB gLen (aF (dVar 1) cF)) (ms.map mkD) [] [a,b] Q:=by
 refine aA (λm=>.int (m.2.map D.str).length) (λi=>∃a b,i=[a,b]) (zzl j (by decide)) (λm _ i Y Z J L=>?_) _ ⟨_,_,rfl⟩ ?_
 ·obtain⟨a,b,rfl⟩:=J;exact⟨rfl,Br.t (L _ ⟨_,_,rfl⟩)⟩
 ·simp only[zza];rw[zzo]at q;exact q
set_option maxHeartbeats 1000000 in
theorem KG(T:Tx K mg)(B:Bm mg base):T.Ac.Ok P w base CX0 14 (DL.spLaw K):=by
 refine Ka (k:=13) T.Ac.d.F sc_law rfl (by decide) (λcdv A outer s H E v=>fL (i:=1) sc_law.nd rfl (Or.inl rfl) (mR (sL T) (v.mono (by decide)) rfl T.dZ.d.m T.dZ.d.F.kp T.dZ.d.b .nil vW (aQ (pv 0) bD))) (λhcd=>λv _=>(aw (aN (bd T.bI (da1 ad)) (dgn 2) (aa (dse 3 (dcl (eX T) v (ac (dv 1) (da1 (ar bB ad (dcl (aC T) v (ac (dv 1) (da1 ad)))))))) (aa (dow 4 (aL bK)) (aw (aN (aB (dcl (eX T) v (ac (dv 1) (da1 (ar bB ad (dcl (aC T) v (ac (dv 1) (da1 ad)))))))) (dgn 5) (ai (cO (pv 4) (ay (ac (dv 5) (da1 (dcl (eX T) v (ac (dv 1) (da1 (ar bB ad (dcl (aC T) v (ac (dv 1) (da1 ad))))))))))))) (aa (dse 6 (dln aX T.bv (dv 3))) (aa (dse 7 (dcl (qK T) v (ac (dv 1) (ac (dfc (ao ["_law_word","_law_some"] [none,none] rfl (aB (dv 4)) (dg2 0 1) ax (dln aX T.bv (dv 1)))) (a1 6))))) (aw (eB 8 (ao ["_law_kinds","_law_cells_here"] [none,some 7] rfl (aB (aZ nI T.jt (by decide +kernel) (a1 7))) (dgb 0) ax (ay (ac (dv 0) (da1 (uO v (dv 1) (dv 0) (λ_ _=>rfl))))))) (aa (dse 9 (dcl (tz T) v (ac (ay (a2 3 4)) (a1 8)))) (aw (dse 10 (dcl (tu T) v (da1 (dln aX T.bv (dv 4))))) (aa (dow 11 (aL bK)) (aw (aN (aB (dv 10)) (dgn 12) (aa (dse 13 (bW ag (dfc (ao ["_law_k","_law_marks"] [none,some 4] rfl (dN (dv 12)) (dgb 0) ax (ar bf ag (dix (dix (dv 1) (dv 0)) ad)))))) (ai (cO (pv 11) (ay (ac (dv 13) (da1 (dcl (iN T) v (a3 7 12 6))))))))) (aa (dse 14 (dix (dcl (iN T) v (ac (dv 7) (ac (ay bK) (a1 6)))) ad)) (aw (dse 15 (EF T.qY (tt T) (v.mono (by decide)) rfl T.Fw T.tM (dv 9))) (aa (dir (cj (bV (dcl (gc T) v (ac (dix (dcl (CQ T) v (a1 9)) ad) (a3 11 10 14))))) ie) (aw (aN (bd T.bI (a1 6)) (dgn 16) (ai (dir (cj (bV (dcl (iz T) v (ac (dv 15) (ac (dv 3) (ac (dv 11) (ac (dv 14) (ac (dv 16) (da1 (ar yH (ar bB (dv 16) ad) (dv 6))))))))))) ie))) (aa (dse 17 (bW ag (dfc (ao ["_law_count"] [none] rfl (dN (dv 14)) (dgb 0) ax (ar bf (ar bf (al dF T.iZ (da1 (dx 0))) ag) (al dF T.iZ (da1 (dx 0)))))))) (ai (dir (PWD.pt (gv (ah (fT v) (kg (dW T) (v.mono (by decide)) T.dG T.df T.dY (dv 15) (da1 ag)) (dv 17)) (dM (ah (fT v) (kg (dW T) (v.mono (by decide)) T.dG T.df T.dY (dv 15) (da1 ag)) (dv 9))))) ie)))))))))))))))))) (dr ie))) ?_;refine⟨λj=>∃s2 s3 s4 G s6 s7 s8 s9 a9 a8 J L a4 a5 U g:Sl,j=[.nil,.val .pen,s2,s3,s4,G,s6,s7,s8,s9,a9,a8,J,L,a4,a5,U,g],⟨⟨by decide,by decide⟩,?_⟩,?_⟩
 ·refine fq (λk j=>∃s2 s3 s4 G s6 s7 s8 s9 a9 a8 J L a4 a5 U g:Sl,j=[.nil,.val .pen,s2,s3,s4,G,s6,s7,s8,s9,a9,a8,J,L,a4,a5,U,g]) _ _ ?_ ?_ _ ⟨_,_,_,_,_,_,_,_,_,_,_,_,_,_,_,_,rfl⟩
  ·rintro j h;exact h
  rintro k j X k0 k1 ⟨s2,s3,s4,G,s6,s7,s8,s9,a9,a8,J,L,a4,a5,U,g,rfl⟩ hX;refine⟨rfl,⟨by decide,by decide⟩,λr r0 r1=>⟨rfl,2+r,rfl,⟨by lia,by lia⟩,λhs ho=>⟨sz,?_⟩⟩⟩;have hl1:=ho.l;refine⟨λj=>∃(ms:ab Mk) (G:Sl),NmT hs ms/\j=[.nil,.val .pen,.val (.int k),.val (.lst (hs.map .str)),.own (ms.map mkD),G,s6,s7,s8,s9,a9,a8,J,L,a4,a5,U,g],⟨rfl,⟨by decide,by decide⟩,λn n0 n1=>⟨rfl,1+n,rfl,⟨by lia,by lia⟩,λus uo=>?_⟩⟩,?_⟩
  ·have hl2:=uo.l;refine aG (λpre j=>∃(ms:ab Mk) (u1:ab Str) (G:Sl),us=ms.map (·.1)++u1/\pre=(ms.map (·.1)).map D.str/\(∀m∈ms,2<=m.2.length/\m.2.length<=3/\(∀x∈m.2,isNm x=true)/\m.2.Nodup)/\j=[.nil,.val .pen,.val (.int k),.val (.lst (hs.map .str)),.own (ms.map mkD),G,s6,s7,s8,s9,a9,a8,J,L,a4,a5,U,g]) (λj M=>?_) (λpre d post j X e M hX=>?_) _ ⟨[],us,_,rfl,rfl,λm Q=>by simp at Q,rfl⟩
   ·obtain⟨ms,u1,G,C,e2,mo,rfl⟩:=M;have:u1=[]:=by
     have:=congrArg List.length e2;rw[C]at this;simp at this;exact this
    subst this;rw[zzs]at C;have ml:ms.length=us.length:=by rw[C,zza]
    exact⟨ms,G,⟨by lia,by lia,ho.m,ho.d,by lia,by lia,λm Q=>⟨uo.m m.1 (by rw[C];exact zzf.mpr ⟨m,Q,rfl⟩),mo m Q⟩,by rw[←C];exact uo.d⟩,rfl⟩
   ·obtain⟨ms,u1,G,C,rfl,mo,rfl⟩:=M;rw[C,zzc]at e;have e:=zzz e;cases u1 with
    |nil=>simp at e|cons u u1 =>
     rw[zzj]at e;injection e with e2 e3;subst e2;have ml:=congrArg List.length C;rw[zzg,zza]at ml;refine⟨trivial,rfl,⟨by decide,by decide⟩,λq q0 q1=>⟨rfl,2+q,rfl,⟨by lia,by lia⟩,λks ko=>?_⟩⟩;have kl:=ko.l;refine⟨sz,?_,hX _ ⟨ms++[(u,ks)],u1,_,by rw[C];simp,by rw[zzc,zzc];rfl,λm Q=>?_,by rw[zzc];rfl⟩⟩
     ·rw[zza];exact zzw (show ms.length<=10 by lia) (by decide)
     ·rcases zzA.mp Q with Q|Q
      ·exact mo m Q
      ·rw[zzG.mp Q];exact⟨by show 2<=ks.length;lia,by show ks.length<=3;lia,ko.m,ko.d⟩
  ·rintro _ ⟨ms,G,no,rfl⟩;have h2:=no.h2;have h3:=no.h3;have m1:=no.m1;have m3:=no.m3;have hl:(((hs.map D.str).length:Nat):Int)=(hs.length:Int):=by rw[zza]
   refine zW (by lia) ?_;rw[hl];refine⟨rfl,mkN ms,hs.length,rfl,⟨⟨by rw[zza];exact m1,by rw[zza];exact m3,λx hx=>?_⟩,h2,h3⟩,λf fo=>?_⟩
   ·obtain⟨m,Q,rfl⟩:=zzf.mp hx;have:=(no.mn m Q).2;lia
   have N:=BS no fo;have nd:=fo.o.nd;obtain⟨cells,a7⟩:∃cells,cells=eY f:=⟨_,rfl⟩;have b8:∀I,(aP hs.length (psOf f I)).map (λp=>rowD p.2)=(tblB (bkB hs ms cells) I).map rowD:=λI=>by rw[a7];exact IP nd I
   rw[←a7]at N;have bo:=Fi N.t;have lt:∀{n:Nat},n<=100->n<sizeLine:=λh=>zzw h (by decide);refine⟨λj=>j=[.nil,.val .pen,.val (.int k),.val (.lst (hs.map .str)),.val (.lst (ms.map mkD)),G,.val (.int hs.length),.val (eG f),.val (.lst (cells.map gb)),s9,a9,a8,J,L,a4,a5,U,g],?_,?_⟩
   ·have c1:∀k∈f.map (·.1),k.length=(mkN ms).length:=λk hk=>by
     obtain⟨p,hp,rfl⟩:=zzf.mp hk;exact(fo.o.it p hp).1.1
    have l8:=fo.l8;have hk:(f.map λp=>kI p.1)=(f.map (·.1)).map kI:=by rw[zzo];rfl
    have sl:(cy (f.map (·.1))).length<=8:=by rw[(aO _).length_eq,zza];exact l8
    refine⟨⟨λk b1=>?_,λh2 k b1=>?_,?_⟩,?_⟩
    ·rw[hk]at b1;obtain⟨k',_,rfl⟩:=zzf.mp b1;exact zI k'
    ·rw[hk]at h2 b1;rw[zza]at h2;obtain⟨k',b9,rfl⟩:=zzf.mp b1;intro z;exact sM nd c1 h2 k' b9 (iL (b:=[]) z)
    ·rw[zza];lia
    ·have C:(srtK (f.map λp=>kI p.1)).map keyD=(cy (f.map (·.1))).map ak:=by
      rw[hk,nN,zzo];exact zzF λk _=>(cx k).symm
     show bU _ _ _ ((srtK (f.map λp=>kI p.1)).map keyD) _ _ _;rw[C];refine aH (λpre b6 j=>∃k0 k1:ab (ab Int),cy (f.map (·.1))=k0++k1/\pre=k0.map ak/\b6=(k0.map λk=>(k,rowL f k)).map gb/\∃s:Sl,j=[s,.val (eG f)]) (λb6 j M=>?_) (λpre d post b6 j Y e M hY=>?_) _ ⟨[],_,rfl,rfl,rfl,_,rfl⟩
     ·obtain⟨k0,k1,e,e2,rfl,s,rfl⟩:=M;have:k1=[]:=by
       have:=congrArg List.length e2;rw[e]at this;simp at this;exact this
      subst this;rw[zzs]at e;rw[a7];unfold eY;rw[e];rfl
     ·obtain⟨k0,k1,e3,rfl,rfl,s,rfl⟩:=M;rw[e3,zzc]at e;have e:=zzz e;cases k1 with
      |nil=>simp at e|cons k k1 =>
       rw[zzj]at e;injection e with e4 e5;subst e4;have b1:k∈cy (f.map (·.1)):=by rw[e3];simp
       obtain⟨p,hp,rfl⟩:=zzf.mp ((aO _).mem_iff.mp b1);rw[e3,zzg]at sl;refine Br.t ⟨embL f,kI p.1,.lst (p.2.map aq),vB f,cx p.1,Db fo.o hp,sz,?_,hY _ _ ⟨k0++[p.1],k1,by rw[e3];simp,by simp,by rw[zzc,zzc,zyE,tD nd hp];rfl,_,rfl⟩⟩;rw[zza,zza];exact lt (by lia)
   ·rintro _ rfl;refine⟨sz,rfl,hs,ms,cells,rfl,N.t.sh,?_⟩;obtain⟨tx,b4⟩:∃tx,tx=fP hs ms cells:=⟨_,rfl⟩;rw[←b4];refine⟨λj=>j=[.nil,.val .pen,.val (.int k),.val (.lst (hs.map .str)),.val (.lst (ms.map mkD)),G,.val (.int hs.length),.val (eG f),.val (.lst (cells.map gb)),.val (.str tx),.val (bZ (bT ms)),a8,J,L,a4,a5,U,g],⟨rfl,ms.length,?_,⟨m1,m3⟩,rfl⟩,?_⟩
    ·show [D.int (((ms.map mkD).length:Nat):Int)]=_;rw[zza]
    rintro _ rfl;obtain⟨a6,b2⟩:∃a6,a6=(bT ms).map (tabD (bkB hs ms cells) λI=>wdT (nms ms I)):=⟨_,rfl⟩;have m5:=N.t.m5;have b7:=Fs (hs:=hs) (cells:=cells) m5;refine⟨sz,λj=>∃J L:Sl,j=[.nil,.val .pen,.val (.int k),.val (.lst (hs.map .str)),.val (.lst (ms.map mkD)),G,.val (.int hs.length),.val (eG f),.val (.lst (cells.map gb)),.val (.str tx),.val (bZ (bT ms)),.own a6,J,L,a4,a5,U,g],?_,?_⟩
    ·have sl:(bT ms).length<=40:=by
      have:=dR ms.length m5 (ms.length+1) (by lia);rw[zzu];lia
     refine aG (λpre j=>∃z0 z1:ab (ab Int),bT ms=z0++z1/\pre=z0.map ak/\∃J L:Sl,j=[.nil,.val .pen,.val (.int k),.val (.lst (hs.map .str)),.val (.lst (ms.map mkD)),G,.val (.int hs.length),.val (eG f),.val (.lst (cells.map gb)),.val (.str tx),.val (bZ (bT ms)),.own (z0.map (tabD (bkB hs ms cells) λI=>wdT (nms ms I))),J,L,a4,a5,U,g]) (λj M=>?_) (λpre d post j X e M hX=>?_) _ ⟨[],_,rfl,rfl,_,_,rfl⟩
     ·obtain⟨z0,z1,C,e2,J,L,rfl⟩:=M;have:z1=[]:=by
       have:=congrArg List.length e2;rw[C]at this;simp at this;exact this
      subst this;rw[zzs]at C;rw[b2,C];exact⟨_,_,rfl⟩
     ·obtain⟨z0,z1,C,rfl,J,L,rfl⟩:=M;have e:(bT ms).map ak=z0.map ak++d::post:=e;rw[C,zzc]at e;have e:=zzz e;cases z1 with
      |nil=>simp at e|cons p z1 =>
       rw[zzj]at e;injection e with e3 e4;subst e3;have hp:p∈bT ms:=by rw[C];simp
       have b5:=b7 p hp;have pr:∀y∈p,0<=y/\y<ms.length:=λy hy=>by have:=b5.it y hy;rw[show (bkB hs ms cells).marks.length=ms.length from zza _]at this;exact this
       have nm:=iO N.t pr;refine⟨Str.empty,rfl,Ft (λm Q=>(bC (no.mn m Q).1).2) pr b5.len ?_⟩;refine⟨(nms ms p).map λw=>spS++w,⟨rfl,cL (B:=9) (λy hy=>?_) ?_⟩,?_⟩
       ·obtain⟨x,hx,rfl⟩:=zzf.mp hy;have:=(bC (nm x hx)).2;have l1:spS.length=1:=by decide +kernel
        rw[bz];lia
       ·have l5:(nms ms p).length<=5:=by unfold nms bH;rw[zza];exact b5.len
        have l0:Str.empty.length=0:=rfl;rw[zza,l0];lia
       refine⟨trivial,rfl,hs.length,mkN ms,f,p,rfl,⟨fo,by lia⟩,⟨λx hx=>by rw[zza];exact pr x hx,b5.len⟩,?_⟩;rw[b8 p];refine⟨sz,?_,hX _ ⟨z0++[p],z1,by rw[C];simp,by simp,_,_,by rw[zzc];rfl⟩⟩;rw[zza];rw[C,zzg]at sl;exact lt (by lia)
    ·rintro _ ⟨J,L,rfl⟩;obtain⟨wh,b3⟩:∃wh,wh=sums (cells.map (·.2)) hs.length:=⟨_,rfl⟩;have st:∀I,sums (tblB (bkB hs ms cells) I) hs.length=wh:=λI=>by rw[b3];exact ol (bkB hs ms cells) I
     refine⟨sz,rfl,hs.length,mkN ms,f,[],rfl,⟨fo,by lia⟩,⟨λx hx=>by simp at hx,by simp⟩,?_⟩;rw[b8 [],BV N.ne,←b3];refine⟨λj=>j=[.nil,.val .pen,.val (.int k),.val (.lst (hs.map .str)),.val (.lst (ms.map mkD)),G,.val (.int hs.length),.val (eG f),.val (.lst (cells.map gb)),.val (.str tx),.val (bZ (bT ms)),.own a6,J,L,.val (rowD wh),.val (oi T.az hs ms cells),U,g],⟨tx,hs,ms,_,rfl,by rw[b4];exact zF N.t,_,_,qE N.t,rfl⟩,?_⟩;rintro _ rfl;refine⟨rfl,tx,hs,ms,_,rfl,by rw[b4];exact zF N.t,?_⟩;rw[qE N.t];refine⟨rfl,bkB hs ms cells,bT ms,λI=>wdT (nms ms I),by rw[b2,←ID,b3],⟨bo,N.ne,b7⟩,λI _=>ol (bkB hs ms cells) I,Br.f ?_⟩;refine⟨λj=>∃U:Sl,j=[.nil,.val .pen,.val (.int k),.val (.lst (hs.map .str)),.val (.lst (ms.map mkD)),G,.val (.int hs.length),.val (eG f),.val (.lst (cells.map gb)),.val (.str tx),.val (bZ (bT ms)),.val (.lst a6),J,L,.val (rowD wh),.val (oi T.az hs ms cells),U,g],⟨⟨by lia,by lia⟩,?_⟩,?_⟩
     ·rw[zzC];refine fG (λa j=>∃U:Sl,j=[.nil,.val .pen,.val (.int k),.val (.lst (hs.map .str)),.val (.lst (ms.map mkD)),G,.val (.int hs.length),.val (eG f),.val (.lst (cells.map gb)),.val (.str tx),.val (bZ (bT ms)),.val (.lst a6),J,L,.val (rowD wh),.val (oi T.az hs ms cells),U,g]) (λj M=>M) (λa j Y la M hY=>?_) _ ⟨_,rfl⟩;obtain⟨U,rfl⟩:=M;have em:(((a+1) % hs.length:Nat):Int)=((a:Int)+1) % (hs.length:Int):=by rw[Int.natCast_emod];rfl
      refine⟨by lia,rfl,hs,ms,cells,a,(a+1) % hs.length,by rw[b2,b3,em],⟨N,by rw[em];exact zO h2 la⟩,λI c0=>⟨b7 I c0,ol (bkB hs ms cells) I⟩,Br.f (hY _ ⟨_,rfl⟩)⟩
     ·rintro _ ⟨U,rfl⟩;have rn:RowN 200 hs.length wh:=by
       rw[b3];exact zo (λr v=>by obtain⟨c,hc,rfl⟩:=zzf.mp v;exact(bo.it c hc).2.1) (by rw[zza];exact bo.c60)
      have cb:∀c∈wh,(0<=c.2/\0<=c.1/\Bd 1700 c.2/\Bd 1700 c.1)/\(frT c.2 c.1).length<=500:=λc hc=>by
       have cn:=rn.2 c hc;have lo:=cn.lo;have hi:=cn.hi;refine⟨⟨lo,by lia,cn.bw.mono (by decide),cn.bt.mono (by decide)⟩,?_⟩;unfold frT;rw[bz,bz];have h1:=numL lo cn.bw;have h2:=numL (n:=c.1) (by lia) cn.bt;have h3:slS.length=1:=by decide +kernel
       lia
      have rl:wh.length=hs.length:=rn.1;refine⟨spS,rfl,?_⟩;refine aA (λc=>.str (frT c.2 c.1)) (λj=>∃s,j=[s]) (szl (by lia)) (λc hc j Y Z M hY=>?_) _ ⟨_,rfl⟩ ?_
      ·obtain⟨s,rfl⟩:=M;obtain⟨b0,_⟩:=cb c hc;obtain⟨o1,o2⟩:=Ff b0;exact Br.t ⟨fQ b0.2.2.1 (by decide),o1,fQ b0.2.2.2 (by decide),o2,hY _ ⟨_,rfl⟩⟩
      ·refine⟨wh.map λc=>frT c.2 c.1,⟨by rw[zzo];rfl,cL (B:=500) (λy hy=>?_) ?_⟩,?_⟩
       ·obtain⟨c,hc,rfl⟩:=zzf.mp hy;exact(cb c hc).2
       ·have e:spS.length=1:=by decide +kernel
        rw[zza,e,rl];lia
       have sw:shp (.str (Txt.join spS (wh.map λc=>frT c.2 c.1)))=true:=by
        have:=kM (gP (k:=32) (by decide) (ls:=wh.map λc=>frT c.2 c.1) λx hx c hc=>by obtain⟨d,hd,rfl⟩:=zzf.mp hx;exact(frW (cb d hd).1.1 (cb d hd).1.2.1 c hc).2)
        rw[←IA]at this;exact this
       have ss:shp (.str tx)=true:=by rw[b4];exact BU N.t
       refine⟨_,_,rfl,by decide +kernel,rfl,hs,ms,cells,_,rfl,by decide +kernel,N,.inr (.inl ⟨kN (by decide +kernel),?_⟩)⟩;rw[←b3];generalize Txt.join spS (wh.map λc=>frT c.2 c.1)=wt at sw ⊢;refine⟨⟨sw,sw⟩,?_⟩;show Br (!eqD (.str wt) (.str wt)) _ _;rw[cQ sw];refine Br.f ⟨_,_,rfl,by decide +kernel,rfl,hs,ms,cells,_,rfl,by decide +kernel,N,.inl ⟨kN (by decide +kernel),?_⟩⟩;rw[←b4];refine⟨⟨ss,ss⟩,?_⟩;show Br (!eqD (.str tx) (.str tx)) _ _;rw[cQ ss];exact Br.f (hX _ ⟨_,_,_,_,_,_,_,_,_,_,_,_,_,_,_,_,rfl⟩)
 ·rintro _ ⟨s2,s3,s4,G,s6,s7,s8,s9,a9,a8,J,L,a4,a5,U,g,rfl⟩;rfl
end
set_option maxHeartbeats 0 in
theorem all_mk{l:PySem.W.OpenLaw}{w:World}{K:zwW}{h:cm}{mg:Str->ca bb}(X:K.In h)(G:h.Ns mainGlobals mg)(b2:mg "law" = some (.ref fa))(A:Ta K mg){cg o:Tok}{L:bn}{iod_Desk_init Y:ca bn}{a4:Array (ca bb)}{ioc_Desk_init ikV_Desk_init idc_Desk_init ipm_Desk_init icd_Desk_init a0:bb}{U:bn}{iod_Desk_say a6:ca bn}{a8:Array (ca bb)}{ioc_Desk_say ikV_Desk_say idc_Desk_say ipm_Desk_say icd_Desk_say a7:bb}{N:ab bn}{J:bn}{b0:bb}{a9:ca bn}{j:Array bb}{b1:Array (ca bb)}(n:A.vJ.fd.code=.ref fc)(IX:j[11]?=some (.ref J))(lG:PySem.W.nsIn K mainGlobals "LEAST_HOUSES" = some (some (.int 2 ce)))(om:PySem.W.nsIn K mainGlobals "MOST_HOUSES" = some (some (.int 6 cC)))(rf:PySem.W.nsIn K mainGlobals "MOST_MARKS" = some (some (.int 5 cS)))(qX:PySem.W.nsIn K mainGlobals "MOST_KINDS" = some (some (.int 6 cT)))(lJ:PySem.W.nsIn K mainGlobals "LONGEST_NAME" = some (some (.int 8 cg)))(lH:PySem.W.nsIn K mainGlobals "MOST_FIGURES" = some (some (.int 30 o)))(IQ:PySem.W.nsIn K mainGlobals "Desk" = some (some (.ref az)))(k:PySem.W.nsIn K mainGlobals "LENGTHS" = some (some (.ref dX)))(Fz:PySem.W.plainGet K az Str.empty=true)(z:PySem.W.hasDictIn K az=true)(y:PySem.W.plainOver K az=true)(Fy:PySem.W.findIn K (.ref az) "__setattr__" = some (some (.builtin "object.__setattr__")))(Q:PySem.W.makesIn K az=true)(E:PySem.W.keepIn K (.ref az)=true)(rA:PySem.W.findIn K (.ref az) "names" = some none)(tE:PySem.W.findIn K (.ref az) "book" = some none)(tU:PySem.W.findIn K (.ref az) "past" = some none)(rB:PySem.W.findIn K (.ref az) "__init__" = some (some (.ref L)))(p:K.lookup L=some ⟨ioc_Desk_init,iod_Desk_init,.func (PySem.W.fnOf "__init__" "Desk.__init__" (eP bO) (bN bO) (aj bO) .none ikV_Desk_init idc_Desk_init ipm_Desk_init Y icd_Desk_init a0),a4⟩)(r:PySem.W.codeIn K icd_Desk_init "Desk.__init__" = true)(u:PySem.W.keepIn K (.ref L)=true)(rp:PySem.W.isFn K (.ref L)=true)(tP:PySem.W.findIn K (.ref az) "say" = some (some (.ref U)))(C:K.lookup U=some ⟨ioc_Desk_say,iod_Desk_say,.func (PySem.W.fnOf "say" "Desk.say" (eP cw) (bN cw) (aj cw) .none ikV_Desk_say idc_Desk_say ipm_Desk_say a6 icd_Desk_say a7),a8⟩)(H:PySem.W.codeIn K icd_Desk_say "Desk.say" = true)(ge:PySem.W.keepIn K (.ref U)=true)(tR:PySem.W.isFn K (.ref U)=true)(xh:PyProof.Rows.KTD.tabLook (PyProof.Rows.KTD.datLooks λb=>List.lookup b K) (λb=>List.lookup b K) dX dP=true)(Ja:K.lookup fc=some ⟨b0,a9,.fields j,b1⟩)(I:PySem.W.codeHdIn K fc J=true)(x:K.lookup J=none)(zX:J∈N)(a:([(J,"rising.<locals>.<lambda>")]:ab (bn×Str)).lookup J=some ("rising.<locals>.<lambda>" : Str))
  :
  ∃(fd:ck) (M:ab (bn×Str)),(∀(s:bx) (v:bb),BindsTo s fd ⟨[v],[]⟩ [("_law_script",v)])/\(∀q∈M,(∃c,PySem.W.codeHdIn K c q.1=true)/\q.1∈N/\K.lookup q.1=none)/\∀base:cm,K.In base->base.Ns mainGlobals mg->Bm mg base->FnOk l.prog w K mg base CX0 14 fa fd ["_law_script"] (@DL.spLaw ⟨M⟩ K):=by
 have e:=b2.symm.trans A.Ac.d.m;cases e
 letI tbi:DL.TB:=⟨[(J,"rising.<locals>.<lambda>")]⟩
 let T:Tx K mg:=⟨A,az,zyW X G IQ,dX,zyW X G k,ce,zyW X G lG,cC,zyW X G om,cS,zyW X G rf,cT,zyW X G qX,cg,zyW X G lJ,o,zyW X G lH,⟨Fz,z,y,Fy⟩,rA,tE,tU,L,_,(lP (st:=bO) p r u),(lP (st:=bO) p r u).binds (ps:=["self","text"]) (λ_ _ _ _ _ _ i g=>match i,g with|[_,_],_=>rfl),⟨Q,rB,rp,E⟩,U,_,(lP (st:=cw) C H ge),(lP (st:=cw) C H ge).binds (ps:=["self","row"]) (λ_ _ _ _ _ _ i g=>match i,g with|[_,_],_=>rfl),⟨tP,tR,ge⟩,xh,⟨fc,J,n,I,a⟩⟩
 exact⟨A.Ac.fd,[(J,"rising.<locals>.<lambda>")],λs v=>by obtain⟨_,_,_,_,_,_,_,_,_,q,_⟩:=A.Ac.d.F.ex;rw[q];exact .of_eq rfl,List.forall_mem_cons.mpr ⟨⟨⟨_,I⟩,zX,x⟩,λ_ h=>nomatch h⟩,λbase _ _ B=>KG T B⟩
end My
open PySem PySem.W PyProof.Rows
set_option maxRecDepth 100000 in
set_option maxHeartbeats 0 in
theorem PySem.Challenge.cw_othersum_k60_whole_from_text_to_answer_holds : PySem.Challenge.rw_othersum_k60_whole_from_text_to_answer.Holds := by
  refine hd ?_
  k_fill
  refine DL.walk_ofT (l := PySem.Challenge.rw_othersum_k60_whole_from_text_to_answer) (n := 63) (k := 14) (x := "_law_script") rfl (by decide) rfl ⟨rfl, by decide, by decide⟩ (fun w h Y => PySem.W.km_in_of Y) (fun w h Y => PySem.W.km_tabs_of Y) ?F
  case F =>
    intro w mg fa h KX G hmg
    refine' My.all_mk KX G hmg (My.Ta.mk ..) ?a ?b ..
    any_goals first | refine' L2.ddk KX G ?_ ?_ ?_ ?_ | refine' PySem.W.mg_none_of KX G ?_
    any_goals k_is
    case a => exact rfl
    any_goals k_is
    case b => exact rfl
    all_goals first | k_is | kernel_rfl | k_mem | decide | simp
#print axioms PySem.Challenge.cw_othersum_k60_whole_from_text_to_answer_holds
