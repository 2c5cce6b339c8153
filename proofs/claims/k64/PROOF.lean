import PyProof.Rows.All
import Wide.All
import OpenK.AllK
import Wide.FinOn
import Lean
import PyProof.EqAt
import PyProof.EqKinds
import PyProof.TupleCall
import PySem.Challenge.RW_othersum_k64_whole_called_otherwise
noncomputable section
set_option Elab.async false
set_option linter.all false
set_option maxRecDepth 100000
structure PySem.W.Fast:Prop where(tw15923134008344571737 tw861502493610598483 tw14455545822193828066 tw13571268590729069685 tw7774113678449685934 tw16280658162054754363 tw6405006696905936089 tw4295534447537059203 tw14179244583298268729 tw10784835557568832518 tw1422820162477861617 tw17952953904234253443 tw6717383575415001649 tw12549542988036985293 tw16003985067176294414 tw16592619640548467951 tw15831126876759372255 tw10833825939047706337 tw1766060059384836818 tw14731159723063609737 tw11589342450005873132 tw3778530596728393105 tw172746767574481773 tw13557862171009465336 tw12843764043397292189 tw8756951275005108937 tw13674586047789940208 tw6594970650091316094 tw15499940227032437249 tw2576523973992343609 tw16753820520455620202 tw13631397514672939371 tw15163409612377130007 tw2869065659524454656 tw15402603294489630176 tw3726453103677007866 tw16309811473084048462 tw6248682570935725439 tw10958628066121416707 tw14196522196718054806 tw14664691819916384248 tw17653592248189364939 tw9433028549170029634 tw13265978090383273239 tw7374399212775623666 tw16615150188913437886 tw6030501089693204938 tw14577027041581768965 tw7050804516273991350 tw5725222548895626118 tw14560624547652848805 tw17155049476370652306 tw2466311954974566718 tw11853640710764476214 tw3713540243193553862 tw7091221385724896812 tw12747814925858328940 tw6278996535519779258 tw6607644564249050058 tw10297410513487048360 tw6124413428159637790 tw4561898282857576226 tw1532491051758110099 tw599730875272715187 tw18383651708701053236 tw5667099127317398114 tw977512076041815475 tw13669536469129627823 tw6327569006664949090 tw1158361714356455011 tw13114645530532618160 tw3992765435912101610 tw12330612334027959195 tw17339309145561079191 tw2244103112122482387 tw12408111787983249662 tw6084841979344569690 tw1922157984580058403 tw14647417624928369756 tw539538531456391632 tw542563422162235373 tw12138319994727072339 tw9646623106273453227 tw10826640976665885199 tw6472337539984862722 tw17267597263503486738 tw28018229315631829 tw8737599933303070863 tw11481637867367846703 tw2629151800749243262 tw11489344026974618541 tw384561282630992784 tw9387514328989991554 tw10879749546641988924 tw8432719020341155521 tw1998347030407657756 tw3374319085511977134 tw12960429369202013873 tw8752102160057688731 tw9320515035125037321 tw4309217394794523951 tw1972164579936704799 tw13813548295540068894 tw14538725608371270373 tw8285278889055680438 tw13547939009206843870 tw9947508896943372755 tw5000232492035539693 tw8159993647027272844 tw8157277791214410489 tw1467881925912835984 tw7007286002206832825 tw211337195705725219 tw4015202173357781934 tw6427576097997697322 tw8212203176049278890 tw15565715512253457277 tw14993981098963755598 tw1725486776273817318 tw443766864951011646 tw16723463757517087524 tw1207101557538958131 tw6798380500665416597 tw14689541978594310382 tw14226173905949225808 tw10861573186032746274 tw6408400580700104982 tw14961746396406840608 tw1205274952441263945 tw6557801498797044033 tw15702583709834301711 tw12528533614272120300 tw18293242582946804979 tw11429584451438056573 tw13034982811429478159 tw5072417060200589145 tw11317637306720784765 tw5217270863462422736 tw17334828202450815106 tw4734895289157585001 tw11076892268299887525 tw1840220198017710270 tw16226643914720891334 tw8498532028676091811 tw11692469974320434101 tw10295913840692754127 tw9510108024173832781 tw991626836265849350 tw7933485763601977624 tw17852080271459398996 tw16873086082458093902 tw15254633091992210921 tw3328118118096588273 tw15240619367488684849 tw16378183091871739711 tw4971374062829452455 tw6056707288978253535 tw9950792792127014553 tw4480162626587320490 tw14061609134260724683 tw13053770412826190925 tw1000662321505670351 tw8331849164307833061 tw15805137534098808535 tw2187251505897268136 tw1979317910248211280 tw3303267245142563540 tw18367749455379333440 tw87601786513091389 tw547895379624588593 tw9536688357841153863 tw2084650752826471497 tw9972681490609642005 tw2399617604181995578 tw16298917771340976007 tw4171853373547519906 tw8186657734068701312 tw8422229294311615681 tw3238445694619138142 tw15173544498738437827 tw14833712730911297017 tw2570914705882880060 tw12903330217458380548 tw14022695629967993375 tw4039707410889071942 tw14904681115217272601 tw1383625962624193546 tw4547051000311932777 tw6128145076113358165 tw12314708539913122752 tw15528221797031607849 tw15685335758407661847 tw10042083083395451092 tw2595585439558603231 tw6968137755033780318 tw2080317491765294665 tw5537553045615171315 tw9784134513789038367 tw15779231459743154856 tw11962351593759143498 tw12887044766017154078 tw8949853181751564097 tw3300454383303005205 tw7001957589650049515 tw1205604411410820431 tw10539347186207431242 tw13855379610559885079 tw17214186515701724070 tw8080008513338510535 tw2941924889016668590 tw16279288168775177219 tw3419001889969749887 tw2483420100392427323 tw6356304189028158447 tw17351735930882485243:True)
set_option compiler.extract_closed false
set_option bootstrap.genMatcherCode false
set_option maxHeartbeats 0 in
open_top hd for PySem.Challenge.rw_othersum_k64_whole_called_otherwise
abbrev ai(a:Type _):=List a
abbrev av:=PySem.Value
abbrev bb:=PySem.Addr
abbrev bd:=PySem.Shared
abbrev bo(a:Type _):=Option a
abbrev bp:=PySem.FuncData
abbrev bz:=PySem.Heap
abbrev bN:=PySem.Expr
abbrev bP:=PySem.Program
abbrev zvi:=PySem.W.Frag
abbrev zza:=@List.length_map
abbrev zzb:=@PySem.wpAny_bind
abbrev zzc:=@List.mem_map
abbrev zzd:=@List.mem_cons_self
abbrev zze:=@List.getD_eq_getElem?_getD
abbrev zzf:=@List.mem_cons_of_mem
abbrev zzg:=@if_neg
abbrev zzh:=@List.map_cons
abbrev zzi:=@if_pos
abbrev zzj:=@PySem.Heap.get?_push_of_some
abbrev zzk:=@List.map_map
abbrev zzl:=@List.getElem?_map
abbrev zzm:=@List.length_append
abbrev zzn:=@Nat.le_refl
abbrev zzo:=@Nat.le_trans
abbrev zzp:=@List.getElem?_eq_getElem
abbrev zzq:=@PySem.wpAny_pure
abbrev zzr:=@List.mem_cons
abbrev zzs:=@List.map_append
abbrev zzt:=@List.getElem?_eq_some_iff
abbrev zzu:=@List.mem_filter
abbrev zzv:=@PySem.Heap.lt_size
abbrev zzw:=@PySem.Heap.get?_push_size
abbrev zzx:=@List.mem_append
abbrev zzy:=@List.mem_singleton
abbrev zzz:=@Nat.lt_of_le_of_lt
abbrev zzA:=@List.size_toArray
abbrev zzB:=@List.mem_range
abbrev zzC:=@Nat.ne_of_lt
abbrev zzD:=@List.mem_of_getElem?
abbrev zzE:=@List.sum_cons
abbrev zzF:=@List.map_congr_left
abbrev zzG:=@Int.toNat_natCast
abbrev zzH:=@Nat.lt_of_lt_of_le
abbrev zzI:=@List.length_cons
abbrev zzJ:=@decide_eq_true
abbrev zzK:=@List.length_range
abbrev zzL:=@Bool.false_ne_true
abbrev zzM:=@List.getElem?_append_right
abbrev zzN:=@List.length_singleton
abbrev zzO:=@List.getElem?_set_ne
abbrev zzP:=@Rat.intCast_mul
abbrev zzQ:=@of_decide_eq_true
abbrev zzR:=@List.find?_cons_of_pos
abbrev zzS:=@List.find?_cons_of_neg
abbrev zzT:=@Nat.zero_le
abbrev zzU:=@List.length_filter_le
abbrev zzV:=@PySem.mem_of_lookup
abbrev zzW:=@List.getElem?_range
abbrev zzX:=@List.length_eq_zero_iff
abbrev zzY:=@Bool.and_eq_true
abbrev zzZ:=@List.append_cancel_left
abbrev zya:=@Option.some.inj
abbrev zyb:=@List.append_nil
abbrev zyc:=@PySem.Heap.SameBut.update
abbrev zyd:=@List.mem_append_right
abbrev zye:=@Classical.choose_spec
abbrev zyf:=@Int.toNat_of_nonneg
abbrev zyg:=@List.getElem?_eq_none
abbrev zyh:=@Rat.le_refl
abbrev zyi:=@Rat.div_def
abbrev zyj:=@List.map_nil
abbrev zyk:=@decide_eq_false
abbrev zyl:=@List.nodup_cons
abbrev zym:=@Option.map_eq_some_iff
abbrev zyn:=@PySem.wpAny_holding
abbrev zyo:=@List.not_mem_nil
abbrev zyp:=@List.filter_cons_of_pos
abbrev zyq:=@List.filter_cons_of_neg
abbrev zyr:=@decide_eq_true_eq
abbrev zys:=@List.getElem?_append_left
abbrev zyt:=@PySem.sizeLine_eq
abbrev zyu:=@Int.le_refl
abbrev zyv:=@PySem.Heap.size_push
abbrev zyw:=@List.all_eq_true
abbrev zyx:=@Array.length_toList
abbrev zyy:=@Array.getElem?_toList
abbrev zyz:=@Nat.not_lt_zero
abbrev zyA:=@List.filter_append
abbrev zyB:=@PySem.wpAny_call_entry
abbrev zyC:=@List.lookup_cons
abbrev zyD:=@List.replicate_succ
abbrev zyE:=@PySem.wpAny_newObj_type
abbrev zyF:=@List.append_assoc
abbrev zyG:=@Nat.lt_irrefl
abbrev zyH:=@List.eq_of_mem_replicate
abbrev zyI:=@PySem.W.kia_one
abbrev zyJ:=@List.pairwise_cons
abbrev zyK:=@List.length_take
abbrev zyL:=@List.getElem_mem
abbrev zyM:=@List.filter_cons
abbrev zyN:=@List.take_of_length_le
abbrev zyO:=@List.pairwise_map
abbrev zyP:=@List.toList_toArray
abbrev zyQ:=@List.range_succ
abbrev zyR:=@Rat.mul_le_mul_of_nonneg_right
abbrev zyS:=@List.any_eq_true
abbrev zyT:=@of_decide_eq_false
abbrev zyU:=@Bool.eq_iff_iff
abbrev zyV:=@PySem.W.kia_tup
abbrev zyW:=@PySem.wpAny_field
abbrev zyX:=@Int.mul_comm
abbrev zyY:=@Nat.sub_self
abbrev zyZ:=@Int.mul_pos
abbrev zxa:=@Rat.le_of_lt
abbrev zxb:=@PySem.wpAny_pyIter_tuple
abbrev zxc:=@Bool.false_eq_true
abbrev zxd:=@Int.mul_le_mul
abbrev zxe:=@List.drop_eq_getElem_cons
abbrev zxf:=@Classical.byContradiction
abbrev zxg:=@List.mem_append_left
abbrev zxh:=@List.foldl_cons
abbrev zxi:=@List.find?_cons
abbrev zxj:=@List.nodup_append
abbrev zxk:=@List.ext_getElem?
abbrev zxl:=@Nat.lt_succ_of_lt
abbrev zxm:=@PySem.wpAny_typeNameOfWhole_keyiter
abbrev zxn:=@PySem.F.plainAttrs_list
abbrev zxo:=@Int.gcd_pos_of_ne_zero_right
abbrev zxp:=@Rat.mul_nonneg
abbrev zxq:=@PySem.wpAny_mono
abbrev zxr:=@Int.emod_lt_of_pos
abbrev zxs:=@PySem.wpAny_setField_rec
abbrev zxt:=@PySem.wpAny_passesOwn
abbrev zxu:=@PySem.Heap.get?_update_self
abbrev zxv:=@or_false
abbrev zxw:=@PySem.wpAny_truthy_bool
abbrev zxx:=@PySem.wpAny_pyIter_list
abbrev zxy:=@List.nodup_nil
abbrev zxz:=@List.getElem_inj
abbrev zxA:=@Nat.ne_of_gt
abbrev zxB:=@if_false
abbrev zxC:=@List.length_drop
abbrev zxD:=@Int.mul_fdiv_cancel_left
abbrev zxE:=@List.take_length
abbrev zxF:=@List.filter_eq_self
abbrev zxG:=@List.mem_map_of_mem
abbrev zxH:=@PySem.W.mg_of
abbrev zxI:=@PySem.wpAny_Call_Name_kw
abbrev zxJ:=@PySem.tupleKind_room_in1
abbrev zxK:=@Int.emod_nonneg
abbrev zxL:=@List.map_replicate
abbrev zxM:=@Int.mul_ne_zero
abbrev zxN:=@List.getElem?_set_self
abbrev zxO:=@Array.getElem?_eq_none
abbrev zxP:=@List.flatten_cons
abbrev zxQ:=@Nat.le_of_succ_le
abbrev zxR:=@List.filter_congr
abbrev zxS:=@Nat.lt_trans
abbrev zxT:=@Int.natAbs_dvd_natAbs
abbrev zxU:=@PySem.wpAny_seqItems
abbrev zxV:=@PySem.call_meets
abbrev zxW:=@PySem.wpAny_rule
abbrev zxX:=@List.mem_iff_getElem
abbrev zxY:=@Nat.le_add_right
abbrev zxZ:=@List.getElem?_of_mem
abbrev zwa:=@PySem.Paired.length
abbrev zwb:=@PyProof.Rows.listUpdate_at
abbrev zwc:=@List.length_filter_lt_length_iff_exists
abbrev zwd:=@List.length_zipWith
abbrev zwe:=@List.mem_or_eq_of_mem_set
abbrev zwf:=@List.filter_map
abbrev zwg:=@Rat.intCast_add
abbrev zwh:=@PySem.codeAny_mono
abbrev zwi:=@PySem.F.args_tuple_add_2
abbrev zwj:=@Nat.zero_add
abbrev zwk:=@List.sum_nil
abbrev zwl:=@List.Pairwise.imp_of_mem
abbrev zwm:=@PySem.boot_len
abbrev zwn:=@PySem.F.entry_tuple_add
abbrev zwo:=@Int.eq_ofNat_of_zero_le
abbrev zwp:=@PySem.W.kitx_list
abbrev zwq:=@PySem.W.kitx_dict
abbrev zwr:=@PySem.wpAny_pyIter_enum
abbrev zws:=@PySem.wpAny_dictEntries
abbrev zwt:=@PySem.Heap.get?_push_ne
abbrev zwu:=@PySem.F.slot_tuple_add
abbrev zwv:=@Nat.le_succ
abbrev zww:=@Rat.intCast_le_intCast
abbrev zwx:=@Int.add_mul
abbrev zwy:=@PySem.wpAny_standAt
abbrev zwz:=@PySem.wpAny_newList
abbrev zwA:=@Nat.lt_succ_self
abbrev zwB:=@List.length_replicate
abbrev zwC:=@if_true
abbrev zwD:=@LawfulBEq.eq_of_beq
abbrev zwE:=@PySem.F.slot_dict_get
abbrev zwF:=@PySem.wpAny_notOrdered_dict
abbrev zwG:=@List.mem_iff_getElem?
abbrev zwH:=@List.take_append_drop
abbrev zwI:=@List.getElem?_zipWith
abbrev zwJ:=@PySem.Heap.get?_none_of_le
abbrev zwK:=@PySem.wpAny_execs_nil
abbrev zwL:=@PySem.wpAny_typeOf
abbrev zwM:=@List.length_set
abbrev zwN:=@Nat.pow_le_pow_right
abbrev zwO:=@Nat.sub_zero
abbrev zwP:=@Option.map_some
abbrev zwQ:=@List.drop_eq_nil_iff
abbrev zwR:=@Nat.two_pow_pos
abbrev zwS:=@List.map_set
abbrev zwT:=@Int.zero_add
abbrev zwU:=@List.forall_mem_cons
abbrev zwV:=@beq_eq_false_iff_ne
abbrev zwW:=@List.filterMap_cons
abbrev zwX:=@Int.natAbs_pos
abbrev zwY:=@PySem.wpAny_setField
abbrev zwZ:=@PySem.wpAny_newTuple
abbrev zva:=@List.drop_zero
abbrev zvb:=@Rat.inv_pos
abbrev zvc:=@List.lookup_append
abbrev zvd:=@List.filter_filter
abbrev zve:=@List.all_cons
abbrev zvf:=@List.any_cons
abbrev zvg:=@Nat.le_of_dvd
abbrev zvh:=@PySem.wpAny_attempt
namespace L2
open PySem PySem.Spec PyProof.Rows
variable{A:Around}{E Q:av->bd->Prop}{M:Model}{N ps:ai Str}{a it:bb}{cd dV pm u:av}{ch:ai bb}{e tg:bN}{hi:Int}{i t':Nat}{j x:Str}{k k':Bool}{mg:Str->bo av}{op op':CmpOp}{p pos:Pos}{pl:ai (bb×Obj)}{s s':bd}{sc:Scope}{us:ai av}{w:World}{α β γ:Type}
variable{P:bP}{w:World}{h':bz}{a:bb}{x:Str}{e b:bN}{pins:ai (bb×Obj)}{s:bd}{pos p:Pos}{E:av->bd->Prop}{es:ai bN}
abbrev Key:=Sum Int Str
def vI:Key->av->Bool
 |.inl k,v=>Value.isInt k v|.inr x,v=>Value.isStrOf x v
def keyH(w:World):Key->Int
 |.inl k=>hashInt k|.inr x=>hashStr w x
theorem aX:∀{k:Key} {v:av},vI k v=true->(∃i t,k=Sum.inl i/\v=Value.int i t)∨(∃x t,k=Sum.inr x/\v=Value.str x t)
 |.inl i,v,h=>by obtain⟨t,e⟩:=Value.isInt_shape h;exact .inl ⟨i,t,rfl,e⟩
 |.inr x,v,h=>by obtain⟨t,e⟩:=Value.isStrOf_shape h;exact .inr ⟨x,t,rfl,e⟩
theorem xk(i:Int)(t:Tok):vI (.inl i) (.int i t)=true:=by simp[vI,Value.isInt]
theorem xl(x:Str)(t:Tok):vI (.inr x) (.str x t)=true:=by simp[vI,Value.isStrOf]
theorem Gs(a b:Int):decide ((Sum.inl a:Key)=Sum.inl b)=(a==b):=by
 by_cases e:a=b
 ·subst e;simp
 ·have h:¬(Sum.inl a:Key)=Sum.inl b:=λq=>e (Sum.inl.inj q);rw[zyk h];exact(zwV.mpr e).symm
theorem Gu(a b:Str):decide ((Sum.inr a:Key)=Sum.inr b)=decide (a=b):=by
 by_cases e:a=b
 · simp
 ·have h:¬(Sum.inr a:Key)=Sum.inr b:=λq=>e (Sum.inr.inj q);rw[zyk h,zyk e]
theorem Gv(a:Int)(b:Str):decide ((Sum.inl a:Key)=Sum.inr b)=false:=zyk (λq=>nomatch q)
theorem Gw(a:Str)(b:Int):decide ((Sum.inr a:Key)=Sum.inl b)=false:=zyk (λq=>nomatch q)
def aF(prog:bP)(w:World):PySem.KeyKind prog w Key where
 is:=vI
 hash:=keyH w
 inj:=λv a b g d=>by
  rcases aX g with ⟨i,t,rfl,rfl⟩|⟨x,t,rfl,rfl⟩
  ·rcases aX d with ⟨j,u,rfl,e⟩|⟨y,u,rfl,e⟩
   ·injection e with c _;rw[c]
   ·exact nomatch e
  ·rcases aX d with ⟨j,u,rfl,e⟩|⟨y,u,rfl,e⟩
   ·exact nomatch e
   ·injection e with c _;rw[c]
 byValue:=λk v h=>by rcases aX h with ⟨i,t,rfl,rfl⟩|⟨x,t,rfl,rfl⟩<;>rfl
 pyHash:=λJ h=>by
  rcases aX J with ⟨i,t,rfl,rfl⟩|⟨x,t,rfl,rfl⟩
  ·exact wpAny_pyHash_int h
  ·exact wpAny_pyHash_str h
 eqBool:=λU J h=>by
  rcases aX U with ⟨i,t,rfl,rfl⟩|⟨x,t,rfl,rfl⟩
  ·rcases aX J with ⟨j,u,rfl,rfl⟩|⟨y,u,rfl,rfl⟩
   ·rw[Gs]at h;exact wpAny_eqBool_int h
   ·rw[Gv]at h;exact SeqAt.EqAt.int_str i t y u _ _ _ _ h
  ·rcases aX J with ⟨j,u,rfl,rfl⟩|⟨y,u,rfl,rfl⟩
   ·rw[Gw]at h;exact SeqAt.EqAt.str_int x t j u _ _ _ _ h
   ·rw[Gu]at h;exact wpAny_eqBool_str h
 «strs»:=λk x t v h=>by
  rcases aX h with ⟨i,u,rfl,e⟩|⟨y,u,rfl,e⟩
  ·exact nomatch e
  ·injection e with c _;subst c;cases v<;>rfl
theorem qP(prog:bP)(w:World)(i:Int)(t:Tok):(aF prog w).is (.inl i) (.int i t)=true:=xk i t
theorem qQ(prog:bP)(w:World)(x:Str)(t:Tok):(aF prog w).is (.inr x) (.str x t)=true:=xl x t
inductive V where
 |non|bl (b:Bool)|int (i:Int)|str (x:Str)|byt (b:Array UInt8)|flt (b:UInt64)|ref (a:Addr)|ty (n:String)
 deriving DecidableEq
variable{v y:V}
def RelV:V->av->Prop
 |.non,u=>u=Value.none|.bl b,u=>u=Value.bool b|.int i,u=>∃t,u=Value.int i t|.str x,u=>∃t,u=Value.str x t|.byt b,u=>∃t,u=Value.bytes b t|.flt b,u=>∃t,u=Value.float b t|.ref a,u=>u=Value.ref a|.ty n,u=>u=Value.type n
abbrev Vals:ai V->ai av->Prop:=Paired RelV
theorem Vals.length{xs:ai V}{us:ai av}(r:Vals xs us):xs.length=us.length:=zwa r
theorem Vals.get:∀{xs:ai V} {us:ai av} {i:Nat} {x:V},Vals xs us->xs[i]?=some x->∃u,us[i]?=some u/\RelV x u
 |_,_,_,_,.nil,e=>by simp at e
 |_,_,0,_,.cons r _,e=>by simp at e;subst e;exact⟨_,rfl,r⟩
 |_,_,i+1,x,.cons _ t,e=>by obtain⟨u,c,d⟩:=Vals.get t (by simpa using e);exact⟨u,by simpa using c,d⟩
theorem Vals.set{x:V}{u:av}(r:RelV x u):∀{xs:ai V} {us:ai av} (i:Nat),Vals xs us->Vals (xs.set i x) (us.set i u)
 |_,_,_,.nil=>.nil|_,_,0,.cons _ t=>.cons r t|_,_,i+1,.cons q t=>.cons q (Vals.set r i t)
theorem Vals.append:∀{xs d:ai V} {us c:ai av},Vals xs us->Vals d c->Vals (xs++d) (us++c):=by
 intro xs d us c h s
 induction h with
 |nil=>exact s|cons r t J=>exact .cons r J
theorem Vals.take:∀{xs:ai V} {us:ai av} (n:Nat),Vals xs us->Vals (xs.take n) (us.take n)
 |_,_,0,_=>.nil|_,_,_+1,.nil=>.nil|_,_,n+1,.cons r t=>.cons r (Vals.take n t)
theorem Vals.drop:∀{xs:ai V} {us:ai av} (n:Nat),Vals xs us->Vals (xs.drop n) (us.drop n)
 |_,_,0,r=>r|_,_,_+1,.nil=>.nil|_,_,n+1,.cons _ t=>Vals.drop n t
def RelO:bo V->bo av->Prop
 |some v,some u=>RelV v u|none,none=>True|_,_=>False
def KV{κ:Type}:ai (κ×V)->ai (κ×av)->Prop:=Paired λ(p:κ×V) (q:κ×av)=>p.1=q.1/\RelV p.2 q.2
def kV:Key->V
 |.inl i=>.int i|.inr x=>.str x
inductive HO where
  |lst (xs:List V)
  |tup (xs:List V)
  |dK (kvs:List (Key×V))|dT (kvs:List (List Key×V))
  |set (S:Int->Bool) (n:Nat)
  |ins (C dx:Addr) (fs:List (Str×V))
  |own (x:Addr)
  |xd (fs:List (Str×V))
  |met (f x:Addr)
  |rng (lo hi:Int)
  |frz (o:Obj) (u:HO)
  |tbl (ps:Array Value)
  |ext (φ:Heap->Prop)
abbrev Hp:=bb->bo HO
variable{H H':Hp}
def upd(H:Hp)(a:bb)(o:HO):Hp:=λb=>if b=a then some o else H b
theorem ae{o:HO}:upd H a o a=some o:=by unfold upd;rw[zzi rfl]
theorem af{b:bb}{o:HO}(h:b≠a):upd H a o b=H b:=by unfold upd;rw[zzg h]
theorem iT{b:bb}{o u:HO}(h:H a=some o)(h':H b=some u)(d:o≠u):a≠b:=by intro e;subst e;rw[h]at h';exact d (zya h')
theorem bQ{b:bb}{o:HO}(h:H a=some o)(h':H b=none):a≠b:=by intro e;subst e;rw[h]at h';cases h'
section
variable(P:bP)(w:World)
def NoDc(h:bz)(a:bb):Prop:=∃o,h.get? a=some o/\o.dict=none
def NdOr(h:bz)(a:bb)(xs:ai V):Prop:=NoDc h a∨∃i x,xs=[V.int i,x]
def ObjOk(H:Hp)(h:bz)(a:bb):HO->Prop
 | .lst g=>g.length<=sizeLine/\∃(c:ai av) (n:Nat),Vals g c/\h.get? a=some {cls:=.type "list",data:=.seq c.toArray n}|.tup g=>(g.length<=sizeLine/\NdOr h a g)/\∃c:ai av,Vals g c/\IsTup h a c.toArray|.dK d=>d.length<=sizeLine/\(a==sysModules)=false/\∃G,KV d G/\h.DictOf (aF P w) a G|.dT d=>d.length<=sizeLine/\(a==sysModules)=false/\∃g:ai (ai Key×bb×av),
   Paired (λ(p:ai Key×V) (q:ai Key×bb×av)=>p.1=q.1/\H q.2.1=some (.tup (p.1.map kV))/\RelV p.2 q.2.2) d g /\
   ∃o es I,h.get? a=some o/\o.ExactDict/\o.data=.dict es I/\es.toList=g.map (entryOfKey (tupleKind (aF P w)))/\(g.map (·.1)).Nodup
 |.set S n=>h.SetOf (intKind P w) a S n|.ins C dx fs=>H dx=some (.own a)/\fs.length<=1000/\dx≠a/\h.get? a=some (PySem.W.instObj C dx) /\
   ∃l,h.Ns1 dx l/\(∀f,RelO (fs.lookup f) (l f))/\PySem.Within l (fs.map (·.1))
 |.own _=>∃o,h.get? a=some o|.xd fs=>∃l,h.Ns1 a l/\∀f,RelO (fs.lookup f) (l f)| .rng lo hi=>∃t u v,h.get? a=some {cls:=.type "range",data:=.fields #[.int lo t,.int hi u,.int 1 v]}|.frz o u=>h.get? a=some o/\ObjOk H h a u|.tbl ps=>h.get? a=some {cls:=.none,data:=.fields ps}|.met f x=>h.get? a=some (PySem.W.methodObj (.ref f) (.ref x))|.ext m=>m h/\(∃o,h.get? a=some o)/\∀r z:bz,m r->(∀o,r.get? a=some o->z.get? a=some o)->m z
def HOk(H:Hp)(h:bz):Prop:=∀a o,H a=some o->ObjOk P w H h a o
end
section
variable{H H':Hp}{h:bz}{o:HO}
theorem ObjOk.lt(x:ObjOk P w H h a o):a<h.objs.size:=by
 cases o with
 |lst d=>obtain⟨_,_,_,_,e⟩:=x;exact zzv e
 |tup d=>obtain⟨_,_,_,p⟩:=x;exact p.lt
 |dK c=>obtain⟨_,_,_,_,o,_,_,e,_⟩:=x;exact zzv e
 |dT c=>obtain⟨_,_,_,_,o,_,_,e,_⟩:=x;exact zzv e
 |set S n=>obtain⟨o,_,_,_,e,_⟩:=x;exact zzv e
 |ins C dx fs=>obtain⟨_,_,_,e,_⟩:=x;exact zzv e
 |own y=>obtain⟨_,e⟩:=x;exact zzv e
 |xd fs=>obtain⟨_,⟨_,_,_,e,_⟩,_⟩:=x;exact zzv e
 |rng lo hi=>obtain⟨_,_,_,e⟩:=x;exact zzv e
 |frz ob u=>obtain⟨e,_⟩:=x;exact zzv e
 |tbl ps=>exact zzv (show h.get? a=some _ from x)|met f y=>exact zzv (show h.get? a=some _ from x)|ext φ=>obtain⟨_,⟨_,e⟩,_⟩:=x;exact zzv e
theorem Paired.mapP{F G:α->β->Prop}:∀{l₁:ai α} {J:ai β},Paired F l₁ J->(∀a b,F a b->G a b)->Paired G l₁ J:=by
 intro l₁ J h f
 induction h with
 |nil=>exact .nil|cons r t U=>exact .cons (f _ _ r) U
theorem ObjOk.stay(x:ObjOk P w H h a o)(k:∀b u,(b=a∨H b=some (.own a))->h.get? b=some u->h'.get? b=some u)
  (i:∀b,H b=some (.own a)->H' b=some (.own a)) (J:∀b xs,H b=some (.tup xs)->H' b=some (.tup xs)):ObjOk P w H' h' a o:=by
 induction o with
 |lst xs=>obtain⟨z,m,n,r,e⟩:=x;exact⟨z,m,n,r,k _ _ (.inl rfl) e⟩
 |tup xs=>obtain⟨⟨z,Y⟩,m,r,g,e,c⟩:=x;exact⟨⟨z,Y.imp_left λ⟨o,e,n⟩=>⟨o,k _ _ (.inl rfl) e,n⟩⟩,m,r,g,k _ _ (.inl rfl) e,c⟩
 |dK G=>obtain⟨z,y,j,r,g,es,l,e,c⟩:=x;exact⟨z,y,j,r,g,es,l,k _ _ (.inl rfl) e,c⟩
 |dT G =>
  obtain⟨z,y,xs,r,g,es,l,e,c⟩:=x;exact⟨z,y,xs,Paired.mapP r λp q z=>⟨z.1,J _ _ z.2.1,z.2.2⟩,g,es,l,k _ _ (.inl rfl) e,c⟩
 |set S n=>obtain⟨g,es,l,t,e,c⟩:=x;exact⟨g,es,l,t,k _ _ (.inl rfl) e,c⟩
 |ins C dx fs =>
  obtain⟨d,z,ne,e,I,⟨L,es,l,T,c⟩,r⟩:=x;exact⟨i _ d,z,ne,k _ _ (.inl rfl) e,I,⟨L,es,l,k _ _ (.inr d) T,c⟩,r⟩
 |own y=>obtain⟨g,e⟩:=x;exact⟨g,k _ _ (.inl rfl) e⟩
 |xd fs=>obtain⟨I,⟨L,es,l,e,c⟩,r⟩:=x;exact⟨I,⟨L,es,l,k _ _ (.inl rfl) e,c⟩,r⟩
 |rng lo hi=>obtain⟨t,u,v,e⟩:=x;exact⟨t,u,v,k _ _ (.inl rfl) e⟩
 |frz g u U=>obtain⟨e,q⟩:=x;exact⟨k _ _ (.inl rfl) e,U q⟩
 |tbl ps =>
  have e:h.get? a=some {cls:=.none,data:=.fields ps}:=x;show h'.get? a=some {cls:=.none,data:=.fields ps};exact k a _ (.inl rfl) e
 |met f y =>
  have e:h.get? a=some (PySem.W.methodObj (.ref f) (.ref y)):=x;show h'.get? a=some (PySem.W.methodObj (.ref f) (.ref y));exact k a _ (.inl rfl) e
 |ext φ=>obtain⟨p,⟨o,e⟩,st⟩:=x;exact⟨st _ _ p λo q=>k _ _ (.inl rfl) q,⟨o,k _ _ (.inl rfl) e⟩,st⟩
theorem HOk.lt(x:HOk P w H h)(e:H a=some o):a<h.objs.size:=(x a o e).lt
theorem HOk.fresh(x:HOk P w H h)(e:h.objs.size<=a):H a=none:=by
 cases q:H a with
 |none=>rfl|some u=>exact absurd (zzH (x.lt q) e) (zyG _)
theorem HOk.kept(x:HOk P w H h)(k:∀b u,h.get? b=some u->h'.get? b=some u):HOk P w H h':=λa o e =>
 (x a o e).stay (λb u _ q=>k b u q) (λ_ q=>q) λ_ _ q=>q
theorem HOk.laid(x:HOk P w H h)(k:∀b u,h.get? b=some u->h'.get? b=some u)(J:h.objs.size<=a)(new:ObjOk P w (upd H a o) h' a o):HOk P w (upd H a o) h':=λb u e=>by
 have g:=x.fresh J;by_cases d:b=a
 ·subst d;rw[ae]at e;cases e;exact new
 ·rw[af d]at e;exact(x b u e).stay (λc v _ q=>k c v q) (λc q=>by rw[af (bQ q g)];exact q) λc xs q=>by rw[af (bQ q g)];exact q
end
def Rd(H:Hp)(a:bb)(u:HO):Prop:=H a=some u∨∃o,H a=some (.frz o u)
theorem Rd.ok{P:bP}{h:bz}{u:HO}(r:Rd H a u)(x:HOk P w H h):ObjOk P w H h a u:=by
 rcases r with r|⟨o,r⟩
 ·exact x a u r
 ·obtain⟨_,q⟩:=x a _ r;exact q
def Mut:bo HO->Prop
 |some (.lst _)=>True|some (.dK _)=>True|some (.dT _)=>True|some (.set _ _)=>True|some (.ins _ _ _)=>True|some (.ext _)=>True|_=>False
section
variable{H:Hp}{h:bz}{x e:bb}{o':HO}
theorem HOk.write(ok:HOk P w H h)(l:Mut (H x))(he:e=x∨H e=some (.own x))(k:∀b u,b≠e->h.get? b=some u->h'.get? b=some u)(C:∃u,h'.get? e=some u)
  (new:ObjOk P w (upd H x o') h' x o'):HOk P w (upd H x o') h':=λb u q=>by
 have U:∀c y,H c=some (.own y)->c≠x:=λc y r z=>by subst z;rw[r]at l;exact l
 have Y:∀c m,H c=some (.tup m)->c≠x:=λc m r z=>by subst z;rw[r]at l;exact l
 by_cases d:b=x
 ·subst d;rw[ae]at q;cases q;exact new
 ·rw[af d]at q;by_cases J:b=e
  ·have n:H b=some (.own x):=by
    rcases he with z|z
    ·exact absurd (J.trans z) d
    ·rw[J];exact z
   rw[q]at n;cases n;obtain⟨v,G⟩:=C;exact⟨v,by rw[J];exact G⟩
  ·refine(ok b u q).stay (λc v g r=>k c v ?_ r) (λc r=>by rw[af (U c b r)];exact r) λc m r=>by rw[af (Y c m r)];exact r
   rcases g with rfl|g
   ·exact J
   ·rintro rfl;rcases he with z|z
    ·exact U c b g z
    ·rw[g]at z;cases z;exact d rfl
end
structure Un(fs ex:List Addr)(H H':Hp)(h h':Heap):Prop where
 keep:∀b o,h.get? b=some o->H b=none->b∉fs->b∉ex->h'.get? b=some o
 slot:∀b o,h.get? b=some o->H b=none->b∈fs->b∉ex->∃sl,h'.get? b=some { o with slots:=sl }
 free:∀b o,h.get? b=some o->H b=none->b∉ex->H' b=none
 there:∀b o,h.get? b=some o->b∉ex->∃o',h'.get? b=some o'
 tups:∀b xs,H b=some (.tup xs)->H' b=some (.tup xs)
 frzs:∀b o u,H b=some (.frz o u)->H' b=some (.frz o u)
 tbls:∀b ps,H b=some (.tbl ps)->∃more,H' b=some (.tbl (ps++more))
section
variable{fs fs' ex ex':ai bb}{H H1 H2:Hp}{h h1 h2:bz}{x e:bb}{o:HO}
theorem Un.any(u:Un fs ex H H1 h h1){b:bb}{ob:Obj}(q:h.get? b=some ob)(n:H b=none)(J:b∉ex):∃d,h1.get? b=some {ob with slots:=d}:=by
 by_cases c:b∈fs
 ·exact u.slot b ob q n c J
 ·exact⟨ob.slots,u.keep b ob q n c J⟩
theorem Un.trans(a:Un fs ex H H1 h h1)(b:Un fs ex H1 H2 h1 h2):Un fs ex H H2 h h2 where
 keep:=λc d q n l J=>b.keep c d (a.keep c d q n l J) (a.free c d q n J) l J
 slot:=λc d q n l J=>by obtain⟨sl,g⟩:=a.slot c d q n l J;obtain⟨U,r⟩:=b.slot c _ g (a.free c d q n J) l J;exact⟨U,r⟩
 free:=λc d q n J=>by obtain⟨o',g⟩:=a.there c d q J;exact b.free c o' g (a.free c d q n J) J
 there:=λc d q J=>by obtain⟨o',g⟩:=a.there c d q J;exact b.there c o' g J
 tups:=λc m q=>b.tups c m (a.tups c m q)
 frzs:=λc d m q=>b.frzs c d m (a.frzs c d m q)
 tbls:=λc ps q=>by obtain⟨z,g⟩:=a.tbls c ps q;obtain⟨C,r⟩:=b.tbls c _ g;exact⟨z++C,by rw[r,Array.append_assoc]⟩
theorem Un.kept(k:∀b u,h.get? b=some u->h'.get? b=some u):Un fs ex H H h h' :=
 ⟨λb c q _ _ _=>k b c q,λb c q _ _ _=>⟨c.slots,k b c q⟩,λ_ _ _ n _=>n,λb c q _=>⟨c,k b c q⟩,λ_ _ q=>q,λ_ _ _ q=>q,λ_ ps q=>⟨#[],by rw[q];simp⟩⟩
theorem Un.refl:Un fs ex H H h h:=Un.kept λ_ _ q=>q
theorem Un.laid(k:∀b u,h.get? b=some u->h'.get? b=some u)(J:h.objs.size<=a)(c:H a=none):Un fs ex H (upd H a o) h h' where
 keep:=λb u q _ _ _=>k b u q
 slot:=λb u q _ _ _=>⟨u.slots,k b u q⟩
 free:=λb u q n _=>by rw[af (zzC (zzH (zzv q) J))];exact n
 there:=λb u q _=>⟨u,k b u q⟩
 tups:=λb d q=>by rw[af (bQ q c)];exact q
 frzs:=λb u d q=>by rw[af (bQ q c)];exact q
 tbls:=λb ps q=>⟨#[],by rw[af (bQ q c),q];simp⟩
theorem Un.write(U:Mut (H x))(he:e=x∨H e=some (.own x))(k:∀b u,b≠e->h.get? b=some u->h'.get? b=some u)(Y:∃u,h'.get? e=some u):Un fs ex H (upd H x o) h h':=by
 have g:∀b,H b=none->b≠x:=λb n z=>by subst z;rw[n]at U;exact U
 have d:∀b,H b=none->b≠e:=λb n z=>by
  subst z;rcases he with r|r
  ·exact g b n r
  ·rw[n]at r;cases r
 have c:∀b u,H b=some u->¬Mut (some u)->b≠x:=λb u q l z=>by subst z;rw[q]at U;exact l U
 refine⟨λb u q n _ _=>k b u (d b n) q,λb u q n _ _=>⟨u.slots,k b u (d b n) q⟩,λb u q n _=>by rw[af (g b n)];exact n,λb u q _=>?_,
  λb m q=>by rw[af (c b _ q λz=>z)];exact q,λb u m q=>by rw[af (c b _ q λz=>z)];exact q,λb ps q=>⟨#[],by rw[af (c b _ q λz=>z),q];simp⟩⟩
 by_cases J:b=e
 ·subst J;exact Y
 ·exact⟨u,k b u J q⟩
theorem Un.mono(u:Un fs ex H H1 h h1)(l:∀b∈fs,b∈fs')(J:∀b∈ex,b∈ex'):Un fs' ex' H H1 h h1 :=
 ⟨λb d q n g c=>u.keep b d q n (λz=>g (l b z)) λz=>c (J b z),λ_ _ q n _ c=>u.any q n λz=>c (J _ z),λb d q n c=>u.free b d q n λz=>c (J b z),λb d q c=>u.there b d q λz=>c (J b z),u.tups,u.frzs,u.tbls⟩
end
def trk(h:bz)(H:Hp):ai bb:=(List.range h.objs.size).filter λa=>(H a).isSome
def hidT(h:bz)(H:Hp):bz:=PySem.W.hideAll h (trk h H)
theorem xm(h:bz)(H:Hp):(hidT h H).objs.size=h.objs.size:=PySem.W.hideAll_size _ _
theorem Aw{h:bz}{b:bb}{o:Obj}(e:h.get? b=some o)(n:H b=none):(hidT h H).get? b=some o :=
 PySem.W.hideAll_get _ e λc=>by have q:(H b).isSome=true:=(zzu.mp c).2;rw[n]at q;simp at q
theorem DU{h:bz}{b:bb}{o:Obj}(e:(hidT h H).get? b=some o):h.get? b=some o/\H b=none:=by
 have J:h.get? b=some o:=PySem.W.of_hideAll (trk h H) e;refine⟨J,?_⟩;cases q:H b with
 |none=>rfl|some x =>
  have c:b∈trk h H:=zzu.mpr ⟨zzB.mpr (zzv J),by simp[q]⟩;have z:(hidT h H).get? b=none:=PySem.W.hideAll_none (trk h H) c;rw[z]at e;cases e
structure Mod(K:zvi)(mg:Str->Option Value)(base:Heap):Prop where
 kin:K.In base
 glob:base.Ns mainGlobals mg
 blt:∃mb,base.Ns builtinsNs mb/\∀x:Str,x ≠ "__name__" -> mb x=bootBuiltins x
 nolimit:base.NoLimit
structure Cx where
 prog:Program
 w:World
 K:zvi
 mg:Str->Option Value
 base:Heap
 A:Around
 N:List Str
 s₀:Shared
 H₀:Hp
 env:Env
 outer:List Env
 stack:List Env
 ex:List Addr
 fn:Str->Bool
 calm:Bool
 pn:List (Addr×Obj)
 xe:Value->Shared->Prop
def frs(l:ai Env):ai bb:=l.filterMap (·.frame)
abbrev Cx.fs(X:Cx):ai bb:=frs X.outer
def Vis(sc:Scope)(x:Str):Prop:=sc.names.lookup x=some .local∨sc.names.lookup x=some .cell∨sc.names.lookup x=some .free
def Loc(sc:Scope)(x:Str):Prop:=sc.names.lookup x=some .local∨sc.names.lookup x=some .cell
def Look(env:Env)(h:bz)(m:Str->bo av)(x:Str)(u:av):Prop :=
 (env.kindOf x=some .local/\m x=some u)∨((env.kindOf x=some .cell∨env.kindOf x=some .free)/\∃c,env.cells.lookup x=some c/\h.IsCell c (some u))
structure Cx.Ok(X:Cx):Prop where
 mod:Mod X.K X.mg X.base
 kind:X.env.scope.kind=.function
 glob:X.env.globals=mainGlobals
 blt:X.env.builtins=builtinsNs
 above:X.s₀.heap.objs.size <= X.env.locals
 inj:∀x y c,X.env.cells.lookup x=some c->X.env.cells.lookup y=some c->x=y
 has:∀x,(X.env.kindOf x=some .cell∨X.env.kindOf x=some .free)->∃c,X.env.cells.lookup x=some c
 cab:∀x c,X.fn x=true->X.env.cells.lookup x=some c->X.s₀.heap.objs.size <= c
 hd:X.calm=true->X.A.handled=none
 frames:X.A.frames=some X.stack
 stk:X.stack=X.outer∨(X.stack=X.env::X.outer/\X.env.frame=some X.env.locals)
 exf:∀b∈X.ex,b≠X.env.locals/\∀x c,X.env.cells.lookup x=some c->c≠b
 bs:∀b o,X.base.get? b=some o->X.s₀.heap.get? b=some o/\X.H₀ b=none
 bsz:X.base.objs.size <= X.s₀.heap.objs.size
 noex:∀b o,X.base.get? b=some o->b∉X.ex
 exfs:∀b∈X.ex,b∉X.fs
 funs:X.s₀.heap.FunFrames X.base X.outer
 frf:∀b∈X.fs,X.H₀ b=none
structure Inv(X:Cx)(pins:List (Addr×Obj))(σ:List (Option V))(H:Hp)(s:Shared):Prop where
 ok:X.Ok
 os:s.os=X.s₀.os
 bare:AllBare s.gens
 base:Un X.fs X.ex X.H₀ H X.s₀.heap s.heap
 loc:∃m,s.heap.Ns X.env.locals m/\∀(i:Nat) (x:Str) (v:V),X.N[i]? = some x->σ[i]? = some (some v)->Vis X.env.scope x->∃u,RelV v u/\Look X.env s.heap m x u
 cell:∀x c,X.env.cells.lookup x=some c->∃v,s.heap.IsCell c v
 free:H X.env.locals=none
 freeC:∀x c,X.env.cells.lookup x=some c->H c=none
 pin:∀p∈X.pn++pins,s.heap.get? p.1=some p.2/\H p.1=none/\p.1≠X.env.locals/\p.1∉X.fs/\∀v,p.2.data ≠ .cell v
 hok:HOk X.prog X.w H s.heap
 len:σ.length=X.N.length
section
variable{X:Cx}{σ:ai (bo V)}{H H':Hp}
theorem Cx.Ok.nofr(ok:X.Ok){b:bb}{o:Obj}(e:X.base.get? b=some o):b∉X.fs:=λc=>by have:=(ok.funs.mem c).1;rw[e]at this;cases this
theorem Inv.bs(I:Inv X pins σ H s):∀b o,X.base.get? b=some o->s.heap.get? b=some o/\H b=none:=λb o e =>
 ⟨I.base.keep b o (I.ok.bs b o e).1 (I.ok.bs b o e).2 (I.ok.nofr e) (I.ok.noex b o e),I.base.free b o (I.ok.bs b o e).1 (I.ok.bs b o e).2 (I.ok.noex b o e)⟩
theorem Inv.bk(I:Inv X pins σ H s):∀b o,X.base.get? b=some o->s.heap.get? b=some o:=λb o e=>(I.bs b o e).1
theorem Inv.mod(I:Inv X pins σ H s):Mod X.K X.mg X.base:=I.ok.mod
theorem Inv.kIn(I:Inv X pins σ H s):X.K.In s.heap:=I.ok.mod.kin.keeps I.bk
theorem Inv.lt(I:Inv X pins σ H s):X.env.locals<s.heap.objs.size:=let ⟨_,hn,_⟩:=I.loc;hn.lt
theorem Inv.sz(I:Inv X pins σ H s):X.s₀.heap.objs.size<=s.heap.objs.size:=zzo I.ok.above (Nat.le_of_lt I.lt)
theorem Inv.nofs(I:Inv X pins σ H s)(h:s.heap.objs.size<=a):a∉X.fs:=λc=>by obtain⟨_,o,d,_⟩:=I.ok.funs.mem c;exact absurd (zzH (zzv d) (zzo I.sz h)) (zyG _)
theorem Inv.cne(I:Inv X pins σ H s):∀x c,X.env.cells.lookup x=some c->c≠X.env.locals:=λx c e z=>by obtain⟨v,o,d,hd⟩:=I.cell x c e;obtain⟨m,⟨o',es,ep,U,J,_⟩,_⟩:=I.loc;rw[z,U]at d;cases d;rw[J]at hd;cases hd
theorem Inv.funs(I:Inv X pins σ H s):s.heap.FunFrames X.base X.outer:=by
 have all:∀(l:ai Env),(∀b∈frs l,b∈X.fs)->X.s₀.heap.FunFrames X.base l->s.heap.FunFrames X.base l:=by
  intro l
  induction l with
  |nil=>intro _ _;trivial|cons env r C =>
   intro g U;obtain⟨m,⟨L,o,d,n,q,hd⟩,Y⟩:=U;have J:L∈X.fs:=g L (by unfold frs;rw[zwW,d];exact zzd);obtain⟨sl,e⟩:=I.base.slot L o q (I.ok.frf L J) J λz=>I.ok.exfs L z J;exact⟨m,⟨L,_,d,n,e,hd⟩,C (λb c=>g b (by unfold frs;rw[zwW,d];exact zzf _ c)) Y⟩
 exact all X.outer (λ_ c=>c) I.ok.funs
theorem Inv.stack(I:Inv X pins σ H s):s.heap.FunFrames X.base X.stack:=by
 rcases I.ok.stk with e|⟨e,c⟩
 ·rw[e];exact I.funs
 ·rw[e];obtain⟨m,d,_⟩:=I.loc;refine .cons (by rw[I.ok.kind];decide) c d ?_ I.funs;exact zwJ (zzo I.ok.bsz I.ok.above)
theorem Inv.stkSub(I:Inv X pins σ H s):∀b∈frs X.stack,b∈X.env.locals::X.fs:=λb c=>by
 rcases I.ok.stk with e|⟨e,d⟩
 ·rw[e]at c;exact zzf _ c
 ·rw[e]at c;unfold frs at c;rw[zwW,d]at c;exact c
theorem Inv.stkFree(I:Inv X pins σ H s):∀b∈frs X.stack,H b=none:=λb c=>by
 rcases zzr.mp (I.stkSub b c) with e|c
 ·rw[e];exact I.free
 ·obtain⟨_,o,d,_⟩:=I.ok.funs.mem c;exact I.base.free b o d (I.ok.frf b c) λz=>I.ok.exfs b z c
theorem Inv.step{Q:Array GenState}{d':Drawn}(I:Inv X pins σ H s)(Y:∀b∈ch,(b∈X.ex∨X.s₀.heap.objs.size<=b)/\b≠X.env.locals/\(∀x c,X.env.cells.lookup x=some c->c≠b)/\∀p∈X.pn++pins,p.1≠b)(keep:∀b o,b≠X.env.locals->b∉X.fs->b∉ch->s.heap.get? b=some o->H b=none->h'.get? b=some o)(slot:∀b o,b≠X.env.locals->b∈X.fs->b∉ch->s.heap.get? b=some o->H b=none->∃M,h'.get? b=some {o with slots:=M})(free:∀b o,b∉ch->s.heap.get? b=some o->H b=none->H' b=none)(there:∀b o,b∉ch->s.heap.get? b=some o->∃o',h'.get? b=some o')(y:∀b xs,H b=some (.tup xs)->H' b=some (.tup xs))(a:∀b o u,H b=some (.frz o u)->H' b=some (.frz o u))(j:∀b ps,H b=some (.tbl ps)->∃more,H' b=some (.tbl (ps++more)))(ns:∀m,s.heap.Ns X.env.locals m->h'.Ns X.env.locals m)(E:HOk X.prog X.w H' h')(hg:AllBare Q) :
  Inv X pins σ H' {s with heap:=h',gens:=Q,drawn:=d',toks:=t' }:=by
 have N:∀b o,X.s₀.heap.get? b=some o->b≠X.env.locals:=λb o e=>zzC (zzH (zzv e) I.ok.above);have A:∀b o,X.s₀.heap.get? b=some o->b∉X.ex->b∉ch:=λb o e J C=>by
  rcases (Y b C).1 with z|z
  ·exact J z
  ·exact absurd (zzH (zzv e) z) (zyG _)
 have U:∀x c,X.env.cells.lookup x=some c->∀v,s.heap.IsCell c v->h'.IsCell c v:=λx c e v ⟨o,G,hd⟩=>by
  have L:c∉ch:=λz=>(Y c z).2.2.1 x c e rfl;by_cases hc:c∈X.fs
  ·obtain⟨M,q⟩:=slot c o (I.cne x c e) hc L G (I.freeC x c e);exact⟨_,q,hd⟩
  ·exact⟨o,keep c o (I.cne x c e) hc L G (I.freeC x c e),hd⟩
 refine⟨I.ok,I.os,hg,⟨λb o e n C J=>?_,λb o e n C J=>?_,λb o e n J=>?_,λb o e J=>?_,λb xs e=>y b xs (I.base.tups b xs e),λb o xs e=>a b o xs (I.base.frzs b o xs e),λb ps e=>?_⟩,?_,λx c e=>?_,?_,λx c e=>?_,λp hp=>?_,E,I.len⟩
 ·exact keep b o (N b o e) C (A b o e J) (I.base.keep b o e n C J) (I.base.free b o e n J)
 ·obtain⟨M,g⟩:=I.base.slot b o e n C J;obtain⟨a6,T⟩:=slot b _ (N b o e) C (A b o e J) g (I.base.free b o e n J);exact⟨a6,T⟩
 ·obtain⟨o',g⟩:=I.base.there b o e J;exact free b o' (A b o e J) g (I.base.free b o e n J)
 ·obtain⟨o',g⟩:=I.base.there b o e J;exact there b o' (A b o e J) g
 ·obtain⟨m1,g⟩:=I.base.tbls b ps e;obtain⟨m2,T⟩:=j b _ g;exact⟨m1++m2,by rw[T,Array.append_assoc]⟩
 ·obtain⟨m,hn,hl⟩:=I.loc;refine⟨m,ns m hn,λi x v g T e3=>?_⟩;obtain⟨u,r,l⟩:=hl i x v g T e3;refine⟨u,r,?_⟩;rcases l with l|⟨k,c,e,z⟩
  ·exact .inl l
  ·exact .inr ⟨k,c,e,U x c e _ z⟩
 ·obtain⟨v,z⟩:=I.cell x c e;exact⟨v,U x c e v z⟩
 ·obtain⟨m,⟨o,_,_,G,_⟩,_⟩:=I.loc;exact free _ o (λz=>(Y _ z).2.1 rfl) G I.free
 ·obtain⟨v,o,G,hd⟩:=I.cell x c e;exact free c o (λz=>(Y c z).2.2.1 x c e rfl) G (I.freeC x c e)
 ·obtain⟨e,n,ne,nf,d⟩:=I.pin p hp;have L:p.1∉ch:=λz=>(Y p.1 z).2.2.2 p hp rfl;exact⟨keep p.1 p.2 ne nf L e n,free p.1 p.2 L e n,ne,nf,d⟩
theorem Inv.un(I:Inv X pins σ H s)(u:Un X.fs [] H H' s.heap h')(d:HOk X.prog X.w H' h'):Inv X pins σ H' {s with heap:=h',toks:=t' }:=by
 obtain⟨m,⟨o,es,ep,g,r⟩,_⟩:=id I.loc;obtain⟨sl,l⟩:=u.any g I.free (by simp);exact I.step (ch:=[]) (λ_ z=>nomatch z) (λb o _ c _ e n=>u.keep b o e n c (by simp)) (λb o _ c _ e n=>u.slot b o e n c (by simp)) (λb o _ e n=>u.free b o e n (by simp)) (λb o _ e=>u.there b o e (by simp)) u.tups u.frzs u.tbls (λm' q=>by obtain⟨o',Y,U,J,C⟩:=q;rw[g]at J;cases J;exact⟨_,Y,U,l,C⟩) d I.bare
theorem Inv.call{q:Array GenState}{L:Drawn}(I:Inv X pins σ H s)(u:Un (frs X.stack) ch H H' s.heap h')(l:HOk X.prog X.w H' h')(a:AllBare q)(J:∀b∈ch,(b∈X.ex∨X.s₀.heap.objs.size<=b)/\b≠X.env.locals/\(∀x c,X.env.cells.lookup x=some c->c≠b)/\∀p∈X.pn++pins,p.1≠b) :
  Inv X pins σ H' {s with heap:=h',gens:=q,drawn:=L,toks:=t' }:=by
 obtain⟨m,⟨o,es,ep,C,r⟩,_⟩:=id I.loc;obtain⟨sl,g⟩:=u.any C I.free λz=>(J _ z).2.1 rfl;exact I.step J (λb o g T d e n=>u.keep b o e n (λz=>(zzr.mp (I.stkSub b z)).elim g T) d) (λb o _ _ d e n=>u.any e n d) (λb o d e n=>u.free b o e n d) (λb o d e=>u.there b o e d) u.tups u.frzs u.tbls (λm' i=>by obtain⟨o',G,Y,U,j⟩:=i;rw[C]at U;cases U;exact⟨_,G,Y,g,j⟩) l a
theorem Inv.turned(I:Inv X pins σ H s)(k:∀b o,b≠it->s.heap.get? b=some o->h'.get? b=some o)(Y:H it=none)(U:it≠X.env.locals)(l:it∈X.ex∨X.s₀.heap.objs.size<=it)(C:∀x c,X.env.cells.lookup x=some c->c≠it)(G:∀p∈X.pn++pins,p.1≠it):Inv X pins σ H {s with heap:=h',toks:=t' }:=by
 have J:∀b u,H b=some u->b≠it:=λb u e z=>by rw[z,Y]at e;cases e
 refine I.step (ch:=[it]) (λb L=>?_) (λb o _ _ d e _=>k b o (λz=>d (by simp[z])) e) (λb o _ _ d e _=>⟨o.slots,k b o (λz=>d (by simp[z])) e⟩) (λ_ _ _ _ n=>n)
  (λb o d e=>⟨o,k b o (λz=>d (by simp[z])) e⟩) (λ_ _ e=>e) (λ_ _ _ e=>e) (λb ps e=>⟨#[],by rw[e];simp⟩) (λm T=>?_) (λb u e=>?_) I.bare
 ·have e:b=it:=by simpa using L
  subst e;exact⟨l,U,C,G⟩
 ·obtain⟨o,es,g,a,r⟩:=T;exact⟨o,es,g,k _ o (Ne.symm U) a,r⟩
 ·refine(I.hok b u e).stay (λc v d q=>k c v ?_ q) (λ_ q=>q) λ_ _ q=>q;rcases d with z|z
  ·rw[z];exact J b u e
  ·exact J c _ z
theorem Inv.tok(I:Inv X pins σ H s)(t:Nat):Inv X pins σ H {s with toks:=t}:=I.un Un.refl I.hok
theorem Inv.kept{t':Nat}(I:Inv X pins σ H s)(k:∀b u,s.heap.get? b=some u->h'.get? b=some u):Inv X pins σ H {s with heap:=h',toks:=t' }:=I.un (Un.kept k) (I.hok.kept k)
theorem Inv.laid{a:bb}{o:HO}{t':Nat}(I:Inv X pins σ H s)(k:∀b u,s.heap.get? b=some u->h'.get? b=some u)(J:s.heap.objs.size<=a)(new:ObjOk X.prog X.w (upd H a o) h' a o) :
  Inv X pins σ (upd H a o) {s with heap:=h',toks:=t' }:=I.un (Un.laid k J (I.hok.fresh J)) (I.hok.laid k J new)
theorem Inv.write{x e:bb}{o:HO}{t':Nat}(I:Inv X pins σ H s)(U:Mut (H x))(he:e=x∨H e=some (.own x))(k:∀b u,b≠e->s.heap.get? b=some u->h'.get? b=some u)(J:∃u,h'.get? e=some u)
  (new:ObjOk X.prog X.w (upd H x o) h' x o):Inv X pins σ (upd H x o) {s with heap:=h',toks:=t' }:=I.un (Un.write U he k J) (I.hok.write U he k J new)
theorem Inv.pins_of(I:Inv X pins σ H s)(h:∀p∈pl,s.heap.get? p.1=some p.2/\H p.1=none/\p.1≠X.env.locals/\p.1∉X.fs/\∀v,p.2.data ≠ .cell v):Inv X pl σ H s :=
 ⟨I.ok,I.os,I.bare,I.base,I.loc,I.cell,I.free,I.freeC,λp J=>(zzx.mp J).elim (λz=>I.pin p (zxg _ z)) (h p),I.hok,I.len⟩
theorem tO(g:N.Nodup)(a:N[i]?=some x)(b:N[t']?=some x):i=t':=by obtain⟨h1,c⟩:=zzt.mp a;obtain⟨h2,d⟩:=zzt.mp b;exact(zxz g).mp (c.trans d.symm)
theorem oM{Q:Unit->bd->Prop}(I:Inv X pins σ H s)(hN:X.N.Nodup)(hi:X.N[i]?=some x)(U:Loc X.env.scope x)(r:RelV v u)(h:∀s',Inv X pins (σ.set i (some v)) H s'->(∃a,Heap.SameBut a s.heap s'.heap/\(a=X.env.locals∨X.env.cells.lookup x=some a))->Q () s')(hf:X.fn x=true∨X.env.scope.names.lookup x=some .local:=by first|exact .inl rfl|exact .inr rfl|assumption):wpAny M A (storeName X.env x u) Q E s:=by
 obtain⟨m,hn,hl⟩:=id I.loc;have a7:(X.env.scope.kind==.class || (X.env.scope.kind==.module && X.env.locals != X.env.globals))=false:=by rw[I.ok.kind];rfl
 have a0:i<σ.length:=by rw[I.len];exact(zzt.mp hi).1
 have cne:=I.cne;have J:∀{a:bb} {h':bz},(∃o,s.heap.get? a=some o/\H a=none)->Heap.SameBut a s.heap h'->HOk X.prog X.w H h':=λ{a h'} ha g b ob e=>by
  obtain⟨_,_,Y⟩:=ha;refine(I.hok b ob e).stay (λc w' C q=>(g.2 c ?_).trans q) (λ_ q=>q) λ_ _ q=>q;rintro rfl;rcases C with rfl|C
  ·rw[Y]at e;cases e
  ·rw[Y]at C;cases C
 rcases U with L|L
 ·refine wpAny_storeName_local L hn (λh' b0 g=>?_) a7;obtain⟨oL,_,_,b1,_⟩:=id hn;refine h _ ⟨I.ok,I.os,I.bare,⟨λb o e n T U=>?_,λb o e n T U=>?_,I.base.free,λb o e U=>?_,I.base.tups,I.base.frzs,I.base.tbls⟩,⟨_,b0,λj y v' l G e3=>?_⟩,λy c e=>?_,I.free,I.freeC,λp hp=>?_,J ⟨oL,b1,I.free⟩ g,by simpa using I.len⟩ ⟨_,g,.inl rfl⟩
  ·exact(g.2 b (zzC (zzH (zzv e) I.ok.above))).trans (I.base.keep b o e n T U)
  ·obtain⟨sl,l⟩:=I.base.slot b o e n T U;exact⟨sl,(g.2 b (zzC (zzH (zzv e) I.ok.above))).trans l⟩
  ·obtain⟨o',l⟩:=I.base.there b o e U;exact⟨o',(g.2 b (zzC (zzH (zzv e) I.ok.above))).trans l⟩
  ·by_cases hj:j=i
   ·subst hj;rw[hi]at l;cases l;rw[zxN a0]at G;cases G;exact⟨u,r,.inl ⟨L,by simp⟩⟩
   ·rw[zzO (Ne.symm hj)]at G;obtain⟨u',r',q⟩:=hl j y v' l G e3;refine⟨u',r',?_⟩;rcases q with ⟨k,e⟩|⟨k,c,e,z⟩
    ·refine .inl ⟨k,?_⟩;have:y≠x:=λe=>hj (tO hN l (e ▸ hi));simp[this,e]
    ·exact .inr ⟨k,c,e,z.sameBut g (cne y c e)⟩
  ·obtain⟨w',z⟩:=I.cell y c e;exact⟨w',z.sameBut g (cne y c e)⟩
  ·obtain⟨e,n,ne,nf,d⟩:=I.pin p hp;exact⟨(g.2 p.1 ne).trans e,n,ne,nf,d⟩
 ·have a4:X.fn x=true:=by
   rcases hf with z|z
   ·exact z
   ·rw[z]at L;cases L
  obtain⟨c,C⟩:=I.ok.has x (.inl L);obtain⟨w',z⟩:=I.cell x c C;refine wpAny_storeName_cell I.ok.kind L C z (λh' a5 g=>?_);obtain⟨oc,a8,a9⟩:=id z;refine h {s with heap:=h' } ⟨I.ok,I.os,I.bare,⟨λb o e n T U=>?_,λb o e n T U=>?_,I.base.free,λb o e U=>?_,I.base.tups,I.base.frzs,I.base.tbls⟩,⟨m,hn.sameBut g (Ne.symm (cne x c C)),λj y v' l G e3=>?_⟩,λy c' e=>?_,I.free,I.freeC,λp hp=>?_,J ⟨oc,a8,I.freeC x c C⟩ g,by simpa using I.len⟩ ⟨c,g,.inr C⟩
  ·exact(g.2 b (zzC (zzH (zzv e) (I.ok.cab x c a4 C)))).trans (I.base.keep b o e n T U)
  ·obtain⟨sl,l⟩:=I.base.slot b o e n T U;exact⟨sl,(g.2 b (zzC (zzH (zzv e) (I.ok.cab x c a4 C)))).trans l⟩
  ·obtain⟨o',l⟩:=I.base.there b o e U;exact⟨o',(g.2 b (zzC (zzH (zzv e) (I.ok.cab x c a4 C)))).trans l⟩
  ·by_cases hj:j=i
   ·subst hj;rw[hi]at l;cases l;rw[zxN a0]at G;cases G;exact⟨u,r,.inr ⟨.inl L,c,C,a5⟩⟩
   ·rw[zzO (Ne.symm hj)]at G;obtain⟨u',r',q⟩:=hl j y v' l G e3;refine⟨u',r',?_⟩;rcases q with q|⟨k,c',e,z'⟩
    ·exact .inl q
    ·refine .inr ⟨k,c',e,z'.sameBut g ?_⟩;rintro rfl;exact hj (tO hN l (I.ok.inj _ _ _ e C ▸ hi))
  ·by_cases a6:c'=c
   ·subst a6;exact⟨_,a5⟩
   ·obtain⟨w2,z2⟩:=I.cell y c' e;exact⟨w2,z2.sameBut g a6⟩
  ·obtain⟨e,n,ne,nf,d⟩:=I.pin p hp;refine⟨(g.2 p.1 ?_).trans e,n,ne,nf,d⟩;intro q;rw[q,a8]at e;have q':oc=p.2:=zya e;exact d w' (by rw[←q'];exact a9)
theorem tP{Q:Unit->bd->Prop}(I:Inv X pins σ H s)(c:X.N.Nodup)(hi:X.N[i]?=some x)(U:Loc X.env.scope x)(r:RelV v u)(h:∀s',Inv X pins (σ.set i (some v)) H s'->Q () s')(hf:X.fn x=true∨X.env.scope.names.lookup x=some .local:=by first|exact .inl rfl|exact .inr rfl|assumption):wpAny M A (storeName X.env x u) Q E s :=
 oM I c hi U r (λs' J _=>h s' J) hf
theorem Inv.call'(I:Inv X pins σ H s)(g:s'.os=s.os)(u:Un (frs X.stack) ch H H' s.heap s'.heap)(d:HOk X.prog X.w H' s'.heap)(U:AllBare s'.gens)(J:∀b∈ch,(b∈X.ex∨X.s₀.heap.objs.size<=b)/\b≠X.env.locals/\(∀x c,X.env.cells.lookup x=some c->c≠b)/\∀p∈X.pn++pins,p.1≠b):Inv X pins σ H' s':=by obtain⟨h',g',d',t',o'⟩:=s';have e:o'=s.os:=g;subst e;exact I.call u d U J
end
abbrev XK:=av->bo bb->Hp->Prop
abbrev St:=ai (bo V)
variable{σ:St}
abbrev VK:=V->Hp->Prop
abbrev TE:=St->Hp->VK->Prop
variable{te tl:TE}
abbrev TT:=St->Hp->(Bool->Hp->Prop)->Prop
variable{tc:TT}
abbrev TA:=St->Hp->(ai V->Hp->Prop)->Prop
structure Ends where
 nx:St->Hp->Prop
 rt:VK
 bk:St->Hp->Prop:=λ_ _=>False
 ct:St->Hp->Prop:=λ_ _=>False
abbrev TS:=Ends->St->Hp->Prop
def EP(X:Cx)(pins:ai (bb×Obj))(σ:St)(Q:VK)(u:av)(s':bd):Prop:=∃v H',Inv X pins σ H' s'/\RelV v u/\Q v H'
def TP(X:Cx)(pins:ai (bb×Obj))(σ:St)(Q:Bool->Hp->Prop)(b:Bool)(s':bd):Prop:=∃H',Inv X pins σ H' s'/\Q b H'
def AP(X:Cx)(pins:ai (bb×Obj))(σ:St)(Q:ai V->Hp->Prop)(us:ai av)(s':bd):Prop:=∃c H',Inv X pins σ H' s'/\Vals c us/\Q c H'
def SP(X:Cx)(pins:ai (bb×Obj))(D:Ends)(f:Flow)(s':bd):Prop :=
 match f with
 |.next=>∃c H',Inv X pins c H' s'/\D.nx c H'|.brk=>∃c H',Inv X pins c H' s'/\D.bk c H'|.cont=>∃c H',Inv X pins c H' s'/\D.ct c H'|.ret u=>∃v c H',Inv X pins c H' s'/\RelV v u/\D.rt v H'
def PE(X:Cx)(e:bN)(t:TE):Prop :=
 ∀(pins:ai (bb×Obj)) (s:bd) (σ:St) (H:Hp) (Q:VK),Inv X pins σ H s->t σ H Q->wpAny (model X.prog X.w) X.A (eval e X.env) (EP X pins σ Q) X.xe s
def PT(X:Cx)(e:bN)(t:TT):Prop :=
 ∀(pins:ai (bb×Obj)) (s:bd) (σ:St) (H:Hp) (Q:Bool->Hp->Prop),Inv X pins σ H s->t σ H Q->wpAny (model X.prog X.w) X.A (isTrue e X.env (eval e X.env)) (TP X pins σ Q) X.xe s
def PW(X:Cx)(e:bN)(t:TT):Prop :=
 ∀(whole:Sem av) (pins:ai (bb×Obj)) (s:bd) (σ:St) (H:Hp) (Q:Bool->Hp->Prop),Inv X pins σ H s->t σ H Q->wpAny (model X.prog X.w) X.A (isTrue e X.env whole) (TP X pins σ Q) X.xe s
theorem PW.pt{X:Cx}{t:TT}(h:PW X e t):PT X e t:=h _
def PA(X:Cx)(es:ai bN)(t:TA):Prop :=
 ∀(pos:Pos) (pins:ai (bb×Obj)) (s:bd) (σ:St) (H:Hp) (Q:ai V->Hp->Prop),Inv X pins σ H s->t σ H Q->wpAny (model X.prog X.w) X.A (spliced (backTo pos (starEach es X.env))) (AP X pins σ Q) X.xe s
def PS(X:Cx)(st:Stmt)(t:TS):Prop :=
 ∀(pins:ai (bb×Obj)) (s:bd) (σ:St) (H:Hp) (D:Ends),Inv X pins σ H s->t D σ H->wpAny (model X.prog X.w) X.A (exec st X.env) (SP X pins D) X.xe s
def PSs(X:Cx)(st:ai Stmt)(t:TS):Prop :=
 ∀(pins:ai (bb×Obj)) (s:bd) (σ:St) (H:Hp) (D:Ends),Inv X pins σ H s->t D σ H->wpAny (model X.prog X.w) X.A (execs st X.env) (SP X pins D) X.xe s
theorem thn{t:Sem α}{Q J:α->bd->Prop}(h:wpAny M A t Q E s)(U:∀a s,Q a s->J a s):wpAny M A t J E s:=zxq h U λ_ _ x=>x
theorem thnE{t:Sem α}{P R S:α->bd->β->γ->Prop}{J:α->bd->Prop}(h:wpAny M A t (λa s=>∃x H,P a s x H/\R a s x H/\S a s x H) E s)(k:∀a s x H,P a s x H->R a s x H->S a s x H->J a s):wpAny M A t J E s:=thn h λ_ _ ⟨_,_,p,q,r⟩=>k _ _ _ _ p q r
theorem thnF{t:Sem α}{P S:α->bd->β->γ->Prop}{J:α->bd->Prop}(h:wpAny M A t (λa s=>∃x H,P a s x H/\S a s x H) E s)(k:∀a s x H,P a s x H->S a s x H->J a s):wpAny M A t J E s:=thn h λ_ _ ⟨_,_,p,q⟩=>k _ _ _ _ p q
theorem thnG{t:Sem α}{P S:α->bd->γ->Prop}{J:α->bd->Prop}(h:wpAny M A t (λa s=>∃H,P a s H/\S a s H) E s)(k:∀a s H,P a s H->S a s H->J a s):wpAny M A t J E s:=thn h λ_ _ ⟨_,p,q⟩=>k _ _ _ p q
section
variable{X:Cx}
def tVar(i:Nat):TE:=λσ H Q=>∃v,σ[i]?=some (some v)/\Q v H
def tC(v:V):TE:=λ_ H Q=>Q v H
theorem Gx(n:X.N[i]?=some x)(C:Vis X.env.scope x)(hd:(x==("__debug__" : Str))=false:=by decide)(U:(x==("__classdict__" : Str))=false:=by decide):PE X (.Name x pos) (tVar i):=by
 intro pins s σ H Q I h;obtain⟨v,e,h⟩:=h;obtain⟨m,z,Y⟩:=I.loc;obtain⟨u,r,l⟩:=Y i x v n e C;have fin:EP X pins σ Q u s:=⟨v,H,I,r,h⟩;rcases l with ⟨d,q⟩|⟨d,c,g,J⟩
 ·exact wpAny_Name (wpAny_loadName_local I.ok.kind d z q fin) hd
 ·rcases d with d|d
  ·exact wpAny_Name (wpAny_loadName_cell I.ok.kind d g J fin) hd
  ·exact wpAny_Name (wpAny_loadName_free I.ok.kind d g J fin U) hd
theorem bC{i j pos}:PE X (.Constant (.int i) j pos) (tC (.int i)):=λ_ _ _ H _ I h=>wpAny_Constant_int ⟨.int i,H,I.tok _,⟨_,rfl⟩,h⟩
theorem JK{b j pos}:PE X (.Constant (.bool b) j pos) (tC (.bl b)):=λ_ _ _ H _ I h=>Constant_bool ⟨.bl b,H,I,rfl,h⟩
theorem Gy{j pos}:PE X (.Constant .none j pos) (tC .non):=λ_ _ _ H _ I h=>Constant_none ⟨.non,H,I,rfl,h⟩
theorem Gz{x j pos}:PE X (.Constant (.str x) j pos) (tC (.str x)):=λ_ _ _ H _ I h=>Calls.Constant_str ⟨.str x,H,I.tok _,⟨_,rfl⟩,h⟩
def Gl(X:Cx)(x:Str):Prop:=X.env.kindOf x=some .globalImplicit
theorem xo(I:Inv X pl σ H s)(J:Gl X x)(c:X.mg x=some u)(h:Q u s)(hd:(x==("__debug__" : Str))=false:=by decide):wpAny (model X.prog X.w) X.A (eval (.Name x pos) X.env) Q E s :=
 Calls.Name_function_global I.ok.kind J (Calls.loadGlobal_global (by rw[I.ok.glob];exact I.mod.glob.keeps I.bk) c h) hd
theorem eY(I:Inv X pl σ H s)(J:Gl X x)(g:X.mg x=none)(U:bootBuiltins x=some u)(h:Q u s)(l:x ≠ "__name__":=by decide)(hd:(x==("__debug__" : Str))=false:=by decide):wpAny (model X.prog X.w) X.A (eval (.Name x pos) X.env) Q E s:=by obtain⟨mb,c,d⟩:=I.mod.blt;exact Calls.Name_function_global I.ok.kind J (Calls.loadGlobal_builtin (by rw[I.ok.glob];exact I.mod.glob.keeps I.bk) g (by rw[I.ok.blt];exact c.keeps I.bk) ((d x l).trans U) h) hd
theorem DV(J:Gl X x)(c:X.mg x=some u)(r:RelV v u)(hd:(x==("__debug__" : Str))=false:=by decide):PE X (.Name x pos) (tC v) :=
 λ_ _ _ H _ I h=>xo I J c ⟨v,H,I,r,h⟩ hd
theorem DW(J:Gl X x)(c:X.mg x=none)(U:bootBuiltins x=some u)(r:RelV v u)(d:x ≠ "__name__":=by decide)(hd:(x==("__debug__" : Str))=false:=by decide):PE X (.Name x pos) (tC v) :=
 λ_ _ _ H _ I h=>eY I J c U ⟨v,H,I,r,h⟩ d hd
variable{a:bN}{ta tb:TE}
def tB(t:TE):TT:=λσ H Q=>t σ H λx d=>∃c,x=.bl c/\Q c d
theorem GA{t:TE}(h:PE X e t)(he:∀whole,isTrue e X.env whole=(do let v ←whole;standAt e.pos;holding [v] (truthy v)):=by intro _;rfl):PT X e (tB t):=by intro pins s σ H Q I g;refine isTrue_plain (thn (h pins s σ H _ I g) λv s1 U=>?_) (he _);obtain⟨x,c,J,l,Y⟩:=U;obtain⟨d,rfl,q⟩:=Y;cases l;exact zxw ⟨c,J,q⟩
variable{tA tB':TT}{rest:ai bN}
def tAnd(t u:TT):TT:=λσ H Q=>t σ H λc d=>if c=true then u σ d Q else Q false d
def tOr(t u:TT):TT:=λσ H Q=>t σ H λc d=>if c=true then Q true d else u σ d Q
def tNot(t:TT):TT:=λσ H Q=>t σ H λc d=>Q (!c) d
theorem DX(d:PT X a tA):PW X (.BoolOp .And [a] pos) tA:=by
 intro wh pins s σ H Q I h;refine isTrue_and (thn (d pins s σ H Q I h) λc s1 e=>?_);cases c with
 |true=>exact isTrue_and_nil e|false=>exact e
theorem CD(d:PT X a tA):PW X (.BoolOp .Or [a] pos) tA:=by
 intro wh pins s σ H Q I h;refine isTrue_or (thn (d pins s σ H Q I h) λc s1 e=>?_);cases c with
 |false=>exact isTrue_or_nil e|true=>exact e
theorem GB(g:PT X a tA)(l:PW X (.BoolOp .And (b::rest) pos) tB'):PW X (.BoolOp .And (a::b::rest) pos) (tAnd tA tB'):=by
 intro Y pins s σ H Q I h;refine isTrue_and (thnG (g pins s σ H _ I h) λc m d J U=>?_);cases c with
 |true=>exact l Y pins m σ d Q J U|false=>exact⟨d,J,U⟩
theorem GC(g:PT X a tA)(l:PW X (.BoolOp .Or (b::rest) pos) tB'):PW X (.BoolOp .Or (a::b::rest) pos) (tOr tA tB'):=by
 intro Y pins s σ H Q I h;refine isTrue_or (thnG (g pins s σ H _ I h) λc m d J U=>?_);cases c with
 |true=>exact⟨d,J,U⟩|false=>exact l Y pins m σ d Q J U
theorem GD(g:PT X a tA):PT X (.UnaryOp .Not a pos) (tNot tA):=by intro pins s σ H Q I h;exact isTrue_not (g pins s σ H (λc d=>Q (!c) d) I h)
def JL(ta tb:TE):TE:=λσ H Q=>ta σ H λx d=>∃c,x=.bl c/\if c=true then tb σ d Q else Q (.bl false) d
def JM(ta:TE):TE:=λσ H Q=>ta σ H λx d=>∃c,x=.bl c/\Q (.bl (!c)) d
theorem GE{op}{t:TE}(h:PE X a t):PE X (.BoolOp op [a] pos) t:=λpins s σ H Q I c=>BoolOp_one (h pins s σ H Q I c)
theorem GF(g:PE X a ta)(l:PE X (.BoolOp .And (b::rest) pos) tb):PE X (.BoolOp .And (a::b::rest) pos) (JL ta tb):=by
 intro pins s σ H Q I h;refine BoolOp_and (thn (g pins s σ H _ I h) λv n Y=>?_);obtain⟨x,d,U,m,J⟩:=Y;obtain⟨c,rfl,J⟩:=J;cases m;refine zxw ?_;cases c with
 |true=>exact l pins n σ d Q U J|false=>exact⟨.bl false,d,U,rfl,J⟩
theorem GG(g:PE X a ta):PE X (.UnaryOp .Not a pos) (JM ta):=by intro pins s σ H Q I h;refine UnaryOp_ (thn (g pins s σ H _ I h) λv s1 Y=>?_);obtain⟨x,d,U,l,J⟩:=Y;obtain⟨c,rfl,J⟩:=J;cases l;exact not_of (zxw ⟨.bl (!c),d,U,rfl,J⟩)
def tIf(t:TT)(ta tb:TE):TE:=λσ H Q=>t σ H λc d=>if c=true then ta σ d Q else tb σ d Q
theorem Ax{c:bN}(q:PT X c tA)(m:PE X a ta)(n:PE X b tb):PE X (.IfExp c a b pos) (tIf tA ta tb):=by
 intro pins s σ H Q I h;refine wpAny_IfExp (thnG (q pins s σ H _ I h) λd l g J U=>?_);cases d with
 |true=>exact m pins l σ g Q J U|false=>exact n pins l σ g Q J U
end
def SqL(K:zvi)(H:Hp)(a:bb)(xs:ai V):Prop :=
 Rd H a (.lst xs) ∨
  ∃(o:Obj) (c:Array av) (n:Nat),K.lookup a=some o/\o.cls=.type "list" /\ o.dict=none/\o.data=.seq c n/\c.size<=sizeLine/\Vals xs c.toList
def SqT(K:zvi)(H:Hp)(a:bb)(xs:ai V):Prop :=
 Rd H a (.tup xs) ∨
  ∃(o:Obj) (c:Array av) (n:Nat),K.lookup a=some o/\o.cls=.type "tuple" /\ o.data=.seq c n/\c.size<=sizeLine/\Vals xs c.toList
def absV:av->bo V
 |.none=>some .non|.bool b=>some (.bl b)|.int i _=>some (.int i)|.str x _=>some (.str x)|.bytes b _=>some (.byt b)|.float b _=>some (.flt b)|.ref a=>some (.ref a)|.type n=>some (.ty n)|_=>none
theorem RelV.abs{x:V}(r:RelV x u):absV u=some x:=by
 cases x with
 |non=>cases r;rfl
 |bl _=>cases r;rfl
 |int _=>obtain⟨t,rfl⟩:=r;rfl
 |str _=>obtain⟨t,rfl⟩:=r;rfl
 |byt _=>obtain⟨t,rfl⟩:=r;rfl
 |flt _=>obtain⟨t,rfl⟩:=r;rfl
 |ref _=>cases r;rfl
 |ty _=>cases r;rfl
theorem RelV.inj{x:V}(r:RelV x u)(q:RelV y u):x=y:=zya (r.abs.symm.trans q.abs)
theorem Vals.inj:∀{xs ys:ai V} {us:ai av},Vals xs us->Vals ys us->xs=ys:=by
 intro xs ys us h k
 induction h generalizing ys with
 |nil=>cases k;rfl
 |cons r t J=>cases k with|cons c t'=>rw[r.inj c,J t']
section
variable{X:Cx}{σ:St}{H:Hp}{xs ys:ai V}
theorem SqL.of{K:zvi}(h:H a=some (.lst xs)):SqL K H a xs:=.inl (.inl h)
theorem SqT.of{K:zvi}(h:H a=some (.tup xs)):SqT K H a xs:=.inl (.inl h)
theorem Inv.list(I:Inv X pins σ H s)(h:SqL X.K H a xs):∃c:ai av,Vals xs c/\PlainL s.heap a c.toArray/\xs.length<=sizeLine:=by
 rcases h with h|⟨o,c,n,g,d,hd,l,hz,r⟩
 ·obtain⟨z,c,n,r,e⟩:=h.ok I.hok;exact⟨c,r,⟨_,n,e,rfl,rfl,rfl⟩,z⟩
 ·refine⟨c.toList,r,⟨o,n,I.kIn a o g,d,hd,by simpa using l⟩,?_⟩;have e:=r.length;simp only[zyx]at e;lia
theorem Inv.tuple(I:Inv X pins σ H s)(h:SqT X.K H a xs):∃c:ai av,Vals xs c/\IsTup s.heap a c.toArray/\xs.length<=sizeLine:=by
 rcases h with h|⟨o,c,n,g,d,l,hz,r⟩
 ·obtain⟨z,c,r,p⟩:=h.ok I.hok;exact⟨c,r,p,z.1⟩
 ·refine⟨c.toList,r,⟨o,I.kIn a o g,d,n,by simpa using l⟩,?_⟩;have e:=r.length;simp only[zyx]at e;lia
theorem Inv.list_inj(I:Inv X pins σ H s)(h:SqL X.K H a xs)(h':SqL X.K H a ys):xs=ys:=by
 obtain⟨c,r,⟨o,n,e,_,_,d⟩,_⟩:=I.list h;obtain⟨J,l,⟨o',n',Y,_,_,U⟩,_⟩:=I.list h';rw[e]at Y;cases Y;rw[d]at U;injection U with g _
 have:c=J:=by simpa using congrArg Array.toList g
 subst this;exact r.inj l
theorem Inv.tuple_inj(I:Inv X pins σ H s)(h:SqT X.K H a xs)(h':SqT X.K H a ys):xs=ys:=by
 obtain⟨c,r,⟨o,e,_,n,d⟩,_⟩:=I.tuple h;obtain⟨J,l,⟨o',Y,_,n',U⟩,_⟩:=I.tuple h';rw[e]at Y;cases Y;rw[d]at U;injection U with g _
 have:c=J:=by simpa using congrArg Array.toList g
 subst this;exact r.inj l
end
abbrev Cx.wish(X:Cx)(E:av->bd->Prop):Cx:={X with xe:=E}
abbrev Cx.nox(X:Cx):Cx:=X.wish λ_ _=>False
theorem Cx.Ok.wish{X:Cx}(ok:X.Ok)(E:av->bd->Prop):(X.wish E).Ok :=
 ⟨ok.mod,ok.kind,ok.glob,ok.blt,ok.above,ok.inj,ok.has,ok.cab,ok.hd,ok.frames,ok.stk,ok.exf,ok.bs,ok.bsz,ok.noex,ok.exfs,ok.funs,ok.frf⟩
theorem Cx.Ok.unwish{X:Cx}(ok:(X.wish E).Ok):X.Ok :=
 ⟨ok.mod,ok.kind,ok.glob,ok.blt,ok.above,ok.inj,ok.has,ok.cab,ok.hd,ok.frames,ok.stk,ok.exf,ok.bs,ok.bsz,ok.noex,ok.exfs,ok.funs,ok.frf⟩
section
variable{X:Cx}{σ:St}{H:Hp}
theorem Inv.wish(I:Inv X pins σ H s)(E:av->bd->Prop):Inv (X.wish E) pins σ H s:=⟨I.ok.wish E,I.os,I.bare,I.base,I.loc,I.cell,I.free,I.freeC,I.pin,I.hok,I.len⟩
theorem Inv.unwish(I:Inv (X.wish E) pins σ H s):Inv X pins σ H s:=⟨I.ok.unwish,I.os,I.bare,I.base,I.loc,I.cell,I.free,I.freeC,I.pin,I.hok,I.len⟩
theorem SP.unwish{D:Ends}{f:Flow}{s':bd}(h:SP (X.wish E) pins D f s'):SP X pins D f s':=by
 cases f with
 |next=>obtain⟨c,H',I,q⟩:=h;exact⟨c,H',I.unwish,q⟩
 |brk=>obtain⟨c,H',I,q⟩:=h;exact⟨c,H',I.unwish,q⟩
 |cont=>obtain⟨c,H',I,q⟩:=h;exact⟨c,H',I.unwish,q⟩
 |ret u=>obtain⟨v,c,H',I,r,q⟩:=h;exact⟨v,c,H',I.unwish,r,q⟩
theorem PSs.nox{st:ai Stmt}{t:TS}(h:PSs X.nox st t):PSs X st t:=λpins s σ H D I c =>
 zxq (h pins s σ H D (I.wish _) c) (λ_ _ q=>q.unwish) λ_ _ z=>False.elim z
end
section
variable{X:Cx}{st:Stmt}{rest:ai Stmt}{t u:TS}{te:TE}
def JN:TS:=λD σ H=>D.nx σ H
def tSeq(t u:TS):TS:=λD σ H=>t {D with nx:=u D} σ H
theorem mI:PSs X [] JN:=λ_ _ σ H _ I h=>zwK ⟨σ,H,I,h⟩
theorem bn(d:PS X st t)(g:PSs X rest u):PSs X (st::rest) (tSeq t u):=by
 intro pins s σ H D I h;refine wpAny_execs_cons (thn (d pins s σ H {D with nx:=u D} I h) λf l q=>?_);cases f with
 |next =>
  obtain⟨c,H',J,q⟩:=q;exact g pins l c H' D J q
 |ret v=>exact q|brk=>exact q|cont=>exact q
theorem eJ(c:PS X st t):PSs X [st] t:=by
 intro pins s σ H D I h;refine wpAny_execs_cons (thn (c pins s σ H D I h) λf s1 q=>?_);cases f with
 |next=>exact zwK q
 |ret v=>exact q|brk=>exact q|cont=>exact q
def JO:TS:=λD σ H=>D.ct σ H
theorem qS:PS X (.Continue pos) JO:=λ_ _ σ H _ I h=>wpAny_Continue ⟨σ,H,I,h⟩
theorem Inv.quiet(I:Inv X pl σ H s):interactive X.env=false:=by simp[interactive,I.ok.kind]
def JP(te:TE):TS:=λD σ H=>te σ H λ_ c=>D.nx σ c
theorem jt(he:PE X e te)(d:swapsWith e none pos.line X.env=pure false:=by rfl):PS X (.Expr e pos) (JP te):=by intro pins s σ H D I h;exact wpAny_Expr_any (thnE (he pins s σ H _ I h) λv s1 x c J r1 U=>⟨σ,c,J,U⟩) I.quiet d
def tRet(te:TE):TS:=λD σ H=>te σ H D.rt
theorem jv(he:PE X e te):PS X (.Return (some e) pos) (tRet te):=by intro pins s σ H D I h;exact wpAny_Return_some (thnE (he pins s σ H _ I h) λv s1 x c J d U=>⟨x,σ,c,J,d,U⟩)
def tIfS(c:TT)(t u:TS):TS:=λD σ H=>c σ H λb d=>if b=true then t D σ d else u D σ d
theorem Ay{c:bN}{a b:ai Stmt}(q:PT X c tc)(m:PSs X a t)(n:PSs X b u):PS X (.If c a b pos) (tIfS tc t u):=by
 intro pins s σ H D I h;refine wpAny_If (thnG (q pins s σ H _ I h) λd l g J U=>?_);cases d with
 |true=>exact m pins l σ g D J U|false=>exact n pins l σ g D J U
def GH:TS:=λ_ _ _=>False
theorem Az:PS X st GH:=λ_ _ _ _ _ _ h=>h.elim
end
abbrev TG:=V->St->Hp->(St->Hp->Prop)->Prop
variable{g:TG}
abbrev TGs:=ai V->St->Hp->(St->Hp->Prop)->Prop
def PG(X:Cx)(target:bN)(t:TG):Prop :=
 ∀(pins:ai (bb×Obj)) (s:bd) (σ:St) (H:Hp) (v:V) (u:av) (Q:St->Hp->Prop),Inv X pins σ H s->RelV v u->t v σ H Q ->
  wpAny (model X.prog X.w) X.A (assign target X.env u) (λ_ s'=>∃c H',Inv X pins c H' s'/\Q c H') X.xe s
def PGs(X:Cx)(J:ai bN)(t:TGs):Prop :=
 ∀(pins:ai (bb×Obj)) (s:bd) (σ:St) (H:Hp) (d:ai V) (us:ai av) (Q:St->Hp->Prop),Inv X pins σ H s->Vals d us->t d σ H Q ->
  wpAny (model X.prog X.w) X.A (assignInOrder ((assignEach J X.env).map (·.2)) us) (λ_ s'=>∃c H',Inv X pins c H' s'/\Q c H') X.xe s
abbrev TSet:=V->V->V->Hp->(Hp->Prop)->Prop
def PSet(X:Cx)(t:TSet):Prop :=
 ∀(pins:ai (bb×Obj)) (s:bd) (σ:St) (H:Hp) (o i v:V) (ov iv u:av) (Q:Hp->Prop),Inv X pins σ H s->RelV o ov->RelV i iv->RelV v u->t o i v H Q ->
  wpAny (model X.prog X.w) X.A (setItem ov iv u) (λ_ s'=>∃H',Inv X pins σ H' s'/\Q H') X.xe s
section
variable{X:Cx}
def xp(i:Nat):TG:=λv σ H Q=>Q (σ.set i (some v)) H
theorem mJ(c:X.N.Nodup)(hi:X.N[i]?=some x)(U:Loc X.env.scope x)(hf:X.fn x=true∨X.env.scope.names.lookup x=some .local:=by first|exact .inl rfl|exact .inr rfl|assumption):PG X (.Name x pos) (xp i):=by intro pins s σ H v u Q I r h;exact wpAny_assign_Name (tP I c hi U r (λs' J=>⟨_,H,J,h⟩) hf)
def gNil:TGs:=λc σ H Q=>c=[]/\Q σ H
def JQ(t:TG)(u:TGs):TGs:=λd σ H Q=>∃v r,d=v::r/\t v σ H λc H'=>u r c H' Q
theorem xq:PGs X [] gNil:=by intro pins s σ H vs us Q I r h;obtain⟨e,h⟩:=h;subst e;exact assignInOrder_nil ⟨σ,H,I,h⟩
theorem jf{e:bN}{es:ai bN}{t:TG}{u:TGs}(l:PG X e t)(m:PGs X es u)
  (n:(assignEach (e::es) X.env).map (·.2)=assign e X.env::(assignEach es X.env).map (·.2):=by rfl):PGs X (e::es) (JQ t u):=by
 intro pins s σ H vs us Q I r h;obtain⟨v,vr,d,h⟩:=h;subst d;cases r with
 |cons r q =>
  rw[n];refine assignInOrder_cons (thnF (l pins s σ H _ _ _ I r h) λ_ z J c U Y=>?_);exact m pins z J c _ _ Q U q Y
def gTup(K:zvi)(n:Nat)(t:TGs):TG:=λv σ H Q=>∃a c,v=.ref a/\SqT K H a c/\c.length=n/\t c σ H Q
theorem GI{es:ai bN}{k:Nat}{t:TGs}{n:Nat}(l:X.calm=true)(h:PGs X es t)
  (q:(assignEach es X.env).length=n:=by rfl) (J:(assignEach es X.env).findIdx? (·.1)=none:=by rfl):PG X (.Tuple es k pos) (gTup X.K n t):=by
 intro pins s σ H v u Q I r c;obtain⟨a,L,d,z,m,c⟩:=c;subst d;cases r;obtain⟨its,U,C,hz⟩:=I.tuple z;refine assign_Tuple_tuple (I.ok.hd l) C (by simp[q,←m,U.length]) J λh' G=>?_;have Y:Inv X pins σ H {s with heap:=h' }:=I.kept λb o e=>G b o (zzC (zzv e)) e;exact h pins _ σ H L _ Q Y (by simpa using U) c
def gSub(to ti:TE)(t:TSet):TG:=λv σ H Q=>to σ H λo c=>ti σ c λi d=>t o i v d λl=>Q σ l
theorem xr{o i:bN}{t:TSet}(z:PE X o te)(hi:PE X i tl)(C:PSet X t)(ha:∀v,assign (.Subscript o i pos) X.env v=(do
   let J ←holding [v] (eval o X.env)
   let U ←holding [v,J] (eval i X.env)
   standAt pos
   holding [v,J,U] (setItem J U v)
   release [v,J,U] []):=by intro _;rfl):PG X (.Subscript o i pos) (gSub te tl t):=by
 intro pins s σ H v u Q I r h;refine zzb (zyn (thn (z pins s σ H _ I h) λJ e Y=>?_));obtain⟨x,c,m,a,G⟩:=Y;refine zzb (zyn (thn (hi pins e σ c _ m G) λU g Y=>?_));obtain⟨y,d,n,b,L⟩:=Y;refine zzb (zwy (zzb (zyn (thnG (C pins g σ d x y v J U u _ n a b r L) λ_ s3 l q T=>?_))));exact wpAny_release ⟨σ,l,q,T⟩
def tAsg(te:TE)(g:TG):TS:=λD σ H=>te σ H λx c=>g x σ c D.nx
theorem oN(he:PE X e te)(U:PG X tg g)(l:swapsWithSole [tg] e pos.line X.env=pure false:=by rfl)(hw:swappedStores [tg] e X.env=pure none:=by rfl)(d:(assignEach [tg] X.env).map (·.2)=[assign tg X.env]:=by rfl):PS X (.Assign [tg] e pos) (tAsg te g):=by intro pins s σ H D I h;refine wpAny_Assign_stores (thn (he pins s σ H _ I h) λv r Y=>?_) l hw;obtain⟨x,c,J,n,m⟩:=Y;rw[d];exact thn (U pins r σ c x v _ J n m) λ_ s2 q=>q
theorem fH(d:X.N.Nodup)(hi:X.N[i]?=some x)(Y:Loc X.env.scope x)(he:PE X e te)(l:swapsWith e (some (.Name x p)) pos.line X.env=pure false:=by rfl)(hf:X.fn x=true∨X.env.scope.names.lookup x=some .local:=by first|exact .inl rfl|exact .inr rfl|assumption) :
  PS X (.Assign [.Name x p] e pos) (tAsg te (xp i)):=by
 intro pins s σ H D I h;refine wpAny_Assign_Name (thn (he pins s σ H _ I h) λv s1 m=>?_) l;obtain⟨y,c,J,q,n⟩:=m;exact tP J d hi Y q (λs2 U=>⟨_,c,U,n⟩) hf
def GJ(c:TT)(tb:TS):TS:=λD σ H=>∃W:Nat->St->Hp->Prop,(∃m,W m σ H)/\∀m σ H,W m σ H ->
 c σ H λb l=>if b=true then ∃N:St->Hp->Prop,(∀d H',N d H'->∃J,J<m/\W J d H')/\tb {D with nx:=N,ct:=N,bk:=D.nx} σ l else D.nx σ l
theorem AA{c:bN}{body:ai Stmt}{j:TS}(i:PassesOwn (model X.prog X.w) X.A X.env X.xe)(u:PT X c tc)(p:PSs X body j):PS X (.While c body [] pos) (GJ tc j):=by
 intro pins s σ H D I h;obtain⟨W,⟨x,w0⟩,l⟩:=h;refine wpAny_While (codeAny_whileLoop (λn s'=>∃m H',Inv X pins m H' s'/\W n m H') ?_ x ⟨σ,H,I,w0⟩);rintro n y ⟨U,T,k,M⟩;refine zxt i (thnG (u pins y U T _ k (l n U T M)) λb E a e Y=>?_);cases b with
 |true =>
  obtain⟨N,g,Y⟩:=Y;refine zxt i (thn (p pins E U a _ e Y) λf s3 q=>?_);cases f with
  |next =>
   obtain⟨J,d,r,G⟩:=q;obtain⟨C,z,L⟩:=g J d G;exact⟨C,z,J,d,r,L⟩
  |cont =>
   obtain⟨J,d,r,G⟩:=q;obtain⟨C,z,L⟩:=g J d G;exact⟨C,z,J,d,r,L⟩
  |brk=>exact q|ret v=>exact q
 |false =>
  exact zwK ⟨U,a,e,Y⟩
end
structure It where
 go:Nat->Hp->Prop
 yld:Nat->Hp->V->Hp->Prop
 stop:Nat->Hp->Prop
def FpOk(X:Cx)(pins:ai (bb×Obj))(H:Hp)(b:bb):Prop :=
 H b=none/\b≠X.env.locals/\b∉X.fs/\(b∈X.ex∨X.s₀.heap.objs.size<=b)/\(∀x c,X.env.cells.lookup x=some c->c≠b)/\∀p∈X.pn++pins,p.1≠b
theorem Inv.fpOk{X:Cx}{b:bb}(I:Inv X pl σ H s)(d:s.heap.objs.size<=b)(l:H' b=none):FpOk X pl H' b:=by
 refine⟨l,zxA (zzH I.lt d),I.nofs d,.inr (zzo I.sz d),λx c e z=>?_,λp J z=>?_⟩
 ·obtain⟨v,q⟩:=I.cell x c e;exact absurd (zzH q.lt (by rw[z];exact d)) (zyG _)
 ·exact absurd (zzH (zzv (I.pin p J).1) (by rw[z];exact d)) (zyG _)
structure Turn(P:Program)(w:World)(K:zvi)(tg:Expr)(J:It)(fp:List Addr)(it:Addr)(tn:Nat->Heap->Prop):Prop where
 mem:it∈fp
 obj:∀i h,tn i h->∀b∈fp,∃o,h.get? b=some o/\∀v,o.data ≠ .cell v
 keep:∀i h h',tn i h->(∀b∈fp,∀o,h.get? b=some o->h'.get? b=some o)->tn i h'
 item:∀(X:Cx),X.prog=P->X.w=w->X.K=K->X.calm=true->∀(i:Nat) (pins:List (Addr×Obj)) (s:Shared) (σ:St) (H:Hp) (E:Value->Shared->Prop),Inv X pins σ H s->(∀b∈fp,FpOk X pins H b)->tn i s.heap->J.go i H ->
  wpAny (model P w) X.A (pyNext (.ref it)) (λr s1=>∃u,r=some u /\
   wpAny (model P w) X.A (letOwnedTupleGo tg (.ref it) u) (λ_ s2=>∃x H',Inv X pins σ H' s2/\RelV x u/\J.yld i H x H'/\tn (i+1) s2.heap/\∀b∈fp,H' b=none) E s1) E s
 done:∀(X:Cx),X.prog=P->X.w=w->X.K=K->X.calm=true->∀(i:Nat) (pins:List (Addr×Obj)) (s:Shared) (σ:St) (H:Hp) (E:Value->Shared->Prop),Inv X pins σ H s->(∀b∈fp,FpOk X pins H b)->tn i s.heap->J.stop i H ->
  wpAny (model P w) X.A (pyNext (.ref it)) (λr s1=>r=none/\Inv X pins σ H s1) E s
 self:∀(A:Around) (i:Nat) (s:Shared) (Q:Value->Shared->Prop) (E:Value->Shared->Prop),tn i s.heap->Q (.ref it) s->wpAny (model P w) A (pyIter (.ref it)) Q E s
abbrev TI:=St->Hp->(It->Hp->Prop)->Prop
def PIE(X:Cx)(pins:ai (bb×Obj))(σ:St)(tg:bN)(R:It->Hp->Prop)(U:av)(s2:bd):Prop :=
 ∃(it:bb) (c:ai bb) (tn:Nat->bz->Prop) (J:It) (H':Hp),U=.ref it/\Inv X pins σ H' s2/\Turn X.prog X.w X.K tg J c it tn/\tn 0 s2.heap/\(∀b∈c,FpOk X pins H' b)/\R J H'
def PI(X:Cx)(tg iter:bN)(wi:TI):Prop :=
 ∀(pins:ai (bb×Obj)) (s:bd) (σ:St) (H:Hp) (R:It->Hp->Prop),Inv X pins σ H s->wi σ H R ->
  wpAny (model X.prog X.w) X.A (eval iter X.env) (λv c=>wpAny (model X.prog X.w) X.A (pyIter v) (PIE X pins σ tg R) X.xe c) X.xe s
theorem DY{o:Obj}{n:String}{c:Array av}{Q:Unit->bd->Prop}(m:s.heap.get? it=some o)(d:o.cls=.type n)(hd:o.data=.fields c)(l:["enumerate","zip","dict_itemiterator","dict_reverseitemiterator","odict_iterator","itertools.zip_longest","itertools.pairwise"].contains n=false)(J:Q () s):wpAny M A (letOwnedTupleGo tg (.ref it) u) Q E s:=by
 cases tg<;>first
  |exact zzq J
  | (cases u<;>first
    |exact zzq J
    | (refine zzb (wpAny_load m ?_)
       rw[d,hd];show wpAny M A (if (["enumerate","zip","dict_itemiterator","dict_reverseitemiterator","odict_iterator","itertools.zip_longest","itertools.pairwise"].contains n && c[0]?==some (rawInt _))=true then _ else _) Q E s;rw[zzg (by intro h;rw[l,Bool.false_and]at h;cases h)];exact zzq J))
def Itl(K:zvi)(a:bb):It :=
 ⟨λi H=>∃c x,SqL K H a c/\c[i]?=some x,λi H x H'=>H'=H/\∀c,SqL K H a c->c[i]?=some x,λi H=>∃c,SqL K H a c/\c.length<=i⟩
def Itt(K:zvi)(a:bb):It :=
 ⟨λi H=>∃c x,SqT K H a c/\c[i]?=some x,λi H x H'=>H'=H/\∀c,SqT K H a c->c[i]?=some x,λi H=>∃c,SqT K H a c/\c.length<=i⟩
def Itr(lo:Int)(n:Nat):It:=⟨λi _=>i<n,λi H x H'=>H'=H/\x=.int (lo+i),λi _=>n<=i⟩
theorem oO{P:bP}{K:zvi}(a it:bb):Turn P w K tg (Itl K a) [it] it (λi h=>h.IsListIter it a i) where
 mem:=by simp
 obj:=λi h st b l=>by
  have e:b=it:=by simpa using l
  subst e;obtain⟨o,e,c,d⟩:=st;exact⟨o,e,λv z=>by rw[d]at z;cases z⟩
 keep:=λi h h' st k=>st.at λo e=>k it (by simp) o e
 item:=by intro X G T C A i pins s σ H E I m st L;subst G T C;obtain⟨xs,x,U,g⟩:=L;obtain⟨j,y,p,hz⟩:=I.list U;obtain⟨u,Q,ru⟩:=y.get g;obtain⟨n,f1,f2,Y,q,r⟩:=m it (by simp);refine wpAny_pyNext_list_item st p.isList (by simpa using Q) λh' J sb=>?_;have M:Inv X pins σ H {s with heap:=h' }:=I.turned (λb o l e=>(sb.2 b l).trans e) n f1 Y q r;obtain⟨o,e,c,d⟩:=id J;exact⟨u,rfl,DY e c d (by decide) ⟨x,H,M,ru,⟨rfl,λys hy=>by rw[I.list_inj hy U];exact g⟩,J,λb l=>(m b l).1⟩⟩
 done:=by intro X G T C A i pins s σ H E I m st L;subst G T C;obtain⟨xs,U,g⟩:=L;obtain⟨j,y,p,hz⟩:=I.list U;obtain⟨n,f1,f2,Y,q,r⟩:=m it (by simp);have hl:=y.length;exact wpAny_pyNext_list_end (I.ok.hd A) st p.isList (by simp;lia) λh' N=>⟨rfl,I.turned (λb o l e=>N b o l e) n f1 Y q r⟩
 self:=λ_ _ _ _ _ st h=>wpAny_pyIter_listiter st h
theorem lE{P:bP}{K:zvi}(a it:bb):Turn P w K tg (Itt K a) [it] it (λi h=>h.IsTupleIter it a i) where
 mem:=by simp
 obj:=λi h st b l=>by
  have e:b=it:=by simpa using l
  subst e;obtain⟨o,e,c,d⟩:=st;exact⟨o,e,λv z=>by rw[d]at z;cases z⟩
 keep:=λi h h' st k=>st.at λo e=>k it (by simp) o e
 item:=by intro X L g G A i pins s σ H E I n st T;subst L g G;obtain⟨xs,x,U,j⟩:=T;obtain⟨m,y,p,hz⟩:=I.tuple U;obtain⟨u,Q,ru⟩:=y.get j;obtain⟨q,f1,f2,Y,r,C⟩:=n it (by simp);refine wpAny_pyNext_tuple_item st (show s.heap.IsTuple a m.toArray from p) (by simpa using Q) λh' J sb=>?_;have M:Inv X pins σ H {s with heap:=h' }:=I.turned (λb o l e=>(sb.2 b l).trans e) q f1 Y r C;obtain⟨o,e,c,d⟩:=id J;exact⟨u,rfl,DY e c d (by decide) ⟨x,H,M,ru,⟨rfl,λys hy=>by rw[I.tuple_inj hy U];exact j⟩,J,λb l=>(n b l).1⟩⟩
 done:=by intro X L g G A i pins s σ H E I n st T;subst L g G;obtain⟨xs,U,j⟩:=T;obtain⟨m,y,p,hz⟩:=I.tuple U;obtain⟨q,f1,f2,Y,r,C⟩:=n it (by simp);have hl:=y.length;exact wpAny_pyNext_tuple_end (I.ok.hd A) st (show s.heap.IsTuple a m.toArray from p) (by simp;lia) λh' N=>⟨rfl,I.turned (λb o l e=>N b o l e) q f1 Y r C⟩
 self:=λ_ _ _ _ _ st h=>wpAny_pyIter_tupleiter st h
theorem vJ{P:bP}{K:zvi}(it:bb)(lo:Int)(n:Nat):Turn P w K tg (Itr lo n) [it] it (λi h=>IsRangeIter h it (lo+(i:Nat)*1) ((n:Int) - (i:Nat)) 1) where
 mem:=by simp
 obj:=λi h st b c=>by
  have e:b=it:=by simpa using c
  subst e;exact⟨_,st,λv z=>by have u:Data.fields _=Data.cell v:=z;cases u⟩
 keep:=λi h h' st k=>k it (by simp) _ st
 item:=by intro X G L C q i pins s σ H E I d st r;subst G L C;obtain⟨l,f1,f2,U,Y,m⟩:=d it (by simp);have W:=Walks.range (prog:=X.prog) (w:=X.w) (I.ok.hd q) it lo 1 n;refine W.item i s _ _ r st λv h' p g J j=>?_;obtain⟨t,rfl⟩:=g;have T:Inv X pins σ H {s with heap:=h',toks:=p}:=I.turned (λb o c e=>j b o (by simpa using c) e) l f1 U Y m;refine⟨_,rfl,DY J rfl rfl (by decide) ⟨.int (lo+i),H,T,⟨t,?_⟩,⟨rfl,rfl⟩,J,λb c=>(d b c).1⟩⟩;rw[Int.mul_one]
 done:=by intro X G L C q i pins s σ H E I d st r;obtain⟨l,f1,f2,U,Y,m⟩:=d it (by simp);exact wpAny_pyNext_range_end (I.ok.hd q) st (by have:n<=i:=r;lia) λh' a=>⟨rfl,I.turned (λb o c e=>a b o c e) l f1 U Y m⟩
 self:=λ_ _ _ _ _ st h=>wpAny_pyIter_rangeiter st h
section
variable{X:Cx}{tg:bN}
def JR(K:zvi)(tl:TE):TI:=λσ H R=>tl σ H λx c=>∃a,x=.ref a/\(∃d,SqL K c a d)/\R (Itl K a) c
def iTup(K:zvi)(tl:TE):TI:=λσ H R=>tl σ H λx c=>∃a,x=.ref a/\(∃d,SqT K c a d)/\R (Itt K a) c
theorem DZ{l:bN}(U:PE X l tl):PI X tg l (JR X.K tl):=by
 intro pins s σ H R I h;refine thn (U pins s σ H _ I h) λv c n=>?_;obtain⟨x,d,J,z,r⟩:=n;obtain⟨a,e,⟨xs,Y⟩,q⟩:=r;subst e;cases z;obtain⟨its,rv,p,hz⟩:=J.list Y;refine zxx p.isList ?_;refine⟨c.heap.objs.size,[c.heap.objs.size],_,_,d,rfl,J.kept λb o e=>zzj _ e,oO a _,⟨_,zzw _ rfl,rfl,rfl⟩,λb m=>?_,q⟩;have e:b=c.heap.objs.size:=by simpa using m
 subst e;exact J.fpOk (zzn _) (J.hok.fresh (zzn _))
theorem GK{l:bN}(U:PE X l tl):PI X tg l (iTup X.K tl):=by
 intro pins s σ H R I h;refine thn (U pins s σ H _ I h) λv c r=>?_;obtain⟨x,m,J,C,z⟩:=r;obtain⟨a,e,⟨xs,Y⟩,q⟩:=z;subst e;cases C;obtain⟨d,rv,p,hz⟩:=J.tuple Y;refine zxb (show c.heap.IsTuple a d.toArray from p) ?_;refine⟨c.heap.objs.size,[c.heap.objs.size],_,_,m,rfl,J.kept λb o e=>zzj _ e,lE a _,⟨_,zzw _ rfl,rfl,rfl⟩,λb n=>?_,q⟩;have e:b=c.heap.objs.size:=by simpa using n
 subst e;exact J.fpOk (zzn _) (J.hok.fresh (zzn _))
theorem tQ{s:bd}{R:It->Hp->Prop}{lo:Int}{t u v:Tok}{tk:Nat}(I:Inv X pl σ H s)(l : -(2^62)<=lo)(m:lo<2^62)(n : -(2^62)<=hi)(U:hi<2^62)(q:R (Itr lo (hi - lo).toNat) H):wpAny (model X.prog X.w) X.A (pyIter (.ref s.heap.objs.size)) (PIE X pl σ tg R) E {s with heap:=s.heap.push {cls:=.type "range",data:=.fields #[.int lo t,.int hi u,.int 1 v]},toks:=tk}:=by
 refine wpAny_pyIter_range (IsRange.new ..) (small_one l m n U) ?_;have J:Inv X pl σ H {s with heap:=s.heap.push {cls:=.type "range",data:=.fields #[.int lo t,.int hi u,.int 1 v]},toks:=tk}:=I.kept λb o e=>zzj _ e;refine⟨(s.heap.push {cls:=.type "range",data:=.fields #[.int lo t,.int hi u,.int 1 v]}).objs.size,[(s.heap.push {cls:=.type "range",data:=.fields #[.int lo t,.int hi u,.int 1 v]}).objs.size],_,_,H,rfl,
  J.kept λb o e=>zzj _ e,vJ _ lo (hi - lo).toNat,?_,λb r=>?_,q⟩
 ·have c:lo+((0:Nat):Int)*1=lo:=by simp
  have d:(((hi - lo).toNat:Nat):Int) - ((0:Nat):Int)=Builtin.Range.rangeSize lo hi 1:=by rw[rangeSize_one];split<;>lia
  rw[c,d];exact zzw _ rfl
 ·have e:b=(s.heap.push {cls:=.type "range",data:=.fields #[.int lo t,.int hi u,.int 1 v]}).objs.size:=by simpa using r
  subst e;exact J.fpOk (zzn _) (J.hok.fresh (zzn _))
def JS(ta:TA):TI:=λσ H R=>ta σ H λd c=>∃j:Int,d=[.int j]/\-(2^62)<=j/\j<2^62/\R (Itr 0 j.toNat) c
def JT(ta:TA):TI:=λσ H R=>ta σ H λd c=>∃i j:Int,d=[.int i,.int j]/\(-(2^62)<=i/\i<2^62/\-(2^62)<=j/\j<2^62)/\R (Itr i (j - i).toNat) c
theorem xt{a:bN}{c:TA}(Y:Gl X "range")(l:X.mg "range" = none)(d:PA X [a] c)(m:starEach [a] X.env=[(false,eval a X.env)]:=by rfl):PI X tg (.Call (.Name "range" p) [a] [] pos) (JS c):=by
 intro pins s σ H R I h;refine Call_ (eY I Y l boot_range (PyProof.Rows.callWith_type1 (thn (d pos pins s σ H _ I h) λus s1 n=>?_) m rfl));obtain⟨vs,H1,U,C,J⟩:=n;obtain⟨j,e,J,z,q⟩:=J;subst e;cases C with
 |cons r G =>
  cases G;obtain⟨t,rfl⟩:=r;exact call_range_1 (tQ U (by lia) (by lia) J z (by simpa using q))
theorem xu{a b:bN}{c:TA}(m:Gl X "range")(n:X.mg "range" = none)(l:PA X [a,b] c)(z:starEach [a,b] X.env=[(false,eval a X.env),(false,eval b X.env)]:=by rfl)(J:starEach [b] X.env=[(false,eval b X.env)]:=by rfl) :
  PI X tg (.Call (.Name "range" p) [a,b] [] pos) (JT c):=by
 intro pins s σ H R I h;refine Call_ (eY I m n boot_range (PyProof.Rows.callWith_type1 (thn (l pos pins s σ H _ I h) λus s1 C=>?_) (by rw[z,J]) (by rw[J];rfl)));obtain⟨vs,H1,d,k,U⟩:=C;obtain⟨i,j,e,⟨U,G,L,T⟩,q⟩:=U;subst e;cases k with
 |cons r Y =>
  cases Y with
  |cons g Y =>
   cases Y;obtain⟨t,rfl⟩:=r;obtain⟨t',rfl⟩:=g;exact call_range_2 (tQ d U G L T q)
def tFor(wi:TI)(g:TG)(tb:TS):TS:=λD σ H=>wi σ H λJ d=>∃W:Nat->Nat->St->Hp->Prop,(∃m,W 0 m σ d)/\∀i m σ H,W i m σ H ->
 (J.stop i H/\D.nx σ H)∨(J.go i H/\∃N:St->Hp->Prop,(∀c H',N c H'->∃Y,Y<m/\W (i+1) Y c H')/\∀x H',J.yld i H x H'->g x σ H' λU l=>tb {D with nx:=N,ct:=N,bk:=D.nx} U l)
def oP(fp:ai bb)(h:bz):ai (bb×Obj):=fp.filterMap λb=>(h.get? b).map λo=>(b,o)
theorem ft{h:bz}{b:bb}{o:Obj}(c:b∈ch)(e:h.get? b=some o):(b,o)∈oP ch h:=List.mem_filterMap.mpr ⟨b,c,by rw[e];rfl⟩
theorem xv{h:bz}{p:bb×Obj}(U:p∈oP ch h):p.1∈ch/\h.get? p.1=some p.2:=by
 obtain⟨b,c,e⟩:=List.mem_filterMap.mp U;cases q:h.get? b with
 |none=>rw[q]at e;cases e
 |some o =>
  rw[q]at e;have J:(b,o)=p:=zya e;subst J;exact⟨c,q⟩
theorem Inv.pinned(I:Inv X pl σ H s)(hf:∀b∈ch,FpOk X pl H b)(m:∀b∈ch,∃o,s.heap.get? b=some o/\∀v,o.data ≠ .cell v):Inv X (pl++oP ch s.heap) σ H s :=
 I.pins_of λp U=>(zzx.mp U).elim (λz=>I.pin p (zyd _ z)) λz=>by obtain⟨c,e⟩:=xv z;obtain⟨l,f1,f2,_⟩:=hf p.1 c;obtain⟨o,J,d⟩:=m p.1 c;rw[e]at J;cases J;exact⟨e,l,f1,f2,d⟩
theorem Inv.unpinned{pins:ai (bb×Obj)}(I:Inv X (pins++pl) σ H s):Inv X pins σ H s:=I.pins_of λp J=>I.pin p (zyd _ (zxg _ J))
theorem GL{iter:bN}{body:ai Stmt}{wi:TI}{tb:TS}(a:PassesOwn (model X.prog X.w) X.A X.env X.xe)(hc:X.calm=true)(hi:PI X tg iter wi)(hg:PG X tg g)(l:PSs X body tb)(hs:∀x,foldedSetIterable iter X.env x=pure x:=by intro _;rfl):PS X (.For tg iter body [] pos) (tFor wi g tb):=by
 intro pins s σ H D I h;refine wpAny_For (thn (hi pins s σ H _ I h) λv s1 h1=>thn h1 λitv s2 h2=>?_) hs;obtain⟨it,L,tn,J,H2,e,I2,T,b0,f2,W,⟨m0,w0⟩,k⟩:=h2;subst e;have y:∀{H':Hp},(∀b∈L,H' b=none)->∀b∈L,FpOk X pins H' b:=λhn b l=>⟨hn b l,(f2 b l).2⟩;refine codeAny_forLoop_any (λn s'=>∃i z H',Inv X pins z H' s'/\tn i s'.heap/\(∀b∈L,H' b=none)/\W i n z H') ?_ m0 ⟨0,σ,H2,I2,b0,λb l=>(f2 b l).1,w0⟩;rintro n s3 ⟨i,G,p,I3,a7,a6,w3⟩;rcases k i n G p w3 with ⟨stop,qn⟩|⟨go,N,hN,step⟩
 ·refine zxt a (thn (T.done X rfl rfl rfl hc i pins s3 G p X.xe I3 (y a6) a7 stop) λr s4 q=>?_);obtain⟨rfl,I4⟩:=q;exact zwK ⟨G,p,I4,qn⟩
 ·refine zxt a (thnG (T.item X rfl rfl rfl hc i pins s3 G p X.xe I3 (y a6) a7 go) λr s4 u hr h4=>?_);subst hr;refine zxt a (thn h4 λ_ s5 q0=>?_);obtain⟨x,Q,I5,r5,y5,E,a9⟩:=q0;have a8:=I5.pinned (y a9) (T.obj _ _ E);refine zxt a (thnF (hg _ s5 G Q x u _ a8 r5 (step x Q y5)) λ_ s6 b1 H6 I6 q6=>?_);refine zxt a (thn (l _ s6 b1 H6 _ I6 q6) λf M C=>?_);have again:∀{U:St} {Y:Hp},Inv X (pins++oP L s5.heap) U Y M->N U Y->∃m,m<n/\∃i z H',Inv X pins z H' M/\tn i M.heap/\(∀b∈L,H' b=none)/\W i m z H':=λ{U Y} c j=>by
   obtain⟨m',hm,w7⟩:=hN U Y j;refine⟨m',hm,i+1,U,Y,c.unpinned,T.keep _ _ _ E λb l o e=>(c.pin (b,o) (zyd _ (zyd _ (ft l e)))).1,λb l=>?_,w7⟩;obtain⟨o,e,d⟩:=T.obj _ _ E b l;exact(c.pin (b,o) (zyd _ (zyd _ (ft l e)))).2.1
  cases f with
  |next=>obtain⟨U,Y,c,j⟩:=C;exact again c j
  |cont=>obtain⟨U,Y,c,j⟩:=C;exact again c j
  |brk=>obtain⟨U,Y,c,C⟩:=C;exact⟨U,Y,c.unpinned,C⟩
  |ret v=>obtain⟨x7,U,Y,c,r7,C⟩:=C;exact⟨x7,U,Y,c.unpinned,r7,C⟩
end
abbrev R2:=V->V->Hp->VK->Prop
variable{r r':R2}
def OpR(X:Cx)(f:av->av->Sem av)(r:R2):Prop :=
 ∀(pins:ai (bb×Obj)) (s:bd) (σ:St) (H:Hp) (x y:V) (v u:av) (Q:VK),Inv X pins σ H s->RelV x v->RelV y u->r x y H Q ->
  wpAny (model X.prog X.w) X.A (f v u) (EP X pins σ Q) X.xe s
def UnR(X:Cx)(f:av->Sem av)(r:V->Hp->VK->Prop):Prop :=
 ∀(pins:ai (bb×Obj)) (s:bd) (σ:St) (H:Hp) (x:V) (v:av) (Q:VK),Inv X pins σ H s->RelV x v->r x H Q ->
  wpAny (model X.prog X.w) X.A (f v) (EP X pins σ Q) X.xe s
def cZ(X:Cx)(f:av)(r:ai V->Hp->VK->Prop):Prop :=
 ∀(pins:ai (bb×Obj)) (s:bd) (σ:St) (H:Hp) (c:ai V) (us:ai av) (Q:VK),Inv X pins σ H s->Vals c us->r c H Q ->
  wpAny (model X.prog X.w) X.A (call f us) (EP X pins σ Q) X.xe s
def tOp(r:R2)(ta tb:TE):TE:=λσ H Q=>ta σ H λx c=>tb σ c λy d=>r x y d Q
def tUn(r:V->Hp->VK->Prop)(ta:TE):TE:=λσ H Q=>ta σ H λx c=>r x c Q
def rI(C:Int->Int->Prop)(g:Int->Int->V):R2:=λx y H Q=>∃i j,x=.int i/\y=.int j/\C i j/\Q (g i j) H
def rI0(g:Int->Int->V):R2:=λx y H Q=>∃i j,x=.int i/\y=.int j/\Q (g i j) H
def rU(g:Int->V):V->Hp->VK->Prop:=λx H Q=>∃i,x=.int i/\Q (g i) H
section
variable{X:Cx}{a:bN}{ta tb:TE}
theorem binT(q:PE X a ta)(z:PE X b tb){R:V->V->Hp->Prop}(I:Inv X pl σ H s)(h:ta σ H λx l=>tb σ l λy c=>R x y c){f:av->av->Sem av}(hf:∀v u d x y c,Inv X pl σ c d->RelV x v->RelV y u->R x y c->wpAny (model X.prog X.w) X.A (f v u) Q X.xe d) :
  wpAny (model X.prog X.w) X.A (eval a X.env) (λv J=>wpAny (model X.prog X.w) X.A (eval b X.env) (λu U=>wpAny (model X.prog X.w) X.A (f v u) Q X.xe U) X.xe J) X.xe s:=by
 refine thn (q pl s σ H _ I h) λv e Y=>?_;obtain⟨x,l,m,L,C⟩:=Y;refine thn (z pl e σ l _ m C) λu d Y=>?_;obtain⟨y,c,n,T,G⟩:=Y;exact hf v u d x y c n L T G
theorem db{op:Operator}(m:OpR X (binaryOp op) r)(d:PE X a ta)(l:PE X b tb):PE X (.BinOp a op b pos) (tOp r ta tb):=by intro pins s σ H Q I h;exact wpAny_BinOp (binT d l I h λv u n x y c J U Y q=>m pins n σ c x y v u Q J U Y q)
theorem JU{op:UnaryOp}{r:V->Hp->VK->Prop}(l:UnR X (unaryOp op) r)(d:PE X a ta):PE X (.UnaryOp op a pos) (tUn r ta):=by intro pins s σ H Q I h;exact UnaryOp_ (thnE (d pins s σ H _ I h) λv n x c J m U=>l pins n σ c x v Q J m U)
theorem opI{f:av->av->Sem av}{C:Int->Int->Prop}{g:Int->Int->Int}
  (rule:∀(i j:Int) (t u:Tok) (s:bd) (Q:av->bd->Prop) (E:av->bd->Prop),C i j->Q (.int (g i j) s.toks) {s with toks:=s.toks+1}->wpAny (model X.prog X.w) X.A (f (.int i t) (.int j u)) Q E s) :
  OpR X f (rI C λi j=>.int (g i j)):=by
 intro pins s σ H x y v u Q I J U h;obtain⟨i,j,rfl,rfl,c,q⟩:=h;obtain⟨t,rfl⟩:=J;obtain⟨t',rfl⟩:=U;exact rule i j t t' s _ _ c ⟨.int (g i j),H,I.tok _,⟨_,rfl⟩,q⟩
theorem opI0{f:av->av->Sem av}{g:Int->Int->Int}
  (rule:∀(i j:Int) (t u:Tok) (s:bd) (Q:av->bd->Prop) (E:av->bd->Prop),Q (.int (g i j) s.toks) {s with toks:=s.toks+1}->wpAny (model X.prog X.w) X.A (f (.int i t) (.int j u)) Q E s) :
  OpR X f (rI0 λi j=>.int (g i j)):=by
 intro pins s σ H x y v u Q I J U h;obtain⟨i,j,rfl,rfl,q⟩:=h;obtain⟨t,rfl⟩:=J;obtain⟨t',rfl⟩:=U;exact rule i j t t' s _ _ ⟨.int (g i j),H,I.tok _,⟨_,rfl⟩,q⟩
theorem opB0{f:av->av->Sem av}{g:Int->Int->Bool}
  (rule:∀(i j:Int) (t u:Tok) (s:bd) (Q:av->bd->Prop) (E:av->bd->Prop),Q (.bool (g i j)) s->wpAny (model X.prog X.w) X.A (f (.int i t) (.int j u)) Q E s) :
  OpR X f (rI0 λi j=>.bl (g i j)):=by
 intro pins s σ H x y v u Q I J U h;obtain⟨i,j,rfl,rfl,q⟩:=h;obtain⟨t,rfl⟩:=J;obtain⟨t',rfl⟩:=U;exact rule i j t t' s _ _ ⟨.bl (g i j),H,I,rfl,q⟩
def CPow(i j:Int):Prop:=0<=j/\j<=1000000/\i.natAbs<2^64
theorem jw:OpR X (binaryOp .Add) (rI0 λi j=>.int (i+j)):=opI0 λ_ _ _ _ _ _ _ q=>add_int q
theorem GM:OpR X (binaryOp .Sub) (rI0 λi j=>.int (i - j)):=opI0 λ_ _ _ _ _ _ _ q=>sub_int q
theorem jx:OpR X (binaryOp .Mod) (rI (λ_ j=>0<j) λi j=>.int (i % j)):=opI λi j _ _ _ _ _ hc q=>by exact mod_int' (by lia) (by rw[Int.fmod_eq_emod_of_nonneg i (by lia)];exact q)
theorem Ea:OpR X (binaryOp .Mod) (rI (λ_ j=>j≠0) λi j=>.int (i.fmod j)):=opI λ_ _ _ _ _ _ _ c q=>mod_int' c q
theorem GN:OpR X (binaryOp .Pow) (rI CPow λi j=>.int (i^j.toNat)):=opI λ_ _ _ _ _ _ _ c q=>pow_int_small c.1 c.2.1 c.2.2 q
theorem unI{f:av->Sem av}{g:Int->Int}
  (rule:∀(i:Int) (t:Tok) (s:bd) (Q:av->bd->Prop) (E:av->bd->Prop),Q (.int (g i) s.toks) {s with toks:=s.toks+1}->wpAny (model X.prog X.w) X.A (f (.int i t)) Q E s) :
  UnR X f (rU λi=>.int (g i)):=by
 intro pins s σ H x v Q I J h;obtain⟨i,rfl,q⟩:=h;obtain⟨t,rfl⟩:=J;exact rule i t s _ _ ⟨.int (g i),H,I.tok _,⟨_,rfl⟩,q⟩
theorem GO:UnR X (unaryOp .USub) (rU λi=>.int (-i)):=unI λ_ _ _ _ _ q=>neg_int q
end
def scal:V->V->Bool
 |.non,.non=>true|.non,.int _=>true|.int _,.non=>true|.non,.bl _=>true|.bl _,.non=>true|.non,.str _=>true|.str _,.non=>true|.int _,.int _=>true|.bl _,.bl _=>true|.str _,.str _=>true|.byt _,.byt _=>true|.int _,.str _=>true|.str _,.int _=>true|.bl _,.str _=>true|.str _,.bl _=>true|_,_=>false
def rEq:R2:=λx y H Q=>scal x y=true/\Q (.bl (decide (x=y))) H
theorem Eb{i j:Int}:decide (V.int i=V.int j)=(i==j):=by rw[zyU];simp
theorem GP{i:Bool}:decide (V.bl i=V.bl k)=(i==k):=by rw[zyU];simp
theorem Ec{i:Str}:decide (V.str i=V.str j)=(i==j):=by rw[zyU];simp
theorem Ed{i j:Array UInt8}:decide (V.byt i=V.byt j)=(i.toList==j.toList):=by rw[zyU];cases i;cases j;simp
section
variable{X:Cx}{a c:bN}{ta tb tc:TE}
theorem bV{Q:VK}(I:Inv X pl σ H s)(q:Q (.bl k) H)(e:k=k'):EP X pl σ Q (.bool k') s:=by subst e;exact⟨.bl k,H,I,rfl,q⟩
theorem JV:OpR X (compareOp .Eq) rEq:=by
 intro pins s σ H x y v u Q I U J h;obtain⟨d,q⟩:=h;cases x with
 |non =>
  cases U;cases y with
  |non=>cases J;exact PySem.EqNone.eq_none_none (bV I q (by simp))
  |bl j=>cases J;exact PySem.EqNone.eq_none_bool (bV I q (by simp))
  |int j=>obtain⟨t',rfl⟩:=J;exact PySem.EqNone.eq_none_int (bV I q (by simp))
  |str j=>obtain⟨t',rfl⟩:=J;exact PySem.EqNone.eq_none_str (bV I q (by simp))
  |_=>exact absurd (show false=true from d) zzL
 |bl i =>
  cases U;cases y with
  |non=>cases J;exact PySem.EqNone.eq_bool_none (bV I q (by simp))
  |bl j=>cases J;exact eq_bool (bV I q GP)
  |str j=>obtain⟨t',rfl⟩:=J;exact PySem.EqMixed.eq_bool_str (bV I q (by simp))
  |_=>exact absurd (show false=true from d) zzL
 |int i =>
  obtain⟨t,rfl⟩:=U;cases y with
  |non=>cases J;exact PySem.EqNone.eq_int_none (bV I q (by simp))
  |int j=>obtain⟨t',rfl⟩:=J;exact eq_int (bV I q Eb)
  |str j=>obtain⟨t',rfl⟩:=J;exact PySem.EqMixed.eq_int_str (bV I q (by simp))
  |_=>exact absurd (show false=true from d) zzL
 |str i =>
  obtain⟨t,rfl⟩:=U;cases y with
  |non=>cases J;exact PySem.EqNone.eq_str_none (bV I q (by simp))
  |bl j=>cases J;exact PySem.EqMixed.eq_str_bool (bV I q (by simp))
  |int j=>obtain⟨t',rfl⟩:=J;exact PySem.EqMixed.eq_str_int (bV I q (by simp))
  |str j=>obtain⟨t',rfl⟩:=J;exact eq_str (bV I q Ec)
  |_=>exact absurd (show false=true from d) zzL
 |byt i =>
  obtain⟨t,rfl⟩:=U;cases y with
  |byt j=>obtain⟨t',rfl⟩:=J;exact PySem.W.eq_bytes (bV I q Ed)
  |_=>exact absurd (show false=true from d) zzL
 |_=>cases y<;>exact absurd (show false=true from d) zzL
theorem GQ:OpR X (compareOp .Lt) (rI0 λi j=>.bl (decide (i<j))):=opB0 λ_ _ _ _ _ _ _ q=>lt_int q
theorem JW:OpR X (compareOp .LtE) (rI0 λi j=>.bl (decide (i<=j))):=opB0 λ_ _ _ _ _ _ _ q=>le_int q
theorem GR:OpR X (compareOp .Gt) (rI0 λi j=>.bl (decide (j<i))):=opB0 λ_ _ _ _ _ _ _ q=>gt_int q
theorem GS:OpR X (compareOp .GtE) (rI0 λi j=>.bl (decide (j<=i))):=opB0 λ_ _ _ _ _ _ _ q=>ge_int q
theorem GT:OpR X (compareOp .Is) (λx y H Q=>y=.non/\Q (.bl (decide (x=.non))) H):=by
 intro pins s σ H x y v u Q I J U h;obtain⟨rfl,q⟩:=h;cases U;refine is_none_gen (bV I q ?_);cases x<;>first
  |(cases J;rfl)
  |(obtain⟨t,rfl⟩:=J;rfl)
theorem Ee:OpR X (compareOp .IsNot) (λx y H Q=>y=.non/\Q (.bl (!decide (x=.non))) H):=by
 intro pins s σ H x y v u Q I J U h;obtain⟨rfl,q⟩:=h;cases U;refine isnot_none_gen (bV I q ?_);cases x<;>first
  |(cases J;rfl)
  |(obtain⟨t,rfl⟩:=J;rfl)
theorem lF(b:bN)(h:op ≠ .In:=by decide)(m:op ≠ .NotIn:=by decide):behindInMarks op b=false:=by
 have d:(op==CmpOp.In)=false:=by cases op<;>first|rfl|exact absurd rfl h
 have l:(op==CmpOp.NotIn)=false:=by cases op<;>first|rfl|exact absurd rfl m
 cases b<;>simp[behindInMarks,d,l]
theorem Ef(z:OpR X (compareOp op) r)(l:PE X a ta)(m:PE X b tb)(n:behindInMarks op b=false):PE X (.Compare a [op] [b] pos) (tOp r ta tb):=by intro pins s σ H Q I h;exact wpAny_Compare1 (binT l m I h λv u C x y d J U Y q=>z pins C σ d x y v u Q J U Y q) n
def JX(t:TE):TT:=λσ H Q=>t σ H λx H'=>∃k,x=.bl k/\Q k H'
theorem jy(G:OpR X (compareOp op) r)(n:PE X a ta)(q:PE X b tb)(C:behindInMarks op b=false):PT X (.Compare a [op] [b] pos) (JX (tOp r ta tb)):=by
 intro pins s σ H Q I h;refine wpAny_isTrue_Compare1 (thnE (n pins s σ H _ I h) λv w x d J i L=>thnE (q pins w σ d _ J L) λu A y l U j T =>
  thn (G pins A σ l x y v u _ U i j T) λc s3 ⟨z,m,Y,p,k,e,g⟩=>?_) C
 subst e;cases p;exact zxw ⟨m,Y,g⟩
def CF(r r':R2)(ta tb tc:TE):TE:=λσ H Q=>ta σ H λx l=>tb σ l λy m=>r x y m λz d=>∃k,z=.bl k /\
 (if k=true then tc σ d λU J=>r' y U J Q else Q (.bl false) d)
theorem AC(w:OpR X (compareOp op) r)(J:OpR X (compareOp op') r')(g:PE X a ta)(i:PE X b tb)(j:PE X c tc)(p:lastMarks [op,op'] [b,c]=false:=by with_unfolding_all rfl):PE X (.Compare a [op,op'] [b,c] pos) (CF r r' ta tb tc):=by
 intro pins s σ H Q I h;refine Compare_chain (thnE (g pins s σ H _ I h) λv s1 x n G N A=>chain_link (thnE (i pins s1 σ n _ G A) λu s2 y q L m E =>
  thn (w pins s2 σ q x y v u _ L N m E) λd s3 ⟨z,l,U,r3,k,e,Y⟩=>?_)) p
 subst e;cases r3;refine zxw ?_;cases k with
 |false=>exact ite_ff ⟨.bl false,l,U,rfl,Y⟩|true=>exact ite_tt (chain_last (thnE (j pins s3 σ l _ U Y) λw' s4 z' C T r4 M=>J pins s4 σ C y z' u w' Q T m r4 M))
theorem tR:(sizeLine:Nat)<2^63:=by  decide
theorem gU{x:V}(r:Vals [x] us):∃u,us=[u]/\RelV x u:=by
 cases r with
 |cons d J=>cases J;exact⟨_,rfl,d⟩
theorem GU{x:V}(r:Vals [x,y] us):∃u J,us=[u,J]/\RelV x u/\RelV y J:=by
 cases r with
 |cons d U =>
  cases U with
  |cons Y l=>cases l;exact⟨_,_,rfl,d,Y⟩
theorem AD:cZ X (.builtin "abs") (λxs H Q=>∃i,xs=[.int i]/\Q (.int (if i<0 then -i else i)) H):=by intro pins s σ H xs us Q I r h;obtain⟨i,rfl,q⟩:=h;obtain⟨u,rfl,t,rfl⟩:=gU r;exact call_abs_int λu tk=>⟨.int (if i<0 then -i else i),H,I.tok _,⟨_,rfl⟩,q⟩
end
structure ObjM(h:Heap)(x dx C:Addr)(mA:Str->Option Value):Prop where
 obj:h.get? x=some (PySem.W.instObj C dx)
 ns:h.Ns1 dx mA
 ne:dx≠x
theorem xw{h:bz}(n:h.Ns1 it mg):∃c,h.get? it=some c/\∀name,PySem.W.lookIn name c=some (mg name):=by
 obtain⟨o,es,ep,m,hd,d,_,l⟩:=n;refine⟨o,m,λname=>?_⟩;have e:=l name;unfold nsFind findBy at e;rw[←Array.find?_toList]at e;unfold PySem.W.lookIn;rw[hd];dsimp only;split
 ·rename_i y q;rw[q]at e;exact congrArg some e
 ·rename_i q;rw[q]at e;have a:es.toList.any (·.refKey)=false:=by
   rw[List.any_eq_false];intro y Y;obtain⟨z,t,J⟩:=d y (Array.mem_toList_iff.mp Y);simp[DictEntry.refKey,J]
  have U:¬es.toList.any (·.refKey)=true:=by rw[a];exact zzL
  rw[zzg U];exact congrArg some e
theorem ObjM.look{h:bz}{x C:bb}(I:ObjM h x a C mg):∃c,PySem.W.InstAt h x (PySem.W.instObj C a) C (some c)/\∀name,PySem.W.lookIn name c=some (mg name) :=
 let ⟨c,ho,hl⟩:=xw I.ns
 ⟨c,⟨I.obj,rfl,rfl,ho⟩,hl⟩
theorem RelO.some_of{o:bo av}(r:RelO (some v) o):∃u,o=some u/\RelV v u:=by
 cases o with
 |none=>exact(show False from r).elim|some u=>exact⟨u,rfl,r⟩
section
variable{H:Hp}{h:bz}{C dx:bb}{fs:ai (Str×V)}
theorem Eg(l:HOk P w H h)(e:H a=some (.ins C dx fs)):∃c,ObjM h a dx C c/\(∀f,RelO (fs.lookup f) (c f))/\PySem.Within c (fs.map (·.1))/\fs.length<=1000/\H dx=some (.own a):=by obtain⟨d,z,ne,m,c,n,r,q⟩:=(show ObjOk P w H h a (.ins C dx fs) from l a _ e);exact⟨c,⟨m,n,ne⟩,r,q,z,d⟩
end
structure Cls(K:zvi)(C:Addr):Prop where
 pg:PySem.W.plainGet K C Str.empty=true
 hd:PySem.W.hasDictIn K C=true
 po:PySem.W.plainOver K C=true
 sa:PySem.W.findIn K (.ref C) "__setattr__" = some (some (.builtin "object.__setattr__"))
theorem Cls.get{K:zvi}{C:bb}(c:Cls K C)(f:Str):PySem.W.plainGet K C f=true:=c.pg
section
variable{X:Cx}{σ:St}{H:Hp}{A:Around}{Q:av->bd->Prop}{c:av}{b:Bool}
inductive TyOf(K:zvi)(H:Hp):V->Value->Prop where
 | non:TyOf K H .non (.type "NoneType")
 | bl (x:Bool):TyOf K H (.bl x) (.type "bool")
 | int (i:Int):TyOf K H (.int i) (.type "int")
 | str (x:Str):TyOf K H (.str x) (.type "str")
 | flt (x:UInt64):TyOf K H (.flt x) (.type "float")
 | lst {a:Addr} {xs:List V} (e:H a=some (.lst xs)):TyOf K H (.ref a) (.type "list")
 | frz {a:Addr} {o:Obj} {xs:List V} (e:H a=some (.frz o (.lst xs))):TyOf K H (.ref a) (.type "list")
 | tup {a:Addr} {xs:List V} (e:H a=some (.tup xs)):TyOf K H (.ref a) (.type "tuple")
 | dK {a:Addr} {kvs:List (Key×V)} (e:H a=some (.dK kvs)):TyOf K H (.ref a) (.type "dict")
 | dT {a:Addr} {kvs:List (List Key×V)} (e:H a=some (.dT kvs)):TyOf K H (.ref a) (.type "dict")
 | ins {a C dx:Addr} {fs:List (Str×V)} (e:H a=some (.ins C dx fs)) (cl:Cls K C) (ha:PySem.W.findIn K (.ref C) "__class__" = some (some (.builtin "object.__class__")))
   (hn:PySem.W.specialIn K (.builtin "object.__class__") "__get__" = some (some (.builtin "getset_descriptor.__get__"))) (htk:PySem.W.takesIn K (.builtin "object.__class__")=some true)
   (hm:PySem.W.mroIn K C (.type "object")=some true):TyOf K H (.ref a) (.ref C)
theorem xx{x:V}{t:av}(I:Inv X pins σ H s)(U:RelV x u)(ty:TyOf X.K H x t)(e:PySem.W.kitOne X.K t c=some b)(h:∀tk,Q (.bool b) {s with toks:=tk}) :
  wpAny (model X.prog X.w) A (call (.builtin "isinstance") [u,c]) Q E s:=by
 cases ty with
 |non=>cases (show u=Value.none from U);exact zyI PySem.W.kitx_none I.kIn True.intro e (λz=>nomatch z) h
 |bl y=>cases (show u=Value.bool y from U);exact zyI PySem.W.kitx_bool I.kIn True.intro e (λz=>nomatch z) h
 |int i=>obtain⟨t,q⟩:=(show ∃t,u=Value.int i t from U);cases q;exact zyI PySem.W.kitx_int I.kIn True.intro e (λz=>nomatch z) h
 |str y=>obtain⟨t,q⟩:=(show ∃t,u=Value.str y t from U);cases q;exact zyI PySem.W.kitx_str I.kIn True.intro e (λz=>nomatch z) h
 |flt y=>obtain⟨t,q⟩:=(show ∃t,u=Value.float y t from U);cases q;exact zyI PySem.W.kitx_float I.kIn True.intro e (λz=>nomatch z) h
 |@lst a G d =>
  cases (show u=Value.ref a from U);obtain⟨_,_,n,_,l⟩:=(show ObjOk X.prog X.w H s.heap a (.lst G) from I.hok a _ d);exact zyI zwp I.kIn ⟨_,l,rfl⟩ e (λz=>nomatch z) h
 |@frz a r G d =>
  cases (show u=Value.ref a from U);obtain⟨_,_,_,n,_,l⟩:=(show ObjOk X.prog X.w H s.heap a (.frz r (.lst G)) from I.hok a _ d);exact zyI zwp I.kIn ⟨_,l,rfl⟩ e (λz=>nomatch z) h
 |@tup a G d =>
  cases (show u=Value.ref a from U);obtain⟨_,_,_,p⟩:=(show ObjOk X.prog X.w H s.heap a (.tup G) from I.hok a _ d);obtain⟨o,l,L,_⟩:=p;exact zyI PySem.W.kitx_tuple I.kIn ⟨o,l,L⟩ e (λz=>nomatch z) h
 |@dK a m d =>
  cases (show u=Value.ref a from U);obtain⟨_,_,vs,_,p⟩:=(show ObjOk X.prog X.w H s.heap a (.dK m) from I.hok a _ d);obtain⟨o,es,Y,l,L,_⟩:=p;exact zyI zwq I.kIn ⟨o,l,L.1⟩ e (λz=>nomatch z) h
 |@dT a m d =>
  cases (show u=Value.ref a from U);obtain⟨_,_,G,_,o,es,Y,l,L,_⟩:=(show ObjOk X.prog X.w H s.heap a (.dT m) from I.hok a _ d);exact zyI zwq I.kIn ⟨o,l,L.1⟩ e (λz=>nomatch z) h
 |@ins a C dx fs d cl g k T j =>
  cases (show u=Value.ref a from U);obtain⟨mA,O,_⟩:=Eg I.hok d;obtain⟨od,J,_⟩:=O.look;exact zyI (PySem.W.kitx_own (cl.get _) cl.hd g k T j) I.kIn J e (λz=>nomatch z) h
end
structure Room(k:Nat)(A:Around):Prop where
 hd:A.handled=none
 dp:A.depth+3*k+5<recursionLimit
 un:A.units+16*k+200<cLine
theorem Room.mono{k:Nat}(r:Room k A)(h:i<=k):Room i A:=⟨r.hd,by have:=r.dp;lia,by have:=r.un;lia⟩
theorem Room.deeper{k:Nat}{A:Around}(r:Room (k+1) A)(c:Env):Room k (A.deeper c) :=
 ⟨r.hd,by have:=r.dp;show A.depth+1+3*k+5<_;lia,by have:=r.un;show A.units+3+16*k+200<_;lia⟩
theorem Room.in1{k:Nat}{A:Around}(r:Room (k+1) A):Room k A.in1 :=
 ⟨r.hd,by have:=r.dp;show A.depth+3*k+5<_;lia,by have:=r.un;show A.units+1+16*k+200<_;lia⟩
theorem Room.depth{k:Nat}{A:Around}(r:Room k A):A.depth<recursionLimit:=by have:=r.dp;lia
theorem Room.units{k:Nat}{A:Around}(r:Room k A):A.units+64<cLine:=by have:=r.un;lia
def tNil:TA:=λ_ H Q=>Q [] H
def Eh(ta:TE)(tr:TA):TA:=λσ H Q=>ta σ H λx c=>tr σ c λl d=>Q (x::l) d
section
variable{X:Cx}{te:TE}{t:TA}
theorem cJ:PA X [] tNil:=λ_ _ _ _ H Q I h=>Calls.spliced_nil ⟨[],H,I,.nil,h⟩
theorem bh(l:PE X e te)(Y:PA X es t)(m:starEach (e::es) X.env=(false,eval e X.env)::starEach es X.env:=by rfl):PA X (e::es) (Eh te t):=by intro pos pins s σ H Q I h;rw[m];refine Calls.spliced_cons (thn (l pins s σ H _ I h) λu L n=>?_);obtain⟨x,c,J,C,q⟩:=n;exact thnE (Y pos pins L σ c _ J q) λus s2 T d U G z=>⟨x::T,d,U,.cons C G,z⟩
def tTup(t:TA):TE:=λσ H Q=>t σ H λd c=>d.length<=sizeLine/\∀p,c p=none->Q (.ref p) (upd c p (.tup d))
def tLst(t:TA):TE:=λσ H Q=>t σ H λd c=>d.length<=sizeLine/\∀p,c p=none->Q (.ref p) (upd c p (.lst d))
theorem GV{x1}(h:PA X es t):PE X (.Tuple es x1 pos) (tTup t):=by intro pins s σ H Q I U;refine wpAny_Tuple_spliced (thn (h pos pins s σ H _ I U) λus c ⟨m,d,J,r,z,q⟩=>⟨by rw[←r.length];exact z,?_⟩);have l:d c.heap.objs.size=none:=J.hok.fresh (zzn _);refine⟨.ref c.heap.objs.size,upd d c.heap.objs.size (.tup m),J.laid (λb u e=>zzj _ e) (zzn _) ?_,rfl,q _ l⟩;exact⟨⟨z,.inl ⟨_,zzw _ rfl,rfl⟩⟩,us,r,⟨_,zzw _ rfl,rfl,_,rfl⟩⟩
theorem xy(h:PA X es t):PE X (.List es pos) (tLst t):=by intro pins s σ H Q I U;refine wpAny_List_spliced (thn (h pos pins s σ H _ I U) λus c ⟨m,d,J,r,z,q⟩=>⟨by rw[←r.length];exact z,?_⟩);have l:d c.heap.objs.size=none:=J.hok.fresh (zzn _);refine⟨.ref c.heap.objs.size,upd d c.heap.objs.size (.lst m),J.laid (λb u e=>zzj _ e) (zzn _) ?_,rfl,q _ l⟩;exact⟨z,us,0,r,zzw _ rfl⟩
end
abbrev Sp:=ai V->Hp->VK->XK->Prop
variable{sp sp':Sp}
abbrev CXT:=ai Env->Hp->bd->XK->av->bd->Prop
variable{CX:CXT}
structure Env0(P:Program)(w:World)(K:zvi)(mg:Str->Option Value)(base:Heap)(A:Around)(outer:List Env)(s:Shared)(H:Hp):Prop where
 frames:A.frames=some outer
 mod:Mod K mg base
 bs:∀b o,base.get? b=some o->s.heap.get? b=some o/\H b=none
 bsz:base.objs.size <= s.heap.objs.size
 funs:s.heap.FunFrames base outer
 frf:∀b∈frs outer,H b=none
 hok:HOk P w H s.heap
 bare:AllBare s.gens
def CE(outer:ai Env)(P:bP)(w:World)(H:Hp)(s:bd)(Q:VK)(u:av)(s':bd):Prop :=
 ∃v H',s'.os=s.os/\AllBare s'.gens/\Un (frs outer) [] H H' s.heap s'.heap/\HOk P w H' s'.heap/\RelV v u/\Q v H'
def CR(CX:CXT)(outer:ai Env)(P:bP)(w:World)(H:Hp)(s:bd)(Q:VK)(E:XK)(r:Result)(s':bd):Prop :=
 match r with
 |.ok (.ret u)=>CE outer P w H s Q u s'|.ok _=>False|.error e=>CX outer H s E e s'
structure FnOk(P:Program)(w:World)(K:zvi)(mg:Str->Option Value)(base:Heap)(CX:CXT)(k:Nat)(f:Addr)(fd:FuncData)(ps:List Str)(sp:Sp):Prop where
 len:∀vs H Q E,sp vs H Q E->vs.length=ps.length
 run:∀(A:Around) (outer:List Env) (s:Shared) (H:Hp) (args:Args) (us:List Value) (vs:List V) (Q:VK) (E:XK),Room k A->Env0 P w K mg base A outer s H->BindsTo s fd args (ps.zip us)->Vals vs us->sp vs H Q E ->
  codeAny (model P w) A (.call (.ref f) args) (CR CX outer P w H s Q E) s
theorem FnOk.imp{P:bP}{K:zvi}{base:bz}{k:Nat}{f:bb}{fd:bp}(F:FnOk P w K mg base CX k f fd ps sp)(h:∀d H Q E,sp' d H Q E->sp d H Q E):FnOk P w K mg base CX k f fd ps sp' :=
 ⟨λd H Q E q=>F.len d H Q E (h _ _ _ _ q),λA c s H args us d Q E J m l U n=>F.run A c s H args us d Q E J m l U (h _ _ _ _ n)⟩
section
variable{X:Cx}{σ:St}{H:Hp}{s':bd}
theorem Inv.env0(I:Inv X pins σ H s):Env0 X.prog X.w X.K X.mg X.base X.A X.stack s H :=
 ⟨I.ok.frames,I.ok.mod,I.bs,zzo I.ok.bsz I.sz,I.stack,I.stkFree,I.hok,I.bare⟩
theorem Inv.after{Q:VK}(I:Inv X pins σ H s)(h:CE X.stack X.prog X.w H s Q u s'):EP X pins σ Q u s':=by obtain⟨v,H',os,bare,un,c,r,q⟩:=h;obtain⟨hh,g,d,t,J⟩:=s';obtain rfl:J=s.os:=os;exact⟨v,H',I.call un c bare (λb z=>absurd z (by simp)),r,q⟩
end
def GW(sp:Sp)(dvs:ai V)(E:XK)(t:TA):TE:=λσ H Q=>t σ H λd c=>sp (d++dvs) c Q E
def Binds(K:zvi)(fd:bp)(ps:ai Str)(ds:ai av):Prop :=
 ∀(s:bd) (us:ai av),K.In s.heap->(us++ds).length=ps.length->BindsTo s fd ⟨us,[]⟩ (ps.zip (us++ds))
theorem Binds.all{K:zvi}{fd:bp}(h:∀us:ai av,us.length=ps.length->bindArgs fd ⟨us,[]⟩=pure (ps.zip us)):Binds K fd ps []:=λs us _ J=>by rw[zyb]at J ⊢;exact .of_eq (h us J)
def xz(CX:CXT)(X:Cx)(E:XK):Prop:=∀(pins:ai (bb×Obj)) (σ:St) (H:Hp) (s:bd) (e:av) (s':bd),Inv X pins σ H s->CX X.stack H s E e s'->X.xe e s'
section
variable{X:Cx}{CX:CXT}{k:Nat}{f:bb}{fd:bp}{ps:ai Str}{sp:Sp}{dvs:ai V}{ds:ai av}{E:XK}{t:TA}
theorem GX{Q:VK}{c:ai V}(F:FnOk X.prog X.w X.K X.mg X.base CX k f fd ps sp)(m:Room k X.A)(d:Binds X.K fd ps ds)(hd:Vals dvs ds)(n:xz CX X E)(I:Inv X pl σ H s)(r:Vals c us)(h:sp (c++dvs) H Q E):wpAny (model X.prog X.w) X.A (call (.ref f) us) (EP X pl σ Q) X.xe s:=by
 have U:Vals (c++dvs) (us++ds):=r.append hd;have l:(us++ds).length=ps.length:=by rw[←U.length];exact F.len _ _ _ _ h
 refine wpAny_call (zwh (F.run X.A X.stack s H ⟨us,[]⟩ (us++ds) (c++dvs) Q E m I.env0 (d s us I.kIn l) U h) λr s' J=>?_);cases r with
 |error e=>exact n pl σ H s e s' I J|ok Y =>
  cases Y with
  |ret u=>exact I.after J|next=>exact False.elim J|brk=>exact False.elim J|cont=>exact False.elim J
theorem mK(F:FnOk X.prog X.w X.K X.mg X.base CX k f fd ps sp)(z:Room k X.A)(l:Gl X x)(n:X.mg x=some (.ref f))(m:PySem.W.keepIn X.K (.ref f)=true)(d:Binds X.K fd ps ds)(hd:Vals dvs ds)(C:xz CX X E)
  (c:PA X (e::es) t) (J:(x==("__debug__" : Str))=false:=by decide) (he:starEach (e::es) X.env=(false,eval e X.env)::starEach es X.env:=by rfl) (U:(backTo pos (starEach es X.env)).any (·.1)=false:=by rfl) :
  PE X (.Call (.Name x p) (e::es) [] pos) (GW sp dvs E t):=by
 intro pins s σ H Q I h;refine zxI (xo I l n ?_ J);refine PySem.W.callWith_K I.ok.mod.kin m (thnE (c pos pins s σ H _ I h) λus s1 vs H1 Y r q=>⟨Y.kIn,?_⟩) he U;exact GX F z d hd C Y r q
end
def PK(X:Cx)(kws:ai Keyword)(t:TA):Prop :=
 ∀(pos:Pos) (pins:ai (bb×Obj)) (s:bd) (σ:St) (H:Hp) (Q:ai V->Hp->Prop),Inv X pins σ H s->t σ H Q->wpAny (model X.prog X.w) X.A (evalAll ((backToKw pos (keywordEach kws X.env)).map (·.2))) (AP X pins σ Q) X.xe s
section
variable{X:Cx}{kpos:Pos}{kws:ai Keyword}{te:TE}{t:TA}{nm:bo Str}
theorem GY:PK X [] tNil:=λ_ _ _ _ H Q I h=>wpAny_evalAll_nil ⟨[],H,I,.nil,h⟩
theorem Ei(l:PE X e te)(Y:PK X kws t):PK X (⟨nm,e,kpos⟩::kws) (Eh te t):=by intro pos pins s σ H Q I h;show wpAny _ _ (evalAll ((do let v ←eval e X.env;standAt pos;pure v)::(backToKw pos (keywordEach kws X.env)).map (·.2))) _ _ s;refine wpAny_evalAll_cons (zzb (thnE (l pins s σ H _ I h) λu C x c J q m=>zzb (zwy (zzq ?_))));exact thnE (Y pos pins C σ c _ J m) λus s2 G d U z n=>⟨x::G,d,U,.cons q z,n⟩
end
structure FnScope(N P:List Str)(sc:Scope):Prop where
 kind:sc.kind=.function
 co:sc.isCoroutine=false
 gen:sc.isGenerator=false
 nd:N.Nodup
 pre:N.take P.length=P
 par:∀x∈P,sc.names.lookup x=some .local∨sc.names.lookup x=some .cell
 nofree:∀y∈sc.names,y.2 ≠ .free
theorem oQ{kindOf:Str->bo NameKind}{x:Str}:∀{binds:ai (Str×av)} {m:Str->bo av},(∀v,(x,v)∉binds)->bindL kindOf binds m x=m x
 |[],_,_=>rfl|(n,v)::r,m,h=>by
  unfold bindL;rw[oQ λw c=>h w (zzf _ c)];split
  ·have:x≠n:=by rintro rfl;exact h v zzd
   simp[this]
  ·rfl
theorem oR{kindOf:Str->bo NameKind}{x:Str}:∀{binds:ai (Str×av)} {m:Str->bo av},(∀v,(x,v)∉binds)->bindC kindOf binds m x=m x
 |[],_,_=>rfl|(n,v)::r,m,h=>by
  unfold bindC;rw[oR λw c=>h w (zzf _ c)];split
  ·rfl
  ·have:x≠n:=by rintro rfl;exact h v zzd
   simp[this]
theorem oT{kindOf:Str->bo NameKind}{x:Str}{v:av}:∀{P:ai Str} {c:ai av} {i:Nat} {m:Str->bo av},P.Nodup->P[i]?=some x->c[i]?=some v->kindOf x=some .local ->
  bindL kindOf (P.zip c) m x=some v
 |[],_,_,_,_,h,_,_=>by simp at h
 |_::_,[],_,_,_,_,h,_=>by simp at h
 |p::P,w::c,0,m,q,d,l,n=>by simp at d l;subst d;subst l;show bindL kindOf ((p,w)::P.zip c) m p=_;unfold bindL;rw[oQ λv J=>(zyl.mp q).1 (List.of_mem_zip J).1,zzi n];simp
 |p::P,w::c,i+1,m,q,d,l,n=>by unfold bindL;exact oT (zyl.mp q).2 (by simpa using d) (by simpa using l) n
theorem oU{kindOf:Str->bo NameKind}{x:Str}{v:av}:∀{P:ai Str} {c:ai av} {i:Nat} {m:Str->bo av},P.Nodup->P[i]?=some x->c[i]?=some v->kindOf x≠some .local ->
  bindC kindOf (P.zip c) m x=some v
 |[],_,_,_,_,h,_,_=>by simp at h
 |_::_,[],_,_,_,_,h,_=>by simp at h
 |p::P,w::c,0,m,q,d,l,n=>by simp at d l;subst d;subst l;show bindC kindOf ((p,w)::P.zip c) m p=_;unfold bindC;rw[oR λv J=>(zyl.mp q).1 (List.of_mem_zip J).1,zzg n];simp
 |p::P,w::c,i+1,m,q,d,l,n=>by unfold bindC;exact oU (zyl.mp q).2 (by simpa using d) (by simpa using l) n
def start(N:ai Str)(vs:ai V):St:=vs.map some++List.replicate (N.length - vs.length) none
def cxOf(CX:CXT)(P:bP)(w:World)(K:zvi)(mg:Str->bo av)(base:bz)(N:ai Str)(qual:Str)(scope:Scope)(f:bb)(cd:av)(A:Around)(outer:ai Env)(s:bd)(H:Hp)(E:XK):Cx where
 prog:=P
 w:=w
 K:=K
 mg:=mg
 base:=base
 A:=A.deeper (envOfC qual scope s.heap.objs.size f cd)
 N:=N
 s₀:=s
 H₀:=H
 env:=envOfC qual scope s.heap.objs.size f cd
 outer:=outer
 stack:=envOfC qual scope s.heap.objs.size f cd::outer
 ex:=[]
 calm:=true
 fn:=λ_=>true
 pn:=[]
 xe:=λe s'=>wpAny (model P w) (A.deeper (envOfC qual scope s.heap.objs.size f cd)) (leaving (envOfC qual scope s.heap.objs.size f cd) e) (λ_ J=>CX outer H s E e J) (λU J=>CX outer H s E U J) s'
theorem tS{n:Nat}(h:sc.names.lookup x=some .cell):∃c,(cellsFrom n sc.names []).lookup x=some c:=by have q:=PySem.W.cellsFrom_some sc.names n [] (.inl h);exact Option.isSome_iff_exists.mp q
theorem xA{P:bP}{K:zvi}{base:bz}{f:bb}{d:ai Env}{E:XK}{m:ai V}(S:FnScope N ps sc)(hd:A.handled=none)(J:Env0 P w K mg base A d s H)(hl:m.length=ps.length)(r:Vals m us)(x:InCallC s s.heap.objs.size (bindL (envOfC j sc s.heap.objs.size f cd).kindOf (ps.zip us) λ_=>none) (cellsFrom (s.heap.objs.size+1) sc.names []) (bindC (envOfC j sc s.heap.objs.size f cd).kindOf (ps.zip us) λ_=>none) s') :
  Inv (cxOf CX P w K mg base N j sc f cd A d s H E) [] (start N m) H s':=by
 have hpl:ps.length<=N.length:=by have:=congrArg List.length S.pre;rw[zyK]at this;lia
 obtain⟨C,tk,rfl,I⟩:=x.done;have Y:∀b:bb,b∉(cxOf CX P w K mg base N j sc f cd A d s H E).ex:=λb z=>absurd (show b∈([]:ai bb) from z) (by simp);refine⟨⟨J.mod,S.kind,rfl,rfl,zzn _,λy z c C l=>?_,λy U=>?_,λy c _ h=>?_,λ_=>hd,Around.frames_deeper J.frames,.inr ⟨rfl,rfl⟩,λb z=>absurd z (Y b),J.bs,J.bsz,λb _ _=>Y b,λb z=>absurd z (Y b),J.funs,J.frf⟩,
  rfl,J.bare,Un.kept I,⟨_,x.toInCall.ns,λi y v C l h3=>?_⟩,λy c h=>⟨_,x.cell y c h⟩,J.hok.fresh (zzn _),λy c h=>?_,λp n=>absurd (show p∈([]:ai (bb×Obj)) from n) (by simp),J.hok.kept I,?_⟩
 ·exact name_of_addr x.apart (zzV C) (zzV l)
 ·have U:sc.names.lookup y=some .cell∨sc.names.lookup y=some .free:=U;rcases U with U|U
  ·exact tS U
  ·exact absurd rfl (S.nofree _ (zzV U))
 ·exact Nat.le_of_lt (x.above y c (zzV h))
 ·have hi:i<m.length:=by
   unfold start at l;by_cases hi:i<m.length
   ·exact hi
   ·rw[zzM (by simpa using hi)]at l;rw[List.getElem?_replicate]at l;split at l<;>cases l
  have T:m[i]?=some v:=by
   unfold start at l;rw[zys (by simpa using hi),zzl]at l;cases e:m[i]? with
   |none=>rw[e]at l;cases l
   |some a=>rw[e]at l;cases l;rfl
  obtain⟨u,L,g⟩:=r.get T;have n:ps[i]?=some y:=by rw[←S.pre,List.getElem?_take_of_lt (by lia)];exact C
  have G:ps.Nodup:=by rw[←S.pre];exact S.nd.sublist (List.take_sublist _ _)
  refine⟨u,g,?_⟩;rcases S.par y (zzD n) with k|k
  ·exact .inl ⟨k,oT G n L k⟩
  ·obtain⟨c,e⟩:=tS k;refine .inr ⟨.inl k,c,e,?_⟩;have q:=x.cell y c e;rw[oU G n L (by show sc.names.lookup y≠_;rw[k];decide)]at q;exact q
 ·exact J.hok.fresh (Nat.le_of_lt (x.above y c (zzV h)))
 ·unfold start;show _=N.length;rw[zzm,zza,zwB];lia
theorem Ej{P:bP}{K:zvi}{base:bz}{k:Nat}{f:bb}{d:Str}{m:Arguments}{body:ai Stmt}{doc l ct oc:av}{an od:bo bb}{a:Array (bo av)}(lk:K.lookup f=some ⟨oc,od,.func (PySem.W.fnOf j d m body sc dV cd doc pm an l ct),a⟩)(M:PySem.W.codeIn K l d=true)(S:FnScope N ps sc)(len:∀z H Q E,sp z H Q E->z.length=ps.length)(U:∀(A:Around) (c:ai Env) (s:bd) (H:Hp) (z:ai V) (Q:VK) (E:XK),Room k (A.deeper (envOfC d sc s.heap.objs.size f l))->sp z H Q E ->
   ∃t,PSs (cxOf CX P w K mg base N d sc f l A c s H E) body t/\t {nx:=λ_ H'=>Q .non H',rt:=Q} (start N z) H) :
  FnOk P w K mg base CX (k+1) f (PySem.W.fnOf j d m body sc dV cd doc pm an l ct) ps sp:=by
 refine⟨len,λA c s H args us z Q E T L hb r p=>?_⟩;have hl:=len _ _ _ _ p;have i:K.In s.heap:=L.mod.kin.keeps λb o e=>(L.bs b o e).1;have a5:s.heap.NoLimit:=L.mod.nolimit.keeps λb o e=>(L.bs b o e).1;have Y:∀y∈ps.zip us,sc.names.lookup y.1=some .local∨(sc.names.lookup y.1=some .cell/\((cellsFrom (s.heap.objs.size+1) sc.names []).lookup y.1).isSome=true):=λ⟨n,v⟩ hy=>by
  rcases S.par n (List.of_mem_zip hy).1 with q|q
  ·exact .inl q
  ·exact .inr ⟨q,PySem.W.cellsFrom_some _ _ _ (.inl q)⟩
 refine codeAny_call_function T.depth (i _ _ lk) rfl S.co S.gen rfl (PySem.W.codeRec_of i M) (hb _ _ _ _ ?_);refine wpAny_newFunctionEnv_cells S.kind Y λenv he s1 x=>?_;subst he;refine⟨a5.keeps x.toInCall.keep,codeAny_func ?_⟩;obtain⟨t,ht,hq⟩:=U A c s H z Q E (T.deeper _) p;have I:Inv (cxOf CX P w K mg base N d sc f l A c s H E) [] (start N z) H s1:=xA S T.hd L hl r x;refine zxq (ht [] s1 (start N z) H _ I hq) (λfl s' G=>?_) λe s' G=>G;have fin:∀{C:St} {H':Hp} {v:V} {u:av},Inv (cxOf CX P w K mg base N d sc f l A c s H E) [] C H' s'->RelV v u->Q v H'->CE c P w H s Q u s' :=
  λ{C H' v u} J g q=>⟨v,H',J.os,J.bare,J.base,J.hok,g,q⟩
 cases fl with
 |ret u =>
  obtain⟨v,C,H',J,g,q⟩:=G;exact fin J g q
 |next =>
  obtain⟨C,H',J,q⟩:=G;exact fin (v:=V.non) J rfl q
 |brk =>
  obtain⟨_,_,_,q⟩:=G;exact False.elim q
 |cont =>
  obtain⟨_,_,_,q⟩:=G;exact False.elim q
section
variable{X:Cx}{t:TA}{id T:String}{r:ai V->Hp->VK->Prop}
def tCB(r:ai V->Hp->VK->Prop)(t:TA):TE:=λσ H Q=>t σ H λd c=>r d c Q
theorem gb(l:cZ X (.builtin id) r)(m:Gl X x)(n:X.mg x=none)(z:bootBuiltins x=some (.builtin id))(d:PA X (e::es) t)(q:x ≠ "__name__":=by decide)(J:(x==("__debug__" : Str))=false:=by decide)
  (he:starEach (e::es) X.env=(false,eval e X.env)::starEach es X.env:=by rfl) (U:(backTo pos (starEach es X.env)).any (·.1)=false:=by rfl):PE X (.Call (.Name x p) (e::es) [] pos) (tCB r t):=by
 intro pins s σ H Q I h;refine zxI (eY I m n z ?_ q J);exact PyProof.Rows.callWith_builtin1 (thnE (d pos pins s σ H _ I h) λus L a c Y G C=>l pins L σ c a us Q Y G C) he U
theorem jz(l:cZ X (.type T) r)(m:Gl X x)(n:X.mg x=none)(z:bootBuiltins x=some (.type T))(d:PA X (e::es) t)(q:x ≠ "__name__":=by decide)(J:(x==("__debug__" : Str))=false:=by decide)
  (he:starEach (e::es) X.env=(false,eval e X.env)::starEach es X.env:=by rfl) (U:(backTo pos (starEach es X.env)).any (·.1)=false:=by rfl):PE X (.Call (.Name x p) (e::es) [] pos) (tCB r t):=by
 intro pins s σ H Q I h;refine zxI (eY I m n z ?_ q J);exact PyProof.Rows.callWith_type1 (thnE (d pos pins s σ H _ I h) λus L a c Y G C=>l pins L σ c a us Q Y G C) he U
end
end L2
namespace HT
open PySem PyProof.Rows
variable{b sl:bb}{hi:bo Int}{vl vu:av}
section
variable{prog:bP}{w:World}{A:Around}{E:av->bd->Prop}{s:bd}
theorem cat_tup{t:bb}{vs a:ai av}{Q:av->bd->Prop}(v:IsTup s.heap t vs.toArray)(r:IsTup s.heap b a.toArray)(i:vs≠[])(p:a=[]->Q (.ref t) s)(q:a≠[]->Q (.ref s.heap.objs.size) {s with heap:=s.heap.push {cls:=.type "tuple",data:=.seq (vs++a).toArray} })(m:vs.length+a.length<=sizeLine):wpAny (model prog w) A (binaryOp .Add (.ref t) (.ref b)) Q E s:=by
 obtain⟨⟨cls,g,data,sl⟩,c,u,n,hd⟩:=id v;obtain⟨⟨cls2,U,data2,Y⟩,J,k,j,l⟩:=id r;subst u hd k l;have e:vs.toArray++a.toArray=(vs++a).toArray:=by simp
 by_cases d:a=[]
 ·exact concat_meets ⟨_,c,rfl⟩ ⟨_,J,rfl⟩ noFill_tuple_add seq_tuple_add zwu zwn (zwi _ _)
   (tuple_addW1 t b vs.toArray a.toArray n j g U sl Y (by simpa using i) (by simp[d])) ⟨c,J,p d⟩
 ·refine concat_meets ⟨_,c,rfl⟩ ⟨_,J,rfl⟩ noFill_tuple_add seq_tuple_add zwu zwn (zwi _ _)
   (tuple_addW2 t b vs.toArray a.toArray n j g U sl Y (by simpa using i) (by simpa using d) (by rw[zzA,zzA];exact m)) ⟨c,J,?_⟩
  rw[e];exact q d
def sIx(n d:Nat):bo Int->Nat
 |none=>d|some v=>if v<0 then(v+(n:Int)).toNat else min v.toNat n
theorem sIx_none(n d:Nat):sIx n d none=d:=rfl
theorem sIx_nat(n d k:Nat):sIx n d (some (k:Int))=min k n:=by show (if (k:Int)<0 then((k:Int)+(n:Int)).toNat else min (k:Int).toNat n)=min k n;rw[zzg (by lia),zzG]
theorem GZ(n d:Nat)(hd:d<=n)(o:bo Int):sIx n d o<=n:=by
 cases o with
 |none=>exact hd|some v =>
  show (if v<0 then(v+(n:Int)).toNat else min v.toNat n)<=n;by_cases J:v<0
  ·rw[zzi J];lia
  ·rw[zzg J];exact Nat.min_le_right _ _
theorem xB(v:Int)(n d:Nat):(if v<0 then max (v+(n:Int)) 0 else min v (n:Int))=((sIx n d (some v):Nat):Int):=by
 show (if v<0 then max (v+(n:Int)) 0 else min v (n:Int))=(((if v<0 then(v+(n:Int)).toNat else min v.toNat n):Nat):Int);by_cases J:v<0
 ·simp only[zzi J];lia
 ·simp only[zzg J];lia
theorem vK(lo hi:bo Int)(n:Nat):Builtin.Slice.sliceAdjust lo hi 1 (n:Int)=(((sIx n 0 lo:Nat):Int),((sIx n n hi:Nat):Int)):=by
 have a:¬((1:Int)<0):=by lia
 unfold Builtin.Slice.sliceAdjust;simp only[a,zxB];refine Prod.ext ?_ ?_
 ·cases lo with
  |none=>rfl|some v=>exact xB v n 0
 ·cases hi with
  |none=>rfl|some v=>exact xB v n n
theorem vL(i j:Nat):Builtin.Slice.slicePlaces (i:Int) (j:Int) 1=j - i:=by
 unfold Builtin.Slice.slicePlaces;have a:(1:Int)>0:=by lia
 simp only[a,zwC,Int.ediv_one];split<;>lia
theorem lG{v:av}{o:bo Int}{Q:bo Int->bd->Prop}(p:IsPart v o)(h:Q o s):wpAny (model prog w) A (Builtin.Slice.slicePartIndex v) Q E s:=by
 cases p with
 |none=>exact slicePart_none h|int i t=>exact slicePart_int h
theorem sliceApplied_gen{lo:bo Int}{n:Nat}{Q:Int×Int×Nat->bd->Prop}(a:s.heap.IsSliceOf sl vl vu .none)(c:IsPart vl lo)(Y:IsPart vu hi)(h:Q (((sIx n 0 lo:Nat):Int),1,sIx n n hi - sIx n 0 lo) s):wpAny (model prog w) A (Builtin.Slice.sliceApplied (.ref sl) (pure (n:Int))) Q E s:=by obtain⟨os,U,hcs,J⟩:=id a;unfold Builtin.Slice.sliceApplied Builtin.Slice.sliceFields;refine zzb (zzb (zyW U J rfl (zzb (zyW U J rfl (zzb (zyW U J rfl (zzq ?_)))))));refine zzb (slicePart_none ?_);show wpAny _ _ (if ((1:Int)==0)=true then _ else _) _ _ s;rw[zzg (by decide)];refine zzb (lG c (zzb (lG Y (zzb (zzq ?_)))));show wpAny _ _ (match Builtin.Slice.sliceAdjust lo hi 1 (n:Int) with|(lo,hi)=>pure (lo,(1:Int),Builtin.Slice.slicePlaces lo hi 1)) _ _ s;rw[vK lo hi n];show wpAny _ _ (pure (((sIx n 0 lo:Nat):Int),(1:Int),Builtin.Slice.slicePlaces ((sIx n 0 lo:Nat):Int) ((sIx n n hi:Nat):Int) 1)) _ _ s;rw[vL];exact zzq h
theorem AE(xs:Array av)(i k:Nat):((List.range k).filterMap λ(m:Nat)=>xs[((i:Int)+(m:Int)*1).toNat]?).toArray=((xs.toList.drop i).take k).toArray:=by
 have e:(λ(m:Nat)=>xs[((i:Int)+(m:Int)*1).toNat]?)=λm=>xs[i+m]?:=by
  funext m;have:((i:Int)+(m:Int)*1).toNat=i+m:=by lia
  rw[this]
 rw[e];have:=pick_run xs i k;rw[List.filterMap_map]at this;have a:((λx=>xs[x]?) ∘ λx=>i+x)=λm=>xs[i+m]?:=rfl;rw[a]at this;rw[this]
theorem getItem_tuple_cut{t:bb}{items:Array av}{lo:bo Int}{Q:av->bd->Prop}(U:IsTup s.heap t items)(a:s.heap.IsSliceOf sl vl vu .none)(g:IsPart vl lo)(i:IsPart vu hi)(hw:¬(sIx items.size 0 lo=0/\sIx items.size items.size hi=items.size))(h:Q (.ref s.heap.objs.size) {s with heap:=s.heap.push {cls:=.type "tuple",data:=.seq ((items.toList.drop (sIx items.size 0 lo)).take (sIx items.size items.size hi - sIx items.size 0 lo)).toArray} })(hsz:items.size<=sizeLine):wpAny (model prog w) A (getItem (.ref t) (.ref sl)) Q E s:=by
 have J:sizeOk (.seq ((items.toList.drop (sIx items.size 0 lo)).take (sIx items.size items.size hi - sIx items.size 0 lo)).toArray):=by show ((items.toList.drop (sIx items.size 0 lo)).take (sIx items.size items.size hi - sIx items.size 0 lo)).toArray.size<=sizeLine;rw[zzA,zyK,zxC,zyx];lia
 have hj:sIx items.size items.size hi<=items.size:=GZ _ _ (zzn _) hi;obtain⟨os,e,c,hds⟩:=id a;have Y:s.TypeIs (.ref sl) "slice":=⟨os,e,c⟩;unfold getItem
 try with_reducible refine zyn ?_
 first|refine zzb (zzq ?_)|skip
 refine zzb (wpAny_sequenceKey U.typeIs (by decide) ?_);refine zzb (wpAny_callSpecial?_slot U.typeIs PyProof.Rows.slot_tuple_getitem
  (zyB PyProof.Rows.slot_tuple_getitem U.typeIs entry_tuple_getitem ?_ (args_tuple_getitem _ _)))
 show wpAny _ _ (Builtin.Tuple.tupleItemsOf (.ref t) >>= _) _ _ s;refine zzb (tupleItemsOf_ U ?_);refine zzb (zwL Y ?_);rw[zzi (by decide)];refine zzb (sliceApplied_gen a g i ?_);have d:¬((((sIx items.size 0 lo:Nat):Int)==0 && (1:Int)==1 && (sIx items.size items.size hi - sIx items.size 0 lo)==items.size)=true):=by intro q;rw[zzY,zzY]at q;have q1:((sIx items.size 0 lo:Nat):Int)=0:=zwD q.1.1;have q2:sIx items.size items.size hi - sIx items.size 0 lo=items.size:=zwD q.2;exact hw ⟨by lia,by lia⟩
 show wpAny _ _ (if (((sIx items.size 0 lo:Nat):Int)==0 && (1:Int)==1 && (sIx items.size items.size hi - sIx items.size 0 lo)==items.size)=true then _ else _) _ _ s;rw[zzg d,AE]
 first
  |exact zzb (zyE (zzq ⟨_,rfl,zzq h⟩) J)
  |exact zzb (zyE (zzb (zzq (zzq ⟨_,rfl,zzq h⟩))) J)
  |exact zzb (zzb (zyE (zzq (zzq ⟨_,rfl,zzq h⟩)) J))
  |exact zzb (zzb (zyE (zzq ⟨_,rfl,zzq h⟩) J))
end
end HT
namespace L2
open PySem PySem.Spec PyProof.Rows
variable{A:Around}{E Q:av->bd->Prop}{H H':Hp}{T:String}{a b:bb}{its us:ai av}{k:ai Key}{kvs:ai (ai Key×V)}{n t':Nat}{r':V->bo Int->bo Int->Hp->VK->Prop}{s:bd}{u v:av}{w:World}{x y:V}{xs:ai (ai Key×bb×av)}{ys:ai V}{α:Type}{σ:St}
variable{X:Cx}{e:bN}{pos apos cpos:Pos}{a:bb}{r u:av}{pins:ai (bb×Obj)}{σ:St}{H:Hp}{s:bd}{y:V}{A:Around}{E:av->bd->Prop}{td ty:TE}
abbrev TO:=St->Hp->(bo Int->Hp->Prop)->Prop
def PO(X:Cx)(e:bo bN)(t:TO):Prop :=
 ∀(pins:ai (bb×Obj)) (s:bd) (σ:St) (H:Hp) (Q:bo Int->Hp->Prop),Inv X pins σ H s->t σ H Q ->
  wpAny (model X.prog X.w) X.A (evalPart e X.env) (λu c=>∃o H',Inv X pins σ H' c/\IsPart u o/\Q o H') X.xe s
def Ek:TO:=λ_ H Q=>Q none H
def JY(t:TE):TO:=λσ H Q=>t σ H λx c=>∃i,x=.int i/\Q (some i) c
theorem vM{ns:ai Int}:∀{us:ai av},Vals (ns.map V.int) us->IntsAre us ns:=by
 induction ns with
 |nil=>intro us r;cases r;exact .nil
 |cons n ns J =>
  intro us r;cases r with
  |cons c U =>
   obtain⟨t,e⟩:=c;subst e;exact .cons n t (J U)
section
variable{te:TE}{lo hi:bo bN}{tl th:TO}{p2:Pos}
theorem El:PO X none Ek:=by intro pins s σ H Q I h;exact zzq ⟨none,H,I,.none,h⟩
theorem Em(h:PE X e te):PO X (some e) (JY te):=by intro pins s σ H Q I d;refine thn (h pins s σ H _ I d) λu s1 U=>?_;obtain⟨x,c,J,g,Y⟩:=U;obtain⟨i,rfl,q⟩:=Y;obtain⟨t,rfl⟩:=g;exact⟨some i,c,J,.int i t,q⟩
def SlR(X:Cx)(r:V->bo Int->bo Int->Hp->VK->Prop):Prop :=
 ∀(pins:ai (bb×Obj)) (s:bd) (σ:St) (H:Hp) (x:V) (v vl d:av) (lo hi:bo Int) (c:bb) (Q:VK),Inv X pins σ H s->RelV x v->s.heap.IsSliceOf c vl d .none->IsPart vl lo->IsPart d hi->r x lo hi H Q ->
  ∃T id,typeLookup (.type T) "__getitem__" = pure (some (.builtin id))/\s.TypeIs v T/\wpAny (model X.prog X.w) X.A (getItem v (.ref c)) (EP X pins σ Q) X.xe s
theorem SlR.or{r:V->bo Int->bo Int->Hp->VK->Prop}(h:SlR X r)(l:SlR X r'):SlR X (λx lo hi H Q=>r x lo hi H Q∨r' x lo hi H Q):=by
 intro pins s σ H x v i j lo hi g Q I U c d J q;rcases q with q|q
 ·exact h pins s σ H x v i j lo hi g Q I U c d J q
 ·exact l pins s σ H x v i j lo hi g Q I U c d J q
def tSl(r:V->bo Int->bo Int->Hp->VK->Prop)(te:TE)(tl th:TO):TE:=λσ H Q=>te σ H λx c=>tl σ c λl d=>th σ d λu g=>r x l u g Q
theorem tT{r:V->bo Int->bo Int->Hp->VK->Prop}(M:SlR X r)(he:PE X e te)(L:PO X lo tl)(a:PO X hi th):PE X (.Subscript e (.Slice lo hi none p2) pos) (tSl r te tl th):=by intro pins s σ H Q I h;refine Subscript_ (thn (he pins s σ H _ I h) λv s1 J=>?_);obtain⟨x,j,U,E,w⟩:=J;refine wpAny_Slice (thnE (L pins s1 σ j _ U w) λd s2 l m Y k y=>thn (a pins s2 σ m _ Y y) λg c J=>?_);obtain⟨u,i,p,n,A⟩:=J;refine zzq ?_;have z:Inv X pins σ i {c with heap:=c.heap.push {cls:=.type "slice",data:=.fields #[d,g,.none]} }:=p.kept λb ob q=>zzj _ q;obtain⟨T,id,C,N,G⟩:=M pins {c with heap:=c.heap.push {cls:=.type "slice",data:=.fields #[d,g,.none]} } σ i x v d g l u c.heap.objs.size Q z E (Heap.IsSliceOf.new ..) k n A;exact tail_any N C G (by with_unfolding_all rfl)
def cutV(xs:ai V)(lo hi:bo Int):ai V:=(xs.drop (HT.sIx xs.length 0 lo)).take (HT.sIx xs.length xs.length hi - HT.sIx xs.length 0 lo)
theorem jA(xs:ai V)(lo hi:bo Int):(cutV xs lo hi).length<=xs.length:=by unfold cutV;rw[zyK,zxC];lia
def rSlT(K:zvi):V->bo Int->bo Int->Hp->VK->Prop:=λx lo hi H Q=>∃a xs,x=.ref a/\SqT K H a xs /\
 ¬(HT.sIx xs.length 0 lo=0/\HT.sIx xs.length xs.length hi=xs.length)/\∀p,H p=none->Q (.ref p) (upd H p (.tup (cutV xs lo hi)))
theorem Ha:SlR X (rSlT X.K):=by
 intro pins s σ H x v vl vu lo hi sl Q I l c i j h;obtain⟨a,xs,rfl,g,d,q⟩:=h;cases l;obtain⟨its,r,U,Y⟩:=I.tuple g;have J:its.toArray.size=xs.length:=by rw[zzA];exact r.length.symm
 refine⟨"tuple",_,PyProof.Rows.slot_tuple_getitem.lookup,U.typeIs,?_⟩;refine HT.getItem_tuple_cut U c i j (by rw[J];exact d) ?_ (by rw[J];exact Y);rw[J];refine⟨.ref s.heap.objs.size,_,I.laid (λb ob q=>zzj _ q) (zzn _) ?_,rfl,q _ (I.hok.fresh (zzn _))⟩;exact⟨⟨zzo (jA xs lo hi) Y,.inl ⟨_,zzw _ rfl,rfl⟩⟩,_,(r.drop (HT.sIx xs.length 0 lo)).take (HT.sIx xs.length xs.length hi - HT.sIx xs.length 0 lo),IsTup.new _ _⟩
def Hb(K:zvi):R2:=λx y H Q=>∃a b xs ys,x=.ref a/\y=.ref b/\SqT K H a xs/\SqT K H b ys/\xs≠[]/\xs.length+ys.length<=sizeLine /\
 (ys=[]->Q (.ref a) H)/\(ys≠[]->∀p,H p=none->Q (.ref p) (upd H p (.tup (xs++ys))))
theorem Vals.nil_iff{xs:ai V}(r:Vals xs us):us=[]↔xs=[]:=by
 cases r with
 |nil=>simp|cons _ _=>simp
theorem En:OpR X (binaryOp .Add) (Hb X.K):=by intro pins s σ H x y v u Q I m p h;obtain⟨a,b,xs,ys,rfl,rfl,d,g,Y,U,j,l⟩:=h;cases m;cases p;obtain⟨its,c,i,_⟩:=I.tuple d;obtain⟨its2,J,p2,_⟩:=I.tuple g;refine HT.cat_tup i p2 (λz=>Y (c.nil_iff.mp z)) (λz=>⟨.ref a,H,I,rfl,j (J.nil_iff.mp z)⟩) (λz=>?_) (by rw[←c.length,←J.length];exact U);refine⟨.ref s.heap.objs.size,_,I.laid (λb ob q=>zzj _ q) (zzn _) ?_,rfl,l (λw=>z (J.nil_iff.mpr w)) _ (I.hok.fresh (zzn _))⟩;exact⟨⟨by rw[zzm];exact U,.inl ⟨_,zzw _ rfl,rfl⟩⟩,_,c.append J,IsTup.new _ _⟩
end
def ixN(n:Nat)(i:Int):bo Nat:=if 0<=i then(if i<n then some i.toNat else none) else if -(n:Int)<=i then some (i+n).toNat else none
def atI{α:Type}(xs:ai α)(i:Int):bo α:=(ixN xs.length i).bind λj=>xs[j]?
theorem xC{n:Nat}{i:Int}(h:ixN n i=some t'):seqIndex? i n=some t'/\t'<n/\-(n:Int)<=i/\i<n:=by
 unfold ixN at h;by_cases h0:0<=i
 ·rw[zzi h0]at h;by_cases c:i<n
  ·rw[zzi c]at h;have e:i.toNat=t':=zya h;exact⟨by rw[seqIndex_of h0 c,e],by lia,by lia,c⟩
  ·rw[zzg c]at h;cases h
 ·rw[zzg h0]at h;by_cases c : -(n:Int)<=i
  ·rw[zzi c]at h;have e:(i+n).toNat=t':=zya h;exact⟨by rw[seqIndex_neg (by lia) c,e],by lia,c,by lia⟩
  ·rw[zzg c]at h;cases h
theorem xD{xs:ai α}{i:Int}{v:α}(h:atI xs i=some v):∃j,seqIndex? i xs.length=some j/\xs[j]?=some v/\j<xs.length/\-(xs.length:Int)<=i/\i<xs.length:=by
 unfold atI at h;cases e:ixN xs.length i with
 |none=>rw[e]at h;cases h
 |some j =>
  rw[e]at h;obtain⟨c,d,g,J⟩:=xC e;exact⟨j,c,h,d,g,J⟩
theorem qT{xs:ai α}{j:Nat}{v:α}(h:xs[j]?=some v):atI xs (j:Int)=some v:=by
 have hj:j<xs.length:=(zzt.mp h).1;have e:ixN xs.length (j:Int)=some j:=by unfold ixN;rw[zzi (by lia),zzi (by lia)];simp
 unfold atI;rw[e];exact h
def mL(b:bN):Prop:=∀o i,subscripted b false o i=operate [o,i] (getItem o i)
def IxR(X:Cx)(r:R2):Prop :=
 ∀(value slice:bN) (pins:ai (bb×Obj)) (s:bd) (σ:St) (H:Hp) (x y:V) (v u:av) (Q:VK),Inv X pins σ H s->RelV x v->RelV y u->r x y H Q ->
  subscripted slice false v u=operate [v,u] (getItem v u)->wpAny (model X.prog X.w) X.A (subscriptTail value slice v u) (EP X pins σ Q) X.xe s
def MtR(X:Cx)(id:String)(r:V->ai V->Hp->VK->Prop):Prop :=
 ∀(pins:ai (bb×Obj)) (s:bd) (σ:St) (H:Hp) (x:V) (xs:ai V) (v:av) (us:ai av) (Q:VK),Inv X pins σ H s->RelV x v->Vals xs us->r x xs H Q ->
  wpAny (model X.prog X.w) X.A (call (.builtin id) (v::us)) (EP X pins σ Q) X.xe s
section
variable{a b:bN}{ta tb:TE}
theorem IxR.or{r r':R2}(h:IxR X r)(d:IxR X r'):IxR X (λx y H Q=>r x y H Q∨r' x y H Q):=by
 intro value slice pins s σ H x y v u Q I J U q c;rcases q with q|q
 ·exact h value slice pins s σ H x y v u Q I J U q c
 ·exact d value slice pins s σ H x y v u Q I J U q c
theorem xE{r:R2}(U:IxR X r)(d:PE X a ta)(g:PE X b tb)(i:mL b):PE X (.Subscript a b pos) (tOp r ta tb):=by intro pins s σ H Q I h;exact Subscript_ (binT d g I h λv u l x y c J Y j q=>U a b pins l σ c x y v u Q J Y j q (i _ _))
def rIxL(K:zvi):R2:=λx y H Q=>∃p xs i v,x=.ref p/\y=.int i/\SqL K H p xs/\atI xs i=some v/\Q v H
def rIxT(K:zvi):R2:=λx y H Q=>∃p xs i v,x=.ref p/\y=.int i/\SqT K H p xs/\atI xs i=some v/\Q v H
theorem mM:IxR X (rIxL X.K):=by
 intro value slice pins s σ H x y v u Q I M N h g;obtain⟨p,xs,i,z,rfl,rfl,L,C,q⟩:=h;cases M;obtain⟨t,rfl⟩:=N;obtain⟨its,r,d,hz⟩:=I.list L;obtain⟨j,c,l,h3,Y,m⟩:=xD C;obtain⟨w,U,rw'⟩:=r.get l;have G:=r.length;have hn:=tR;have fin:EP X pins σ Q w s:=⟨z,H,I,rw',q⟩;by_cases h0:0<=i
 ·have J:i.toNat=j:=by
   rw[seqIndex_of h0 m]at c;exact zya c
  exact item_listR d.isList h0 (by lia) (by rw[J];simpa using U) fin g
 ·have J:(i+(its.toArray.size:Int)).toNat=j:=by
   rw[seqIndex_neg (by lia) Y]at c;rw[zzA,←G];exact zya c
  exact subscriptTail_builtinR d.isList.typeIs slot_list_getitem.lookup
   (wpAny_getItem_list_neg d.isList (by lia) (by rw[zzA]<;>lia) (by lia) (by rw[J];simpa using U) ⟨rfl,fin⟩) g
theorem Hc:IxR X (rIxT X.K):=by
 intro value slice pins s σ H x y v u Q I C G h m;obtain⟨p,xs,i,z,rfl,rfl,Y,l,q⟩:=h;cases C;obtain⟨t,rfl⟩:=G;obtain⟨its,r,c,hz⟩:=I.tuple Y;obtain⟨j,d,g,h3,h4,h5⟩:=xD l;obtain⟨w,J,rw'⟩:=r.get g;have U:=r.length;have hn:=tR;have fin:EP X pins σ Q w s:=⟨z,H,I,rw',q⟩;exact subscriptTail_builtinR c.typeIs slot_tuple_getitem.lookup
  (getItem_tuple c (by lia) (by lia) (by rw[zzA,←U];exact d) (by simpa using J) ⟨rfl,fin⟩) m
theorem vN(its:ai av)(n j:Nat)(u:av):Obj.mapSeq (·.setIfInBounds j u) {cls:=.type "list",data:=.seq its.toArray n}={cls:=.type "list",data:=.seq (its.set j u).toArray n}:=by simp[Obj.mapSeq]
theorem Inv.lst{pins:ai (bb×Obj)}{σ:St}{H:Hp}{s:bd}{p:bb}{xs:ai V}(I:Inv X pins σ H s)(h:H p=some (.lst xs)) :
  ∃(its:ai av) (n:Nat),Vals xs its/\s.heap.get? p=some {cls:=.type "list",data:=.seq its.toArray n}/\xs.length<=sizeLine:=by
 obtain⟨z,its,n,r,e⟩:=I.hok p _ h;exact⟨its,n,r,e,z⟩
theorem Inv.lstUpd{pins:ai (bb×Obj)}{s:bd}{p:bb}{xs:ai V}{f:Obj->Obj}(I:Inv X pins σ H s)(h:H p=some (.lst xs))(d:s.heap.get? p=some {cls:=.type "list",data:=.seq its.toArray n})(hf:f {cls:=.type "list",data:=.seq its.toArray n}={cls:=.type "list",data:=.seq us.toArray t' })(r:Vals ys us)(J:ys.length<=sizeLine)(t:Nat) :
  Inv X pins σ (upd H p (.lst ys)) {s with heap:=s.heap.update p f,toks:=t}:=by
 have e:(s.heap.update p f).get? p=some {cls:=.type "list",data:=.seq us.toArray t' }:=by rw[zxu f d (by rw[hf]<;>rfl),hf]
 refine I.write (by rw[h];trivial) (.inl rfl) (λb u c q=>(Heap.get?_update_other _ _ (Ne.symm c)).trans q) ⟨_,e⟩ ?_;exact⟨J,us,t',r,e⟩
def JZ:V->V->V->Hp->(Hp->Prop)->Prop:=λo i v H Q=>∃p xs k j,o=.ref p/\i=.int k/\H p=some (.lst xs)/\ixN xs.length k=some j/\Q (upd H p (.lst (xs.set j v)))
theorem mO:PSet X JZ:=by
 intro pins s σ H o i v ov iv u Q I L G M h;obtain⟨p,xs,k,j,rfl,rfl,m,z,q⟩:=h;cases L;obtain⟨t,rfl⟩:=G;obtain⟨its,n,r,g,C⟩:=I.lst m;obtain⟨c,h2,l,Y⟩:=xC z;have J:=r.length;have hn:=tR;have U:Inv X pins σ (upd H p (.lst (xs.set j v))) {s with heap:=s.heap.update p (Obj.mapSeq (·.setIfInBounds j u))} :=
  I.lstUpd m g (vN its n j u) (r.set M j) (by rw[zwM];exact C) s.toks
 by_cases h0:0<=k
 ·have d:k.toNat=j:=by
   rw[seqIndex_of h0 Y]at c;exact zya c
  exact PySem.W.ki_setAt g h0 (by lia) (by rw[zzA,←J];exact Y) (by rw[d];exact⟨_,U,q⟩)
 ·have d:(k+(its.toArray.size:Int)).toNat=j:=by
   rw[seqIndex_neg (by lia) l]at c;rw[zzA,←J];exact zya c
  exact PySem.W.ki_setBack g (by lia) (by rw[zzA,←J];exact l) (by lia) (by rw[d];exact⟨_,U,q⟩)
theorem oV(lo c:bo Int)(n:Nat):(sliceBounds lo c none n).1=((HT.sIx n 0 lo:Nat):Int)/\(sliceBounds lo c none n).2.1=((HT.sIx n n c:Nat):Int)/\(sliceBounds lo c none n).2.2=1:=by
 refine⟨?_,?_,rfl⟩
 ·cases lo with
  |none=>simp[sliceBounds,HT.sIx]|some i =>
   simp only[sliceBounds,HT.sIx,Option.getD_none,show (1:Int)>0 by decide,zwC];by_cases h:i<0
   ·simp only[h,zwC]<;>lia
   ·simp only[h,zxB]<;>lia
 ·cases c with
  |none=>simp[sliceBounds,HT.sIx]|some i =>
   simp only[sliceBounds,HT.sIx,Option.getD_none,show (1:Int)>0 by decide,zwC];by_cases h:i<0
   ·simp only[h,zwC]<;>lia
   ·simp only[h,zxB]<;>lia
theorem mP(its:ai av)(lo c:bo Int):slicePick its.toArray lo c none=((its.drop (HT.sIx its.length 0 lo)).take (HT.sIx its.length its.length c - HT.sIx its.length 0 lo)).toArray:=by obtain⟨d,g,i⟩:=oV lo c its.toArray.size;unfold slicePick;rw[d,g,i];simp only[sliceRange_one,pick_run,zzA]<;>rfl
def rSlL(K:zvi):V->bo Int->bo Int->Hp->VK->Prop:=λx lo c H Q=>∃a xs,x=.ref a/\SqL K H a xs/\∀p,H p=none->Q (.ref p) (upd H p (.lst (cutV xs lo c)))
theorem Eo:SlR X (rSlL X.K):=by intro pins s σ H x v vl vu lo c sl Q I l d i j h;obtain⟨a,xs,rfl,Y,q⟩:=h;cases l;obtain⟨its,r,U,g⟩:=I.list Y;have J:=r.length;refine⟨"list",_,slot_list_getitem.lookup,U.isList.typeIs,?_⟩;refine wpAny_getItem_list_slice U.isList d i j .none (by simp) ?_ (by rw[zzA]<;>lia);rw[mP,←J];refine⟨.ref s.heap.objs.size,_,I.laid (λb ob q=>zzj _ q) (zzn _) ?_,rfl,q _ (I.hok.fresh (zzn _))⟩;exact⟨zzo (jA xs lo c) g,_,0,(r.drop (HT.sIx xs.length 0 lo)).take (HT.sIx xs.length xs.length c - HT.sIx xs.length 0 lo),zzw _ rfl⟩
def gX:V->Bool
 |.non=>true|.bl _=>true|.int _=>true|.str _=>true|_=>false
def eqV:V->V->Bool
 |.non,.non=>true|.bl a,.bl b=>a==b|.bl a,.int b=>(if a then 1 else 0)==b|.int a,.bl b=>a==(if b then 1 else 0)|.int a,.int b=>a==b|.str a,.str b=>a==b|_,_=>false
theorem Hd(Y:RelV y u)(J:RelV x v)(c:gX y=true)(U:gX x=true):SeqAt.EqAt A s u v (eqV y x):=by
 cases y with
 |non =>
  cases Y;cases x with
  |non=>cases J;exact SeqAt.EqAt.same _
  |bl b=>cases J;exact SeqAt.EqAt.none_bool b
  |int b=>obtain⟨t,rfl⟩:=J;exact SeqAt.EqAt.none_int b t
  |str b=>obtain⟨t,rfl⟩:=J;exact SeqAt.EqAt.none_str b t
  |_=>exact absurd (show false=true from U) zzL
 |bl a =>
  cases Y;cases x with
  |non=>cases J;exact SeqAt.EqAt.bool_none a
  |bl b=>cases J;exact SeqAt.EqAt.bool_bool a b
  |int b=>obtain⟨t,rfl⟩:=J;exact SeqAt.EqAt.bool_int a b t
  |str b=>obtain⟨t,rfl⟩:=J;exact SeqAt.EqAt.bool_str a b t
  |_=>exact absurd (show false=true from U) zzL
 |int a =>
  obtain⟨t',rfl⟩:=Y;cases x with
  |non=>cases J;exact SeqAt.EqAt.int_none a t'
  |bl b=>cases J;exact SeqAt.EqAt.int_bool a t' b
  |int b=>obtain⟨t,rfl⟩:=J;exact SeqAt.EqAt.int_int a t' b t
  |str b=>obtain⟨t,rfl⟩:=J;exact SeqAt.EqAt.int_str a t' b t
  |_=>exact absurd (show false=true from U) zzL
 |str a =>
  obtain⟨t',rfl⟩:=Y;cases x with
  |non=>cases J;exact SeqAt.EqAt.str_none a t'
  |bl b=>cases J;exact SeqAt.EqAt.str_bool a t' b
  |int b=>obtain⟨t,rfl⟩:=J;exact SeqAt.EqAt.str_int a t' b t
  |str b=>obtain⟨t,rfl⟩:=J;exact SeqAt.EqAt.str_str a t' b t
  |_=>exact absurd (show false=true from U) zzL
 |_=>exact absurd (show false=true from c) zzL
def eqU(x:V)(u:av):Bool:=match u with
 |.none=>eqV .non x|.bool b=>eqV (.bl b) x|.int i _=>eqV (.int i) x|.str z _=>eqV (.str z) x|_=>false
theorem xF(r:RelV y u)(f:gX y=true):eqU x u=eqV y x:=by
 cases y with
 |non=>cases r;rfl
 |bl b=>cases r;rfl
 |int i=>obtain⟨t,rfl⟩:=r;rfl
 |str z=>obtain⟨t,rfl⟩:=r;rfl
 |_=>exact absurd (show false=true from f) zzL
theorem tU(c:RelV x v)(U:gX x=true):∀{xs:ai V} {us:ai av},Vals xs us->xs.all gX=true->∀u∈us,SeqAt.EqAt A s u v (eqU x u):=by
 intro xs us h f u' J
 induction h with
 |nil=>cases J
 |cons r t Y =>
  rw[zve,zzY]at f;rcases zzr.mp J with rfl|J
  ·rw[xF r f.1];exact Hd r c f.1 U
  ·exact Y f.2 J
theorem cA:cZ X (.builtin "len") (λxs H Q=>∃p ys,xs=[.ref p]/\(SqL X.K H p ys∨SqT X.K H p ys)/\Q (.int ys.length) H):=by
 intro pins s σ H xs us Q I r h;obtain⟨p,ys,rfl,U,q⟩:=h;obtain⟨u,rfl,d⟩:=gU r;cases d;have hn:=tR;rcases U with U|U
 ·obtain⟨its,r',c,Y⟩:=I.list U;have J:=r'.length;exact Calls.call_len_list c.isList (by simp only[zzA]<;>lia) ⟨.int ys.length,H,I.tok _,⟨s.toks+1,by rw[zzA,J]⟩,q⟩
 ·obtain⟨its,r',c,Y⟩:=I.tuple U;have J:=r'.length;exact len_tuple c (by simp only[zzA]<;>lia) ⟨.int ys.length,H,I.tok _,⟨s.toks+1,by rw[zzA,J]⟩,q⟩
theorem mQ:cZ X (.type "tuple") (λxs H Q=>∃p ys,xs=[.ref p]/\((SqL X.K H p ys/\∀l,H l=none->Q (.ref l) (upd H l (.tup ys)))∨(SqT X.K H p ys/\Q (.ref p) H))):=by
 intro pins s σ H xs us Q I r h;obtain⟨p,ys,rfl,h⟩:=h;obtain⟨u,rfl,j⟩:=gU r;cases j;rcases h with ⟨J,q⟩|⟨J,q⟩
 ·obtain⟨its,r',d,Y⟩:=I.list J;have hlen:=r'.length;refine call_tuple_list d.isList (λc i=>?_) (by simp only[zzA]<;>lia);have U:Inv X pins σ H {s with heap:=c}:=I.kept i;have g:Inv X pins σ (upd H c.objs.size (.tup ys)) {s with heap:=c.push {cls:=.type "tuple",data:=.seq its.toArray} } :=
   U.laid (λb o e=>zzj _ e) (zzn _) (show ObjOk X.prog X.w _ _ _ (.tup ys) from⟨⟨Y,.inl ⟨_,zzw _ rfl,rfl⟩⟩,its,r',IsTup.new _ _⟩)
  exact⟨.ref c.objs.size,_,g,rfl,q _ (U.hok.fresh (zzn _))⟩
 ·obtain⟨its,r',d,Y⟩:=I.tuple J;exact call_tuple_same d ⟨.ref p,H,I,rfl,q⟩
def tyV(K:zvi)(T:String)(x:V)(H:Hp):Prop:=match x with
 |.str _=>T = "str"|.int _=>T = "int"| .ref p=>(T = "list" /\ ∃xs,SqL K H p xs)∨(T = "tuple" /\ ∃o,K.lookup p=some o/\o.cls=.type "tuple" /\ o.dict=none) ∨
   (T = "dict" /\ ((∃kvs,H p=some (.dK kvs))∨∃kvs,H p=some (.dT kvs)))∨(T = "set" /\ ∃S n,H p=some (.set S n))
 |_=>False
theorem He{pins:ai (bb×Obj)}(I:Inv X pins σ H s)(r:RelV x v)(ty:tyV X.K T x H) :
  s.TypeIs v T/\∀a,v=.ref a->∃ob,s.heap.get? a=some ob/\ob.dict=none:=by
 cases x with
 |str z =>
  obtain⟨t,rfl⟩:=r;cases (show T = "str" from ty);exact⟨typeIs_str s z t,λ_ e=>nomatch e⟩
 |int i =>
  obtain⟨t,rfl⟩:=r;cases (show T = "int" from ty);exact⟨typeIs_int s i t,λ_ e=>nomatch e⟩
 |ref p =>
  cases r;rcases ty with ⟨rfl,xs,J⟩|⟨rfl,o,d,m,hd⟩|⟨rfl,d⟩|⟨rfl,S,n,d⟩
  ·obtain⟨its,_,l,_⟩:=I.list J;refine⟨l.isList.typeIs,λa e=>?_⟩;cases e;obtain⟨o,n,e,c,hd,_⟩:=l;exact⟨o,e,hd⟩
  ·refine⟨⟨o,I.kIn p o d,m⟩,λa e=>?_⟩;cases e;exact⟨o,I.kIn _ o d,hd⟩
  ·have z:∃o,s.heap.get? p=some o/\o.ExactDict:=by
    rcases d with ⟨kvs,d⟩|⟨kvs,d⟩
    ·obtain⟨_,_,_,_,o,_,_,e,g,_⟩:=I.hok p _ d;exact⟨o,e,g⟩
    ·obtain⟨_,_,_,_,o,_,_,e,g,_⟩:=I.hok p _ d;exact⟨o,e,g⟩
   obtain⟨o,e,g⟩:=z;refine⟨⟨o,e,g.1⟩,λa j=>?_⟩;cases j;exact⟨o,e,g.2.1⟩
  ·obtain⟨o,_,_,_,e,g,_⟩:=I.hok p _ d;refine⟨⟨o,e,g.1⟩,λa j=>?_⟩;cases j;exact⟨o,e,g.2.1⟩
 |_=>exact False.elim ty
def tBM(K:zvi)(T:String)(r:V->ai V->Hp->VK->Prop)(to:TE)(t:TA):TE:=λσ H Q=>to σ H λx c=>tyV K T x c/\t σ c λxs d=>r x xs d Q
variable{o:bN}{es:ai bN}{to:TE}{t:TA}{name:Str}{T id:String}{r:V->ai V->Hp->VK->Prop}
theorem vO(N:PlainAttrs T)(slot:Slot T name id)(p:typeOf (.builtin id)=pure (.type "method_descriptor"))(G:MtR X id r)(L:PE X o to)(C:PA X (e::es) t)
  (U:attributeBase o name X.env (eval o X.env)=eval o X.env:=by rfl)
  (m:((backTo cpos (starEach (e::es) X.env)).all (λx=>!x.1) && (backToKw cpos (keywordEach [] X.env)).all (λx=>x.1.isSome)
   && decide ((e::es).length+([]:ai Keyword).length+(if ([]:ai Keyword).isEmpty then 0 else 1)<30))=true:=by rfl)
  (Y:(apos.endLine==cpos.line)=true:=by rfl) (M:starEach (e::es) X.env=(false,eval e X.env)::starEach es X.env:=by rfl) (J:(backTo cpos (starEach es X.env)).any (·.1)=false:=by rfl) :
  PE X (.Call (.Attribute o name apos) (e::es) [] cpos) (tBM X.K T r to t):=by
 intro pins s σ H Q I h;refine wpAny_Call_method_late U m Y rfl (thn (L pins s σ H _ I h) λv u a=>?_);obtain⟨x,i,c,g,ty,b⟩:=a;obtain⟨q,z⟩:=He c g ty;refine⟨T,id,N,slot,p,q,z,?_⟩;have d:=C cpos pins u σ i _ c b;rw[M]at d ⊢;refine Calls.callWith_builtin (by show (false || (backTo cpos (starEach es X.env)).any (·.1))=false;rw[J]<;>rfl) (Calls.evalArgs_plain ?_);exact thn d λus w ⟨y,j,l,n,k⟩=>G pins w σ j x y v us Q l g n k
end
def MtM(X:Cx)(id:String)(r:V->ai V->Hp->VK->Prop):Prop :=
 ∀(pins:ai (bb×Obj)) (s:bd) (σ:St) (H:Hp) (x:V) (xs:ai V) (v:av) (us:ai av) (Q:VK),Inv X pins σ H s->RelV x v->Vals xs us->r x xs H Q ->
  wpAny (model X.prog X.w) X.A (call (.builtin id) (v::us)) (EP X pins σ Q) X.xe s
theorem Vals.one:∀{x:V} {us:ai av},Vals [x] us->∃u,us=[u]/\RelV x u:=by rintro _ _ (_|⟨r,⟨⟩⟩);exact⟨_,rfl,r⟩
theorem Vals.two:∀{x y:V} {us:ai av},Vals [x,y] us->∃u v,us=[u,v]/\RelV x u/\RelV y v:=by rintro _ _ _ (_|⟨r,_|⟨q,⟨⟩⟩⟩);exact⟨_,_,rfl,r,q⟩
theorem Vals.rep{xs:ai V}{us:ai av}(h:Vals xs us):∀k:Nat,Vals (List.replicate k xs).flatten (List.replicate k us).flatten
 |0=>.nil|k+1=>by exact Vals.append h (Vals.rep h k)
theorem oW(its:ai av):∀(k:Nat) (J:ai av),
  List.foldl (λU Y=>U++Y) J.toArray (List.replicate k its.toArray)=(J++(List.replicate k its).flatten).toArray
 |0,J=>by simp
 |k+1,J=>by
  have e:J.toArray++its.toArray=(J++its).toArray:=by simp
  have c:(J++its)++(List.replicate k its).flatten=J++(List.replicate (k+1) its).flatten:=by rw[zyD,zxP,zyF]
  rw[←c,←oW its k (J++its),←e,zyD,zxh]
section
variable{l:bb}{xs ys:ai V}
theorem Inv.lset{f:Array av->Array av}(I:Inv X pins σ H s)(J:H l=some (.lst xs))(e:s.heap.get? l=some {cls:=.type "list",data:=.seq its.toArray n})(hf:f its.toArray=us.toArray)(Y:Vals ys us)(d:ys.length<=sizeLine) :
  Inv X pins σ (upd H l (.lst ys)) {s with heap:=s.heap.update l (Obj.mapSeq f),toks:=t' }:=by
 have q:=PySem.IsL.update e f;rw[hf]at q;refine I.write (by rw[J];exact trivial) (.inl rfl) (λb' u c U=>(Heap.get?_update_other s.heap (Obj.mapSeq f) (Ne.symm c)).trans U) ⟨_,q⟩ ?_;exact⟨d,us,_,Y,q⟩
theorem Inv.lnew(I:Inv X pins σ H s)(J:Vals ys its)(U:ys.length<=sizeLine) :
  Inv X pins σ (upd H s.heap.objs.size (.lst ys)) {s with heap:=s.heap.push {cls:=.type "list",data:=.seq its.toArray},toks:=t' } :=
 I.laid (λ_ _ q=>zzj _ q) (zzn _) ⟨U,its,0,J,zzw _ rfl⟩
theorem Inv.fresh(I:Inv X pins σ H s):H s.heap.objs.size=none:=I.hok.fresh (zzn _)
theorem Inv.lstM(I:Inv X pins σ H s)(J:H l=some (.lst xs)):xs.length<=sizeLine/\∃(its:ai av) (n:Nat),Vals xs its/\xs.length=its.length/\s.heap.get? l=some {cls:=.type "list",data:=.seq its.toArray n}:=by obtain⟨z,its,n,r,e⟩:=I.hok l _ J;exact⟨z,its,n,r,r.length,e⟩
theorem tV(h:n<=sizeLine):Builtin.List.listTooLong n=false:=by exact zyk (by lia)
end
def Ep:V->ai V->Hp->VK->Prop:=λx c H Q=>∃l xs y,x=.ref l/\c=[y]/\H l=some (.lst xs)/\xs.length<sizeLine/\Q .non (upd H l (.lst (xs++[y])))
theorem jB:MtM X "list.append" Ep:=by intro pins s σ H x vs v us Q I c Y h;obtain⟨l,xs,y,rfl,rfl,J,hz,q⟩:=h;cases c;obtain⟨u,rfl,U⟩:=Y.one;obtain⟨z,its,n,r,hl,e⟩:=I.lstM J;refine zxV F.slot_list_append ⟨_,e,rfl⟩ F.entry_list_append (F.args_list_append_2 _ _) (PySem.list_append l its.toArray n u (by rw[zzA];lia)) ⟨e,?_⟩;refine⟨.non,_,I.lset J e (by simp) (r.append (.cons U .nil)) ?_,rfl,q⟩;rw[zzm,zzN];lia
def Er:V->ai V->Hp->VK->Prop:=λx c H Q=>∃l b xs J,x=.ref l/\c=[.ref b]/\H l=some (.lst xs)/\H b=some (.lst J)/\xs.length+J.length<=sizeLine/\Q .non (upd H l (.lst (xs++J)))
theorem xG:MtM X "list.extend" Er:=by
 intro pins s σ H x vs v us Q I C p h;obtain⟨l,b,xs,zs,rfl,rfl,c,g,hz,q⟩:=h;cases C;obtain⟨u,rfl,m⟩:=p.one;cases m;obtain⟨z,its,n,r,hl,e⟩:=I.lstM c;obtain⟨z2,J,i,j,hl2,d⟩:=I.lstM g;have Y:its.toArray.size+J.toArray.size<=sizeLine:=by rw[zzA,zzA];lia
 have U:¬(!its.toArray.isEmpty && Builtin.List.listTooLong (its.toArray.size+J.toArray.size))=true:=by rw[tV Y,Bool.and_false];exact zzL
 refine zxV F.slot_list_extend ⟨_,e,rfl⟩ F.entry_list_extend (F.args_list_extend_2 _ _)
  (AutoSeq1.list_extend_list_list_0 l its.toArray n b J.toArray i U (by rw[zzA];lia) (by lia)) ⟨e,d,?_⟩
 refine⟨.non,_,I.lset c e (by simp) (r.append j) ?_,rfl,q⟩;rw[zzm];lia
def rRep:R2:=λx y H Q=>∃l k xs,x=.ref l/\y=.int k/\H l=some (.lst xs)/\-(2^63)<=k/\k<2^63/\xs.length*k.toNat<=sizeLine /\
 ∀p,H p=none->Q (.ref p) (upd H p (.lst (List.replicate k.toNat xs).flatten))
theorem Es(xs:ai α)(k:Nat):(List.replicate k xs).flatten.length=k*xs.length:=by
 induction k with
 |zero=>simp|succ k J=>rw[zyD,zxP,zzm,J,Nat.succ_mul,Nat.add_comm]
theorem Hf:OpR X (binaryOp .Mult) rRep:=by
 intro pins s σ H x y v u Q I N b h;obtain⟨l,k,xs,rfl,rfl,L,C,G,g,q⟩:=h;cases N;obtain⟨t,rfl⟩:=b;obtain⟨z,its,n,r,M,e⟩:=I.lstM L;have i:its.toArray.size*k.toNat<=sizeLine:=by rw[zzA,←M];exact g
 have U:¬its.toArray.size*k.toNat>(2^63 - 1) / 8:=by
  have:(sizeLine:Nat)<=(2^63 - 1) / 8:=by decide
  lia
 have Y:¬(!Builtin.List.listFitsIndex k)=true:=by rw[fitsIndex_both C G];exact zzL
 have J:¬Builtin.List.listTooLong (its.toArray.size*k.toNat)=true:=by rw[tV i];exact zzL
 have j:List.foldl (λc d=>c++d) #[] (List.replicate (if its.toArray.isEmpty=true then 0 else k.toNat) its.toArray)=(List.replicate k.toNat its).flatten.toArray:=by
  have p:∀m:Nat,List.foldl (λc d=>c++d) #[] (List.replicate m its.toArray)=(List.replicate m its).flatten.toArray:=λm=>by have:=oW its m [];exact this
  rw[p];cases its with
  |nil=>simp|cons a r'=>rw[zzg (by simp)]
 refine wpAny_binaryOp_repeat_ref (by decide) ⟨_,e,rfl⟩ (λw=>typeIs_int w k t) noFill_list_mul F.fills_int_mul F.slot_int_rmul repeat_list F.slot_int_index.lookup
  (zxV F.slot_int_rmul (typeIs_int s k t) F.entry_int_rmul (F.args_int_rmul_2 _ _) (int___rmul___int_list k t l its.toArray n)
   ⟨e,rfl,⟨_,e,rfl⟩,zxV F.slot_list_mul ⟨_,e,rfl⟩ F.entry_list_mul (F.args_list_mul_2 _ _) (AutoListH.list___mul___list_int_3 l its.toArray n k t Y U J) ⟨e,?_⟩⟩)
 rw[j];exact⟨.ref _,_,I.lnew (r.rep k.toNat) (by rw[Es,Nat.mul_comm];exact g),rfl,q _ I.fresh⟩
section
variable{κ:Type}[DecidableEq κ]
def valV(kvs:ai (κ×V))(k:κ):bo V:=(kvs.find? λJ=>decide (J.1=k)).map (·.2)
def putK(kvs:ai (κ×V))(k:κ)(v:V):ai (κ×V) :=
 if (kvs.any λJ=>decide (J.1=k))=true then kvs.map (λJ=>if J.1=k then(J.1,v) else J) else kvs++[(k,v)]
theorem jg{p:κ×V}{r:ai (κ×V)}{k:κ}(e:p.1=k):valV (p::r) k=some p.2:=by simp[valV,zxi,e]
theorem gc{p:κ×V}{r:ai (κ×V)}{k:κ}(e:¬p.1=k):valV (p::r) k=valV r k:=by simp[valV,zxi,e]
theorem mR(k:κ):∀kvs:ai (κ×V),(kvs.any λJ=>decide (J.1=k))=(valV kvs k).isSome
 |[]=>rfl|p::r=>by
  rw[zvf];by_cases e:p.1=k
  ·simp only[jg e,zzJ e,Bool.true_or,Option.isSome_some]
  ·rw[gc e,zyk e,Bool.false_or];exact mR k r
theorem fN(kvs:ai (κ×V))(k:κ)(v:V):(putK kvs k v).length<=kvs.length+1:=by
 unfold putK;split
 ·rw[zza];lia
 ·rw[zzm,zzI,List.length_nil];lia
theorem RelO.isSome_eq{o:bo V}{u:bo av}(r:RelO o u):o.isSome=u.isSome:=by
 cases o with
 |none=>cases u with
  |none=>rfl|some _=>exact(show False from r).elim
 |some _=>cases u with
  |none=>exact(show False from r).elim|some _=>rfl
theorem RelO.getD{o:bo V}{u:bo av}{d:V}{J:av}(r:RelO o u)(U:RelV d J):RelV (o.getD d) (u.getD J):=by
 cases o with
 |none=>cases u with
  |none=>exact U|some _=>exact(show False from r).elim
 |some _=>cases u with
  |none=>exact(show False from r).elim|some _=>exact r
theorem KV.val{kvs:ai (κ×V)}{g:ai (κ×av)}(r:KV kvs g)(k:κ):RelO (valV kvs k) (valueAt g k):=by
 induction r with
 |nil=>exact True.intro|@cons p q ps c h t U =>
  obtain⟨d,i⟩:=h;by_cases e:p.1=k
  ·have J:q.1=k:=d.symm.trans e;have b:valueAt (q::c) k=some q.2:=by simp[valueAt,zxi,J]
   rw[jg e,b];exact i
  ·have J:¬q.1=k:=λz=>e (d.trans z);have b:valueAt (q::c) k=valueAt c k:=by simp[valueAt,zxi,J]
   rw[gc e,b];exact U
theorem KV.any{kvs:ai (κ×V)}{c:ai (κ×av)}(r:KV kvs c)(k:κ):(kvs.any λJ=>decide (J.1=k))=c.any λJ=>decide (J.1=k):=by
 induction r with
 |nil=>rfl|cons h t U=>rw[zvf,zvf,U,h.1]
theorem KV.repl{kvs:ai (κ×V)}{d:ai (κ×av)}(r:KV kvs d)(k:κ)(Y:RelV y u) :
  KV (kvs.map λJ=>if J.1=k then(J.1,y) else J) (d.map λJ=>if J.1=k then(J.1,u) else J):=by
 induction r with
 |nil=>exact .nil|@cons p q ps qs h t U =>
  rw[zzh,zzh];refine .cons ?_ U;obtain⟨c,g⟩:=h;by_cases e:p.1=k
  ·rw[zzi e,zzi (c.symm.trans e)];exact⟨c,Y⟩
  ·rw[zzg e,zzg (λz=>e (c.trans z))];exact⟨c,g⟩
theorem KV.put{kvs:ai (κ×V)}{c:ai (κ×av)}(r:KV kvs c)(k:κ)(J:RelV y u):KV (putK kvs k y) (stored c k u):=by
 unfold putK stored;rw[r.any k];by_cases e:(c.any λU=>decide (U.1=k))=true
 ·rw[zzi e,zzi e];exact r.repl k J
 ·rw[zzg e,zzg e];exact Paired.snoc r ⟨rfl,J⟩
theorem KV.length{kvs:ai (κ×V)}{c:ai (κ×av)}(r:KV kvs c):kvs.length=c.length:=zwa r
end
theorem AG{P:bP}{k:Key}(r:RelV (kV k) u):(aF P w).is k u=true:=by
 cases k with
 |inl i=>obtain⟨t,e⟩:=(show ∃t,u=Value.int i t from r);subst e;exact qP P w i t
 |inr x=>obtain⟨t,e⟩:=(show ∃t,u=Value.str x t from r);subst e;exact qQ P w x t
theorem oX{P:bP}{w:World}:∀{c:ai Key} {us:ai av},Vals (c.map kV) us->ItemsAre (aF P w) c us
 |[],_,r=>by rw[zyj]at r;cases r;exact .nil
 |k::c,_,r=>by
  cases r with
  |cons h t=>exact .cons (AG h) (oX t)
abbrev KT(H:Hp):ai (ai Key×V)->ai (ai Key×bb×av)->Prop:=Paired λp q=>p.1=q.1/\H q.2.1=some (.tup (p.1.map kV))/\RelV p.2 q.2.2
theorem KT.val(r:KT H kvs xs)(k:ai Key):RelO (valV kvs k) ((atKey xs k).map (·.2)):=by
 induction r with
 |nil=>exact True.intro|@cons p q ps c h t U =>
  obtain⟨d,_,g⟩:=h;by_cases e:p.1=k
  ·have J:q.1=k:=d.symm.trans e;have b:atKey (q::c) k=some q.2:=by simp[atKey,zxi,J]
   rw[jg e,b];exact g
  ·have J:¬q.1=k:=λz=>e (d.trans z);have b:atKey (q::c) k=atKey c k:=by simp[atKey,zxi,J]
   rw[gc e,b];exact U
theorem KT.repl(r:KT H kvs xs)(k:ai Key)(Y:RelV y u) :
  KT H (kvs.map λJ=>if J.1=k then(J.1,y) else J) (xs.map (putAt k u)):=by
 induction r with
 |nil=>exact .nil|@cons p q ps qs h t U =>
  rw[zzh,zzh];refine .cons ?_ U;obtain⟨c,d,g⟩:=h;unfold putAt;by_cases e:p.1=k
  ·rw[zzi e,zzi (c.symm.trans e)];exact⟨c,d,Y⟩
  ·rw[zzg e,zzg (λz=>e (c.trans z))];exact⟨c,d,g⟩
theorem KT.put(r:KT H kvs xs)(k:ai Key)(c:H b=some (.tup (k.map kV)))(J:RelV y u) :
  KT H (putK kvs k y) (storedH xs k b u):=by
 have e:(kvs.any λU=>decide (U.1=k))=(atKey xs k).isSome:=by rw[mR,(r.val k).isSome_eq,Option.isSome_map]
 unfold putK storedH;rw[e];by_cases q:(atKey xs k).isSome=true
 ·rw[zzi q,zzi q];exact r.repl k J
 ·rw[zzg q,zzg q];exact Paired.snoc r ⟨rfl,c,J⟩
theorem KT.keeps(r:KT H kvs xs)(J:∀b ys,H b=some (.tup ys)->H' b=some (.tup ys)):KT H' kvs xs :=
 Paired.mapP r λ_ _ z=>⟨z.1,J _ _ z.2.1,z.2.2⟩
section
variable{P:bP}{w:World}{h:bz}
theorem Hg{u:HO}(ok:HOk P w H h)(e:Rd H a u):ObjOk P w H h a u:=e.ok ok
theorem xH{kvs:ai (Key×V)}(ok:HOk P w H h)(e:Rd H a (.dK kvs)):kvs.length<=sizeLine/\(a==sysModules)=false/\∃vs,KV kvs vs/\h.DictOf (aF P w) a vs :=
 show ObjOk P w H h a (.dK kvs) from Hg ok e
theorem Ka{kvs:ai (Key×V)}(ok:HOk P w H h)(e:H a=some (.dK kvs)):kvs.length<=sizeLine/\(a==sysModules)=false/\∃vs,KV kvs vs/\h.DictOf (aF P w) a vs:=xH ok (.inl e)
theorem lH(ok:HOk P w H h)(e:H a=some (.tup (k.map kV))):(tupleKind (aF P w)).is h k a:=by obtain⟨_,its,r,o,c,d,n,g⟩:=(show ObjOk P w H h a (.tup (k.map kV)) from ok a _ e);exact⟨o,its.toArray,n,c,d,g,by simpa using oX r⟩
theorem qU(ok:HOk P w H h)(e:Rd H a (.dT kvs)):kvs.length<=sizeLine/\(a==sysModules)=false /\
  ∃xs,KT H kvs xs/\h.DictOfH (tupleKind (aF P w)) a xs:=by
 obtain⟨z,y,xs,r,o,d,c,g,i,j,Y,C⟩:=(show ObjOk P w H h a (.dT kvs) from Hg ok e);refine⟨z,y,xs,r,o,d,c,g,i,j,Y,λx J=>?_,C⟩;have all:∀{l:ai (ai Key×V)} {m:ai (ai Key×bb×av)},KT H l m->∀x∈m,(tupleKind (aF P w)).is h x.1 x.2.1:=by
  intro l m q
  induction q with
  |nil=>intro x J;exact nomatch J
  |@cons p q ps qs U t G =>
   intro x J;rcases zzr.mp J with e|J
   ·subst e;exact lH ok (by rw[←U.1];exact U.2.1)
   ·exact G x J
 exact all r x J
theorem Hh(ok:HOk P w H h)(e:H a=some (.dT kvs)):kvs.length<=sizeLine/\(a==sysModules)=false /\
  ∃xs,KT H kvs xs/\h.DictOfH (tupleKind (aF P w)) a xs:=qU ok (.inl e)
end
def DGet(H:Hp)(a:bb)(y:V)(r:bo V):Prop :=
 (∃kvs k,Rd H a (.dK kvs)/\y=kV k/\r=valV kvs k)∨∃kvs k b,Rd H a (.dT kvs)/\y=.ref b/\H b=some (.tup (k.map kV))/\r=valV kvs k
def DPut(H:Hp)(a:bb)(y v:V)(H':Hp):Prop :=
 (∃kvs k,H a=some (.dK kvs)/\y=kV k/\kvs.length<sizeLine/\H'=upd H a (.dK (putK kvs k v))) ∨
 ∃kvs k b,H a=some (.dT kvs)/\y=.ref b/\H b=some (.tup (k.map kV))/\kvs.length<sizeLine/\H'=upd H a (.dT (putK kvs k v))
theorem DGet.t(e:H a=some (.dT kvs))(c:H b=some (.tup (k.map kV))):DGet H a (.ref b) (valV kvs k):=.inr ⟨kvs,k,b,.inl e,rfl,c,rfl⟩
theorem DPut.t{v:V}(e:H a=some (.dT kvs))(c:H b=some (.tup (k.map kV)))(J:kvs.length<sizeLine) :
  DPut H a (.ref b) v (upd H a (.dT (putK kvs k v))):=.inr ⟨kvs,k,b,e,rfl,c,J,rfl⟩
section
variable{v:V}
theorem Inv.big(I:Inv X pins σ H s):sysModules<s.heap.objs.size:=by have h:mainGlobals<s.heap.objs.size:=(I.mod.glob.keeps I.bk).lt;exact zxS (by decide) h
theorem xI(C:A.units+1<cLine)(I:Inv X pins σ H s)(g:DGet H a y (some v))(d:RelV y u)(h:∀J i,Inv X pins σ H i->RelV v J->Q J i) :
  wpAny (model X.prog X.w) A (getItem (.ref a) u) Q E s:=by
 rcases g with ⟨kvs,k,e,Y,l⟩|⟨kvs,k,b,e,Y,m,l⟩
 ·subst Y;obtain⟨z,hd,vs,rel,U⟩:=xH I.hok e;obtain⟨J,c,rw'⟩:=RelO.some_of (by rw[l];exact rel.val k);exact wpAny_getItem_of (AG d) U.mapOf c (h J _ (I.tok _) rw')
 ·subst Y;cases (show u=Value.ref b from d);obtain⟨z,hd,xs,rel,U⟩:=qU I.hok e;obtain⟨J,c,rw'⟩:=RelO.some_of (by rw[l];exact rel.val k);obtain⟨p,q,j⟩:=zym.mp c;refine wpAny_getItem_heap (zxJ C) (lH I.hok m) U q ?_;rw[j];exact h J _ (I.tok _) rw'
theorem qV{c:bz}{ob:HO}(I:Inv X pins σ H s)(J:Mut (H a))(g:Heap.SameBut a s.heap c)(he:∃q,c.get? a=some q)(new:ObjOk X.prog X.w (upd H a ob) c a ob) :
  Inv X pins σ (upd H a ob) {s with heap:=c,toks:=t' } :=
 I.write J (.inl rfl) (λb q d z=>(g.2 b d).trans z) he new
theorem Hi{P:bP}{d:bz}{kvs:ai (Key×V)}{c:ai (Key×av)}(z:kvs.length<=sizeLine)(hd:(a==sysModules)=false)(rel:KV kvs c)(J:d.DictOf (aF P w) a c) :
  ObjOk P w H' d a (.dK kvs):=⟨z,hd,c,rel,J⟩
theorem xJ{Q:Unit->bd->Prop}(hu:A.units+1<cLine)(I:Inv X pins σ H s)(g:DPut H a y v H')(M:RelV y u)(L:RelV v r)(h:∀N,Inv X pins σ H' N->Q () N) :
  wpAny (model X.prog X.w) A (setItem (.ref a) u r) Q E s:=by
 rcases g with ⟨kvs,k,e,i,l,d⟩|⟨kvs,k,b,e,i,p,l,d⟩
 ·subst i d;obtain⟨z,hd,vs,rel,Y⟩:=Ka I.hok e;have hz:vs.length<=sizeLine:=by rw[←rel.length];exact z
  have j:(putK kvs k v).length<=sizeLine:=by have:=fN kvs k v;lia
  refine wpAny_setItem_pairs (AG M) Y λG J m=>h _ ?_;have he:∃q,G.get? a=some q:=by obtain⟨q,_,_,U,_⟩:=J;exact⟨q,U⟩
  exact qV I (by rw[e];exact True.intro) m he (Hi j hd (rel.put k L) J)
 ·subst i d;cases (show u=Value.ref b from M);obtain⟨z,hd,xs,rel,Y⟩:=Hh I.hok e;have hz:xs.length<=sizeLine:=by rw[←zwa rel];exact z
  have j:(putK kvs k v).length<=sizeLine:=by have:=fN kvs k v;lia
  refine wpAny_setItem_heap (zxJ hu) (lH I.hok p) Y λG J m=>h _ ?_;obtain⟨q,x,n,U,T,h3,h4,_,h5⟩:=J;refine qV I (by rw[e];exact True.intro) m ⟨q,U⟩ ⟨j,hd,_,(rel.put k p L).keeps λc ys C=>?_,q,x,n,U,T,h3,h4,h5⟩;rw[af (iT C e (λz=>nomatch z))];exact C
end
def NoSl(i:bN):Prop:=∀U J,subscripted i false U J=operate [U,J] (getItem U J)
theorem Et{prog:bP}{c:Env}{value slice:bN}{pos:Pos}{id:String}(m:typeLookup (.type T) "__getitem__" = pure (some (.builtin id)))(p:NoSl slice)(h:wpAny (model prog w) A (eval value c) (λo Y=>wpAny (model prog w) A (eval slice c) (λi J=>J.TypeIs o T/\wpAny (model prog w) A (getItem o i) Q E J) E Y) E s) :
  wpAny (model prog w) A (eval (.Subscript value slice pos) c) Q E s:=by
 refine Subscript_ (zxq h (λo Y d=>zxq d (λi J U=>?_) λ_ _ x=>x) λ_ _ x=>x);obtain⟨l,U⟩:=U;refine zzb ?_;refine zzb (wpAny_specialOf l m ?_);have fin:wpAny (model prog w) A (subscripted slice false o i) (λr g=>wpAny (model prog w) A (letTemporaryGo value o r >>= λ_=>pure r) Q E g) E J:=by rw[p o i];exact wpAny_operating (zxq U (λr g j=>zzb (wpAny_letTemporaryGo (zzq j))) λ_ _ x=>x)
 first
  |exact zzq (zzb fin)
  |exact zzb (zzq (zzb fin))
  |exact zzb fin
theorem qW{X:Cx}{pins:ai (bb×Obj)}{o:bo V}(I:Inv X pins σ H s)(g:DGet H a y o):s.TypeIs (.ref a) "dict":=by
 rcases g with ⟨kvs,k,e,_,_⟩|⟨kvs,k,b,e,_,_,_⟩
 ·obtain⟨_,_,vs,_,J⟩:=xH I.hok e;exact J.typeIs
 ·obtain⟨_,_,xs,_,J⟩:=qU I.hok e;exact J.typeIs
def Kb(td ty:TE):TE:=λσ H Q=>td σ H λx d=>ty σ d λy c=>∃a v,x=.ref a/\DGet c a y (some v)/\Q v c
def Kc(td ty tv:TE):TS:=λD σ H=>tv σ H λv c=>td σ c λx d=>ty σ d λy g=>∃a J,x=.ref a/\DPut g a y v J/\D.nx σ J
section
variable{o i value:bN}{pos':Pos}{tv:TE}
theorem Eu(q:X.A.units+1<cLine)(m:PE X o td)(l:PE X i ty)(p:NoSl i):PE X (.Subscript o i pos) (Kb td ty):=by intro pins s σ H Q I h;refine Et PySem.F.slot_dict_getitem.lookup p (thnE (m pins s σ H _ I h) λu N x c U L C=>thn (l pins N σ c _ U C) λiv s2 z=>?_);obtain⟨y,d,J,M,a,v,j,g,G⟩:=z;subst j;obtain rfl:u=Value.ref a:=L;exact⟨qW J g,xI q J g M λw' s3 Y rw'=>⟨v,d,Y,rw',G⟩⟩
theorem Ev(C:X.A.units+1<cLine)(q:PE X o td)(p:PE X i ty)(G:PE X value tv)(z:swapsWith value (some (.Subscript o i pos')) pos.line X.env=pure false) :
  PS X (.Assign [.Subscript o i pos'] value pos) (Kc td ty tv):=by
 intro pins s σ H D I h;refine wpAny_Assign_Subscript (thnE (G pins s σ H _ I h) λr w v c U e M=>thnE (q pins w σ c _ U M) λu E x d Y k N=>thn (p pins E σ d _ Y N) λiv s3 L=>?_) z;obtain⟨y,H3,j,n,a,J,m,g,b⟩:=L;subst m;obtain rfl:u=Value.ref a:=k;exact xJ C j g n e λs4 l=>⟨σ,J,l,b⟩
end
theorem AH{P:bP}(h:bz)(c:sysModules<h.objs.size):ObjOk P w H (h.push {cls:=.type "dict",data:=.dict #[]}) h.objs.size (.dT []) :=
 ⟨zzT _,zwV.mpr (Ne.symm (zzC c)),[],.nil,_,#[],0,zzw _ rfl,⟨rfl,rfl,rfl⟩,rfl,rfl,zxy⟩
def Hj:TE:=λ_ H Q=>∀p,H p=none->Q (.ref p) (upd H p (.dT []))
theorem AI:PE X (.Dict [] [] pos) Hj:=λpins s σ H Q I h =>
 wpAny_Dict_empty ⟨.ref s.heap.objs.size,_,I.laid (λ_ _ q=>zzj _ q) (zzn _) (AH s.heap I.big),rfl,h _ (I.hok.fresh (zzn _))⟩
structure M2(X:Cx)(o:Expr)(m:Str)(apos:Pos)(e f:Expr)(cpos:Pos):Prop where
 base:attributeBase o m X.env (eval o X.env)=eval o X.env
 few:((backTo cpos (starEach [e,f] X.env)).all (λx=>!x.1) && (backToKw cpos (keywordEach [] X.env)).all (λx=>x.1.isSome)
  && decide (([e,f]:List Expr).length+([]:List Keyword).length+(if ([]:List Keyword).isEmpty then 0 else 1)<30))=true
 line:(apos.endLine == cpos.line)=true
 trees:backTo cpos (starEach [e,f] X.env)=[(false,eval e X.env),(false,eval f X.env)]
def IsD(H:Hp)(a:bb):Prop:=(∃kvs,Rd H a (.dK kvs))∨∃kvs,Rd H a (.dT kvs)
theorem Hk{X:Cx}{pins:ai (bb×Obj)}(I:Inv X pins σ H s)(d:IsD H a) :
  s.TypeIs (.ref a) "dict" /\ (∀b,Value.ref a=.ref b->∃ob,s.heap.get? b=some ob/\ob.dict=none)/\(a==sysModules)=false:=by
 rcases d with ⟨kvs,e⟩|⟨kvs,e⟩
 ·obtain⟨_,hd,vs,_,J⟩:=xH I.hok e;refine⟨J.typeIs,λb q=>?_,hd⟩;cases q;obtain⟨ob,_,_,c,g,_⟩:=J;exact⟨ob,c,g.2.1⟩
 ·obtain⟨_,hd,xs,_,J⟩:=qU I.hok e;refine⟨J.typeIs,λb q=>?_,hd⟩;cases q;obtain⟨ob,_,_,c,g,_⟩:=J;exact⟨ob,c,g.2.1⟩
section
variable{d:V}{o:bo V}
theorem Hl(p:A.units+1<cLine)(I:Inv X pins σ H s)(g:DGet H a y o)(c:RelV y u)(Y:RelV d r)(h:∀j i,Inv X pins σ H i->RelV (o.getD d) j->Q j i) :
  wpAny (model X.prog X.w) A (call (.builtin "dict.get") [.ref a,u,r]) Q E s:=by
 rcases g with ⟨kvs,k,e,U,l⟩|⟨kvs,k,b,e,U,m,l⟩
 ·subst U;obtain⟨z,hd,vs,rel,J⟩:=xH I.hok e;refine call_meetsIn zwE J.typeIs PySem.F.entry_dict_get (PySem.F.args_dict_get_3 _ _ _) (meets_dict_get_default (aF X.prog X.w) a (AG c) hd r) ⟨_,J.mapOf,h _ _ (I.tok _) ?_⟩;rw[l];exact(rel.val k).getD Y
 ·subst U;cases (show u=Value.ref b from c);obtain⟨z,hd,xs,rel,J⟩:=qU I.hok e;refine call_meetsIn zwE J.typeIs PySem.F.entry_dict_get (PySem.F.args_dict_get_3 _ _ _) (meetsH_dict_get_default (tupleKind (aF X.prog X.w)) a b hd r) ⟨zxJ p,k,xs,lH I.hok m,J,h _ _ (I.tok _) ?_⟩;rw[l];exact(rel.val k).getD Y
end
def Hm(td ty tx:TE):TE:=λσ H Q=>td σ H λx c=>∃a,x=.ref a/\IsD c a/\ty σ c λy g=>tx σ g λz d=>∃o,DGet d a y o/\Q (o.getD z) d
section
variable{o f:bN}{tx:TE}
theorem AJ(C:X.A.units+1<cLine)(q:PE X o td)(he:PE X e ty)(hf:PE X f tx)(m:M2 X o "get" apos e f cpos):PE X (.Call (.Attribute o "get" apos) [e,f] [] cpos) (Hm td ty tx):=by
 intro pins s σ H Q I h;refine wpAny_Call_method m.base m.few m.line PySem.F.plainAttrs_dict zwE PySem.F.type_dict_get (thn (q pins s σ H _ I h) λu r G=>?_);obtain⟨x,c,J,b,a,p,d,L⟩:=G;subst p;obtain rfl:u=Value.ref a:=b;obtain⟨t1,t2,_⟩:=Hk J d;refine⟨t1,t2,?_⟩;rw[m.trees];refine Calls.callWith_builtin rfl (Calls.evalArgs_plain (Calls.spliced_cons (thnE (he pins r σ c _ J L) λiv v y i U k M =>
  Calls.spliced_cons (thn (hf pins v σ i _ U M) λfv s3 ⟨z,j,Y,n,ov,g,N⟩=>Calls.spliced_nil ?_))))
 exact Hl C Y g k n λw' s4 l rw'=>⟨_,j,l,rw',N⟩
end
end L2
namespace Att
open PySem PySem.W PySem.Calls PyProof.Rows
theorem jC{P:Params}{h:bz}:∀(ns:ai Int) (c:ai av),WellAll P h c (ns.map WData.int)->IntsAre c ns:=by
 intro ns
 induction ns with
 |nil =>
  intro c w;cases w;exact .nil
 |cons n ns J =>
  intro c w;cases w with
  |cons a b =>
   cases a;exact .cons _ _ (J _ b)
theorem xK{l:OpenLaw}{n:Nat}(u:l.most=some n){P:Params}{h:bz}{args:ai WData}{vals:ai av}
  (J:l.row.toRowW.claim.pre args=true) (j:WellAll P h vals args) :
  ∃a g b,vals=[Value.ref a]/\args=[WData.list (b.map WData.int)]/\h.get? a=some {cls:=.type "list",data:=.seq g.toArray}/\IntsAre g b/\b.length<=n:=by
 have i:WShape.hasAll [] args [.list .int]=true:=(pre_splitW J).1;have s:l.pre.holds [] {args:=args}=true:=(pre_splitW J).2;obtain⟨d,r,rfl,k,m⟩:=hasAllW_cons i;obtain rfl:=hasAllW_nil m;obtain⟨xs,rfl,p⟩:=hasW_list k;obtain⟨b,rfl⟩:=items_int p;have Y:b.length<=n:=by
  have c:(WTm.not (.lt (.lit (.int (n:Int))) (.len (.arg 0)))).holds [] {args:=[.list (b.map .int)]}=true:=by have c:=(holds_andW s).1;rw[u]at c;exact c
  have e:=condW_of c (w_not (w_lt w_lit (w_len_list (w_arg rfl))));refine Nat.le_of_not_lt λq=>?_
  first
   |(rw[zzJ q']at e;exact absurd e (by decide))
   |(simp at e;lia)
 cases j with
 |cons w x =>
  cases x;cases w with
  |list v U=>exact⟨_,_,b,rfl,rfl,v,jC b _ U,Y⟩
theorem xL(l:OpenLaw)(args:ai WData):l.row.toRowW.claim.post args (.bool true) args=true :=
 postW_of
  (show WShape.has [] (.bool true) .bool=true by first|rfl|decide|simp[WShape.has,WShape.arms,WShape.armsAll])
  (show (WTm.eq .res (.lit (.bool true))).value [] {args:=args,res:=some (.bool true),after:=args}=some (.bool (true==true)) from w_eq_bool (w_res rfl) w_lit) rfl
theorem attach_call{l:OpenLaw}{n:Nat}{q:bP}{U:ai Str}{p:(Str->bo av)->bz->Prop}{s:World->bz->Prop}{d:DefRec}
  (hn:l.most=some n) (C:d.params.defaults=[])
  (call:∀(w:World) (b J:bd) (i m:Str->bo av) (e:bb) (o:Obj) (pm g doc:av) (a:bb) (c:ai av) (j:ai Int),
   Ground q U [] p w b i m J.heap->s w J.heap ->
   J.heap.get? e=some o->o.data=.func (docDef d.name d.params d.body d.scope pm g doc)->J.heap.CodeRec g d.name->i d.name=some (.ref e) ->
   J.heap.get? a=some {cls:=.type "list",data:=.seq c.toArray}->IntsAre c j->j.length<=n->J.gens = #[] ->
   codeAny (model l.prog w) callerA (.call (.ref e) ⟨[.ref a],[]⟩) (λr k=>r=.ok (.ret (.bool true))/\OldK J.heap k.heap/\k.os=J.os/\AllBare k.gens) J) :
  WalkO q U p s l.row.toRowW d [] (λf c=>PySem.call f c):=by
 intro w b J i m G Y e o pm g doc I kV ho hd A u E Q args vals as z hlay hrd H hlo;obtain rfl:I=.none:=Dflts.none u C;obtain rfl:kV=.none:=Dflts.noKw u;obtain⟨a,c,j,rfl,rfl,y,v,x⟩:=xK hn z H;refine enter_call (zwh (call w b J i m e o pm g doc a c j G Y ho (fd_plain hd) A E y v x Q) λr k hq=>?_);obtain⟨rfl,L,M,N⟩:=hq;exact⟨.inl ⟨.bool true,.bool true,[],rfl,λ_=>rfl,.bool true,xL l _,λ_=>⟨List.Pairwise.nil,λ_ T=>(nomatch T)⟩⟩,L,M,N⟩
end Att
namespace L2
open PySem PySem.Spec PyProof.Rows
variable{A:Prop}{H H1 H2:Hp}{N ps:ai Str}{T:String}{a p:bb}{c i l y:Int}{cdv ct oc pm:av}{es:ai bN}{k n:Nat}{ns:ai Int}{u:HO}{x:Str}
variable{X:Cx}{pos:Pos}
theorem vals_ints:∀{vs:ai av} {ns:ai Int},IntsAre vs ns->Vals (ns.map V.int) vs:=by
 intro vs ns h
 induction h with
 |nil=>exact .nil|cons n t h J=>exact .cons ⟨t,rfl⟩ J
def gY(s:Stmt):Arguments:=match s with
 |.FunctionDef _ a _ _ _ _ _ _ _ _=>a|_=>{posonlyargs:=[],args:=[],vararg:=none,kwonlyargs:=[],kw_defaults:=[],kwarg:=none,defaults:=[]}
def ck(s:Stmt):ai Stmt:=match s with
 |.FunctionDef _ _ b _ _ _ _ _ _ _=>b|_=>[]
def ah(s:Stmt):Scope:=match s with
 |.FunctionDef _ _ _ _ _ _ b _ _ _=>b|_=>{kind:=.function,names:=[],isGenerator:=false,isCoroutine:=false}
abbrev CX0:CXT:=λ_ _ _ _ _ _=>False
abbrev E0:XK:=λ_ _ _=>False
theorem AK{X:Cx}:xz CX0 X E0:=λ_ _ _ _ _ _ _ h=>h.elim
structure Fun(K:zvi)(x qual:Str)(st:Stmt)(f:Addr)(fd:FuncData):Prop where
 ex:∃(oc:Value) (od:Option Addr) (kV doc pm:Value) (an:Option Addr) (cdv ct:Value) (osl:Array (Option Value)),
  fd=PySem.W.fnOf x qual (gY st) (ck st) (ah st) .none kV doc pm an cdv ct/\K.lookup f=some ⟨oc,od,.func fd,osl⟩/\PySem.W.codeIn K cdv qual=true
 kp:PySem.W.keepIn K (.ref f)=true
section
variable{P:bP}{w:World}{K:zvi}{mg:Str->bo av}{base:bz}
theorem Fun.ok{d:Str}{st:Stmt}{f:bb}{fd:bp}{sp:Sp}(F:Fun K x d st f fd)(S:FnScope N ps (ah st))(len:∀e H Q E,sp e H Q E->e.length=ps.length)(J:∀(cdv:av) (A:Around) (b:ai Env) (s:bd) (H:Hp) (e:ai V) (Q:VK) (E:XK),Room k (A.deeper (envOfC d (ah st) s.heap.objs.size f cdv))->sp e H Q E ->
   ∃t,PSs (cxOf CX0 P w K mg base N d (ah st) f cdv A b s H E).nox (ck st) t/\t {nx:=λ_ g=>Q .non g,rt:=Q} (start N e) H):FnOk P w K mg base CX0 (k+1) f fd ps sp:=by
 obtain⟨oc,od,kV,doc,pm,an,cdv,ct,osl,rfl,lk,U⟩:=F.ex;refine Ej lk U S len λA b s H e Q E j Y=>?_;obtain⟨t,h,q⟩:=J cdv A b s H e Q E j Y;exact⟨t,h.nox,q⟩
theorem Fun.binds{b:Str}{st:Stmt}{f:bb}{fd:bp}(F:Fun K x b st f fd)(h:∀(kV doc pm:av) (d:bo bb) (cdv ct:av) (e:ai av),e.length=ps.length->bindArgs (PySem.W.fnOf x b (gY st) (ck st) (ah st) .none kV doc pm d cdv ct) ⟨e,[]⟩=pure (ps.zip e)):Binds K fd ps []:=by obtain⟨oc,od,kV,doc,pm,d,cdv,ct,osl,rfl,lk,hcd⟩:=F.ex;exact .all (h kV doc pm d cdv ct)
theorem CG{b:Str}{st:Stmt}{f:bb}{od e:bo bb}{d:Array (bo av)}{kV doc:av}(l:K.lookup f=some ⟨oc,od,.func (PySem.W.fnOf x b (gY st) (ck st) (ah st) .none kV doc pm e cdv ct),d⟩)(c:PySem.W.codeIn K cdv b=true)(k:PySem.W.keepIn K (.ref f)=true):Fun K x b st f (PySem.W.fnOf x b (gY st) (ck st) (ah st) .none kV doc pm e cdv ct):=⟨⟨oc,od,kV,doc,pm,e,cdv,ct,d,rfl,l,c⟩,k⟩
end
theorem pv(i:Nat){pos:Pos}(b:X.N[i]?=some x:=by rfl)(U:Vis X.env.scope x:=by first|exact Or.inl rfl|exact Or.inr (Or.inl rfl)|exact Or.inr (Or.inr rfl))(hd:(x==("__debug__" : Str))=false:=by decide)(J:(x==("__classdict__" : Str))=false:=by decide):PE X (.Name x pos) (tVar i):=Gx b U hd J
theorem iteF{B:Prop}(h:B):if false=true then A else B:=by exact h
theorem iteT{B:Prop}(h:A):if true=true then A else B:=by exact h
theorem ite2{c B:Prop}[Decidable c](b:c->A)(d:¬c->B):if c then A else B:=by
 by_cases h:c
 ·rw[zzi h];exact b h
 ·rw[zzg h];exact d h
def Same(H H':Hp):Prop:=∀b o,H b=some o->H' b=some o
def gLs(K:zvi)(n:Nat)(t:TGs):TG:=λv d H Q=>∃a b,v=.ref a/\SqL K H a b/\b.length=n/\t b d H Q
theorem Kd{t:TGs}(z:X.calm=true)(h:PGs X es t)(E:(assignEach es X.env).length=n:=by rfl)(J:(assignEach es X.env).findIdx? (·.1)=none:=by rfl):PG X (.Tuple es k pos) (gLs X.K n t):=by intro d s m H v u Q I r g;obtain⟨a,c,q,G,C,g⟩:=g;subst q;cases r;obtain⟨j,U,M,hz⟩:=I.list G;refine zzb (zwy ?_);unfold unpack;rw[show (assignEach es X.env).length=j.toArray.size by simp[E,←C,U.length],J];refine zzb (zyn (PySem.W.kun_itemsOf (I.ok.hd z) M.isList λw L=>?_));have Y:Inv X d m H {s with heap:=w}:=I.kept λb o e=>L b o (zzC (zzv e)) e;exact h d _ m H c _ Q Y (by simpa using U) g
def knV(H:Hp):V->Prop
 |.non=>True|.bl _=>True|.int _=>True|.str _=>True|.ref a=>(∃d,H a=some (.lst d))∨(∃o d,H a=some (.frz o (.lst d)))∨(∃d,H a=some (.tup d))∨(∃b,H a=some (.dK b))∨(∃b,H a=some (.dT b))|_=>False
def Hn:V->Bool
 |.int _=>true|.bl _=>true|_=>false
def Ke:V->Bool
 |.bl _=>true|_=>false
def isTupO:bo HO->Bool
 |some (.tup _)=>true|_=>false
def Ho:bo HO->Bool
 |some (.lst _)=>true|some (.frz _ (.lst _))=>true|_=>false
def bv(H:Hp):V->Bool
 |.ref a=>isTupO (H a)|_=>false
def dc(H:Hp):V->Bool
 |.ref a=>Ho (H a)|_=>false
theorem aQ{K:zvi}{t:String}{b:Bool}(h:(if (Value.type t==Value.type T)=true then some true else if PySem.W.kitMeta T=true then(PySem.fastBuiltinMro t).map (·.contains (.type T)) else none)=some b):PySem.W.kitOne K (.type t) (.type T)=some b:=h
theorem gZ{f:Hp->V->Bool}(m:∀(H:Hp),PySem.W.kitOne X.K (.type "NoneType") (.type T)=some (f H .non))(g:∀(H:Hp) c,PySem.W.kitOne X.K (.type "bool") (.type T)=some (f H (.bl c)))(j:∀(H:Hp) i,PySem.W.kitOne X.K (.type "int") (.type T)=some (f H (.int i)))(v:∀(H:Hp) x,PySem.W.kitOne X.K (.type "str") (.type T)=some (f H (.str x)))(Y:∀(H:Hp) a xs,H a=some (.lst xs)->PySem.W.kitOne X.K (.type "list") (.type T)=some (f H (.ref a)))(hf:∀(H:Hp) a o xs,H a=some (.frz o (.lst xs))->PySem.W.kitOne X.K (.type "list") (.type T)=some (f H (.ref a)))(z:∀(H:Hp) a xs,H a=some (.tup xs)->PySem.W.kitOne X.K (.type "tuple") (.type T)=some (f H (.ref a)))(hd:∀(H:Hp) a kvs,H a=some (.dK kvs)->PySem.W.kitOne X.K (.type "dict") (.type T)=some (f H (.ref a)))(J:∀(H:Hp) a kvs,H a=some (.dT kvs)->PySem.W.kitOne X.K (.type "dict") (.type T)=some (f H (.ref a))) :
  cZ X (.builtin "isinstance") (λxs H Q=>∃x,xs=[x,.ty T]/\knV H x/\Q (.bl (f H x)) H):=by
 intro d s M H xs us Q I r h;obtain⟨x,rfl,U,q⟩:=h;obtain⟨L,u2,rfl,C,E⟩:=GU r;cases E;have fin:∀t,TyOf X.K H x t->PySem.W.kitOne X.K t (.type T)=some (f H x)->wpAny (model X.prog X.w) X.A (call (.builtin "isinstance") [L,.type T]) (EP X d M Q) X.xe s :=
  λt ty e=>xx I C ty e λG=>⟨.bl (f H x),H,I.tok G,rfl,q⟩
 cases x with
 |non=>exact fin _ .non (m H)|bl c=>exact fin _ (.bl c) (g H c)|int i=>exact fin _ (.int i) (j H i)|str y=>exact fin _ (.str y) (v H y)|ref a =>
  rcases U with ⟨b,e⟩|⟨o,b,e⟩|⟨b,e⟩|⟨b,e⟩|⟨b,e⟩
  ·exact fin _ (.lst e) (Y H a b e)
  ·exact fin _ (.frz e) (hf H a o b e)
  ·exact fin _ (.tup e) (z H a b e)
  ·exact fin _ (.dK e) (hd H a b e)
  ·exact fin _ (.dT e) (J H a b e)
 |_=>exact U.elim
theorem jD{K:zvi}:PySem.W.kitOne K (.type "NoneType") (.type "int")=some false:=aQ (by decide +kernel)
theorem qX{K:zvi}:PySem.W.kitOne K (.type "bool") (.type "int")=some true:=aQ (by decide +kernel)
theorem vP{K:zvi}:PySem.W.kitOne K (.type "int") (.type "int")=some true:=aQ (by decide +kernel)
theorem vQ{K:zvi}:PySem.W.kitOne K (.type "str") (.type "int")=some false:=aQ (by decide +kernel)
theorem jE{K:zvi}:PySem.W.kitOne K (.type "list") (.type "int")=some false:=aQ (by decide +kernel)
theorem oY{K:zvi}:PySem.W.kitOne K (.type "tuple") (.type "int")=some false:=aQ (by decide +kernel)
theorem jF{K:zvi}:PySem.W.kitOne K (.type "dict") (.type "int")=some false:=aQ (by decide +kernel)
theorem iU{K:zvi}:PySem.W.kitOne K (.type "NoneType") (.type "bool")=some false:=aQ (by decide +kernel)
theorem oZ{K:zvi}:PySem.W.kitOne K (.type "bool") (.type "bool")=some true:=aQ (by decide +kernel)
theorem qY{K:zvi}:PySem.W.kitOne K (.type "int") (.type "bool")=some false:=aQ (by decide +kernel)
theorem qZ{K:zvi}:PySem.W.kitOne K (.type "str") (.type "bool")=some false:=aQ (by decide +kernel)
theorem iF{K:zvi}:PySem.W.kitOne K (.type "list") (.type "bool")=some false:=aQ (by decide +kernel)
theorem mS{K:zvi}:PySem.W.kitOne K (.type "tuple") (.type "bool")=some false:=aQ (by decide +kernel)
theorem iG{K:zvi}:PySem.W.kitOne K (.type "dict") (.type "bool")=some false:=aQ (by decide +kernel)
theorem dQ{K:zvi}:PySem.W.kitOne K (.type "NoneType") (.type "tuple")=some false:=aQ (by decide +kernel)
theorem gd{K:zvi}:PySem.W.kitOne K (.type "bool") (.type "tuple")=some false:=aQ (by decide +kernel)
theorem iH{K:zvi}:PySem.W.kitOne K (.type "int") (.type "tuple")=some false:=aQ (by decide +kernel)
theorem iI{K:zvi}:PySem.W.kitOne K (.type "str") (.type "tuple")=some false:=aQ (by decide +kernel)
theorem cM{K:zvi}:PySem.W.kitOne K (.type "list") (.type "tuple")=some false:=aQ (by decide +kernel)
theorem fJ{K:zvi}:PySem.W.kitOne K (.type "tuple") (.type "tuple")=some true:=aQ (by decide +kernel)
theorem cN{K:zvi}:PySem.W.kitOne K (.type "dict") (.type "tuple")=some false:=aQ (by decide +kernel)
theorem iV{K:zvi}:PySem.W.kitOne K (.type "NoneType") (.type "list")=some false:=aQ (by decide +kernel)
theorem pd{K:zvi}:PySem.W.kitOne K (.type "bool") (.type "list")=some false:=aQ (by decide +kernel)
theorem rf{K:zvi}:PySem.W.kitOne K (.type "int") (.type "list")=some false:=aQ (by decide +kernel)
theorem rm{K:zvi}:PySem.W.kitOne K (.type "str") (.type "list")=some false:=aQ (by decide +kernel)
theorem iJ{K:zvi}:PySem.W.kitOne K (.type "list") (.type "list")=some true:=aQ (by decide +kernel)
theorem mT{K:zvi}:PySem.W.kitOne K (.type "tuple") (.type "list")=some false:=aQ (by decide +kernel)
theorem iK{K:zvi}:PySem.W.kitOne K (.type "dict") (.type "list")=some false:=aQ (by decide +kernel)
theorem rp:cZ X (.builtin "isinstance") (λxs H Q=>∃x,xs=[x,.ty "int"]/\knV H x/\Q (.bl (Hn x)) H) :=
 gZ (λ_=>jD) (λ_ _=>qX) (λ_ _=>vP) (λ_ _=>vQ) (λ_ _ _ _=>jE) (λ_ _ _ _ _=>jE) (λ_ _ _ _=>oY) (λ_ _ _ _=>jF) (λ_ _ _ _=>jF)
theorem pf:cZ X (.builtin "isinstance") (λxs H Q=>∃x,xs=[x,.ty "bool"]/\knV H x/\Q (.bl (Ke x)) H) :=
 gZ (λ_=>iU) (λ_ _=>oZ) (λ_ _=>qY) (λ_ _=>qZ) (λ_ _ _ _=>iF) (λ_ _ _ _ _=>iF) (λ_ _ _ _=>mS) (λ_ _ _ _=>iG) (λ_ _ _ _=>iG)
theorem mU:cZ X (.builtin "isinstance") (λxs H Q=>∃x,xs=[x,.ty "tuple"]/\knV H x/\Q (.bl (bv H x)) H) :=
 gZ (λ_=>dQ) (λ_ _=>gd) (λ_ _=>iH) (λ_ _=>iI) (λH a xs e=>by simp only[bv,e,isTupO];exact cM) (λH a o xs e=>by simp only[bv,e,isTupO];exact cM) (λH a xs e=>by simp only[bv,e,isTupO];exact fJ) (λH a xs e=>by simp only[bv,e,isTupO];exact cN) (λH a xs e=>by simp only[bv,e,isTupO];exact cN)
def Big(i:Int):Prop:=i.natAbs.log2<8000
theorem xM(h:i.natAbs<2^8000):Big i:=by
 unfold Big;rcases Nat.eq_zero_or_pos i.natAbs with h0|J
 ·rw[h0];decide
 ·exact(Nat.log2_lt (zxA J)).mpr h
theorem Big.bits(h:Big i):Builtin.Int.intBits i<=8000:=by
 unfold Builtin.Int.intBits;unfold Big at h;split
 ·exact zzT _
 ·lia
def CMulB(i j:Int):Prop:=(-(2^64)<i/\i<2^64)∨(-(2^64)<j/\j<2^64)∨(Big i/\Big j)
theorem CMulB.ok(h:CMulB i c):IntMulOk i c:=by
 rcases h with ⟨b,d⟩|⟨b,d⟩|⟨b,d⟩
 ·exact .of_left (intBits_le_64 b d)
 ·exact .of_right (intBits_le_64 b d)
 ·have b1:=b.bits;have b2:=d.bits;unfold IntMulOk;have:Builtin.Int.intTooBig (Builtin.Int.intBits i+Builtin.Int.intBits c)=false:=by
   refine zyk ?_;have e:bitsLine=134217728:=by decide
   lia
  rw[this];simp
theorem hU:OpR X (binaryOp .Mult) (rI CMulB λi j=>.int (i*j)):=opI λ_ _ _ _ _ _ _ b q=>mul_int q b.ok
def Hq(_ j:Int):Prop:=0<j/\Big j
theorem mV:OpR X (binaryOp .FloorDiv) (rI Hq λi j=>.int (i / j)):=opI λi j _ _ _ _ _ b q=>by have h1:(0:Int)<j:=b.1;exact floordiv_int (by lia) (by rw[Int.fdiv_eq_ediv_of_nonneg i (by lia)];exact q) (.inl (PyProof.noPylong_of_log2 (zxS b.2 (by decide))))
def Hr(_ j:Int):Prop:=j≠0/\Big j
theorem AL:OpR X (binaryOp .FloorDiv) (rI Hr λi j=>.int (i.fdiv j)):=opI λi j _ _ _ _ _ b q =>
 floordiv_int b.1 q (.inl (PyProof.noPylong_of_log2 (zxS b.2 (by decide))))
structure Df(K:zvi)(mg:Str->Option Value)(x:Str)(st:Stmt)(ps:List Str)(f:Addr)(fd:FuncData):Prop where
 F:Fun K x x st f fd
 m:mg x=some (.ref f)
 b:Binds K fd ps []
structure Dd(K:zvi)(mg:Str->Option Value)(x:Str)(st:Stmt)(ps:List Str) where
 f:Addr
 fd:FuncData
 d:Df K mg x st ps f fd
abbrev Dd.Ok{K:zvi}{mg:Str->bo av}{x:Str}{st:Stmt}{ps:ai Str}(D:Dd K mg x st ps)(P:bP)(w:World)(base:bz)(CX:CXT)(k:Nat)(sp:Sp):Prop:=FnOk P w K mg base CX k D.f D.fd ps sp
def SBut(p:bb)(H H':Hp):Prop:=∀b o,b≠p->H b=some o->H' b=some o
theorem SBut.trans(x:SBut p H H1)(y:SBut p H1 H2):SBut p H H2:=λb o n e=>y b o n (x b o n e)
theorem SBut.upd{p:bb}{H:Hp}{o:HO}:SBut p H (upd H p o):=λb u n e=>by rw[af n];exact e
theorem tW{q:bb}{o:HO}(h:H q=none):Same H (upd H q o):=λb u e=>by rw[af (bQ e h)];exact e
theorem cG{q:bb}{o:HO}(h:H p=none)(e:H q=some u):upd H p o q=some u:=by rw[af (bQ e h)];exact e
def Scr(K:zvi)(H:Hp)(a:bb)(ns:ai Int):Prop:=(∃o,H a=some (.frz o (.lst (ns.map V.int))))∨∀b,SqL K b a (ns.map V.int)
theorem Scr.sq{K:zvi}(h:Scr K H a ns):SqL K H a (ns.map V.int):=by
 rcases h with ⟨o,h⟩|h
 ·exact .inl (.inr ⟨o,h⟩)
 ·exact h H
structure Pen(K:zvi)(H:Hp)(p a:Addr)(ns:List Int)(t l:Int):Prop where
 lst:H p=some (.lst [.ref a,.int t,.int l])
 scr:Scr K H a ns
 t0:0 <= t
theorem Pen.put{K:zvi}{t:Int}(h:Pen K H p a ns t l)(h0:0<=c):Pen K (upd H p (.lst [.ref a,.int c,.int i])) p a ns c i:=by
 refine⟨ae,?_,h0⟩;rcases h.scr with ⟨o,e⟩|e
 ·refine .inl ⟨o,?_⟩;rw[af (iT e h.lst (by intro z;cases z))];exact e
 ·exact .inr e
theorem Pen.same{K:zvi}{t:Int}(h:Pen K H p a ns t l)(s:Same H H1):Pen K H1 p a ns t l:=by
 refine⟨s _ _ h.lst,?_,h.t0⟩;rcases h.scr with ⟨o,e⟩|e
 ·exact .inl ⟨o,s _ _ e⟩
 ·exact .inr e
theorem xN(h0:0<=i)(h:i<(ns.length:Int)):atI (ns.map V.int) i=some (.int (ns.getD i.toNat 0)):=by
 obtain⟨j,rfl⟩:=zwo h0;have J:j<ns.length:=by lia
 refine qT ?_;simp[zzl,J]
def Kf:R2:=λx y H Q=>∃p b i v,x=.ref p/\y=.int i/\H p=some (.tup b)/\atI b i=some v/\Q v H
def Kg:R2:=λx y H Q=>∃p b i v,x=.ref p/\y=.int i/\H p=some (.lst b)/\atI b i=some v/\Q v H
theorem Ew:IxR X Kf:=by rintro value slice b s m H x y v u Q I U Y ⟨p,j,i,z,d,e,h,J,q⟩ g;exact Hc value slice b s m H x y v u Q I U Y ⟨p,j,i,z,d,e,SqT.of h,J,q⟩ g
theorem tX:IxR X Kg:=by rintro value slice b s m H x y v u Q I U Y ⟨p,j,i,z,d,e,h,J,q⟩ g;exact mM value slice b s m H x y v u Q I U Y ⟨p,j,i,z,d,e,SqL.of h,J,q⟩ g
def lenO:bo HO->bo Nat
 |some (.lst b)=>some b.length|some (.tup b)=>some b.length|_=>none
def Kh:ai V->Hp->VK->Prop:=λb H Q=>∃p n,b=[.ref p]/\lenO (H p)=some n/\Q (.int n) H
theorem xO:cZ X (.builtin "len") Kh:=by
 intro b s j H xs g Q I r h;obtain⟨p,n,rfl,e,q⟩:=h;cases o:H p with
 |none=>rw[o]at e;cases e
 |some m =>
  rw[o]at e;cases m with
  |lst d=>cases e;exact cA b s j H _ g Q I r ⟨p,d,rfl,.inl (SqL.of o),q⟩
  |tup d=>cases e;exact cA b s j H _ g Q I r ⟨p,d,rfl,.inr (SqT.of o),q⟩
  |_=>cases e
def gLsH(n:Nat)(t:TGs):TG:=λv d H Q=>∃a b,v=.ref a/\H a=some (.lst b)/\b.length=n/\t b d H Q
theorem Hs{t:TGs}(g:X.calm=true)(h:PGs X es t)(j:(assignEach es X.env).length=n:=by rfl)(J:(assignEach es X.env).findIdx? (·.1)=none:=by rfl):PG X (.Tuple es k pos) (gLsH n t):=by rintro b s w H v u Q I r ⟨a,m,d,e,U,q⟩;exact Kd g h j J b s w H v u Q I r ⟨a,m,d,SqL.of e,U,q⟩
def Ki(n:Nat)(t:TGs):TG:=λv d H Q=>∃a b,v=.ref a/\H a=some (.tup b)/\b.length=n/\t b d H Q
theorem Ex{t:TGs}(g:X.calm=true)(h:PGs X es t)(j:(assignEach es X.env).length=n:=by rfl)(J:(assignEach es X.env).findIdx? (·.1)=none:=by rfl):PG X (.Tuple es k pos) (Ki n t):=by rintro b s w H v u Q I r ⟨a,m,d,e,U,q⟩;exact GI g h j J b s w H v u Q I r ⟨a,m,d,SqT.of e,U,q⟩
def xP(K:zvi):Sp:=λg H Q _=>∃(p a:bb) (ns:ai Int) (t l m:Int),g=[.ref p,.int m]/\Pen K H p a ns t l/\1<=m/\m<=10^60 /\
 ∀(r e d:Int) (b:Hp),0<=r->r<m->Pen K b p a ns e d->SBut p H b->Q (.int r) b
def CH(K:zvi):Sp:=λd H Q _=>∃(a:bb) (ns:ai Int),d=[.ref a]/\Scr K H a ns/\∀(p:bb) (b:Hp),H p=none->Pen K b p a ns 0 0->Same H b->Q (.ref p) b
theorem mW{x d:Int}(h0:0<d)(h:d<=18446744073709551616):CMulB (x % d) y:=by have h1:=zxK x (show d≠0 by lia);have h2:=zxr x h0;exact .inl ⟨by lia,by lia⟩
theorem AM(h : -18446744073709551616<c/\c<18446744073709551616:=by decide):CMulB c y:=.inl h
theorem AN(h : -18446744073709551616<c/\c<18446744073709551616:=by decide):CMulB y c:=.inr (.inl h)
theorem mpos(h:0<c:=by decide):0<c:=h
theorem xQ(h0:0<=c)(h:c<=10^60):Big c:=xM (zzH (zzz (show c.natAbs<=10^60 by lia) (show 10^60<2^200 by decide)) (zwN (by decide) (by decide)))
theorem jG(h0:0<=c)(h:c<=18446744073709551616):Big c:=xM (zzH (zzz (show c.natAbs<=18446744073709551616 by lia) (show 18446744073709551616<2^65 by decide)) (zwN (by decide) (by decide)))
end L2
namespace Ra
variable{a b x y:Int}
structure Low(a b x y:Int):Prop where
 pos:0<y
 cop:Int.gcd x y=1
 eq:x*b=a*y
theorem fu{z:Int}(h:Int.gcd x y=1)(hd:y ∣ x*z):y ∣ z:=by
 have c:Nat.Coprime y.natAbs x.natAbs:=by show Nat.gcd y.natAbs x.natAbs=1;rw[Nat.gcd_comm];exact h
 have d:y.natAbs ∣ x.natAbs*z.natAbs:=by rw[←Int.natAbs_mul];exact zxT.mpr hd
 exact zxT.mp (c.dvd_of_dvd_mul_left d)
theorem Low.uniq{x' y':Int}(g:b≠0)(h:Low a b x y)(c:Low a b x' y'):x=x'/\y=y':=by
 have e:x*y'=x'*y:=by
  have d:b*(x*y')=b*(x'*y):=by have:=h.eq;have:=c.eq;grind
  exact Int.eq_of_mul_eq_mul_left g d
 have J:y ∣ y':=fu h.cop ⟨x',by grind⟩;have U:y' ∣ y:=fu c.cop ⟨x,by grind⟩;have Y:y=y':=Int.dvd_antisymm (Int.le_of_lt h.pos) (Int.le_of_lt c.pos) J U;subst Y;exact⟨Int.eq_of_mul_eq_mul_right (Int.ne_of_gt h.pos) e,rfl⟩
theorem low_of{a b d:Int}(q:b≠0)(hd:d=if b<0 then -((Int.gcd a b:Nat):Int) else((Int.gcd a b:Nat):Int)):Low a b (a.fdiv d) (b.fdiv d):=by
 have r:0<Int.gcd a b:=zxo a q;obtain⟨Y,i⟩:((Int.gcd a b:Nat):Int) ∣ a:=Int.gcd_dvd_left ..;obtain⟨U,J⟩:((Int.gcd a b:Nat):Int) ∣ b:=Int.gcd_dvd_right ..;have m:Int.gcd Y U=1:=by
  have e:Int.gcd a b=Int.gcd a b*Int.gcd Y U:=by have l:=Int.gcd_mul_left ((Int.gcd a b:Nat):Int) Y U;rw[←i,←J]at l;simpa using l
  have:Int.gcd a b*1=Int.gcd a b*Int.gcd Y U:=by lia
  exact(Nat.eq_of_mul_eq_mul_left r this).symm
 generalize hG:((Int.gcd a b:Nat):Int)=G at *;by_cases j:b<0
 ·rw[zzi j]at hd;have n:a=d*(-Y):=by rw[hd,i];grind
  have p:b=d*(-U):=by rw[hd,J];grind
  have k:d≠0:=by lia
  have c:a.fdiv d = -Y:=by rw[n,zxD _ k]
  have g:b.fdiv d = -U:=by rw[p,zxD _ k]
  rw[c,g];refine⟨?_,by rw[Int.gcd_neg,Int.neg_gcd];exact m,?_⟩
  ·have:G*U<0:=by rw[←J];exact j
   have:=Int.neg_of_mul_neg_right this (by lia);lia
  · grind
 ·rw[zzg j]at hd;have c:a.fdiv d=Y:=by rw[hd,i,zxD _ (by lia)]
  have g:b.fdiv d=U:=by rw[hd,J,zxD _ (by lia)]
  rw[c,g];refine⟨?_,m,?_⟩
  ·have:0<G*U:=by rw[←J];lia
   exact Int.pos_of_mul_pos_right this (by lia)
  · grind
theorem gcd_step(hb:b≠0):Int.gcd b (a.fmod b)=Int.gcd a b:=by
 have e:a=b*a.fdiv b+a.fmod b:=(Int.mul_fdiv_add_fmod a b).symm
 conv=>rhs;rw[e]
 rw[Int.gcd_mul_left_add_left,Int.gcd_comm]
theorem fmod_less(e:b≠0):(a.fmod b).natAbs<b.natAbs:=by
 rcases Int.lt_or_gt_of_ne e with h|h
 ·have c:=Int.fmod_nonneg_of_pos (-a) (b:=-b) (by lia);have d:=Int.fmod_lt_of_pos (-a) (b:=-b) (by lia);have h4:(-a).fmod (-b) = -(a.fmod b):=by
   rw[Int.neg_fmod_neg]
  lia
 ·have c:=Int.fmod_nonneg_of_pos a h;have d:=Int.fmod_lt_of_pos a h;lia
theorem gcd_zero{a:Int}:(if a<0 then -a else a)=((Int.gcd a 0:Nat):Int):=by rw[Int.gcd_zero_right];split<;>lia
theorem Low.le(d:b≠0)(h:Low a b x y):x.natAbs<=a.natAbs/\y.natAbs<=b.natAbs:=by
 have J:y ∣ b:=fu h.cop ⟨a,by have:=h.eq;grind⟩;have Y:y.natAbs<=b.natAbs:=zvg (zwX.mpr d) (zxT.mpr J);refine⟨?_,Y⟩;by_cases c:a=0
 ·have e:=h.eq;rw[c,Int.zero_mul]at e;rcases Int.mul_eq_zero.mp e with z|z
  ·rw[z];exact zzT _
  ·exact absurd z d
 ·have U:x ∣ a:=fu (by rw[Int.gcd_comm];exact h.cop) ⟨b,by have:=h.eq;grind⟩;exact zvg (zwX.mpr c) (zxT.mpr U)
end Ra
namespace L2
open PySem PySem.Spec PyProof.Rows
variable{A:Around}{C T a c:bb}{ch fp:ai bb}{cs:ai bN}{e it0 tg:bN}{env:Env}{f0 f1:av}{h' h₁:bz}{its:Array av}{l r:ai (Str×bb)}{m n t':Nat}{p pos ps tp:Pos}{sc:Scope}{vs:ai av}{w:World}{y:Str}
variable{X:Cx}{pins:ai (bb×Obj)}{σ:St}{H:Hp}{s:bd}{prog:bP}{w:World}{A:Around}{E:av->bd->Prop}
def dw(cells:ai (Str×bb)):ai (Str×NameKind)->ai (Str×bb)->bo (ai (Str×bb))
 |[],cs=>some cs| (n,k)::r,cs=>if k==.free then(match cells.lookup n with
  |some c=>dw cells r ((n,c)::cs)|none=>none) else dw cells r cs
theorem gf{cl:ai (Str×bb)}(h:dw env.cells sc.names []=some cl):closureFor sc env=pure cl:=by
 simp only[closureFor];generalize ([]:ai (Str×bb))=cs at h ⊢;generalize sc.names=l at h ⊢
 induction l generalizing cs with
 |nil=>cases h;rfl
 |cons a r J =>
  obtain⟨n,k⟩:=a;unfold dw at h;rw[List.forIn_cons];by_cases b:(k==NameKind.free)=true
  ·rw[zzi b]at h;cases e:env.cells.lookup n with
   |none=>rw[e]at h;cases h
   |some c =>
    rw[e]at h;have:=J _ h;simp only[b,zwC,cellOf,e,pure_bind];exact this
  ·rw[zzg b]at h;have:=J _ h;simp only[b,zxc,zxB,pure_bind];exact this
theorem hV{cells cl:ai (Str×bb)}:∀{l:ai (Str×NameKind)} {cs:ai (Str×bb)},dw cells l cs=some cl->(∀y c,cs.lookup y=some c->cells.lookup y=some c)->∀y c,cl.lookup y=some c->cells.lookup y=some c
 |[],cs,h,b,y,c,e=>by cases h;exact b y c e
 |(n,k)::r,cs,h,b,y,c,e=>by
  unfold dw at h;by_cases g:(k==NameKind.free)=true
  ·rw[zzi g]at h;cases q:cells.lookup n with
   |none=>rw[q]at h;cases h
   |some c' =>
    rw[q]at h;refine hV h (λz d U=>?_) y c e;by_cases J:(z==n)=true
    ·rw[zyC,J]at U;cases U;rw[zwD J];exact q
    ·rw[zyC,(Bool.not_eq_true _).mp J]at U;exact b z d U
  ·rw[zzg g]at h;exact hV h b y c e
theorem fw{cells cl:ai (Str×bb)}:∀{l:ai (Str×NameKind)} {cs:ai (Str×bb)},dw cells l cs=some cl->∀y,((y,NameKind.free)∈l∨∃c,cs.lookup y=some c)->∃c,cl.lookup y=some c
 |[],cs,h,y,e=>by
  cases h;rcases e with e|e
  ·simp at e
  ·exact e
 |(n,k)::r,cs,h,y,e=>by
  unfold dw at h;by_cases b:(k==NameKind.free)=true
  ·rw[zzi b]at h;cases q:cells.lookup n with
   |none=>rw[q]at h;cases h
   |some d =>
    rw[q]at h;refine fw h y ?_;rcases e with e|⟨c,e⟩
    ·rcases zzr.mp e with e|e
     ·cases e;exact .inr ⟨d,by rw[zyC,beq_self_eq_true]⟩
     ·exact .inl e
    ·by_cases J:(y==n)=true
     ·exact .inr ⟨d,by rw[zyC,J]⟩
     ·exact .inr ⟨c,by rw[zyC,(Bool.not_eq_true _).mp J];exact e⟩
  ·rw[zzg b]at h;refine fw h y ?_;rcases e with e|e
   ·rcases zzr.mp e with e|e
    ·cases e;exact absurd rfl b
    ·exact .inl e
   ·exact .inr e
inductive Cap(X:Cx)(scope:Scope):List Str->List (Option Nat)->Prop where
 |nil:Cap X scope [] []
 |own {x:Str} {N:List Str} {js:List (Option Nat)} (h:Cap X scope N js):Cap X scope (x::N) (none::js)
 |cap {x:Str} {j:Nat} {N:List Str} {js:List (Option Nat)} (h1:X.N[j]? = some x) (h2:X.env.kindOf x=some .cell∨X.env.kindOf x=some .free)
   (h3:scope.names.lookup x=some .free) (h:Cap X scope N js):Cap X scope (x::N) (some j::js)
def sub1(σ:St):bo Nat->bo V
 |none=>none|some j=>(σ[j]?).join
def sub(js:ai (bo Nat))(σ:St):St:=js.map (sub1 σ)
theorem Cap.len{X:Cx}{N:ai Str}{js:ai (bo Nat)}(h:Cap X sc N js):js.length=N.length:=by induction h<;>simp[*]
theorem Cap.at{X:Cx}{b:Scope}{N:ai Str}{js:ai (bo Nat)}(h:Cap X b N js):∀{i:Nat} {x:Str} {σ:St} {v:V},N[i]?=some x->(sub js σ)[i]?=some (some v) ->
  ∃j:Nat,X.N[j]?=some x/\σ[j]?=some (some v)/\(X.env.kindOf x=some .cell∨X.env.kindOf x=some .free)/\b.names.lookup x=some .free:=by
 induction h with
 |nil=>intro i x σ v h;simp at h|own h J =>
  intro i x σ v g d;cases i with
  |zero=>simp[sub,sub1]at d|succ i=>exact J (by simpa using g) (by simpa[sub]using d)
 |@cap x j N js k U Y h J =>
  intro i y σ v g d;cases i with
  |zero =>
   simp at g;subst g;simp[sub,sub1]at d;refine⟨j,k,?_,U,Y⟩;cases q:σ[j]? with
   |none=>rw[q]at d;simp at d|some o=>rw[q]at d;simp at d;rw[d]
  |succ i=>exact J (by simpa using g) (by simpa[sub]using d)
def dz(X:Cx)(scope:Scope)(cl:ai (Str×bb))(C:bb)(N':ai Str)(U:bd)(J:Hp)(fp:ai bb)(pins:ai (bb×Obj)):Cx :=
 {X with N:=N',s₀:=U,H₀:=J,env:=compEnvC scope cl C X.env,outer:=X.stack,ex:=fp,fn:=λy=>scope.names.lookup y==some .cell,pn:=X.pn++pins,xe:=λ_ _=>False}
structure Blk where
 C:Addr
 s3:Shared
 H3:Hp
 fp:List Addr
 pins:List (Addr×Obj)
abbrev cxB(X:Cx)(scope:Scope)(cl:ai (Str×bb))(N':ai Str)(B:Blk):Cx:=dz X scope (cellsFrom (B.C+1) scope.names cl) B.C N' B.s3 B.H3 B.fp B.pins
def PTs(X:Cx)(ifs:ai bN)(t:TT):Prop :=
 ∀(pins:ai (bb×Obj)) (s:bd) (σ:St) (H:Hp) (Q:Bool->Hp->Prop),Inv X pins σ H s->t σ H Q ->
  wpAny (model X.prog X.w) X.A (forIn ifs true λc r=>if r=true then do let ok ←isTrue c X.env (eval c X.env);pure (ForInStep.yield ok) else pure (ForInStep.yield r)) (TP X pins σ Q) X.xe s
def Ey:TT:=λ_ H Q=>Q true H
theorem Ez{X:Cx}:PTs X [] Ey:=λ_ _ _ H _ I h=>wpAny_tests_nil ⟨H,I,h⟩
theorem EA{X:Cx}{c:bN}{t:TT}(h:PT X c t):PTs X [c] t:=λpins s σ H Q I q=>wpAny_tests_one (h pins s σ H Q I q)
def EB(wi:TI)(js:ai (bo Nat))(g:Blk->TG)(tc:Blk->TT)(te:Blk->TE):TE:=λσ H Q=>wi σ H λJ u=>∀(B:Blk) D,u D=none->∃W:Nat->Nat->St->Hp->Prop,(∃m,W 0 m (sub js σ) (upd u D (.lst [])))/\∀i m k d,W i m k d ->
 (J.stop i d/\Q (.ref D) d)∨(J.go i d/\∃N:St->Hp->Prop,(∀Y j,N Y j->∃G,G<m/\W (i+1) G Y j)/\∀y j,J.yld i d y j->g B y k j λU I=>tc B U I λb x =>
  if b=true then te B U x λv z=>∃q,z D=some (.lst q)/\q.length<sizeLine/\N U (upd z D (.lst (q++[v]))) else N U x)
theorem pj(h:(relabel sc env).names.lookup y=some .cell∨(relabel sc env).names.lookup y=some .free):(y,NameKind.free)∈sc.names∨(y,NameKind.cell)∈sc.names:=by
 have key:∀k,(y,k)∈(relabel sc env).names->(k=.cell∨k=.free)->(y,NameKind.free)∈sc.names∨(y,NameKind.cell)∈sc.names:=by
  intro k g d;obtain⟨⟨n,q⟩,b,e⟩:=zzc.mp g;dsimp only at e;split at e
  ·rename_i c;simp only[zzY]at c;have:q=.free:=zwD c.1.1;subst this;cases e;exact .inl b
  ·cases e;rcases d with rfl|rfl
   ·exact .inr b
   ·exact .inl b
 rcases h with h|h
 ·exact key _ (zzV h) (.inl rfl)
 ·exact key _ (zzV h) (.inr rfl)
theorem jH(h:sc.names.lookup y=some .free):(relabel sc env).names.lookup y=some .cell∨(relabel sc env).names.lookup y=some .free:=by
 show (List.lookup y (sc.names.map _))=_∨(List.lookup y (sc.names.map _))=_;generalize sc.names=l at h
 induction l with
 |nil=>simp at h|cons a r J =>
  obtain⟨n,k⟩:=a;rw[zyC]at h;rw[zzh];cases e:y==n with
  |true =>
   rw[e]at h;cases h;dsimp only;split
   ·left;rw[zyC,e]
   ·right;rw[zyC,e]
  |false =>
   rw[e]at h;dsimp only;split<;>(rw[zyC,e];exact J h)
theorem bB:∀(U:ai (Str×NameKind)) (n:Nat) (J:ai (Str×bb)),cellsFrom n U J=cellsFrom n U []++J
 |[],_,_=>rfl|(x,k)::r,n,J=>by
  unfold cellsFrom;split
  ·rw[bB r (n+1) ((x,n)::J),bB r (n+1) [(x,n)],zyF];rfl
  ·exact bB r n J
theorem dN:∀(J:ai (Str×NameKind)) (n:Nat) (y:Str) (c:bb),(y,c)∈cellsFrom n J []->(y,NameKind.cell)∈J
 |[],_,_,_,h=>(nomatch h)|(x,k)::r,n,y,c,h=>by
  unfold cellsFrom at h;split at h
  ·rename_i b;rw[bB]at h;rcases zzx.mp h with h|h
   ·exact zzf _ (dN r _ y c h)
   ·have e:=zzy.mp h;cases e;rw[show k=.cell from zwD b];exact zzd
  ·exact zzf _ (dN r _ y c h)
theorem gg:∀{l:ai (Str×bb)} {y:Str} {c:bb},(y,c)∈l->∃d,l.lookup y=some d
 |(x,k)::r,y,c,h=>by
  rw[zyC];cases e:y==x with
  |true=>exact⟨_,rfl⟩|false =>
   rcases zzr.mp h with h|h
   ·cases h;simp at e
   ·exact gg h
theorem eK:∀(J:ai (Str×NameKind)) (n:Nat) (y:Str),(y,NameKind.cell)∈J->∃c,(y,c)∈cellsFrom n J []
 |(x,k)::r,n,y,h=>by
  unfold cellsFrom;split
  ·rw[bB];rcases zzr.mp h with h|h
   ·cases h;exact⟨n,zyd _ (zzy.mpr rfl)⟩
   ·obtain⟨c,q⟩:=eK r (n+1) y h;exact⟨c,zxg _ q⟩
  ·rename_i b;rcases zzr.mp h with h|h
   ·cases h;exact absurd rfl b
   ·exact eK r n y h
theorem dR(h:(l++r).lookup y=some c):l.lookup y=some c∨(l.lookup y=none/\r.lookup y=some c):=by
 rw[zvc]at h;cases e:l.lookup y with
 |none=>rw[e]at h;exact .inr ⟨rfl,h⟩|some d=>rw[e]at h;exact .inl h
theorem jI(h:l.lookup y=some c):(l++r).lookup y=some c:=by rw[zvc,h];rfl
theorem jJ(h:l.lookup y=none):(l++r).lookup y=r.lookup y:=by rw[zvc,h];rfl
theorem iW{M:Model}{E:av->bd->Prop}{s:bd}{Q:Env->bd->Prop}(h:∀h₁:bz,h₁.Ns s.heap.objs.size (λ_=>none)->(∀b o,s.heap.get? b=some o->h₁.get? b=some o)->CellsOk h₁ (s.heap.objs.size+1) (cellsFrom (s.heap.objs.size+1) sc.names []) ->
   Q (newEnv sc s.heap.objs.size T (cellsFrom (s.heap.objs.size+1) sc.names l) y none .none (some env) builtinsNs) {s with heap:=h₁}) :
  wpAny M A (newFunctionEnv sc T l [] y none .none (some env)) Q E s:=by
 simp only[newFunctionEnv,Option.isSome_some,zwC];refine zzb (wpAny_alloc ?_);refine zzb (wpAny_layCells _ (λname kind cells=>by cases J:kind==NameKind.cell<;>simp[J]) _ _ _ _ ?_);have ok:=cellsFrom_ok sc.names (s.heap.push {cls:=.type "dict",data:=.dict #[]}) (s.heap.objs.size+1) [] ⟨λ_ _ d=>(nomatch d),List.Pairwise.nil⟩ (by rw[zyv];exact zzn _);rw[zyv]at ok;rw[show ({s with heap:=s.heap.push {cls:=.type "dict",data:=.dict #[]} }:bd).heap.objs.size=s.heap.objs.size+1 from zyv ..];exact zzb (zzq (zzq (h _ ((Heap.Ns.new s.heap (.type "dict")).keeps (pushCells_keeps _ _)) (λb o e=>pushCells_keeps _ _ b o (zzj _ e)) ok)))
section
variable{scope:Scope}{cl:ai (Str×bb)}{N':ai Str}{js:ai (bo Nat)}
theorem AO(I:Inv X pins σ H s)(J:dw X.env.cells scope.names []=some cl)(a4:∀y∈scope.names,y.2=.free->(y.1,NameKind.cell)∉scope.names)(a0:scope.kind=.function)(cap:Cap X scope N' js)(hf:∀b∈fp,FpOk X pins H b)(C:∀b∈fp,∃o,s.heap.get? b=some o)(a6:h₁.Ns s.heap.objs.size (λ_=>none))(N:∀b o,s.heap.get? b=some o->h₁.get? b=some o)(Y:CellsOk h₁ (s.heap.objs.size+1) (cellsFrom (s.heap.objs.size+1) scope.names [])) :
  Inv (dz X scope (cellsFrom (s.heap.objs.size+1) scope.names cl) s.heap.objs.size N' s H fp pins) [] (sub js σ) H {s with heap:=h₁,toks:=t' }:=by
 have x:=hV J (λy c e=>by simp at e);rw[bB];generalize w:cellsFrom (s.heap.objs.size+1) scope.names []=nw at Y ⊢;have nk:∀y c,(y,c)∈nw->(y,NameKind.cell)∈scope.names:=λy c h=>by rw[←w]at h;exact dN _ _ y c h
 have nh:∀y,(y,NameKind.cell)∈scope.names->∃c,nw.lookup y=some c:=λy h=>by obtain⟨c,q⟩:=eK scope.names (s.heap.objs.size+1) y h;rw[w]at q;exact gg q
 have G:∀y c,nw.lookup y=some c->h₁.IsCell c none/\s.heap.objs.size+1<=c:=λy c h=>Y.empty y c (zzV h);have old:∀y c,cl.lookup y=some c->c<s.heap.objs.size:=λy c h=>by obtain⟨v,o,U,L⟩:=I.cell y c (x y c h);exact zzv U
 have nf:∀y,(y,NameKind.free)∈scope.names->nw.lookup y=none:=λy h=>by
  cases e:nw.lookup y with
  |none=>rfl|some c=>exact absurd (nk y c (zzV e)) (a4 _ h rfl)
 refine⟨⟨I.ok.mod,a0,I.ok.glob,I.ok.blt,zzn _,λy z c M l=>?_,λy hy=>?_,λy c z h=>?_,I.ok.hd,I.ok.frames,.inl rfl,λb g=>⟨?_,λy c h=>?_⟩,I.bs,zzo I.ok.bsz I.sz,λb o e g=>?_,λb g=>?_,I.stack,I.stkFree⟩,
  rfl,I.bare,Un.kept N,⟨_,a6,λi y v M l h3=>?_⟩,λy c h=>?_,I.hok.fresh (zzn _),λy c h=>?_,λp n=>?_,I.hok.kept N,?_⟩
 ·rcases dR M with a|⟨_,a⟩<;>rcases dR l with b|⟨_,b⟩
  ·exact name_of_addr Y.apart (zzV a) (zzV b)
  ·exact absurd (zzH (old z c b) (zxQ (G y c a).2)) (zyG _)
  ·exact absurd (zzH (old y c a) (zxQ (G z c b).2)) (zyG _)
  ·exact I.ok.inj y z c (x y c a) (x z c b)
 ·show ∃c,(nw++cl).lookup y=some c;rcases pj hy with q|q
  ·obtain⟨c,e⟩:=fw J y (.inl q);exact⟨c,by rw[jJ (nf y q)];exact e⟩
  ·obtain⟨c,e⟩:=nh y q;exact⟨c,jI e⟩
 ·have z:(y,NameKind.cell)∈scope.names:=zzV (zwD z);obtain⟨d,e⟩:=nh y z;have h:(nw++cl).lookup y=some c:=h;rw[jI e]at h;have h:d=c:=zya h;rw[←h];exact zxQ (G y d e).2
 ·obtain⟨o,e⟩:=C b g;exact zzC (zzv e)
 ·rcases dR h with a|⟨_,a⟩
  ·obtain⟨o,e⟩:=C b g;rintro rfl;exact absurd (zzH (zzv e) (zxQ (G y c a).2)) (zyG _)
  ·exact(hf b g).2.2.2.2.1 y c (x y c a)
 ·have fb:=hf b g;rcases fb.2.2.2.1 with z|z
  ·exact I.ok.noex b o e z
  ·have M:b<X.base.objs.size:=zzv e;exact absurd (zzH M (zzo I.ok.bsz z)) (zyG _)
 ·intro z;have:=I.stkSub b z;rcases zzr.mp this with z|z
  ·exact(hf b g).2.1 z
  ·exact(hf b g).2.2.1 z
 ·obtain⟨j,k1,k2,E,T⟩:=cap.at M l;obtain⟨m,hm,hl⟩:=I.loc;have a7:Vis X.env.scope y:=by
   rcases E with k|k
   ·exact .inr (.inl k)
   ·exact .inr (.inr k)
  obtain⟨u,r,lk⟩:=hl j y v k1 k2 a7;refine⟨u,r,.inr ⟨jH T,?_⟩⟩;have Q:(y,NameKind.free)∈scope.names:=zzV T;rcases lk with ⟨k5,_⟩|⟨_,c,e1,e2⟩
  ·rcases E with k|k<;>(rw[k]at k5;cases k5)
  ·obtain⟨c',A⟩:=fw J y (.inl Q);have:=x y c' A;rw[e1]at this;cases this;refine⟨c,by show (nw++cl).lookup y=some c;rw[jJ (nf y Q)];exact A,?_⟩;obtain⟨o,U,L⟩:=e2;exact⟨o,N _ _ U,L⟩
 ·rcases dR h with a|⟨_,a⟩
  ·exact⟨_,(G y c a).1⟩
  ·obtain⟨v,o,U,L⟩:=I.cell y c (x y c a);exact⟨v,o,N _ _ U,L⟩
 ·rcases dR h with a|⟨_,a⟩
  ·exact I.hok.fresh (zxQ (G y c a).2)
  ·exact I.freeC y c (x y c a)
 ·have n:p∈X.pn++pins:=by simpa[dz]using n
  obtain⟨U,L,q3,Q,q5⟩:=I.pin p n;refine⟨N _ _ U,L,zzC (zzv U),λz=>?_,q5⟩;have:=I.stkSub p.1 z;rcases zzr.mp this with z|z
  ·exact q3 z
  ·exact Q z
 ·simp[sub,cap.len];rfl
theorem Ht{H:Hp}{h:bz}(J:C∈ch)(g:Heap.SameBut C h h'):Un fp ch H H h h' where
 keep:=λb o e _ _ d=>by rw[g.2 b (by rintro rfl;exact d J)];exact e
 slot:=λb o e _ _ d=>⟨o.slots,by rw[g.2 b (by rintro rfl;exact d J)];exact e⟩
 free:=λb o _ n _=>n
 there:=λb o e d=>⟨o,by rw[g.2 b (by rintro rfl;exact d J)];exact e⟩
 tups:=λ_ _ h=>h
 frzs:=λ_ _ _ h=>h
 tbls:=λb ps h=>⟨#[],by simpa using h⟩
theorem Inv.but(I:Inv X pins σ H s)(f:FpOk X pins H C)(g:Heap.SameBut C s.heap h'):Inv X pins σ H {s with heap:=h' }:=by
 refine I.call' (ch:=[C]) rfl (Ht zzd g) ?_ I.bare (λb d=>?_)
 ·intro a o e;refine ObjOk.stay (I.hok a o e) (λb u d q=>?_) (λ_ h=>h) (λ_ _ h=>h);rw[g.2 b]
  ·exact q
  ·rintro rfl;rcases d with rfl|d
   ·rw[f.1]at e;cases e
   ·rw[f.1]at d;cases d
 ·have:b=C:=by simpa using d
  subst this;exact⟨f.2.2.2.1,f.2.1,f.2.2.2.2.1,f.2.2.2.2.2⟩
variable{elt iter:bN}{pos:Pos}{ifs:ai bN}{wi:TI}{g:TG}{tc:TT}{te:TE}{Q:VK}{gB:Blk->TG}{tcB:Blk->TT}{teB:Blk->TE}
theorem xR{prog:bP}{R:Result->bd->Prop}{z:bd}(J:Nat->bd->Prop)(turn:∀k z,J k z->wpAny (model prog w) A (pyNext f0) (λr d=>match r with
   |none=>R (.ok .next) d| some u=>wpAny (model prog w) A (letOwnedTupleGo tg f0 u) (λ_ j=>wpAny (model prog w) A (assign tg env u) (λ_ v =>
     wpAny (model prog w) A (forIn cs true λc r=>if r=true then do let ok ←isTrue c env (eval c env);pure (ForInStep.yield ok) else pure (ForInStep.yield r)) (λb U =>
      if b=true then wpAny (model prog w) A (eval e env) (λy x =>
       wpAny (model prog w) A (call (.builtin "list.append") [f1,y]) (λ_ G=>∃m,m<k/\J m G) (λ_ _=>False) x) (λ_ _=>False) U
      else ∃m,m<k/\J m U) (λ_ _=>False) v) (λ_ _=>False) j) (λ_ _=>False) d) (λ_ _=>False) z)(k:Nat)(h:J k z):codeAny (model prog w) A (.compLoop (.ListComp e [⟨tg,it0,cs,0⟩] sc ps) 0 f0 f1 env) R z:=by
 have no:∀{I:Type} {m:Sem I} {P:I->bd->Prop} {E:av->bd->Prop} {z:bd},wpAny (model prog w) A m P (λ_ _=>False) z->wpAny (model prog w) A m P E z:=λh=>zxq h (λ_ _ q=>q) λ_ _ q=>q.elim;refine codeAny_loop rfl J (λk z L=>?_) k h;refine wpAny_noted ?_;refine zzb (zwy (zzb (no (thn (turn k z L) λr d Y=>?_))));cases r with
 |none=>exact zzq Y|some u =>
  refine zzb (no (thn Y λ_ j M=>zzb (no (thn M λ_ v N=>zzb (no (thn N λb U i=>?_))))));cases b with
  |false=>exact zzq ⟨rfl,i⟩|true=>exact zzb (zzb (no (thn i λy x a=>zzb (no (thn a λ_ G g=>zzq (zzq ⟨rfl,g⟩))))))
theorem vR{RR:av->bb->Result->bd->Prop}{j:bd}{x:Hp}{tn:Nat->bz->Prop}{J:It}{W:Nat->Nat->St->Hp->Prop}{m0:Nat}(hc:X.calm=true)(b0:dw X.env.cells scope.names []=some cl)(b1:∀y∈scope.names,y.2=.free->(y.1,NameKind.cell)∉scope.names)(a6:scope.kind=.function)(cap:Cap X scope N' js)(k:PG (dz X scope (cellsFrom (j.heap.objs.size+1) scope.names cl) j.heap.objs.size N' j x fp pins) tg g/\PTs (dz X scope (cellsFrom (j.heap.objs.size+1) scope.names cl) j.heap.objs.size N' j x fp pins) ifs tc/\PE (dz X scope (cellsFrom (j.heap.objs.size+1) scope.names cl) j.heap.objs.size N' j x fp pins) elt te)(H:Inv X pins σ x j)(T:Turn X.prog X.w X.K tg J fp a tn)(b3:tn 0 j.heap)(f3:∀b∈fp,FpOk X pins x b)(w0:W 0 m0 (sub js σ) x)(turn:∀i m z H',W i m z H'->(J.stop i H'/\Q (.ref C) H')∨(J.go i H'/\∃N:St->Hp->Prop,(∀b6 l,N b6 l->∃m',m'<m/\W (i+1) m' b6 l)/\∀y l,J.yld i H' y l->g y z l λa0 x=>tc a0 x λb I =>
   if b=true then te a0 I λv H5=>∃M,H5 C=some (.lst M)/\M.length<sizeLine/\N a0 (upd H5 C (.lst (M++[v]))) else N a0 I))(c4:h₁.Ns j.heap.objs.size (λ_=>none))(hk:∀b o,j.heap.get? b=some o->h₁.get? b=some o)(b9:CellsOk h₁ (j.heap.objs.size+1) (cellsFrom (j.heap.objs.size+1) scope.names []))(hR:∀G H' m,Inv X pins σ H' G->FpOk X pins H' j.heap.objs.size->G.heap.Ns j.heap.objs.size m->Q (.ref C) H'->RR (.ref C) j.heap.objs.size (.ok .next) G) :
  codeAny (model X.prog X.w) X.A (.compStart (.ListComp elt [⟨tg,iter,ifs,0⟩] scope pos) 0 (.ref a) (.ref C) (compEnvC scope (cellsFrom (j.heap.objs.size+1) scope.names cl) j.heap.objs.size X.env)) (RR (.ref C) j.heap.objs.size) {j with heap:=h₁,toks:=t' }:=by
 have b2:∀b∈fp,∃o,j.heap.get? b=some o:=λb k=>let ⟨o,e,_⟩:=T.obj _ _ b3 b k;⟨o,e⟩
 have I0:Inv (dz X scope (cellsFrom (j.heap.objs.size+1) scope.names cl) j.heap.objs.size N' j x fp pins) [] (sub js σ) x {j with heap:=h₁,toks:=t' }:=AO H b0 b1 a6 cap f3 b2 c4 hk b9;have b5:tn 0 h₁:=T.keep _ _ _ b3 λb _ o e=>hk b o e;have E:FpOk X pins x j.heap.objs.size:=H.fpOk (zzn _) (H.hok.fresh (zzn _));obtain⟨bg,bt,be⟩:=k;have Y:∀{H':Hp},(∀b∈fp,H' b=none)->∀b∈fp,FpOk (dz X scope (cellsFrom (j.heap.objs.size+1) scope.names cl) j.heap.objs.size N' j x fp pins) [] H' b:=λ{H'} hn b k=>by obtain⟨o,e⟩:=b2 b k;refine⟨hn b k,zzC (zzv e),I0.ok.exfs b k,.inl k,λy c h=>(I0.ok.exf b k).2 y c h,λp hp=>?_⟩;exact(f3 b k).2.2.2.2.2 p (by simpa[dz]using hp)
 have a5:codeAny (model X.prog X.w) X.A (.compLoop (.ListComp elt [⟨tg,iter,ifs,0⟩] scope pos) 0 (.ref a) (.ref C) (compEnvC scope (cellsFrom (j.heap.objs.size+1) scope.names cl) j.heap.objs.size X.env)) (RR (.ref C) j.heap.objs.size) {j with heap:=h₁,toks:=t' }:=by
  refine xR (λn G=>∃i z H',Inv (dz X scope (cellsFrom (j.heap.objs.size+1) scope.names cl) j.heap.objs.size N' j x fp pins) [] z H' G/\tn i G.heap/\(∀b∈fp,H' b=none)/\W i n z H') (λn s4 hJ=>?_) m0 ⟨0,sub js σ,x,I0,b5,λb k=>(f3 b k).1,w0⟩;obtain⟨i,a4,I,I4,b4,a9,w4⟩:=hJ;rcases turn i n a4 I w4 with ⟨stop,q⟩|⟨go,N,hN,step⟩
  ·refine thn (T.done (dz X scope (cellsFrom (j.heap.objs.size+1) scope.names cl) j.heap.objs.size N' j x fp pins) rfl rfl rfl hc i [] s4 a4 I _ I4 (Y a9) b4 stop) λr s5 q=>?_;obtain⟨rfl,L⟩:=q;have u:Un (frs X.stack) fp x I j.heap s5.heap:=L.base;have free:I j.heap.objs.size=none:=L.free;have a8:Inv X pins σ I s5:=by
    refine H.call' (ch:=j.heap.objs.size::fp) L.os (u.mono (λ_ h=>h) λb h=>zzf _ h) L.hok L.bare (λb k=>?_);rcases zzr.mp k with rfl|k
    ·exact⟨E.2.2.2.1,E.2.1,E.2.2.2.2.1,E.2.2.2.2.2⟩
    ·have:=f3 b k;exact⟨this.2.2.2.1,this.2.1,this.2.2.2.2.1,this.2.2.2.2.2⟩
   obtain⟨m,hm,_⟩:=L.loc;exact hR s5 I m a8 ⟨free,E.2⟩ hm q
  ·refine thnG (T.item (dz X scope (cellsFrom (j.heap.objs.size+1) scope.names cl) j.heap.objs.size N' j x fp pins) rfl rfl rfl hc i [] s4 a4 I _ I4 (Y a9) b4 go) λr s5 u hr h5=>?_;subst hr;refine thn h5 λ_ s6 q0=>?_;obtain⟨y,H6,I6,r6,y6,a7,c3⟩:=q0;have b8:=I6.pinned (Y c3) (T.obj _ _ a7);refine thnF (bg _ s6 a4 H6 y u _ b8 r6 (step y H6 y6)) λ_ s7 U H7 I7 q7=>?_;refine thnG (bt _ s7 U H7 _ I7 q7) λb s8 H8 I8 q8=>?_;have again:∀{H':Hp} {G:bd},Inv (dz X scope (cellsFrom (j.heap.objs.size+1) scope.names cl) j.heap.objs.size N' j x fp pins) ([]++oP fp s6.heap) U H' G->N U H'->∃m,m<n/\∃i z H',Inv (dz X scope (cellsFrom (j.heap.objs.size+1) scope.names cl) j.heap.objs.size N' j x fp pins) [] z H' G/\tn i G.heap/\(∀b∈fp,H' b=none)/\W i m z H':=λ{H' G} s n9=>by
    obtain⟨m',hm,w9⟩:=hN U H' n9;refine⟨m',hm,i+1,U,H',s.unpinned,T.keep _ _ _ a7 λb k o e=>(s.pin (b,o) (zyd _ (zyd _ (ft k e)))).1,λb k=>?_,w9⟩;obtain⟨o,e,d⟩:=T.obj _ _ a7 b k;exact(s.pin (b,o) (zyd _ (zyd _ (ft k e)))).2.1
   cases b with
   |false=>exact iteF (again I8 q8)|true =>
    refine iteT (thn (be _ s8 U H8 _ I8 q8) λyv s9 q0=>?_);obtain⟨v9,H9,s,r9,M,hD,hl,n9⟩:=q0;exact thnE (jB _ s9 U H9 (.ref C) [v9] (.ref C) [yv] (λ_ H'=>H'=upd H9 C (.lst (M++[v9]))) s rfl (.cons r9 .nil) ⟨C,M,v9,rfl,rfl,hD,hl,rfl⟩) λ_ s10 _ H10 b7 _ c2=>by subst c2;exact again b7 n9
 exact codeAny_compStart_list a5 (T.self _ 0 _ _ _ b5 a5)
theorem tY{G:av->bb->Result->bd->Prop}(hc:X.calm=true)(p:dw X.env.cells scope.names []=some cl)(r:∀y∈scope.names,y.2=.free->(y.1,NameKind.cell)∉scope.names)(l:scope.kind=.function)(cap:Cap X scope N' js)(hi:PI X tg iter wi)(u:∀B:Blk,PG (cxB X scope cl N' B) tg (gB B)/\PTs (cxB X scope cl N' B) ifs (tcB B)/\PE (cxB X scope cl N' B) elt (teB B))(I:Inv X pins σ H s)(h:EB wi js gB tcB teB σ H Q)(hR:∀D C k i m,Inv X pins σ i k->FpOk X pins i C->k.heap.Ns C m->Q (.ref D) i->G (.ref D) C (.ok .next) k) :
  wpAny (model X.prog X.w) X.A (eval iter X.env) (λv c=>wpAny (model X.prog X.w) X.A (pyIter v) (λa d=>wpAny (model X.prog X.w) X.A (newList []) (λM s3 =>
   wpAny (model X.prog X.w) X.A (newFunctionEnv scope X.env.globals cl [] X.env.qual none .none (some X.env)) (λL s4 =>
    codeAny (model X.prog X.w) X.A (.compStart (.ListComp elt [⟨tg,iter,ifs,0⟩] scope pos) 0 a M {L with scope:=relabel scope X.env}) (G M L.locals) s4) X.xe s3) X.xe d) X.xe c) X.xe s:=by
 refine thn (hi pins s σ H _ I h) λv c h1=>thn h1 λitv d x=>?_;obtain⟨a,fp,tn,J,j,e,z,T,N,f2,x⟩:=x;subst e;have E:j d.heap.objs.size=none:=z.hok.fresh (zzn _);obtain⟨W,⟨m0,w0⟩,q⟩:=x ⟨(d.heap.push {cls:=.type "list",data:=.seq ([]:ai av).toArray}).objs.size,{d with heap:=d.heap.push {cls:=.type "list",data:=.seq ([]:ai av).toArray} },upd j d.heap.objs.size (.lst []),fp,pins⟩ d.heap.objs.size E;refine zyE (iW (λh₁ Y n U=>?_));have g:Inv X pins σ (upd j d.heap.objs.size (.lst [])) {d with heap:=d.heap.push {cls:=.type "list",data:=.seq ([]:ai av).toArray} }:=z.lnew .nil (zzT _);refine vR hc p r l cap (u ⟨(d.heap.push {cls:=.type "list",data:=.seq ([]:ai av).toArray}).objs.size,{d with heap:=d.heap.push {cls:=.type "list",data:=.seq ([]:ai av).toArray} },upd j d.heap.objs.size (.lst []),fp,pins⟩) g T ?_ (λb u=>?_) w0 q Y n U (λk i m=>hR _ _ k i m)
 ·exact T.keep _ _ _ N λb _ o e=>zzj _ e
 ·have:=f2 b u;obtain⟨o,e,_⟩:=T.obj _ _ N b u;exact⟨by show upd j d.heap.objs.size (.lst []) b=none;rw[af (zzC (zzv e))];exact this.1,this.2⟩
theorem EC(u:X.calm=true)(Y:dw X.env.cells scope.names []=some cl)(i:∀y∈scope.names,y.2=.free->(y.1,NameKind.cell)∉scope.names)(J:scope.kind=.function)(cap:Cap X scope N' js)(U:∀y∈scope.names,y.2=.local->scope.names.lookup y.1=some .local)(x:PI X tg iter wi)(k:∀B:Blk,PG (cxB X scope cl N' B) tg (gB B)/\PTs (cxB X scope cl N' B) ifs (tcB B)/\PE (cxB X scope cl N' B) elt (teB B))(G:∀v,foldedSetIterable iter X.env v=pure v:=by intro _;rfl):PE X (.ListComp elt [⟨tg,iter,ifs,0⟩] scope pos) (EB wi js gB tcB teB):=by intro pins s σ H Q I h;refine wpAny_comprehension_free rfl G (gf Y) J U (tY u Y i J cap x k I h ?_);intro D C s' b m d f z q;exact⟨m,z,λh' j=>⟨.ref D,b,d.but f j,rfl,q⟩⟩
theorem ED{i:Nat}(l:X.N.Nodup)(Q:X.N[i]?=some y)(d:X.env.scope.names.lookup y=some .local)(r:X.calm=true)(Y:dw X.env.cells scope.names []=some cl)(G:∀y∈scope.names,y.2=.free->(y.1,NameKind.cell)∉scope.names)(J:scope.kind=.function)(cap:Cap X scope N' js)(U:∀y∈scope.names,y.2=.local->scope.names.lookup y.1=some .local)(w:PI X tg iter wi)(n:∀B:Blk,PG (cxB X scope cl N' B) tg (gB B)/\PTs (cxB X scope cl N' B) ifs (tcB B)/\PE (cxB X scope cl N' B) elt (teB B))(g:swapsWith (.ListComp elt [⟨tg,iter,ifs,0⟩] scope pos) (some (.Name y tp)) p.line X.env=pure true:=by rfl)(E:∀v,foldedSetIterable iter X.env v=pure v:=by intro _;rfl):PS X (.Assign [.Name y tp] (.ListComp elt [⟨tg,iter,ifs,0⟩] scope pos) p) (tAsg (EB wi js gB tcB teB) (xp i)):=by
 intro pins s σ H D I h;rw[exec_Assign_Name_used _ _ _ _ g];refine zzb (zwy (zzb ?_));refine zzb (thn (wpAny_comprehension_free rfl E (gf Y) J U
  (tY r Y G J cap w n I h ?_)) λ_ T q=>zzq (zzq q))
 intro j C T k m u f A q;refine wpAny_assign_Name (oM u l Q (.inl d) (v:=.ref j) rfl (λs2 x M=>?_) (.inr d));obtain⟨a,e,b⟩:=M;have L:C≠a:=by
  rcases b with rfl|b
  ·exact f.2.1
  ·exact λz=>f.2.2.2.2.1 y a b z.symm
 refine⟨m,A.sameBut e L,λh' c=>⟨_,k,x.but f c,q⟩⟩
end
def Hu(e:bb)(J:bo bb)(h:bz):Prop:=∃o,h.get? e=some o/\o.dict=J
def CXE(P:bP)(w:World):CXT:=λd H s E e g =>
 ∃j C J B i k,e=.ref j/\(Heap.FlyingW B d j (.ref C) k g.heap/\Hu j J g.heap)/\Un (frs d) [] H i s.heap g.heap/\HOk P w i g.heap /\
  (∀b o,s.heap.get? b=some o->b∉frs d->∃o',B.get? b=some o')/\(∀b o,i b=some o->∃o',B.get? b=some o')/\g.os=s.os/\AllBare g.gens/\E (.ref C) J i
section
variable{tg:bN}
theorem AQ(g:X.calm=true):cZ X (.builtin "sum") (λxs H Q=>∃(p:bb) (ns:ai Int),xs=[.ref p]/\SqL X.K H p (ns.map V.int)/\Q (.int ns.sum) H):=by
 intro pins s σ H xs us Q I r h;obtain⟨p,ns,rfl,j,q⟩:=h;obtain⟨u,rfl,e⟩:=gU r;cases e;obtain⟨its,v,k,_⟩:=I.list j;have b:IntsAre its ns:=vM v;obtain⟨ps,e⟩:=b.allInts.items;have U:=k.isList;rw[e]at U;refine sum_intListG (I.ok.hd g) U λh' tk t' i=>⟨.int ns.sum,H,I.kept i,⟨t',?_⟩,q⟩;have d:numsOf its=ns:=b.numsOf;have J:=nums_intItems ps;rw[←e]at J;have Y:ps.toList.map (·.1)=ns:=by rw[←J,←d]
 rw[preSum_eq,zyN (by simp),Y]
def iSeq(K:zvi)(tl:TE):TI:=λσ H R=>tl σ H λx b=>(∃a,x=.ref a/\(∃d,SqL K b a d)/\R (Itl K a) b)∨(∃a,x=.ref a/\(∃d,SqT K b a d)/\R (Itt K a) b)
theorem Hv{l:bN}{k:TE}(Y:PE X l k):PI X tg l (iSeq X.K k):=by
 intro pins s σ H R I h;refine thn (Y pins s σ H _ I h) λv d z=>?_;obtain⟨x,i,J,j,G⟩:=z;rcases G with ⟨a,rfl,⟨M,U⟩,q⟩|⟨a,rfl,⟨M,U⟩,q⟩
 ·cases j;obtain⟨its,L,p,u⟩:=J.list U;refine zxx p.isList ⟨d.heap.objs.size,[d.heap.objs.size],_,_,i,rfl,J.kept (λb o e=>zzj _ e),oO a _,⟨_,zzw _ rfl,rfl,rfl⟩,λb g=>?_,q⟩;rw[show b=d.heap.objs.size by simpa using g];exact J.fpOk (zzn _) (J.hok.fresh (zzn _))
 ·cases j;obtain⟨its,L,p,u⟩:=J.tuple U;refine zxb (show d.heap.IsTuple a its.toArray from p) ⟨d.heap.objs.size,[d.heap.objs.size],_,_,i,rfl,J.kept (λb o e=>zzj _ e),lE a _,⟨_,zzw _ rfl,rfl,rfl⟩,λb g=>?_,q⟩;rw[show b=d.heap.objs.size by simpa using g];exact J.fpOk (zzn _) (J.hok.fresh (zzn _))
end
section
variable{h':bz}
theorem Inv.turnedN{o:HO}(I:Inv X pins σ H s)(hf:∀b∈ch,FpOk X pins H b)(k:∀b u,b∉ch->s.heap.get? b=some u->h'.get? b=some u)(U:s.heap.objs.size<=T)(new:ObjOk X.prog X.w (upd H T o) h' T o):Inv X pins σ (upd H T o) {s with heap:=h',toks:=t' }:=by
 have g:=I.hok.fresh U;refine I.call' rfl ⟨λb u q _ _ J=>k b u J q,λb u q _ _ J=>⟨u.slots,k b u J q⟩,λb u q n _=>?_,λb u q J=>⟨u,k b u J q⟩,λb v e=>?_,λb p u e=>?_,λb ps e=>⟨#[],?_⟩⟩ (λa q e=>?_) I.bare
  (λb d=>⟨(hf b d).2.2.2.1,(hf b d).2.1,(hf b d).2.2.2.2.1,(hf b d).2.2.2.2.2⟩)
 ·rw[af (zzC (zzH (zzv q) U))];exact n
 ·rw[af (by rintro rfl;rw[g]at e;cases e)];exact e
 ·rw[af (by rintro rfl;rw[g]at e;cases e)];exact e
 ·rw[af (by rintro rfl;rw[g]at e;cases e)];simpa using e
 ·by_cases z:a=T
  ·subst z;rw[ae]at e;cases e;exact new
  ·rw[af z]at e;refine ObjOk.stay (I.hok a q e) (λb u d j=>k b u (λi=>?_) j) (λb d=>?_) (λb v d=>?_)
   ·have:=(hf b i).1;rcases d with rfl|d
    ·rw[this]at e;cases e
    ·rw[this]at d;cases d
   ·rw[af (by rintro rfl;rw[g]at d;cases d)];exact d
   ·rw[af (by rintro rfl;rw[g]at d;cases d)];exact d
theorem Inv.turnedL(I:Inv X pins σ H s)(hf:∀b∈ch,FpOk X pins H b)(k:∀b u,b∉ch->s.heap.get? b=some u->h'.get? b=some u):Inv X pins σ H {s with heap:=h',toks:=t' }:=by
 refine I.call' rfl ⟨λb u q _ _ J=>k b u J q,λb u q _ _ J=>⟨u.slots,k b u J q⟩,λb u q n _=>n,λb u q J=>⟨u,k b u J q⟩,λb j e=>e,λb p u e=>e,λb ps e=>⟨#[],by simpa using e⟩⟩ (λa q e=>?_) I.bare
  (λb d=>⟨(hf b d).2.2.2.1,(hf b d).2.1,(hf b d).2.2.2.2.1,(hf b d).2.2.2.2.2⟩)
 refine ObjOk.stay (I.hok a q e) (λb u d i=>k b u (λg=>?_) i) (λb d=>d) (λb j d=>d);have:=(hf b g).1;rcases d with rfl|d
 ·rw[this]at e;cases e
 ·rw[this]at d;cases d
end
def Ite(K:zvi)(a:bb):It :=
 ⟨λi H=>∃b x,SqL K H a b/\b[i]?=some x,λi H x d=>∃T y,H T=none/\x=.ref T/\(∀b,SqL K H a b->b[i]?=some y)/\d=upd H T (.tup [.int i,y]),λi H=>∃b,SqL K H a b/\b.length<=i⟩
theorem tZ{h:bz}{b:bb}{o:Obj}{n:String}(J:h.IsList a its)(i:h.get? b=some o)(d:o.cls=.type n)(g:n ≠ "list"):a≠b:=by rintro rfl;obtain⟨o',e,c,_⟩:=J;rw[i]at e;cases e;rw[d]at c;cases c;exact g rfl
theorem xS{P:bP}{K:zvi}{elts:ai bN}{k:Nat}(a e it:bb)(b1:e≠it):Turn P w K (.Tuple elts k tp) (Ite K a) [e,it] e (λi h=>(∃old,IsEnum h e it i old)/\h.IsListIter it a i) where
 mem:=by simp
 obj:=λi h st b g=>by
  obtain⟨⟨old,j⟩,ho⟩:=st;rcases zzr.mp g with rfl|g
  ·exact⟨_,j,λv z=>by have z':Data.fields _=Data.cell v:=z;cases z'⟩
  ·have:b=it:=by simpa using g
   subst this;obtain⟨o,U,c,d⟩:=ho;exact⟨o,U,λv z=>by rw[d]at z;cases z⟩
 keep:=λi h h' st k=>⟨let ⟨old,j⟩:=st.1;⟨old,k e (by simp) _ j⟩,st.2.at λo x=>k it (by simp) o x⟩
 item:=by
  intro X Y m N Q i pins s σ H E I G st l;subst Y m N;obtain⟨xs,x,L,n⟩:=l;obtain⟨its,y,p,hz⟩:=I.list L;obtain⟨u,hu,ru⟩:=y.get n;obtain⟨⟨old,j⟩,hit⟩:=st;have a9:a≠e:=tZ p.isList j rfl (by decide);have b0:a≠it:=by obtain⟨o,U,c,d⟩:=id hit;exact tZ p.isList U c (by decide)
  have W:=WalksT.enumerate (prog:=X.prog) (w:=X.w) (I.ok.hd Q) e it a b1 a9 b0 its.toArray;have hi:i<its.toArray.size:=by have:=(zzt.mp hu).1;simpa using this
  refine W.item i s _ _ hi ⟨⟨old,j⟩,hit,p.isList⟩ λT vals M tk Y hT a8 J hk=>?_;obtain⟨t,z,C,rfl⟩:=Y;have a7:z=u:=by
   have:its.toArray[i]?=some u:=by simpa using hu
   rw[this]at C;cases C;rfl
  subst a7;have ap:=W.apart i T M J;refine⟨_,rfl,W.go elts k tp i T {s with heap:=M,toks:=tk} _ _ J λh2 b3 A=>?_⟩;obtain⟨a5,a6,_⟩:=b3;have I2:Inv X pins σ (upd H T (.tup [.int i,x])) {s with heap:=h2,toks:=tk}:=by
   refine I.turnedN G (λb o g q=>A b o g (hk b o g q)) hT ⟨?_,[.int i t,z],.cons ⟨t,rfl⟩ (.cons ru .nil),?_⟩
   ·exact⟨by show 2<=sizeLine;decide,.inr ⟨_,_,rfl⟩⟩
   ·obtain⟨o,U,r⟩:=a8;exact⟨o,A T o ap U,r⟩
  refine⟨.ref T,_,I2,rfl,⟨T,x,I.hok.fresh hT,rfl,λys hy=>by rw[I.list_inj hy L];exact n,rfl⟩,⟨by simpa using a5,a6⟩,λb g=>?_⟩;have fb:=G b g;rw[af]
  ·exact fb.1
  ·rintro rfl;exact ap g
 done:=by intro X Y m N Q i pins s σ H E I G st l;subst Y m N;obtain⟨xs,L,n⟩:=l;obtain⟨its,y,p,hz⟩:=I.list L;obtain⟨⟨old,j⟩,hit⟩:=st;have hl:=y.length;refine wpAny_pyNext_enum_end (I.ok.hd Q) j hit p.isList (by simp;lia) λM b2=>⟨rfl,?_⟩;exact I.turnedL G λb o g q=>b2 b o (λz=>g (by simp[z])) q
 self:=λ_ _ _ _ _ st h=>let ⟨_,j⟩:=st.1;zwr j h
theorem pq:bootBuiltins "enumerate" = some (.type "enumerate"):=by decide +kernel
theorem AR:bootBuiltins "zip" = some (.type "zip"):=by decide +kernel
def Kj(K:zvi)(ta:TA):TI:=λσ H R=>ta σ H λvs b=>∃a,vs=[.ref a]/\(∃d,SqL K b a d)/\R (Ite K a) b
theorem EE{l:bN}{i:TA}{elts:ai bN}{k:Nat}(x:Gl X "enumerate")(G:X.mg "enumerate" = none)(v:PA X [l] i)(he:starEach [l] X.env=(false,eval l X.env)::starEach [] X.env:=by rfl)(U:(backTo pos (starEach [] X.env)).any (·.1)=false:=by rfl) :
  PI X (.Tuple elts k tp) (.Call (.Name "enumerate" p) [l] [] pos) (Kj X.K i):=by
 intro pins s σ H R I h;refine Call_ (eY I x G pq (PyProof.Rows.callWith_type1 (thn (v pos pins s σ H _ I h) λus d N=>?_) he U));obtain⟨vs,j,J,c,Q⟩:=N;obtain⟨a,e,⟨xs,L⟩,q⟩:=Q;subst e;obtain⟨u,rfl,m⟩:=c.one;cases m;obtain⟨its,rv,M,hz⟩:=J.list L;refine call_enumerate_list M.isList λh1 Y hit hsz z=>?_;refine zwr Y ?_;have ne:d.heap.objs.size+1≠d.heap.objs.size:=by lia
 refine⟨_,[d.heap.objs.size+1,d.heap.objs.size],_,Ite X.K a,j,rfl,J.kept z,xS a _ _ ne,⟨⟨_,Y⟩,hit⟩,λb g=>?_,q⟩;rcases zzr.mp g with rfl|g
 ·exact J.fpOk (zwv _) (J.hok.fresh (zwv _))
 ·have:b=d.heap.objs.size:=by simpa using g
  subst this;exact J.fpOk (zzn _) (J.hok.fresh (zzn _))
theorem lI{x:V}:∀{xs:ai V} {b:ai av},Vals xs b->xs.all gX=true->b.countP (eqU x)=xs.countP λy=>eqV y x
 |_,_,.nil,_=>rfl|y::xs,u::b,.cons r t,f=>by rw[zve,zzY]at f;rw[List.countP_cons,List.countP_cons,xF r f.1,lI t f.2]
def Hw:V->ai V->Hp->VK->Prop:=λx vs H Q=>∃l b y,x=.ref l/\vs=[y]/\H l=some (.lst b)/\gX y=true/\b.all gX=true/\Q (.int ((b.countP λz=>eqV z y:Nat):Int)) H
theorem AS:MtM X "list.count" Hw:=by intro pins s σ H x vs v us Q I g d h;obtain⟨l,xs,y,rfl,rfl,U,J,fs,q⟩:=h;cases g;obtain⟨u,rfl,Y⟩:=d.one;obtain⟨z,its,n,r,hl,e⟩:=I.lstM U;refine zxV F.slot_list_count ⟨_,e,rfl⟩ F.entry_list_count (F.args_list_count_2 _ _) (SeqAt.list_countAt l its.toArray n none #[] u (eqU y)) ⟨e,λw b=>tU Y J r fs w (by simpa using b),?_⟩;refine⟨.int _,H,I.tok _,⟨_,rfl⟩,?_⟩;rw[show its.toArray.toList.countP (eqU y)=its.countP (eqU y) from rfl,lI r fs];exact q
def Hx:V->ai V->Hp->VK->Prop:=λx vs H Q=>∃l b y j,x=.ref l/\vs=[y]/\H l=some (.lst b)/\gX y=true/\b.all gX=true/\(∃z,b[j]?=some z/\eqV z y=true)/\(∀m z,m<j->b[m]?=some z->eqV z y=false)/\Q (.int ((j:Nat):Int)) H
theorem AT:MtM X "list.index" Hx:=by
 intro pins s σ H x vs v us Q I rx rv h;obtain⟨l,b,y,j,rfl,rfl,C,A,fs,⟨z0,U,c⟩,a,q⟩:=h;cases rx;obtain⟨u,rfl,T⟩:=rv.one;obtain⟨z,its,n,r,L,e⟩:=I.lstM C;have p:∀(m:Nat) (z:V),b[m]?=some z->gX z=true:=λm z E=>zyw.mp fs z (zzD E);have G:j<its.length:=by rw[←L];exact(zzt.mp U).1
 have at_:∀(m:Nat) (d:m<its.toArray.size),∃z,b[m]?=some z/\eqU y its.toArray[m]=eqV z y:=λm d=>by
  have J:m<b.length:=by rw[L];simpa using d
  obtain⟨w,k,rw'⟩:=r.get (show b[m]?=some b[m] by simp[J]);refine⟨b[m],by simp[J],?_⟩;have:its.toArray[m]=w:=by
   have N:m<its.length:=by simpa using d
   have:its[m]?=some its[m]:=by simp[N]
   rw[k]at this;cases this;simp
  rw[this];exact xF rw' (p m _ (by simp[J]))
 have sj:(j:Int)<2^63 - 1:=by
  have:(sizeLine:Int)<2^63 - 1:=by decide
  lia
 refine zxV F.slot_list_index ⟨_,e,rfl⟩ F.entry_list_index (F.args_list_index_2 _ _) (SeqAt.list_indexAt l its.toArray n none #[] u (eqU y) j (by simpa using G) sj ?_ (λm d Y=>?_)) ⟨e,λw k=>tU T A r fs w (by simpa using k),?_⟩
 ·obtain⟨M,g,i⟩:=at_ j (by simpa using G);rw[U]at g;cases g;rw[i];exact c
 ·obtain⟨M,g,i⟩:=at_ m d;rw[i];exact a m M Y g
 ·exact⟨.int _,H,I.tok _,⟨_,rfl⟩,q⟩
theorem ic{t:bb}{lo b:bo Int}{Q:av->bd->Prop}(J:IsTup s.heap t its)(d:s.heap.IsSliceOf T f0 f1 .none)(j:IsPart f0 lo)(k:IsPart f1 b)(hw:HT.sIx its.size 0 lo=0/\HT.sIx its.size its.size b=its.size)(h:Q (.ref t) s):wpAny (model prog w) A (getItem (.ref t) (.ref T)) Q E s:=by
 obtain⟨os,i,g,hds⟩:=id d;have Y:s.TypeIs (.ref T) "slice":=⟨os,i,g⟩;unfold getItem
 try with_reducible refine zyn ?_
 first|refine zzb (zzq ?_)|skip
 refine zzb (wpAny_sequenceKey J.typeIs (by decide) ?_);refine zzb (wpAny_callSpecial?_slot J.typeIs PyProof.Rows.slot_tuple_getitem
  (zyB PyProof.Rows.slot_tuple_getitem J.typeIs PySem.F.entry_tuple_getitem ?_ (PySem.F.args_tuple_getitem_2 _ _)))
 show wpAny _ _ (Builtin.Tuple.tupleItemsOf (.ref t) >>= _) _ _ s;refine zzb (tupleItemsOf_ J ?_);refine zzb (zwL Y ?_);rw[zzi (by decide)];refine zzb (HT.sliceApplied_gen d j k ?_);rw[hw.1,hw.2,zwO];have U:(((((0:Nat):Int))==0 && (1:Int)==1 && its.size==its.size))=true:=by simp
 show wpAny _ _ (if ((((0:Nat):Int))==0 && (1:Int)==1 && its.size==its.size)=true then _ else _) _ _ s;rw[zzi U];unfold Builtin.Tuple.tupleIsExact;refine zzb (zzb (zwL J.typeIs (zzq ?_)));show wpAny _ _ (rule "tuple.getitem.whole" >>= λ_=>ret (Value.ref t)) _ _ s;exact zzb (zxW (zzq ⟨_,rfl,zzq h⟩))
def rSlW(K:zvi):V->bo Int->bo Int->Hp->VK->Prop:=λx lo d H Q=>∃a b,x=.ref a/\SqT K H a b/\(HT.sIx b.length 0 lo=0/\HT.sIx b.length b.length d=b.length)/\Q (.ref a) H
theorem EF{X:Cx}:SlR X (rSlW X.K):=by
 intro pins s σ H x v vl vu lo hi sl Q I j b g i h;obtain⟨a,k,rfl,Y,d,q⟩:=h;cases j;obtain⟨its,r,U,hz⟩:=I.tuple Y;have J:its.toArray.size=k.length:=by rw[zzA];exact r.length.symm
 refine⟨"tuple",_,PyProof.Rows.slot_tuple_getitem.lookup,U.typeIs,?_⟩;exact ic U b g i (by rw[J];exact d) ⟨.ref a,H,I,rfl,q⟩
abbrev dA(h:bz)(z TI TO:bb)(f0 f1:av):Prop :=
 h.get? z=some {cls:=.type "zip",dict:=none,data:=.fields #[f0,f1,.bool false,.ref TI,.ref TO],slots:=#[]}
abbrev cK(h:bz)(T:bb)(xs:Array av):Prop:=h.get? T=some {cls:=.type "tuple",data:=.seq xs}
def OwnF(f:av):Prop:=f=.none∨∃a:Int,f=.int a 0
abbrev itsL(n m:Nat):ai av:=(List.range m).map λj=>Value.ref (n+j)
def KeptZ(n m:Nat)(h h':bz):Prop:=∀(b:Nat) o,b<n∨b=n+m∨n+m+2<b->h.get? b=some o->h'.get? b=some o
theorem ie{Q:bo Obj->bd->Prop}(h:Q (s.heap.get? a) s):wpAny (model prog w) A (loadIfAlive a) Q E s :=
 fun Γ p _=>by show Sem.wp _ Γ (.loadIfAlive a .pure) _ _ p s;rw[Sem.wp_loadIfAlive];exact h
theorem AU{z:bb}{Q:Bool->bd->Prop}(hf:OwnF f0)(J:dA s.heap z T c f0 f1)(d:Q true s)(g:∀h' U,dA h' z T c f0 U->Heap.SameBut z s.heap h'->Q false {s with heap:=h' }) :
  wpAny (model prog w) A (Builtin.SmallTypes.ownedTupleIsFree (.ref z)) Q E s:=by
 unfold Builtin.SmallTypes.ownedTupleIsFree;refine zzb (zyW J rfl rfl ?_);rcases hf with rfl|⟨a,rfl⟩
 ·exact zzq d
 ·show wpAny _ _ (loadIfAlive a.toNat >>= _) _ _ _;refine zzb (ie ?_);cases e:s.heap.get? a.toNat with
  |none=>exact zzq d|some o =>
   show wpAny _ _ (field (.ref z) 1 >>= _) _ _ _;refine zzb (zyW J rfl (x:=f1) rfl ?_);by_cases b:(f1 != .bool true)=true
   ·rw[zzi b];refine zzb (zxs J (by simp) λh' Y i=>zzq (g h' (.bool true) ?_ i));exact Y
   ·rw[zzg b];refine zzb (zzq ?_);exact zzq (g s.heap f1 J (Heap.SameBut.refl ..))
theorem fO{b:Type}{l:ai b}{p:b}(h:l[n]?=some p):n<l.length:=(zzt.mp h).1
theorem fP{x:av}{k:Nat}{Q:Unit->bd->Prop}(J:cK s.heap T its)(U:its.size<=sizeLine)(h:∀h',cK h' T (its.setIfInBounds k x)->Heap.SameBut T s.heap h'->Q () {s with heap:=h' }) :
  wpAny (model prog w) A (updateSeq T (·.setIfInBounds k x)) Q E s:=by
 refine wpAny_updateSeq J rfl (h _ ?_ (zyc ..)) U (by simp;lia);show Heap.get? _ _=_;rw[zxu _ J rfl];simp[Obj.mapSeq]
theorem xT{b:Type}{l:ai b}{c:Nat}{x:b}{r:ai b}(h:l.drop c=x::r):l[c]?=some x/\l.drop (c+1)=r:=by
 have d:c<l.length:=by
  rcases Nat.lt_or_ge c l.length with h'|h'
  ·exact h'
  ·rw[List.drop_eq_nil_of_le h']at h;cases h
 rw[zxe d]at h;cases h;exact⟨by simp,rfl⟩
theorem xU{c:Nat}(h:c<m):(itsL n m)[c]?=some (.ref (n+c)):=by unfold itsL;rw[zzl,zzW h];rfl
def Told(src:ai (bb×Array av))(k c:Nat)(vs:ai av):Prop:=vs.length=c/\∀(j:Nat) (p:bb×Array av),j<c->src[j]?=some p->p.2[k]?=vs[j]?
theorem Told.push{b:ai (bb×Array av)}{k c:Nat}{p:bb×Array av}{v:av}(t:Told b k c vs)(d:b[c]?=some p)(U:p.2[k]?=some v):Told b k (c+1) (vs++[v]):=by
 refine⟨by simp[t.1],λj q hj J=>?_⟩;by_cases z:j=c
 ·subst z;rw[d]at J;cases J;rw[U,zzM (by rw[t.1];exact zzn _),t.1];simp
 ·rw[t.2 j q (by lia) J,zys (by rw[t.1];lia)]
abbrev tuO(xs:ai av):Obj:={cls:=.type "tuple",data:=.seq xs.toArray}
abbrev ziO(TI TO:bb):Obj:={cls:=.type "zip",data:=.fields #[.none,.bool false,.bool false,.ref TI,.ref TO]}
def Hy(J:ai (ai V))(i:Nat)(r:ai V):Prop:=r.length=J.length/\∀(j:Nat) xs,J[j]?=some xs->xs[i]?=r[j]?
def SrcV(J:ai (ai V))(src:ai (bb×Array av)):Prop:=J.length=src.length/\∀(j:Nat) xs (p:bb×Array av),J[j]?=some xs->src[j]?=some p->Vals xs p.2.toList
theorem Vals.got:∀{xs:ai V} {b:ai av} {i:Nat} {u:av},Vals xs b->b[i]?=some u->∃x,xs[i]?=some x/\RelV x u:=λ{xs b i u} r e=>by
 have d:i<b.length:=fO e;have U:xs[i]?=some (xs[i]'(by rw[r.length];exact d)):=by simp
 obtain⟨u',J,Y⟩:=r.get U;rw[e]at J;cases J;exact⟨_,U,Y⟩
theorem pz{i:Nat}:∀{J:ai (ai V)} {b:ai (bb×Array av)} {vs:ai av},SrcV J b->vs.length=b.length->(∀(j:Nat) (p:bb×Array av),b[j]?=some p->p.2[i]?=vs[j]?)->∃r,Hy J i r/\Vals r vs
 |[],b,vs,U,Y,_=>by have h0:b=[]:=zzX.mp (by rw[←U.1];rfl);subst h0;have k:vs=[]:=zzX.mp (by rw[Y];rfl);subst k;exact⟨[],⟨rfl,λj d h=>by simp at h⟩,.nil⟩
 |d::J,[],vs,U,Y,_=>absurd U.1 (by simp)|d::J,p::b,[],U,Y,_=>absurd Y (by simp)|d::J,p::b,v::vs,U,Y,h=>by
  obtain⟨r,q,G⟩:=pz ⟨by simpa using U.1,λj d p k u=>U.2 (j+1) d p (by simpa using k) (by simpa using u)⟩ (by simpa using Y) λj p g=>by have:=h (j+1) p (by simpa using g);simpa using this
  have h0:=h 0 p rfl;have h0:p.2[i]?=some v:=by simpa using h0
  obtain⟨x,z,I⟩:=(U.2 0 d p rfl rfl).got (by rw[zyy];exact h0);refine⟨x::r,⟨by simp[q.1],λj L g=>?_⟩,.cons I G⟩;cases j with
  |zero=>simp at g;subst g;simpa using z|succ j=>simpa using q.2 j L (by simpa using g)
theorem ud{J:ai (ai V)}{b:ai (bb×Array av)}{i:Nat}(d:SrcV J b)(Y:Told b i b.length vs):∃r,Hy J i r/\Vals r vs :=
 pz d Y.1 λj p U=>Y.2 j p (fO U) U
theorem ue{b:Nat}(h:b<n∨n+m+2<b):b<n∨b=n+m∨n+m+2<b:=h.imp_right .inr
theorem pA:bootBuiltins "list" = some (.type "list"):=by decide +kernel
theorem xV(f:Bool->Bool):∀(bs:ai Bool),(List.range bs.length).all (λi=>f (bs.getD i false))=bs.all f:=by
 intro bs;rw[zyU];simp only[zyw,zzB];constructor
 ·intro h b g;obtain⟨i,d,e⟩:=zxX.mp g;have:=h i d;rw[zze,zzp d]at this;subst e;simpa using this
 ·intro h i d;have:=h bs[i] (zyL d);rw[zze,zzp d];simpa using this
theorem xW:∀(bs:ai Bool),(List.range bs.length).any (λi=>bs.getD i false)=bs.any id:=by
 intro bs;rw[zyU];simp only[zyS,zzB];constructor
 ·rintro⟨i,d,h⟩;rw[zze,zzp d]at h;exact⟨bs[i],zyL d,by simpa using h⟩
 ·rintro⟨b,g,h⟩;obtain⟨i,d,e⟩:=zxX.mp g;refine⟨i,d,?_⟩;rw[zze,zzp d];subst e;simpa using h
theorem jK{prog:bP}{bs:ai Bool}(r:Vals (bs.map V.bl) vs):TruthOf prog w A (λi v=>vs.toArray[i]?=some v) (λi=>bs.getD i false):=by
 intro i v s Q E h q;have h:vs[i]?=some v:=by simpa using h
 have b:i<bs.length:=by have:=r.length;have:=fO h;simp at *;lia
 obtain⟨u,J,U⟩:=r.get (i:=i) (x:=.bl bs[i]) (by simp[b]);rw[h]at J;cases J;cases U;have q:Q (bs.getD i false) s:=q;rw[zze,zzp b]at q;exact zxw q
theorem AV(i:X.calm=true):cZ X (.builtin "all") (λxs H Q=>∃(p:bb) (bs:ai Bool),xs=[.ref p]/\SqL X.K H p (bs.map V.bl)/\Q (.bl (bs.all id)) H):=by
 intro pins s σ H xs us Q I r h;obtain⟨p,bs,rfl,k,q⟩:=h;obtain⟨u,rfl,e⟩:=gU r;cases e;obtain⟨its,Y,d,_⟩:=I.list k;have J:its.toArray.size=bs.length:=by have:=Y.length;simpa using this.symm
 have U:p≠s.heap.objs.size:=by obtain⟨o,v,_⟩:=d.isList;exact zzC (zzv v)
 refine call_all_walk (zxx d.isList ⟨s.heap.objs.size,_,_,_,_,_,_,rfl,Walks.list (A:=X.A.in1) (I.ok.hd i) s.heap.objs.size p U its.toArray,⟨⟨_,zzw _ rfl,rfl,rfl⟩,d.isList.push _⟩,jK Y,λh' tk j=>⟨.bl (bs.all id),H,I.kept λb o e=>j b o ?_ (zzj _ e),?_,q⟩⟩)
 ·intro g;have:b=s.heap.objs.size:=by simpa using g
  exact absurd (zzv e) (by rw[this];exact zyG _)
 ·show Value.bool _=Value.bool _;rw[J];have:=xV id bs;simp only[id]at this ⊢;rw[this]
theorem AW(i:X.calm=true):cZ X (.builtin "any") (λxs H Q=>∃(p:bb) (bs:ai Bool),xs=[.ref p]/\SqL X.K H p (bs.map V.bl)/\Q (.bl (bs.any id)) H):=by
 intro pins s σ H xs us Q I r h;obtain⟨p,bs,rfl,k,q⟩:=h;obtain⟨u,rfl,e⟩:=gU r;cases e;obtain⟨its,Y,d,_⟩:=I.list k;have J:its.toArray.size=bs.length:=by have:=Y.length;simpa using this.symm
 have U:p≠s.heap.objs.size:=by obtain⟨o,v,_⟩:=d.isList;exact zzC (zzv v)
 refine call_any_walk (zxx d.isList ⟨s.heap.objs.size,_,_,_,_,_,_,rfl,Walks.list (A:=X.A.in1) (I.ok.hd i) s.heap.objs.size p U its.toArray,⟨⟨_,zzw _ rfl,rfl,rfl⟩,d.isList.push _⟩,jK Y,λh' tk j=>⟨.bl (bs.any id),H,I.kept λb o e=>j b o ?_ (zzj _ e),?_,q⟩⟩)
 ·intro g;have:b=s.heap.objs.size:=by simpa using g
  exact absurd (zzv e) (by rw[this];exact zyG _)
 ·show Value.bool _=Value.bool _;rw[J,xW]
theorem EG{elts:ai bN}{x1}{z:bb}{Q:Unit->bd->Prop}(hf:OwnF f0)(Y:dA s.heap z c C f0 f1)(b:∀h' J,OwnF J->dA h' z c C J f1->Heap.SameBut z s.heap h'->Q () {s with heap:=h' }) :
  wpAny (model prog w) A (letOwnedTupleGo (.Tuple elts x1 pos) (.ref z) (.ref T)) Q E s:=by
 unfold letOwnedTupleGo;refine zzb (wpAny_load Y ?_);show wpAny _ _ (if (["enumerate","zip","dict_itemiterator","dict_reverseitemiterator","odict_iterator","itertools.zip_longest","itertools.pairwise"].contains "zip" &&
   (#[f0,f1,.bool false,.ref c,.ref C]:Array av)[0]?==some (rawInt T))=true then _ else _) Q E s
 split
 ·refine zzb (zxW ?_);show wpAny _ _ (setField (.ref z) 0 .none) Q E s;exact zxs Y (by simp) λh' d U=>b h' .none (.inl rfl) d U
 ·exact zzq (b s.heap f0 hf Y (Heap.SameBut.refl _ _))
def fpZ(n m:Nat):ai bb:=(List.range (m+3)).map (n + ·)
theorem fpZ_mem{b:Nat}:b∈fpZ n m↔n<=b/\b<n+m+3:=by
 unfold fpZ;simp only[zzc,zzB];constructor
 ·rintro⟨a,d,g⟩;lia
 ·rintro⟨d,g⟩;exact⟨b - n,by lia,by lia⟩
theorem xX{c:Nat}(h:c∈fpZ n m):c=n+m+2∨c=n+m∨c=n+m+1∨(c - n<m/\n+(c - n)=c):=by have:=fpZ_mem.mp h;lia
theorem rq{b:Nat}(h:b∉fpZ n m):b<n∨n+m+2<b:=by have:¬(n<=b/\b<n+m+3):=λz=>h (fpZ_mem.mpr z);lia
theorem Hz{b:Nat}(h:b∉fpZ n m):b≠n+m+2:=by have:=rq h;lia
def rA(n:Nat):ai V:=(List.range n).map λ(i:Nat)=>V.int i
def HA(ta:TA):TE:=λσ H Q=>ta σ H λvs b=>∃j:Int,vs=[.int j]/\0<=j/\j<=100000/\∀l,b l=none->Q (.ref l) (upd b l (.lst (rA j.toNat)))
theorem jL:∀{xs:ai V} {b:ai av},xs.length=b.length->(∀(i:Nat) x u,xs[i]?=some x->b[i]?=some u->RelV x u)->Vals xs b
 |[],[],_,_=>.nil|[],_::_,h,_=>by simp at h
 |_::_,[],h,_=>by simp at h
 |x::xs,u::b,h,k=>.cons (k 0 x u rfl rfl) (jL (by simpa using h) λi y v d g=>k (i+1) y v (by simpa using d) (by simpa using g))
theorem pB{a:bN}{N:TA}(T:X.calm=true)(Y:Gl X "list")(w:X.mg "list" = none)(hg:Gl X "range")(hm:X.mg "range" = none)(E:PA X [a] N)(he:starEach [a] X.env=[(false,eval a X.env)]:=by rfl)(L:starEach [.Call (.Name "range" tp) [a] [] ps] X.env=(false,eval (.Call (.Name "range" tp) [a] [] ps) X.env)::starEach [] X.env:=by rfl)(J:(backTo pos (starEach [] X.env)).any (·.1)=false:=by rfl) :
  PE X (.Call (.Name "list" p) [.Call (.Name "range" tp) [a] [] ps] [] pos) (HA N):=by
 intro pins s σ H Q I h;refine zxI (eY I Y w pA ?_ (by decide) (by decide));refine PyProof.Rows.callWith_type1 ?_ L J;rw[L];show wpAny _ _ (spliced ((false,eval (.Call (.Name "range" tp) [a] [] ps) X.env)::backTo pos (starEach [] X.env))) _ _ s;refine Calls.spliced_cons ?_;refine Call_ (eY I hg hm boot_range (PyProof.Rows.callWith_type1 (thn (E ps pins s σ H _ I h) λus d q0=>?_) he rfl));obtain⟨vs,l,m,r1,M⟩:=q0;obtain⟨j,e,M,q2,q⟩:=M;subst e;cases r1 with
 |cons r rr =>
  cases rr;obtain⟨t,rfl⟩:=r;refine call_range_1 ?_;refine Calls.spliced_nil ?_;have v:Inv X pins σ l {d with heap:=d.heap.push {cls:=.type "range",data:=.fields #[.int 0 d.toks,.int j t,.int 1 (d.toks+1)]},toks:=d.toks+1+1}:=m.kept λb o e=>zzj _ e;have hn:Builtin.Range.rangeSize 0 j 1=((j.toNat:Nat):Int):=by rw[rangeSize_one];split<;>lia
  refine call_list_range (I.ok.hd T) (IsRange.new ..) (small_one (by decide) (by decide) (by lia) (by lia)) hn (by lia) λh' tk U c hk C G=>?_;refine⟨.ref _,_,v.laid (o:=.lst (rA j.toNat)) hk (zzn _) ⟨?_,U.toList,c,?_,?_⟩,rfl,q _ (v.hok.fresh (zzn _))⟩
  ·unfold rA;rw[zza,zzK];exact zzo (show j.toNat<=100000 by lia) (by decide)
  ·refine jL ?_ λi x u g z=>?_
   ·unfold rA;rw[zza,zzK,zyx,G.1]
   ·rw[zyy]at z;obtain⟨t',y⟩:=G.2 i u z;unfold rA at g;rw[zzl]at g;obtain⟨k,A,rfl⟩:=zym.mp g;have n:k=i:=by
     have:=(zzt.mp A).2;simpa using this.symm
    subst n;refine⟨t',?_⟩;rw[y];congr 1;lia
  ·rw[Array.toArray_toList];exact C
end L2
namespace PySem
section
variable{prog:bP}{w:World}{K:Type}[DecidableEq K]{knd:HeapKind prog w K}{A:Around}{E:av->bd->Prop}{z:bd}
theorem AX{c b:bb}{ps:ai (K×bb×av)}{q:K}{x:av}{R:av->bd->Prop}(U:knd.room A)(d:knd.is z.heap q b)(D:z.heap.DictOfH knd c ps)(g:ps.length<=sizeLine)
  (old:∀p,atKey ps q=some p->R p.2 {z with toks:=z.toks+knd.draws q})
  (new:atKey ps q=none->∀k,k.DictOfH knd c (storedH ps q b x)->Heap.SameBut c z.heap k->R x {z with heap:=k,toks:=z.toks+knd.draws q}) :
  wpAny (model prog w) A (dictSetDefault c (.ref b) x) R E z:=by
 obtain⟨ob,n,r,g1,g2,g3,a,m,i⟩:=D;unfold dictSetDefault
 try with_reducible refine zyn ?_
 refine zzb (knd.pyHash U d ?_);refine zzb (wpAny_dictFind_heap U d g1 g3 a m i (λJ=>?_) (λj p at_=>?_))
 ·have few2:n.size<=sizeLine:=by rw[size_of_entries a];exact g
  have l:=atKey_none_of_get J;refine zzb (zxW (zzb (wpAny_updateDictKeys g1 g3 (zzq (new l _ ⟨_,_,r+1,zxu _ g1 (Obj.isFreed_of_dict (Obj.data_mapDictKeys g3 _)),g2.mapDictKeys _,Obj.data_mapDictKeys g3 _,?_,?_,?_⟩ (zyc ..))))))
  all_goals rw[storedH_new l]
  ·simp[a,entryOfKey]
  ·intro y Y;rcases zzx.mp Y with Y|Y
   ·exact knd.keeps (m y Y) g1 g3 (zyc ..)
   ·rw[zzy.mp Y];exact knd.keeps d g1 g3 (zyc ..)
  ·rw[zzs,List.map_singleton];refine zxj.mpr ⟨i,zyl.mpr ⟨by simp,zxy⟩,λy Y u s e=>?_⟩;have e:y=q:=by rw[zzy.mp s]at e;exact e
   subst e;exact not_mem_keys_of_get J Y
 ·refine zzb (zws g1 g3 ?_);rw[entry_at a j,at_];exact zzb (zxW (zzq (old p (atKey_of_get i at_))))
theorem lj(knd:HeapKind prog w K)(c b:bb)(x:av)(plain:(c==sysModules)=false) :
  MeetsIn prog w (Builtin.«dict.setdefault» ⟨[.ref c,.ref b,x],[]⟩) (λA R z=>knd.room A.in1/\∃q ps,knd.is z.heap q b/\z.heap.DictOfH knd c ps/\ps.length<=sizeLine /\
   (∀p,atKey ps q=some p->R (.ok (.ret p.2)) {z with toks:=z.toks+knd.draws q}) /\
   (atKey ps q=none->∀a,a.DictOfH knd c (storedH ps q b x)->Heap.SameBut c z.heap a->R (.ok (.ret x)) {z with heap:=a,toks:=z.toks+knd.draws q})) :=
 .of_wp λA R z h=>by obtain⟨J,q,ps,U,D,d,old,new⟩:=h;refine zzb ?_;refine zzb (zwF D.typeIs ?_);refine zzq ?_;show wpAny _ _ (if (c==sysModules)=true then _ else(dictSetDefault c (.ref b) x >>= _)) _ _ z;rw[zzg (by rw[plain];exact zzL)];exact zzb (AX J U D d (λp e=>zzq ⟨p.2,rfl,old p e⟩) λe a Y g=>zzq ⟨x,rfl,new e a Y g⟩)
end
end PySem
namespace L2
open PySem PySem.Spec PyProof.Rows
section
variable{X:Cx}
def Kk:V->ai V->Hp->VK->Prop:=λx d H Q=>∃a c k b y,x=.ref a/\d=[.ref b,y]/\H a=some (.dT c)/\H b=some (.tup (k.map kV))/\c.length<sizeLine /\
 (∀v,valV c k=some v->Q v H)/\(valV c k=none->Q y (upd H a (.dT (putK c k y))))
theorem mX(hu:X.A.units+1<cLine):MtM X "dict.setdefault" Kk:=by
 intro pins s σ H x vs v us Q I rx rv h;obtain⟨a,d,k,b,y,rfl,rfl,e,j,l,L,M⟩:=h;cases rx;cases rv with
 |cons r1 rr =>
  obtain⟨u,rfl,r⟩:=Vals.one rr;cases r1;obtain⟨z,plain,C,rel,i⟩:=Hh I.hok e;have hz:C.length<=sizeLine:=by rw[←zwa rel];exact z
  have hl:(putK d k y).length<=sizeLine:=by have:=fN d k y;lia
  refine call_meetsIn F.slot_dict_setdefault i.typeIs F.entry_dict_setdefault (F.args_dict_setdefault_3 _ _ _) (lj (tupleKind (aF X.prog X.w)) a b u plain) ⟨zxJ hu,k,C,lH I.hok j,i,hz,λp hp=>?_,λhn h' U hs=>?_⟩
  ·have q:=rel.val k;rw[hp]at q;cases J:valV d k with
   |none=>rw[J]at q;exact q.elim|some g =>
    rw[J]at q;exact⟨g,H,I.tok _,q,L g J⟩
  ·have q:=rel.val k;rw[hn]at q;cases J:valV d k with
   |some g=>rw[J]at q;exact q.elim|none =>
    obtain⟨q,G,E,n,Y,N,T,_,h5⟩:=U;refine⟨y,_,qV (ob:=.dT (putK d k y)) I (by rw[e];exact True.intro) hs ⟨q,n⟩ ⟨hl,plain,_,(rel.put k j r).keeps λc ys m=>?_,q,G,E,n,Y,N,T,h5⟩,r,M J⟩;rw[af (iT m e (λz=>nomatch z))];exact m
end
end L2
namespace L2
open PySem PySem.Spec PyProof.Rows PySem.W
variable{H:Hp}{d:bb}{h':bz}{k k1:ai Key}{n:Nat}{v1 v2:av}{α β:Type}
variable{prog:bP}{w:World}{A:Around}{E:av->bd->Prop}{s:bd}
def kRun{α:Type}(c:Nat->Nat->Bool):KasT α->α
 |.ret a=>a|.ask i j k=>kRun c (k (c i j))
def KGood{α:Type}(N:Nat)(P:α->Prop):KasT α->Prop
 |.ret a=>P a|.ask i j k=>(i<N/\j<N)/\∀b,KGood N P (k b)
theorem KGood.bind{α β:Type}{N:Nat}{P:α->Prop}{R:β->Prop}{f:α->KasT β}(hf:∀a,P a->KGood N R (f a)):∀(t:KasT α),KGood N P t->KGood N R (t.bind f)
 |.ret a,h=>hf a h|.ask i j k,h=>⟨h.1,λb=>KGood.bind hf (k b) (h.2 b)⟩
theorem KGood.end{α:Type}{N:Nat}{P:α->Prop}(c:Nat->Nat->Bool):∀(t:KasT α),KGood N P t->P (kRun c t)
 |.ret a,h=>h|.ask i j k,h=>KGood.end c (k (c i j)) (h.2 _)
theorem KGood.wp{α:Type}{N:Nat}{P:α->Prop}{c:Nat->Nat->Bool}{cmp:Nat->Nat->(Bool->bd->Prop)->bd->Prop}{s:bd}
  (b:∀i j (C:Bool->bd->Prop),i<N->j<N->C (c i j) s->cmp i j C s):∀(t:KasT α) (Q:α->bd->Prop),KGood N P t->Q (kRun c t) s->t.kasWp cmp Q s
 |.ret a,Q,_,q=>q|.ask i j k,Q,h,q=>b i j _ h.1.1 h.1.2 (KGood.wp b (k (c i j)) Q (h.2 _) q)
def PmN(N:Nat)(p:Array Nat):Prop:=p.toList.Perm (List.range N)
section
variable{N:Nat}{p:Array Nat}
theorem PmN.lt(h:PmN N p)(h0:0<N)(i:Nat):p.getD i 0<N:=by
 by_cases a:i<p.size
 ·have e:p.getD i 0=p[i]:=by simp[Array.getD,a]
  have b:p[i]∈p.toList:=Array.mem_toList_iff.mpr (Array.getElem_mem a);rw[e];exact zzB.mp (h.mem_iff.mp b)
 ·have e:p.getD i 0=0:=by simp[Array.getD,a]
  rw[e];exact h0
theorem PmN.rev(h:PmN N p)(i j:Nat):PmN N (kas_rev p i j):=(Array.perm_iff_toList_perm.mp (mirror_perm _ _ _ _)).trans h
theorem PmN.bub(h:PmN N p)(i j:Nat):PmN N (bubble p i j):=(Array.perm_iff_toList_perm.mp (bubble_perm _ _ _)).trans h
theorem mY(h0:0<N)(h:PmN N p):∀(f n:Nat),KGood N (λ_=>True) (kas_asc p f n)
 |0,n=>trivial| f+1,n=>⟨⟨h.lt h0 _,h.lt h0 _⟩,λb=>by
  dsimp only;split
  ·trivial
  ·exact mY h0 h f (n+1)⟩
theorem gh(h0:0<N):∀(f:Nat) (p:Array Nat) (n q:Nat),PmN N p->KGood N (λr=>PmN N r.1) (kas_desc f p n q)
 |0,p,n,q,h=>h| f+1,p,n,q,h=>⟨⟨h.lt h0 _,h.lt h0 _⟩,λb=>by
  dsimp only;split
  ·split
   ·exact gh h0 f _ _ _ (h.rev _ _)
   ·exact gh h0 f _ _ _ h
  ·refine⟨⟨h.lt h0 _,h.lt h0 _⟩,λd=>?_⟩;dsimp only;split
   ·exact h
   ·exact gh h0 f _ _ _ h⟩
theorem lJ(h0:0<N)(h:PmN N p)(n m:Nat):KGood N (λr=>PmN N r.2) (kas_tail3 n m p):=by refine KGood.bind ?_ _ (mY h0 (h.rev 0 n) _ _);intro m _;exact h.rev 0 n
theorem gj(h0:0<N)(h:PmN N p)(n m:Nat):KGood N (λr=>PmN N r.2) (kas_descPart n m p):=KGood.bind (λr J=>by
 split
 ·exact lJ h0 (J.rev _ _) _ _
 ·exact lJ h0 J _ _) _ (gh h0 _ _ _ _ h)
theorem lK(h0:0<N)(h:PmN N p)(m:Nat):KGood N (λr=>PmN N r.2) (kas_count m p):=KGood.bind (λn _=>by
 split
 ·exact h
 ·split
  ·refine⟨⟨h.lt h0 _,h.lt h0 _⟩,λb=>?_⟩;dsimp only;split
   ·exact h
   ·exact gj h0 (h.rev _ _) _ _
  ·exact gj h0 h _ _) _ (mY h0 h _ _)
theorem ig(h0:0<N)(h:PmN N p)(k:Nat):∀(f l r:Nat),KGood N (λ_=>True) (kas_place p k f l r)
 |0,l,r=>trivial|f+1,l,r=>by
  unfold kas_place;split
  ·trivial
  ·refine⟨⟨h.lt h0 _,h.lt h0 _⟩,λb=>?_⟩;dsimp only;split
   ·exact ig h0 h k f _ _
   ·exact ig h0 h k f _ _
theorem uf(h0:0<N):∀(f:Nat) (p:Array Nat) (k:Nat),PmN N p->KGood N (PmN N) (kas_bin f p k)
 |0,p,k,h=>h|f+1,p,k,h=>KGood.bind (λl _=>uf h0 f _ _ (h.bub _ _)) _ (ig h0 h k _ _ _)
theorem dS(h0:0<N):KGood N (PmN N) (kas_sort N):=by
 have U:PmN N (List.toArray (List.range N)):=by unfold PmN;rw[zyP]
 exact KGood.bind (λr J=>by
  split
  ·exact uf h0 _ _ _ J
  ·exact J) _ (lK h0 U N)
end
def lexI:ai Key->ai Key->Bool
 |[],[]=>false|[],_::_=>true|_::_,[]=>false|.inl a::r,.inl b::c=>if a=b then lexI r c else decide (a<b)
 |_,_=>false
def srtK(ks:ai (ai Key)):ai (ai Key):=if ks.length<2 then ks else(kRun (λi j=>lexI (ks.getD i []) (ks.getD j [])) (kas_sort ks.length)).toList.map λi=>ks.getD i []
theorem pC{xs:ai α}{d:α}{is:ai Nat}(h:is.Perm (List.range xs.length)):(is.map λi=>xs.getD i d).Perm xs:=by
 refine(h.map _).trans ?_;have:(List.range xs.length).map (λi=>xs.getD i d)=xs:=by
  apply List.ext_getElem
  ·simp
  ·intro i h1 a;simp[a]
 rw[this]
theorem pD(ks:ai (ai Key)):(srtK ks).Perm ks:=by
 unfold srtK;split
 ·exact List.Perm.refl _
 ·exact pC (KGood.end _ _ (dS (by lia)))
def isI(k:Key)(u:av):Prop:=∃i t,k=.inl i/\u=Value.int i t
def TupI(h:bz)(k:ai Key)(v:av):Prop:=∃a o b n,v=.ref a/\h.get? a=some o/\o.cls=.type "tuple" /\ o.data=.seq b n/\Paired isI k b.toList
theorem cX{R:α->β->Prop}{xs:ai α}{a:ai β}(h:Paired R xs a):xs.length=a.length:=by
 induction h with
 |nil=>rfl|cons _ _ J=>simp[J]
section
variable{b fin:Bool}{Q:Bool->bd->Prop}
theorem HB(o:Bool){x y:Int}{t u:Tok}{Q:Bool->bd->Prop}(h:Q (decide (x<y)) s):wpAny (model prog w) A (oneLt' o (.int x t) (.int y u)) Q E s:=by
 cases o with
 |true=>exact oneLt_int h|false=>exact kat_one _ _ (wpAny_lt_int h)
theorem AY:∀{k1 J:ai Key} {xs c:ai av} (i:Nat),Paired isI k1 xs->Paired isI J c->fin=decide (xs.length<c.length)->Q (lexI k1 J) s->KatLex prog w A b fin Q (xs.zip c) i s
 := by
 intro k1 J xs c i a b e q
 induction a generalizing J c i with
 |nil=>cases b<;>(subst e;exact q)
 |cons j r1 U =>
  cases b with|nil=>subst e;exact q|cons l Y=>?_
  obtain⟨x,t,rfl,rfl⟩:=j;obtain⟨y,u,rfl,rfl⟩:=l;refine kat_cons (wpAny_eqBool_int ?_);by_cases z:x=y
  ·subst z;have g:(x==x)=true:=by simp
   rw[g];refine kat_yes (U (i+1) Y (by rw[e];simp) ?_);simpa[lexI]using q
  ·have g:(x==y)=false:=by simpa using z
   rw[g];refine kat_no (HB _ ?_);simpa[lexI,z]using q
theorem EH(a:TupI s.heap k1 v1)(c:TupI s.heap k v2)(q:Q (lexI k1 k) s):wpAny (model prog w) A (keyLt' (tuples' b) v1 v2) Q E s:=by obtain⟨x,ox,xs,n,rfl,U,_,dx,e⟩:=a;obtain⟨y,oy,ys,m,rfl,Y,_,J,py⟩:=c;exact kat_lt U dx Y J (AY 0 e py (by simp) q)
end
def RawD(d:bb)(es:Array DictEntry)(ep:Nat)(h:bz):Prop:=∃o,h.get? d=some o/\o.ExactDict/\o.data=.dict es ep
theorem RawD.type{a:Array DictEntry}{s:bd}(h:RawD d a n s.heap):s.TypeIs (.ref d) "dict":=let ⟨o,e,x,_⟩:=h;⟨o,e,x.1⟩
theorem RawD.keep{a:Array DictEntry}{h:bz}(r:RawD d a n h)(k:∀o,h.get? d=some o->h'.get? d=some o):RawD d a n h':=let ⟨o,e,x⟩:=r;⟨o,k o e,x⟩
section
variable{d it:bb}{es:Array DictEntry}{ep i:Nat}
theorem AZ{Q:av->bd->Prop}(lo:(d==sysModules)=false)(r:RawD d es ep s.heap)
  (q:Q (.ref s.heap.objs.size) {s with heap:=s.heap.push {cls:=.type "dict_keyiterator",data:=.fields #[.ref d,.int 0 0,.int es.size 0,.int ep 0]} }):wpAny (model prog w) A (pyIter (.ref d)) Q E s:=by
 have ty:=r.type;obtain⟨o,g1,_,g2⟩:=r;refine wpAny_pyIter_slot ty F.slot_dict_iter (zyB F.slot_dict_iter ty F.entry_dict_iter ?_ (F.args_dict_iter_1 _));refine zzb (zzb (zwF ty (zzq ?_)));show wpAny _ _ ((if (d==sysModules)=true then unsupported "sys.modules:all-start-up-values-wanted" else pure ()) >>= _) _ _ s;rw[zzg (by rw[lo];exact zzL)];refine zzb (zzq (zzb (zws g1 g2 (zzb (wpAny_dictEpoch g1 g2 ?_)))));exact zzb (zyE (zzq ⟨_,rfl,"dict_keyiterator",_,⟨_,zzw _ rfl,rfl⟩,F.slot_dict_keyiterator_next.lookup,q⟩))
theorem Ba{Q:bo av->bd->Prop}(c:i<es.size)(U:es.size=n)(g:s.heap.IsKeyIter it d i n ep)(r:RawD d es ep s.heap)(q:∀h',h'.IsKeyIter it d (i+1) n ep->Heap.SameBut it s.heap h'->Q (some es[i].key) {s with heap:=h' }):wpAny (model prog w) A (pyNext (.ref it)) Q E s:=by
 subst U;have ty:=g.typeIs;obtain⟨o,g1,g2,g3⟩:=g;obtain⟨od,b,_,J⟩:=r;refine zzb (zvh (wpAny_callSpecial?_slot ty F.slot_dict_keyiterator_next (zyB F.slot_dict_keyiterator_next ty F.entry_dict_keyiterator_next ?_ (F.args_dict_keyiterator_next_1 _))));refine zzb (zzq (zzb (zzb (zzb (zxm ty (zzq (zzb (wpAny_fieldsOf g1 g3 ?_))))))));show wpAny _ _ (if (Value.ref d==Value.none)=true then _ else _) _ _ s;refine zzb (zzq (zzb (zws b J ?_)));rw[zzg (by simp)];refine zzb (zzq (zzb (wpAny_dictEpoch b J ?_)));rw[zzg (by simp)];refine zzq ?_;simp only[show ¬((i:Int)<0) from by lia,zxB,zzG,Array.getElem?_eq_getElem c];refine zzb (zzb (zxm ty (zzq (zzb (wpAny_isOneOf_keyiter ty ?_)))));show wpAny _ _ (setField (.ref it) 1 (rawInt ((i:Int)+1)) >>= _) _ _ s;refine zzb (zwY g1 g3 (by simp) ?_);have a:(s.heap.update it (Obj.mapFields (·.setIfInBounds 1 (rawInt ((i:Int)+1))))).IsKeyIter it d (i+1) es.size ep :=
  ⟨_,zxu _ g1 (Obj.isFreed_of_fields (Obj.data_mapFields g3 _)),(Obj.cls_mapFields ..).trans g2,by rw[Obj.data_mapFields g3];simp[rawInt]⟩
 refine zzb (zyn (zzb (wpAny_isOneOf_keyiter a.typeIs ?_)));exact zzq (zzq ⟨_,rfl,zzq (q _ a (zyc ..))⟩)
theorem EI{Q:bo av->bd->Prop}(Y:A.handled=none)(b:es.size<=i)(U:es.size=n)(g:s.heap.IsKeyIter it d i n ep)(r:RawD d es ep s.heap)(q:∀h',Heap.ExtBut it s.heap h'->Q none {s with heap:=h' }):wpAny (model prog w) A (pyNext (.ref it)) Q E s:=by subst U;have ty:=g.typeIs;obtain⟨o,g1,g2,g3⟩:=g;obtain⟨od,a,_,J⟩:=r;refine zzb (zvh (wpAny_callSpecial?_slot ty F.slot_dict_keyiterator_next (zyB F.slot_dict_keyiterator_next ty F.entry_dict_keyiterator_next ?_ (F.args_dict_keyiterator_next_1 _))));refine zzb (zzq (zzb (zzb (zzb (zxm ty (zzq (zzb (wpAny_fieldsOf g1 g3 ?_))))))));show wpAny _ _ (if (Value.ref d==Value.none)=true then _ else _) _ _ s;refine zzb (zzq (zzb (zws a J ?_)));rw[zzg (by simp)];refine zzb (zzq (zzb (wpAny_dictEpoch a J ?_)));rw[zzg (by simp)];refine zzq ?_;simp only[show ¬((i:Int)<0) from by lia,zxB,zzG,zxO b];refine zzb (zzb (zxm ty (zzq ?_)));show wpAny _ _ (setField (.ref it) 0 .none >>= _) _ _ s;refine zzb (zwY g1 g3 (by simp) ?_);refine zzb ?_;refine zzb (zyE ?_ (by size_fits));refine zzb (wpAny_of_eq (by first|rfl|(simp only[firstArgMember];rfl)) ?_);refine zyE ?_ (by size_fits);refine zzb (wpAny_handled ?_);rw[show A.in1.handled=none from Y];refine zzb (zzq (wpAny_throw ?_));refine zzb (wpAny_isInstance ⟨_,zzw _ rfl,rfl⟩ isSubtype_stop ?_);exact zzq (q _ (((zyc ..).extBut.push _).push _))
theorem xY(lo:(d==sysModules)=false)(es:Array DictEntry)(ep:Nat):KdlSrc prog w "dict" d d es.size (λi v=>(es[i]?).map (·.key)=some v) (RawD d es ep) where
 type:=λ_ r=>r.type
 there:=λ_ ⟨_,e,_⟩=>⟨zzv e,zzv e⟩
 keep:=λ_ _ r k=>r.keep λo e=>k d (.inl rfl) o e
 notList:=by decide
 notTuple:=by decide
 hint:=λ_ _ _ _ r q=>kdl_hint_dict r.type q
 iter:=λA s U r=>⟨_,λi h=>h.IsKeyIter s.heap.objs.size d i es.size ep/\RawD d es ep h,(λ_ _ q=>AZ lo r q),{
  sub:=λb a=>by simp at a;simp[a]
  frame:=λ_ _ _ st k=>⟨st.1.at λo e=>k _ (by simp) o e,st.2.keep λo e=>k d (by simp) o e⟩
  item:=λi c Q E g st q=>Ba g rfl st.1 st.2 λh' l J=>by
   have ne:d≠s.heap.objs.size:=by obtain⟨_,e,_⟩:=r;exact zzC (zzv e)
   refine q es[i].key h' c.toks (by simp[g]) ⟨l,st.2.keep λo e=>(J.2 d ne).trans e⟩ λb o a e=>?_;have a:b≠s.heap.objs.size:=by simpa using a
   exact(J.2 b a).trans e
  done:=λc Q E st q=>EI U (zzn _) rfl st.1 st.2 λh' j=>q h' c.toks λb o a e=>j b o (by simpa using a) e
  self:=λ_ _ _ _ st q=>wpAny_pyIter_keyiter st.1 q},⟨⟨_,zzw _ rfl,rfl,rfl⟩,r.keep λo e=>zzj _ e⟩⟩
end
theorem TupI.keep{h:bz}{v:av}{a:bb}{xs:Array av}(t:TupI h k v)(g:h.get? a=some (seqObj "list" xs n))(i:∀b o,b≠a->h.get? b=some o->h'.get? b=some o):TupI h' k v:=by obtain⟨b,o,j,m,rfl,e,c,d,p⟩:=t;refine⟨b,o,j,m,rfl,i b o ?_ e,c,d,p⟩;rintro rfl;rw[g]at e;cases e;simp[seqObj]at c
theorem eL{R S:α->β->Prop}{xs:ai α}{ys:ai β}(h:Paired R xs ys)(f:∀a b,R a b->S a b):Paired S xs ys:=by
 induction h with
 |nil=>exact .nil|cons h _ J=>exact .cons (f _ _ h) J
theorem ii{R:α->β->Prop}{d:α}{e:β}{xs:ai α}{b:ai β}(h:Paired R xs b):∀i,i<xs.length->R (xs.getD i d) (b.getD i e):=by
 induction h with
 |nil=>intro i a;simp at a|cons h _ J =>
  intro i a;cases i with
  |zero=>simpa using h|succ i=>simpa using J i (by simpa using a)
theorem jM{α β:Type}{R:α->β->Prop}{d:α}{e:β}{xs:ai α}{b:ai β}(h:Paired R xs b):∀(is:ai Nat),(∀i∈is,i<xs.length)->Paired R (is.map λi=>xs.getD i d) (is.map λi=>b.getD i e)
 |[],_=>.nil|i::is,a=>.cons (ii h i (a i zzd)) (jM h is λj J=>a j (zzf _ J))
theorem HC{h:bz}:∀{g:ai (ai Key)} {b:ai av},Paired (TupI h) g b->(∀k∈g,k≠[])->∃fs,KatTups h b fs/\fs.length=b.length/\∀v∈fs,∃i t,v=Value.int i t
 := by
 intro g b h ne
 induction h with
 |nil=>exact⟨[],.nil,rfl,λv J=>by simp at J⟩
 |@cons k v g b m r C =>
  obtain⟨fs,q,y,Y⟩:=C λk j=>ne k (zzf _ j);obtain⟨a,o,G,n,rfl,e,c,d,p⟩:=m;have j:=ne k zzd;generalize U:G.toList=l at p;cases p with
  |nil=>exact absurd rfl j|@cons x u ks' us z hr =>
   obtain⟨i,t,rfl,rfl⟩:=z;refine⟨Value.int i t::fs,.cons e c d ?_ q,by simp[y],λv J=>?_⟩
   ·rw[←zyy,U];rfl
   ·rcases zzr.mp J with rfl|J
    ·exact⟨i,t,rfl⟩
    ·exact Y v J
theorem pE{a:bb}{vs:ai av}{l:ai (ai Key)}{P:PySem.Fin->bd->Prop}(y:s.heap.get? a=some (seqObj "list" vs.toArray n))(hp:Paired (TupI s.heap) l vs)(a7:2<=l.length->∀k∈l,k≠[])(M:vs.length<64)(q:∀(h':bz) (g:ai av) (c:Nat),(∀b o,b≠a->s.heap.get? b=some o->h'.get? b=some o)->h'.get? a=some (seqObj "list" g.toArray c)->(∀R:ai Key->av->Prop,Paired R l vs->Paired R (srtK l) g)->P (.done (.ret .none)) {s with heap:=h' }) :
  wpAny (model prog w) A (Builtin.«list.sort» ⟨[.ref a],[]⟩) P E s:=by
 have hl:=cX hp;have ha:a<s.heap.objs.size:=zzv y;have sb:=zyc s.heap a (Obj.mapSeq λ_=>(#[]:Array av));obtain⟨I,a6⟩:∃I,(s.heap.update a (Obj.mapSeq λ_=>(#[]:Array av))).get? a=some (seqObj "list" #[] I):=⟨_,get?_update_seq y λ_=>#[]⟩;rw[list_sort_plain];refine zzb (listItems_at y rfl (zzb (zwb y rfl ?_ (by rw[zzA,zyt];lia) (zzT _))));refine zzb (seqEpoch_at a6 rfl (zzb (zwZ ?_ (by show vs.length<=_;rw[zyt];lia))));refine zzb (zwz (zyn ?_) (zzT _));show wpAny (model prog w) A _ P E {s with heap:=((s.heap.update a (Obj.mapSeq λ_=>(#[]:Array av))).push (seqObj "tuple" vs.toArray 0)).push (seqObj "list" #[] 0)};have kp:∀b o,b≠a->s.heap.get? b=some o->(((s.heap.update a (Obj.mapSeq λ_=>(#[]:Array av))).push (seqObj "tuple" vs.toArray 0)).push (seqObj "list" #[] 0)).get? b=some o:=λb o L e =>
  zzj _ (zzj _ ((sb.2 b L).trans e))
 have Y:(((s.heap.update a (Obj.mapSeq λ_=>(#[]:Array av))).push (seqObj "tuple" vs.toArray 0)).push (seqObj "list" #[] 0)).get? a=some (seqObj "list" #[] I):=zzj _ (zzj _ a6);generalize ((s.heap.update a (Obj.mapSeq λ_=>(#[]:Array av))).push (seqObj "tuple" vs.toArray 0)).push (seqObj "list" #[] 0)=h3 at kp Y;have d:Paired (TupI h3) l vs:=eL hp λk v t=>t.keep y kp;dsimp only;have fin:∀(st:SortSt) (g:ai av),(arrOf st).map (·.2)=g.toArray->failedOf st=none->g.length<64->(∀R:ai Key->av->Prop,Paired R l vs->Paired R (srtK l) g) ->
   wpAny (model prog w) A (do
    let U:=(←seqEpoch a) != I
    Builtin.List.listUpdate (.ref a) λ_=>(arrOf st).map (·.2)
    if let some e:=failedOf st then rule "list.sort.comparison-raised";throw e
    if U then rule "list.sort.modified";raiseError "ValueError" "list modified during sort"
    ret .none) P E {s with heap:=h3}:=by
  intro st g e f m u;rw[e,f];refine zzb (seqEpoch_at Y rfl ?_);refine zzb (zwb Y rfl ?_ (zzT _) (by show g.toArray.size<=_;rw[zzA,zyt];lia));simp only[bne_self_eq_false,zxc,zxB];refine zzq (q _ g _ (λb o L e=>?_) (get?_update_seq Y λ_=>g.toArray) u);exact((zyc h3 a (Obj.mapSeq λ_=>g.toArray)).2 b L).trans (kp b o L e)
 by_cases h2:vs.length<2
 ·have m:vs.toArray.size<2:=by rw[zzA];exact h2
  rw[zzi m,zzi m];refine zzb (zzq (zzb (zzq ?_)));refine fin _ vs ?_ rfl M λR u=>?_
  ·show (vs.toArray.zip vs.toArray).map (·.2)=vs.toArray;apply Array.toList_inj.mp;simp[List.map_snd_zip]
  ·unfold srtK;rw[zzi (by lia)];exact u
 ·have m:¬vs.toArray.size<2:=by rw[zzA];exact h2
  rw[zzg m,zzg m];obtain⟨fs,t1,t2,t3⟩:=HC d (a7 (by lia));refine zzb (kat_kind (T:=.type "int") t1 (by lia) (λv hv=>?_) (by decide) ?_)
  ·obtain⟨i,t,rfl⟩:=t3 v hv;exact Looks.of_pure rfl
  ·refine zzb (zxq (kat_run (Q:=λJ z=>z={s with heap:=h3}/\(arrOf J).map (·.2)=List.toArray ((kRun (λi j=>lexI (l.getD i []) (l.getD j [])) (kas_sort l.length)).toList.map λi=>vs.getD i Value.none)/\failedOf J=none) (G:=λp z=>z={s with heap:=h3}/\p=kRun (λi j=>lexI (l.getD i []) (l.getD j [])) (kas_sort l.length)) rfl (by lia) M (λp J z a1 a2 a3 a4=>?_) ?_) (λr z hq=>?_) λ_ _ x=>x)
   ·obtain⟨rfl,rfl⟩:=a4;exact⟨rfl,kat_snds rfl a2,a3⟩
   ·rw[←hl];refine KGood.wp (λi j C H hj hC=>?_) _ _ (dS (by lia)) ⟨rfl,rfl⟩;show wpAny (model prog w) A (keyLt' _ (vs.getD i Value.none) (vs.getD j Value.none)) C (λ_ _=>False) _;exact EH (ii d i H) (ii d j hj) hC
   ·obtain⟨⟨⟩,J⟩:=r;obtain⟨rfl,e,f⟩:=hq;refine fin J _ e f ?_ λR u=>?_
    ·have:=(KGood.end (λi j=>lexI (l.getD i []) (l.getD j [])) _ (dS (N:=l.length) (by lia))).length_eq;rw[zzK]at this;rw[zza,this,hl];exact M
    ·unfold srtK;rw[zzg (by lia)];refine jM u _ λi H=>?_;have:=KGood.end (λi j=>lexI (l.getD i []) (l.getD j [])) _ (dS (N:=l.length) (by lia));exact zzB.mp (this.mem_iff.mp H)
section
variable{X:Cx}
def pF(H:Hp)(k:ai Key)(v:V):Prop:=∃b,v=.ref b/\H b=some (.tup (k.map kV))
def rC(k:ai Key):Prop:=∀x∈k,∃i:Int,x=.inl i
theorem ug:∀{k:ai Key} {a:ai av},rC k->Vals (k.map kV) a->Paired isI k a
 |[],a,_,h=>by cases h;exact .nil
 |x::k,a,b,h=>by
  obtain⟨i,rfl⟩:=b _ zzd;cases h with
  |cons c e =>
   obtain⟨t,rfl⟩:=(show ∃t,_=Value.int i t from c);exact .cons ⟨i,t,rfl,rfl⟩ (ug (λy J=>b y (zzf _ J)) e)
theorem Inv.tupI{a:ai (bb×Obj)}{m:St}{s:bd}{b:bb}(I:Inv X a m H s)(l:rC k)(e:H b=some (.tup (k.map kV))):TupI s.heap k (.ref b):=by
 obtain⟨_,c,r,o,g,i,n,j⟩:=(show ObjOk X.prog X.w H s.heap b (.tup (k.map kV)) from I.hok b _ e);refine⟨b,o,c.toArray,n,rfl,g,?_,j,?_⟩
 ·exact i
 ·rw[zyP];exact ug l r
theorem rD:∀{a:ai (ai Key)} {out:ai av},Paired (λk v=>∃b,v=Value.ref b/\H b=some (.tup (k.map kV))) a out->∃bs,Paired (pF H) a bs/\Vals bs out:=by
 intro a out h
 induction h with
 |nil=>exact⟨[],.nil,.nil⟩|cons h r J =>
  obtain⟨b,rfl,e⟩:=h;obtain⟨bs,c,g⟩:=J;exact⟨.ref b::bs,.cons ⟨b,rfl,e⟩ c,.cons rfl g⟩
theorem xZ{a:ai (ai Key×V)}{xs:ai (ai Key×bb×av)}(r:KT H a xs):Paired (λk v=>∃b,v=Value.ref b/\H b=some (.tup (k.map kV))) (a.map (·.1)) (xs.map λx=>Value.ref x.2.1):=by
 induction r with
 |nil=>exact .nil|@cons p q ps qs h t J=>exact .cons ⟨q.2.1,rfl,h.2.1⟩ J
theorem lN{R:α->β->Prop}{xs:ai α}{ys:ai β}(h:Paired R xs ys):Paired (λa b=>a∈xs/\R a b) xs ys:=by
 induction h with
 |nil=>exact .nil|cons h _ J=>exact .cons ⟨zzd,h⟩ (eL J λa b z=>⟨zzf _ z.1,z.2⟩)
theorem vS(hc:X.calm=true):cZ X (.builtin "sorted") (λxs H Q=>∃a g,xs=[.ref a]/\Rd H a (.dT g)/\(∀k∈g.map (·.1),rC k)/\(2<=g.length->∀k∈g.map (·.1),k≠[])/\g.length<64 /\
  ∀l bs,H l=none->Paired (pF H) (srtK (g.map (·.1))) bs->Q (.ref l) (upd H l (.lst bs))):=by
 intro m s σ H xs us Q I r h;obtain⟨a,g,rfl,e,hi,A,h64,q⟩:=h;obtain⟨u,rfl,e2⟩:=gU r;cases e2;obtain⟨z,lo,xs,rel,o,G,ep,g1,g2,g3,N,g5,g6⟩:=qU I.hok e;have E:G.size=xs.length:=size_of_entries N;have hxl:g.length=xs.length:=zwa rel;refine Calls.call_function_entry kind_sorted plain_sorted entry_sorted (args_sorted1 _) ?_;refine zzb (zzq ?_);refine zzb (kdu_collect (xY lo G ep) (I.ok.hd hc) ⟨o,g1,g2,g3⟩ (by rw[zyt];lia) λh' tk J hk y=>?_);have U:J.toList=xs.map λx=>Value.ref x.2.1:=by
  apply zxk;intro i;rw[zyy];cases j:xs[i]? with
  |none =>
   have T:xs.length<=i:=by simpa using j
   rw[zzl,j,zxO (by rw[y.1];lia)];rfl
  |some x =>
   have T:i<xs.length:=(zzt.mp j).1;obtain⟨v,d⟩:∃v,J[i]?=some v:=⟨J[i]'(by rw[y.1];lia),by simp[y.1,E,T]⟩;have p:(G[i]?).map (·.key)=some v:=y.2 i v d;rw[entry_at N i,j]at p;rw[d,zzl,j];simpa[entryOfKey]using p.symm
 rw[U];have C:Inv X m σ H {s with heap:=h',toks:=tk}:=I.kept hk;refine zzb (zwz ?_ (by rw[zza,zyt];lia));have Y:(h'.push (seqObj "list" (xs.map λx=>Value.ref x.2.1).toArray 0)).get? h'.objs.size=some (seqObj "list" (xs.map λx=>Value.ref x.2.1).toArray 0):=zzw _ rfl;refine zzb (zyn (zyB slot_list_sort ⟨_,Y,rfl⟩ entry_list_sort ?body (args_list_sort _)))
 case body =>
  have n:=xZ rel;refine pE Y (eL (lN n) λk v z=>?_) (λp=>A (by simpa using p)) (by rw[zza];lia) λh4 M c kp ho hR=>?_
  ·obtain⟨hm,b,rfl,L⟩:=z;exact((C.kept λb o e=>zzj _ e).tupI (hi k hm) L)
  ·obtain⟨bs,w,p2⟩:=rD (hR _ n);have L:bs.length<=sizeLine:=by
    rw[←cX w,(pD _).length_eq,zza];exact z
   exact⟨_,rfl,zzq ⟨_,rfl,.ref h'.objs.size,upd H h'.objs.size (.lst bs),C.laid (λb u e=>kp b u (zzC (zzv e)) (zzj _ e)) (zzn _) ⟨L,M,c,p2,ho⟩,rfl,q _ bs (C.hok.fresh (zzn _)) w⟩⟩
end
end L2
namespace PySem
section
variable{prog:bP}{w:World}{A:Around}{E:av->bd->Prop}{s:bd}
set_option maxRecDepth 100000 in
set_option maxHeartbeats 3200000 in
theorem pG{b:bb}{its:Array av}{d:ai Int}{R:av->bd->Prop}(j:A.handled=none)(tp:s.heap.IsTuple b its)(U:PyProof.Rows.IntsAre its.toList d)(u:its.size+1<scanBound)
  (q:∀(a:bz) (tk:Nat),a.SetOf (intKind prog w) s.heap.objs.size (λk=>(PyProof.Rows.firstMet (λi=>d.getD i 0) its.size).any (·==k)) (PyProof.Rows.firstMet (λi=>d.getD i 0) its.size).length ->
   (∀c o,c<s.heap.objs.size->s.heap.get? c=some o->a.get? c=some o)->R (.ref s.heap.objs.size) {s with heap:=a,toks:=tk}):wpAny (model prog w) A (call (.type "set") [.ref b]) R E s:=by
 obtain⟨c,tl,hmro⟩:=F.called_set.mro;have hmade:=F.called_set.made;have hsub:=F.called_set.sub;refine wpAny_call (codeAny_of_tree ?_);show wpAny _ _ (callAny (.type "set") _) _ _ _;refine zzq ⟨Code.quiet_builtin _ (by decide +kernel),codeAny_builtin F.entry_type_call ?_⟩;rw[Around.under_plain (weight_type_call_type "set" [.ref b] []) rfl];have n1:=F.called_set.notType;have n2:=F.called_set.canCreate;have n3:=F.typeCall_set_1 (.ref b)
 repeat (any_goals (first|assumption|wp_step))
 refine zwh (code_set_new_1 (.ref b) (E:=E) (Q₁:=λobj z=>∃J:Bool,obj=.ref s.heap.objs.size/\z={s with heap:=s.heap.push {cls:=.type "set",dict:=none,data:=.set #[] 0 (.fresh 0 0 J)} }) λJ=>⟨J,rfl,rfl⟩) λr z C=>?_;cases r with
 |error e=>exact C|ok fl =>
  cases fl with
  |ret obj =>
   obtain⟨J,rfl,rfl⟩:=C;have g1:(s.heap.push {cls:=.type "set",dict:=none,data:=.set #[] 0 (.fresh 0 0 J)}).get? s.heap.objs.size=some {cls:=.type "set",dict:=none,data:=.set #[] 0 (.fresh 0 0 J)}:=zzw _ rfl;have ty:Shared.TypeIs {s with heap:=s.heap.push {cls:=.type "set",dict:=none,data:=.set #[] 0 (.fresh 0 0 J)} } (.ref s.heap.objs.size) "set":=⟨_,g1,rfl⟩;have i1:=F.called_set.init.lookup;have i2:=F.called_set.init.bind (.ref s.heap.objs.size)
   repeat (any_goals (first|assumption|wp_step))
   refine zwh (codeAny_call_builtin (R:=wants (λr z=>r=.none/\∃a tk,z={s with heap:=a,toks:=tk} /\
     a.SetOf (intKind prog w) s.heap.objs.size (λk=>(PyProof.Rows.firstMet (λi=>d.getD i 0) its.size).any (·==k)) (PyProof.Rows.firstMet (λi=>d.getD i 0) its.size).length /\
     (∀c o,c<s.heap.objs.size->s.heap.get? c=some o->a.get? c=some o)) E) F.called_set.init.plain F.entry_set_init (check_set_init_1 ty ?_)) λr2 z2 m=>?_
   ·have p:(s.heap.push {cls:=.type "set",dict:=none,data:=.set #[] 0 (.fresh 0 0 J)}).IsTuple b its:=by
     obtain⟨o,e,x⟩:=tp;exact⟨o,zzj _ e,x⟩
    have g:b<s.heap.objs.size:=by obtain⟨o,e,x⟩:=tp;exact zzv e
    obtain⟨o,e,H,n,I⟩:=id p;obtain⟨ocls,odict,odata,oslots⟩:=o;simp only at H I;subst H;subst I;have t1:=F.sub_tuple_set;have t2:=F.sub_tuple_frozenset;have t3:(Value.type "tuple"==Value.type "dict")=false:=by decide
    unfold Builtin.«set.__init__» noKeywords Builtin.Frozenset.updateFrom;generalize N:pyIter=PI
    wp_walk
    subst N;refine zxb p ?_;refine zzb (wpAny_runValue ?_);have Y:A.in1.in1.in1.handled=none:=by simp[j]
    have ne:b≠(s.heap.push {cls:=.type "set",dict:=none,data:=.set #[] 0 (.fresh 0 0 J)}).objs.size:=by rw[zyv];exact zzC (zxl g)
    have off:s.heap.objs.size∉[(s.heap.push {cls:=.type "set",dict:=none,data:=.set #[] 0 (.fresh 0 0 J)}).objs.size,b]:=by rw[zyv];simp only[zzr,zzy,zyo,zxv,not_or];exact⟨zzC (zwA _),zxA g⟩
    have val:∀(i:Nat) (v:av),its[i]?=some v->∃t,v=.int ((λi=>d.getD i 0) i) t:=λi v hv=>PyProof.Rows.IntsAre.int_at U i v (by rw[zyy];exact hv);refine PyProof.Rows.codeAny_set_update_loopS ((Walks.tuple Y _ b ne its).toS) s.heap.objs.size off (λi=>d.getD i 0) val u (its.size - 0) 0 _ (by lia) (zzT _) ⟨⟨_,zzw _ rfl,rfl,rfl⟩,?_⟩ ?s0 ?r0
    ·obtain⟨o,e,x⟩:=p;exact⟨o,zzj _ e,x⟩
    case s0 =>
     have L:((s.heap.push {cls:=.type "set",dict:=none,data:=.set #[] 0 (.fresh 0 0 J)}).push {cls:=.type "tuple_iterator",data:=.fields #[.ref b,.int 0 0]}).get? s.heap.objs.size
       = some {cls:=.type "set",dict:=none,data:=.set #[] 0 (.fresh 0 0 J)}:=zzj _ g1
     exact PyProof.Rows.SetOf_congr ((PyProof.Rows.setObjOf_fresh J).setOf L (by unfold scanBound;lia)) (λ_=>rfl) rfl
    case r0 =>
     intro z l y;obtain⟨a,g',d',b0,T⟩:=z;have eg:g'=s.gens:=l.gens;have ed:d'=s.drawn:=l.drawn;have eo:T=s.os:=l.os;subst eg;subst ed;subst eo;show wpAny _ _ _ _ _ _;refine zzq ?_;show wpAny _ _ (ret Value.none) _ _ _;refine zzq ⟨rfl,a,b0,rfl,y,λc o G e=>?_⟩;have Q:c≠(s.heap.push {cls:=.type "set",dict:=none,data:=.set #[] 0 (.fresh 0 0 J)}).objs.size:=by rw[zyv];exact zzC (zxl G)
     exact l.heap c o (by simp only[zzr,zzy,zyo,zxv,not_or];exact⟨zzC G,Q⟩) (zzj _ (zzj _ e))
   ·cases r2 with
    |error e=>exact m|ok M =>
     cases M with
     |ret r =>
      obtain⟨rfl,a,tk,rfl,y,hk⟩:=m
      repeat (any_goals (first|assumption|wp_step))
      exact q _ _ y hk
     |_=>exact m.elim
  |_=>exact C.elim
end
end PySem
namespace L2
open PySem PySem.Spec PyProof.Rows
section
variable{X:Cx}
def vT(ns:ai Int):Nat:=(firstMet (λi=>ns.getD i 0) ns.length).length
theorem lO:∀{b:ai Int} {a:ai av},Vals (b.map V.int) a->IntsAre a b
 |[],a,h=>by cases h;exact .nil
 |n::r,a,h=>by
  cases h with
  |cons c d =>
   obtain⟨t,rfl⟩:=(show ∃t,_=Value.int n t from c);exact .cons _ _ (lO d)
theorem ya(p:X.calm=true):cZ X (.type "set") (λxs H Q=>∃b a,xs=[.ref b]/\H b=some (.tup (a.map V.int))/\a.length<=1000/\∀l S,H l=none->Q (.ref l) (upd H l (.set S (vT a)))):=by
 intro pins s σ H xs us Q I r h;obtain⟨b,a,rfl,e,hl,q⟩:=h;obtain⟨u,rfl,d⟩:=gU r;cases d;obtain⟨_,c,Y,o,g,j,n,m⟩:=(show ObjOk X.prog X.w H s.heap b (.tup (a.map V.int)) from I.hok b _ e);have J:c.length=a.length:=by have:=Y.length;simpa using this.symm
 refine pG (I.ok.hd p) ⟨o,g,j,n,m⟩ (by rw[zyP];exact lO Y) (by rw[zzA,J];unfold scanBound;lia) λh' tk U v=>?_;have x:c.toArray.size=a.length:=by rw[zzA,J]
 rw[x]at U;exact⟨.ref s.heap.objs.size,_,I.laid (o:=.set (λk=>(firstMet (λi=>a.getD i 0) a.length).any (·==k)) (vT a)) (λb o e=>v b o (zzv e) e) (zzn _) U,rfl,q _ _ (I.hok.fresh (zzn _))⟩
theorem yb:cZ X (.builtin "len") (λxs H Q=>∃p S n,xs=[.ref p]/\H p=some (.set S n)/\Q (.int n) H):=by intro pins s σ H xs us Q I r h;obtain⟨p,S,n,rfl,e,q⟩:=h;obtain⟨u,rfl,a⟩:=gU r;cases a;obtain⟨o,es,ep,t,g1,g2,g3,_,_,J,U,Y⟩:=(show ObjOk X.prog X.w H s.heap p (.set S n) from I.hok p _ e);refine call_len_set g1 g2 g3 U (by unfold scanBound at J;lia) ?_;rw[Y];exact⟨.int n,H,I.tok _,⟨_,rfl⟩,q⟩
theorem rE{a:ai Int}(h:a.Nodup):vT a=a.length:=by
 have key:∀i,i<=a.length->(firstMet (λi=>a.getD i 0) i).length=i:=by
  intro i
  induction i with
  |zero=>intro _;rfl|succ i c =>
   intro hi;rw[firstMet_succ,step_length,firstMet_any,zzg,c (by lia)];intro b;obtain⟨x,Y,e⟩:=zyS.mp b;obtain⟨j,U,rfl⟩:=zzc.mp Y;have U:=zzB.mp U;have J:j<a.length:=by lia
   have e:a[j]=a[i]:=by simpa[J,show i<a.length by lia]using e
   have:=(zxz h).mp e;lia
 exact key _ (zzn _)
end
end L2
namespace L2
open PySem PySem.Spec PyProof.Rows PySem.W
variable{i n:Nat}
theorem dU{α a:Type}(c:Nat->Nat->Bool)(f:α->KasT a):∀t:KasT α,kRun c (t.bind f)=kRun c (f (kRun c t))
 |.ret _=>rfl|.ask i j k=>dU c f (k (c i j))
structure StrO(N:Nat)(c:Nat->Nat->Bool):Prop where
 tr:∀i j k,i<N->j<N->k<N->c i j=true->c j k=true->c i k=true
 as:∀i j,i<N->j<N->c i j=true->c j i=false
 to:∀i j,i<N->j<N->i≠j->c i j=false->c j i=true
section
variable{N:Nat}{c:Nat->Nat->Bool}{p:Array Nat}
theorem PmN.size(h:PmN N p):p.size=N:=by have:=h.length_eq;simpa using this
theorem PmN.ne(h:PmN N p)(a:i<N)(J:n<N)(e:i≠n):p.getD i 0≠p.getD n 0:=by
 have g:p.toList.Nodup:=h.nodup_iff.mpr List.nodup_range;have s:=h.size;have b:p.getD i 0=p.toList[i]'(by simpa[s]using a):=by simp[Array.getD,s,a]
 have d:p.getD n 0=p.toList[n]'(by simpa[s]using J):=by simp[Array.getD,s,J]
 rw[b,d];intro z;exact e ((zxz g).mp z)
def Asc(c:Nat->Nat->Bool)(p:Array Nat)(n:Nat):Prop:=∀i j,i<j->j<n->c (p.getD i 0) (p.getD j 0)=true
def Dsc(c:Nat->Nat->Bool)(p:Array Nat)(n:Nat):Prop:=∀i j,i<j->j<n->c (p.getD j 0) (p.getD i 0)=true
theorem Asc.step(O:StrO N c)(h:PmN N p)(hn:1<=n)(b:n<N)(a:Asc c p n)(e:c (p.getD n 0) (p.getD (n - 1) 0)=false):Asc c p (n+1):=by
 have h0:0<N:=by lia
 have last:c (p.getD (n - 1) 0) (p.getD n 0)=true:=O.to _ _ (h.lt h0 _) (h.lt h0 _) (h.ne b (by lia) (by lia)) e;intro i j J hj;by_cases z:j=n
 ·subst z;by_cases y:i=j - 1
  ·subst y;exact last
  ·exact O.tr _ _ _ (h.lt h0 _) (h.lt h0 _) (h.lt h0 _) (a i (j - 1) (by lia) (by lia)) last
 ·exact a i j J (by lia)
theorem Dsc.step(O:StrO N c)(h:PmN N p)(hn:1<=n)(hN:n<N)(a:Dsc c p n)(last:c (p.getD n 0) (p.getD (n - 1) 0)=true):Dsc c p (n+1):=by
 have h0:0<N:=by lia
 intro i j J hj;by_cases z:j=n
 ·subst z;by_cases y:i=j - 1
  ·subst y;exact last
  ·exact O.tr _ _ _ (h.lt h0 _) (h.lt h0 _) (h.lt h0 _) last (a i (j - 1) (by lia) (by lia))
 ·exact a i j J (by lia)
theorem rF(O:StrO N c)(h:PmN N p):∀(f n:Nat),1<=n->n+f<=N->Asc c p n->Asc c p (kRun c (kas_asc p f n))/\n<=kRun c (kas_asc p f n)/\kRun c (kas_asc p f n)<=n+f/\(kRun c (kas_asc p f n)=n+f∨c (p.getD (kRun c (kas_asc p f n)) 0) (p.getD (kRun c (kas_asc p f n) - 1) 0)=true)
 |0,n,_,_,a=>⟨a,zzn _,zzn _,.inl rfl⟩|f+1,n,d,hN,a=>by
  have U:kRun c (kas_asc p (f+1) n)=kRun c (if c (p.getD n 0) (p.getD (n - 1) 0)=true then .ret n else kas_asc p f (n+1)):=rfl;cases e:c (p.getD n 0) (p.getD (n - 1) 0) with
  |true =>
   rw[U,zzi e];exact⟨a,zzn _,by show n<=_;lia,.inr e⟩
  |false =>
   rw[U,zzg (by rw[e];intro z;cases z)];obtain⟨b,b2,b3,J⟩:=rF O h f (n+1) (by lia) (by lia) (a.step O h d (by lia) e);refine⟨b,by lia,by lia,?_⟩;rcases J with J|J
   ·exact .inl (by lia)
   ·exact .inr J
theorem uh(O:StrO N c)(h:PmN N p):∀(f n:Nat),1<=n->n+f<=N->Dsc c p n->∃m,kRun c (kas_desc f p n 0)=(p,m,0)/\Dsc c p m/\n<=m/\m<=n+f
 |0,n,_,_,a=>⟨n,rfl,a,zzn _,zzn _⟩|f+1,n,j,hN,a=>by
  have h0:0<N:=by lia
  have U:kRun c (kas_desc (f+1) p n 0)=kRun c (if c (p.getD n 0) (p.getD (n - 1) 0)=true then(if 0>0 then kas_desc f (kas_rev p (n - (0+1)) n) (n+1) 0 else kas_desc f p (n+1) 0)
   else .ask (p.getD (n - 1) 0) (p.getD n 0) λd=>if d=true then .ret (p,n,0) else kas_desc f p (n+1) (0+1)):=rfl
  rw[U];cases e:c (p.getD n 0) (p.getD (n - 1) 0) with
  |true =>
   obtain⟨m,b,J,b3,b4⟩:=uh O h f (n+1) (by lia) (by lia) (a.step O h j (by lia) e);exact⟨m,b,J,by lia,by lia⟩
  |false =>
   rw[zzg (by intro z;cases z)];have last:c (p.getD (n - 1) 0) (p.getD n 0)=true:=O.to _ _ (h.lt h0 _) (h.lt h0 _) (h.ne (by lia) (by lia) (by lia)) e;have g:kRun c (.ask (p.getD (n - 1) 0) (p.getD n 0) λd=>if d=true then .ret (p,n,0) else kas_desc f p (n+1) (0+1))=kRun c (if c (p.getD (n - 1) 0) (p.getD n 0)=true then .ret (p,n,0) else kas_desc f p (n+1) (0+1)):=rfl;rw[g,zzi last];exact⟨n,rfl,a,zzn _,by lia⟩
theorem yc{p:Array Nat}{a b:Nat}(l:a<p.size)(k:b<p.size)(i:Nat):(p.swapIfInBounds a b).getD i 0=if i=a then p.getD b 0 else if i=b then p.getD a 0 else p.getD i 0:=by
 have e:∀(q:Array Nat) (j:Nat),q.getD j 0=(q[j]?).getD 0:=λq j=>by by_cases h:j<q.size<;>simp[Array.getD,h]
 rw[e,e,e,e,Array.swapIfInBounds_def,dif_pos l,dif_pos k,Array.getElem?_swap];by_cases g:i=a
 ·subst g;by_cases d:i=b
  ·subst d;simp[k]
  ·simp[d,k,Ne.symm d]
 ·by_cases d:i=b
  ·subst d;simp[g,l,k]
  ·simp[g,d,Ne.symm g,Ne.symm d]
theorem ui{p:Array Nat}{k:Nat}(b:k<p.size):∀(d:Nat),d<=k->∀i,(bubble p k d).getD i 0=if i=k - d then p.getD k 0 else if k - d<i/\i<=k then p.getD (i - 1) 0 else p.getD i 0
 |0,_,i=>by
  show p.getD i 0=_;by_cases h:i=k
  ·subst h;simp
  ·rw[zzg (by lia),zzg (by lia)]
 |d+1,hd,i=>by
  rw[bubble_succ,yc (by rw[bubble_size];lia) (by rw[bubble_size];lia),ui b d (by lia),ui b d (by lia),ui b d (by lia)];by_cases a:i=k - d
  ·rw[zzi a,zzg (by lia),zzg (by lia),zzg (by lia),zzi (by lia),show k - d - 1=i - 1 by lia]
  ·rw[zzg a];by_cases e:i=k - d - 1
   ·rw[zzi e,zzi rfl,zzi (by lia)]
   ·rw[zzg e,zzg a,zzg (show ¬i=k - (d+1) by lia)];by_cases g:k - d<i/\i<=k
    ·rw[zzi g,zzi (by lia)]
    ·rw[zzg g,zzg (by lia)]
theorem uj{p:Array Nat}{n:Nat}(a:n<=p.size):∀(d:Nat),d<=n / 2->∀i,(mirror p 0 n d).getD i 0=if i<d∨(n - d<=i/\i<n) then p.getD (n - 1 - i) 0 else p.getD i 0
 |0,_,i=>by show p.getD i 0=_;rw[zzg (by lia)]
 |d+1,hd,i=>by
  rw[mirror_succ,yc (by rw[mirror_size];lia) (by rw[mirror_size];lia),uj a d (by lia),uj a d (by lia),uj a d (by lia)];by_cases b:i=0+d
  ·rw[zzi b,zzg (by lia),zzi (by lia),show n - 1 - d=n - 1 - i by lia]
  ·rw[zzg b];by_cases e:i=n - 1 - d
   ·rw[zzi e,zzg (by lia),zzi (by lia),show n - 1 - i=0+d by lia]
   ·rw[zzg e];by_cases g:i<d∨(n - d<=i/\i<n)
    ·rw[zzi g,zzi (by lia)]
    ·rw[zzg g,zzg (by lia)]
theorem CI{p:Array Nat}(b:n<=p.size)(i:Nat):(kas_rev p 0 n).getD i 0=if i<n then p.getD (n - 1 - i) 0 else p.getD i 0:=by
 unfold kas_rev;rw[uj b _ (by lia)];by_cases h:i<(n - 0) / 2∨(n - (n - 0) / 2<=i/\i<n)
 ·rw[zzi h,zzi (by lia)]
 ·rw[zzg h];by_cases a:i<n
  ·rw[zzi a,show n - 1 - i=i by lia]
  ·rw[zzg a]
theorem Dsc.rev(h:PmN N p)(hn:n<=N)(a:Dsc c p n):Asc c (kas_rev p 0 n) n:=by intro i j hij J;have s:=h.size;rw[CI (by lia),CI (by lia),zzi (by lia),zzi J];exact a _ _ (by lia) (by lia)
theorem yd(O:StrO N c)(h:PmN N p)(h2:2<=N):Asc c (kRun c (kas_count N p)).2 (kRun c (kas_count N p)).1/\1<=(kRun c (kas_count N p)).1/\(kRun c (kas_count N p)).1<=N:=by
 obtain⟨a1,a2,a3,J⟩:=rF O h (N - 1) 1 (zzn _) (by lia) (λi j U q=>by lia);unfold kas_count;rw[dU];generalize kRun c (kas_asc p (N - 1) 1)=n at a1 a2 a3 J;by_cases a:(n==N)=true
 ·rw[zzi a];exact⟨a1,a2,by show n<=N;lia⟩
 ·rw[zzg a];by_cases d:n>1
  ·rw[zzi d];have l:kRun c (.ask (p.getD 0 0) (p.getD (n - 1) 0) λb=>if b=true then .ret (n,p) else kas_descPart n N (kas_rev p 0 n))=kRun c (if c (p.getD 0 0) (p.getD (n - 1) 0)=true then .ret (n,p) else kas_descPart n N (kas_rev p 0 n)):=rfl;rw[l,zzi (a1 0 (n - 1) (by lia) (by lia))];exact⟨a1,a2,by show n<=N;lia⟩
  ·rw[zzg d];have s:n=1:=by lia
   subst s;have last:c (p.getD 1 0) (p.getD (1 - 1) 0)=true:=by
    rcases J with J|J
    ·exact absurd J (by lia)
    ·exact J
   have k:Dsc c p (1+1):=Dsc.step O h (zzn _) (by lia) (λi j U q=>by lia) last;unfold kas_descPart;rw[dU];obtain⟨m,e,Y,b3,b4⟩:=uh O h (N - (1+1)) (1+1) (by lia) (by lia) k;rw[e];rw[zzg (by lia)];have r:m<=N:=by lia
   unfold kas_tail3;rw[dU];obtain⟨g,c2,c3,_⟩:=rF O (h.rev 0 m) (N - m) m (by lia) (by lia) (Y.rev h r);exact⟨g,by show 1<=kRun c _;lia,by show kRun c _<=N;lia⟩
theorem jN(O:StrO N c)(h:PmN N p){k:Nat}(j:k<N)(a:Asc c p k):∀(f l r:Nat),r - l<=f->l<=r->r<=k->(∀i,i<l->c (p.getD i 0) (p.getD k 0)=true)->(∀i,r<=i->i<k->c (p.getD k 0) (p.getD i 0)=true) ->
  (kRun c (kas_place p k f l r)<=k/\(∀i,i<kRun c (kas_place p k f l r)->c (p.getD i 0) (p.getD k 0)=true)/\∀i,kRun c (kas_place p k f l r)<=i->i<k->c (p.getD k 0) (p.getD i 0)=true)
 |0,l,r,s,Y,J,d,g=>by
  have:l=r:=by lia
  subst this;exact⟨J,d,g⟩
 |f+1,l,r,s,Y,J,d,g=>by
  have h0:0<N:=by lia
  unfold kas_place;by_cases e:l ≥ r
  ·rw[zzi e];have:l=r:=by lia
   subst this;exact⟨J,d,g⟩
  ·rw[zzg e];have q:∀(t u:KasT Nat),kRun c (.ask (p.getD k 0) (p.getD ((l+r) / 2) 0) λb=>if b=true then t else u)=kRun c (if c (p.getD k 0) (p.getD ((l+r) / 2) 0)=true then t else u):=λ_ _=>rfl;rw[q];cases z:c (p.getD k 0) (p.getD ((l+r) / 2) 0) with
   |true =>
    refine jN O h j a f l ((l+r) / 2) (by lia) (by lia) (by lia) d λi v U=>?_;by_cases y:i=(l+r) / 2
    ·rw[y];exact z
    ·exact O.tr _ _ _ (h.lt h0 _) (h.lt h0 _) (h.lt h0 _) z (a _ _ (by lia) U)
   |false =>
    have m:c (p.getD ((l+r) / 2) 0) (p.getD k 0)=true:=O.to _ _ (h.lt h0 _) (h.lt h0 _) (h.ne j (by lia) (by lia)) z;refine jN O h j a f ((l+r) / 2+1) r (by lia) (by lia) J (λi v=>?_) g;by_cases y:i=(l+r) / 2
    ·rw[y];exact m
    ·exact O.tr _ _ _ (h.lt h0 _) (h.lt h0 _) (h.lt h0 _) (a i _ (by lia) (by lia)) m
theorem Asc.bub(h:PmN N p){k l:Nat}(hk:k<N)(a:Asc c p k)(hl:l<=k)(m:∀i,i<l->c (p.getD i 0) (p.getD k 0)=true)(q:∀i,l<=i->i<k->c (p.getD k 0) (p.getD i 0)=true):Asc c (bubble p k (k - l)) (k+1):=by
 intro i j J hj;have s:=h.size;have e:=ui (p:=p) (k:=k) (by lia) (k - l) (by lia);have g:k - (k - l)=l:=by lia
 rw[e i,e j,g];by_cases U:i=l
 ·rw[zzi U,zzg (by lia),zzi (by lia)];exact q (j - 1) (by lia) (by lia)
 ·rw[zzg U];by_cases b:j=l
  ·rw[zzi b,zzg (by lia)];exact m i (by lia)
  ·rw[zzg b];by_cases Y:l<i/\i<=k
   ·rw[zzi Y,zzi (by lia)];exact a _ _ (by lia) (by lia)
   ·rw[zzg Y];by_cases d:l<j/\j<=k
    ·rw[zzi d];exact a _ _ (by lia) (by lia)
    ·rw[zzg d];exact a _ _ J (by lia)
theorem ye(O:StrO N c):∀(f:Nat) (p:Array Nat) (k:Nat),PmN N p->1<=k->k+f=N->Asc c p k->Asc c (kRun c (kas_bin f p k)) N
 |0,p,k,h,_,e,a=>by
  have:k=N:=by lia
  subst this;exact a
 |f+1,p,k,h,hk,e,a=>by unfold kas_bin;rw[dU];obtain⟨b,J,U⟩:=jN O h (by lia) a k 0 k (by lia) (by lia) (zzn _) (λi d=>by lia) (λi d hik=>by lia);exact ye O f _ (k+1) (h.bub _ _) (by lia) (by lia) (a.bub h (by lia) b J U)
theorem Bb(O:StrO N c)(a:2<=N):Asc c (kRun c (kas_sort N)) N:=by
 have J:PmN N (List.toArray (List.range N)):=by unfold PmN;rw[zyP]
 unfold kas_sort;rw[dU];obtain⟨a1,a2,a3⟩:=yd O J a;have pm:=KGood.end c _ (lK (by lia) J N);generalize kRun c (kas_count N (List.toArray (List.range N)))=r at a1 a2 a3 pm;by_cases e:r.1<N
 ·rw[zzi e];have em:max r.1 1=r.1:=by lia
  rw[em];exact ye O _ _ _ pm a2 (by lia) a1
 ·rw[zzg e];have:r.1=N:=by lia
  rw[this]at a1;exact a1
end
end L2
namespace L2
open PySem PySem.Spec PyProof.Rows
variable{E Q:av->bd->Prop}{a it:bb}{b:Bool}{i k:Nat}{l l':bN}{p p1:bb×Array av}{pos tp:Pos}{s:bd}{src:ai (bb×Array av)}{w:World}{xs:Array av}
variable{prog:bP}{w:World}{A:Around}{E:av->bd->Prop}{s:bd}{X:Cx}
def IterX:Bool->bz->bb->bb->Nat->Prop
 |true,h,i,a,k=>h.IsTupleIter i a k|false,h,i,a,k=>h.IsListIter i a k
def SeqX:Bool->bz->bb->Array av->Prop
 |true,h,a,xs=>h.IsTuple a xs|false,h,a,xs=>h.IsList a xs
theorem IterX.extBut{t:Bool}{h c:bz}{i a b:bb}{k:Nat}(x:IterX t h i a k)(d:Heap.ExtBut b h c)(e:i≠b):IterX t c i a k:=by
 cases t with
 |true=>exact Heap.IsTupleIter.extBut x d e|false=>exact Heap.IsListIter.extBut x d e
theorem IterX.at{t:Bool}{h c:bz}{i a:bb}{k:Nat}(x:IterX t h i a k)(e:∀o,h.get? i=some o->c.get? i=some o):IterX t c i a k:=by
 cases t with
 |true=>exact Heap.IsTupleIter.at x e|false=>exact Heap.IsListIter.at x e
theorem IterX.cell{t:Bool}{h:bz}{i a:bb}{k:Nat}(x:IterX t h i a k):∃o,h.get? i=some o/\∀v,o.data ≠ .cell v:=by
 cases t with
 |true=>obtain⟨o,e,_,d⟩:=(show h.IsTupleIter i a k from x);exact⟨o,e,λv z=>by rw[d]at z;cases z⟩
 |false=>obtain⟨o,e,_,d⟩:=(show h.IsListIter i a k from x);exact⟨o,e,λv z=>by rw[d]at z;cases z⟩
theorem SeqX.extBut{t:Bool}{h c:bz}{a b:bb}{xs:Array av}(x:SeqX t h a xs)(d:Heap.ExtBut b h c)(e:a≠b):SeqX t c a xs:=by
 cases t with
 |true=>exact Heap.IsTuple.extBut x d e|false=>exact Heap.IsList.extBut x d e
theorem SeqX.at{t:Bool}{h c:bz}{a:bb}{xs:Array av}(x:SeqX t h a xs)(e:∀o,h.get? a=some o->c.get? a=some o):SeqX t c a xs:=by
 cases t with
 |true=>obtain⟨o,d,r⟩:=(show h.IsTuple a xs from x);exact⟨o,e o d,r⟩
 |false=>exact Heap.IsList.at x e
theorem SeqX.lt{t:Bool}{h:bz}(x:SeqX t h a xs):a<h.objs.size:=by
 cases t with
 |true=>obtain⟨o,c,_⟩:=(show h.IsTuple a xs from x);exact zzv c
 |false=>obtain⟨o,c,_⟩:=(show h.IsList a xs from x);exact zzv c
theorem eZ{t:bb}{v:av}(g:s.heap.IsTupleIter it t i)(j:s.heap.IsTuple t xs)(m:xs[i]?=some v)(q:∀e,e.IsTupleIter it t (i+1)->Heap.SameBut it s.heap e->Q v {s with heap:=e}):wpAny (model prog w) A (Builtin.SmallTypes.nextOf (.ref it)) Q E s:=by obtain⟨ob,d,n,c⟩:=id g;obtain⟨ot,J,_,nt,U⟩:=j;refine zzb (wpAny_callSpecial?_slot g.typeIs F.slot_tuple_iterator_next (zyB F.slot_tuple_iterator_next g.typeIs F.entry_tuple_iterator_next ?_ (F.args_tuple_iterator_next_1 _)));refine(show wpAny _ _ (field (.ref it) 0 >>= _) _ _ s from zzb (zyW d c rfl ?_));refine(show wpAny _ _ (if (Value.ref t==Value.none)=true then _ else _) _ _ s from ?_);refine(show wpAny _ _ (field (.ref it) 1 >>= _) _ _ s from zzb (zyW d c rfl ?_));refine(show wpAny _ _ (seqItems? (.ref t) >>= _) _ _ s from zzb (zxU J U ?_));simp only[zzG,m];refine zzb (zwY d c (by simp) (zzq ⟨v,rfl,zzq (q _ ⟨_,zxu _ d (Obj.isFreed_of_fields (Obj.data_mapFields c _)),(Obj.cls_mapFields ..).trans n,by rw[Obj.data_mapFields c];simp[rawInt]⟩ (zyc ..))⟩))
theorem dO{t:bb}(Y:A.handled=none)(d:s.heap.IsTupleIter it t i)(m:s.heap.IsTuple t xs)(n:xs[i]?=none)(q:∀c e,Heap.ExtBut it s.heap c->(∃o,c.get? e=some o/\o.cls=.type "StopIteration")->E (.ref e) {s with heap:=c}):wpAny (model prog w) A (Builtin.SmallTypes.nextOf (.ref it)) Q E s:=by obtain⟨ob,g,oc,j⟩:=id d;obtain⟨ot,J,_,nt,U⟩:=m;refine zzb (wpAny_callSpecial?_slot d.typeIs F.slot_tuple_iterator_next (zyB F.slot_tuple_iterator_next d.typeIs F.entry_tuple_iterator_next ?_ (F.args_tuple_iterator_next_1 _)));refine(show wpAny _ _ (field (.ref it) 0 >>= _) _ _ s from zzb (zyW g j rfl ?_));refine(show wpAny _ _ (if (Value.ref t==Value.none)=true then _ else _) _ _ s from ?_);refine(show wpAny _ _ (field (.ref it) 1 >>= _) _ _ s from zzb (zyW g j rfl ?_));refine(show wpAny _ _ (seqItems? (.ref t) >>= _) _ _ s from zzb (zxU J U ?_));simp only[zzG,n];refine zzb (zxW (zzb (zwY g j (by simp) ?_)));refine(show wpAny _ _ (newExc (.type "StopIteration") [] >>= _) _ _ _ from zzb ?_);refine zzb (zyE (zzb (wpAny_of_eq (by first|rfl|(simp only[firstArgMember];rfl)) (zyE ?_ (by size_fits)))) (by size_fits));simp only[raiseNew];refine zzb (wpAny_handled ?_);(first|rw[show A.in1.handled=none from Y]|rw[Y]);refine zzb (zzq (wpAny_throw ?_));exact q _ _ (((zyc ..).extBut.push _).push _) ⟨_,zzw _ rfl,rfl⟩
theorem gk{t:bb}{v:av}(d:IterX b s.heap it t i)(e:SeqX b s.heap t xs)(g:xs[i]?=some v)(q:∀c,IterX b c it t (i+1)->Heap.SameBut it s.heap c->Q v {s with heap:=c}):wpAny (model prog w) A (Builtin.SmallTypes.nextOf (.ref it)) Q E s:=by
 cases b with
 |true=>exact eZ d e g q|false=>exact wpAny_nextOf_list_item d e g q
theorem iL{t:bb}(J:A.handled=none)(d:IterX b s.heap it t i)(g:SeqX b s.heap t xs)(j:xs[i]?=none)(q:∀c e,Heap.ExtBut it s.heap c->(∃o,c.get? e=some o/\o.cls=.type "StopIteration")->E (.ref e) {s with heap:=c}):wpAny (model prog w) A (Builtin.SmallTypes.nextOf (.ref it)) Q E s:=by
 cases b with
 |true=>exact dO J d g j q|false=>exact wpAny_nextOf_list_end J d g j q
section
variable{tk:bb->Bool}
def CJ(tk:bb->Bool)(h:bz)(n:Nat)(src:ai (bb×Array av))(k c:Nat):Prop:=∀(j:Nat) (p:bb×Array av),src[j]?=some p->IterX (tk p.1) h (n+j) p.1 (if j<c then k+1 else k)
def CK(tk:bb->Bool)(h:bz)(n:Nat)(src:ai (bb×Array av)):Prop:=∀(j:Nat) (p:bb×Array av),src[j]?=some p->p.1<n/\SeqX (tk p.1) h p.1 p.2
structure ZipStM(tk:Addr->Bool)(h:Heap)(n:Nat)(src:List (Addr×Array Value))(k:Nat):Prop where
 zip:∃f0 f1,OwnF f0/\dA h (n+src.length+2) (n+src.length) (n+src.length+1) f0 f1
 ti:cK h (n+src.length) (itsL n src.length).toArray
 to:∃ws:Array Value,ws.size=src.length/\cK h (n+src.length+1) ws
 its:CJ tk h n src k 0
 ls:CK tk h n src
 ne:src≠[]
structure ZipLpM(tk:Addr->Bool)(h0:Heap)(n:Nat)(src:List (Addr×Array Value))(k c:Nat)(h:Heap):Prop where
 ti:cK h (n+src.length) (itsL n src.length).toArray
 its:CJ tk h n src k c
 ls:CK tk h n src
 kept:KeptZ n src.length h0 h
 sz:h.objs.size=h0.objs.size
section
variable{h0 h h':bz}{n k c:Nat}{src:ai (bb×Array av)}
theorem ZipLpM.same{a:Nat}(L:ZipLpM tk h0 n src k c h)(d:Heap.SameBut a h h')(ha:a=n+src.length+1∨a=n+src.length+2):ZipLpM tk h0 n src k c h' where
 ti:=d.extBut _ _ (by intro e;have e:(_:Nat)=(_:Nat):=e;lia) L.ti
 its:=λj p J=>(L.its j p J).extBut d.extBut (by have:=fO J;intro e;have e:(_:Nat)=(_:Nat):=e;lia)
 ls:=λj p J=>⟨(L.ls j p J).1,(L.ls j p J).2.extBut d.extBut (zzC (zzH (L.ls j p J).1 (show n<=a by lia)))⟩
 kept:=λb o g e=>d.extBut _ _ (by intro e;have e:(_:Nat)=(_:Nat):=e;lia) (L.kept b o g e)
 sz:=d.1.trans L.sz
theorem ZipLpM.next(L:ZipLpM tk h0 n src k c h)(g:src[c]?=some p)(hit:IterX (tk p.1) h' (n+c) p.1 (k+1))(d:Heap.SameBut (n+c) h h'):ZipLpM tk h0 n src k (c+1) h':=by
 have lt:=fO g;refine⟨d.extBut _ _ (by intro e;have e:(_:Nat)=(_:Nat):=e;lia) L.ti,λj q J=>?_,λj q J=>⟨(L.ls j q J).1,(L.ls j q J).2.extBut d.extBut (zzC (zzH (L.ls j q J).1 (zxY n c)))⟩,λb o m e=>d.extBut _ _ (by intro e;have e:(_:Nat)=(_:Nat):=e;lia) (L.kept b o m e),d.1.trans L.sz⟩;by_cases z:j=c
 ·subst z;rw[g]at J;cases J;rw[zzi (by lia)];exact hit
 ·have:=(L.its j q J).extBut d.extBut (by intro e;have e:(_:Nat)=(_:Nat):=e;lia);by_cases y:j<c
  ·rw[zzi y]at this;rw[zzi (by lia)];exact this
  ·rw[zzg y]at this;rw[zzg (by lia)];exact this
theorem KeptZ.stepM{a:Nat}(L:ZipLpM tk h0 n src k c h)(g:Heap.ExtBut a h h')(ha:(n<=a/\a<n+src.length)∨a=n+src.length+1∨a=n+src.length+2):KeptZ n src.length h0 h' :=
 λb o d e=>g _ _ (by intro e;have e:(_:Nat)=(_:Nat):=e;lia) (L.kept b o d e)
end
set_option maxHeartbeats 1000000 in
theorem yf{n:Nat}(hh:A.handled=none)(d2:src.length<=sizeLine)(hs:ZipStM tk s.heap n src k)(hQ:∀vs C,Told src k src.length vs->ZipStM tk C n src (k+1)->cK C s.heap.objs.size vs.toArray->C.objs.size=s.heap.objs.size+1->KeptZ n src.length s.heap C->Q (.ref s.heap.objs.size) {s with heap:=C})(hE:(∃(j:Nat) (p:bb×Array av),src[j]?=some p/\p.2[k]?=none)->∀C e,KeptZ n src.length s.heap C->(∃o,C.get? e=some o/\o.cls=.type "StopIteration")->E (.ref e) {s with heap:=C}) :
  wpAny (model prog w) A (Builtin.«zip.__next__» ⟨[.ref (n+src.length+2)],[]⟩) (λfin G=>∃v,fin=.done (.ret v)/\Q v G) E s:=by
 obtain⟨⟨f0,f1,hf,m⟩,c4,⟨ws,T,Y⟩,hit,d0,c5⟩:=hs;show wpAny _ _ (field (.ref (n+src.length+2)) 2 >>= _) _ _ _;refine zzb (zyW m rfl rfl ?_);show wpAny _ _ (field (.ref (n+src.length+2)) 3 >>= _) _ _ _;refine zzb (zyW m rfl rfl ?_);refine zzb (zxU c4 rfl ?_);have d6:((itsL n src.length).toArray.isEmpty)=false:=by
  cases src with
  |nil=>exact absurd rfl c5|cons a l=>simp[itsL]
 simp only[d6,zxc,zxB];refine zzb (AU hf m ?_ λH d5 hz1 d1=>?_)
 ·simp only[zwC];refine zzb (zxW ?_);refine zzb (zyW m rfl rfl ?_);refine zzb (zxs m (by simp) λu b1 b7=>?_)
  replace b1:dA u (n+src.length+2) (n+src.length) (n+src.length+1) .ellipsis f1:=b1
  have L0:ZipLpM tk s.heap n src k 0 s.heap:=⟨c4,hit,d0,λ_ _ _ e=>e,rfl⟩;have L1:=L0.same b7 (.inr rfl);have a5:cK u (n+src.length+1) ws:=b7.extBut _ _ (by intro e;have e:(_:Nat)=(_:Nat):=e;lia) Y;refine zzb (wpAny_forIn_list _ (λrest b G=>∃c h ws vs,rest=((itsL n src.length).toArray.toList.zipIdx).drop c/\c<=src.length/\b=(none,())/\G={s with heap:=h}/\dA h (n+src.length+2) (n+src.length) (n+src.length+1) .ellipsis f1/\ZipLpM tk s.heap n src k c h/\Told src k c vs/\ws.size=src.length/\cK h (n+src.length+1) ws/\∀j,j<c->ws[j]?=vs[j]?) _ ?turn ?fin _ _ ⟨0,u,ws,[],rfl,zzT _,rfl,rfl,b1,L1,⟨rfl,λj p d=>absurd d (zyz _)⟩,T,a5,λj d=>absurd d (zyz _)⟩)
  case turn =>
   rintro x rest b G ⟨c,h,ws,vs,N,g,rfl,rfl,m,L,q,T,Y,hw⟩;obtain⟨I,c7⟩:=xT N.symm;have g:c<src.length:=by have:=fO I;simpa using this
   rw[zyP,List.getElem?_zipIdx,xU g]at I;simp only[zwP,zwj,Option.some.injEq]at I;subst I;have r:src[c]?=some src[c]:=by simp[g]
   have M:=L.its c _ r;rw[zzg (zyG _)]at M;have hl:=(L.ls c _ r).2;refine zzb (wpAny_onRaise ?_);show wpAny _ _ (Builtin.SmallTypes.nextOf (.ref (n+c)) >>= _) _ _ _;cases y:(src[c]).2[k]? with
   |none =>
    refine zzb (iL hh M hl y λU e J he=>?_);obtain⟨oe,c6,c9⟩:=he;have a6:dA U (n+src.length+2) (n+src.length) (n+src.length+1) .ellipsis f1:=J _ _ (by intro e;have e:(_:Nat)=(_:Nat):=e;lia) m;have d7:e≠n+src.length+2:=λx=>by subst x;rw[a6]at c6;cases c6;simp at c9
    refine zxs a6 (by simp) λb9 _ a4=>hE ⟨c,_,r,y⟩ b9 e (λb o hb x=>a4.extBut _ _ (by intro e;have e:(_:Nat)=(_:Nat):=e;lia) (KeptZ.stepM L J (.inl ⟨zxY _ _,by lia⟩) b o hb x)) ⟨oe,a4.extBut _ _ d7 c6,c9⟩
   |some v =>
    refine zzb (gk M hl y λU a8 J=>zzq ?_);have b4:cK U (n+src.length+1) ws:=J.extBut _ _ (by intro e;have e:(_:Nat)=(_:Nat):=e;lia) Y;have a6:dA U (n+src.length+2) (n+src.length) (n+src.length+1) .ellipsis f1:=J.extBut _ _ (by intro e;have e:(_:Nat)=(_:Nat):=e;lia) m;refine zzb (zxU b4 rfl ?_);refine zzb (fP b4 (by lia) λb9 c2 a4=>?_);refine zzb (wpAny_letGo (zzq ?_));refine⟨c+1,b9,_,vs++[v],c7.symm,g,rfl,rfl,a4.extBut _ _ (by intro e;have e:(_:Nat)=(_:Nat):=e;lia) a6,(L.next r a8 J).same a4 (.inl rfl),q.push r y,by simp[T],c2,λj d=>?_⟩;rw[Array.getElem?_setIfInBounds];by_cases z:c=j
    ·subst z;rw[zzi rfl,zzi (by lia),zzM (by rw[q.1];exact zzn _),q.1];simp
    ·rw[zzg z,hw j (by lia),zys (by rw[q.1];lia)]
  case fin =>
   rintro b G ⟨c,h,ws,vs,N,g,rfl,rfl,m,L,q,T,Y,hw⟩;have g:c=src.length:=by have:=congrArg List.length N;simp at this;lia
   subst g;refine zzb (zxU Y rfl ?_);have d4:ws=vs.toArray:=by
    have:ws.toList=vs:=zxk λj=>by
     rw[zyy];by_cases z:j<src.length
     ·exact hw j z
     ·rw[zxO (by lia),zyg (by rw[q.1];lia)]
    rw[←this]
   subst d4;refine zzb (zwZ ?_ (by simp[q.1];exact d2));show wpAny _ _ (Builtin.SmallTypes.ownedTupleHandOut (.ref (n+src.length+2)) (.ref h.objs.size) >>= _) _ _ _;refine zzb ?_;unfold Builtin.SmallTypes.ownedTupleHandOut;have c3:n+src.length+2<h.objs.size:=zzv m;have c8:dA (h.push {cls:=.type "tuple",data:=.seq vs.toArray.toList.toArray}) (n+src.length+2) (n+src.length) (n+src.length+1) .ellipsis f1:=zzj _ m;refine zzb (zxs c8 (by simp) λd3 b2 a9=>?_)
   replace b2:dA d3 (n+src.length+2) (n+src.length) (n+src.length+1) (rawInt h.objs.size) f1:=b2
   refine zxs b2 (by simp) λa7 b3 b0=>?_
   replace b3:dA a7 (n+src.length+2) (n+src.length) (n+src.length+1) (rawInt h.objs.size) (.bool false):=b3
   have up:∀c o,c≠n+src.length+2->h.get? c=some o->a7.get? c=some o:=λc o c1 e=>b0.extBut _ _ c1 (a9.extBut _ _ c1 (zzj _ e));have i:cK a7 h.objs.size vs.toArray:=b0.extBut _ _ (zxA c3) (a9.extBut _ _ (zxA c3) (zzw _ rfl));have b8:a7.objs.size=h.objs.size+1:=by rw[b0.1,a9.1,zyv]
   have b6:=L.sz;rw[b6]at i b8;refine zzq ⟨_,rfl,?_⟩;show Q (.ref h.objs.size) _;rw[b6];refine hQ vs a7 q ⟨⟨_,_,.inr ⟨_,rfl⟩,b3⟩,up _ _ (by intro e;have e:(_:Nat)=(_:Nat):=e;lia) L.ti,⟨_,T,up _ _ (by intro e;have e:(_:Nat)=(_:Nat):=e;lia) Y⟩,λj p d=>?_,λj p d=>⟨(L.ls j p d).1,(L.ls j p d).2.at λo e=>up _ o (zzC (zzH (L.ls j p d).1 (show n<=n+src.length+2 by lia))) e⟩,c5⟩ i b8 λb o hb e=>up b o (by intro e;have e:(_:Nat)=(_:Nat):=e;lia) (L.kept b o hb e);have:=fO d;have H:=(L.its j p d).at λo e=>up _ o (by intro e;have e:(_:Nat)=(_:Nat):=e;lia) e;rw[zzi this]at H;rw[zzg (zyz _)];exact H
 ·simp only[zxc,zxB];have L0:ZipLpM tk s.heap n src k 0 s.heap:=⟨c4,hit,d0,λ_ _ _ e=>e,rfl⟩;have L1:=L0.same d1 (.inr rfl);have a5:cK H (n+src.length+1) ws:=d1.extBut _ _ (by intro e;have e:(_:Nat)=(_:Nat):=e;lia) Y;refine zzb (wpAny_forIn_array' _ (λrest b G=>∃c h vs,rest=((itsL n src.length).toArray.toList).drop c/\c<=src.length/\b=(none,vs.toArray)/\G={s with heap:=h}/\dA h (n+src.length+2) (n+src.length) (n+src.length+1) f0 d5/\ZipLpM tk s.heap n src k c h/\Told src k c vs/\cK h (n+src.length+1) ws) _ ?turn2 ?fin2 _ _ ⟨0,H,[],rfl,zzT _,rfl,rfl,hz1,L1,⟨rfl,λj p d=>absurd d (zyz _)⟩,a5⟩)
  case turn2 =>
   rintro x rest b G ⟨c,h,vs,N,g,rfl,rfl,m,L,q,Y⟩;obtain⟨I,c7⟩:=xT N.symm;have g:c<src.length:=by have:=fO I;simpa using this
   rw[zyP,xU g]at I;cases I;have r:src[c]?=some src[c]:=by simp[g]
   have M:=L.its c _ r;rw[zzg (zyG _)]at M;have hl:=(L.ls c _ r).2;refine zzb (zyn ?_);show wpAny _ _ (Builtin.SmallTypes.nextOf (.ref (n+c)) >>= _) _ _ _;cases y:(src[c]).2[k]? with
   |none =>
    refine zzb (iL hh M hl y λU e J he=>?_);exact hE ⟨c,_,r,y⟩ U e (KeptZ.stepM L J (.inl ⟨zxY _ _,by lia⟩)) he
   |some v =>
    refine zzb (gk M hl y λU a8 J=>zzq ?_);refine zzq ⟨c+1,U,vs++[v],c7.symm,g,by simp,rfl,J.extBut _ _ (by intro e;have e:(_:Nat)=(_:Nat):=e;lia) m,L.next r a8 J,q.push r y,J.extBut _ _ (by intro e;have e:(_:Nat)=(_:Nat):=e;lia) Y⟩
  case fin2 =>
   rintro b G ⟨c,h,vs,N,g,rfl,rfl,m,L,q,Y⟩;have g:c=src.length:=by have:=congrArg List.length N;simp at this;lia
   subst g;refine zzb (zwZ ?_ (by simp[q.1];exact d2));have i:cK (h.push {cls:=.type "tuple",data:=.seq vs.toArray.toList.toArray}) h.objs.size vs.toArray:=zzw _ rfl;have up:∀c o,h.get? c=some o->(h.push {cls:=.type "tuple",data:=.seq vs.toArray.toList.toArray}).get? c=some o:=λc o e=>zzj _ e;have b8:(h.push {cls:=.type "tuple",data:=.seq vs.toArray.toList.toArray}).objs.size=h.objs.size+1:=zyv ..;have b6:=L.sz;rw[b6]at i b8;refine zzq ⟨_,rfl,?_⟩;show Q (.ref h.objs.size) _;rw[b6];refine hQ vs _ q ⟨⟨_,_,hf,up _ _ m⟩,up _ _ L.ti,⟨_,T,up _ _ Y⟩,λj p d=>?_,λj p d=>⟨(L.ls j p d).1,(L.ls j p d).2.at λo e=>up _ o e⟩,c5⟩ i b8 λb o hb e=>up b o (L.kept b o hb e);have:=fO d;have H:=(L.its j p d).at λo e=>up _ o e;rw[zzi this]at H;rw[zzg (zyz _)];exact H
theorem dW{prog:bP}{A:Around}{s:bd}{n:Nat}{Q:bo av->bd->Prop}(x:A.handled=none)(J:src.length<=sizeLine)(g:ZipStM tk s.heap n src k)(r:∀d c,Told src k src.length d->ZipStM tk c n src (k+1)->cK c s.heap.objs.size d.toArray->c.objs.size=s.heap.objs.size+1->KeptZ n src.length s.heap c->Q (some (.ref s.heap.objs.size)) {s with heap:=c})(q:(∃(j:Nat) (p:bb×Array av),src[j]?=some p/\p.2[k]?=none)->∀c,KeptZ n src.length s.heap c->Q none {s with heap:=c}) :
  wpAny (model prog w) A (pyNext (.ref (n+src.length+2))) Q E s:=by
 obtain⟨f0,f1,_,C⟩:=g.zip;have U:s.TypeIs (.ref (n+src.length+2)) "zip":=⟨_,C,rfl⟩;unfold pyNext;refine zzb (zvh (wpAny_callSpecial?_slot U F.slot_zip_next
  (zyB F.slot_zip_next U F.entry_zip_next (yf x J g (λd c a1 a2 a3 Y m=>zzq (r d c a1 a2 a3 Y m)) λa c e y v=>?_) (F.args_zip_next_1 _))))
 obtain⟨o,z,u⟩:=v;refine zzb (wpAny_isInstance ⟨o,z,u⟩ isSubtype_stop ?_);exact zzq (q a _ y)
def Bc(tk:bb->Bool)(s:bd)(src:ai (bb×Array av))(Q:av->bd->Prop):Prop :=
 ∀d,ZipStM tk d s.heap.objs.size src 0->d.objs.size=s.heap.objs.size+src.length+3->(∀c o,s.heap.get? c=some o->d.get? c=some o)->Q (.ref (s.heap.objs.size+src.length+2)) {s with heap:=d}
def SqX(tk:bb->Bool)(K:zvi)(H:Hp)(a:bb)(xs:ai V):Prop:=if tk a=true then SqT K H a xs else SqL K H a xs
theorem SqX.inj{X:Cx}{g:ai (bb×Obj)}{j:St}{H:Hp}(I:Inv X g j H s){xs ys:ai V}(c:SqX tk X.K H a xs)(d:SqX tk X.K H a ys):xs=ys:=by
 unfold SqX at c d;cases e:tk a with
 |true=>rw[zzi e]at c d;exact I.tuple_inj c d|false=>rw[zzg (by rw[e];intro z;cases z)]at c d;exact I.list_inj c d
theorem SqX.at{X:Cx}{d:ai (bb×Obj)}{g:St}{H:Hp}{s:bd}(I:Inv X d g H s){a:bb}{xs:ai V}(h:SqX tk X.K H a xs):∃c:ai av,Vals xs c/\SeqX (tk a) s.heap a c.toArray/\xs.length<=sizeLine:=by
 unfold SqX at h;cases e:tk a with
 |true =>
  rw[zzi e]at h;obtain⟨c,U,p,J⟩:=I.tuple h;exact⟨c,U,p,J⟩
 |false =>
  rw[zzg (by rw[e];intro z;cases z)]at h;obtain⟨c,U,p,J⟩:=I.list h;exact⟨c,U,p.isList,J⟩
theorem mZ{X:Cx}{K:zvi}{d:ai (bb×Obj)}{G:St}{H:Hp}{s:bd}(v:X.K=K)(I:Inv X d G H s):∀{as:ai bb} {J:ai (ai V)},as.length=J.length->(∀(j:Nat) a xs,as[j]?=some a->J[j]?=some xs->SqX tk K H a xs) ->
  ∃src:ai (bb×Array av),src.map (·.1)=as/\SrcV J src/\(∀p∈src,SeqX (tk p.1) s.heap p.1 p.2)/\∀xs∈J,xs.length<=sizeLine
 |[],J,c,_=>by have h0:J=[]:=zzX.mp (by rw[←c];rfl);subst h0;exact⟨[],rfl,⟨rfl,λj xs p h=>by simp at h⟩,λp U=>by simp at U,λxs e=>by simp at e⟩
 |a::as,[],c,_=>absurd c (by simp)|a::as,xs::J,c,h=>by
  subst v;obtain⟨src,q,n,r,u⟩:=mZ rfl I (by simpa using c) λj a xs x e=>h (j+1) a xs (by simpa using x) (by simpa using e);obtain⟨g,C,z,y⟩:=(h 0 a xs rfl rfl).at I;refine⟨(a,g.toArray)::src,by simp[q],⟨by simp[n.1],λj m p Y U=>?_⟩,λp U=>?_,λm Y=>?_⟩
  ·cases j with
   |zero=>simp at Y U;subst Y U;simpa using C|succ j=>exact n.2 j m p (by simpa using Y) (by simpa using U)
  ·rcases zzr.mp U with rfl|U
   ·exact z
   ·exact r p U
  ·rcases zzr.mp Y with rfl|Y
   ·exact y
   ·exact u m Y
abbrev itO(t:Bool)(l:bb):Obj:={cls:=.type (match t with|true=>"tuple_iterator" |false=>"list_iterator"),data:=.fields #[.ref l,.int 0 0]}
abbrev m2H(t u:Bool)(h:bz)(l1 J:bb):bz:=(h.push (itO t l1)).push (itO u J)
abbrev m2T(t u:Bool)(h:bz)(l1 J:bb):bz:=(m2H t u h l1 J).push (tuO [.ref h.objs.size,.ref (h.push (itO t l1)).objs.size])
abbrev m2U(t u:Bool)(h:bz)(l1 J:bb):bz:=(m2T t u h l1 J).push (tuO [.none,.none])
abbrev m2Z(t u:Bool)(h:bz)(l1 J:bb):bz:=(m2U t u h l1 J).push (ziO (m2H t u h l1 J).objs.size (m2T t u h l1 J).objs.size)
theorem SeqX.push{t:Bool}{h:bz}{a:bb}{xs:Array av}(x:SeqX t h a xs)(o:Obj):SeqX t (h.push o) a xs:=x.at λo e=>zzj _ e
theorem CL{prog:bP}{A:Around}{s:bd}{t:Bool}{l:bb}(h:SeqX t s.heap l xs)(q:Q (.ref s.heap.objs.size) {s with heap:=s.heap.push (itO t l)}):wpAny (model prog w) A (pyIter (.ref l)) Q E s:=by
 cases t with
 |true=>exact zxb h q|false=>exact zxx h q
set_option maxHeartbeats 0 in
theorem lq(t u:Bool)(l1 J:bb)(xs ys:Array av) :
  Meets (Builtin.«zip.__new__» ⟨[.type "zip",.ref l1,.ref J],[]⟩) (λ_ R s=>SeqX t s.heap l1 xs/\SeqX u s.heap J ys /\
   R (.ok (.ret (.ref (m2U t u s.heap l1 J).objs.size))) {s with heap:=m2Z t u s.heap l1 J}) :=
 .of_wp λprog w A R s h=>by
  obtain⟨c,g,d,tok,os⟩:=s;obtain⟨e,j,h⟩:=h;have hsub:=sub_zip;have U:SeqX t (Shared.heap ⟨c,g,d,tok,os⟩) l1 xs:=e;have Y:SeqX u (Shared.heap ⟨c.push (itO t l1),g,d,tok,os⟩) J ys:=j.push _
  wp_walk using CL U,CL Y
  exact⟨_,rfl,h⟩
theorem IterX.new{t:Bool}{h:bz}{i:bb}(e:h.get? i=some (itO t a)):IterX t h i a 0:=by
 cases t with
 |true=>exact⟨_,e,rfl,rfl⟩|false=>exact⟨_,e,rfl,rfl⟩
theorem yg{p2:bb×Array av}(d:SeqX (tk p1.1) s.heap p1.1 p1.2)(g:SeqX (tk p2.1) s.heap p2.1 p2.2)(h:Bc tk s [p1,p2] Q) :
  wpAny (model prog w) A (call (.type "zip") [.ref p1.1,.ref p2.1]) Q E s:=by
 refine callType_new F.called_zip (by decide) (F.typeCall_zip_2 _ _) (F.newCall_zip_2 _ _) (λobj=>F.args_object_init_3 obj _ _) F.entry_zip_new (lq (tk p1.1) (tk p2.1) p1.1 p2.1 p1.2 p2.2) ⟨d,g,?_⟩;have n:(s.heap.push (itO (tk p1.1) p1.1)).objs.size=s.heap.objs.size+1:=zyv ..;have Y:(m2H (tk p1.1) (tk p2.1) s.heap p1.1 p2.1).objs.size=s.heap.objs.size+2:=by rw[zyv,n]
 have q:(m2T (tk p1.1) (tk p2.1) s.heap p1.1 p2.1).objs.size=s.heap.objs.size+3:=by rw[zyv,Y]
 have r:(m2U (tk p1.1) (tk p2.1) s.heap p1.1 p2.1).objs.size=s.heap.objs.size+4:=by rw[zyv,q]
 have v:(m2Z (tk p1.1) (tk p2.1) s.heap p1.1 p2.1).objs.size=s.heap.objs.size+5:=by rw[zyv,r]
 have up:∀c o,(m2H (tk p1.1) (tk p2.1) s.heap p1.1 p2.1).get? c=some o->(m2Z (tk p1.1) (tk p2.1) s.heap p1.1 p2.1).get? c=some o:=λc o e=>zzj _ (zzj _ (zzj _ e));have U:(m2Z (tk p1.1) (tk p2.1) s.heap p1.1 p2.1).get? (m2U (tk p1.1) (tk p2.1) s.heap p1.1 p2.1).objs.size=some _:=zzw _ rfl;have u:(m2Z (tk p1.1) (tk p2.1) s.heap p1.1 p2.1).get? (m2T (tk p1.1) (tk p2.1) s.heap p1.1 p2.1).objs.size=some _:=zzj _ (zzw _ rfl);have g3:(m2Z (tk p1.1) (tk p2.1) s.heap p1.1 p2.1).get? (m2H (tk p1.1) (tk p2.1) s.heap p1.1 p2.1).objs.size=some _:=zzj _ (zzj _ (zzw _ rfl));have g2:(m2Z (tk p1.1) (tk p2.1) s.heap p1.1 p2.1).get? (s.heap.push (itO (tk p1.1) p1.1)).objs.size=some (itO (tk p2.1) p2.1):=up _ _ (zzw _ rfl);have g1:(m2Z (tk p1.1) (tk p2.1) s.heap p1.1 p2.1).get? s.heap.objs.size=some (itO (tk p1.1) p1.1):=up _ _ (zzj _ (zzw _ rfl));have m:∀c o,s.heap.get? c=some o->(m2Z (tk p1.1) (tk p2.1) s.heap p1.1 p2.1).get? c=some o:=λc o x=>up _ _ (zzj _ (zzj _ x));show _/\_;rw[Y,q,r]at U;rw[n,Y]at g3;rw[q]at u;rw[n]at g2;rw[r];refine⟨⟨_,U,rfl⟩,h _ ⟨⟨_,_,.inl rfl,U⟩,g3,⟨_,rfl,u⟩,λj p J=>?_,λj p J=>?_,by simp⟩ v m⟩
 ·rw[zzg (zyz _)];rcases j with _|_|j
  ·simp at J;subst J;exact .new g1
  ·simp at J;subst J;exact .new g2
  ·simp at J
 ·rcases j with _|_|j
  ·simp at J;subst J;exact⟨d.lt,d.at λo e=>m _ o e⟩
  ·simp at J;subst J;exact⟨g.lt,g.at λo e=>m _ o e⟩
  ·simp at J
def ItzM(tk:bb->Bool)(K:zvi)(as:ai bb):It :=
 ⟨λi H=>∀a∈as,∃xs x,SqX tk K H a xs/\xs[i]?=some x,
  λi H v c=>∃T r,H T=none/\v=.ref T/\(r.length=as.length/\∀(j:Nat) a xs,as[j]?=some a->SqX tk K H a xs->xs[i]?=r[j]?)/\c=upd H T (.tup r),
  λi H=>(∀a∈as,∃xs,SqX tk K H a xs)/\∃a∈as,∃xs,SqX tk K H a xs/\xs.length<=i⟩
structure ZipTnM(tk:Addr->Bool)(n:Nat)(as:List Addr)(k:Nat)(h:Heap):Prop where
 zip:∃f0 f1,OwnF f0/\dA h (n+as.length+2) (n+as.length) (n+as.length+1) f0 f1
 ti:cK h (n+as.length) (itsL n as.length).toArray
 to:∃ws:Array Value,ws.size=as.length/\cK h (n+as.length+1) ws
 its:∀(j:Nat) (a:Addr),as[j]? = some a->IterX (tk a) h (n+j) a k
theorem rG{K:zvi}{H:Hp}:∀{as:ai bb},(∀a∈as,∃xs,SqX tk K H a xs)->∃J:ai (ai V),as.length=J.length/\∀(j:Nat) a xs,as[j]?=some a->J[j]?=some xs->SqX tk K H a xs
 |[],_=>⟨[],rfl,λj a xs h=>by simp at h⟩
 |a::as,h=>by
  obtain⟨xs,Y⟩:=h a zzd;obtain⟨J,d,e⟩:=rG λb c=>h b (zzf _ c);refine⟨xs::J,by simp[d],λj b g c U=>?_⟩;cases j with
  |zero=>simp at c U;subst c U;exact Y|succ j=>exact e j b g (by simpa using c) (by simpa using U)
theorem ZipTnM.st{n:Nat}{as:ai bb}{h:bz}(t:ZipTnM tk n as k h)(c:src.map (·.1)=as)(m:∀p∈src,SeqX (tk p.1) h p.1 p.2)(Y:∀a∈as,a<n)(g:as≠[]):ZipStM tk h n src k:=by
 have J:src.length=as.length:=by rw[←c,zza]
 obtain⟨z,q,r,d⟩:=t;have at_:∀(j:Nat) (p:bb×Array av),src[j]?=some p->as[j]?=some p.1:=λj p U=>by rw[←c,zzl,U];rfl
 refine⟨by rw[J];exact z,by rw[J];exact q,by rw[J];exact r,λj p U=>?_,λj p U=>⟨Y p.1 (zzD (at_ j p U)),m p (zzD U)⟩,λe=>g (by rw[←c,e];rfl)⟩;exact d j p.1 (at_ j p U)
theorem ZipStM.tn{n:Nat}{as:ai bb}{h:bz}(z:ZipStM tk h n src k)(d:src.map (·.1)=as):ZipTnM tk n as k h:=by
 have J:src.length=as.length:=by rw[←d,zza]
 refine⟨by rw[←J];exact z.zip,by rw[←J];exact z.ti,by rw[←J];exact z.to,λj a c=>?_⟩;have Y:j<src.length:=by rw[J];exact fO c
 have U:src[j]?=some src[j]:=by simp[Y]
 have:=z.its j _ U;rw[zzg (zyz _)]at this;have e:(src[j]).1=a:=by
  have:as[j]?=some (src[j]).1:=by rw[←d,zzl,U];rfl
  rw[c]at this;exact(zya this).symm
 rw[←e];exact this
theorem yh{P:bP}{K:zvi}{elts:ai bN}(n:Nat)(as:ai bb)(b9:∀a∈as,a<n)(h1:as≠[])(c7:as.length<=4) :
  Turn P w K (.Tuple elts k tp) (ItzM tk K as) (fpZ n as.length) (n+as.length+2) (λi h=>ZipTnM tk n as i h) where
 mem:=fpZ_mem.mpr ⟨by lia,by lia⟩
 obj:=λi h st c hc=>by
  obtain⟨⟨f0,f1,_,hz⟩,a7,⟨ws,_,a8⟩,y⟩:=st;rcases xX hc with rfl|rfl|rfl|⟨lt,e⟩
  ·exact⟨_,hz,λv z=>by have z':Data.fields _=Data.cell v:=z;cases z'⟩
  ·exact⟨_,a7,λv z=>by have z':Data.seq _ _=Data.cell v:=z;cases z'⟩
  ·exact⟨_,a8,λv z=>by have z':Data.seq _ _=Data.cell v:=z;cases z'⟩
  ·obtain⟨o,eo,d⟩:=(y (c - n) as[c - n] (by simp[lt])).cell;rw[e]at eo;exact⟨o,eo,d⟩
 keep:=λi h h' st kk=>by obtain⟨⟨f0,f1,l,hz⟩,a7,⟨ws,b3,a8⟩,y⟩:=st;exact⟨⟨f0,f1,l,kk _ (fpZ_mem.mpr ⟨by lia,by lia⟩) _ hz⟩,kk _ (fpZ_mem.mpr ⟨by lia,by lia⟩) _ a7,⟨ws,b3,kk _ (fpZ_mem.mpr ⟨by lia,by lia⟩) _ a8⟩,λj a g=>(y j a g).at λo e=>kk _ (fpZ_mem.mpr ⟨by lia,by have:=fO g;lia⟩) o e⟩
 item:=by
  intro X hP hw hK hc i G s σ H E I l st hg;subst hP hw hK;obtain⟨U,C,T⟩:=rG λa g=>let ⟨xs,x,h,_⟩:=hg a g;⟨xs,h⟩
  obtain⟨src,M,hv,b1,m⟩:=mZ rfl I C T;have J:src.length=as.length:=by rw[←M,zza]
  have b2:=st.st M b1 b9 h1;have b6:src.length<=sizeLine:=zzo (show src.length<=4 by lia) (by decide);rw[show n+as.length+2=n+src.length+2 by rw[J]];refine dW (I.ok.hd hc) b6 b2 (λvs h' ht b4 b0 c8 hk=>?_) (λhe h' hk=>?_)
  ·obtain⟨r,hr,rv⟩:=ud hv ht;obtain⟨f0,f1,c5,d0⟩:=b4.zip;refine⟨_,rfl,EG c5 d0 λh4 c3 b8 c2 L=>?_⟩;have hzl:n+src.length+2<s.heap.objs.size:=by
    obtain⟨_,_,_,q⟩:=st.zip;rw[J];exact zzv q
   have b5:ZipTnM tk n as (i+1) h4:=by have z0:=b4.tn M;obtain⟨_,a7,⟨ws,b3,a8⟩,y⟩:=z0;rw[J]at c2 L;refine⟨⟨c3,f1,b8,c2⟩,L.extBut _ _ (by intro e;have e:(_:Nat)=(_:Nat):=e;lia) a7,⟨ws,b3,L.extBut _ _ (by intro e;have e:(_:Nat)=(_:Nat):=e;lia) a8⟩,λj a g=>(y j a g).extBut L.extBut (by have:=fO g;intro e;have e:(_:Nat)=(_:Nat):=e;lia)⟩
   have I2:Inv X G σ (upd H s.heap.objs.size (.tup r)) {s with heap:=h4}:=by
    refine I.turnedN l (λb o m q=>?_) (zzn _) ⟨?_,vs,rv,?_⟩
    ·rw[←J]at m;exact L.extBut _ _ (Hz m) (hk b o (ue (rq m)) q)
    ·exact⟨by rw[hr.1,←C];exact zzo c7 (by decide),.inl ⟨_,L.extBut _ _ (by intro e;have e:(_:Nat)=(_:Nat):=e;lia) b0,rfl⟩⟩
    ·exact⟨_,L.extBut _ _ (by intro e;have e:(_:Nat)=(_:Nat):=e;lia) b0,rfl,_,rfl⟩
   refine⟨.ref s.heap.objs.size,_,I2,rfl,⟨s.heap.objs.size,r,I.hok.fresh (zzn _),rfl,⟨by rw[hr.1,C],λj a xs g hx=>?_⟩,rfl⟩,b5,λb m=>?_⟩
   ·have N:j<U.length:=by rw[←C];exact fO g
    have Y:U[j]?=some U[j]:=by simp[N]
    have:=T j a U[j] g Y;rw[SqX.inj I hx this];exact hr.2 j _ Y
   ·have:=fpZ_mem.mp m;rw[af (by intro e;have e:(_:Nat)=(_:Nat):=e;lia)];exact(l b m).1
  ·exfalso;obtain⟨j,p,N,hp⟩:=he;have g:as[j]?=some p.1:=by rw[←M,zzl,N];rfl
   obtain⟨xs,x,h,hx⟩:=hg p.1 (zzD g);have a9:j<U.length:=by rw[←C];exact fO g
   have Y:U[j]?=some U[j]:=by simp[a9]
   rw[SqX.inj I h (T j p.1 _ g Y)]at hx;obtain⟨u,hu,_⟩:=(hv.2 j _ p Y N).get hx;rw[zyy,hp]at hu;cases hu
 done:=by
  intro X hP hw hK hc i G s σ H E I l st hg;subst hP hw hK;obtain⟨b7,a0,c4,xs0,c9,c6⟩:=hg;obtain⟨U,C,T⟩:=rG b7;obtain⟨src,M,hv,b1,m⟩:=mZ rfl I C T;have J:src.length=as.length:=by rw[←M,zza]
  have b2:=st.st M b1 b9 h1;have b6:src.length<=sizeLine:=zzo (show src.length<=4 by lia) (by decide);rw[show n+as.length+2=n+src.length+2 by rw[J]];refine dW (I.ok.hd hc) b6 b2 (λvs h' ht b4 b0 c8 hk=>?_) (λhe h' hk=>⟨rfl,?_⟩)
  ·exfalso;obtain⟨r,hr,rv⟩:=ud hv ht;obtain⟨j,N⟩:=zwG.mp c4;have a9:j<U.length:=by rw[←C];exact fO N
   have Y:U[j]?=some U[j]:=by simp[a9]
   have e:=SqX.inj I c9 (T j a0 _ N Y);have:=hr.2 j _ Y;rw[←e,zyg c6,zzp (by rw[hr.1];exact a9)]at this;cases this
  ·refine I.turnedL l λb o m q=>hk b o ?_ q;rw[←J]at m;exact ue (rq m)
 self:=λA i s Q E st h=>by obtain⟨f0,f1,_,hz⟩:=st.zip;have hT:s.TypeIs (.ref (n+as.length+2)) "zip":=⟨_,hz,rfl⟩;refine wpAny_pyIter_slot hT F.slot_zip_iter (zyB F.slot_zip_iter hT F.entry_zip_iter ?_ (F.args_zip_iter_1 _));show wpAny _ _ (ret (.ref (n+as.length+2))) _ _ s;exact zzq ⟨_,rfl,"zip",_,hT,F.slot_zip_next.lookup,h⟩
end
def Kl(K:zvi)(ta:TA):TI:=λg H R=>ta g H λe c=>∃(d:bb->Bool) (a b:bb),e=[.ref a,.ref b]/\(∃xs,SqX d K c a xs)/\(∃xs,SqX d K c b xs)/\R (ItzM d K [a,b]) c
theorem EJ{y:TA}{p:Pos}{elts:ai bN}(hg:Gl X "zip")(hm:X.mg "zip" = none)(Q:PA X [l,l'] y)(he:starEach [l,l'] X.env=(false,eval l X.env)::starEach [l'] X.env:=by rfl)(M:(backTo pos (starEach [l'] X.env)).any (·.1)=false:=by rfl) :
  PI X (.Tuple elts k tp) (.Call (.Name "zip" p) [l,l'] [] pos) (Kl X.K y):=by
 intro d s C H R I h;refine Call_ (eY I hg hm AR (PyProof.Rows.callWith_type1 (thn (Q pos d s C H _ I h) λus j q0=>?_) he M));obtain⟨vs,m,J,r1,q1⟩:=q0;obtain⟨tk,a,b,e,⟨xs,hq⟩,⟨ys,N⟩,q⟩:=q1;subst e;obtain⟨u,u',rfl,ru,i⟩:=r1.two;cases ru;cases i;obtain⟨g,rv,x,v⟩:=hq.at J;obtain⟨U,rv',Y,T⟩:=N.at J;refine yg (p1:=(a,g.toArray)) (p2:=(b,U.toArray)) x Y λE v T hk=>?_;have G:Inv X d C m {j with heap:=E}:=J.kept hk;have L:∀c∈[a,b],c<j.heap.objs.size:=λc r=>by
  simp only[zzr,zyo,zxv]at r;rcases r with rfl|rfl
  ·exact x.lt
  ·exact Y.lt
 have z:=yh (tk:=tk) (P:=X.prog) (w:=X.w) (K:=X.K) (elts:=elts) (k:=k) (tp:=tp) j.heap.objs.size [a,b] L (by simp) (by simp);have tn:=v.tn rfl;exact z.self X.A 0 _ _ _ tn ⟨_,_,_,ItzM tk X.K [a,b],m,rfl,G,z,tn,λb n=>J.fpOk (fpZ_mem.mp n).1 (J.hok.fresh (fpZ_mem.mp n).1),q⟩
theorem Bf{t b:bb}{vs d:ai av}(r:IsTup s.heap t vs.toArray)(m:IsTup s.heap b d.toArray)(u:vs=[])(h:Q (.ref b) s):wpAny (model prog w) A (binaryOp .Add (.ref t) (.ref b)) Q E s:=by
 obtain⟨⟨cls,j,data,x⟩,c,q,n,hd⟩:=id r;obtain⟨⟨cls2,U,data2,g⟩,J,Y,v,e⟩:=id m;subst q hd Y e;exact concat_meets ⟨_,c,rfl⟩ ⟨_,J,rfl⟩ noFill_tuple_add seq_tuple_add zwu zwn (zwi _ _)
   (tuple_addW0 t b vs.toArray d.toArray n v j U x g (by simp[u])) ⟨c,J,h⟩
def HD(K:zvi):R2:=λx y H Q=>∃a b c,x=.ref a/\y=.ref b/\SqT K H a []/\SqT K H b c/\Q (.ref b) H
theorem EK:OpR X (binaryOp .Add) (λx y H Q=>Hb X.K x y H Q∨HD X.K x y H Q):=by
 intro c s m H x y v u Q I J U h;rcases h with h|h
 ·exact En c s m H x y v u Q I J U h
 ·obtain⟨a,b,ys,rfl,rfl,d,e,q⟩:=h;cases J;cases U;obtain⟨its,j,p1,_⟩:=I.tuple d;obtain⟨its2,r2,g,_⟩:=I.tuple e;exact Bf p1 g (j.nil_iff.mpr rfl) ⟨.ref b,H,I,rfl,q⟩
open AutoSeq1 (wpAny_loadPart')
abbrev yi(t:bb):Obj:={cls:=.type "tuple_iterator",data:=.fields #[.ref t,.int 0 0]}
abbrev EL(it:bb):Obj:={cls:=.type "enumerate",data:=.fields #[.none,.bool false,.ref it,rawInt 0,.none,.none]}
set_option maxHeartbeats 1000000 in
theorem yj(t:bb)(xs:Array av)(n:Nat)(U:bo bb)(e:Array (bo av)) :
  Meets (Builtin.«enumerate.__new__» ⟨[.type "enumerate",.ref t],[]⟩) (λ_ R s=>s.heap.get? t=some ⟨.type "tuple",U,.seq xs n,e⟩/\R (.ok (.ret (.ref (s.heap.push (yi t)).objs.size))) {s with heap:=(s.heap.push (yi t)).push (EL s.heap.objs.size)}):=by
 refine .of_wp λprog w A R s ⟨J,q⟩=>?_;obtain⟨Y,g,d,j,os⟩:=s;have hs:=sub_enumerate;have it:Heap.IsTuple (Shared.heap ⟨Y,g,d,j,os⟩) t xs:=⟨_,J,rfl,n,rfl⟩
 wp_walk using wpAny_loadPart' J
 refine wpAny_stack_any (λσs=>zzq ?_);split
 ·rename_i c _ _ _ _ _;rcases hcc:(c==Value.type "enumerate") with _|_
  ·(wp_walk using wpAny_loadPart' J,zxb it);exact⟨_,rfl,q⟩
  ·(wp_walk using wpAny_loadPart' J,zxb it);exact⟨_,rfl,q⟩
 ·(wp_walk using wpAny_loadPart' J,zxb it);exact⟨_,rfl,q⟩
theorem Bg{t:bb}(U:IsTup s.heap t xs)(q:∀c,IsEnum c (s.heap.objs.size+1) s.heap.objs.size 0 .none->c.IsTupleIter s.heap.objs.size t 0->(∀b o,s.heap.get? b=some o->c.get? b=some o)->Q (.ref (s.heap.objs.size+1)) {s with heap:=c}) :
  wpAny (model prog w) A (call (.type "enumerate") [.ref t]) Q E s:=by
 obtain⟨⟨cl,J,da,m⟩,d,g,n,j⟩:=U;subst g j;have z:(s.heap.push (yi t)).objs.size=s.heap.objs.size+1:=zyv ..;refine callType_new F.called_enumerate (by decide) (F.typeCall_enumerate_1 _) (F.newCall_enumerate_1 _) (λo=>F.args_object_init_2 o _) F.entry_enumerate_new (yj t xs n J m) ⟨d,?_⟩;have e:IsEnum ((s.heap.push (yi t)).push (EL s.heap.objs.size)) (s.heap.objs.size+1) s.heap.objs.size 0 .none:=by have:=zzw (s.heap.push (yi t)) (o:=EL s.heap.objs.size) rfl;rwa [z]at this
 rw[z];exact⟨⟨_,e,rfl⟩,q _ e ⟨_,zzj _ (zzw _ rfl),rfl,rfl⟩ λb o x=>zzj _ (zzj _ x)⟩
theorem yk(j:A.handled=none)(it t:bb)(ne:t≠it)(xs:Array av):Draws prog w A it [it,t] xs.size (λi v=>xs[i]?=some v) (λi h=>h.IsTupleIter it t i/\h.IsTuple t xs):=by
 refine⟨λi h x=>?_,λi h c x k=>?_,λi s Q E d x q=>?_,λs Q E x q=>dO j x.1 x.2 (by simp) q⟩
 ·obtain⟨⟨o,e,_⟩,_⟩:=x;exact⟨o,e⟩
 ·obtain⟨⟨o,e,r⟩,U,g,m⟩:=x;exact⟨⟨o,k it (by simp) o e,r⟩,U,k t (by simp) U g,m⟩
 ·refine eZ x.1 x.2 (v:=xs[i]) (by simp[d]) λc J Y=>?_;exact q _ c s.toks (by simp[d]) ⟨J,x.2.extBut Y.extBut ne⟩ Y
theorem ym(U:A.handled=none)(it t:bb)(d:xs[i]?=none):Draws prog w A it [it,t] 0 (λ_ _=>False) (λ_ h=>h.IsTupleIter it t i/\h.IsTuple t xs):=by
 refine⟨λj h x=>?_,λj h h' x k=>?_,λj s Q E Y _ _=>absurd Y (zyz _),λs Q E x q=>dO U x.1 x.2 d q⟩
 ·obtain⟨⟨o,e,_⟩,_⟩:=x;exact⟨o,e⟩
 ·obtain⟨⟨o,e,r⟩,J,c,g⟩:=x;exact⟨⟨o,k it (by simp) o e,r⟩,J,k t (by simp) J c,g⟩
def IteT(K:zvi)(a:bb):It :=
 ⟨λi H=>∃xs x,SqT K H a xs/\xs[i]?=some x,λi H x c=>∃T y,H T=none/\x=.ref T/\(∀xs,SqT K H a xs->xs[i]?=some y)/\c=upd H T (.tup [.int i,y]),λi H=>∃xs,SqT K H a xs/\xs.length<=i⟩
theorem yn{h:bz}{b:bb}{o:Obj}{n:String}(J:IsTup h a xs)(j:h.get? b=some o)(d:o.cls=.type n)(g:n ≠ "tuple"):a≠b:=by rintro rfl;obtain⟨o',e,c,_⟩:=J;rw[j]at e;cases e;rw[d]at c;cases c;exact g rfl
theorem vU{P:bP}{K:zvi}{elts:ai bN}(a e it:bb)(a0:e≠it):Turn P w K (.Tuple elts k tp) (IteT K a) [e,it] e (λi h=>(∃old,IsEnum h e it i old)/\h.IsTupleIter it a i) where
 mem:=by simp
 obj:=λi h st b g=>by
  obtain⟨⟨old,j⟩,ho⟩:=st;rcases zzr.mp g with rfl|g
  ·exact⟨_,j,λv z=>by have z':Data.fields _=Data.cell v:=z;cases z'⟩
  ·have:b=it:=by simpa using g
   subst this;obtain⟨o,U,c,d⟩:=ho;exact⟨o,U,λv z=>by rw[d]at z;cases z⟩
 keep:=λi h h' st k=>by obtain⟨⟨old,j⟩,o,U,r⟩:=st;exact⟨⟨old,k e (by simp) _ j⟩,o,k it (by simp) o U,r⟩
 item:=by
  intro X Y l L M i n s σ H E I y st N;subst Y l L;obtain⟨xs,x,C,Q⟩:=N;obtain⟨m,rv,p,hz⟩:=I.tuple C;obtain⟨u,hu,ru⟩:=rv.get Q;obtain⟨⟨old,j⟩,hit⟩:=st;have b0:a≠e:=yn p j rfl (by decide);have b1:a≠it:=by obtain⟨o,U,c,d⟩:=id hit;exact yn p U c (by decide)
  have W:=WalksT.enumerateD (prog:=X.prog) (w:=X.w) (yk (A:=X.A.in1) (I.ok.hd M) it a b1 m.toArray) e a0 (by simp[a0,Ne.symm b0]) (by simp);have hi:i<m.toArray.size:=by have:=(zzt.mp hu).1;simpa using this
  refine W.item i s _ _ hi ⟨⟨old,j⟩,hit,p⟩ λT vals G tk Y hT a9 J hk=>?_;obtain⟨t,z,a5,rfl⟩:=Y;have a8:z=u:=by
   have:m.toArray[i]?=some u:=by simpa using hu
   rw[this]at a5;cases a5;rfl
  subst a8;have ap:=W.apart i T G J;refine⟨_,rfl,W.go elts k tp i T {s with heap:=G,toks:=tk} _ _ J λh2 b3 a4=>?_⟩;obtain⟨a6,a7,_⟩:=b3;have I2:Inv X n σ (upd H T (.tup [.int i,x])) {s with heap:=h2,toks:=tk}:=by
   refine I.turnedN y (λb o g q=>a4 b o g (hk b o g q)) hT ⟨?_,[.int i t,z],.cons ⟨t,rfl⟩ (.cons ru .nil),?_⟩
   ·exact⟨by show 2<=sizeLine;decide,.inr ⟨_,_,rfl⟩⟩
   ·obtain⟨o,U,r⟩:=a9;exact⟨o,a4 T o ap U,r⟩
  refine⟨.ref T,_,I2,rfl,⟨T,x,I.hok.fresh hT,rfl,λys hy=>by rw[I.tuple_inj hy C];exact Q,rfl⟩,⟨by simpa using a6,a7⟩,λb g=>?_⟩;have fb:=y b g;rw[af]
  ·exact fb.1
  ·rintro rfl;exact ap g
 done:=by intro X Y l L M i n s σ H E I y st N;subst Y l L;obtain⟨xs,C,Q⟩:=N;obtain⟨m,rv,p,hz⟩:=I.tuple C;obtain⟨⟨old,j⟩,hit⟩:=st;have hl:=rv.length;refine wpAny_pyNext_enum_endD (ym (A:=X.A.in1) (I.ok.hd M) it a (by simp;lia)) j ⟨hit,p⟩ λG b2=>⟨rfl,?_⟩;exact I.turnedL y λb o g q=>b2 b o (λz=>g (by simp[z])) q
 self:=λ_ _ _ _ _ st h=>let ⟨_,j⟩:=st.1;zwr j h
def HE(K:zvi)(ta:TA):TI:=λe H R=>ta e H λd c=>∃a,d=[.ref a]/\(∃xs,SqT K c a xs)/\R (IteT K a) c
theorem Bh{j:TA}{p:Pos}{elts:ai bN}(r:Gl X "enumerate")(x:X.mg "enumerate" = none)(n:PA X [l] j)(he:starEach [l] X.env=(false,eval l X.env)::starEach [] X.env:=by rfl)(U:(backTo pos (starEach [] X.env)).any (·.1)=false:=by rfl) :
  PI X (.Tuple elts k tp) (.Call (.Name "enumerate" p) [l] [] pos) (HE X.K j):=by
 intro c s N H R I h;refine Call_ (eY I r x pq (PyProof.Rows.callWith_type1 (thn (n pos c s N H _ I h) λus d C=>?_) he U));obtain⟨vs,m,J,L,G⟩:=C;obtain⟨a,e,⟨xs,y⟩,q⟩:=G;subst e;obtain⟨u,rfl,M⟩:=L.one;cases M;obtain⟨its,rv,z,hz⟩:=J.tuple y;refine Bg z λh1 Y hit v=>?_;refine zwr Y ?_;have ne:d.heap.objs.size+1≠d.heap.objs.size:=by lia
 refine⟨_,[d.heap.objs.size+1,d.heap.objs.size],_,IteT X.K a,m,rfl,J.kept v,vU a _ _ ne,⟨⟨_,Y⟩,hit⟩,λb g=>?_,q⟩;rcases zzr.mp g with rfl|g
 ·exact J.fpOk (zwv _) (J.hok.fresh (zwv _))
 ·have:b=d.heap.objs.size:=by simpa using g
  subst this;exact J.fpOk (zzn _) (J.hok.fresh (zzn _))
end L2
namespace L2
open PySem PySem.Spec PyProof.Rows
variable{a c:bb}{cv pm u:av}{h' h1:bz}{k:Nat}{mb mg:Str->bo av}{x:Str}
variable{X:Cx}
def cxL(P:bP)(w:World)(K:zvi)(mg:Str->bo av)(base:bz)(N:ai Str)(qual:Str)(scope:Scope)(f:bb)(cd:av)(cl:ai (Str×bb))(A:Around)(outer:ai Env)(s:bd)(H:Hp)(E:XK):Cx where
 prog:=P
 w:=w
 K:=K
 mg:=mg
 base:=base
 A:=A.deeper (PySem.W.envX qual scope s.heap.objs.size f cd cl)
 N:=N
 s₀:=s
 H₀:=H
 env:=PySem.W.envX qual scope s.heap.objs.size f cd cl
 outer:=outer
 stack:=PySem.W.envX qual scope s.heap.objs.size f cd cl::outer
 ex:=[]
 calm:=true
 fn:=λ_=>false
 pn:=[]
 xe:=λe b=>wpAny (model P w) (A.deeper (PySem.W.envX qual scope s.heap.objs.size f cd cl)) (leaving (PySem.W.envX qual scope s.heap.objs.size f cd cl) e) (λ_ J=>CXE P w outer H s E e J) (λU J=>CXE P w outer H s E U J) b
structure Cells(scope:Scope)(cl:List (Str×Addr))(N:List Str)(vs:List V)(H:Hp)(h:Heap):Prop where
 inj:∀x y c,cl.lookup x=some c->cl.lookup y=some c->x=y
 has:∀x,(scope.names.lookup x=some .cell∨scope.names.lookup x=some .free)->∃c,cl.lookup x=some c
 cell:∀x c,cl.lookup x=some c->∃v,h.IsCell c v
 free:∀x c,cl.lookup x=some c->H c=none
 len:N.length=vs.length
 val:∀(i:Nat) x v,N[i]? = some x->vs[i]? = some v->∃u c,RelV v u/\scope.names.lookup x=some .free/\cl.lookup x=some c/\h.IsCell c (some u)
theorem iM{h:bz}{v:bo av}(k:∀b o,h.get? b=some o->h'.get? b=some o)(x:h.IsCell c v):h'.IsCell c v:=let ⟨o,e,d⟩:=x;⟨o,k _ _ e,d⟩
theorem iX{pos:Pos}{a b:Int}{c:av}:∀(l:ai av),TriplesOk l->codeAmong pos (l++[rawInt a,rawInt b,c])=some cv->codeAmong pos l=some cv∨cv=c:=by
 intro l
 fun_induction TriplesOk l with
 |case1 =>
  intro _ h;simp only[List.nil_append,codeAmong,rawInt]at h;split at h
  ·cases h;exact .inr rfl
  ·cases h
 |case2 a' t b' u x rest J =>
  intro h1 h;simp only[List.cons_append,codeAmong]at h ⊢;split at h
  ·rename_i d;rw[zzi d];exact .inl h
  ·rename_i d;rw[zzg d];exact J h1 h
 |case3 l h1 h2=>intro h;exact h.elim
class Bm(mg:Str->Option Value)(base:Heap):Prop where
 out:∃bm ob,mg "__builtins__" = some (.ref bm)/\bm≠builtinsNs/\base.get? bm=some ob/\ob.cls=.type "module" /\ ob.dict=some builtinsNs/\ob.data=.plain
structure LamMade(P:Addr)(qual:Str)(H H':Hp):Prop where
 keep:∀b o,H b=some o->b≠P->H' b=some o
 tab:∃ps more,H P=some (.tbl ps)/\H' P=some (.tbl (ps++more))/\TriplesOk (ps++more).toList /\
  ∀pos cv,codeAmong pos (ps++more).toList=some cv->codeAmong pos ps.toList=some cv∨∃c oc u vs t,cv=.ref c/\H' c=some (.frz oc u)/\oc.data=.fields vs/\vs[1]? = some (.str qual t)
abbrev frzO(o:Obj)(a:bb):HO:=.frz o (.ext λh=>h.get? a=some o)
theorem CM{P:bP}{w:World}{H:Hp}{h:bz}{o:Obj}(e:h.get? a=some o):ObjOk P w H h a (frzO o a):=⟨e,e,⟨_,e⟩,λ_ _ b d=>d _ b⟩
def Bi(H:Hp)(c:bb)(qual:Str):Prop:=∃b u d t,H c=some (.frz b u)/\b.data=.fields d/\d[1]?=some (.str qual t)
def tLam(mg:Str->bo av)(P:bb)(qual:Str)(params:Arguments)(body:bN)(scope:Scope)(J:ai (Str×bb))(pos:Pos):TE:=λ_ H Q =>
 ∃e,H P=some (.tbl e)/\TriplesOk e.toList/\(∀cv,codeAmong pos e.toList=some cv->∃c,cv=.ref c/\Bi H c qual) /\
  ∀f g d b,LamMade P qual H b->b f=some (frzO (PySem.W.kla_obj "<lambda>" qual params body scope J ((mg "__name__").getD .none) g d) f)->Bi b g qual->Q (.ref f) b
theorem HF{P:bb}{g:Arguments}{body:bN}{i:Scope}{pos:Pos}{Y:ai (Str×bb)}{j:Str}(E:Bm X.mg X.base)(hc:X.env.code=.ref a)(C:PySem.W.CodeHd X.base a P)(hq:X.env.qual ++ "<lambda>" = j)(a8:closureFor i X.env=pure Y)(a9:defaultsOf g X.env=([],[])):PE X (.Lambda g body i pos) (tLam X.mg P j g body i Y pos):=by
 intro m s N H Q I ⟨M,p,G,hg,h⟩;have T:s.heap.get? P=some (PySem.W.tabObj M):=I.hok P _ p;have c:s.heap.Ns mainGlobals X.mg:=I.mod.glob.keeps I.bk;have c4:mainGlobals≠P:=λq=>by obtain⟨o,es,ep,e,hd,_⟩:=c;rw[q,T]at e;cases e;cases hd
 obtain⟨E,ob,b1,b2,k,b4,b5,b6⟩:=E.out;have b9:E≠mainGlobals:=λq=>by obtain⟨o,es,ep,e,hd,_⟩:=c;rw[q]at k;rw[I.bk _ _ k]at e;cases e;rw[b6]at hd;cases hd
 have c2:E≠P:=λq=>by have e:=I.bk _ _ k;rw[q,T]at e;cases e;cases b4
 have hB:s.heap.BuiltinsAt X.mg P:=⟨E,ob,b1,b2,b9,c2,I.bk _ _ k,b4,b5,b6⟩;refine PySem.W.kla_eval a9 ?_;rw[hq];have fin:∀(c':bb) (l:av) (A:Hp) (h':bz) (r:Nat),Inv X m N A {s with heap:=h',toks:=r}->(∀x,LamMade P j H (upd A h'.objs.size x))->Bi A c' j ->
   EP X m N Q (.ref h'.objs.size) {s with heap:=h'.push (PySem.W.kla_obj "<lambda>" j g body i Y ((X.mg "__name__").getD .none) c' l),toks:=r}:=λc' l A h' r I1 lm ch=>by
  have w:A h'.objs.size=none:=I1.hok.fresh (zzn _);have I2:Inv X m N (upd A h'.objs.size (frzO (PySem.W.kla_obj "<lambda>" j g body i Y ((X.mg "__name__").getD .none) c' l) h'.objs.size)) {s with heap:=h'.push (PySem.W.kla_obj "<lambda>" j g body i Y ((X.mg "__name__").getD .none) c' l),toks:=r} :=
   I1.laid (λb u e=>zzj _ e) (zzn _) (CM (zzw _ rfl))
  refine⟨.ref h'.objs.size,_,I2,rfl,h _ c' l _ (lm _) ae ?_⟩;obtain⟨y,u,vs,t,e1,e2⟩:=ch;exact⟨y,u,vs,t,cG w e1,e2⟩
 cases hf:codeAmong pos M.toList with
 |none =>
  refine PySem.W.kla_makeFunction a8 I.ok.glob c hc (C.keeps I.bk) T G hf c4 hB λc' l h' r hx b0 hlt b8 a7=>?_;obtain⟨c₂,y,vs,t,e2,c5,hd,hv⟩:=b8;cases e2;have a6:H c'=none:=I.hok.fresh b0;have c3:c'≠P:=λq=>by rw[q,p]at a6;cases a6
  generalize b7:M ++ #[rawInt pos.line,rawInt pos.col,.ref c']=ps' at a7;have kp:∀b o,b≠P->s.heap.get? b=some o->h'.get? b=some o:=λb o n e=>hx b o n e;have U:∀b o,H b=some o->b≠P->upd (upd H P (.tbl ps')) c' (frzO y c') b=some o:=λb o e n=>by rw[af (by rintro rfl;rw[a6]at e;cases e),af n];exact e
  have a5:upd (upd H P (.tbl ps')) c' (frzO y c') P=some (.tbl ps'):=by rw[af (Ne.symm c3),ae]
  have J:Inv X m N (upd (upd H P (.tbl ps')) c' (frzO y c')) {s with heap:=h',toks:=r}:=by
   refine I.un ⟨λb o e n _ _=>kp b o (by rintro rfl;rw[p]at n;cases n) e,λb o e n _ _=>⟨o.slots,kp b o (by rintro rfl;rw[p]at n;cases n) e⟩,λb o e n _=>?_,λb o e _=>?_,λb xs e=>U b _ e (by rintro rfl;rw[p]at e;cases e),λb o u e=>U b _ e (by rintro rfl;rw[p]at e;cases e),λb qs e=>?_⟩ λb o e=>?_
   ·have h1:b≠c':=zzC (zzH (zzv e) b0);have h2:b≠P:=by rintro rfl;rw[p]at n;cases n
    rw[af h1,af h2];exact n
   ·by_cases z:b=P
    ·subst z;exact⟨_,a7⟩
    ·exact⟨o,kp b o z e⟩
   ·by_cases z:b=P
    ·subst z;rw[p]at e;cases e;exact⟨#[rawInt pos.line,rawInt pos.col,.ref c'],by rw[a5,b7]⟩
    ·exact⟨#[],by rw[U b _ e z];simp⟩
   ·by_cases z1:b=c'
    ·subst z1;rw[ae]at e;cases e;exact CM c5
    ·rw[af z1]at e;by_cases z2:b=P
     ·subst z2;rw[ae]at e;cases e;exact a7
     ·rw[af z2]at e;refine(I.hok b o e).stay (λd v hd q=>kp d v ?_ q) (λd q=>U d _ q (by rintro rfl;rw[p]at q;cases q)) λd xs q=>U d _ q (by rintro rfl;rw[p]at q;cases q);rcases hd with rfl|hd
      ·exact z2
      ·rintro rfl;rw[p]at hd;cases hd
  have w:upd (upd H P (.tbl ps')) c' (frzO y c') h'.objs.size=none:=J.hok.fresh (zzn _);refine fin c' l _ h' r J (λx=>⟨λb o e n=>cG w (U b o e n),M,#[rawInt pos.line,rawInt pos.col,.ref c'],p,by rw[b7];exact cG w a5,?_,λL cv e=>?_⟩) ⟨y,_,vs,t,ae,hd,hv⟩
  ·rw[Array.toList_append];exact TriplesOk_snoc _ _ _ _ G
  ·rw[Array.toList_append]at e;rcases iX _ G e with e|rfl
   ·exact .inl e
   ·exact .inr ⟨c',y,_,vs,t,rfl,cG w ae,hd,hv⟩
 |some cv =>
  obtain⟨c',rfl,ch⟩:=hg cv hf;refine PySem.W.kla_makeFunctionHit a8 I.ok.glob c hc (C.keeps I.bk) T G hf hB λl h' r hk hsz=>?_;have J:Inv X m N H {s with heap:=h',toks:=r}:=I.kept hk;have w:H h'.objs.size=none:=J.hok.fresh (zzn _);exact fin c' l H h' r J (λx=>⟨λb o e _=>cG w e,M,#[],p,by rw[cG w p];simp,by simpa using G,λL cv e=>.inl (by simpa using e)⟩) ch
theorem yo{P:bP}{w:World}{K:zvi}{CX:CXT}{N:bb}{fd:bp}{sp:Sp}{J:bd}{p:ai av}{A:ai Int}{U:ai bb}(KX:K.In J.heap)(a9:J.heap.Ns mainGlobals mg)(g:J.heap.Ns builtinsNs mb)(c5:∀x:Str,x ≠ "__name__" -> mb x=bootBuiltins x)(a8:J.heap.NoLimit)(c6:Bm mg J.heap)(hg:J.gens = #[])(E:J.heap.get? a=some {cls:=.type "list",data:=.seq p.toArray})(hi:IntsAre p A)(hl:A.length<=sizeLine)(hr:Room k callerA)(L:∀P∈U,J.heap.get? P=some (PySem.W.tabObj #[]))(hC:∀P∈U,∃c,PySem.W.CodeHd J.heap c P)(c3:∀P∈U,K.lookup P=none)(F:∀base:bz,K.In base->base.Ns mainGlobals mg->Bm mg base->FnOk P w K mg base CX k N fd [x] sp)(a6:∀(s:bd) (u:av),BindsTo s fd ⟨[u],[]⟩ [(x,u)])(c7:∀H:Hp,(∀b,H b=none∨(∃o xs,H b=some (.frz o (.lst xs)))∨H b=some (.tbl #[]))->(∀P∈U,H P=some (.tbl #[]))->SqL K H a (A.map V.int)->sp [.ref a] H (λv _=>v=.bl true) λ_ _ _=>False)(c2:∀H e i,CX [] H J (λ_ _ _=>False) e i->False) :
  codeAny (model P w) callerA (.call (.ref N) ⟨[.ref a],[]⟩) (λr i=>r=.ok (.ret (.bool true))/\OldK J.heap i.heap/\i.os=J.os/\AllBare i.gens) J:=by
 have rv:=vals_ints hi;have b0:=hi.length;have aT:a∉U:=λz=>by have e:=L a z;rw[E]at e;cases e
 have core:∀H:Hp,(∀b,H b=none∨(∃o xs,H b=some (.frz o (.lst xs)))∨(H b=some (.tbl #[])/\b∈U))->(∀P∈U,H P=some (.tbl #[]))->SqL K H a (A.map V.int)->HOk P w H J.heap->(∀b,H b≠none->b=a∨b∈U)->(H a≠none->K.lookup a=none) ->
   codeAny (model P w) callerA (.call (.ref N) ⟨[.ref a],[]⟩) (λr i=>r=.ok (.ret (.bool true))/\OldK J.heap i.heap/\i.os=J.os/\AllBare i.gens) J:=by
  intro H hO c4 hS G hA hK;have Y:∀{b:bb} {o:Obj},J.heap.get? b=some o->H b=none->(hidT J.heap H).get? b=some o:=λe n=>Aw e n;have b7:∀{b:bb} {o:Obj},J.heap.get? b=some o->(∀it n,o.data ≠ .seq it n)->(∀p,o.data ≠ .fields p)->H b=none:=λ{b o} e d d2=>by
   cases q:H b with
   |none=>rfl|some u =>
    rcases hA b (by rw[q];simp) with y|y
    ·subst y;rw[E]at e;cases e;exact absurd rfl (d _ _)
    ·rw[L b y]at e;cases e;exact absurd rfl (d2 _)
  have I:∀{b:bb} {m:Str->bo av},J.heap.Ns b m->(hidT J.heap H).Ns b m:=λ{b m} ⟨o,es,ep,e,d,r⟩=>⟨o,es,ep,Y e (b7 e (λ_ _ z=>by rw[d]at z;cases z) λ_ z=>by rw[d]at z;cases z),d,r⟩;have a7:K.In (hidT J.heap H):=λb o e=>Y (KX b o e) (by
   cases q:H b with
   |none=>rfl|some u =>
    rcases hA b (by rw[q];simp) with y|y
    ·subst y;rw[hK (by rw[q];simp)]at e;cases e
    ·rw[c3 b y]at e;cases e)
  have b9:Bm mg (hidT J.heap H):=by obtain⟨bm,T,b1,b2,b3,b4,b5,M⟩:=c6.out;exact⟨bm,T,b1,b2,Y b3 (b7 b3 (λ_ _ z=>by rw[M]at z;cases z) λ_ z=>by rw[M]at z;cases z),b4,b5,M⟩
  have hM:Mod K mg (hidT J.heap H):=⟨a7,I a9,⟨mb,I g,c5⟩,let ⟨mc,h1,h2⟩:=a8;⟨mc,I h1,h2⟩⟩;have e0:Env0 P w K mg (hidT J.heap H) callerA [] J H:=⟨rfl,hM,λb o e=>DU e,Nat.le_of_eq (xm _ _),trivial,λb g=>absurd (show b∈([]:ai bb) from g) (by simp),G,.of_eq hg⟩;refine zwh ((F _ a7 (I a9) b9).run callerA [] J H ⟨[.ref a],[]⟩ [.ref a] [.ref a] _ _ hr e0 (a6 J (.ref a)) (.cons rfl .nil) (c7 H (λb=>(hO b).imp id λz=>z.imp id And.left) c4 hS)) λr i h=>?_;cases r with
  |error e=>exact(c2 H e i h).elim|ok fl =>
   cases fl with
   |next=>exact False.elim h
   |brk=>exact False.elim h|cont=>exact False.elim h|ret u =>
    obtain⟨v,H',os,bare,un,a5,r',q⟩:=h;have q':v=.bl true:=q;subst q';obtain rfl:u=Value.bool true:=r';have key:∀b o,J.heap.get? b=some o->i.heap.get? b=some o∨(b∈U/\∃more,i.heap.get? b=some (PySem.W.tabObj more)):=λb o e=>by
     cases q:H b with
     |none=>exact .inl (un.keep b o e q (by intro z;exact absurd (show b∈([]:ai bb) from z) (by simp)) (by simp))|some u =>
      rcases hO b with z|⟨T,xs,z⟩|⟨z,zt⟩
      ·rw[q]at z;cases z
      ·have z2:=un.frzs b T _ z;obtain⟨C,_⟩:=G b _ z;obtain⟨e2,_⟩:=a5 b _ z2;rw[e]at C;cases C;exact .inl e2
      ·obtain⟨more,z2⟩:=un.tbls b _ z;exact .inr ⟨zt,_,a5 b _ z2⟩
    refine⟨rfl,⟨λb o e=>?_,λb o e=>?_⟩,os,bare⟩
    ·rcases key b o e with z|⟨zt,more,z⟩
     ·exact .inl z
     ·have C:=L b zt;rw[e]at C;cases C;obtain⟨c,hc⟩:=hC b zt;exact .inr (.inl ⟨(hc.tab e).isCodeTable,rfl,#[],more,rfl,by simpa using z⟩)
    ·rcases key b o e with z|⟨_,more,z⟩
     ·exact⟨_,z⟩
     ·exact⟨_,z⟩
 have b8:∀b,b∈U->∀H:Hp,ObjOk P w H J.heap b (.tbl #[]):=λb g H=>L b g;cases Q:K.lookup a with
 |some o =>
  have e:=KX a o Q;rw[E]at e;cases e;refine core (λb=>if b∈U then some (.tbl #[]) else none) (λb=>?_) (λb g=>zzi g) (.inr ⟨_,p.toArray,_,Q,rfl,rfl,rfl,by rw[zzA,b0];exact hl,by simpa using rv⟩) (λb u z=>?_) (λb z=>?_) λz=>?_
  ·by_cases g:b∈U
   ·exact .inr (.inr ⟨zzi g,g⟩)
   ·exact .inl (zzg g)
  ·by_cases g:b∈U
   ·have j:=(zzi g).symm.trans z;cases j;exact b8 b g _
   ·have j:=(zzg g).symm.trans z;cases j
  ·by_cases g:b∈U
   ·exact .inr g
   ·exact absurd (zzg g) z
  ·exact absurd (zzg aT) z
 |none =>
  have ea:∀b,b∈U->b≠a:=λb g e=>aT (e ▸ g);refine core (λb=>if b=a then some (.frz {cls:=.type "list",data:=.seq p.toArray} (.lst (A.map V.int))) else if b∈U then some (.tbl #[]) else none) (λb=>?_) (λb g=>by show (if b=a then _ else _)=_;rw[zzg (ea b g),zzi g]) (.inl (.inr ⟨{cls:=.type "list",data:=.seq p.toArray},zzi rfl⟩)) (λb u z=>?_) (λb z=>?_) λ_=>Q
  ·show (if b=a then _ else _)=_∨_;by_cases g:b=a
   ·exact .inr (.inl ⟨_,_,zzi g⟩)
   ·by_cases l:b∈U
    ·exact .inr (.inr ⟨by rw[zzg g,zzi l],l⟩)
    ·exact .inl (by rw[zzg g,zzg l])
  ·have j:(if b=a then some (HO.frz {cls:=.type "list",data:=.seq p.toArray} (.lst (A.map V.int))) else if b∈U then some (.tbl #[]) else none)=some u:=z;by_cases g:b=a
   ·rw[zzi g]at j;cases j;subst g;exact⟨E,by rw[zza];exact hl,p,_,rv,E⟩
   ·rw[zzg g]at j;by_cases l:b∈U
    ·rw[zzi l]at j;cases j;exact b8 b l _
    ·rw[zzg l]at j;cases j
  ·by_cases g:b=a
   ·exact .inl g
   ·by_cases l:b∈U
    ·exact .inr l
    ·exact absurd (show (if b=a then _ else if b∈U then _ else _)=_ by rw[zzg g,zzg l]) z
def yp:V->ai V->Hp->VK->Prop:=λx d H Q=>∃l b k y,x=.ref l/\d=[.int k,y]/\H l=some (.lst b)/\0<=k/\k<=(b.length:Int)/\b.length<1000000/\b.length<sizeLine/\Q .non (upd H l (.lst (b.take k.toNat++y::b.drop k.toNat)))
theorem yq:MtM X "list.insert" yp:=by
 intro pins s σ H x vs v A Q I w p h;obtain⟨l,xs,k,y,rfl,rfl,Y,k0,k1,l6,lz,q⟩:=h;cases w;obtain⟨U,J,rfl,j,m⟩:∃U J,A=[U,J]/\RelV (.int k) U/\RelV y J:=by
  cases p with
  |cons a b=>cases b with
   |cons b c=>cases c;exact⟨_,_,rfl,a,b⟩
 obtain⟨t,rfl⟩:=j;obtain⟨z,d,n,r,i,e⟩:=I.lstM Y;have g:Builtin.List.listFitsIndex k=true:=by unfold Builtin.List.listFitsIndex;rw[zzY,zyr,zyr];lia
 refine zxV F.slot_list_insert ⟨_,e,rfl⟩ F.entry_list_insert (F.args_list_insert_3 _ _ _) (PySem.AutoSeq1.list_insert_list_int_val_1 l d.toArray n k t J (by simp[g]) (by rw[zzA,←i];exact z)) ⟨e,?_⟩;refine⟨.non,_,I.lset Y e ?_ ((r.take _).append (.cons m (r.drop _))) ?_,rfl,q⟩
 ·show (d.toArray.extract 0 (if k<0 then(k+(d.toArray.size:Int)).toNat else min k.toNat d.toArray.size)).push J++d.toArray.extract (if k<0 then(k+(d.toArray.size:Int)).toNat else min k.toNat d.toArray.size)=_;rw[zzg (by lia),zzA,Nat.min_eq_left (by lia)];apply Array.toList_inj.mp;simp;rw[zyN];rw[zxC];exact zzn _
 ·rw[zzm,zzI,zyK,zxC];lia
section
variable{P:bP}{w:World}{K:zvi}{mg:Str->bo av}{base:bz}{N:ai Str}{qual:Str}{scope:Scope}{f:bb}{cd:av}{cl:ai (Str×bb)}{A:Around}{outer:ai Env}{s:bd}{H:Hp}{E:XK}{vs:ai V}
theorem rH{tk:Nat}{m:Str->bo av}{x:Str}{v:V}(hd:A.handled=none)(J:Env0 P w K mg base A outer s H)(n:scope.kind=.function)(C:Cells scope cl N vs H s.heap)(L:scope.names.lookup x=some .local)(q:m x=some u)(a:RelV v u)(G:h1.Ns s.heap.objs.size m)(g:∀b o,s.heap.get? b=some o->h1.get? b=some o) :
  Inv (cxL P w K mg base (x::N) qual scope f cd cl A outer s H E) [] (some v::vs.map some) H {s with heap:=h1,toks:=tk}:=by
 have U:∀b:bb,b∉(cxL P w K mg base (x::N) qual scope f cd cl A outer s H E).ex:=λb z=>absurd (show b∈([]:ai bb) from z) (by simp);refine⟨⟨J.mod,n,rfl,rfl,zzn _,C.inj,C.has,λy c z _=>absurd (show false=true from z) (by simp),λ_=>hd,Around.frames_deeper J.frames,.inr ⟨rfl,rfl⟩,λb z=>absurd z (U b),J.bs,J.bsz,λb _ _=>U b,λb z=>absurd z (U b),J.funs,J.frf⟩,
  rfl,J.bare,Un.kept g,⟨_,G,λi y Y h1 d h3=>?_⟩,λy c h=>?_,J.hok.fresh (zzn _),C.free,λp I=>absurd (show p∈([]:ai (bb×Obj)) from I) (by simp),J.hok.kept g,?_⟩
 ·cases i with
  |zero =>
   have h1:(x::N)[0]?=some y:=h1;have j:x=y:=by simpa using h1
   have l:v=Y:=by simpa using d
   subst j l;exact⟨u,a,.inl ⟨L,q⟩⟩
  |succ i =>
   have h1:(x::N)[i+1]?=some y:=h1;have h1:N[i]?=some y:=by simpa using h1
   have d:(vs.map some)[i]?=some (some Y):=by simpa using d
   rw[zzl]at d;cases e:vs[i]? with
   |none=>rw[e]at d;cases d
   |some Y =>
    rw[e]at d;cases d;obtain⟨u,c,r,M,Q,T⟩:=C.val i y _ h1 e;exact⟨u,r,.inr ⟨.inr M,c,Q,iM g T⟩⟩
 ·obtain⟨v,z⟩:=C.cell y c h;exact⟨v,iM g z⟩
 ·show (some v::vs.map some).length=(x::N).length;rw[zzI,zza,zzI,C.len]
structure LamSc1(x:Str)(params:Arguments)(scope:Scope):Prop where
 kind:scope.kind=.function
 co:scope.isCoroutine=false
 gen:scope.isGenerator=false
 noc:∀x∈scope.names,x.2 ≠ .cell
 loc:scope.names.lookup x=some .local
 par:∀name qual body cl pm cdv ct u,bindArgs (PySem.W.kla_fn name qual params body scope cl pm cdv ct) ⟨[u],[]⟩=pure [(x,u)]
theorem Bj{x:Str}{v:V}{d:Arguments}{body:bN}{name:Str}{Q:VK}{T:TE}(S:LamSc1 x d scope)(l:Room (k+1) A)(i:Env0 P w K mg base A outer s H)(L:s.heap.get? f=some (PySem.W.kla_obj name qual d body scope cl pm a cv))(p:s.heap.CodeRec (.ref a) qual)(C:Cells scope cl N vs H s.heap)(c:RelV v u)(G:PE (cxL P w K mg base (x::N) qual scope f (.ref a) cl A outer s H E) body T)(M:T (some v::vs.map some) H Q) :
  codeAny (model P w) A (.call (.ref f) ⟨[u],[]⟩) (CR (CXE P w) outer P w H s Q E) s:=by
 have z:s.heap.NoLimit:=i.mod.nolimit.keeps λb o e=>(i.bs b o e).1;refine PySem.W.kla_callFunE l.depth L rfl S.co S.gen rfl p ?_;rw[S.par];refine zzq (wpAny_newFunctionEnv S.noc (λy m=>by simp at m;subst m;exact S.loc) (λg r Y=>⟨z.fresh _ Y,?_⟩) S.kind);have U:∀b o,s.heap.get? b=some o->g.get? b=some o:=λb o e=>Y.extBut b o (zzC (zzv e)) (zzj _ e);show codeAny _ _ (.expr body (PySem.W.envX qual scope s.heap.objs.size f (.ref a) cl)) _ _;refine PySem.W.kla_codeExpr ?_;have I:Inv (cxL P w K mg base (x::N) qual scope f (.ref a) cl A outer s H E) [] (some v::vs.map some) H {s with heap:=g,toks:=s.toks+1}:=rH l.hd i S.kind C S.loc (by simp) c r U;refine zxq (G [] _ _ H Q I M) (λu s' j=>?_) λe s' j=>j;obtain⟨v,n,J,rv,q⟩:=j;exact⟨v,n,J.os,J.bare,J.base,J.hok,rv,q⟩
end
end L2
namespace L2
open PySem PySem.Spec PyProof.Rows PySem.W
variable{H H':Hp}{h' h1:bz}
variable{s:bd}{kz:ai Int}{X:Cx}
section
variable{prog:bP}{w:World}{A:Around}{E:av->bd->Prop}{a kS:bb}{keys:Array av}{vs:ai av}{e e1:Nat}{P:PySem.Fin->bd->Prop}
set_option maxHeartbeats 4000000 in
theorem uk{st:SortSt}{b:Bool}(x:s.heap.get? kS=some (seqObj "list" keys e))(na:s.heap.get? a=some (seqObj "list" #[] e1))(q:kS≠a)
  (k:IntsAre keys.toList kz) (hlen:kz.length=vs.length) (h64:vs.length<64) (l:(arrOf st).Perm (keys.zip vs.toArray)) (v:SortedTo (arrOf st) (arrOf st).size) (p:failedOf st=none)
  (h:∀h' tk g c,(∀d o,d≠kS->d≠a->s.heap.get? d=some o->h'.get? d=some o)->h'.get? a=some (seqObj "list" g c)->KskOut b kz vs g.toList->P (.done (.ret .none)) {s with heap:=h',toks:=tk}) :
  wpAny (model prog w) A (ksk_tail a b e1 (.ref kS) st) P E s:=by
 have j:keys.size=vs.length:=by have h1:=k.length;rw[zyx]at h1;lia
 have J:(arrOf st).size=vs.length:=by rw[l.size_eq,Array.size_zip,j,zzA,Nat.min_self]
 have Y:(if b then((arrOf st).map (·.2)).reverse else(arrOf st).map (·.2)).size=vs.length:=by
  cases b with
  |false=>simp only[zxc,zxB,Array.size_map];exact J|true=>simp only[zwC,Array.size_reverse,Array.size_map];exact J
 have m:=zyc s.heap kS (Obj.mapSeq λ_=>(#[]:Array av));have U:(s.heap.update kS (Obj.mapSeq λ_=>(#[]:Array av))).get? a=some (seqObj "list" #[] e1):=(m.2 a q.symm).trans na;have y:=zyc (s.heap.update kS (Obj.mapSeq λ_=>(#[]:Array av))) a (Obj.mapSeq λ_=>if b then((arrOf st).map (·.2)).reverse else(arrOf st).map (·.2));obtain⟨i,n⟩:∃i,((s.heap.update kS (Obj.mapSeq λ_=>(#[]:Array av))).update a (Obj.mapSeq λ_=>if b then((arrOf st).map (·.2)).reverse else(arrOf st).map (·.2))).get? a=some (seqObj "list" (if b then((arrOf st).map (·.2)).reverse else(arrOf st).map (·.2)) i) :=
  ⟨_,get?_update_seq U λ_=>if b then((arrOf st).map (·.2)).reverse else(arrOf st).map (·.2)⟩
 unfold ksk_tail
 try dsimp only
 refine zzb (zwb x rfl ?_ (by rw[j,zyt];lia) (zzT _));refine zzb (wpAny_letGo ?_);refine zzb (seqEpoch_at U rfl ?_);refine zzb (zwb U rfl ?_ (zzT _) (zzo (Nat.le_of_eq Y) (by rw[zyt];lia)));rw[p];simp only[bne_self_eq_false,zxc,zxB];exact zzq (h _ _ _ i (λd o r u e=>(y.2 d u).trans ((m.2 d r).trans e)) n (ksk_out k l v))
set_option maxHeartbeats 4000000 in
theorem EM(q:s.heap.get? kS=some (seqObj "list" keys e))(na:s.heap.get? a=some (seqObj "list" #[] e1))(m:kS≠a)
  (g:IntsAre keys.toList kz) (U:kz.length=vs.length) (Y:vs.length<64)
  (h:∀h' tk k c,(∀b o,b≠kS->b≠a->s.heap.get? b=some o->h'.get? b=some o)->h'.get? a=some (seqObj "list" k c)->KskOut false kz vs k.toList->P (.done (.ret .none)) {s with heap:=h',toks:=tk}) :
  wpAny (model prog w) A (ksk_end a false vs.toArray e1 (.ref kS) keys) P E s:=by
 have n:keys.size=vs.length:=by have h1:=g.length;rw[zyx]at h1;lia
 have l:(keys.zip vs.toArray).size=vs.length:=by rw[Array.size_zip,n,zzA,Nat.min_self]
 unfold ksk_end
 try dsimp only
 simp only[zxc,zxB];by_cases d:vs.toArray.size<2
 ·rw[zzi d,zzi d];refine zzb (zzq ?_);rw[StateT.run_pure];refine zzb (zzq ?_)
  try dsimp only
  refine uk q na m g U Y (Array.Perm.refl _) ?_ rfl h;intro i j hij v;have r:j<(keys.zip vs.toArray).size:=v;rw[l]at r;rw[zzA]at d;have:i=j:=by lia
  subst this;exact zyu _
 ·rw[zzg d,zzg d];rw[zzA]at d;rw[ksk_kind g (by rw[n];lia)];refine zzb (zzq ?_);refine zzb (zxq (wpS_sortRuns
   (Q:=λ_ J=>(arrOf J).Perm (keys.zip vs.toArray)/\failedOf J=none/\SortedTo (arrOf J) (keys.zip vs.toArray).size)
   (ksk_intKeys g) ⟨Array.Perm.refl _,rfl,rfl,rfl⟩ (by rw[l];lia) (by rw[l];exact Y) λJ a1 a2 a3=>⟨a1,a2,a3⟩) ?_ λ_ _ e=>e)
  rintro⟨⟨⟩,J⟩ s' ⟨rfl,p,u,x⟩
  try dsimp only
  exact uk q na m g U Y p (by rw[p.size_eq];exact x) u h
set_option maxHeartbeats 4000000 in
theorem Bl{f:av}(J:bd->Prop)(y:kS≠a)(L:kz.length=vs.length)(M:vs.length<64)
  (Y:s.heap.get? kS=some (seqObj "list" #[] 0)) (na:s.heap.get? a=some (seqObj "list" #[] e1)) (j0:J s)
  (ju:∀d g,J d->Heap.SameBut kS d.heap g->J {d with heap:=g})
  (turn:∀(i:Nat) (v:av) (k:Int),vs[i]?=some v->kz[i]?=some k->∀d U e,J d->d.heap.get? kS=some (seqObj "list" U e)->d.heap.get? a=some (seqObj "list" #[] e1) ->
   wpAny (model prog w) A (call f [v]) (λu r=>(∃t,u=Value.int k t)/\J r/\r.heap.get? kS=some (seqObj "list" U e)/\r.heap.get? a=some (seqObj "list" #[] e1)) (λ_ _=>False) d)
  (h:∀d h' tk l c,J d->(∀b o,b≠kS->b≠a->d.heap.get? b=some o->h'.get? b=some o)->h'.get? a=some (seqObj "list" l c)->KskOut false kz vs l.toList->P (.done (.ret .none)) {d with heap:=h',toks:=tk}) :
  wpAny (model prog w) A (ksk_rest a f false vs.toArray e1 (.ref kS)) P E s:=by
 unfold ksk_rest;refine zzb (zxW ?_)
 first
  |rw[List.forIn_toArray]
  |(rw[←Array.forIn_toList];simp only[zyP])
  |rw[←Array.forIn_toList]
 refine zzb (ksk_fold (λi m=>J m/\∃U e,m.heap.get? kS=some (seqObj "list" U e)/\m.heap.get? a=some (seqObj "list" #[] e1)/\IntsAre U.toList (kz.take i)) vs 0 s
  ⟨j0,#[],0,Y,na,by simpa using IntsAre.nil⟩ ?step ?done)
 case step =>
  rintro j x m I ⟨q,U,e,Y,na,n⟩;simp only[zwj]at n ⊢;have hj:j<vs.length:=(zzt.mp I).1;obtain⟨k,z⟩:∃k,kz[j]?=some k:=⟨_,zzp (by lia)⟩;have hz:U.size<=vs.length:=by have h1:=n.length;rw[zyx,zyK]at h1;lia
  refine zzb (zvh (zxq (turn j x k I z m U e q Y na) (λv G he=>?_) λ_ _ hF=>hF.elim));obtain⟨⟨t2,rfl⟩,j2,C,T⟩:=he
  try dsimp only
  have d:=zyc G.heap kS (Obj.mapSeq (·.push (.int k t2)));obtain⟨p,N⟩:∃p,(G.heap.update kS (Obj.mapSeq (·.push (.int k t2)))).get? kS=some (seqObj "list" (U.push (.int k t2)) p):=⟨_,get?_update_seq C (·.push (.int k t2))⟩;have ek:kz.take (j+1)=kz.take j++[k]:=by rw[List.take_add_one,z];simp
  have ea:(U.push (Value.int k t2)).toList=U.toList++[Value.int k t2]:=by simp
  refine zzb (zwb C rfl ?_ (by rw[zyt];lia) (zzo (Nat.le_of_eq (Array.size_push ..)) (by rw[zyt];lia)));refine zzq ⟨rfl,ju _ _ j2 d,U.push (.int k t2),p,N,(d.2 a y.symm).trans T,by rw[ea,ek];exact ksk_snoc n⟩
 case done =>
  rintro m ⟨q,U,e,Y,na,n⟩;have Q:IntsAre U.toList kz:=by have e3:kz.take (0+vs.length)=kz:=zyN (by lia);rw[e3]at n;exact n
  try dsimp only
  refine zzb (listItems_at Y rfl ?_);exact EM Y na y Q L M λh3 H l c k1 k2 k3=>h m h3 H l c q k1 k2 k3
end
theorem perm_lift{α b:Type}{R:α->b->Prop}{l l':ai b}(p:l'.Perm l):∀{m:ai α},Paired R m l->∃J,J.Perm m/\Paired R J l':=by
 induction p with
 |nil=>intro m h;cases h;exact⟨[],.nil,.nil⟩
 |cons x _ e =>
  intro m h;cases h with
  |cons h1 a =>
   obtain⟨J,p,q⟩:=e a;exact⟨_::J,p.cons _,.cons h1 q⟩
 |swap x y l =>
  intro m h;cases h with
  |cons h1 a =>
   cases a with
   |cons c d=>exact⟨_,.swap _ _ _,.cons c (.cons h1 d)⟩
 |trans _ _ U Y =>
  intro m h;obtain⟨m1,i,k⟩:=Y h;obtain⟨g,j,n⟩:=U k;exact⟨g,j.trans i,n⟩
theorem um:∀(kz:ai Int) {xs:ai V} {a:ai av},Vals xs a->Paired (λ(p:Int×V) (q:Int×av)=>p.1=q.1/\RelV p.2 q.2) (kz.zip xs) (kz.zip a)
 |[],_,_,_=>.nil|_::_,_,_,.nil=>.nil|k::kz,_,_,.cons h1 b=>.cons ⟨rfl,h1⟩ (um kz b)
theorem zip_vals{ps:ai (Int×V)}{a:ai (Int×av)}(h:Paired (λ(p:Int×V) (q:Int×av)=>p.1=q.1/\RelV p.2 q.2) ps a):Vals (ps.map (·.2)) (a.map (·.2)):=by
 induction h with
 |nil=>exact .nil|cons h1 _ J=>exact .cons h1.2 J
theorem Bn{ps:ai (Int×V)}{a:ai (Int×av)}(h:Paired (λ(p:Int×V) (q:Int×av)=>p.1=q.1/\RelV p.2 q.2) ps a):(∀c:Int,(∀q∈a,c<=q.1)->∀p∈ps,c<=p.1)/\(a.Pairwise (λp q=>p.1<=q.1)->ps.Pairwise λp q=>p.1<=q.1):=by
 induction h with
 |nil=>exact⟨λ_ _ p J=>by simp at J,λ_=>.nil⟩
 |@cons p q ps a h1 _ b =>
  refine⟨λc e d J=>?_,λY=>?_⟩
  ·rcases zzr.mp J with rfl|J
   ·rw[h1.1];exact e q zzd
   ·exact b.1 c (λi g=>e i (zzf _ g)) d J
  ·rw[zyJ]at Y ⊢;refine⟨λd U=>?_,b.2 Y.2⟩;rw[h1.1];exact b.1 q.1 Y.1 d U
theorem Bo{P:bP}{w:World}{h:bz}{a:bb}(c:HOk P w H h)(J:Heap.SameBut a h h')(g:H a=none):HOk P w H h':=λb o e=>(c b o e).stay (λd u hd q=>by
 have:d≠a:=by
  rintro rfl;rcases hd with rfl|hd
  ·rw[g]at e;cases e
  ·rw[g]at hd;cases hd
 rw[J.2 d this];exact q) (λ_ q=>q) λ_ _ q=>q
theorem EQ{fs c:ai bb}{h:bz}{a:bb}(u:Un fs c H H' h h1)(d:h.get? a=none)(J:Heap.SameBut a h1 h'):Un fs c H H' h h':=by
 have k:∀b o,h.get? b=some o->b≠a:=λb o e=>by rintro rfl;rw[d]at e;cases e
 exact⟨λb o e n f x=>(J.2 b (k b o e)).trans (u.keep b o e n f x),λb o e n f x=>let ⟨sl,z⟩:=u.slot b o e n f x;⟨sl,(J.2 b (k b o e)).trans z⟩,u.free,λb o e x=>let ⟨o',z⟩:=u.there b o e x;⟨o',(J.2 b (k b o e)).trans z⟩,u.tups,u.frzs,u.tbls⟩
section
variable{pins:ai (bb×Obj)}{σ:St}{H:Hp}{l fa:bb}{xs:ai V}{R:Hp->Prop}{Q:VK}
set_option maxHeartbeats 4000000 in
theorem yr(I:Inv X pins σ H s)(hl:H l=some (.lst xs))(hlen:kz.length=xs.length)(h64:xs.length<64)(r0:R H)
  (turn:∀(i:Nat) (v:V) (k:Int),xs[i]?=some v->kz[i]?=some k->∀m j u,Inv X pins σ j m->R j->(∀b o u,H b=some (.frz o u)->j b=some (.frz o u))->RelV v u->codeAny (model X.prog X.w) X.A.in1.in1 (.call (.ref fa) ⟨[u],[]⟩) (CR (CXE X.prog X.w) X.stack X.prog X.w j m (λv H'=>v=.int k/\R H') (λ_ _ _=>False)) m)
  (q:∀D H' (ps:ai (Int×V)),H D=none->H' D=none->R H'->ps.Perm (kz.zip xs)->ps.Pairwise (λp q=>p.1<=q.1)->Q (.ref D) (upd H' D (.lst (ps.map (·.2))))) :
  wpAny (model X.prog X.w) X.A (call (.builtin "sorted") [.ref l] [(Str.ofString "key",.ref fa)]) (EP X pins σ Q) X.xe s:=by
 obtain⟨z,a,n,rv,el⟩:=I.hok l _ hl;have b7:a.length=xs.length:=(Vals.length rv).symm;have b6:s.heap.IsList l a.toArray:=⟨_,el,rfl,n,rfl⟩;have nofr:∀b:bb,s.heap.objs.size<=b->b∉frs X.stack:=λb hb hm=>by obtain⟨_,o,ho,_⟩:=I.stack.mem hm;exact absurd (zzv ho) (Nat.not_lt.mpr hb)
 refine call_function_entry_kw kind_sorted plain_sorted entry_sorted (ksk_s1 _ _) ?_;unfold Builtin.«sorted»;refine zzb (zzq ?_);refine zzb (collect_list b6 ?_ (by rw[zyt];lia));refine zzb (zwz ?_ (by rw[zyt];lia));have a5:((s.heap.push (seqObj "list" #[] 0)).update s.heap.objs.size (Obj.mapSeq (· ++ a.toArray))).objs.size=s.heap.objs.size+1:=by rw[Heap.size_update,size_push']
 have U:(((s.heap.push (seqObj "list" #[] 0)).update s.heap.objs.size (Obj.mapSeq (· ++ a.toArray))).push (seqObj "list" a.toArray 0)).get? (s.heap.objs.size+1)=some (seqObj "list" a.toArray 0):=by rw[←a5];exact zzw _ rfl
 have keep:∀b o,s.heap.get? b=some o->(((s.heap.push (seqObj "list" #[] 0)).update s.heap.objs.size (Obj.mapSeq (· ++ a.toArray))).push (seqObj "list" a.toArray 0)).get? b=some o:=λb o q=>by have T:b<s.heap.objs.size:=zzv q;rw[zwt _ _ _ (by rw[a5];exact zzC (zxl T)),Heap.get?_update_ne _ _ _ _ (zzC T),zwt _ _ _ (zzC T)];exact q
 have b3:(((s.heap.push (seqObj "list" #[] 0)).update s.heap.objs.size (Obj.mapSeq (· ++ a.toArray))).push (seqObj "list" a.toArray 0)).objs.size=s.heap.objs.size+2:=by rw[size_push',a5]
 show wpAny _ _ _ _ _ {s with heap:=((s.heap.push (seqObj "list" #[] 0)).update s.heap.objs.size (Obj.mapSeq (· ++ a.toArray))).push (seqObj "list" a.toArray 0)};rw[a5];generalize ((s.heap.push (seqObj "list" #[] 0)).update s.heap.objs.size (Obj.mapSeq (· ++ a.toArray))).push (seqObj "list" a.toArray 0)=C at U keep b3 ⊢;obtain⟨D,hD⟩:∃D:Nat,D=s.heap.objs.size+1:=⟨_,rfl⟩;rw[←hD]at U ⊢;refine zzb (zyn (wpAny_call_entry_kw slot_list_sort ⟨_,U,rfl⟩ entry_list_sort ?body (ksk_l1 _ _)))
 case body =>
  show wpAny (model X.prog X.w) X.A.in1.in1 (Builtin.«list.sort» ⟨[.ref D],[(Str.ofString "key",.ref fa)]⟩) _ _ _;rw[ksk_t1];have m:=zyc C D (Obj.mapSeq λ_=>(#[]:Array av));obtain⟨e1,a8⟩:∃e1,(C.update D (Obj.mapSeq λ_=>(#[]:Array av))).get? D=some (seqObj "list" #[] e1):=⟨_,get?_update_seq U λ_=>#[]⟩;have b4:((C.update D (Obj.mapSeq λ_=>(#[]:Array av))).push (seqObj "tuple" a.toArray 0)).objs.size=s.heap.objs.size+3:=by rw[size_push',Heap.size_update,b3]
  unfold ksk_tree;refine zzb (listItems_at U rfl ?_);refine zzb (zwb U rfl ?_ (by rw[zzA,zyt];lia) (zzT _));refine zzb (seqEpoch_at a8 rfl ?_);refine zzb (zwZ ?_ (by show a.length<=_;rw[zyt];lia));refine zzb (zwz ?_ (zzT _));refine zyn ?_;show wpAny _ _ (ksk_rest D (.ref fa) false a.toArray e1 (.ref ((C.update D (Obj.mapSeq λ_=>(#[]:Array av))).push (seqObj "tuple" a.toArray 0)).objs.size)) _ _ {s with heap:=((C.update D (Obj.mapSeq λ_=>(#[]:Array av))).push (seqObj "tuple" a.toArray 0)).push (seqObj "list" #[] 0)};have J:∀b o,s.heap.get? b=some o->(((C.update D (Obj.mapSeq λ_=>(#[]:Array av))).push (seqObj "tuple" a.toArray 0)).push (seqObj "list" #[] 0)).get? b=some o:=λb o q=>by have T:b<s.heap.objs.size:=zzv q;exact zzj _ (zzj _ ((m.2 b (by rw[hD];exact zzC (zxl T))).trans (keep b o q)))
  have b1:(((C.update D (Obj.mapSeq λ_=>(#[]:Array av))).push (seqObj "tuple" a.toArray 0)).push (seqObj "list" #[] 0)).get? D=some (seqObj "list" #[] e1):=zzj _ (zzj _ a8);have a7:(((C.update D (Obj.mapSeq λ_=>(#[]:Array av))).push (seqObj "tuple" a.toArray 0)).push (seqObj "list" #[] 0)).get? ((C.update D (Obj.mapSeq λ_=>(#[]:Array av))).push (seqObj "tuple" a.toArray 0)).objs.size=some (seqObj "list" #[] 0):=zzw _ rfl;generalize (((C.update D (Obj.mapSeq λ_=>(#[]:Array av))).push (seqObj "tuple" a.toArray 0)).push (seqObj "list" #[] 0))=h3 at J b1 a7 ⊢;generalize ((C.update D (Obj.mapSeq λ_=>(#[]:Array av))).push (seqObj "tuple" a.toArray 0)).objs.size=kS at b4 a7 ⊢;have gD:s.heap.get? D=none:=zwJ (by lia);have gK:s.heap.get? kS=none:=zwJ (by lia);refine Bl (kz:=kz) (λm=>m.os=s.os/\AllBare m.gens/\∃j,Un (frs X.stack) [] H j s.heap m.heap/\HOk X.prog X.w j m.heap/\R j/\j D=none/\j kS=none) (by rw[b4,hD];exact zxA (by lia)) (by lia) (by lia) a7 b1
   ⟨rfl,I.bare,H,Un.kept J,I.hok.kept J,r0,I.hok.fresh (by lia),I.hok.fresh (by lia)⟩ ?ju ?turn ?fin
  case ju =>
   rintro m g ⟨N,j2,j,u,E,r,Y,G⟩ sb;exact⟨N,j2,j,EQ u gK sb,Bo E sb G,r,Y,G⟩
  case turn =>
   rintro i v k hv hk m kA e ⟨N,j2,j,u,E,r,Y,G⟩ nk na;have hi:i<xs.length:=by rw[←b7];exact(zzt.mp hv).1
   obtain⟨v',e2⟩:∃v',xs[i]?=some v':=⟨_,zzp hi⟩;have b9:RelV v' v:=by obtain⟨y,e3,r3⟩:=rv.get e2;rw[hv]at e3;cases e3;exact r3
   have I1:Inv X pins σ j m:=I.call' N u E j2 λb z=>absurd z (by simp);refine wpAny_call (zwh (turn i v' k e2 hk m j v I1 r u.frzs b9) λres s2 L=>?_);cases res with
   |error e =>
    have L:CXE X.prog X.w X.stack j m (λ_ _ _=>False) e s2:=L;obtain⟨_,_,_,_,_,_,_,_,_,_,_,_,_,_,z⟩:=L;exact z.elim
   |ok fl =>
    cases fl with
    |ret u2 =>
     obtain⟨v2,H2,b8,a6,a4,b0,b2,ev,r2⟩:=L;subst ev;refine⟨b2,⟨b8.trans N,a6,H2,u.trans a4,b0,r2,?_,?_⟩,?_,?_⟩
     ·exact a4.free D _ na Y (by simp)
     ·exact a4.free kS _ nk G (by simp)
     ·exact a4.keep kS _ nk G (nofr kS (by lia)) (by simp)
     ·exact a4.keep D _ na Y (nofr D (by lia)) (by simp)
    |next=>exact False.elim L
    |brk=>exact False.elim L|cont=>exact False.elim L
  case fin =>
   rintro m h' tk out c ⟨N,j2,j,u,E,r,Y,G⟩ kp b5 ⟨ps,p1,p2,p3⟩;obtain⟨qs,q1,q2⟩:=perm_lift p1 (um kz rv);have hv:=zip_vals q2;have hp:=(Bn q2).2 (by simpa using p3);have ol:(qs.map (·.2)).length<=sizeLine:=by rw[zza,q1.length_eq,List.length_zip,zyt];lia
   have a9:HOk X.prog X.w (upd j D (.lst (qs.map (·.2)))) h':=λb o e=>by
    by_cases hb:b=D
    ·subst hb;rw[ae]at e;cases e;refine⟨ol,ps.map (·.2),c,hv,?_⟩;rw[b5,←p2]
    ·rw[af hb]at e;refine(E b o e).stay (λd x hd q=>kp d x ?_ ?_ q) (λd q=>?_) λd ys q=>?_
     ·rintro rfl;rcases hd with rfl|hd
      ·rw[G]at e;cases e
      ·rw[G]at hd;cases hd
     ·rintro rfl;rcases hd with rfl|hd
      ·exact hb rfl
      ·rw[Y]at hd;cases hd
     ·rw[af (by rintro rfl;rw[Y]at q;cases q)];exact q
     ·rw[af (by rintro rfl;rw[Y]at q;cases q)];exact q
   have M:∀b o,s.heap.get? b=some o->b≠D/\b≠kS:=λb o e=>⟨(by rintro rfl;rw[gD]at e;cases e),(by rintro rfl;rw[gK]at e;cases e)⟩;have c2:Un (frs X.stack) [] H (upd j D (.lst (qs.map (·.2)))) s.heap h':=⟨λb o e n f x=>kp b o (M b o e).2 (M b o e).1 (u.keep b o e n f x),λb o e n f x=>let ⟨sl,z⟩:=u.slot b o e n f x;⟨sl,kp b _ (M b o e).2 (M b o e).1 z⟩,
    λb o e n x=>by rw[af (M b o e).1];exact u.free b o e n x,λb o e x=>let ⟨o',z⟩:=u.there b o e x;⟨o',kp b _ (M b o e).2 (M b o e).1 z⟩,
    λb ys e=>by have z:=u.tups b ys e;rw[af (by rintro rfl;rw[Y]at z;cases z)];exact z,
    λb o y e=>by have z:=u.frzs b o y e;rw[af (by rintro rfl;rw[Y]at z;cases z)];exact z,
    λb ys e=>by obtain⟨more,z⟩:=u.tbls b ys e;exact⟨more,by rw[af (by rintro rfl;rw[Y]at z;cases z)];exact z⟩⟩
   have I2:Inv X pins σ (upd j D (.lst (qs.map (·.2)))) {m with heap:=h',toks:=tk}:=I.call' N c2 a9 j2 λb z=>absurd z (by simp);exact⟨_,rfl,zzq ⟨_,rfl,.ref D,_,I2,rfl,q D j qs (I.hok.fresh (by lia)) Y r q1 hp⟩⟩
end
theorem vV(G:X.calm=true):cZ X (.type "list") (λxs H Q=>∃a b,xs=[.ref a]/\Rd H a (.dT b)/\∀l bs,H l=none->Paired (pF H) (b.map (·.1)) bs->Q (.ref l) (upd H l (.lst bs))):=by
 intro pins s σ H xs us Q I r h;obtain⟨a,b,rfl,e,q⟩:=h;obtain⟨u,rfl,w⟩:=gU r;cases w;obtain⟨z,lo,xs,rel,o,g,A,g1,g2,g3,j,g5,g6⟩:=qU I.hok e;have p:g.size=xs.length:=size_of_entries j;have hxl:b.length=xs.length:=zwa rel;refine kdl_call (xY lo g A) (I.ok.hd G) ⟨o,g1,g2,g3⟩ (by lia) λh' tk J c L C d=>?_;have U:J.toList=xs.map λx=>Value.ref x.2.1:=by
  apply zxk;intro i;rw[zyy];cases Y:xs[i]? with
  |none =>
   have h1:xs.length<=i:=by simpa using Y
   rw[zzl,Y,zxO (by rw[d.1];lia)];rfl
  |some x =>
   have h1:i<xs.length:=(zzt.mp Y).1;obtain⟨v,m⟩:∃v,J[i]?=some v:=⟨J[i]'(by rw[d.1];lia),by simp[d.1,p,h1]⟩;have k:(g[i]?).map (·.key)=some v:=d.2 i v m;rw[entry_at j i,Y]at k;rw[m,zzl,Y];simpa[entryOfKey]using k.symm
 obtain⟨bs,n,M⟩:=rD (xZ rel);have E:bs.length<=sizeLine:=by rw[←cX n,zza];exact z
 have y:J=(xs.map λx=>Value.ref x.2.1).toArray:=by apply Array.toList_inj.mp;rw[U]
 refine⟨.ref s.heap.objs.size,upd H s.heap.objs.size (.lst bs),I.laid L (zzn _) ⟨E,_,c,M,?_⟩,rfl,q _ bs (I.hok.fresh (zzn _)) n⟩;rw[C,y]
end L2
namespace TS
open PySem PyProof.Rows
section
variable{r:Keyed->Nat}
abbrev Up(r:Keyed->Nat)(l:ai Keyed):Prop:=l.Pairwise λx y=>r x<=r y
abbrev ap(st:SortSt)(arr:Array Keyed)(p:Array (Nat×Nat×Nat))(g:Nat):SortSt:=SortSt.mk' (kindOf st) arr p g (failedOf st)
def rk(r:Keyed->Nat)(arr:Array Keyed)(i:Nat):Nat:=(arr[i]?.map r).getD 0
end
end TS
namespace SS
open PySem PySem.SetTable PyProof.Rows L2
set_option maxRecDepth 100000
end SS
namespace SS
open PySem PySem.SetTable PyProof.Rows L2 PySem.W
set_option maxRecDepth 100000
end SS
namespace PySem
theorem gr:entryFor table "dict.update.loop" = some Builtin.«dict.update.loop»:=entryFor_of_tree (by kernel_rfl)
theorem cO:plainId "dict.update.loop" = true:=by decide +kernel
end PySem
namespace L2
open PySem PySem.Spec PyProof.Rows
variable{h':bz}
abbrev jO:=ai Key×bb×av×bb
abbrev entQ(c:jO):ai Key×bb×av:=(c.1,c.2.1,c.2.2.1)
def IsC(prog:bP)(w:World)(h:bz)(c:jO):Prop:=(tupleKind (aF prog w)).is h c.1 c.2.1/\h.IsTuple c.2.2.2 #[.ref c.2.1,c.2.2.1]
section
variable{prog:bP}{w:World}{A:Around}{R:Result->bd->Prop}{I:bb}{fp wr:ai bb}{G:Array GenState->Array GenState->Prop}{n:Nat}{P:Nat->av->Prop}{St:Nat->bd->Prop}
theorem IsC.moved{h:bz}{c:jO}(x:IsC prog w h c)(b:∀o,h.get? c.2.1=some o->h'.get? c.2.1=some o)(J:∀o,h.get? c.2.2.2=some o->h'.get? c.2.2.2=some o):IsC prog w h' c:=by obtain⟨⟨o',items,m,a,r⟩,U⟩:=x;exact⟨⟨o',items,m,b _ a,r⟩,U.at J⟩
theorem ij{h:bz}{S:bb}{cs:ai jO}(x:h.DictOfH (tupleKind (aF prog w)) S (cs.map entQ))(k:∀o,h.get? S=some o->h'.get? S=some o)(p:∀c∈cs,∀o,h.get? c.2.1=some o->h'.get? c.2.1=some o):h'.DictOfH (tupleKind (aF prog w)) S (cs.map entQ):=by obtain⟨o,d,b,e,g,i,U,Y,j⟩:=x;refine⟨o,d,b,k _ e,g,i,U,λx J=>?_,j⟩;obtain⟨o',items,m,a,r⟩:=Y x J;obtain⟨c,l,rfl⟩:=zzc.mp J;exact⟨o',items,m,p c l _ a,r⟩
theorem yt(W:WalksS prog w A.in1 I fp wr G n P St)(S:bb)(M:S∉fp)(hu:A.units+1<cLine){cs:ai jO}(hn:cs.length=n)(hP:∀i v,P i v->∃c,cs[i]?=some c/\v=.ref c.2.2.2)(U:∀c∈cs,c.2.1∉S::wr/\c.2.2.2∉S::wr)(nd:(cs.map (·.1)).Nodup)(h60:n<=1000) :
  ∀(k i:Nat) (s:bd),n - i=k->i<=n->St i s->(∀c∈cs,IsC prog w s.heap c)->s.heap.DictOfH (tupleKind (aF prog w)) S ((cs.take i).map entQ) ->
   (∀d,Moved (S::wr) G s d->d.heap.DictOfH (tupleKind (aF prog w)) S (cs.map entQ)->R (.ok (.ret .none)) d) ->
   codeAny (model prog w) A (.builtin "dict.update.loop" ⟨[.ref S,.ref I,.int i 0,.none],[]⟩) R s:=by
 have N:S∉wr:=λh=>M (W.sub _ h);have J:∀b∈wr,b∈S::wr:=λb l=>zzf _ l;have u:∀c∈cs,c.2.1∉wr/\c.2.2.2∉wr:=λc a=>⟨λz=>(U c a).1 (J _ z),λz=>(U c a).2 (J _ z)⟩;have w2:∀c∈cs,c.2.1≠S/\c.2.2.2≠S:=λc a=>⟨λz=>(U c a).1 (by rw[z];exact zzd),λz=>(U c a).2 (by rw[z];exact zzd)⟩;intro k
 induction k with
 |zero =>
  intro i s hk hi C hK q E;have b7:i=n:=by lia
  subst b7;refine codeAny_builtin gr ?_;rw[Around.under_plainId cO _];show wpAny _ A.in1 (pyNext (.ref I) >>= _) _ _ s;refine zzb (W.done s _ _ C λd g=>?_);show wpAny _ A.in1 (Builtin.Dict.addKeywords S [] >>= λ_=>ret Value.none) _ _ d;refine zzb (zzq (zzq (E d (g.mono J) ?_)));rw[zyN (by lia)]at q;exact ij q (λo e=>g.heap S o N e) λc a o e=>g.heap _ o (u c a).1 e
 |succ k ih =>
  intro i s hk hi C hK q E;have Y:i<n:=by lia
  refine codeAny_builtin gr ?_;rw[Around.under_plainId cO _];show wpAny _ A.in1 (pyNext (.ref I) >>= _) _ _ s;refine zzb (W.item i s _ _ Y C λv d b3 b1 g=>?_);obtain⟨c,a,rfl⟩:=hP i v b3;have cm:=zzD a;have L:∀c∈cs,IsC prog w d.heap c:=λc a=>(hK c a).moved (λo e=>g.heap _ o (u c a).1 e) λo e=>g.heap _ o (u c a).2 e;have b4:d.heap.DictOfH (tupleKind (aF prog w)) S ((cs.take i).map entQ):=ij q (λo e=>g.heap S o N e) λc a o e=>g.heap _ o (u c (List.mem_of_mem_take a)).1 e;obtain⟨kc,op,T,b5,np,b6⟩:=L c cm;have hT:d.TypeIs (.ref c.2.2.2) "tuple":=⟨op,T,b5⟩;have b8:∀(j:Nat) (p:bb×av),((cs.take i).map entQ)[j]? ≠ some (c.1,p):=λj p z=>by
   rw[zzl]at z;obtain⟨c',m,e2⟩:=zym.mp z;rw[List.getElem?_take]at m;split at m
   case isFalse=>cases m
   rename_i hj;have e3:c'.1=c.1:=congrArg (λx:ai Key×bb×Value=>x.1) e2;have hj':j<(cs.map (·.1)).length:=by rw[zza,hn];lia
   have hi':i<(cs.map (·.1)).length:=by rw[zza,hn];exact Y
   have g1:(cs.map (·.1))[j]=(cs.map (·.1))[i]:=by rw[List.getElem_map,List.getElem_map,(zzt.mp m).2,(zzt.mp a).2,e3]
   have:=(zxz nd).mp g1;lia
  have b2:storedH ((cs.take i).map entQ) c.1 c.2.1 c.2.2.1=(cs.take (i+1)).map entQ:=by rw[storedH_new (atKey_none_of_get b8),List.take_add_one,a];simp
  refine zzb (zyn ?_);refine zzb (wpAny_tryCatch ?_);unfold Builtin.Dict.pairItems;refine zzb (zwL hT ?_);rw[zzi (by decide)];refine zzb (zxU T b6 ?_);refine zzq ?_;show wpAny _ _ (holding [Value.ref c.2.1,c.2.2.1] (dictSet S (Value.ref c.2.1) c.2.2.1)) _ _ _;refine zyn ?_;refine wpAny_dictSet_heap (zxJ hu) kc b4 (λh' Q r=>?_) (by rw[zza,zyK];exact zzo (show min i cs.length<=1000 by lia) (by decide));rw[b2]at Q;refine zzq ⟨plainId_quiet cO _,ih (i+1) _ (by lia) Y (W.frame _ d _ _ b1 (zxY _ _) λb l o e=>?_) (λy H=>(L y H).moved (λo e=>?_) λo e=>?_) Q λb9 a9 a5=>?_⟩
  ·rw[r.2 b (λh:b=S=>M (by rw[←h];exact l))];exact e
  ·rw[r.2 _ (w2 y H).1];exact e
  ·rw[r.2 _ (w2 y H).2];exact e
  ·refine E b9 (Moved.trans W.gtrans ((g.mono J).then_heap (zxY _ _) λb o l e=>?_) a9) a5;rw[r.2 b (λh:b=S=>l (by rw[h];exact zzd))];exact e
end
abbrev vW:=ai Key×bb×V×bb
abbrev relQ(q:vW)(c:jO):Prop:=q.1=c.1/\q.2.1=c.2.1/\RelV q.2.2.1 c.2.2.1/\q.2.2.2=c.2.2.2
section
theorem uo{P:bP}{w:World}{H:Hp}{h:bz}(ok:HOk P w H h):∀(b:ai vW),(∀q∈b,H q.2.2.2=some (.tup [.ref q.2.1,q.2.2.1])/\H q.2.1=some (.tup (q.1.map kV)))->∃cs:ai jO,Paired relQ b cs/\∀c∈cs,IsC P w h c
 |[],_=>⟨[],.nil,λc a=>by simp at a⟩
 |q::b,Y=>by
  obtain⟨cs,p,r⟩:=uo ok b λq J=>Y q (zzf _ J);obtain⟨d,e⟩:=Y q zzd;obtain⟨_,its,j,g⟩:=(show ObjOk P w H h q.2.2.2 (.tup [.ref q.2.1,q.2.2.1]) from ok _ _ d);obtain⟨u,k,rfl,i,U⟩:=j.two;cases i;refine⟨(q.1,q.2.1,k,q.2.2.2)::cs,.cons ⟨rfl,rfl,U,rfl⟩ p,λc a=>?_⟩;rcases zzr.mp a with rfl|a
  ·exact⟨lH ok e,g⟩
  ·exact r c a
theorem jP{α β c:Type}{F:α->β->Prop}{f:α->c}{g:β->c}(h:∀a b,F a b->f a=g b):∀{l:ai α} {m:ai β},Paired F l m->l.map f=m.map g
 |_,_,.nil=>rfl|_,_,.cons r t=>by rw[zzh,zzh,h _ _ r,jP h t]
variable{K:zvi}{x:Str}{st:Stmt}{f:bb}{mg:Str->bo av}{h:bz}
theorem len0{p:ai av->Prop}(h:p [])(us:ai av)(e:us.length=0):p us:=by cases us with
 |nil=>exact h|cons=>cases e
theorem lenS{p:ai av->Prop}{n:Nat}(h:∀a us,us.length=n->p (a::us))(us:ai av)(e:us.length=n+1):p us:=by cases us with
 |nil=>cases e
 |cons a r=>exact h a r (Nat.succ.inj e)
def ddk{ps:ai Str}{oc kV doc pm cdv ct:av}{od an:bo bb}{osl:Array (bo av)}(X:K.In h)(G:h.Ns mainGlobals mg)(a:PySem.W.nsIn K mainGlobals x=some (some (.ref f)))(l:K.lookup f=some ⟨oc,od,.func (PySem.W.fnOf x x (gY st) (ck st) (ah st) .none kV doc pm an cdv ct),osl⟩)(c:PySem.W.codeIn K cdv x=true)(k:PySem.W.keepIn K (.ref f)=true)
  (b:∀us:ai av,us.length=ps.length->∀(kV doc pm:av) (an:bo bb) (cdv ct:av),bindArgs (PySem.W.fnOf x x (gY st) (ck st) (ah st) .none kV doc pm an cdv ct) ⟨us,[]⟩=pure (ps.zip us):=by repeat first|exact L2.len0 λ_ _ _ _ _ _=>rfl|refine L2.lenS λ_=>?_):Dd K mg x st ps :=
 ⟨f,_,CG l c k,zxH X G a,(CG l c k).binds λa J c d e g us U=>b us U a J c d e g⟩
end
theorem iY{N P:ai Str}{sc:Scope}(a:sc.kind=.function:=by rfl)(b:sc.isCoroutine=false:=by rfl)(c:sc.isGenerator=false:=by rfl)(d:N.Nodup:=by decide +kernel)(e:N.take P.length=P:=by rfl)
  (g:∀x∈P,sc.names.lookup x=some .local∨sc.names.lookup x=some .cell:=by decide +kernel) (i:∀y∈sc.names,y.2 ≠ .free:=by decide +kernel):FnScope N P sc:=⟨a,b,c,d,e,g,i⟩
end L2
namespace L2
open PySem PySem.Spec PyProof.Rows PySem.W
section
variable{X:Cx}
theorem yu{H:Hp}:∀{d:ai (ai Key)} {bs:ai V} {g:ai av},Paired (pF H) d bs->Vals bs g->Paired (λk v=>∃b,v=Value.ref b/\H b=some (.tup (k.map kV))) d g
 |_,_,_,.nil,h=>by cases h;exact .nil
 |_,_,_,.cons h r,i=>by
  cases i with
  |cons a b =>
   obtain⟨c,rfl,e⟩:=h;cases a;exact .cons ⟨c,rfl,e⟩ (yu r b)
theorem vX:cZ X (.builtin "sorted") (λxs H Q=>∃a g J,xs=[.ref a]/\H a=some (.lst J)/\Paired (pF H) g J/\(∀k∈g,rC k)/\(2<=g.length->∀k∈g,k≠[])/\g.length<64 /\
  ∀l bs,H l=none->Paired (pF H) (srtK g) bs->Q (.ref l) (upd H l (.lst bs))):=by
 intro i s σ H xs us Q I r h;obtain⟨l,g,J,rfl,e,N,M,C,h64,q⟩:=h;obtain⟨u,rfl,E⟩:=gU r;cases E;obtain⟨z,d,n,rv,G⟩:=I.hok l _ e;have p:=yu N rv;have A:s.heap.IsList l d.toArray:=⟨_,G,rfl,n,rfl⟩;have hlv:d.length=g.length:=(cX p).symm;refine Calls.call_function_entry kind_sorted plain_sorted entry_sorted (args_sorted1 _) ?_;refine zzb (zzq ?_);refine zzb (collect_list A ?_ (by rw[zyt];lia));refine zzb (zwz ?_ (by rw[zyt];lia));have j:((s.heap.push (seqObj "list" #[] 0)).update s.heap.objs.size (Obj.mapSeq (· ++ d.toArray))).objs.size=s.heap.objs.size+1:=by rw[Heap.size_update,size_push']
 have Y:(((s.heap.push (seqObj "list" #[] 0)).update s.heap.objs.size (Obj.mapSeq (· ++ d.toArray))).push (seqObj "list" d.toArray 0)).get? (s.heap.objs.size+1)=some (seqObj "list" d.toArray 0):=by rw[←j];exact zzw _ rfl
 have keep:∀b o,s.heap.get? b=some o->(((s.heap.push (seqObj "list" #[] 0)).update s.heap.objs.size (Obj.mapSeq (· ++ d.toArray))).push (seqObj "list" d.toArray 0)).get? b=some o:=λb o q=>by have U:b<s.heap.objs.size:=zzv q;rw[zwt _ _ _ (by rw[j];exact zzC (zxl U)),Heap.get?_update_ne _ _ _ _ (zzC U),zwt _ _ _ (zzC U)];exact q
 rw[j];generalize ((s.heap.push (seqObj "list" #[] 0)).update s.heap.objs.size (Obj.mapSeq (· ++ d.toArray))).push (seqObj "list" d.toArray 0)=hB at Y keep ⊢;have y:Inv X i σ H {s with heap:=hB}:=I.kept keep;refine zzb (zyn (zyB slot_list_sort ⟨_,Y,rfl⟩ entry_list_sort ?body (args_list_sort _)))
 case body =>
  refine pE Y (eL (lN p) λk v z=>?_) C (by lia) λh4 w c kp ho L=>?_
  ·obtain⟨T,b,rfl,m⟩:=z;exact y.tupI (M k T) m
  ·obtain⟨bs,x,p2⟩:=rD (L _ p);have fr:H (s.heap.objs.size+1)=none:=I.hok.fresh (zwv _);have m:bs.length<=sizeLine:=by
    rw[←cX x,(pD _).length_eq,zyt];lia
   exact⟨_,rfl,zzq ⟨_,rfl,.ref (s.heap.objs.size+1),upd H (s.heap.objs.size+1) (.lst bs),I.laid (λb u e=>kp b u (zzC (zxl (zzv e))) (keep b u e)) (zwv _) ⟨m,w,c,p2,ho⟩,rfl,q _ bs fr x⟩⟩
end
end L2
namespace PySem
theorem nc:typeLookup (.type "list") "keys" = pure none:=by rw[typeLookup_type,builtinLookup_eq_fast];kernel_rfl
section
variable{prog:bP}{w:World}{A:Around}{E:av->bd->Prop}{s:bd}
theorem nj{a:bb}{o:Obj}{xs:Array av}{k:Nat}{Q:bo av->bd->Prop}
  (l:s.heap.get? a=some o) (j:o.cls=.type "list") (J:o.data=.seq xs k) (hd:o.dict=none) (m:A.handled=none)
  (h:∀b tk e,Heap.NewExcOf s.heap b e "AttributeError" -> Q none {s with heap:=b,toks:=tk}) :
  wpAny (model prog w) A (getAttr? (.ref a) "keys") Q E s:=by
 obtain⟨c,dct,dat,p⟩:=o;simp only at j J hd;subst j J hd;obtain⟨n,g,d,tk,os⟩:=s;have i:∀Y,(⟨n,g,d,Y,os⟩:bd).TypeIs (.ref a) "list":=λ_=>⟨_,l,rfl⟩;have f1:=sub_AttributeError;have f3:=F.slot_list_getattribute.lookup;have f4:=F.slot_list_getattribute.bind (.ref a);have f5:=am_list_getattr_none;unfold getAttr? getAttrBy? getAttrBy
 repeat (any_goals (first|assumption|exact i _|((with_reducible show wpAny _ _ (call (Value.builtin "list.__getattribute__") _ _) _ _ _);refine zxV F.slot_list_getattribute (i _) am_entry_list_getattribute (F.args_list_getattribute_2 _ _) (meets_getattribute_miss_list a xs k p "keys" _ nc (by decide)) ⟨l,m,λb Y e U=>?_⟩)|wp_step))
 obtain⟨t',u',he⟩:=U.there;show wpAny _ _ (getattributeRaised _ _ _ _ _ _ _) _ _ _;unfold getattributeRaised
 repeat (any_goals (first|assumption|wp_step))
 exact h _ _ _ U.of
end
end PySem
namespace L2
open PySem PySem.Spec PyProof.Rows
section
variable{prog:bP}{w:World}{A:Around}{E:av->bd->Prop}{s:bd}
theorem rJ{t:bb}{o:Obj}{items:Array av}{q:Nat}{cs:ai jO}{Q:av->bd->Prop}(hu:A.units+16<cLine)(C:A.handled=none)(H:s.heap.get? t=some o)(a:o.cls=.type "list")(hd:o.data=.seq items q)(b1:o.dict=none)
  (G:items.toList=cs.map λc=>Value.ref c.2.2.2) (y:∀c∈cs,IsC prog w s.heap c) (nd:(cs.map (·.1)).Nodup) (h60:cs.length<=1000)
  (h:∀(g:bz) (tk:Nat),g.DictOfH (tupleKind (aF prog w)) s.heap.objs.size (cs.map entQ)->(∀b o,s.heap.get? b=some o->g.get? b=some o)->Q (.ref s.heap.objs.size) {s with heap:=g,toks:=tk}) :
  wpAny (model prog w) A (call (.type "dict") [.ref t]) Q E s:=by
 have b4:items.size=cs.length:=by rw[←zyx,G,zza]
 refine callType_codes (Q₁:=λobj Y=>obj=.ref s.heap.objs.size/\Y={s with heap:=s.heap.push {cls:=.type "dict",data:=.dict #[]} }) F.kt_called_dict (F.kt_typeCall_dict_1 _) F.entry_dict_init (kt_code_dict_new _ ⟨rfl,rfl⟩) ?_;rintro obj Y ⟨rfl,rfl⟩;have J:(s.heap.push {cls:=.type "dict",data:=.dict #[]}).DictOfH (tupleKind (aF prog w)) s.heap.objs.size []:=Heap.DictOfH.new s.heap;have l:(s.heap.push {cls:=.type "dict",data:=.dict #[]}).get? t=some o:=zzj _ H;have hT:Shared.TypeIs {s with heap:=s.heap.push {cls:=.type "dict",data:=.dict #[]} } (.ref t) "list":=⟨o,l,a⟩;have b3:t<s.heap.objs.size:=zzv H;refine⟨J.typeIs,F.args_dict_init_2 _ _,?_⟩;generalize hR:(wants (λr N=>r=Value.none/\Q (.ref s.heap.objs.size) N) E)=R;unfold Builtin.«dict.__init__»;refine zzb ?_;unfold Builtin.Dict.selfAndRest;refine zzb (zwF J.typeIs ?_);show wpAny _ _ (pure (s.heap.objs.size,[Value.ref t])) _ _ _;refine zzq ?_;show wpAny _ _ (Builtin.Dict.updateFrom "dict.__init__" s.heap.objs.size (.ref t) [] .none) _ _ _;unfold Builtin.Dict.updateFrom;refine zzb (zwL hT ?_);rw[zzi (by decide)];refine zzb (nj l a hd b1 (by simp[C]) λd tk1 e ne=>?_);rw[zzi (show (none:bo av).isNone=true from rfl)];refine zzb (zxW ?_);have n:d.get? t=some o:=ne.keeps _ _ l;refine zzb (zxx ⟨o,n,a,q,hd⟩ ?_);have b2:t≠d.objs.size:=zzC (zzv n);obtain⟨oS,eS,pS,b0,hS2⟩:=ne.keeps |> λk=>(show ∃o x u,d.get? s.heap.objs.size=some o/\True from let ⟨o,x,u,e,_⟩:=J;⟨o,x,u,k _ _ e,trivial⟩)
 have U:s.heap.objs.size<d.objs.size:=zzv b0;have M:∀(i:Nat) (v:av),items[i]?=some v->∃c,cs[i]?=some c/\v=.ref c.2.2.2:=λi v I=>by rw[←zyy,G,zzl]at I;obtain⟨c,hx,rfl⟩:=zym.mp I;exact⟨c,hx,rfl⟩
 have T:∀c∈cs,c.2.1<s.heap.objs.size/\c.2.2.2<s.heap.objs.size:=λc a=>by obtain⟨⟨o',its,m,k1,_⟩,o2,k2,_⟩:=y c a;exact⟨zzv k1,zzv k2⟩
 have p:∀b o,s.heap.get? b=some o->(d.push {cls:=.type "list_iterator",data:=.fields #[.ref t,.int 0 0]}).get? b=some o:=λb o e=>zzj _ (ne.keeps _ _ (zzj _ e));have L:(d.push {cls:=.type "list_iterator",data:=.fields #[.ref t,.int 0 0]}).DictOfH (tupleKind (aF prog w)) s.heap.objs.size (([]:ai jO).map entQ):=ij J (λo e=>zzj _ (ne.keeps _ _ e)) λc a=>by simp at a
 refine zzq ⟨plainId_quiet cO _,yt ((Walks.list (by simp[C]) d.objs.size t b2 items).toS) s.heap.objs.size ?hf (by show A.units+1+1<cLine;lia) b4.symm M (λc a=>?hw) nd (by lia) (items.size - 0) 0 _ (by lia) (zzT _) ⟨⟨_,zzw _ rfl,rfl,rfl⟩,⟨o,zzj _ n,a,q,hd⟩⟩ (λc a=>(y c a).moved (λo e=>p _ o e) λo e=>p _ o e) L ?hR⟩
 case hf =>
  simp only[zzr,zyo,zxv,not_or];exact⟨zzC U,zxA b3⟩
 case hw =>
  have:=T c a;simp only[zzr,zyo,zxv,not_or];exact⟨⟨zzC this.1,zzC (zxS this.1 U)⟩,⟨zzC this.2,zzC (zxS this.2 U)⟩⟩
 case hR =>
  intro s' j a9;subst hR;obtain⟨g,g',d',b6,b5⟩:=s';have eg:g'=s.gens:=j.gens;have ed:d'=s.drawn:=j.drawn;have eo:b5=s.os:=j.os;subst eg;subst ed;subst eo;refine⟨rfl,h g b6 a9 λb o e=>?_⟩;have z:=zzv e;refine j.heap b o ?_ (p b o e);simp only[zzr,zyo,zxv,not_or];exact⟨zzC z,zzC (zxS z U)⟩
end
section
variable{X:Cx}
theorem vY(hr:X.A.units+16<cLine)(hc:X.calm=true):cZ X (.type "dict") (λE H Q=>∃(t:bb) (d:ai vW),E=[.ref t]/\H t=some (.lst (d.map λq=>.ref q.2.2.2))/\(∀q∈d,H q.2.2.2=some (.tup [.ref q.2.1,q.2.2.1])/\H q.2.1=some (.tup (q.1.map kV)))/\(d.map (·.1)).Nodup/\d.length<=1000 /\
  ∀a,H a=none->Q (.ref a) (upd H a (.dT (d.map λq=>(q.1,q.2.2.1))))):=by
 intro pins s σ H E i Q I r h;obtain⟨t,d,rfl,e,J,nd,U,q⟩:=h;obtain⟨u,rfl,e2⟩:=gU r;cases e2;obtain⟨z,k,nn,rv,ho⟩:=(show ObjOk X.prog X.w H s.heap t (.lst (d.map λq=>.ref q.2.2.2)) from I.hok t _ e);obtain⟨g,n,hC⟩:=uo I.hok d J;have hit:k=g.map λc=>Value.ref c.2.2.2:=by
  have:∀{d:ai vW} {g:ai jO} {i:ai av},Paired relQ d g->Vals (d.map λq=>V.ref q.2.2.2) i->i=g.map λc=>Value.ref c.2.2.2:=λ{d g i} p=>by
   induction p generalizing i with
   |nil=>intro h;cases h;rfl
   |cons r t j =>
    intro h;cases h with
    |cons h1 h2=>rw[j h2];cases h1;rw[zzh,r.2.2.2]
  exact this n rv
 have v:d.map (·.1)=g.map (·.1):=jP (λa b r=>r.1) n;have el:d.length=g.length:=by have:=congrArg List.length v;rwa [zza,zza]at this
 refine rJ hr (I.ok.hd hc) ho rfl rfl rfl (by rw[zyP];exact hit) hC (by rw[←v];exact nd) (by lia) λh' tk hD kp=>?_;obtain⟨o',es,ep,G,L,M,N,d5,T⟩:=hD;have y:=I.hok.fresh (zzn s.heap.objs.size);have key:Paired (λ(p:ai Key×V) (q:ai Key×bb×av)=>p.1=q.1/\upd H s.heap.objs.size (.dT (d.map λq=>(q.1,q.2.2.1))) q.2.1=some (.tup (p.1.map kV))/\RelV p.2 q.2.2) (d.map λq=>(q.1,q.2.2.1)) (g.map entQ):=by
  have:∀{l:ai vW} {m:ai jO},Paired relQ l m->(∀q∈l,H q.2.1=some (.tup (q.1.map kV)))->Paired (λ(p:ai Key×V) (q:ai Key×bb×av)=>p.1=q.1/\upd H s.heap.objs.size (.dT (d.map λq=>(q.1,q.2.2.1))) q.2.1=some (.tup (p.1.map kV))/\RelV p.2 q.2.2) (l.map λq=>(q.1,q.2.2.1)) (m.map entQ):=λ{l m} p=>by
   induction p with
   |nil=>intro _;exact .nil|@cons a b l m r t j =>
    intro C;refine .cons ⟨r.1,?_,r.2.2.1⟩ (j λq J=>C q (zzf _ J));have x:=C a zzd;show upd H _ _ b.2.1=_;rw[←r.2.1,af (bQ x y)];exact x
  exact this n λq Y=>(J q Y).2
 exact⟨.ref s.heap.objs.size,_,I.laid (o:=.dT (d.map λq=>(q.1,q.2.2.1))) (λb u e=>kp b u e) (zzn _) ⟨by rw[zza];exact zzo U (by decide),by have:=I.big;exact zwV.mpr (zxA this),g.map entQ,key,o',es,ep,G,L,M,N,T⟩,rfl,q _ y⟩
end
end L2
namespace DL
open PySem PySem.Spec L2
open PyProof.Rows hiding St
variable{A:Prop}{H H':Hp}{M M1:ai bb}{N ps:ai Str}{T:String}{Tb:TE}{a e tg:bN}{b j r:Int}{es:ai bN}{fd:bp}{hi:bo bN}{i k m n:Nat}{l:bb}{mg:Str->bo av}{op op':CmpOp}{p p2 pos py:Pos}{u:HO}{v:V}{vs ys:ai V}{w:World}{x y:Str}{α β:Type}{σ:St}
variable{K:zvi}{pp:bo bb}{M M':ai bb}{H H':Hp}{σ:St}{X:Cx}{c e:bN}{pos:Pos}{es:ai bN}{i:Nat}
section
inductive D where
 |non|bl (b:Bool)|int (i:Int)|str (x:Str)|ty (n:String)|tup (ds:List D)|lst (ds:List D)
 |dT (ks:List (List Key)) (ds:List D)|pen|cls (C:Addr)|ins (C:Addr) (ns:List Str) (ds:List D)
variable{d:D}{ds:ai D}
inductive O where
 |val (d:D)|lst (os:List O)|dct (ks:List (List Key)) (os:List O)|tup (os:List O)
inductive Sl where
 |nil|val (d:D)|own (ds:List D)|obj (o:O)|pin (v:V) (d:D)
variable{s:Sl}
section
variable(K:zvi)(pp:bo bb)(M:ai bb)(H:Hp)
mutual
def Rep:D->V->Prop
 |.non,v=>v=.non|.bl b,v=>v=.bl b|.int i,v=>v=.int i|.str x,v=>v=.str x|.ty n,v=>v=.ty n|.tup ds,v=>∃a q,v=.ref a/\H a=some (.tup q)/\Reps ds q|.lst ds,v=>∃a q,v=.ref a/\a∉M/\pp≠some a/\H a=some (.lst q)/\Reps ds q|.dT E ds,v=>∃a g,v=.ref a/\a∉M/\pp≠some a/\Rd H a (.dT g)/\g.map (·.1)=E/\Reps ds (g.map (·.2))|.pen,v=>∃p,v=.ref p/\pp=some p/\∃a z t l,Pen K H p a z t l|.cls C,v=>v=.ref C|.ins C z ds,v=>∃a dx fs,v=.ref a/\a∉M/\pp≠some a/\H a=some (.ins C dx fs)/\fs.map (·.1)=z/\Reps ds (fs.map (·.2))
def Reps:ai D->ai V->Prop
 |[],g=>g=[]|d::ds,g=>∃x r,g=x::r/\Rep d x/\Reps ds r
end
end
section
variable{M'':ai bb}{H'':Hp}
class TB where
 tb:List (Addr×Str)
instance(priority:=low) TB.none:TB:=⟨[]⟩
def Tabs[TB](H:Hp):Prop:=∀P J,TB.tb.lookup P=some J->∃ps,H P=some (.tbl ps)/\TriplesOk ps.toList /\
 ∀pos g,codeAmong pos ps.toList=some g->∃c q u vs t,g=.ref c/\H c=some (.frz q u)/\q.data=.fields vs/\vs[1]?=some (.str J t)
def TF(o:HO):Prop:=(∃ps,o=.tbl ps)∨∃g u,o=.frz g u
theorem Tabs.of[TB](h:Tabs H)(k:∀b o,H b=some o->TF o->H' b=some o):Tabs H':=λP E Y=>by obtain⟨ps,q,z,J⟩:=h P E Y;refine⟨ps,k _ _ q (.inl ⟨_,rfl⟩),z,λpos g e=>?_⟩;obtain⟨c,C,u,vs,t,f1,f2,U⟩:=J pos g e;exact⟨c,C,u,vs,t,f1,k _ _ f2 (.inr ⟨_,_,rfl⟩),U⟩
theorem Tabs.upd[TB]{H:Hp}{l:bb}{o o':HO}(h:Tabs H)(J:H l=some o)(U:¬TF o):Tabs (upd H l o') :=
 h.of λb x e Y=>by
  rw[af]
  ·exact e
  ·rintro rfl;rw[J]at e;cases e;exact U Y
theorem Tabs.new[TB](h:Tabs H)(J:H l=none):Tabs (L2.upd H l u) :=
 h.of λb x e _=>cG J e
theorem im{xs:ai V}:¬TF (.lst xs):=by rintro(⟨_,e⟩|⟨_,_,e⟩)<;>cases e
def NT(o:HO):Prop:=∀ps,o ≠ .tbl ps
def NP(pp:bo bb)(a:bb)(o:HO):Prop:=pp≠some a/\NT o
theorem np{pp:bo bb}{a:bb}{o:HO}(h:pp≠some a)(t:NT o:=by intro _ z;cases z):NP pp a o:=⟨h,t⟩
structure Mv[TB](K:zvi)(pp:Option Addr)(M:List Addr)(H:Hp)(M':List Addr)(H':Hp):Prop where
 tup:∀a xs,H a=some (.tup xs)->H' a=some (.tup xs)
 oth:∀a o,H a=some o->a∉M->NP pp a o->H' a=some o/\a∉M'
 pen:∀p,pp=some p->(∃a ns t l,Pen K H p a ns t l)->∃a ns t l,Pen K H' p a ns t l
 tb:Tabs H->Tabs H'
variable[TB]
theorem Mv.lst(m:Mv K pp M H M' H')(a:bb)(xs:ai V)(h:H a=some (.lst xs))(n:a∉M)(q:pp≠some a):H' a=some (.lst xs)/\a∉M':=m.oth a _ h n (np q)
theorem Mv.refl:Mv K pp M H M H:=⟨λ_ _ h=>h,λ_ _ h n _=>⟨h,n⟩,λ_ _ h=>h,λh=>h⟩
theorem Mv.trans(x:Mv K pp M H M' H')(y:Mv K pp M' H' M'' H''):Mv K pp M H M'' H'' :=
 ⟨λa g h=>y.tup a g (x.tup a g h),λa g h n q=>y.oth a g (x.oth a g h n q).1 (x.oth a g h n q).2 q,λp e h=>y.pen p e (x.pen p e h),λh=>y.tb (x.tb h)⟩
mutual
theorem Rep.mv(m:Mv K pp M H M' H'):∀(d:D) (v:V),Rep K pp M H d v->Rep K pp M' H' d v
 |.non,_,h=>by simp only[Rep]at h ⊢;exact h
 |.bl _,_,h=>by simp only[Rep]at h ⊢;exact h
 |.int _,_,h=>by simp only[Rep]at h ⊢;exact h
 |.str _,_,h=>by simp only[Rep]at h ⊢;exact h
 |.ty _,_,h=>by simp only[Rep]at h ⊢;exact h
 |.tup ds,_,h=>by simp only[Rep]at h ⊢;obtain⟨a,q,e,g,z⟩:=h;exact⟨a,q,e,m.tup a q g,Reps.mv m ds q z⟩
 |.lst ds,_,h=>by simp only[Rep]at h ⊢;obtain⟨a,q,e,h0,J,g,z⟩:=h;exact⟨a,q,e,(m.lst a q g h0 J).2,J,(m.lst a q g h0 J).1,Reps.mv m ds q z⟩
 |.dT ks ds,_,h=>by
  simp only[Rep]at h ⊢;obtain⟨a,q,e,h0,J,g,z,E⟩:=h;rcases g with g|⟨o,g⟩
  ·exact⟨a,q,e,(m.oth a _ g h0 (np J)).2,J,.inl (m.oth a _ g h0 (np J)).1,z,Reps.mv m ds _ E⟩
  ·exact⟨a,q,e,(m.oth a _ g h0 (np J)).2,J,.inr ⟨o,(m.oth a _ g h0 (np J)).1⟩,z,Reps.mv m ds _ E⟩
 |.pen,_,h=>by simp only[Rep]at h ⊢;obtain⟨p,e,G,h⟩:=h;exact⟨p,e,G,m.pen p G h⟩
 |.cls _,_,h=>by simp only[Rep]at h ⊢;exact h
 |.ins C ns ds,_,h=>by simp only[Rep]at h ⊢;obtain⟨a,dx,q,e,h0,J,g,z,E⟩:=h;exact⟨a,dx,q,e,(m.oth a _ g h0 (np J)).2,J,(m.oth a _ g h0 (np J)).1,z,Reps.mv m ds _ E⟩
theorem Reps.mv(m:Mv K pp M H M' H'):∀(ds:ai D) (xs:ai V),Reps K pp M H ds xs->Reps K pp M' H' ds xs
 |[],_,h=>by simp only[Reps]at h ⊢;exact h
 |d::ds,_,h=>by simp only[Reps]at h ⊢;obtain⟨x,r,e,g,q⟩:=h;exact⟨x,r,e,Rep.mv m d x g,Reps.mv m ds r q⟩
end
theorem Reps.length:∀{ds:ai D} {xs:ai V},Reps K pp M H ds xs->ds.length=xs.length
 |[],_,h=>by simp only[Reps]at h;subst h;rfl
 |_::_,_,h=>by obtain⟨x,r,rfl,_,g⟩:=h;simp[Reps.length g]
theorem Reps.get':∀{ds:ai D} {xs:ai V} {i:Nat} {d:D},Reps K pp M H ds xs->ds[i]?=some d->∃x,xs[i]?=some x/\Rep K pp M H d x
 |[],_,_,_,h,e=>by simp at e
 |d::ds,_,0,x,h,e=>by obtain⟨y,r,rfl,g,q⟩:=h;simp at e;subst e;exact⟨y,rfl,g⟩
 |d::ds,_,i+1,x,h,e=>by obtain⟨y,r,rfl,g,q⟩:=h;obtain⟨J,z,C⟩:=Reps.get' q (by simpa using e);exact⟨J,by simpa using z,C⟩
theorem Reps.append:∀{ds es:ai D} {xs ys:ai V},Reps K pp M H ds xs->Reps K pp M H es ys->Reps K pp M H (ds++es) (xs++ys)
 |[],_,_,_,h,q=>by simp only[Reps]at h;subst h;exact q
 |d::ds,_,_,_,h,q=>by obtain⟨y,r,rfl,g,z⟩:=h;exact⟨y,_,rfl,g,Reps.append z q⟩
theorem Reps.drop:∀{ds:ai D} {xs:ai V} (n:Nat),Reps K pp M H ds xs->Reps K pp M H (ds.drop n) (xs.drop n)
 |_,_,0,h=>h|[],_,n+1,h=>by simp only[Reps]at h;subst h;simp[Reps]
 |d::ds,_,n+1,h=>by obtain⟨y,r,rfl,h1,g⟩:=h;exact Reps.drop n g
theorem Reps.take:∀{ds:ai D} {xs:ai V} (n:Nat),Reps K pp M H ds xs->Reps K pp M H (ds.take n) (xs.take n)
 |_,_,0,h=>by simp[Reps]
 |[],_,n+1,h=>by simp only[Reps]at h;subst h;simp[Reps]
 |d::ds,_,n+1,h=>by obtain⟨y,r,rfl,g,q⟩:=h;exact⟨y,_,rfl,g,Reps.take n q⟩
theorem Reps.set{d:D}{x:V}(hd:Rep K pp M H d x):∀{ds:ai D} {xs:ai V} (n:Nat),Reps K pp M H ds xs->Reps K pp M H (ds.set n d) (xs.set n x)
 |[],_,n,h=>by simp only[Reps]at h;subst h;simp[Reps]
 |e::ds,_,0,h=>by obtain⟨y,r,rfl,q,g⟩:=h;exact⟨x,r,rfl,hd,g⟩
 |e::ds,_,n+1,h=>by obtain⟨y,r,rfl,q,g⟩:=h;exact⟨y,_,rfl,q,Reps.set hd n g⟩
theorem Reps.one{x:V}(h:Rep K pp M H d x):Reps K pp M H [d] [x]:=by  exact⟨x,[],rfl,h,rfl⟩
theorem Reps.nil:Reps K pp M H [] []:=by simp only[Reps]
theorem Reps.cons{d:D}{x:V}{xs:ai V}(h:Rep K pp M H d x)(q:Reps K pp M H ds xs):Reps K pp M H (d::ds) (x::xs):=by  exact⟨x,xs,rfl,h,q⟩
def NW(pp:bo bb)(b:bb)(o:HO):Prop:=(pp=some b->∀g,o ≠ .lst g)/\NT o
theorem nw{pp:bo bb}{b:bb}{o:HO}(h:pp≠some b)(t:NT o:=by intro _ z;cases z):NW pp b o:=⟨λz=>absurd z h,t⟩
structure SameQ(K:zvi)(pp:Option Addr)(H H':Hp):Prop where
 keep:∀b o,H b=some o->NW pp b o->H' b=some o
 pen:∀p,pp=some p->(∃a ns t l,Pen K H p a ns t l)->∃a ns t l,Pen K H' p a ns t l
 live:∀b,H b≠none->H' b≠none
structure SameP(K:zvi)(pp:Option Addr)(H H':Hp):Prop extends SameQ K pp H H' where
 tb:Tabs H->Tabs H'
theorem SameQ.refl:SameQ K pp H H:=⟨λ_ _ h _=>h,λ_ _ h=>h,λ_ h=>h⟩
theorem SameP.refl:SameP K pp H H:=⟨.refl,λh=>h⟩
theorem SameQ.trans(x:SameQ K pp H H')(y:SameQ K pp H' H''):SameQ K pp H H'' :=
 ⟨λb o h n=>y.keep b o (x.keep b o h n) n,λp e h=>y.pen p e (x.pen p e h),λb h=>y.live b (x.live b h)⟩
theorem SameP.trans(x:SameP K pp H H')(y:SameP K pp H' H''):SameP K pp H H'':=⟨x.toSameQ.trans y.toSameQ,λh=>y.tb (x.tb h)⟩
theorem SameP.of(s:Same H H'):SameP K pp H H':=⟨⟨λb o h _=>s b o h,λ_ _ ⟨a,g,t,l,h⟩=>⟨a,g,t,l,h.same s⟩,λb h e=>by
 cases q:H b with
 |none=>exact h q|some o=>rw[s b o q]at e;cases e⟩,λh=>h.of λb o e _=>s b o e⟩
theorem SameP.new{o:HO}(h:H l=none):SameP K pp H (upd H l o):=.of (tW h)
theorem SameP.mv(s:SameP K pp H H'):Mv K pp M H M H' :=
 ⟨λa g h=>s.keep a _ h ⟨λ_ _ z=>(by cases z),λ_ z=>(by cases z)⟩,λa g h n q=>⟨s.keep a _ h ⟨λz=>absurd z q.1,q.2⟩,n⟩,s.pen,s.tb⟩
theorem Mv.new{l:bb}{o:HO}(h:H l=none):Mv K pp M H M (upd H l o):=(SameP.new h).mv
theorem Mv.newOwn{l:bb}{o:HO}(h:H l=none):Mv K pp M H (l::M) (upd H l o) :=
 ⟨λa g e=>cG h e,λa g e n q=>⟨cG h e,by
  intro z;rcases zzr.mp z with rfl|z
  ·rw[h]at e;cases e
  ·exact n z⟩,(SameP.new h).pen,λt=>t.new h⟩
theorem Mv.less{l:ai bb}(h:∀a∈l,a∈M):Mv K pp M H l H:=⟨λ_ _ h=>h,λa xs e n _=>⟨e,λz=>n (h a z)⟩,λ_ _ h=>h,λh=>h⟩
theorem ER{p:bb}{xs:ai V}(J:H l=some (.lst xs))(U:p≠l):(∃a g t k,Pen K H p a g t k)->∃a g t k,Pen K (upd H l (.lst ys)) p a g t k:=by
 rintro⟨a,g,t,k,h⟩;refine⟨a,g,t,k,?_,?_,h.t0⟩
 ·rw[af U];exact h.lst
 ·rcases h.scr with ⟨o,e⟩|e
  ·refine .inl ⟨o,?_⟩;rw[af (iT e J (by intro z;cases z))];exact e
  ·exact .inr e
theorem Mv.write{xs:ai V}(J:H l=some (.lst xs))(g:l∈M)(U:pp≠some l):Mv K pp M H M (upd H l (.lst ys)) :=
 ⟨λa Y e=>by rw[af (iT e J (by intro z;cases z))];exact e,
  λa Y e n q=>⟨by rw[af (by rintro rfl;exact n g)];exact e,n⟩,
  λp e h=>ER J (by rintro rfl;exact U e) h,λt=>t.upd J im⟩
end
section
variable(K:zvi)(pp:bo bb)(M:ai bb)(H:Hp)
mutual
def RO:O->V->ai bb->Prop
 |.val d,v,A=>A=[]/\Rep K pp M H d v|.lst os,v,A=>∃a q B,v=.ref a/\H a=some (.lst q)/\A=a::B/\ROs os q B|.dct z os,v,A=>∃a g B,v=.ref a/\H a=some (.dT g)/\g.map (·.1)=z/\A=a::B/\ROs os (g.map (·.2)) B|.tup os,v,A=>∃a q,v=.ref a/\H a=some (.tup q)/\ROs os q A
def ROs:ai O->ai V->ai bb->Prop
 |[],g,A=>g=[]/\A=[]|o::os,g,A=>∃x r B C,g=x::r/\A=B++C/\RO o x B/\ROs os r C
end
end
section
variable[TB]
mutual
theorem RO.mv(m:Mv K pp M H M' H'):∀(q:O) (v:V) (A:ai bb),(∀a∈A,∀o,H a=some o->NT o->H' a=some o)->RO K pp M H q v A->RO K pp M' H' q v A
 |.val d,v,A,_,h=>by simp only[RO]at h ⊢;exact⟨h.1,Rep.mv m d v h.2⟩
 |.lst os,v,A,k,h=>by simp only[RO]at h ⊢;obtain⟨a,g,B,e,C,rfl,r⟩:=h;exact⟨a,g,B,e,k a zzd _ C (by intro _ z;cases z),rfl,ROs.mv m os g B (λb E=>k b (zzf _ E)) r⟩
 |.dct ks os,v,A,k,h=>by simp only[RO]at h ⊢;obtain⟨a,G,B,e,C,I,rfl,r⟩:=h;exact⟨a,G,B,e,k a zzd _ C (by intro _ z;cases z),I,rfl,ROs.mv m os _ B (λb E=>k b (zzf _ E)) r⟩
 |.tup os,v,A,k,h=>by simp only[RO]at h ⊢;obtain⟨a,g,e,C,r⟩:=h;exact⟨a,g,e,m.tup a g C,ROs.mv m os g A k r⟩
theorem ROs.mv(m:Mv K pp M H M' H'):∀(os:ai O) (xs:ai V) (A:ai bb),(∀a∈A,∀o,H a=some o->NT o->H' a=some o)->ROs K pp M H os xs A->ROs K pp M' H' os xs A
 |[],xs,A,_,h=>by simp only[ROs]at h ⊢;exact h
 |o::os,xs,A,k,h=>by simp only[ROs]at h ⊢;obtain⟨x,r,B,C,e,rfl,q,z⟩:=h;exact⟨x,r,B,C,e,rfl,RO.mv m o x B (λb g=>k b (zzx.mpr (.inl g))) q,ROs.mv m os r C (λb g=>k b (zzx.mpr (.inr g))) z⟩
end
mutual
def fzO:O->D
 |.val d=>d|.lst os=>.lst (fzOs os)|.dct g os=>.dT g (fzOs os)|.tup os=>.tup (fzOs os)
def fzOs:ai O->ai D
 |[]=>[]|o::os=>fzO o::fzOs os
end
mutual
theorem RO.fz(m:Mv K pp M H M' H):∀(q:O) (v:V) (A:ai bb),(∀a∈A,a∉M'/\pp≠some a)->RO K pp M H q v A->Rep K pp M' H (fzO q) v
 |.val d,v,A,_,h=>by simp only[RO]at h;simp only[fzO];exact Rep.mv m d v h.2
 |.lst os,v,A,k,h=>by simp only[RO]at h;simp only[fzO,Rep];obtain⟨a,z,B,e,g,rfl,r⟩:=h;exact⟨a,z,e,(k a zzd).1,(k a zzd).2,g,ROs.fz m os z B (λb C=>k b (zzf _ C)) r⟩
 |.dct ks os,v,A,k,h=>by simp only[RO]at h;simp only[fzO,Rep];obtain⟨a,E,B,e,g,G,rfl,r⟩:=h;exact⟨a,E,e,(k a zzd).1,(k a zzd).2,.inl g,G,ROs.fz m os _ B (λb C=>k b (zzf _ C)) r⟩
 |.tup os,v,A,k,h=>by simp only[RO]at h;simp only[fzO,Rep];obtain⟨a,z,e,g,r⟩:=h;exact⟨a,z,e,g,ROs.fz m os z A k r⟩
theorem ROs.fz(m:Mv K pp M H M' H):∀(os:ai O) (xs:ai V) (A:ai bb),(∀a∈A,a∉M'/\pp≠some a)->ROs K pp M H os xs A->Reps K pp M' H (fzOs os) xs
 |[],xs,A,_,h=>by simp only[ROs]at h;simp only[fzOs,Reps];exact h.1
 |o::os,xs,A,k,h=>by simp only[ROs]at h;simp only[fzOs,Reps];obtain⟨x,r,B,C,e,rfl,q,z⟩:=h;exact⟨x,r,e,RO.fz m o x B (λb g=>k b (zzx.mpr (.inl g))) q,ROs.fz m os r C (λb g=>k b (zzx.mpr (.inr g))) z⟩
end
theorem nq:∀os:ai O,fzOs os=os.map fzO
 |[]=>rfl|o::os=>by simp only[fzOs,zzh,nq os]
end
structure Fx where
 pp:Option Addr
 M0:List Addr
 H0:Hp
abbrev DS:=ai Sl
variable[TB]
class Frm where
 L:zvi->Fx->List Addr->Hp->Prop
 W:DS->Addr->Prop
 cl:∀K (F:Fx) M H M' H',L K F M H->Mv K F.pp M H M' H'->L K F M' H'
instance(priority:=low) Frm.free:Frm:=⟨λ_ _ _ _=>True,λ_ _=>False,λ_ _ _ _ _ _ h _=>h⟩
variable[Frm]
structure Lv0(pp:Option Addr)(M:List Addr)(H:Hp):Prop where
 m:∀a∈M,H a≠none
 p:∀p,pp=some p->H p≠none
structure Lv(pp:Option Addr)(M:List Addr)(H:Hp):Prop extends Lv0 pp M H where
 t:Tabs H
theorem Lv0.sameQ{K:zvi}{pp:bo bb}(l:Lv0 pp M H)(s:SameQ K pp H H'):Lv0 pp M H' :=
 ⟨λa g=>s.live a (l.m a g),λp e=>s.live p (l.p p e)⟩
theorem Lv0.fresh{pp:bo bb}{a:bb}(l:Lv0 pp M H)(h:H a=none):a∉M/\pp≠some a:=⟨λz=>l.m a z h,λz=>l.p a z h⟩
structure Lk(K:zvi)(F:Fx)(M:List Addr)(H:Hp):Prop where
 l:Frm.L K F M H
 t:Tabs H
theorem Lk.cl{K:zvi}{F:Fx}{M M':ai bb}{H H':Hp}(h:Lk K F M H)(m:Mv K F.pp M H M' H'):Lk K F M' H':=⟨Frm.cl _ _ _ _ _ _ h.l m,m.tb h.t⟩
section
variable(K:zvi)(F:Fx)(M:ai bb)(H:Hp)
def RSl:Sl->bo V->Prop
 |.nil,_=>True|.val d,o=>∃v,o=some v/\Rep K F.pp M H d v|.own ds,o=>∃l g,o=some (.ref l)/\l∈M/\F.H0 l=none/\F.pp≠some l/\H l=some (.lst g)/\Reps K F.pp M H ds g|.obj _,o=>∃v,o=some v|.pin w d,o=>∃v,o=some v/\v=w/\Rep K F.pp M H d v
def Ow:Sl->bo V->ai bb->Prop
 |.own _,o,A=>∃l,o=some (.ref l)/\A=[l]|.obj q,o,A=>A.Nodup/\∃v,o=some v/\RO K F.pp M H q v A|_,_,_=>True
def OwF(σ:St)(ρ:DS):Prop:=∃J:Nat->ai bb,(∀(i:Nat) s o,ρ[i]?=some s->σ[i]?=some o->Ow K F M H s o (J i))/\(∀i,∀a∈J i,a∈M/\F.H0 a=none/\F.pp≠some a)/\∀i j,i≠j->∀a∈J i,a∉J j
structure RSt(σ:St)(ρ:DS):Prop where
 len:σ.length=ρ.length
 sl:∀(i:Nat) s o,ρ[i]? = some s->σ[i]? = some o->RSl K F M H s o
 ow:OwF K F M H σ ρ
 sub:∀a∈F.M0,a∈M
 same:SameQ K F.pp F.H0 H
 old:∀a∈F.M0,F.H0 a≠none
 liv0:Lv0 F.pp M H
 lk:Lk K F M H
end
section
variable{F:Fx}{ρ:DS}
theorem RSt.liv(r:RSt K F M H σ ρ):Lv F.pp M H:=⟨r.liv0,r.lk.t⟩
theorem RSt.sameT(r:RSt K F M H σ ρ):SameP K F.pp F.H0 H:=⟨r.same,λ_=>r.lk.t⟩
theorem RSt.h0(r:RSt K F M H σ ρ)(J:H l=none):F.H0 l=none:=by
 cases e:F.H0 l with
 |none=>rfl|some o=>exact absurd J (r.same.live l (by rw[e];intro z;cases z))
omit [Frm] in
theorem Ow.mv{s:Sl}{o:bo V}{A:ai bb}(m:Mv K F.pp M H M' H')(k:∀a∈A,∀x,H a=some x->NT x->H' a=some x)(h:Ow K F M H s o A):Ow K F M' H' s o A:=by
 cases s with
 |nil=>trivial|val d=>trivial|pin w d=>trivial|own ds=>exact h|obj q =>
  obtain⟨g,v,e,h⟩:=h;exact⟨g,v,e,RO.mv m q v A k h⟩
omit [Frm] in
theorem OwF.keep(h:OwF K F M H σ ρ)(m:Mv K F.pp M H M' H')(k:∀a,a∈M->F.pp≠some a->F.H0 a=none->a∈M'/\∀x,H a=some x->NT x->H' a=some x):OwF K F M' H' σ ρ:=by obtain⟨J,E,q,G⟩:=h;refine⟨J,λi s o z C=>(E i s o z C).mv m λa g=>(k a (q i a g).1 (q i a g).2.2 (q i a g).2.1).2,λi a g=>⟨(k a (q i a g).1 (q i a g).2.2 (q i a g).2.1).1,(q i a g).2⟩,G⟩
omit [Frm] in
theorem OwF.step{E:St}{ρ':DS}(h:OwF K F M H σ ρ)(m:Mv K F.pp M H M' H')(i:Nat)(c:∀j,j≠i->E[j]?=σ[j]?)(Y:∀j,j≠i->ρ'[j]?=ρ[j]?)
  (k:∀A,(∀s o,ρ[i]?=some s->σ[i]?=some o->Ow K F M H s o A)->(∀a∈A,a∈M/\F.H0 a=none/\F.pp≠some a)->∃B,(∀s o,ρ'[i]?=some s->E[i]?=some o->Ow K F M' H' s o B) /\
   (∀b∈B,b∈M'/\F.H0 b=none/\F.pp≠some b/\(b∈A∨b∉M))/\∀a,a∈M->F.pp≠some a->F.H0 a=none->a∉A->a∈M'/\∀x,H a=some x->NT x->H' a=some x):OwF K F M' H' E ρ':=by
 obtain⟨J,Q,C,L⟩:=h;obtain⟨B,d,U,n⟩:=k (J i) (Q i) (C i);have old:∀j,j≠i->∀a∈J j,a∈M'/\∀x,H a=some x->NT x->H' a=some x:=λj e a g=>n a (C j a g).1 (C j a g).2.2 (C j a g).2.1 (L j i e a g);refine⟨λj=>if j=i then B else J j,λj s o G I=>?_,λj a g=>?_,λj l e a g q=>?_⟩
 ·show Ow K F M' H' s o (if j=i then B else J j);by_cases e:j=i
  ·subst e;rw[zzi rfl];exact d s o G I
  ·rw[zzg e];rw[Y j e]at G;rw[c j e]at I;exact(Q j s o G I).mv m λa g=>(old j e a g).2
 ·replace g:a∈(if j=i then B else J j):=g
  by_cases e:j=i
  ·subst e;rw[zzi rfl]at g;exact⟨(U a g).1,(U a g).2.1,(U a g).2.2.1⟩
  ·rw[zzg e]at g;exact⟨(old j e a g).1,(C j a g).2⟩
 ·replace g:a∈(if j=i then B else J j):=g
  replace q:a∈(if l=i then B else J l):=q
  by_cases G:j=i
  ·subst G;rw[zzi rfl]at g;rw[zzg (Ne.symm e)]at q;rcases (U a g).2.2.2 with z|z
   ·exact L j l e a z q
   ·exact z (C l a q).1
  ·rw[zzg G]at g;by_cases I:l=i
   ·subst I;rw[zzi rfl]at q;rcases (U a q).2.2.2 with z|z
    ·exact L j l e a g z
    ·exact z (C j a g).1
   ·rw[zzg I]at q;exact L j l e a g q
omit [Frm] in
theorem OwF.none(h:∀(i:Nat) s,ρ[i]?=some s->(∀ds,s ≠ .own ds)/\∀q,s ≠ .obj q):OwF K F M H σ ρ:=by
 refine⟨λ_=>[],λi s o g _=>?_,λ_ _ h=>(by simp at h),λ_ _ _ _ h=>(by simp at h)⟩;cases s with
 |nil=>trivial|val d=>trivial|pin w d=>trivial|own ds=>exact absurd rfl ((h i _ g).1 ds)|obj q=>exact absurd rfl ((h i _ g).2 q)
theorem RSt.own(r:RSt K F M H σ ρ)(i j:Nat)(ds es:ai D)(a:bb)(C:ρ[i]?=some (.own ds))(E:ρ[j]?=some (.own es))(G:σ[i]?=some (some (.ref a)))(U:σ[j]?=some (some (.ref a))):i=j:=by
 obtain⟨As,g,k2,Y⟩:=r.ow;obtain⟨l,e,q⟩:=g i _ _ C G;cases e;obtain⟨l,e,J⟩:=g j _ _ E U;cases e;by_cases z:i=j
 ·exact z
 ·exact absurd (by rw[J];simp) (Y i j z a (by rw[q];simp))
omit [Frm] in
theorem SameP.ow(s:SameP K F.pp H H')(a:bb)(_:a∈M)(p:F.pp≠some a)(_:F.H0 a=none):a∈M/\∀x,H a=some x->NT x->H' a=some x:=⟨‹_›,λx e n=>s.keep a x e (nw p n)⟩
theorem RSt.sameP(r:RSt K F M H σ ρ)(s:SameP K F.pp H H'):RSt K F M H' σ ρ:=by
 refine⟨r.len,λi q o g z=>?_,r.ow.keep s.mv λa g z C=>s.ow a g z C,r.sub,r.same.trans s.toSameQ,r.old,r.liv0.sameQ s.toSameQ,r.lk.cl s.mv⟩;have:=r.sl i q o g z;cases q with
 |nil=>trivial|val d=>obtain⟨v,e,h⟩:=this;exact⟨v,e,h.mv s.mv⟩
 |pin w d=>obtain⟨v,e,U,h⟩:=this;exact⟨v,e,U,h.mv s.mv⟩
 |own ds =>
  obtain⟨l,I,e,E,h0,J,Y,G⟩:=this;exact⟨l,I,e,E,h0,J,s.keep l _ Y (nw J),G.mv s.mv⟩
 |obj q=>exact this
theorem RSt.at(r:RSt K F M H σ ρ)(h:ρ[i]?=some s):∃o,σ[i]?=some o/\RSl K F M H s o:=by
 have hi:i<σ.length:=by rw[r.len];exact(zzt.mp h).1
 exact⟨σ[i],by simp[hi],r.sl i s _ h (by simp[hi])⟩
omit [Frm] in
theorem OwF.drop{g:St}{ρ':DS}(h:OwF K F M H σ ρ)(i:Nat)(U:∀j,j≠i->g[j]?=σ[j]?)(J:∀j,j≠i->ρ'[j]?=ρ[j]?)(z:∀s,ρ'[i]?=some s->(∀ds,s ≠ .own ds)/\∀q,s ≠ .obj q):OwF K F M H g ρ' :=
 h.step .refl i U J λA _ _=>⟨[],λs o e _=>(by
  cases s with
  |nil=>trivial|val d=>trivial|pin w d=>trivial|own ds=>exact absurd rfl ((z _ e).1 ds)|obj q=>exact absurd rfl ((z _ e).2 q)),λ_ h=>(by simp at h),λa C _ _ _=>⟨C,λ_ e _=>e⟩⟩
omit [Frm] in
theorem aI{l:ai α}{x y:α}(h:(l.set i x)[i]?=some y):y=x:=by
 have hi:i<l.length:=by have:=(zzt.mp h).1;simpa using this
 simp[hi]at h;exact h.symm
theorem RSt.set(r:RSt K F M H σ ρ){d:D}{v:V}(h:Rep K F.pp M H d v)(i:Nat):RSt K F M H (σ.set i (some v)) (ρ.set i (.val d)):=by
 refine⟨by simp[r.len],λj s o g C=>?_,r.ow.drop i (λj e=>zzO (Ne.symm e)) (λj e=>zzO (Ne.symm e)) (λs e=>?_),r.sub,r.same,r.old,r.liv0,r.lk⟩
 ·by_cases e:i=j
  ·subst e;rw[aI g,aI C];exact⟨v,rfl,h⟩
  ·rw[zzO e]at g C;exact r.sl j s o g C
 ·rw[aI e];exact⟨λds z=>(by cases z),λq z=>(by cases z)⟩
end
end
variable[TB]
section
variable[Frm]
abbrev DE:=DS->(D->DS->Prop)->Prop
variable{ta te:DE}
abbrev DT:=DS->(Bool->DS->Prop)->Prop
abbrev DA:=DS->(ai D->DS->Prop)->Prop
structure DEnds where
 nx:DS->Prop
 rt:D->Prop
 bk:DS->Prop:=λ_=>False
 ct:DS->Prop:=λ_=>False
variable{E:DEnds}
abbrev DTS:=DEnds->DS->Prop
variable{tb:DTS}
def slot:DS->Nat->Sl
 |[],_=>.nil|s::_,0=>s|_::r,n+1=>slot r n
theorem aB{d:DS}{s:Sl}(h:slot d i=s)(n:s ≠ .nil:=by intro z;cases z):d[i]?=some s:=by
 induction d generalizing i with
 |nil=>exact absurd h.symm n|cons x r J=>cases i with
  |zero=>subst h;rfl|succ i=>simpa using J h
section
variable{F:Fx}
def RT(K:zvi){α β:Type}(R:bo bb->ai bb->Hp->α->β->Prop)(T:St->Hp->(β->Hp->Prop)->Prop)(t:DS->(α->DS->Prop)->Prop):Prop :=
 ∀{F:Fx} {M H σ ρ Q P},RSt K F M H σ ρ->t ρ P->(∀{d g M' H' v},P d g->Mv K F.pp M H M' H'->RSt K F M' H' σ g->R F.pp M' H' d v->Q v H')->T σ H Q
def RU(K:zvi){α:Type}(T:St->Hp->(α->Hp->Prop)->Prop)(t:DS->(α->DS->Prop)->Prop):Prop :=
 ∀{F:Fx} {M H σ ρ Q P},RSt K F M H σ ρ->t ρ P->(∀{d g M' H'},P d g->Mv K F.pp M H M' H'->RSt K F M' H' σ g->Q d H')->T σ H Q
def PED(X:Cx)(e:bN)(t:DE):Prop:=∃T:TE,PE X e T/\RT X.K (Rep X.K) T t
def PTD(X:Cx)(e:bN)(t:DT):Prop:=∃T:TT,PT X e T/\RU X.K T t
def PWD(X:Cx)(e:bN)(t:DT):Prop:=∃T:TT,PW X e T/\RU X.K T t
def PAD(X:Cx)(es:ai bN)(t:DA):Prop:=∃T:TA,PA X es T/\RT X.K (Reps X.K) T t
abbrev dC(d:D):DE:=λg Q=>Q d g
theorem PED.con{d:D}(h:PE X e (tC v))(r:∀pp M H,Rep X.K pp M H d v):PED X e (dC d) :=
 ⟨_,h,λrs q k=>k q .refl rs (r _ _ _)⟩
theorem ad{i j pos}:PED X (.Constant (.int i) j pos) (dC (.int i)):=.con bC λ_ _ _=>by simp only[Rep]
theorem gt{i j pos}:PED X (.Constant (.bool i) j pos) (dC (.bl i)):=.con JK λ_ _ _=>by simp only[Rep]
theorem dX{j pos}:PED X (.Constant .none j pos) (dC .non):=.con Gy λ_ _ _=>by simp only[Rep]
theorem fK{i j pos}:PED X (.Constant (.str i) j pos) (dC (.str i)):=.con Gz λ_ _ _=>by simp only[Rep]
theorem lu{n:String}(J:Gl X x)(d:X.mg x=none)(U:bootBuiltins x=some (.type n))(g:x ≠ "__name__":=by decide)(hd:(x==("__debug__" : Str))=false:=by decide):PED X (.Name x pos) (dC (.ty n)) :=
 .con (DW (v:=.ty n) J d U rfl g hd) λ_ _ _=>by simp only[Rep]
def ES(i:Nat)(ρ:DS)(Q:D->DS->Prop):Sl->Prop
 |.val d=>Q d ρ|.own g=>Q (.lst g) (ρ.set i (.val (.lst g)))|.obj q=>Q (fzO q) (ρ.set i (.val (fzO q)))|.pin _ d=>Q d ρ|.nil=>False
abbrev dVar(i:Nat):DE:=λd Q=>ES i d Q (slot d i)
theorem RSt.freeze{K:zvi}{L:DS}{ds:ai D}(r:RSt K F M H σ L)(h:L[i]?=some (.own ds)) :
  ∃M' v,σ[i]?=some (some v)/\Mv K F.pp M H M' H/\RSt K F M' H σ (L.set i (.val (.lst ds)))/\Rep K F.pp M' H (.lst ds) v:=by
 obtain⟨o,I,l,xs,rfl,hm,h0,T,E,hr⟩:=r.at h;have m:Mv K F.pp M H (M.filter λa=>decide (a≠l)) H:=.less λa g=>(zzu.mp g).1;have b:Rep K F.pp (M.filter λa=>decide (a≠l)) H (.lst ds) (.ref l):=by exact⟨l,xs,rfl,by simp,T,E,hr.mv m⟩
 refine⟨_,_,I,m,⟨by simp[r.len],λj s o C G=>?_,r.ow.step m i (λ_ _=>rfl) (λj e=>zzO (Ne.symm e)) (λA y _=>⟨[],λs o e _=>?_,λ_ h=>(by simp at h),λa g _ _ N=>⟨?_,λ_ e _=>e⟩⟩),λa g=>?_,r.same,r.old,?_,r.lk.cl m⟩,b⟩
 ·by_cases e:i=j
  ·subst e;rw[I]at G;rw[aI C];cases G;exact⟨_,rfl,b⟩
  ·rw[zzO e]at C;have q:=r.sl j s o C G;cases s with
   |nil=>trivial|val d=>obtain⟨v,e,q⟩:=q;exact⟨v,e,q.mv m⟩
   |pin w d=>obtain⟨v,e,x,q⟩:=q;exact⟨v,e,x,q.mv m⟩
   |own es =>
    obtain⟨Q,ys,rfl,Y,J,c,U,k⟩:=q;refine⟨Q,ys,rfl,zzu.mpr ⟨Y,?_⟩,J,c,U,k.mv m⟩;by_cases z:Q=l
    ·subst z;exact absurd (r.own i j _ _ _ h C I G) e
    ·simpa using z
   |obj q=>exact ‹_›
 ·rw[aI e];trivial
 ·obtain⟨l2,n,u⟩:=y _ _ h I;cases n;refine zzu.mpr ⟨g,?_⟩;by_cases z:a=l
  ·subst z;exact absurd (by rw[u];simp) N
  ·simpa using z
 ·refine zzu.mpr ⟨r.sub a g,?_⟩;by_cases z:a=l
  ·subst z;exact absurd h0 (r.old a g)
  ·simpa using z
 ·exact⟨λa g=>r.liv.m a (zzu.mp g).1,r.liv.p⟩
theorem RSt.objAt{K:zvi}{d:DS}{q:O}(r:RSt K F M H σ d)(h:d[i]?=some (.obj q)) :
  ∃v A,σ[i]?=some (some v)/\A.Nodup/\RO K F.pp M H q v A/\(∀a∈A,a∈M/\F.H0 a=none/\F.pp≠some a)/\∀(j:Nat) s o,j≠i->d[j]?=some s->σ[j]?=some o->∀l,(∃ds,s=.own ds)->o=some (.ref l)->l∉A:=by
 obtain⟨o,g,_⟩:=r.at h;obtain⟨U,z,c,k⟩:=r.ow;obtain⟨m,v,rfl,Q⟩:=z i _ _ h g;refine⟨v,U i,g,m,Q,c i,λj s o e G I l b J L=>?_⟩;obtain⟨ds,rfl⟩:=b;subst J;obtain⟨l2,C,Y⟩:=z j _ _ G I;cases C;exact k j i e l (by rw[Y];simp) L
theorem RSt.freezeO{K:zvi}{u:DS}{q:O}(r:RSt K F M H σ u)(h:u[i]?=some (.obj q)) :
  ∃M' v,σ[i]?=some (some v)/\Mv K F.pp M H M' H/\RSt K F M' H σ (u.set i (.val (fzO q)))/\Rep K F.pp M' H (fzO q) v:=by
 obtain⟨J,c,U,k⟩:=r.ow;obtain⟨o,b,_⟩:=r.at h;obtain⟨nd,v,rfl,hq⟩:=c i _ _ h b;have m:Mv K F.pp M H (M.filter λa=>decide (a∉J i)) H:=.less λa g=>(zzu.mp g).1;have A:Rep K F.pp (M.filter λa=>decide (a∉J i)) H (fzO q) v:=RO.fz m q v (J i) (λa g=>⟨λz=>absurd g (by simpa using(zzu.mp z).2),(U i a g).2.2⟩) hq;refine⟨_,_,b,m,⟨by simp[r.len],λj s o L Q=>?_,⟨λj=>if j=i then[] else J j,λj s o C G=>?_,λj a g=>?_,λj l e a g I=>?_⟩,λa g=>?_,r.same,r.old,?_,r.lk.cl m⟩,A⟩
 ·by_cases e:i=j
  ·subst e;rw[b]at Q;rw[aI L];cases Q;exact⟨_,rfl,A⟩
  ·rw[zzO e]at L;have n:=r.sl j s o L Q;cases s with
   |nil=>trivial|val d=>obtain⟨v,e,q⟩:=n;exact⟨v,e,q.mv m⟩
   |pin w d=>obtain⟨v,e,ew,q⟩:=n;exact⟨v,e,ew,q.mv m⟩
   |own es =>
    obtain⟨y,ys,rfl,N,Y,T,E,a6⟩:=n;refine⟨y,ys,rfl,zzu.mpr ⟨N,?_⟩,Y,T,E,a6.mv m⟩;obtain⟨l2,G,e3⟩:=c j _ _ L Q;cases G;simpa using k j i (Ne.symm e) y (by rw[e3];simp)
   |obj q=>exact ‹_›
 ·show Ow K F _ H s o (if j=i then[] else J j);by_cases e:j=i
  ·subst e;rw[aI C];trivial
  ·rw[zzg e];rw[zzO (Ne.symm e)]at C;exact(c j s o C G).mv m λa _ x z _=>z
 ·replace g:a∈(if j=i then[] else J j):=g
  by_cases e:j=i
  ·rw[zzi e]at g;simp at g
  ·rw[zzg e]at g;exact⟨zzu.mpr ⟨(U j a g).1,by simpa using k j i e a g⟩,(U j a g).2⟩
 ·replace g:a∈(if j=i then[] else J j):=g
  replace I:a∈(if l=i then[] else J l):=I
  by_cases C:j=i
  ·rw[zzi C]at g;simp at g
  ·by_cases G:l=i
   ·rw[zzi G]at I;simp at I
   ·rw[zzg C]at g;rw[zzg G]at I;exact k j l e a g I
 ·refine zzu.mpr ⟨r.sub a g,?_⟩;have:a∉J i:=λz=>r.old a g (U i a z).2.1;simpa using this
 ·exact⟨λa g=>r.liv.m a (zzu.mp g).1,r.liv.p⟩
theorem HG(i:Nat)(h:PE X e (tVar i)):PED X e (dVar i):=by
 refine⟨_,h,λ{F M H σ s Q P} rs q k=>?_⟩;unfold dVar at q;cases e:slot s i with
 |nil=>rw[e]at q;exact q.elim|val d=>rw[e]at q;obtain⟨o,g,v,rfl,r⟩:=rs.at (aB e);exact⟨v,g,k q .refl rs r⟩
 |pin w d=>rw[e]at q;obtain⟨o,g,v,rfl,_,r⟩:=rs.at (aB e);exact⟨v,g,k q .refl rs r⟩
 |own ds=>rw[e]at q;obtain⟨M',v,g,m,J,r⟩:=rs.freeze (aB e);exact⟨v,g,k q m J r⟩
 |obj z=>rw[e]at q;obtain⟨M',v,g,m,J,r⟩:=rs.freezeO (aB e);exact⟨v,g,k q m J r⟩
def OpT(K:zvi)(r:R2)(g:D->D->(D->Prop)->Prop):Prop:=∀{pp M H x y v u Q P},Lv pp M H->Rep K pp M H x v->Rep K pp M H y u->g x y P->(∀{d H' w},P d->SameP K pp H H'->Rep K pp M H' d w->Q w H')->r v u H Q
def OpD(X:Cx)(f:av->av->Sem av)(g:D->D->(D->Prop)->Prop):Prop:=∃r:R2,OpR X f r/\OpT X.K r g
abbrev dOp(g:D->D->(D->Prop)->Prop)(ta tb:DE):DE:=λq Q=>ta q λx J=>tb J λy U=>g x y λd=>Q d U
variable{a b:bN}{ta tb tc:DE}{g g':D->D->(D->Prop)->Prop}
theorem nv{g:D->D->(D->Prop)->Prop}{r:R2}{Ta:TE}(Y:OpT X.K r g)(G:RT X.K (Rep X.K) Ta ta)(I:RT X.K (Rep X.K) Tb tb):RT X.K (Rep X.K) (tOp r Ta Tb) (dOp g ta tb):=λrs h k =>
 G rs h λh q U z=>I U h λh d J C=>Y J.liv (z.mv d) C h λh s r=>k h ((q.trans d).trans s.mv) (J.sameP s) r
theorem aP{op:Operator}(s:OpD X (binaryOp op) g)(d:PED X a ta)(q:PED X b tb):PED X (.BinOp a op b pos) (dOp g ta tb):=by obtain⟨r,U,J⟩:=s;obtain⟨Ta,Y,C⟩:=d;obtain⟨Tb,z,G⟩:=q;exact⟨_,db U Y z,nv J C G⟩
theorem jQ(z:OpD X (compareOp op) g)(d:PED X a ta)(q:PED X b tb)(s:behindInMarks op b=false:=by exact lF _):PED X (.Compare a [op] [b] pos) (dOp g ta tb):=by obtain⟨r,U,J⟩:=z;obtain⟨Ta,Y,G⟩:=d;obtain⟨Tb,C,I⟩:=q;exact⟨_,Ef U Y C s,nv J G I⟩
def blD:D->(Bool->Prop)->Prop
 |.bl b,P=>P b|_,_=>False
abbrev dB(t:DE):DT:=λs Q=>t s λd q=>blD d λb=>Q b q
theorem ny{K:zvi}{pp:bo bb}{d:D}{P:Bool->Prop}(r:Rep K pp M H d v)(h:blD d P):∃k,v=.bl k/\P k:=by cases d<;>first|exact h.elim|(simp only[Rep]at r;exact⟨_,r,h⟩)
theorem rtb{T:TE}(r:RT X.K (Rep X.K) T ta):RU X.K (tB T) (dB ta):=λrs h k=>r rs h λh m J r=>by obtain⟨c,e,h⟩:=ny r h;exact⟨c,e,k h m J⟩
theorem aj(z:OpD X (compareOp op) g)(d:PED X a ta)(q:PED X b tb)(s:behindInMarks op b=false:=by exact lF _):PTD X (.Compare a [op] [b] pos) (dB (dOp g ta tb)):=by obtain⟨r,U,J⟩:=z;obtain⟨Ta,Y,G⟩:=d;obtain⟨Tb,C,I⟩:=q;exact⟨_,jy U Y C s,rtb (nv J G I)⟩
theorem aE{t:DE}(h:PED X e t)(he:∀whole,isTrue e X.env whole=(do let v ←whole;standAt e.pos;holding [v] (truthy v)):=by intro _;rfl):PTD X e (dB t):=by obtain⟨T,p,r⟩:=h;exact⟨_,GA p he,rtb r⟩
structure Br(b:Bool)(A B:Prop):Prop where
 yes:b=true->A
 no:b=false->B
theorem Br.t{B:Prop}(h:A):Br true A B:=⟨λ_=>h,λe=>nomatch e⟩
theorem Br.f{B:Prop}(h:B):Br false A B:=⟨(λe=>nomatch e),λ_=>h⟩
abbrev dNot(t:DT):DT:=λq Q=>t q λb d=>Q (!b) d
abbrev dAnd(t u:DT):DT:=λq Q=>t q λb d=>Br b (u d Q) (Q false d)
abbrev dOr(t u:DT):DT:=λq Q=>t q λb d=>Br b (Q true d) (u d Q)
variable{tA tB:DT}{rest:ai bN}
theorem bG(h:PTD X a tA):PTD X (.UnaryOp .Not a pos) (dNot tA):=by obtain⟨T,p,r⟩:=h;exact⟨_,GD p,λrs q k=>r rs q λq=>k q⟩
theorem PWD.pt{e:bN}{t:DT}(h:PWD X e t):PTD X e t:=by obtain⟨T,p,r⟩:=h;exact⟨T,p.pt,r⟩
theorem fc(h:PTD X a tA):PWD X (.BoolOp .And [a] pos) tA:=by obtain⟨T,p,r⟩:=h;exact⟨T,DX p,r⟩
theorem dY(h:PTD X a tA):PWD X (.BoolOp .Or [a] pos) tA:=by obtain⟨T,p,r⟩:=h;exact⟨T,CD p,r⟩
theorem iN(d:PTD X a tA)(z:PWD X (.BoolOp .And (b::rest) pos) tB):PWD X (.BoolOp .And (a::b::rest) pos) (dAnd tA tB):=by
 obtain⟨T,p,r⟩:=d;obtain⟨U,q,s⟩:=z;refine⟨_,GB p q,λrs h k=>r rs h λ{c _ _ _} h m J=>?_⟩;cases c with
 |true=>exact iteT (s J (h.yes rfl) λh C=>k h (m.trans C))
 |false=>exact iteF (k (h.no rfl) m J)
theorem io(d:PTD X a tA)(z:PWD X (.BoolOp .Or (b::rest) pos) tB):PWD X (.BoolOp .Or (a::b::rest) pos) (dOr tA tB):=by
 obtain⟨T,p,r⟩:=d;obtain⟨U,q,s⟩:=z;refine⟨_,GC p q,λrs h k=>r rs h λ{c _ _ _} h m J=>?_⟩;cases c with
 |true=>exact iteT (k (h.yes rfl) m J)|false=>exact iteF (s J (h.no rfl) λh C=>k h (m.trans C))
abbrev Km(t:DE):DE:=λs Q=>t s λd q=>blD d λb=>Q (.bl (!b)) q
abbrev Kn(t u:DE):DE:=λs Q=>t s λd q=>blD d λb=>Br b (u q Q) (Q (.bl false) q)
theorem df{K:zvi}{pp:bo bb}{b:Bool}:Rep K pp M H (.bl b) (.bl b):=by simp only[Rep]
theorem bx{K:zvi}{pp:bo bb}{b:Int}:Rep K pp M H (.int b) (.int b):=by simp only[Rep]
theorem uq{op}{t:DE}(h:PED X a t):PED X (.BoolOp op [a] pos) t:=by obtain⟨T,p,r⟩:=h;exact⟨T,GE p,r⟩
theorem HH(h:PED X a ta):PED X (.UnaryOp .Not a pos) (Km ta):=by obtain⟨T,p,r⟩:=h;refine⟨_,GG p,λrs q k=>r rs q λq m J r=>?_⟩;obtain⟨b,e,q⟩:=ny r q;exact⟨b,e,k q m J df⟩
theorem ur(d:PED X a ta)(z:PED X (.BoolOp .And (b::rest) pos) tb):PED X (.BoolOp .And (a::b::rest) pos) (Kn ta tb):=by
 obtain⟨T,p,r⟩:=d;obtain⟨U,q,s⟩:=z;refine⟨_,GF p q,λrs h k=>r rs h λh m J G=>?_⟩;obtain⟨c,e,h⟩:=ny G h;refine⟨c,e,?_⟩;cases c with
 |true=>exact iteT (s J (h.yes rfl) λh C=>k h (m.trans C))
 |false=>exact iteF (k (h.no rfl) m J df)
abbrev dIf(t:DT)(ta tb:DE):DE:=λq Q=>t q λb d=>Br b (ta d Q) (tb d Q)
theorem nA{c:bN}(G:PTD X c tA)(z:PED X a ta)(C:PED X b tb):PED X (.IfExp c a b pos) (dIf tA ta tb):=by
 obtain⟨T,p,r⟩:=G;obtain⟨U,q,s⟩:=z;obtain⟨U',I,L⟩:=C;refine⟨_,Ax p q I,λrs h k=>r rs h λ{c _ _ _} h m J=>?_⟩;cases c with
 |true=>exact iteT (s J (h.yes rfl) λh d=>k h (m.trans d))
 |false=>exact iteF (L J (h.no rfl) λh d=>k h (m.trans d))
abbrev CN(g g':D->D->(D->Prop)->Prop)(ta tb tc:DE):DE:=λq Q=>ta q λx U=>tb U λy J=>g x y λd=>blD d λk=>Br k (tc J λz Y=>g' y z λd=>Q d Y) (Q (.bl false) J)
theorem vZ(p:OpD X (compareOp op) g)(L:OpD X (compareOp op') g')(j:PED X a ta)(l:PED X b tb)(m:PED X c tc) :
  ∃(r d:R2) (Ta Tb Y:TE),OpR X (compareOp op) r/\OpR X (compareOp op') d/\PE X a Ta/\PE X b Tb/\PE X c Y/\RT X.K (Rep X.K) (CF r d Ta Tb Y) (CN g g' ta tb tc):=by
 obtain⟨r,u,n⟩:=p;obtain⟨d,Q,I⟩:=L;obtain⟨Ta,w,H⟩:=j;obtain⟨Tb,x,M⟩:=l;obtain⟨Y,y,N⟩:=m;refine⟨r,d,Ta,Tb,Y,u,Q,w,x,y,λrs h k=>H rs h λh v i A=>M i h λh q J G=>n J.liv (A.mv q) G h λh s r=>?_⟩;obtain⟨b,e,h⟩:=ny r h;refine⟨b,e,?_⟩;have z:=(v.trans q).trans s.mv;cases b with
 |false=>exact iteF (k (h.no rfl) z (J.sameP s) df)|true=>exact iteT (N (J.sameP s) (h.yes rfl) λh C U E=>I U.liv ((G.mv s.mv).mv C) E h λh s r=>k h ((z.trans C).trans s.mv) (U.sameP s) r)
theorem ut(C:OpD X (compareOp op) g)(J:OpD X (compareOp op') g')(d:PED X a ta)(q:PED X b tb)(s:PED X c tc)(z:lastMarks [op,op'] [b,c]=false:=by with_unfolding_all rfl):PED X (.Compare a [op,op'] [b,c] pos) (CN g g' ta tb tc):=by obtain⟨r,r',Ta,Tb,Tc,Y,U,G,I,L,h⟩:=vZ C J d q s;exact⟨_,AC Y U G I L z,h⟩
variable{tL:DA}
abbrev fQ:DA:=λd Q=>Q [] d
abbrev bD(t:DE)(u:DA):DA:=λq Q=>t q λx J=>u J λd U=>Q (x::d) U
theorem cB:PAD X [] fQ :=
 ⟨_,cJ,λrs h k=>k h .refl rs .nil⟩
theorem aa(z:PED X e ta)(C:PAD X es tL)(G:starEach (e::es) X.env=(false,eval e X.env)::starEach es X.env:=by rfl):PAD X (e::es) (bD ta tL):=by obtain⟨T,p,r⟩:=z;obtain⟨U,q,s⟩:=C;exact⟨_,bh p q G,λrs h k=>r rs h λh m J r=>s J h λh d Y I=>k h (m.trans d) Y (.cons (r.mv d) I)⟩
abbrev dTup(t:DA):DE:=λq Q=>t q λd J=>d.length<=sizeLine/\Q (.tup d) J
theorem ay{x1}(h:PAD X es tL):PED X (.Tuple es x1 pos) (dTup tL):=by obtain⟨T,p,r⟩:=h;refine⟨_,GV p,λrs q k=>r rs q λq m U d=>⟨by rw[←d.length];exact q.1,λl J=>k q.2 (m.trans (.new J)) (U.sameP (.new J)) ?_⟩⟩;exact⟨l,_,rfl,ae,d.mv (.new J)⟩
def RL(K:zvi)(T:TE)(t:DA):Prop:=∀{F:Fx} {M H σ ρ Q P},RSt K F M H σ ρ->t ρ P->(∀{q d M' H' l s},P q d->Mv K F.pp M H M' H'->RSt K F M' H' σ d->H' l=none->Reps K F.pp M' H' q s->Q (.ref l) (upd H' l (.lst s)))->T σ H Q
def PLD(X:Cx)(e:bN)(t:DA):Prop:=∃T:TE,PE X e T/\RL X.K T t
abbrev dLst(t:DA):DA:=λq Q=>t q λd J=>d.length<=sizeLine/\Q d J
theorem bW(h:PAD X es tL):PLD X (.List es pos) (dLst tL):=by obtain⟨T,p,r⟩:=h;exact⟨_,xy p,λrs q k=>r rs q λq m J d=>⟨by rw[←d.length];exact q.1,λl U=>k q.2 m J U d⟩⟩
abbrev dFrz(t:DA):DE:=λq Q=>t q λd J=>Q (.lst d) J
theorem ff(h:PLD X e tL):PED X e (dFrz tL):=by obtain⟨T,p,r⟩:=h;refine⟨T,p,λrs q k=>r rs q λq m J U d=>k q (m.trans (.new U)) (J.sameP (.new U)) ?_⟩;exact⟨_,_,rfl,(J.liv.fresh U).1,(J.liv.fresh U).2,ae,d.mv (.new U)⟩
end
abbrev DSp:=ai D->(D->Prop)->Prop
def spD(K:zvi)(n:Nat)(g:DSp):Sp:=λvs H Q _=>∃pp M q P,Lv pp M H/\Reps K pp M H q vs/\q.length=n/\g q P/\∀{d H' v},P d->SameP K pp H H'->Rep K pp M H' d v->Q v H'
def CallD(X:Cx)(f:av)(g:DSp):Prop:=∃r:ai V->Hp->VK->Prop,cZ X f r/\∀{pp M H q vs Q P},Lv pp M H->Reps X.K pp M H q vs->g q P->(∀{d H' w},P d->SameP X.K pp H H'->Rep X.K pp M H' d w->Q w H')->r vs H Q
abbrev dCB(g:DSp)(t:DA):DE:=λs Q=>t s λq J=>g q λd=>Q d J
abbrev Bp(n:Nat)(g:DSp)(t:DA):DE:=λs Q=>t s λq J=>q.length=n/\g q λd=>Q d J
section
variable{x:Str}{p:Pos}{t:DA}{id T:String}{g:DSp}
theorem aC(z:CallD X (.builtin id) g)(G:X.mg x=none)(Q:bootBuiltins x=some (.builtin id))(d:PAD X (e::es) t)(C:Gl X x:=by rfl)(I:x ≠ "__name__":=by decide)(U:(x==("__debug__" : Str))=false:=by decide)
  (he:starEach (e::es) X.env=(false,eval e X.env)::starEach es X.env:=by rfl) (Y:(backTo pos (starEach es X.env)).any (·.1)=false:=by rfl):PED X (.Call (.Name x p) (e::es) [] pos) (dCB g t):=by
 obtain⟨r,L,h⟩:=z;obtain⟨T,a,c⟩:=d;exact⟨_,gb L C G Q a I U he Y,λrs q k=>c rs q λq m J b=>h J.liv b q λq s r=>k q (m.trans s.mv) (J.sameP s) r⟩
theorem aU(z:CallD X (.type T) g)(G:X.mg x=none)(d:PAD X (e::es) t)(C:Gl X x:=by rfl)(Q:bootBuiltins x=some (.type T):=by rfl)(I:x ≠ "__name__":=by decide)(U:(x==("__debug__" : Str))=false:=by decide)
  (he:starEach (e::es) X.env=(false,eval e X.env)::starEach es X.env:=by rfl) (Y:(backTo pos (starEach es X.env)).any (·.1)=false:=by rfl):PED X (.Call (.Name x p) (e::es) [] pos) (dCB g t):=by
 obtain⟨r,L,h⟩:=z;obtain⟨T,a,c⟩:=d;exact⟨_,jz L C G Q a I U he Y,λrs q k=>c rs q λq m J b=>h J.liv b q λq s r=>k q (m.trans s.mv) (J.sameP s) r⟩
end
structure EO(K:zvi)(F:Fx)(M:List Addr)(H:Hp)(E:DEnds)(D:Ends):Prop where
 nx:∀{M' H' σ' ρ'},Mv K F.pp M H M' H'->RSt K F M' H' σ' ρ'->E.nx ρ'->D.nx σ' H'
 bk:∀{M' H' σ' ρ'},Mv K F.pp M H M' H'->RSt K F M' H' σ' ρ'->E.bk ρ'->D.bk σ' H'
 ct:∀{M' H' σ' ρ'},Mv K F.pp M H M' H'->RSt K F M' H' σ' ρ'->E.ct ρ'->D.ct σ' H'
 rt:∀{M' H' σ' ρ' d v},Mv K F.pp M H M' H'->RSt K F M' H' σ' ρ'->Rep K F.pp M' H' d v->E.rt d->D.rt v H'
theorem EO.mv{K:zvi}{F:Fx}{D:Ends}(o:EO K F M H E D)(m:Mv K F.pp M H M1 H'):EO K F M1 H' E D :=
 ⟨λJ=>o.nx (m.trans J),λJ=>o.bk (m.trans J),λJ=>o.ct (m.trans J),λJ=>o.rt (m.trans J)⟩
def RS(K:zvi)(T:TS)(t:DTS):Prop:=∀{F:Fx} {M H σ ρ E D},RSt K F M H σ ρ->t E ρ->EO K F M H E D->T D σ H
def PSD(X:Cx)(st:Stmt)(t:DTS):Prop:=∃T:TS,PS X st T/\RS X.K T t
def PSsD(X:Cx)(st:ai Stmt)(t:DTS):Prop:=∃T:TS,PSs X st T/\RS X.K T t
section
variable{F:Fx}{st:Stmt}{rest a b:ai Stmt}{t u:DTS}{te:DE}{tc:DT}{tl:DA}
abbrev wd:DTS:=λE d=>E.nx d
abbrev dSeq(t u:DTS):DTS:=λE d=>t {E with nx:=u E} d
abbrev dMid(t u:DTS):DTS:=λE g=>∃N:DS->Prop,t {E with nx:=N} g/\∀d,N d->u E d
theorem ET:PSsD X [] wd :=
 ⟨_,mI,λrs h o=>o.nx .refl rs h⟩
theorem ag(h:PSD X st t):PSsD X [st] t:=by obtain⟨T,p,r⟩:=h;exact⟨T,eJ p,r⟩
theorem ac(d:PSD X st t)(g:PSsD X rest u):PSsD X (st::rest) (dSeq t u):=by obtain⟨T,p,r⟩:=d;obtain⟨U,q,s⟩:=g;exact⟨_,bn p q,λrs h o=>r rs h ⟨λm J h=>s J h (o.mv m),o.bk,o.ct,o.rt⟩⟩
theorem aw(d:PSD X st t)(g:PSsD X rest u):PSsD X (st::rest) (dMid t u):=by obtain⟨T,p,r⟩:=d;obtain⟨U,q,s⟩:=g;refine⟨_,bn p q,λrs h o=>?_⟩;obtain⟨N,h,z⟩:=h;exact r rs h ⟨λm J h=>s J (z _ h) (o.mv m),o.bk,o.ct,o.rt⟩
abbrev Ko:DTS:=λE d=>E.ct d
theorem rK:PSD X (.Continue pos) Ko :=
 ⟨_,qS,λrs h o=>o.ct .refl rs h⟩
abbrev yw:DTS:=λ_ _=>False
theorem Bs:PSD X st yw :=
 ⟨_,Az,λ_ h _=>h⟩
abbrev dRet(te:DE):DTS:=λE g=>te g λd _=>E.rt d
theorem yx(h:PED X e te):PSD X (.Return (some e) pos) (dRet te):=by obtain⟨T,p,r⟩:=h;exact⟨_,jv p,λrs q o=>r rs q λq m J d=>o.rt m J d q⟩
abbrev Kq(te:DE):DTS:=λE g=>te g λ_ d=>E.nx d
theorem aY(h:PED X e te)(d:swapsWith e none pos.line X.env=pure false:=by rfl):PSD X (.Expr e pos) (Kq te):=by obtain⟨T,p,r⟩:=h;exact⟨_,jt p d,λrs q o=>r rs q λq m J r'=>o.nx m J q⟩
abbrev dIfS(c:DT)(t u:DTS):DTS:=λE g=>c g λb d=>Br b (t E d) (u E d)
theorem HI(z:PTD X c tc)(d:PSsD X a t)(g:PSsD X b u):PSD X (.If c a b pos) (dIfS tc t u):=by
 obtain⟨T,p,r⟩:=z;obtain⟨U,q,s⟩:=d;obtain⟨U',C,G⟩:=g;refine⟨_,Ay p q C,λrs h o=>r rs h λ{k _ _ _} h m J=>?_⟩;cases k with
 |true=>exact iteT (s J (h.yes rfl) (o.mv m))|false=>exact iteF (G J (h.no rfl) (o.mv m))
abbrev dSet(i:Nat)(te:DE):DTS:=λE q=>te q λd g=>E.nx (g.set i (.val d))
theorem HJ(d:X.N.Nodup)(hi:X.N[i]?=some x)(U:Loc X.env.scope x)(h:PED X e te)(g:swapsWith e (some (.Name x py)) pos.line X.env=pure false:=by rfl)(hf:X.fn x=true∨X.env.scope.names.lookup x=some .local:=by first|exact .inl rfl|exact .inr rfl|assumption) :
  PSD X (.Assign [.Name x py] e pos) (dSet i te):=by
 obtain⟨T,p,r⟩:=h;exact⟨_,fH d hi U p g hf,λrs q o=>r rs q λq m J s=>o.nx m (J.set s i) q⟩
abbrev dOwn(i:Nat)(t:DA):DTS:=λE q=>t q λg d=>E.nx (d.set i (.own g))
theorem RSt.newOwn{K:zvi}{M:ai bb}{H:Hp}{σ:St}{L:DS}{l:bb}{xs:ai V}{ds:ai D}(r:RSt K F M H σ L)(J:H l=none)(hd:Reps K F.pp M H ds xs)(i:Nat) :
  RSt K F (l::M) (upd H l (.lst xs)) (σ.set i (some (.ref l))) (L.set i (.own ds)):=by
 have m:Mv K F.pp M H (l::M) (upd H l (.lst xs)):=.newOwn J;have s:SameP K F.pp H (upd H l (.lst xs)):=.new J;have h0:F.H0 l=none:=by
  cases e:F.H0 l with
  |none=>rfl|some o=>exact absurd J (r.same.live l (by rw[e];intro z;cases z))
 refine⟨by simp[r.len],λj q o G I=>?_,r.ow.step m i (λj e=>zzO (Ne.symm e)) (λj e=>zzO (Ne.symm e)) (λA _ _=>⟨[l],λs o n u=>?_,λb E=>?_,λa g hp U _=>⟨zzf _ g,λx e _=>cG J e⟩⟩),λa g=>zzf _ (r.sub a g),r.same.trans s.toSameQ,r.old,?_,r.lk.cl m⟩
 ·by_cases e:i=j
  ·subst e;rw[aI G,aI I];exact⟨l,xs,rfl,zzd,h0,(r.liv.fresh J).2,ae,hd.mv m⟩
  ·rw[zzO e]at G I;have C:=r.sl j q o G I;cases q with
   |nil=>trivial|val d=>obtain⟨v,e,q⟩:=C;exact⟨v,e,q.mv m⟩
   |pin w d=>obtain⟨v,e,y,q⟩:=C;exact⟨v,e,y,q.mv m⟩
   |own es =>
    obtain⟨N,ys,rfl,Q,U,c,Y,k⟩:=C;exact⟨N,ys,rfl,zzf _ Q,U,c,cG J Y,k.mv m⟩
   |obj q=>exact C
 ·rw[aI n,aI u];exact⟨l,rfl,rfl⟩
 ·rw[zzy.mp E];exact⟨zzd,h0,(r.liv.fresh J).2,.inr (r.liv.fresh J).1⟩
 ·refine⟨λa g=>?_,λp e=>s.live p (r.liv.p p e)⟩;rcases zzr.mp g with rfl|g
  ·rw[ae];intro z;cases z
  ·exact s.live a (r.liv.m a g)
theorem HK(d:X.N.Nodup)(hi:X.N[i]?=some x)(Y:Loc X.env.scope x)(h:PLD X e tl)(g:swapsWith e (some (.Name x py)) pos.line X.env=pure false:=by rfl)(hf:X.fn x=true∨X.env.scope.names.lookup x=some .local:=by first|exact .inl rfl|exact .inr rfl|assumption) :
  PSD X (.Assign [.Name x py] e pos) (dOwn i tl):=by
 obtain⟨T,p,r⟩:=h;exact⟨_,fH d hi Y p g hf,λrs q o=>r rs q λq m J U s=>o.nx (m.trans (.newOwn U)) (J.newOwn U s i) q⟩
abbrev DG:=D->DS->(DS->Prop)->Prop
variable{g:DG}
def PGD(X:Cx)(tg:bN)(g:DG):Prop:=∃G:TG,PG X tg G/\∀{F:Fx} {M H σ ρ d v Q P},RSt X.K F M H σ ρ->Rep X.K F.pp M H d v->g d ρ P->(∀{q M' H' s},P q->Mv X.K F.pp M H M' H'->RSt X.K F M' H' s q->Q s H')->G v σ H Q
abbrev bX(i:Nat):DG:=λd q Q=>Q (q.set i (.val d))
theorem yy(d:X.N.Nodup)(hi:X.N[i]?=some x)(J:Loc X.env.scope x)(hf:X.fn x=true∨X.env.scope.names.lookup x=some .local:=by first|exact .inl rfl|exact .inr rfl|assumption):PGD X (.Name x pos) (bX i) :=
 ⟨_,mJ d hi J hf,λrs r h k=>k h .refl (rs.set r i)⟩
abbrev DGs:=ai D->DS->(DS->Prop)->Prop
def PGsD(X:Cx)(tg:ai bN)(g:DGs):Prop:=∃G:TGs,PGs X tg G/\∀{F:Fx} {M H σ ρ ds vs Q P},RSt X.K F M H σ ρ->Reps X.K F.pp M H ds vs->g ds ρ P->(∀{d M' H' q},P d->Mv X.K F.pp M H M' H'->RSt X.K F M' H' q d->Q q H')->G vs σ H Q
def EU:DGs:=λd q Q=>match d with
 |[]=>Q q|_=>False
def pH(g:DG)(u:DGs):DGs:=λs z Q=>match s with
 |d::r=>g d z λq=>u r q Q|[]=>False
theorem rL:PGsD X [] EU:=by
 refine⟨_,xq,λ{F M H σ ρ d vs Q P} rs r h k=>?_⟩;cases d with
 |nil=>simp only[Reps]at r;exact⟨r,k h .refl rs⟩|cons=>exact h.elim
theorem cQ{e:bN}{u:DGs}(s:PGD X e g)(z:PGsD X es u)(C:(assignEach (e::es) X.env).map (·.2)=assign e X.env::(assignEach es X.env).map (·.2):=by rfl):PGsD X (e::es) (pH g u):=by
 obtain⟨G,p,r⟩:=s;obtain⟨G',Y,L⟩:=z;refine⟨_,jf p Y C,λ{F M H σ ρ q vs Q P} rs J h k=>?_⟩;cases q with
 |nil=>exact h.elim|cons d q =>
  obtain⟨v,b,rfl,J,a⟩:=J;exact⟨v,b,rfl,r rs J h λh m U=>L U (a.mv m) h λh I=>k h (m.trans I)⟩
def Bu(n:Nat)(g:DGs):DG:=λd s Q=>match d with
 |.tup q=>q.length=n/\g q s Q|_=>False
theorem HL{g:DGs}(z:X.calm=true)(h:PGsD X es g)(C:(assignEach es X.env).length=n:=by rfl)(U:(assignEach es X.env).findIdx? (·.1)=none:=by rfl):PGD X (.Tuple es k pos) (Bu n g):=by
 obtain⟨G,p,r⟩:=h;refine⟨_,Ex z p C U,λ{F M H σ ρ d v Q P} rs J q k=>?_⟩;cases d with
 |tup ds =>
  obtain⟨a,I,rfl,s,J⟩:=J;exact⟨a,I,rfl,s,by rw[←J.length];exact q.1,r rs J q.2 k⟩
 |_=>exact q.elim
abbrev dAsg(te:DE)(g:DG):DTS:=λE s=>te s λd q=>g d q E.nx
theorem HM(he:PED X e te)(J:PGD X tg g)(hs:swapsWithSole [tg] e pos.line X.env=pure false:=by rfl)(hw:swappedStores [tg] e X.env=pure none:=by rfl)(d:PS X (.Assign [tg] e pos) (tAsg (Classical.choose he) (Classical.choose J)):=by exact oN (zye he).1 (zye J).1):PSD X (.Assign [tg] e pos) (dAsg te g) :=
 ⟨_,d,λrs q o=>(zye he).2 rs q λq m U z=>(zye J).2 U z q λq s Y=>o.nx (m.trans s) Y q⟩
def dZ(g:DG)(b:DTS):ai D->DEnds->DS->Prop
 |[],E,s=>E.nx s|d::r,E,s=>g d s λJ=>b {E with nx:=λq=>dZ g b r E q,ct:=λq=>dZ g b r E q,bk:=E.nx} J
structure ItOkV(K:zvi)(pp:Option Addr)(J:It)(M:List Addr)(H:Hp)(vs:List V):Prop where
 yld:∀M2 H2,Mv K pp M H M2 H2->∀i x H3,i<vs.length->J.yld i H2 x H3->H3=H2/\vs[i]? = some x
 go:∀M2 H2,Mv K pp M H M2 H2->∀i,i<vs.length->J.go i H2
 stop:∀M2 H2,Mv K pp M H M2 H2->∀i,vs.length <= i->J.stop i H2
structure ItOk(K:zvi)(pp:Option Addr)(J:It)(M:List Addr)(H:Hp)(ds:List D):Prop where
 yld:∀M2 H2,Mv K pp M H M2 H2->∀i d x H3,ds[i]? = some d->J.yld i H2 x H3->SameP K pp H2 H3/\Rep K pp M2 H3 d x
 go:∀M2 H2,Mv K pp M H M2 H2->∀i,i<ds.length->J.go i H2
 stop:∀M2 H2,Mv K pp M H M2 H2->∀i,ds.length <= i->J.stop i H2
theorem ItOkV.of{K:zvi}{pp:bo bb}{J:It}{ds:ai D}(o:ItOkV K pp J M H vs)(U:Reps K pp M H ds vs):ItOk K pp J M H ds where
 yld:=λM2 q m i d x C e y=>by obtain⟨v,s,r⟩:=U.get' e;obtain⟨rfl,z⟩:=o.yld M2 q m i x C (zzt.mp s).1 y;rw[s]at z;cases z;exact⟨.refl,r.mv m⟩
 go:=λM2 q m i h=>o.go M2 q m i (by rw[←U.length];exact h)
 stop:=λM2 q m i h=>o.stop M2 q m i (by rw[←U.length];exact h)
def PID(X:Cx)(tg iter:bN)(t:DA):Prop:=∃d:TI,PI X tg iter d/\RT X.K (λpp M H q J=>ItOk X.K pp J M H q) d t
abbrev dFor(t:DA)(g:DG)(b:DTS):DTS:=λE s=>t s λq d=>dZ g b q E d
theorem aM{iter:bN}{body:ai Stmt}{t:DA}(hi:PID X tg iter t)(hg:PGD X tg g)(hb:PSsD X body tb)(hp:PassesOwn (model X.prog X.w) X.A X.env X.xe:=by exact PassesOwn.never)(hc:X.calm=true:=by rfl)(hs:∀x,foldedSetIterable iter X.env x=pure x:=by intro _;rfl):PSD X (.For tg iter body [] pos) (dFor t g tb):=by
 obtain⟨wi,pi,ri⟩:=hi;obtain⟨G,pg,rg⟩:=hg;obtain⟨T,p,r⟩:=hb;refine⟨_,GL hp hc pi pg p hs,λ{F M H σ ρ E D} rs h o=>ri rs h λ{d a9 M1 k J} h j N ok=>?_⟩;refine⟨λi m n I=>∃M2 c,m=d.length - i/\i<=d.length/\Mv X.K F.pp M1 k M2 I/\RSt X.K F M2 I n c/\dZ g tb (d.drop i) E c,⟨d.length,M1,a9,rfl,zzT _,.refl,N,h⟩,?_⟩;rintro i m n I ⟨M2,c,rfl,hi2,s,l,a⟩;by_cases Y:i<d.length
 ·have e1:d[i]?=some d[i]:=by simp[Y]
  rw[zxe Y]at a;refine .inr ⟨ok.go M2 I s i Y,λQ H'=>∃M' q,Mv X.K F.pp M1 k M' H'/\RSt X.K F M' H' Q q/\dZ g tb (d.drop (i+1)) E q,λQ H' ⟨M',q,mm,v,h'⟩=>⟨d.length - (i+1),by lia,M',q,rfl,Y,mm,v,h'⟩,λx u y=>?_⟩;obtain⟨L,rx⟩:=ok.yld M2 I s i _ x u e1 y;exact rg (l.sameP L) rx a λh3 b a8=>r a8 h3 ⟨λC U z=>⟨_,_,(((s.trans L.mv).trans b).trans C),U,z⟩,λC U z=>o.nx (((j.trans (s.trans L.mv)).trans b).trans C) U z,λC U z=>⟨_,_,((s.trans L.mv).trans b).trans C,U,z⟩,λC U r4 z=>o.rt (((j.trans (s.trans L.mv)).trans b).trans C) U r4 z⟩
 ·have e:i=d.length:=by lia
  have hd:d.drop i=[]:=by rw[zwQ];lia
  rw[hd]at a;exact .inl ⟨ok.stop M2 I s i (by lia),o.nx (j.trans s) l a⟩
abbrev Kr(te:DE):DA:=λz Q=>te z λd q=>match d with
 |.lst s=>Q s q|_=>False
abbrev Ks(te:DE):DA:=λz Q=>te z λd q=>match d with
 |.tup s=>Q s q|_=>False
theorem ar{l:bN}(G:PED X l te):PID X tg l (Kr te):=by
 obtain⟨T,p,r⟩:=G;refine⟨_,DZ p,λrs h k=>r rs h λ{d _ _ _ _} h m Y U=>?_⟩;cases d<;>first|exact h.elim|skip
 obtain⟨a,q,rfl,C,J,z,U⟩:=U;exact⟨a,rfl,⟨q,SqL.of z⟩,k h m Y (ItOkV.of ⟨λ_ _ s _ _ _ _ y=>⟨y.1,y.2 q (SqL.of (s.lst a q z C J).1)⟩,λ_ _ s i hi=>⟨q,q[i],SqL.of (s.lst a q z C J).1,by simp[hi]⟩,λ_ _ s _ hi=>⟨q,SqL.of (s.lst a q z C J).1,hi⟩⟩ U)⟩
theorem iO{l:bN}(Y:PED X l te):PID X tg l (Ks te):=by
 obtain⟨T,p,r⟩:=Y;refine⟨_,GK p,λrs h k=>r rs h λ{d _ _ _ _} h m U J=>?_⟩;cases d<;>first|exact h.elim|skip
 obtain⟨a,q,rfl,z,J⟩:=J;exact⟨a,rfl,⟨q,SqT.of z⟩,k h m U (ItOkV.of ⟨λ_ _ s _ _ _ _ y=>⟨y.1,y.2 q (SqT.of (s.tup a q z))⟩,λ_ _ s i hi=>⟨q,q[i],SqT.of (s.tup a q z),by simp[hi]⟩,λ_ _ s _ hi=>⟨q,SqT.of (s.tup a q z),hi⟩⟩ J)⟩
def eX(lo:Int):Nat->ai D
 |0=>[]|n+1=>.int lo::eX (lo+1) n
theorem fA{K:zvi}{pp:bo bb}{M:ai bb}{H:Hp}:∀(n:Nat) (lo:Int),Reps K pp M H (eX lo n) ((List.range n).map λ(i:Nat)=>V.int (lo+i))
 |0,_=>by simp[eX,Reps]
 |n+1,lo=>by rw[List.range_succ_eq_map,zzh,eX];refine .cons (by simp[Rep]) ?_;have:=fA (K:=K) (pp:=pp) (M:=M) (H:=H) n (lo+1);rw[zzk];refine(congrArg (Reps K pp M H (eX (lo+1) n)) (zzF λi _=>?_)).mp this;lia
abbrev diR1(t:DA):DA:=λs Q=>t s λq d=>match q with
 |[.int j]=>(-(2^62)<=j/\j<2^62)/\Q (eX 0 j.toNat) d|_=>False
abbrev diR2(t:DA):DA:=λs Q=>t s λq d=>match q with
 |[.int i,.int j]=>(-(2^62)<=i/\i<2^62/\-(2^62)<=j/\j<2^62)/\Q (eX i (j - i).toNat) d|_=>False
theorem itOk_range{K:zvi}{pp:bo bb}:ItOkV K pp (Itr j n) M H ((List.range n).map λ(i:Nat)=>V.int (j+i)) where
 yld:=λM2 H2 _ i x H3 hi y=>by
  obtain⟨d,q⟩:=y;refine⟨d,?_⟩;have J:i<n:=by simpa using hi
  simp[J,q]
 go:=λ_ _ _ i hi=>by show i<n;simpa using hi
 stop:=λ_ _ _ i hi=>by show n<=i;simpa using hi
variable{ea eb:bN}
theorem bY(q:X.mg "range" = none)(d:PAD X [ea] tl)(s:starEach [ea] X.env=[(false,eval ea X.env)]:=by rfl)(Y:Gl X "range":=by rfl):PID X tg (.Call (.Name "range" p) [ea] [] pos) (diR1 tl):=by
 obtain⟨T,z,r⟩:=d;refine⟨_,xt Y q z s,λrs h k=>r rs h λh m J U=>?_⟩;split at h
 ·simp only[Reps,Rep]at U;obtain⟨x,r,rfl,rfl,rfl⟩:=U;exact⟨_,rfl,h.1.1,h.1.2,k h.2 m J (itOk_range.of (fA _ _))⟩
 ·exact h.elim
theorem yz(s:X.mg "range" = none)(d:PAD X [ea,eb] tl)(z:starEach [ea,eb] X.env=[(false,eval ea X.env),(false,eval eb X.env)]:=by rfl)(J:starEach [eb] X.env=[(false,eval eb X.env)]:=by rfl)(q:Gl X "range":=by rfl):PID X tg (.Call (.Name "range" p) [ea,eb] [] pos) (diR2 tl):=by
 obtain⟨T,C,r⟩:=d;refine⟨_,xu q s C z J,λrs h k=>r rs h λh m U Y=>?_⟩;split at h
 ·simp only[Reps,Rep]at Y;obtain⟨x,r,rfl,rfl,y,r',rfl,rfl,rfl⟩:=Y;exact⟨_,_,rfl,h.1,k h.2 m U (itOk_range.of (fA _ _))⟩
 ·exact h.elim
def ip(c:DT)(b:DTS):Nat->DEnds->DS->Prop
 |0,_,_=>False|n+1,E,q=>c q λk d=>Br k (b {E with nx:=λJ=>ip c b n E J,ct:=λJ=>ip c b n E J,bk:=E.nx} d) (E.nx d)
abbrev CO(c:DT)(b:DTS):DTS:=λE d=>∃n,ip c b n E d
theorem gu{body:ai Stmt}(j:PTD X c tc)(i:PSsD X body tb)(l:PassesOwn (model X.prog X.w) X.A X.env X.xe:=by exact PassesOwn.never):PSD X (.While c body [] pos) (CO tc tb):=by
 obtain⟨C,u,x⟩:=j;obtain⟨T,p,r⟩:=i;refine⟨_,AA l u p,λ{F M H σ y E D} rs h o=>?_⟩;obtain⟨n,h⟩:=h;refine⟨λm Q G=>∃M2 I,Mv X.K F.pp M H M2 G/\RSt X.K F M2 G Q I/\ip tc tb m E I,⟨n,M,y,.refl,rs,h⟩,?_⟩;rintro m Q G ⟨M2,I,d,e,a⟩;cases m with
 |zero=>exact a.elim|succ m =>
  refine x e a λ{k _ _ _} b q L=>?_;cases k with
  |false=>exact iteF (o.nx (d.trans q) L (b.no rfl))|true=>exact iteT ⟨λz H'=>∃M' s,Mv X.K F.pp M H M' H'/\RSt X.K F M' H' z s/\ip tc tb m E s,λz H' g=>⟨m,zwA _,g⟩,r L (b.yes rfl) ⟨λY J U=>⟨_,_,(d.trans q).trans Y,J,U⟩,λY J U=>o.nx ((d.trans q).trans Y) J U,λY J U=>⟨_,_,(d.trans q).trans Y,J,U⟩,λY J v U=>o.rt ((d.trans q).trans Y) J v U⟩⟩
end
def fL(n:Nat)(ds:ai D):DS:=ds.map .val++List.replicate (n - ds.length) .nil
theorem lP{K:zvi}{F:Fx}{M:ai bb}{H:Hp}:∀{ds:ai D} {vs:ai V},Reps K F.pp M H ds vs->∀(i:Nat) s o,(ds.map Sl.val)[i]?=some s->(vs.map some)[i]?=some o->RSl K F M H s o
 |[],_,_,_,_,_,g,_=>by simp at g
 |d::ds,_,h,0,s,o,g,q=>by obtain⟨x,r,rfl,h,_⟩:=h;simp at g q;subst g q;exact⟨x,rfl,h⟩
 |d::ds,_,h,i+1,s,o,g,q=>by obtain⟨x,r,rfl,_,h⟩:=h;exact lP h i s o (by simpa using g) (by simpa using q)
theorem rM{ds:ai D}{es:ai D}(h:(ds.map Sl.val++List.replicate n Sl.nil)[i]?=some (.own es)):False:=by
 have:=zzD h;rcases zzx.mp this with h|h
 ·obtain⟨d,_,e⟩:=zzc.mp h;cases e
 ·have:=zyH h;cases this
theorem rN{ds:ai D}{q:O}(h:(ds.map Sl.val++List.replicate n Sl.nil)[i]?=some (.obj q)):False:=by
 have:=zzD h;rcases zzx.mp this with h|h
 ·obtain⟨d,_,e⟩:=zzc.mp h;cases e
 ·have:=zyH h;cases this
theorem gv{K:zvi}{pp:bo bb}{ds:ai D}(lv:Lv pp M H)(r:Reps K pp M H ds vs)(lk:Frm.L K ⟨pp,M,H⟩ M H):RSt K ⟨pp,M,H⟩ M H (L2.start N vs) (fL N.length ds):=by
 have J:=r.length;refine⟨by simp[L2.start,fL,J],λi s o d g=>?_,OwF.none (λi s e=>⟨λds z=>(rM (z ▸ e)).elim,λq z=>(rN (z ▸ e)).elim⟩),λa h=>h,.refl,lv.m,lv.toLv0,⟨lk,lv.t⟩⟩;unfold fL at d;unfold L2.start at g;by_cases hi:i<ds.length
 ·rw[zys (by simpa using hi)]at d;rw[zys (by simpa[←J]using hi)]at g;exact lP r i s o d g
 ·rw[zzM (by simp;lia)]at d;have:=zyH (zzD d);subst this;trivial
omit [Frm] in
theorem fnD{P:bP}{K:zvi}{base:bz}{st:Stmt}{f:bb}{g:DSp}{t:DTS}(J:Fun K x y st f fd)(S:FnScope N ps (ah st))(C:∀{z:av} {A:Around} {d:ai Env} {s:bd} {H:Hp} {E:XK},Room k (A.deeper (envOfC y (ah st) s.heap.objs.size f z))->N.Nodup -> @PSsD _ Frm.free (cxOf CX0 P w K mg base N y (ah st) f z A d s H E).nox (ck st) t)(U:∀ds Q,ds.length=ps.length->g ds Q->t {nx:=λ_=>Q .non,rt:=Q} (fL N.length ds)):FnOk P w K mg base CX0 (k+1) f fd ps (spD K ps.length g):=by
 refine J.ok S (λvs H Q E h=>?_) (λz A d s H vs Q E Y h=>?_)
 ·obtain⟨pp,M,ds,P,_,r,e,_⟩:=h;rw[←r.length,e]
 ·obtain⟨pp,M,ds,P,lv,r,e,h,k⟩:=h;obtain⟨T,p,run⟩:=C Y S.nd;exact⟨T,p,run (gv lv r trivial) (U ds _ e h) ⟨λm rs q=>k q rs.sameT (by simp only[Rep]),λ_ _ q=>q,λ_ _ q=>q,λm rs G q=>k q rs.sameT (G.mv (.less rs.sub))⟩⟩
def g2I(C:Int->Int->Prop)(f:Int->Int->D):D->D->(D->Prop)->Prop
 |.int i,.int j,P=>C i j/\P (f i j)|_,_,_=>False
def g2I0(f:Int->Int->D):D->D->(D->Prop)->Prop
 |.int i,.int j,P=>P (f i j)|_,_,_=>False
theorem OpD.ofI{f:av->av->Sem av}{C:Int->Int->Prop}{h:Int->Int->V}{d:Int->Int->D}(o:OpR X f (rI C h))(e:∀pp M H i j,Rep X.K pp M H (d i j) (h i j)):OpD X f (g2I C d):=by
 refine⟨_,o,λ{pp M H x y v u Q P} _ J U h k=>?_⟩;cases x<;>first|exact h.elim|skip
 cases y<;>first|exact h.elim|skip
 exact⟨_,_,J,U,h.1,k h.2 .refl (e _ M H _ _)⟩
theorem OpD.ofI0{f:av->av->Sem av}{h:Int->Int->V}{d:Int->Int->D}(o:OpR X f (rI0 h))(e:∀pp M H i j,Rep X.K pp M H (d i j) (h i j)):OpD X f (g2I0 d):=by
 refine⟨_,o,λ{pp M H x y v u Q P} _ J U h k=>?_⟩;cases x<;>first|exact h.elim|skip
 cases y<;>first|exact h.elim|skip
 exact⟨_,_,J,U,k h .refl (e _ M H _ _)⟩
theorem et:OpD X (binaryOp .Add) (g2I0 λi j=>.int (i+j)):=.ofI0 jw λ_ _ _ _ _=>bx
theorem pI:OpD X (binaryOp .Sub) (g2I0 λi j=>.int (i - j)):=.ofI0 GM λ_ _ _ _ _=>bx
theorem cj:OpD X (binaryOp .Mult) (g2I CMulB λi j=>.int (i*j)):=.ofI hU λ_ _ _ _ _=>bx
theorem EV:OpD X (binaryOp .Mod) (g2I (λ_ j=>j≠0) λi j=>.int (i.fmod j)):=.ofI Ea λ_ _ _ _ _=>bx
theorem rO:OpD X (binaryOp .FloorDiv) (g2I Hq λi j=>.int (i / j)):=.ofI mV λ_ _ _ _ _=>bx
theorem uv:OpD X (binaryOp .FloorDiv) (g2I Hr λi j=>.int (i.fdiv j)):=.ofI AL λ_ _ _ _ _=>bx
theorem EW:OpD X (compareOp .Lt) (g2I0 λi j=>.bl (decide (i<j))):=.ofI0 GQ λ_ _ _ _ _=>df
theorem yA:OpD X (compareOp .LtE) (g2I0 λi j=>.bl (decide (i<=j))):=.ofI0 JW λ_ _ _ _ _=>df
theorem iq:OpD X (compareOp .Gt) (g2I0 λi j=>.bl (decide (j<i))):=.ofI0 GR λ_ _ _ _ _=>df
theorem Kt:OpD X (compareOp .GtE) (g2I0 λi j=>.bl (decide (j<=i))):=.ofI0 GS λ_ _ _ _ _=>df
def EX:D->Bool
 |.non=>true|_=>false
theorem pJ{K:zvi}{d:D}(r:Rep K pp M H d v):decide (v=.non)=EX d:=by
 cases d<;>simp only[Rep]at r
 case non=>subst r;rfl
 case bl=>subst r;rfl
 case int=>subst r;rfl
 case str=>subst r;rfl
 case ty=>subst r;rfl
 case tup=>obtain⟨a,g,rfl,_⟩:=r;rfl
 case lst=>obtain⟨a,g,rfl,_⟩:=r;rfl
 case dT=>obtain⟨a,g,rfl,_⟩:=r;rfl
 case pen=>obtain⟨a,rfl,_⟩:=r;rfl
 case ins=>obtain⟨a,dx,fs,rfl,_⟩:=r;rfl
 case cls=>subst r;rfl
def gIsN(n:Bool):D->D->(D->Prop)->Prop
 |x,.non,P=>P (.bl (if n then !EX x else EX x))|_,_,_=>False
theorem yB:OpD X (compareOp .Is) (gIsN false):=by
 refine⟨_,GT,λ{pp M H x y v u Q P} _ J U h k=>?_⟩;cases y<;>first|exact h.elim|skip
 exact⟨U,k h .refl (by rw[pJ J];exact df)⟩
theorem nB:OpD X (compareOp .IsNot) (gIsN true):=by
 refine⟨_,Ee,λ{pp M H x y v u Q P} _ J U h k=>?_⟩;cases y<;>first|exact h.elim|skip
 exact⟨U,k h .refl (by rw[pJ J];exact df)⟩
def UnD(X:Cx)(f:av->Sem av)(g:D->(D->Prop)->Prop):Prop:=∃r,UnR X f r/\∀{pp M H x v Q P},Lv pp M H->Rep X.K pp M H x v->g x P->(∀{d H' w},P d->SameP X.K pp H H'->Rep X.K pp M H' d w->Q w H')->r v H Q
abbrev dUn(g:D->(D->Prop)->Prop)(ta:DE):DE:=λq Q=>ta q λx J=>g x λd=>Q d J
theorem yC{op:UnaryOp}{g:D->(D->Prop)->Prop}(q:UnD X (unaryOp op) g)(d:PED X a ta):PED X (.UnaryOp op a pos) (dUn g ta):=by obtain⟨r,Y,U⟩:=q;obtain⟨Ta,z,G⟩:=d;exact⟨_,JU Y z,λrs h k=>G rs h λh m J C=>U J.liv C h λh s r=>k h (m.trans s.mv) (J.sameP s) r⟩
def gNeg:D->(D->Prop)->Prop
 |.int i,P=>P (.int (-i))|_,_=>False
theorem pK:UnD X (unaryOp .USub) gNeg:=by
 refine⟨_,GO,λ{pp M H x v Q P} _ J h k=>?_⟩;cases x<;>first|exact h.elim|skip
 exact⟨_,J,k h .refl bx⟩
def HN:D->Bool
 |.int _=>true|.bl _=>true|_=>false
def EY:D->Bool
 |.bl _=>true|_=>false
def uw:D->Bool
 |.tup _=>true|_=>false
def HP:D->Bool
 |.lst _=>true|_=>false
def yD:D->Bool
 |.pen=>false|.ins _ _ _=>false|.cls _=>false|.ty _=>false|.dT _ _=>false|_=>true
theorem CP{K:zvi}{d:D}(r:Rep K pp M H d v)(f:yD d=true):knV H v:=by
 cases d<;>first|cases f|skip
 case non=>subst r;trivial
 case bl=>subst r;trivial
 case int=>subst r;trivial
 case str=>subst r;trivial
 case tup=>obtain⟨a,g,rfl,h,_⟩:=r;exact .inr (.inr (.inl ⟨g,h⟩))
 case lst=>obtain⟨a,g,rfl,_,_,h,_⟩:=r;exact .inl ⟨g,h⟩
def gIs(T:String)(f:D->Bool):DSp:=λg P=>match g with
 |[d,.ty J]=>J=T/\yD d=true/\P (.bl (f d))|_=>False
theorem CallD.isOf{f:Hp->V->Bool}{J:D->Bool}(s:cZ X (.builtin "isinstance") (λxs H Q=>∃x,xs=[x,.ty T]/\knV H x/\Q (.bl (f H x)) H))(e:∀pp M H d v,Rep X.K pp M H d v->yD d=true->f H v=J d):CallD X (.builtin "isinstance") (gIs T J):=by
 refine⟨_,s,λ{pp M H ds vs Q P} _ r h k=>?_⟩;unfold gIs at h;split at h
 case h_2=>exact h.elim
 obtain⟨q,g,h⟩:=h;obtain⟨x,r,rfl,U,y,r',rfl,Y,rfl⟩:=r;subst Y q;exact⟨x,rfl,CP U g,k h .refl (by rw[e _ M H _ x U g];exact df)⟩
theorem yE:CallD X (.builtin "isinstance") (gIs "int" HN) :=
 .isOf rp λpp M H d v r _=>by
 cases d<;>simp only[Rep]at r<;>first|(subst r;rfl)|(obtain⟨a,rfl,_⟩:=r;rfl)|(obtain⟨a,b,rfl,_⟩:=r;rfl)|(obtain⟨a,b,c,rfl,_⟩:=r;rfl)
theorem we:CallD X (.builtin "isinstance") (gIs "bool" EY) :=
 .isOf pf λpp M H d v r _=>by
 cases d<;>simp only[Rep]at r<;>first|(subst r;rfl)|(obtain⟨a,rfl,_⟩:=r;rfl)|(obtain⟨a,b,rfl,_⟩:=r;rfl)|(obtain⟨a,b,c,rfl,_⟩:=r;rfl)
theorem eM:CallD X (.builtin "isinstance") (gIs "tuple" uw) :=
 .isOf mU λpp M H d v r f=>by
 cases d<;>first|cases f|skip
 case tup=>obtain⟨a,g,rfl,h,_⟩:=r;simp[bv,h,isTupO,uw]
 all_goals first|(subst r;rfl)|(obtain⟨a,g,rfl,_,_,h,_⟩:=r;simp[bv,h,isTupO,uw])
def gLen:DSp:=λg P=>match g with
 |[.tup d]=>P (.int d.length)|[.lst d]=>P (.int d.length)|_=>False
theorem aV:CallD X (.builtin "len") gLen:=by
 refine⟨_,xO,λ{pp M H ds vs Q P} _ r h k=>?_⟩;unfold gLen at h;split at h
 case h_3=>exact h.elim
 ·obtain⟨x,r,rfl,⟨a,ys,rfl,d,J⟩,rfl⟩:=r;exact⟨a,ys.length,rfl,by rw[d];rfl,k h .refl (by rw[←J.length];exact bx)⟩
 ·obtain⟨x,r,rfl,⟨a,ys,rfl,_,_,d,J⟩,rfl⟩:=r;exact⟨a,ys.length,rfl,by rw[d];rfl,k h .refl (by rw[←J.length];exact bx)⟩
def gAbs:DSp:=λd P=>match d with
 |[.int i]=>P (.int (if i<0 then -i else i))|_=>False
theorem HQ:CallD X (.builtin "abs") gAbs:=by
 refine⟨_,AD,λ{pp M H ds vs Q P} _ r h k=>?_⟩;unfold gAbs at h;split at h
 case h_2=>exact h.elim
 obtain⟨x,r,rfl,rfl,rfl⟩:=r;exact⟨_,rfl,k h .refl bx⟩
def yF:DSp:=λg P=>match g with
 |[.tup d]=>P (.tup d)|[.lst d]=>P (.tup d)|_=>False
theorem bK:CallD X (.type "tuple") yF:=by
 refine⟨_,mQ,λ{pp M H ds vs Q P} _ r h k=>?_⟩;unfold yF at h;split at h
 case h_3=>exact h.elim
 ·simp only[Reps]at r;obtain⟨x,r,rfl,Y,rfl⟩:=r;have J:=Y;obtain⟨a,ys,rfl,d,g⟩:=Y;exact⟨a,ys,rfl,.inr ⟨SqT.of d,k h .refl J⟩⟩
 ·simp only[Reps,Rep]at r;obtain⟨x,r,rfl,⟨a,ys,rfl,_,_,d,g⟩,rfl⟩:=r;refine⟨a,ys,rfl,.inl ⟨SqL.of d,λl U=>k h (.new U) ?_⟩⟩;exact⟨l,ys,rfl,ae,g.mv (.new U)⟩
def opt(o:bo D)(P:D->Prop):Prop:=match o with
 |some d=>P d|none=>False
theorem ux{o:bo D}{P:D->Prop}(h:opt o P):∃d,o=some d/\P d:=by cases o<;>first|exact h.elim|exact⟨_,rfl,h⟩
def gIx:D->D->(D->Prop)->Prop
 |.tup d,.int i,P=>opt (atI d i) P|.lst d,.int i,P=>opt (atI d i) P|_,_,_=>False
theorem rP{K:zvi}{ds:ai D}{xs:ai V}{i:Int}{d:D}(r:Reps K pp M H ds xs)(h:atI ds i=some d):∃v,atI xs i=some v/\Rep K pp M H d v:=by
 unfold atI at h ⊢;rw[r.length]at h;cases q:ixN xs.length i with
 |none=>rw[q]at h;cases h
 |some j =>
  rw[q]at h;obtain⟨v,g,s⟩:=r.get' h;exact⟨v,g,s⟩
theorem Ku{b:bN}(C:PED X a ta)(G:PED X b te)(I:mL b):PED X (.Subscript a b pos) (dOp gIx ta te):=by
 obtain⟨Ta,L,i⟩:=C;obtain⟨Tb,c,j⟩:=G;refine⟨_,xE (IxR.or Ew tX) L c I,nv (λ{pp M H x y v u Q P} _ Y s h k=>?_) i j⟩;cases x<;>first|exact h.elim|skip
 all_goals cases y<;>first|exact h.elim|skip
 all_goals
  obtain⟨d,e,h⟩:=ux h
 ·obtain⟨p,q,rfl,J,r⟩:=Y;obtain⟨z,g,U⟩:=rP r e;exact .inl ⟨p,q,_,z,rfl,s,J,g,k h .refl U⟩
 ·obtain⟨p,q,rfl,_,_,J,r⟩:=Y;obtain⟨z,g,U⟩:=rP r e;exact .inr ⟨p,q,_,z,rfl,s,J,g,k h .refl U⟩
section
variable{F:Fx}
def Kv(i:Nat)(E:DEnds)(ρ:DS)(d:D):Sl->Prop
 |.own g=>g.length<sizeLine/\E.nx (ρ.set i (.own (g++[d])))|_=>False
def wf:Sl->Prop
 |.own _=>True|_=>False
theorem gw{s:Sl}(h:wf s):∃ds,s=.own ds:=by cases s<;>first|exact⟨_,rfl⟩|exact h.elim
abbrev dApp(i:Nat)(te:DE):DTS:=λE q=>wf (slot q i)/\te q λd g=>Kv i E g d (slot g i)
theorem RSt.write{K:zvi}{M:ai bb}{H:Hp}{σ:St}{k:DS}{l:bb}{ys:ai V}{ds es:ai D}{i:Nat}(r:RSt K F M H σ k)(h:k[i]?=some (.own ds))(U:σ[i]?=some (some (.ref l)))(hd:Reps K F.pp M H es ys) :
  Mv K F.pp M H M (upd H l (.lst ys))/\RSt K F M (upd H l (.lst ys)) σ (k.set i (.own es)):=by
 obtain⟨N,xs,e,y,h0,E,T,hr⟩:=r.sl i _ _ h U;cases e;have m:Mv K F.pp M H M (upd H l (.lst ys)):=.write T y E;refine⟨m,⟨by simp[r.len],λj q o g C=>?_,r.ow.step m i (λ_ _=>rfl) (λj e=>zzO (Ne.symm e)) (λA u Q=>⟨A,λs o e1 L=>?_,λb G=>⟨(Q b G).1,(Q b G).2.1,(Q b G).2.2,.inl G⟩,λa c _ _ hn=>⟨c,λx e _=>?_⟩⟩),r.sub,?_,r.old,?_,r.lk.cl m⟩⟩
 ·by_cases e:i=j
  ·subst e;rw[U]at C;rw[aI g];cases C;exact⟨l,ys,rfl,y,h0,E,ae,hd.mv m⟩
  ·rw[zzO e]at g;have I:=r.sl j q o g C;cases q with
   |nil=>trivial|val d=>obtain⟨v,e,q⟩:=I;exact⟨v,e,q.mv m⟩
   |pin w d=>obtain⟨v,e,ew,q⟩:=I;exact⟨v,e,ew,q.mv m⟩
   |own es =>
    obtain⟨N,zs,rfl,a4,Y,a5,J,a6⟩:=I;refine⟨N,zs,rfl,a4,Y,a5,?_,a6.mv m⟩;rw[af]
    ·exact J
    ·rintro rfl;exact e (r.own i j _ _ _ h g U C)
   |obj q=>exact I
 ·rw[aI e1];exact u _ _ h L
 ·obtain⟨l2,L,e3⟩:=u _ _ h U;cases L;rw[af (by rintro rfl;exact hn (by rw[e3];simp))];exact e
 ·refine⟨λb o e n=>?_,λp e h=>m.pen p e (r.same.pen p e h),λb e=>?_⟩
  ·rw[af (by rintro rfl;rw[h0]at e;cases e)];exact r.same.keep b o e n
  ·by_cases z:b=l
   ·subst z;rw[ae];intro z;cases z
   ·rw[af z];exact r.same.live b e
 ·refine⟨λa c=>?_,λp e=>?_⟩
  ·by_cases z:a=l
   ·subst z;rw[ae];intro z;cases z
   ·rw[af z];exact r.liv.m a c
  ·by_cases z:p=l
   ·subst z;rw[ae];intro z;cases z
   ·rw[af z];exact r.liv.p p e
theorem eU{o:bN}(k:PE X o (tVar i))(he:PED X e te)(J:attributeBase o "append" X.env (eval o X.env)=eval o X.env:=by rfl)(I:((backTo p2 (starEach [e] X.env)).all (λx=>!x.1) && (backToKw p2 (keywordEach [] X.env)).all (λx=>x.1.isSome)
   && decide ([e].length+([]:ai Keyword).length+(if ([]:ai Keyword).isEmpty then 0 else 1)<30))=true:=by rfl)(U:(py.endLine==p2.line)=true:=by rfl)(z:starEach [e] X.env=(false,eval e X.env)::starEach [] X.env:=by rfl)(a:(backTo p2 (starEach [] X.env)).any (·.1)=false:=by rfl)(n:swapsWith (.Call (.Attribute o "append" py) [e] [] p2) none pos.line X.env=pure false:=by rfl):PSD X (.Expr (.Call (.Attribute o "append" py) [e] [] p2) pos) (dApp i te):=by
 obtain⟨T,p,r⟩:=he;refine⟨_,jt (vO zxn PySem.F.slot_list_append PySem.F.type_list_append jB k (bh p cJ z) J I U z a) n,λ{F M H σ ρ E D} rs h v=>?_⟩;obtain⟨h0,h⟩:=h;obtain⟨ds,q⟩:=gw h0;obtain⟨_,Y,l,y,rfl,_,_,_,Q,_⟩:=rs.at (aB q);refine⟨.ref l,Y,.inl ⟨rfl,y,SqL.of Q⟩,r rs h λ{d g _ _ _} h m C w=>?_⟩;cases G:slot g i<;>rw[G]at h<;>first|exact h.elim|skip
 have g1:=aB G;obtain⟨_,c,j,_,_,_,L,s⟩:=C.sl i _ _ g1 Y;cases j;obtain⟨u,b⟩:=C.write g1 Y (s.append (.one w));exact⟨l,c,_,rfl,rfl,L,by rw[←s.length];exact h.1,v.nx (m.trans u) b h.2⟩
end
def EZ:DSp:=λd P=>match d with
 |[.pen,.int m]=>(1<=m/\m<=10^60)/\∀r,0<=r->r<m->P (.int r)|_=>False
theorem Fa{P:bP}{K:zvi}{base:bz}{f:bb}(h:FnOk P w K mg base CX0 k f fd ps (xP K)):FnOk P w K mg base CX0 k f fd ps (spD K 2 EZ) :=
 h.imp λvs H Q E h=>by
  obtain⟨pp,M,ds,P,lv,r,e,h,k⟩:=h;unfold EZ at h;split at h
  case h_2=>exact h.elim
  obtain⟨⟨I,L⟩,h⟩:=h;obtain⟨x,_,rfl,⟨p,rfl,g,a,s,t,l,pen⟩,y,_,rfl,rfl,rfl⟩:=r;refine⟨p,a,s,t,l,_,rfl,pen,I,L,λr c G H' h0 C J U=>k (h r h0 C) ⟨⟨λb o d n=>?_,λq e _=>?_,λb d=>?_⟩,λtb=>tb.of λb o e Y=>U b o (by rintro rfl;rw[pen.lst]at e;cases e;exact im Y) e⟩ bx⟩
  ·by_cases z:b=p
   ·subst z;rw[pen.lst]at d;cases d;exact absurd rfl (n.1 g _)
   ·exact U b o z d
  ·rw[g]at e;cases e;exact⟨a,s,c,G,J⟩
  ·by_cases z:b=p
   ·subst z;rw[J.lst];intro z;cases z
   ·cases q:H b with
    |none=>exact absurd q d|some o=>rw[U b o z q];intro z;cases z
def spLaw(K:zvi):Sp:=λvs H Q _=>∃a d,vs=[.ref a]/\Scr K H a d/\Tabs H/\∀H',Q (.bl true) H'
mutual
def toPy:D->PyData
 |.non=>.none|.bl b=>.bool b|.int i=>.int i|.str x=>.str x|.tup d=>.tuple (pL d)|.lst d=>.list (pL d)|.ty _=>.none|.dT _ _=>.none|.pen=>.none|.ins _ _ _=>.none|.cls _=>.none
def pL:ai D->ai PyData
 |[]=>[]|d::g=>toPy d::pL g
def pln:D->Bool
 |.pen=>false|.ins _ _ _=>false|.cls _=>false|.ty _=>false|.dT _ _=>false|.tup d=>plns d|.lst d=>plns d|_=>true
def plns:ai D->Bool
 |[]=>true|d::g=>pln d && plns g
end
def eqD(x y:D):Bool:=PyData.eqv (toPy x) (toPy y)
def shp(d:D):Bool:=pln d && SeqAt.shaped (toPy d)
mutual
theorem gx{P:bP}{w:World}{K:zvi}{pp:bo bb}{M:ai bb}{H:Hp}{h:bz}(ok:HOk P w H h):∀(d:D) (v:V) (u:av),pln d=true->Rep K pp M H d v->RelV v u->∃as,Reads h u (toPy d) as
 |.non,_,_,_,r,q=>by simp only[Rep]at r;subst r;cases q;exact⟨_,.none⟩
 |.bl b,_,_,_,r,q=>by simp only[Rep]at r;subst r;cases q;exact⟨_,.bool b⟩
 |.int i,_,_,_,r,q=>by simp only[Rep]at r;subst r;obtain⟨t,rfl⟩:=q;exact⟨_,.int i t⟩
 |.str x,_,_,_,r,q=>by simp only[Rep]at r;subst r;obtain⟨t,rfl⟩:=q;exact⟨_,.str x t⟩
 |.tup s,_,_,p,r,q=>by simp only[Rep]at r;obtain⟨a,I,rfl,C,r⟩:=r;cases q;obtain⟨_,g,vs,o,G,J,n,hd⟩:=ok a _ C;obtain⟨as,z⟩:=jR ok s I g (by simpa only[pln]using p) r vs;exact⟨_,by rw[toPy];exact .tuple G J hd (by simpa using z)⟩
 |.lst s,_,_,p,r,q=>by simp only[Rep]at r;obtain⟨a,I,rfl,_,_,C,r⟩:=r;cases q;obtain⟨_,g,n,vs,G⟩:=ok a _ C;obtain⟨as,z⟩:=jR ok s I g (by simpa only[pln]using p) r vs;exact⟨_,by rw[toPy];exact .list G rfl rfl (by simpa using z)⟩
 |.ty _,_,_,p,_,_=>by simp[pln]at p
 |.dT _ _,_,_,p,_,_=>by simp[pln]at p
 |.pen,_,_,p,_,_=>by simp[pln]at p
 |.ins _ _ _,_,_,p,_,_=>by simp[pln]at p
 |.cls _,_,_,p,_,_=>by simp[pln]at p
theorem jR{P:bP}{w:World}{K:zvi}{pp:bo bb}{M:ai bb}{H:Hp}{h:bz}(ok:HOk P w H h):∀(ds:ai D) (vs:ai V) (g:ai av),plns ds=true->Reps K pp M H ds vs->Vals vs g->∃as,ReadsAll h g (pL ds) as
 |[],_,_,_,r,q=>by simp only[Reps]at r;subst r;cases q;exact⟨_,.nil⟩
 |d::ds,_,_,p,r,q=>by
  simp only[Reps]at r;obtain⟨x,r',rfl,s,Y⟩:=r;simp only[plns,zzY]at p;cases q with
  |cons J U =>
   obtain⟨as,z⟩:=gx ok d _ _ p.1 s J;obtain⟨bs,C⟩:=jR ok ds _ _ p.2 Y U;exact⟨_,by rw[pL];exact .cons z C⟩
end
section
variable{k:Nat}
def rEqD(K:zvi)(n:Bool):R2:=λx y H Q=>∃pp M dx J,Rep K pp M H dx x/\Rep K pp M H J y/\shp dx=true/\shp J=true/\Q (.bl (if n then !eqD dx J else eqD dx J)) H
theorem HR(U:Room k X.A):OpR X (compareOp .Eq) (rEqD X.K false):=by intro pins s σ H x y v u Q I C G h;obtain⟨pp,M,dx,J,z,Y,d,g,q⟩:=h;unfold shp at d g;rw[zzY]at d g;obtain⟨as,L⟩:=gx I.hok dx x v d.1 z C;obtain⟨bs,a⟩:=gx I.hok J y u g.1 Y G;exact SeqAt.compareEq_shaped L a d.2 g.2 (by have:=U.un;lia) (bV I q rfl)
theorem HS(U:Room k X.A):OpR X (compareOp .NotEq) (rEqD X.K true):=by intro pins s σ H x y v u Q I C G h;obtain⟨pp,M,dx,J,z,Y,d,g,q⟩:=h;unfold shp at d g;rw[zzY]at d g;obtain⟨as,L⟩:=gx I.hok dx x v d.1 z C;obtain⟨bs,a⟩:=gx I.hok J y u g.1 Y G;exact SeqAt.compareNe_shaped L a d.2 g.2 (by have:=U.un;lia) (bV I q rfl)
def gEq(n:Bool):D->D->(D->Prop)->Prop:=λx y P=>(shp x=true/\shp y=true)/\P (.bl (if n then !eqD x y else eqD x y))
theorem bZ(J:Room k X.A):OpD X (compareOp .Eq) (gEq false) :=
 ⟨_,HR J,λ_ U Y h k=>⟨_,_,_,_,U,Y,h.1.1,h.1.2,k h.2 .refl df⟩⟩
theorem fF(J:Room k X.A):OpD X (compareOp .NotEq) (gEq true) :=
 ⟨_,HS J,λ_ U Y h k=>⟨_,_,_,_,U,Y,h.1.1,h.1.2,k h.2 .refl df⟩⟩
end
abbrev DO:=DS->(bo Int->DS->Prop)->Prop
def POD(X:Cx)(e:bo bN)(t:DO):Prop:=∃T:TO,PO X e T/\RU X.K T t
abbrev HU:DO:=λd Q=>Q none d
abbrev HV(te:DE):DO:=λq Q=>te q λd g=>match d with
 |.int i=>Q (some i) g|_=>False
theorem jS:POD X none HU :=
 ⟨_,El,λrs h k=>k h .refl rs⟩
theorem jT(he:PED X e te):POD X (some e) (HV te):=by
 obtain⟨T,p,r⟩:=he;refine⟨_,Em p,λrs h k=>r rs h λ{d _ _ _ _} h m J U=>?_⟩;cases d<;>first|exact h.elim|skip
 exact⟨_,U,k h m J⟩
def cutD(xs:ai D)(lo hi:bo Int):ai D:=(xs.drop (HT.sIx xs.length 0 lo)).take (HT.sIx xs.length xs.length hi - HT.sIx xs.length 0 lo)
theorem Reps.cut{K:zvi}{ds:ai D}{xs:ai V}(lo hi:bo Int)(r:Reps K pp M H ds xs):Reps K pp M H (cutD ds lo hi) (cutV xs lo hi):=by unfold cutD cutV;rw[r.length];exact(r.drop _).take _
theorem gy{g:DG}{b:DTS}{E:DEnds}{ds:ai D}(N:DS->Prop)(z:∀ρ,N ρ->E.nx ρ)
  (s:∀d∈ds,∀(ρ:DS) (X:DS->Prop),N ρ->(∀q,N q->X q)->g d ρ λJ=>b {E with nx:=X,ct:=X,bk:=E.nx} J):∀ρ,N ρ->dZ g b ds E ρ:=by
 induction ds with
 |nil=>exact z|cons d r U=>exact λρ h=>s d zzd ρ _ h (U λd hd=>s d (zzf _ hd))
theorem aN{g:DG}{b:DTS}{E:DEnds}{ds:ai D}(N:ai D->DS->Prop)(s:∀ρ,N ds ρ->E.nx ρ)
  (z:∀(pre:ai D) (d:D) (post:ai D) (ρ:DS) (X:DS->Prop),ds=pre++d::post->N pre ρ->(∀q,N (pre++[d]) q->X q)->g d ρ λJ=>b {E with nx:=X,ct:=X,bk:=E.nx} J) (ρ:DS) (h:N [] ρ):dZ g b ds E ρ:=by
 have key:∀(post pre:ai D),ds=pre++post->∀ρ,N pre ρ->dZ g b post E ρ:=by
  intro post
  induction post with
  |nil=>intro pre e ρ h;rw[zyb]at e;subst e;exact s ρ h|cons d r U=>intro pre e ρ h;exact z pre d r ρ _ e h (U (pre++[d]) (by rw[e,zyF];rfl))
 exact key ds [] rfl ρ h
theorem eu{c:DT}{b:DTS}{E:DEnds}(N:DS->Prop)(J:DS->Nat)
  (q:∀(ρ:DS) (X:DS->Prop),N ρ->(∀d,N d->J d<J ρ->X d)->c ρ λk d=>Br k (b {E with nx:=X,ct:=X,bk:=E.nx} d) (E.nx d)) (ρ:DS) (h:N ρ):CO c b E ρ:=by
 have key:∀n ρ,N ρ->J ρ<n->ip c b n E ρ:=by
  intro n
  induction n with
  |zero=>intro ρ _ h;exact absurd h (zyz _)|succ n U=>intro ρ h hl;exact q ρ _ h λd g hl'=>U d g (by lia)
 exact⟨_,key _ ρ h (zwA _)⟩
theorem HW{xs:ai α}(h0:0<=r)(h1:r<xs.length):∃d,atI xs r=some d/\xs[r.toNat]?=some d:=by
 obtain⟨j,rfl⟩:=zwo h0;have J:j<xs.length:=by lia
 exact⟨xs[j],qT (by simp[J]),by simp[J]⟩
theorem Fb{xs:ai D}{Q:D->Prop}(h0:0<=r)(q:r<xs.length)(h:∀d∈xs,Q d):opt (atI xs r) Q:=by obtain⟨d,e,g⟩:=HW h0 q;rw[e];exact h d (zzD g)
theorem bR{xs:ai D}{d:D}{Q:D->Prop}(h0:0<=r)(e:xs[r.toNat]?=some d)(h:Q d):opt (atI xs r) Q:=by obtain⟨j,rfl⟩:=zwo h0;rw[qT (show xs[j]?=some d from e)];exact h
theorem sz(h:Nat.ble n 1000=true:=by rfl):n<=sizeLine:=zzo (Nat.le_of_ble_eq_true h) (by decide)
theorem aG{i:Int}:eqD (.int i) (.int j)=decide (i=j):=by show (i==j)=_;by_cases h:i=j<;>simp[h]
def Bd(n:Nat)(i:Int):Prop:=i.natAbs<2^n
theorem Bd.mono{i:Int}(h:Bd m i)(l:m<=n):Bd n i:=zzH h (zwN (by decide) l)
theorem Bd.mul{i:Int}(h:Bd m i)(q:Bd n j):Bd (m+n) (i*j):=by unfold Bd at *;rw[Int.natAbs_mul,Nat.pow_add];exact Nat.mul_lt_mul'' h q
theorem Bd.add{i:Int}(h:Bd m i)(q:Bd n j):Bd (max m n+1) (i+j):=by have h1:=h.mono (Nat.le_max_left m n);have h2:=q.mono (Nat.le_max_right m n);unfold Bd at *;lia
theorem Bd.sub{i:Int}(h:Bd m i)(q:Bd n j):Bd (max m n+1) (i - j):=by have h1:=h.mono (Nat.le_max_left m n);have h2:=q.mono (Nat.le_max_right m n);unfold Bd at *;lia
theorem Bd.le{i:Int}(h:Bd m j)(l:i.natAbs<=j.natAbs):Bd m i:=zzz l h
theorem Bd.big{i:Int}(h:Bd m i)(l:m<=8000):Big i:=xM (h.mono l)
theorem Bd.cmul{i:Int}(h:Bd m i)(q:Bd n j)(l:m<=8000:=by decide)(d:n<=8000:=by decide):CMulB i j:=.inr (.inr ⟨h.big l,q.big d⟩)
theorem yG{i:Int}(h:i.natAbs<2^n:=by decide):Bd n i:=h
theorem bd64{i:Int}(h:i.natAbs<18446744073709551616):Bd 64 i:=h
theorem Bv{a c d:Int}:eqD (.tup [.int a,.int b]) (.tup [.int c,.int d])=(decide (a=c) && decide (b=d)):=by show ((a==c) && ((b==d) && true))=_;rw[Bool.and_true];by_cases h:a=c<;>by_cases g:b=d<;>simp[h,g]
def gGcd:DSp:=λd Q=>match d with
 |[.int a,.int b]=>Q (.int (Int.gcd a b:Nat))|_=>False
def CQ:DSp:=λd Q=>match d with
 |[.int a,.int b]=>(b≠0/\Bd 7000 a/\Bd 7000 b)/\∀x y,Ra.Low a b x y->Q (.tup [.int x,.int y])|_=>False
def gRR(t b:Int->Int->Int->Int->Int):DSp:=λg Q=>match g with
 |[.tup [.int a,.int J],.tup [.int c,.int d]]=>(b a J c d≠0/\Bd 3000 a/\Bd 3000 J/\Bd 3000 c/\Bd 3000 d)/\∀x y,Ra.Low (t a J c d) (b a J c d) x y->Q (.tup [.int x,.int y])|_=>False
def yH:DSp:=gRR (λa b c d=>a*d - c*b) (λ_ b _ d=>b*d)
def yI:DSp:=gRR (λa _ c _=>a*c) (λ_ b _ d=>b*d)
def Fc:DSp:=gRR (λa _ _ d=>a*d) (λ_ b c _=>b*c)
def Fd:DSp:=λg Q=>match g with
 |[.tup [.int a,.int b],.tup [.int c,.int d]]=>(Bd 7000 a/\Bd 7000 b/\Bd 7000 c/\Bd 7000 d)/\Q (.bl (decide (a*d<c*b)))|_=>False
end
def pM:Sl->Sl
 |.own _=>.nil|.obj _=>.nil|s=>s
theorem fR(s:Sl):(∀ds,pM s ≠ .own ds)/\∀q,pM s ≠ .obj q:=by cases s<;>exact⟨λds z=>(by cases z),λq z=>(by cases z)⟩
def bU(ρ:DS):DS:=ρ.map pM
def HX(ρ:DS):bo Nat->Sl
 |none=>.nil|some j=>pM (slot ρ j)
def subD(js:ai (bo Nat))(ρ:DS):DS:=js.map (HX ρ)
def cq(g:DG)(tc:DT)(te:DE):ai D->ai D->DS->(ai D->Prop)->Prop
 |[],J,_,Q=>Q J|d::r,J,s,Q=>g d s λY=>tc Y λb U=>Br b (te U λy q=>J.length<sizeLine/\cq g tc te r (J++[y]) (bU q) Q) (cq g tc te r J (bU U) Q)
abbrev Kw(t:DA)(js:ai (bo Nat))(g:DG)(tc:DT)(te:DE):DA:=λq Q=>t q λd J=>cq g tc te d [] (subD js J) λys=>Q ys J
def delH(H:Hp)(a:bb):Hp:=λb=>if b=a then none else H b
theorem jU{a:bb}:delH H a a=none:=by simp[delH]
theorem bE{a b:bb}(h:b≠a):delH H a b=H b:=by simp[delH,h]
theorem Tabs.del{o:HO}(h:Tabs H)(J:H l=some o)(U:¬TF o):Tabs (delH H l) :=
 h.of λb x e Y=>by
  rw[bE]
  ·exact e
  ·rintro rfl;rw[J]at e;cases e;exact U Y
theorem nC{a:bb}{o:HO}(h:H a=some o):upd (delH H a) a o=H:=by
 funext b;by_cases e:b=a
 ·subst e;rw[ae,h]
 ·rw[af e,bE e]
section
variable{F:Fx}
theorem RSt.rebase{C:DS}(r:RSt K F M H σ C):RSt K ⟨F.pp,M,H⟩ M H σ (bU C):=by
 refine⟨by simp[bU,r.len],λi s o g E=>?_,OwF.none (λi s g=>?_),λa h=>h,.refl,r.liv.m,r.liv0,⟨trivial,r.lk.t⟩⟩
 ·simp only[bU,zzl]at g;cases q:C[i]? with
  |none=>rw[q]at g;cases g
  |some z =>
   rw[q]at g;cases g;have:=r.sl i z o q E;cases z with
   |nil=>trivial|val d=>exact this|pin w d=>exact this|own ds=>trivial|obj q=>trivial
 ·simp only[bU,zzl]at g;cases q:C[i]? with
  |none=>rw[q]at g;cases g
  |some z =>
   rw[q]at g;cases g;exact fR z
theorem RSt.writeFree{C:DS}{xs:ai V}(r:RSt K ⟨F.pp,M,H⟩ M H σ (bU C))(U:l∈M)(Y:F.pp≠some l)(h:H l=some (.lst xs)) :
  RSt K ⟨F.pp,M,upd H l (.lst ys)⟩ M (upd H l (.lst ys)) σ (bU C):=by
 have m:Mv K F.pp M H M (upd H l (.lst ys)):=.write h U Y;have lv:Lv0 F.pp M (upd H l (.lst ys)):=by
  refine⟨λa I=>?_,λp e=>?_⟩
  ·by_cases z:a=l
   ·subst z;rw[ae];intro z;cases z
   ·rw[af z];exact r.liv.m a I
  ·by_cases z:p=l
   ·subst z;rw[ae];intro z;cases z
   ·rw[af z];exact r.liv.p p e
 refine⟨r.len,λi s o g G=>?_,OwF.none (λi s g=>?_),λa h=>h,.refl,lv.m,lv,⟨trivial,m.tb r.lk.t⟩⟩
 rotate_left
 ·simp only[bU,zzl]at g;cases q:C[i]? with
  |none=>rw[q]at g;cases g
  |some E =>
   rw[q]at g;cases g;exact fR E
 have q:=r.sl i s o g G;cases s with
 |nil=>trivial|val d=>obtain⟨v,e,q⟩:=q;exact⟨v,e,q.mv m⟩
 |pin w d=>obtain⟨v,e,J,q⟩:=q;exact⟨v,e,J,q.mv m⟩
 |obj z=>exact q|own ds =>
  simp only[bU,zzl]at g;cases q:C[i]? with
  |none=>rw[q]at g;cases g
  |some E=>rw[q]at g;cases E<;>cases g
theorem rQ(ρ:DS):bU (bU ρ)=bU ρ:=by simp only[bU,zzk];refine zzF λs _=>?_;cases s<;>rfl
theorem lQ(js:ai (bo Nat))(ρ:DS):bU (subD js ρ)=subD js ρ:=by
 simp only[bU,subD,zzk];refine zzF λo _=>?_;cases o with
 |none=>rfl|some j=>simp only[Function.comp,HX];cases slot ρ j<;>rfl
theorem RSt.block{C:DS}{D:bb}(r:RSt K F M H σ C)(js:ai (bo Nat))(J:H D=none) :
  RSt K ⟨F.pp,D::M,upd H D (.lst [])⟩ (D::M) (upd H D (.lst [])) (L2.sub js σ) (subD js C):=by
 have m:Mv K F.pp M H (D::M) (upd H D (.lst [])):=.newOwn J;have lv:Lv0 F.pp (D::M) (upd H D (.lst [])):=by
  refine⟨λa G=>?_,λp e=>(SameP.new (K:=K) (pp:=F.pp) J).live p (r.liv.p p e)⟩;rcases zzr.mp G with rfl|G
  ·rw[ae];intro z;cases z
  ·exact(SameP.new (K:=K) (pp:=F.pp) J).live a (r.liv.m a G)
 refine⟨by simp[L2.sub,subD],λi s o g E=>?_,OwF.none (λi s g=>?_),λa h=>h,.refl,lv.m,lv,⟨trivial,m.tb r.lk.t⟩⟩
 ·simp only[subD,zzl]at g;simp only[L2.sub,zzl]at E;cases q:js[i]? with
  |none=>rw[q]at g;cases g
  |some Y =>
   rw[q]at g E;cases g;cases E;cases Y with
   |none=>trivial|some j =>
    show RSl K _ _ _ (pM (slot C j)) _;cases e:slot C j with
    |nil=>trivial|own L=>trivial|obj q=>trivial|val d =>
     obtain⟨o,I,v,rfl,U⟩:=r.at (aB e (by intro z;cases z));exact⟨v,by simp[sub1,I],U.mv m⟩
    |pin w d =>
     obtain⟨o,I,v,rfl,Q,U⟩:=r.at (aB e (by intro z;cases z));exact⟨v,by simp[sub1,I],Q,U.mv m⟩
 ·simp only[subD,zzl]at g;cases q:js[i]? with
  |none=>rw[q]at g;cases g
  |some Y =>
   rw[q]at g;cases Y with
   |none=>cases g;exact⟨λL z=>(by cases z),λq z=>(by cases z)⟩
   |some j =>
    cases g;exact fR (slot C j)
def PTsD(X:Cx)(ifs:ai bN)(t:DT):Prop:=∃T:TT,PTs X ifs T/\RU X.K T t
abbrev bF:DT:=λd Q=>Q true d
theorem au:PTsD X [] bF :=
 ⟨_,Ez,λrs h k=>k h .refl rs⟩
theorem eN{c:bN}{t:DT}(h:PTD X c t):PTsD X [c] t:=by obtain⟨T,p,r⟩:=h;exact⟨T,EA p,r⟩
def PCD(X:Cx)(e:bN)(t:DA):Prop:=∃T:TE,PE X e T/\(∀(i:Nat) (y:Str) (py J:Pos),X.N.Nodup->X.N[i]?=some y->X.env.scope.names.lookup y=some .local->swapsWith e (some (.Name y py)) J.line X.env=pure true->PS X (.Assign [.Name y py] e J) (tAsg T (xp i)))/\RL X.K T t
theorem PCD.pld{t:DA}(h:PCD X e t):PLD X e t:=by obtain⟨T,p,_,r⟩:=h;exact⟨T,p,r⟩
theorem dfc{t:DA}(h:PCD X e t):PED X e (dFrz t):=ff h.pld
theorem ao{elt iter:bN}{d:Scope}{cl:ai (Str×bb)}{t:DA}{g:DG}{tc:DT}{te:DE}(j:ai Str)(js:ai (bo Nat))(b3:dw X.env.cells d.names []=some cl)(hi:PID X tg iter t)(hg:∀{B:Blk},PGD (cxB X d cl j B) tg g)(ht:∀{B:Blk},PTsD (cxB X d cl j B) es tc)(he:∀{B:Blk},PED (cxB X d cl j B) elt te)(cap:Cap X d j js:=by repeat first|exact .nil|apply Cap.own|refine .cap rfl (by first|exact .inl rfl|exact .inr rfl) rfl ?_)(hc:X.calm=true:=by rfl)(b4:∀y∈d.names,y.2=.free->(y.1,NameKind.cell)∉d.names:=by decide +kernel)(a9:d.kind=.function:=by rfl)(a0:∀y∈d.names,y.2=.local->d.names.lookup y.1=some .local:=by decide +kernel)(hs:∀v,foldedSetIterable iter X.env v=pure v:=by intro _;rfl):PCD X (.ListComp elt [⟨tg,iter,es,0⟩] d pos) (Kw t js g tc te):=by
 obtain⟨wi,pi,ri⟩:=hi;have u:∀B:Blk,PG (cxB X d cl j B) tg (Classical.choose (@hg B))/\PTs (cxB X d cl j B) es (Classical.choose (@ht B))/\PE (cxB X d cl j B) elt (Classical.choose (@he B)):=λB =>
  ⟨(zye (@hg B)).1,(zye (@ht B)).1,(zye (@he B)).1⟩
 refine⟨_,EC hc b3 b4 a9 cap a0 pi u hs,λi y py spos hN hy hl c6=>ED hN hy hl hc b3 b4 a9 cap a0 pi u c6 hs,λ{F M H σ ρ Q P} rs h k=>ri rs h λ{I b7 M1 c J} h m1 b6 ok=>?_⟩;intro B s r;obtain⟨_,rg⟩:=zye (@hg B);obtain⟨_,rt⟩:=zye (@ht B);obtain⟨_,re⟩:=zye (@he B);have fr:=b6.liv.fresh r;refine⟨λi m w H'=>∃M' L U ys,m=I.length - i/\i<=I.length/\Mv X.K F.pp M1 c M' H'/\SameP X.K F.pp c H'/\RSt X.K ⟨F.pp,M',H'⟩ M' H' w (bU L)/\s∈M'/\(∀a∈M1,a∈M')/\H' s=some (.lst ys)/\Reps X.K F.pp M' H' U ys/\cq g tc te (I.drop i) U (bU L) (P · b7),
  ⟨I.length,s::M1,subD js b7,[],[],rfl,zzT _,.newOwn r,.new r,by rw[lQ];exact b6.block js r,zzd,λa ha=>zzf _ ha,ae,.nil,by rw[lQ];exact h⟩,?_⟩
 rintro i m w H' ⟨M',L,U,ys,rfl,hil,mv,sm,c7,b9,b5,x,ra,Y⟩;by_cases b0:i<I.length
 ·have e1:I[i]?=some I[i]:=by simp[b0]
  rw[zxe b0]at Y;refine .inr ⟨ok.go M' H' mv i b0,λc4 C=>∃M2 b1 U ys,Mv X.K F.pp M1 c M2 C/\SameP X.K F.pp c C/\RSt X.K ⟨F.pp,M2,C⟩ M2 C c4 (bU b1)/\s∈M2/\(∀a∈M1,a∈M2)/\C s=some (.lst ys)/\Reps X.K F.pp M2 C U ys/\cq g tc te (I.drop (i+1)) U (bU b1) (P · b7),
   λc4 C q=>by obtain⟨M2,b1,U,ys,a⟩:=q;exact⟨I.length - (i+1),by lia,M2,b1,U,ys,rfl,b0,a⟩,λy C yl=>?_⟩
  obtain⟨sp,rx⟩:=ok.yld M' H' mv i _ y C e1 yl;have c2:RSt X.K ⟨F.pp,M',C⟩ M' C w (bU L):=by have:=(c7.sameP sp).rebase;rw[rQ]at this;exact this
  have b8:C s=some (.lst ys):=sp.keep s _ x (nw fr.2);refine rg c2 rx Y λh3 m3 c8=>rt c8 h3 λ{b _ _ _} h4 m4 c3=>?_;have keep:∀{E:ai bb} {G:Hp} {c5:St} {b2:DS},Mv X.K F.pp M' C E G->RSt X.K ⟨F.pp,M',C⟩ E G c5 b2->Mv X.K F.pp M1 c E G/\SameP X.K F.pp c G/\RSt X.K ⟨F.pp,E,G⟩ E G c5 (bU b2)/\s∈E/\(∀a∈M1,a∈E)/\G s=some (.lst ys)/\Reps X.K F.pp E G U ys:=λmm rr =>
   ⟨(mv.trans sp.mv).trans mm,(sm.trans sp).trans rr.sameT,rr.rebase,rr.sub _ b9,λa ha=>rr.sub _ (b5 a ha),rr.same.keep s _ b8 (nw fr.2),(ra.mv sp.mv).mv mm⟩
  cases b with
  |false =>
   obtain⟨a1,a2,a3,A,a5,N,a7⟩:=keep (m3.trans m4) c3;exact iteF ⟨_,_,U,ys,a1,a2,a3,A,a5,N,a7,h4.no rfl⟩
  |true =>
   refine iteT (re c3 (h4.yes rfl) λ{y b2 E G v} h5 m5 c9 r5=>?_);obtain⟨a1,a2,a3,A,a5,N,a7⟩:=keep ((m3.trans m4).trans m5) c9;have mw:Mv X.K F.pp E G E (upd G s (.lst (ys++[v]))):=.write N A fr.2;refine⟨ys,N,by rw[←a7.length];exact h5.1,E,b2,U++[y],ys++[v],a1.trans mw,?_,a3.writeFree A fr.2 N,A,a5,ae,(a7.append (.one r5)).mv mw,h5.2⟩;refine⟨⟨λb o e n=>?_,λp e hp=>mw.pen p e (a2.pen p e hp),λb u=>?_⟩,λtb=>mw.tb (a2.tb tb)⟩
   ·rw[af (by rintro rfl;rw[r]at e;cases e)];exact a2.keep b o e n
   ·by_cases z:b=s
    ·subst z;rw[ae];intro z;cases z
    ·rw[af z];exact a2.live b u
 ·have e:i=I.length:=by lia
  refine .inl ⟨ok.stop M' H' mv i (by lia),?_⟩;have hd:I.drop i=[]:=by rw[zwQ];lia
  rw[hd]at Y;have pe:∀p,F.pp=some p->(∃a T t l,Pen X.K H' p a T t l)->∃a T t l,Pen X.K (delH H' s) p a T t l:=λp e ⟨a,T,t,l,pn⟩=>by
   refine⟨a,T,t,l,by rw[bE (by rintro rfl;exact fr.2 e)];exact pn.lst,?_,pn.t0⟩;rcases pn.scr with ⟨o,q⟩|q
   ·exact .inl ⟨o,by rw[bE (iT q x (by intro z;cases z))];exact q⟩
   ·exact .inr q
  have sd:SameP X.K F.pp c (delH H' s):=by
   refine⟨⟨λb o e n=>?_,λp e hp=>pe p e (sm.pen p e hp),λb u=>?_⟩,λtb=>(sm.tb tb).del x im⟩
   ·rw[bE (by rintro rfl;rw[r]at e;cases e)];exact sm.keep b o e n
   ·rw[bE (by rintro rfl;exact u r)];exact sm.live b u
  have md:Mv X.K F.pp M' H' M1 (delH H' s):=⟨λa xs q=>by rw[bE (iT q x (by intro z;cases z))];exact q,λa o q n p=>⟨by rw[bE (by rintro rfl;exact n b9)];exact q,λz=>n (b5 a z)⟩,pe,λtb=>tb.del x im⟩;have:=k Y (m1.trans sd.mv) (b6.sameP sd) jU (ra.mv md);rw[nC x]at this;exact this
theorem fg{t:DA}(i:Nat)(h:PCD X e t)(d:X.N.Nodup:=by assumption)(g:X.N[i]?=some y:=by rfl)(J:X.env.scope.names.lookup y=some .local:=by rfl)(Y:swapsWith e (some (.Name y py)) pos.line X.env=pure true:=by rfl):PSD X (.Assign [.Name y py] e pos) (dSet i (dFrz t)):=by obtain⟨T,_,p,r⟩:=h;refine⟨_,p i y py pos d g J Y,λrs q o=>r rs q λq m U J s=>o.nx (m.trans (.new J)) ((U.sameP (.new J)).set ?_ i) q⟩;exact⟨_,_,rfl,(U.liv.fresh J).1,(U.liv.fresh J).2,ae,s.mv (.new J)⟩
theorem yJ{t:DA}(i:Nat)(h:PCD X e t)(d:X.N.Nodup:=by assumption)(g:X.N[i]?=some y:=by rfl)(J:X.env.scope.names.lookup y=some .local:=by rfl)(U:swapsWith e (some (.Name y py)) pos.line X.env=pure true:=by rfl):PSD X (.Assign [.Name y py] e pos) (dOwn i t):=by obtain⟨T,_,p,r⟩:=h;exact⟨_,p i y py pos d g J U,λrs q o=>r rs q λq m Y J s=>o.nx (m.trans (.newOwn J)) (Y.newOwn J s i) q⟩
end
section
variable[Frm]
def jV:ai D->bo (ai Int)
 |[]=>some []|.int i::r=>(jV r).map (i :: ·)|_=>none
theorem lR:∀d:ai Int,jV (d.map D.int)=some d
 |[]=>rfl|n::r=>by simp[jV,lR r]
theorem yK:∀{ds:ai D} {g:ai Int},jV ds=some g->ds=g.map D.int:=by
 intro ds
 induction ds with
 |nil=>intro _ h;cases h;rfl
 |cons d r J =>
  intro g h;cases d<;>try cases h
  simp only[jV,zym]at h;obtain⟨ms,h,rfl⟩:=h;rw[J h];rfl
theorem pN{K:zvi}{pp:bo bb}{M:ai bb}{H:Hp}:∀{d:ai Int} {xs:ai V},Reps K pp M H (d.map D.int) xs->xs=d.map V.int
 |[],xs,h=>by simpa only[zyj,Reps]using h
 |n::r,xs,h=>by obtain⟨x,t,rfl,rfl,h⟩:=h;rw[pN h];rfl
def gSum:DSp:=λd P=>match d with
 |[.lst q]=>match jV q with
  |some g=>P (.int g.sum)|none=>False
 |_=>False
theorem nD{d:ai Int}{P:D->Prop}(h:P (.int d.sum)):gSum [.lst (d.map D.int)] P:=by unfold gSum;simp only[lR];exact h
theorem Bw{ds:ai D}{P:D->Prop}(h:gSum ds P):∃d:ai Int,ds=[.lst (d.map D.int)]/\P (.int d.sum):=by
 unfold gSum at h;split at h
 ·rename_i g;cases e:jV g with
  |none=>rw[e]at h;exact h.elim|some d =>
   rw[e]at h;exact⟨d,by rw[yK e],h⟩
 ·exact h.elim
theorem uy(q:X.calm=true:=by rfl):CallD X (.builtin "sum") gSum:=by refine⟨_,AQ q,λ{pp M H ds vs Q P} _ r h k=>?_⟩;obtain⟨s,rfl,d⟩:=Bw h;obtain⟨x,_,rfl,⟨a,ys,rfl,_,_,g,J⟩,rfl⟩:=r;exact⟨a,s,rfl,SqL.of (by rw[g,pN J]),k d .refl bx⟩
abbrev Kx(te:DE):DA:=λs Q=>te s λd g=>match d with
 |.lst q=>Q q g|.tup q=>Q q g|_=>False
theorem yL{l:bN}{C:DE}(E:PED X l C):PID X tg l (Kx C):=by
 obtain⟨T,p,r⟩:=E;refine⟨_,Hv p,λrs h k=>r rs h λ{d _ _ _ _} h m U J=>?_⟩;cases d<;>first|exact h.elim|skip
 case tup ds =>
  obtain⟨a,g,rfl,s,J⟩:=J;exact .inr ⟨a,rfl,⟨g,SqT.of s⟩,k h m U (ItOkV.of ⟨λ_ _ q _ _ _ _ y=>⟨y.1,y.2 g (SqT.of (q.tup a g s))⟩,λ_ _ q i hi=>⟨g,g[i],SqT.of (q.tup a g s),by simp[hi]⟩,λ_ _ q _ hi=>⟨g,SqT.of (q.tup a g s),hi⟩⟩ J)⟩
 case lst ds =>
  obtain⟨a,g,rfl,z,Y,s,J⟩:=J;exact .inl ⟨a,rfl,⟨g,SqL.of s⟩,k h m U (ItOkV.of ⟨λ_ _ q _ _ _ _ y=>⟨y.1,y.2 g (SqL.of (q.lst a g s z Y).1)⟩,λ_ _ q i hi=>⟨g,g[i],SqL.of (q.lst a g s z Y).1,by simp[hi]⟩,λ_ _ q _ hi=>⟨g,SqL.of (q.lst a g s z Y).1,hi⟩⟩ J)⟩
theorem aA{g:DG}{z:DT}{C:DE}{ds:ai D}{Q:ai D->Prop}(N:ai D->ai D->DS->Prop)(a:∀J q,N ds J q->Q J)
  (c:∀(pre:ai D) (d:D) (post J:ai D) (q:DS) (Y:ai D->DS->Prop),ds=pre++d::post->N pre J q->(∀U s,N (pre++[d]) U (bU s)->Y U s) ->
   g d q λG=>z G λb E=>Br b (C E λy I=>J.length<sizeLine/\Y (J++[y]) I) (Y J E)) (q:DS) (h:N [] [] q):cq g z C ds [] q Q:=by
 have key:∀(post pre J:ai D),ds=pre++post->∀q,N pre J q->cq g z C post J q Q:=by
  intro post
  induction post with
  |nil=>intro pre J e q h;rw[zyb]at e;subst e;exact a J q h|cons d r i=>intro pre J e q h;exact c pre d r J q (λU s=>cq g z C r U (bU s) Q) e h (λU s L=>i (pre++[d]) U (by rw[e,zyF];rfl) _ L)
 exact key ds [] [] rfl q h
theorem cr{g:DG}{G:DE}{xs:ai α}{em:α->D}{Q:ai D->Prop}(f:α->D)(N:DS->Prop)(c:xs.length<=sizeLine)(j:∀x∈xs,∀(s:DS) (Y:D->DS->Prop) (Z:DS->Prop),N s->(∀z,N (bU z)->Y (f x) z)->g (em x) s λI=>bF I λb U=>Br b (G U Y) (Z U))(s:DS)(h:N s)(i:Q (xs.map f)):cq g bF G (xs.map em) [] s Q:=by refine aA (λpre J s=>J=(xs.take pre.length).map f/\N s) (λJ s h=>by rw[h.1,zza,zxE];exact i) (λpre d post J s Y e C a=>?_) s ⟨rfl,h⟩;obtain⟨l,l2,rfl,rfl,q⟩:=List.map_eq_append_iff.mp e;obtain⟨x,E,rfl,rfl,rfl⟩:=List.map_eq_cons_iff.mp q;obtain⟨rfl,C⟩:=C;rw[show (l++x::E).take (l.map em).length=l by simp];refine j x (by simp) s _ _ C λz L=>⟨?_,a _ z ⟨by rw[show (l++x::E).take (l.map em++[em x]).length=l++[x] by simp[List.take_append,zyN]];simp,L⟩⟩;rw[zzm,zzI]at c;rw[zza];lia
theorem bc{g:DG}{C:DE}{ds:ai D}{Q:ai D->Prop}(f:D->D)(N:DS->Prop)(hl:ds.length<=sizeLine)
  (i:∀d∈ds,∀(q:DS) (Y:D->DS->Prop) (Z:DS->Prop),N q->(∀s,N (bU s)->Y (f d) s)->g d q λG=>bF G λb J=>Br b (C J Y) (Z J)) (q:DS) (h:N q) (c:Q (ds.map f)):cq g bF C ds [] q Q:=by
 refine aA (λpre U q=>U=pre.map f/\N q) (λU q h=>by rw[h.1];exact c) (λpre d post U q Y e z a=>?_) q ⟨rfl,h⟩;obtain⟨rfl,z⟩:=z;have E:(pre.map f).length<sizeLine:=by
  rw[zza];have:ds.length=pre.length+(post.length+1):=by rw[e];simp
  lia
 refine i d (by rw[e];simp) q (λy I=>(pre.map f).length<sizeLine/\Y (pre.map f++[y]) I) (λJ=>Y (pre.map f) J) z λs L=>⟨E,a _ s ⟨by simp,L⟩⟩
structure Shp(n:Nat)(d:D):Prop where
 p:pln d=true
 c:(toPy d).canLay0=true
 d:(toPy d).depth <= n
theorem Shp.shp{n:Nat}{d:D}(h:Shp n d)(l:n<=64:=by decide):shp d=true:=by unfold DL.shp SeqAt.shaped;rw[h.p,h.c,zzJ (zzo h.d l)];rfl
theorem Shp.int{i:Int}{n:Nat}:Shp n (.int i):=⟨rfl,rfl,zzT _⟩
theorem Shp.non{n:Nat}:Shp n .non:=⟨rfl,rfl,zzT _⟩
theorem rR{n:Nat}:∀{ds:ai D},(∀d∈ds,Shp n d)->plns ds=true/\PyData.canLayAll0 (pL ds)=true/\PyData.depthAll (pL ds)<=n
 |[],_=>⟨rfl,rfl,zzT _⟩|d::ds,h=>by obtain⟨a,b,c⟩:=rR λx J=>h x (zzf _ J);have q:=h d zzd;refine⟨by simp only[plns,q.p,a,Bool.and_self],by simp only[pL,PyData.canLayAll0,q.c,b,Bool.and_self],?_⟩;exact Nat.max_le.mpr ⟨q.d,c⟩
theorem Shp.tup{n:Nat}{ds:ai D}(h:∀d∈ds,Shp n d):Shp (n+1) (.tup ds):=by obtain⟨a,b,c⟩:=rR h;exact⟨by simp only[pln,a],by simp only[toPy,PyData.canLay0,b],by simp only[toPy,PyData.depth];lia⟩
theorem Shp.lst{n:Nat}{ds:ai D}(h:∀d∈ds,Shp n d):Shp (n+1) (.lst ds):=by obtain⟨a,b,c⟩:=rR h;exact⟨by simp only[pln,a],by simp only[toPy,PyData.canLay0,b],by simp only[toPy,PyData.depth];lia⟩
theorem gz{d:D}(h:shp d=true):eqD d d=true:=by unfold shp at h;rw[zzY]at h;exact SeqAt.eqv_refl _ (SeqAt.canLay_of_shaped h.2)
theorem Shp.pair{i:Int}:Shp (n+1) (.tup [.int i,.int j]):=.tup λd hd=>by simp only[zzr,zyo,zxv]at hd;rcases hd with rfl|rfl<;>exact .int
end
section
variable[Frm]
theorem fS{q:DE}{g:DG}(he:PED X e q)(J:PGD X tg g)(d:swapsWithSole [tg] e pos.line X.env=pure false:=by rfl)(hw:swappedStores [tg] e X.env=pure none:=by rfl)(s:(assignEach [tg] X.env).map (·.2)=[assign tg X.env]:=by rfl):PSD X (.Assign [tg] e pos) (dAsg q g) :=
 HM he J d hw (oN (zye he).1 (zye J).1 d hw s)
end
section
variable[Frm]
omit [Frm] in
theorem Br.dn{p:Prop}[Decidable p]{B:Prop}(h:¬p)(b:B):Br (decide p) A B:=⟨λz=>absurd (zzQ z) h,λ_=>b⟩
omit [Frm] in
theorem Br.dt{p:Prop}[Decidable p]{B:Prop}(h:p)(a:A):Br (decide p) A B:=⟨λ_=>a,λz=>absurd h (zyT z)⟩
omit [Frm] in
theorem Br.di{p:Prop}[Decidable p]{B:Prop}(a:p->A)(b:¬p->B):Br (decide p) A B:=⟨λz=>a (zzQ z),λz=>b (zyT z)⟩
theorem gA{g:DG}{b:DTS}{E:DEnds}(N:Int->DS->Prop):∀(n:Nat) (lo:Int),(∀d,N (lo+n) d->E.nx d) ->
  (∀(k:Int) (d:DS) (X:DS->Prop),lo<=k->k<lo+n->N k d->(∀q,N (k+1) q->X q)->g (.int k) d λJ=>b {E with nx:=X,ct:=X,bk:=E.nx} J)->∀d,N lo d->dZ g b (eX lo n) E d
 |0,lo,s,_,d,h=>s d (by simpa using h)|n+1,lo,s,z,d,h=>z lo d _ (zyu _) (by lia) h λq C=>gA N n (lo+1) (λd h=>s d (by rw[show lo+((n+1:Nat):Int)=lo+1+(n:Int) by lia];exact h)) (λk d X h1 h2=>z k d X (by lia) (by lia)) q C
section
variable{F:Fx}
def eA(k:Nat):ai D->ai D
 |[]=>[]|d::r=>.tup [.int k,d]::eA (k+1) r
omit [Frm] in
theorem aJ:∀(ds:ai D) (k:Nat),(eA k ds).length=ds.length
 |[],_=>rfl|_::r,k=>by simp[eA,aJ r]
omit [Frm] in
theorem eB:∀(ds:ai D) (k i:Nat) (d:D),(eA k ds)[i]?=some d->∃e,ds[i]?=some e/\d=.tup [.int ((k+i:Nat):Int),e]
 |[],_,i,d,h=>by simp[eA]at h
 |e::r,k,0,d,h=>by simp[eA]at h;exact⟨e,rfl,h.symm⟩
 |e::r,k,i+1,d,h=>by obtain⟨J,g,q⟩:=eB r (k+1) i d h;exact⟨J,g,by rw[q];congr 3;congr 1;lia⟩
def zipD:ai D->ai D->ai D
 |x::d,y::ys=>.tup [x,y]::zipD d ys|_,_=>[]
omit [Frm] in
theorem fT:∀(xs ys:ai D),(zipD xs ys).length=min xs.length ys.length
 |[],_=>by simp[zipD]
 |_::_,[]=>by simp[zipD]
 |_::xs,_::ys=>by simp[zipD,fT xs ys]
omit [Frm] in
theorem nE:∀(xs ys:ai D) (i:Nat) (d:D),(zipD xs ys)[i]?=some d->∃x y,xs[i]?=some x/\ys[i]?=some y/\d=.tup [x,y]
 |[],_,i,d,h=>by simp[zipD]at h
 |_::_,[],i,d,h=>by simp[zipD]at h
 |x::xs,y::ys,0,d,h=>by simp[zipD]at h;exact⟨x,y,rfl,rfl,h.symm⟩
 |x::xs,y::ys,i+1,d,h=>by exact nE xs ys i d h
abbrev HY(t:DA):DA:=λs Q=>t s λg d=>match g with
 |[.lst q]=>Q (eA 0 q) d|_=>False
theorem fU{l:bN}{Q:DA}{tp:Pos}{elts:ai bN}(C:X.mg "enumerate" = none)(q:PAD X [l] Q)(he:starEach [l] X.env=(false,eval l X.env)::starEach [] X.env:=by rfl)(b:(backTo pos (starEach [] X.env)).any (·.1)=false:=by rfl)(u:Gl X "enumerate":=by rfl) :
  PID X (.Tuple elts k tp) (.Call (.Name "enumerate" p) [l] [] pos) (HY Q):=by
 obtain⟨T,w,r⟩:=q;refine⟨_,EE u C w he b,λrs h k=>r rs h λh m j J=>?_⟩;split at h
 case h_2=>exact h.elim
 rename_i E;obtain⟨x,r0,rfl,⟨a,g,rfl,C,G,q,J⟩,rfl⟩:=J;refine⟨a,rfl,⟨g,SqL.of q⟩,k h m j ⟨λM2 I s i d y H3 e A=>?_,λM2 I s i hi=>?_,λM2 I s i hi=>?_⟩⟩
 ·obtain⟨T,z,L,rfl,v,rfl⟩:=A;obtain⟨d',U,rfl⟩:=eB E 0 i d e;obtain⟨v',c,n⟩:=J.get' U;have:=v g (SqL.of (s.lst a g q C G).1);rw[c]at this;cases this;refine⟨.new L,?_⟩;exact⟨T,_,rfl,ae,.cons (by rw[zwj];exact bx) (.one ((n.mv s).mv (.new L)))⟩
 ·have Y:i<g.length:=by rw[←J.length,←aJ E 0];exact hi
  exact⟨g,g[i],SqL.of (s.lst a g q C G).1,by simp[Y]⟩
 ·exact⟨g,SqL.of (s.lst a g q C G).1,by rw[←J.length,←aJ E 0];exact hi⟩
def HZ(k:Nat)(d:D)(ρ:DS)(Q:DS->Prop)(j:D):Sl->Prop
 |.own g=>match j with
  |.int i=>∃n,ixN g.length i=some n/\Q (ρ.set k (.own (g.set n d)))|_=>False
 |_=>False
abbrev Ky(k:Nat)(ti:DE):DG:=λd q Q=>wf (slot q k)/\ti q λj g=>HZ k d g Q j (slot g k)
theorem lS{o i:bN}{E:DE}(c:PE X o (tVar k))(hi:PED X i E)(b:∀v,assign (.Subscript o i pos) X.env v=(do
   let g ←holding [v] (eval o X.env)
   let s ←holding [v,g] (eval i X.env)
   standAt pos
   holding [v,g,s] (setItem g s v)
   release [v,g,s] []):=by intro _;rfl):PGD X (.Subscript o i pos) (Ky k E):=by
 obtain⟨T,p,r⟩:=hi;refine⟨_,xr c p mO b,λ{F M H σ ρ d v Q P} rs x h u=>?_⟩;obtain⟨h0,h⟩:=h;obtain⟨ds,q⟩:=gw h0;obtain⟨_,J,l,xs,rfl,_⟩:=rs.at (aB q);refine⟨.ref l,J,r rs h λ{j z _ _ _} h m Y y=>?_⟩;cases C:slot z k<;>rw[C]at h<;>first|exact h.elim|skip
 cases j<;>first|exact h.elim|skip
 obtain⟨n,e,h⟩:=h;have g1:=aB C;obtain⟨l',L,a,_,_,_,G,U⟩:=Y.sl k _ _ g1 J;cases a;subst y;obtain⟨w,I⟩:=Y.write g1 J (U.set (x.mv m) n);exact⟨l,L,_,n,rfl,rfl,G,by rw[←U.length];exact e,u h (m.trans w) I⟩
omit [Frm] in
theorem lT{i:Int}(h0:0<=i)(h:i<n):ixN n i=some i.toNat:=by unfold ixN;rw[zzi h0,zzi h]
def dIxS(ρ:DS)(Q:D->DS->Prop)(j:D):Sl->Prop
 |.own g=>gIx (.lst g) j λd=>Q d ρ|_=>False
abbrev dIxO(k:Nat)(ti:DE):DE:=λg Q=>wf (slot g k)/\ti g λj d=>dIxS d Q j (slot d k)
theorem Ia{b:bN}{z:DE}(L:PE X a (tVar k))(Q:PED X b z)(c:mL b):PED X (.Subscript a b pos) (dIxO k z):=by
 obtain⟨T,p,r⟩:=Q;refine⟨_,xE tX L p c,λrs h i=>?_⟩;obtain⟨h0,h⟩:=h;obtain⟨ds,q⟩:=gw h0;obtain⟨_,J,l,xs,rfl,_⟩:=rs.at (aB q);refine⟨.ref l,J,r rs h λ{j g _ _ _} h m U n=>?_⟩;cases s:slot g k<;>rw[s]at h<;>first|exact h.elim|skip
 cases j<;>first|exact h.elim|skip
 obtain⟨d,e,h⟩:=ux h;obtain⟨l',E,G,_,_,_,Y,C⟩:=U.sl k _ _ (aB s) J;cases G;subst n;obtain⟨v,I,u⟩:=rP C e;exact⟨l,E,_,v,rfl,rfl,Y,I,i h m U u⟩
end
end
abbrev DTN:=(D->Prop)->(ai D->Prop)->DS->Prop
section
variable[Frm]
structure EN(K:zvi)(F:Fx)(M:List Addr)(H:Hp)(Q:D->Prop)(L:List D->Prop)(D:Ends):Prop where
 rt:∀{M' H' σ' ρ' d v},Mv K F.pp M H M' H'->RSt K F M' H' σ' ρ'->Rep K F.pp M' H' d v->Q d->D.rt v H'
 nx:∀{M' H' σ' ρ'},Mv K F.pp M H M' H'->RSt K F M' H' σ' ρ'->Q .non->D.nx σ' H'
 nw:∀{M' H' ds l xs},SameP K F.pp F.H0 H'->(∀a∈F.M0,a∈M')->F.H0 l=none->F.pp≠some l->l∈M'->H' l=some (.lst xs)->Reps K F.pp M' H' ds xs->L ds->D.rt (.ref l) H'
theorem EN.mv{K:zvi}{F:Fx}{Q:DL.D->Prop}{L:ai DL.D->Prop}{D:Ends}(o:EN K F M H Q L D)(m:Mv K F.pp M H M1 H'):EN K F M1 H' Q L D :=
 ⟨λJ=>o.rt (m.trans J),λJ=>o.nx (m.trans J),o.nw⟩
def PSsN(X:Cx)(st:ai Stmt)(t:DTN):Prop:=∃T:TS,PSs X st T/\∀{F:Fx} {M H σ ρ Q L D},RSt X.K F M H σ ρ->t Q L ρ->EN X.K F M H Q L D->T D σ H
variable{st:Stmt}{rest:ai Stmt}{t:DTS}{u:DTN}{tl:DA}
theorem rS(h:PLD X e tl):PSsN X [.Return (some e) pos] (λ_ L s=>tl s λds _=>L ds):=by obtain⟨T,p,r⟩:=h;refine⟨_,eJ (jv p),λrs q Y=>r rs q λq m J U g=>?_⟩;exact Y.nw (J.sameT.trans (.new U)) (λa d=>zzf _ (J.sub a d)) (J.h0 U) (J.liv.fresh U).2 zzd ae (g.mv (.newOwn U)) q
def slN(L:ai D->Prop):Sl->Prop
 |.own d=>L d|_=>False
theorem yM(h:PE X e (tVar i)):PSsN X [.Return (some e) pos] (λ_ L d=>slN L (slot d i)):=by
 refine⟨_,eJ (jv h),λ{F M H σ d Q L D} rs q E=>?_⟩;have q:slN L (slot d i):=q;cases z:slot d i<;>rw[z]at q<;>first|exact q.elim|skip
 obtain⟨oo1,g,l,xs,rfl,Y,J,s,U,C⟩:=rs.at (aB z);exact⟨.ref l,g,E.nw rs.sameT rs.sub J s Y U C q⟩
theorem cx(d:PSD X st t)(g:PSsN X rest u):PSsN X (st::rest) (λQ L z=>t {nx:=u Q L,rt:=Q} z):=by obtain⟨T,p,r⟩:=d;obtain⟨U,q,s⟩:=g;exact⟨_,bn p q,λrs h Y=>r rs h ⟨λm J h=>s J h (Y.mv m),λ_ _ q=>q.elim,λ_ _ q=>q.elim,Y.rt⟩⟩
theorem rT(g:PSD X st t)(z:PSsN X rest u):PSsN X (st::rest) (λQ L E=>∃N:DS->Prop,t {nx:=N,rt:=Q} E/\∀d,N d->u Q L d):=by obtain⟨T,p,r⟩:=g;obtain⟨U,q,s⟩:=z;refine⟨_,bn p q,λrs h Y=>?_⟩;obtain⟨N,h,C⟩:=h;exact r rs h ⟨λm J h=>s J (C _ h) (Y.mv m),λ_ _ q=>q.elim,λ_ _ q=>q.elim,Y.rt⟩
end
abbrev DSpN:=ai D->(D->Prop)->(ai D->Prop)->Prop
def spDN(K:zvi)(n:Nat)(g:DSpN):Sp:=λvs H Q _=>∃pp M q P L,Lv pp M H/\Reps K pp M H q vs/\q.length=n/\g q P L/\(∀{d H' v},P d->SameP K pp H H'->Rep K pp M H' d v->Q v H') /\
 ∀{es M' H' l s},L es->SameP K pp H H'->(∀a∈M,a∈M')->H l=none->pp≠some l->l∈M'->H' l=some (.lst s)->Reps K pp M' H' es s->Q (.ref l) H'
theorem fnDN{P:bP}{K:zvi}{base:bz}{st:Stmt}{f:bb}{g:DSpN}{t:DTN}(J:Fun K x y st f fd)(S:FnScope N ps (ah st))(C:∀{z:av} {A:Around} {d:ai Env} {s:bd} {H:Hp} {E:XK},Room k (A.deeper (envOfC y (ah st) s.heap.objs.size f z))->N.Nodup -> @PSsN _ Frm.free (cxOf CX0 P w K mg base N y (ah st) f z A d s H E).nox (ck st) t)(U:∀ds Q L,ds.length=ps.length->g ds Q L->t Q L (fL N.length ds)):FnOk P w K mg base CX0 (k+1) f fd ps (spDN K ps.length g):=by
 refine J.ok S (λvs H Q E h=>?_) (λz A d s H vs Q E a h=>?_)
 ·obtain⟨pp,M,ds,P,L,_,r,e,_⟩:=h;rw[←r.length,e]
 ·obtain⟨pp,M,ds,P,L,lv,r,e,h,k,b⟩:=h;obtain⟨T,p,run⟩:=C a S.nd;exact⟨T,p,run (gv lv r trivial) (U ds _ _ e h) ⟨λm rs c q=>k q rs.sameT (c.mv (.less rs.sub)),λm rs q=>k q rs.sameT (by simp only[Rep]),λs sub h0 I G Y i q=>b q s sub h0 I G Y i⟩⟩
theorem FnOk.asD{P:bP}{K:zvi}{base:bz}{f:bb}{g:DSpN}{d:DSp}(h:FnOk P w K mg base CX0 k f fd ps (spDN K n g))(U:∀ds Q,d ds Q->g ds Q (λes=>Q (.lst es))):FnOk P w K mg base CX0 k f fd ps (spD K n d) :=
 h.imp λvs H Q E h=>by obtain⟨pp,M,ds,P,lv,r,e,h,k⟩:=h;refine⟨pp,M,ds,P,_,lv,r,e,U _ _ h,k,λq s sub Y z hm J C=>k q s ?_⟩;exact⟨_,_,rfl,(lv.fresh Y).1,z,J,C.mv (.less sub)⟩
section
variable[Frm]
abbrev Kz(i n:Nat)(g:DSpN)(t:DA):DTS:=λE s=>t s λq J=>q.length=n/\g q (λd=>E.nx (J.set i (.val d))) (λes=>E.nx (J.set i (.own es)))
theorem Fe{f:bb}{g:DSpN}{e:bN}{t:DA}(Fn:FnOk X.prog X.w X.K X.mg X.base CX0 k f fd ps (spDN X.K n g))(hr:Room k X.A)(hg:Gl X x)(hm:X.mg x=some (.ref f))(hk:PySem.W.keepIn X.K (.ref f)=true)(C:Binds X.K fd ps [])(ha:PAD X (e::es) t)(hN:X.N.Nodup)(hi:X.N[i]?=some y)(hx:Loc X.env.scope y)(a0:(x==("__debug__" : Str))=false:=by decide)(he:starEach (e::es) X.env=(false,eval e X.env)::starEach es X.env:=by rfl)(a4:(backTo p2 (starEach es X.env)).any (·.1)=false:=by rfl)(hs:swapsWith (.Call (.Name x p) (e::es) [] p2) (some (.Name y py)) pos.line X.env=pure false:=by rfl)(hf:X.fn y=true∨X.env.scope.names.lookup y=some .local:=by first|exact .inl rfl|exact .inr rfl|assumption) :
  PSD X (.Assign [.Name y py] (.Call (.Name x p) (e::es) [] p2) pos) (Kz i n g t):=by
 obtain⟨T,pa,ra⟩:=ha;refine⟨_,fH hN hi hx (mK Fn hr hg hm hk C .nil AK pa a0 he a4) hs hf,λ{F M H σ ρ E D} rs q o=>ra rs q λ{ds ρ1 M1 H1 vs} q j Y r1=>?_⟩;rw[zyb];refine⟨F.pp,M1,ds,_,_,Y.liv,r1,q.1,q.2,λq s r=>o.nx (j.trans s.mv) ((Y.sameP s).set r i) q,λ{es M' H' l xs} q s sub Q c hM J rr=>?_⟩;have v:SameP X.K F.pp H1 (delH H' l):=by
  refine⟨⟨λb o e n=>?_,λp e U=>?_,λb C=>?_⟩,λL=>(s.tb L).del J im⟩
  ·rw[bE (by rintro rfl;rw[Q]at e;cases e)];exact s.keep b o e n
  ·obtain⟨a,I,t,G,d⟩:=s.pen p e U;have np:p≠l:=by rintro rfl;exact c e
   refine⟨a,I,t,G,by rw[bE np];exact d.lst,?_,d.t0⟩;rcases d.scr with ⟨o,q⟩|q
   ·exact .inl ⟨o,by rw[bE (iT q J (by intro z;cases z))];exact q⟩
   ·exact .inr q
  ·rw[bE (by rintro rfl;exact C Q)];exact s.live b C
 have md:Mv X.K F.pp M' H' M1 (delH H' l):=by
  refine⟨λa xs q=>by rw[bE (iT q J (by intro z;cases z))];exact q,λa o q n p=>⟨by rw[bE (by rintro rfl;exact n hM)];exact q,λz=>n (sub a z)⟩,λp e U=>?_,λL=>L.del J im⟩;obtain⟨a,I,t,G,d⟩:=U;have np:p≠l:=by rintro rfl;exact c e
  refine⟨a,I,t,G,by rw[bE np];exact d.lst,?_,d.t0⟩;rcases d.scr with ⟨o,q⟩|q
  ·exact .inl ⟨o,by rw[bE (iT q J (by intro z;cases z))];exact q⟩
  ·exact .inr q
 have u:=(Y.sameP v).newOwn (jU) (rr.mv md) i;rw[nC J]at u;have m:Mv X.K F.pp M1 (delH H' l) (l::M1) (upd (delH H' l) l (.lst xs)):=.newOwn jU;rw[nC J]at m;exact o.nx ((j.trans v.mv).trans m) u q
end
section
def rV:D->Bool
 |.non=>true|.bl _=>true|.int _=>true|.str _=>true|_=>false
def toV:D->V
 |.bl b=>.bl b|.int i=>.int i|.str s=>.str s|_=>.non
def eqF(x y:D):Bool:=eqV (toV x) (toV y)
theorem nF{d:D}(f:rV d=true)(r:Rep K pp M H d v):v=toV d/\gX v=true:=by
 cases d<;>first|exact absurd (show false=true from f) zzL|skip
 all_goals
  subst r;exact⟨rfl,rfl⟩
theorem jW:∀{ds:ai D} {xs:ai V},ds.all rV=true->Reps K pp M H ds xs->xs=ds.map toV/\xs.all gX=true
 |[],xs,_,r=>by subst r;exact⟨rfl,rfl⟩
 |d::ds,xs,f,r=>by obtain⟨x,r',rfl,hd,Y⟩:=r;rw[zve,zzY]at f;obtain⟨g,q⟩:=nF f.1 hd;obtain⟨J,U⟩:=jW f.2 Y;subst g J;exact⟨rfl,by rw[zve,q,U];rfl⟩
variable[Frm]
structure M1D(X:Cx)(name:Str)(id:String)(g:D->D->(D->Prop)->Prop):Prop where
 slot:Slot "list" name id
 ty:typeOf (.builtin id)=pure (.type "method_descriptor")
 run:∃r,MtR X id r/\∀{pp M H x y v u Q P},Rep X.K pp M H x v->Rep X.K pp M H y u->g x y P->(∀{d w},P d->Rep X.K pp M H d w->Q w H)->r v [u] H Q
def KA:D->Prop
 |.lst _=>True|_=>False
abbrev dM1(g:D->D->(D->Prop)->Prop)(to te:DE):DE:=λq Q=>to q λx J=>KA x/\te J λy U=>g x y λd=>Q d U
theorem Ff{g:D->D->(D->Prop)->Prop}{o:bN}{to E:DE}(d:M1D X y T g)(b:PED X o to)(he:PED X e E)(J:attributeBase o y X.env (eval o X.env)=eval o X.env:=by rfl)(Y:((backTo p (starEach [e] X.env)).all (λx=>!x.1) && (backToKw p (keywordEach [] X.env)).all (λx=>x.1.isSome)
   && decide ([e].length+([]:ai Keyword).length+(if ([]:ai Keyword).isEmpty then 0 else 1)<30))=true:=by rfl)(U:(pos.endLine==p.line)=true:=by rfl)(s:starEach [e] X.env=(false,eval e X.env)::starEach [] X.env:=by rfl)(G:(backTo p (starEach [] X.env)).any (·.1)=false:=by rfl) :
  PED X (.Call (.Attribute o y pos) [e] [] p) (dM1 g to E):=by
 obtain⟨r,l,c⟩:=d.run;obtain⟨To,po,v⟩:=b;obtain⟨Te,m,u⟩:=he;refine⟨_,vO zxn d.slot d.ty l po (bh m cJ s) J Y U s G,λrs h k=>v rs h λ{x _ _ _ _} h j I C=>?_⟩;obtain⟨i,h⟩:=h;refine⟨?_,u I h λh z L n=>c (C.mv z) n h λq rw=>k q (j.trans z) L rw⟩;cases x<;>first|exact i.elim|skip
 obtain⟨a,w,rfl,_,_,Q,_⟩:=C;exact .inl ⟨rfl,w,SqL.of Q⟩
def KB:D->D->(D->Prop)->Prop
 |.lst d,y,P=>(rV y=true/\d.all rV=true)/\P (.int ((d.countP λz=>eqF z y:Nat):Int))
 |_,_,_=>False
theorem Bx:M1D X "count" "list.count" KB:=by
 refine⟨PySem.F.slot_list_count,PySem.F.type_list_count,_,AS,λ{pp M H x y v u Q P} Y s h k=>?_⟩;cases x<;>first|exact h.elim|skip
 obtain⟨a,z,rfl,hm,hp,q,r⟩:=Y;obtain⟨⟨f1,f2⟩,h⟩:=h;obtain⟨d,g⟩:=nF f1 s;obtain⟨J,U⟩:=jW f2 r;refine⟨a,z,u,rfl,rfl,q,g,U,?_⟩;subst d J;rw[List.countP_map];exact k h bx
def Ib:D->D->(D->Prop)->Prop
 |.lst d,y,P=>(rV y=true/\d.all rV=true)/\∃j:Nat,((∃z,d[j]?=some z/\eqF z y=true)/\∀m z,m<j->d[m]?=some z->eqF z y=false)/\P (.int (j:Int))|_,_,_=>False
theorem uz:M1D X "index" "list.index" Ib:=by
 refine⟨PySem.F.slot_list_index,PySem.F.type_list_index,_,AT,λ{pp M H x y v u Q P} c e h k=>?_⟩;cases x<;>first|exact h.elim|skip
 rename_i E;obtain⟨a,i,rfl,C,hp,L,r⟩:=c;obtain⟨⟨f1,f2⟩,j,⟨⟨z,b,I⟩,J⟩,h⟩:=h;obtain⟨s,G⟩:=nF f1 e;obtain⟨U,Y⟩:=jW f2 r;refine⟨a,i,u,j,rfl,rfl,L,G,Y,⟨toV z,?_,?_⟩,λm w C g=>?_,k h bx⟩
 ·rw[U,zzl,b];rfl
 ·rw[s];exact I
 ·rw[U,zzl]at g;cases q:E[m]? with
  |none=>rw[q]at g;cases g
  |some d =>
   rw[q]at g;cases g;rw[s];exact J m d C q
theorem dLoop_enum{g:DG}{b:DTS}{E:DEnds}{ds:ai D}(N:Nat->DS->Prop)(G:∀ρ,N ds.length ρ->E.nx ρ)
  (I:∀(i:Nat) (d:D) (ρ:DS) (X:DS->Prop),ds[i]?=some d->N i ρ->(∀q,N (i+1) q->X q)->g (.tup [.int i,d]) ρ λJ=>b {E with nx:=X,ct:=X,bk:=E.nx} J) (ρ:DS) (h:N 0 ρ):dZ g b (eA 0 ds) E ρ:=by
 have key:∀(post:ai D) (k:Nat),k<=ds.length->ds.drop k=post->∀ρ,N k ρ->dZ g b (eA k post) E ρ:=by
  intro post
  induction post with
  |nil =>
   intro k s e ρ h;have C:ds.length<=k:=zwQ.mp e;have z:k=ds.length:=Nat.le_antisymm s C;subst z;exact G ρ h
  |cons d r U =>
   intro k s e ρ h;have hd:ds[k]?=some d:=by have:=congrArg (λl=>l[0]?) e;simpa using this
   refine I k d ρ _ hd h (U (k+1) (zzt.mp hd).1 ?_);rw[←List.drop_drop,e];rfl
 exact key ds 0 (zzT _) rfl ρ h
abbrev dSlL(te:DE)(tl th:DO):DA:=λg Q=>te g λx J=>tl J λlo U=>th U λhi Y=>match x with
 |.lst d=>Q (cutD d lo hi) Y|_=>False
theorem yN{lo:bo bN}{q:DE}{tl s:DO}(he:PED X e q)(J:POD X lo tl)(E:POD X hi s):PLD X (.Subscript e (.Slice lo hi none p2) pos) (dSlL q tl s):=by
 obtain⟨T,p,r⟩:=he;obtain⟨Tl,L,i⟩:=J;obtain⟨Th,I,c⟩:=E;refine⟨_,tT Eo p L I,λrs h k=>r rs h λ{x _ _ _ _} h G U Q=>i U h λh d Y=>c Y h λh g z=>?_⟩;have b:=(Q.mv d).mv g;cases x<;>first|exact h.elim|skip
 obtain⟨a,m,rfl,_,_,C,j⟩:=b;exact⟨a,m,rfl,SqL.of C,λl J=>k h ((G.trans d).trans g) z J (j.cut _ _)⟩
abbrev KC(ta tb:DE):DA:=λg Q=>ta g λx J=>tb J λy U=>match x,y with
 |.lst d,.int k=>((-(2^63)<=k/\k<2^63)/\d.length*k.toNat<=sizeLine)/\Q (List.replicate k.toNat d).flatten U|_,_=>False
theorem Reps.reps{K:zvi}{M:ai bb}{H:Hp}{ds:ai D}{xs:ai V}(r:Reps K pp M H ds xs):∀k:Nat,Reps K pp M H (List.replicate k ds).flatten (List.replicate k xs).flatten
 |0=>by simp[Reps]
 |k+1=>by exact r.append (Reps.reps r k)
theorem yO{b:bN}{ta q:DE}(s:PED X a ta)(z:PED X b q):PLD X (.BinOp a .Mult b pos) (KC ta q):=by
 obtain⟨Ta,I,c⟩:=s;obtain⟨Tb,L,e⟩:=z;refine⟨_,db Hf I L,λrs h k=>c rs h λ{x _ _ _ _} h G J d=>e J h λ{y _ _ _ _} h g U Q=>?_⟩;have d:=d.mv g;cases x<;>first|exact h.elim|skip
 cases y<;>first|exact h.elim|skip
 obtain⟨l,i,rfl,_,_,C,Y⟩:=d;subst Q;exact⟨l,_,i,rfl,rfl,C,h.1.1.1,h.1.1.2,by rw[←Y.length];exact h.1.2,λp E=>k h.2 (G.trans g) U E (Reps.reps Y _)⟩
def gSlA:D->bo Int->bo Int->(D->Prop)->Prop
 |.tup d,lo,hi,P=>P (.tup (cutD d lo hi))|_,_,_,_=>False
abbrev dSlA(te:DE)(tl th:DO):DE:=λg Q=>te g λx J=>tl J λlo U=>th U λhi Y=>gSlA x lo hi λd=>Q d Y
theorem CS{lo:bo bN}{E:DE}{tl G:DO}(he:PED X e E)(J:POD X lo tl)(c:POD X hi G):PED X (.Subscript e (.Slice lo hi none p2) pos) (dSlA E tl G):=by
 obtain⟨T,p,r⟩:=he;obtain⟨Tl,j,u⟩:=J;obtain⟨Th,i,n⟩:=c;refine⟨_,tT (SlR.or Ha EF) p j i,λrs h k=>r rs h λ{x _ _ _ _} h C Q m=>u Q h λ{lo _ _ _} h g b=>n b h λ{hi _ _ _} h q U=>?_⟩;have Y:=(m.mv g).mv q;obtain⟨ds,rfl⟩:∃ds,x=.tup ds:=by cases x<;>first|exact h.elim|exact⟨_,rfl⟩
 have L:=Y;simp only[Rep]at Y;obtain⟨a,I,rfl,z,s⟩:=Y;by_cases d:HT.sIx ds.length 0 lo=0/\HT.sIx ds.length ds.length hi=ds.length
 ·have e:cutD ds lo hi=ds:=by
   unfold cutD;rw[d.1,d.2,zva,zwO,zxE]
  exact .inr ⟨a,I,rfl,SqT.of z,by rw[←s.length];exact d,k h ((C.trans g).trans q) U (by rw[e];exact L)⟩
 ·refine .inl ⟨a,I,rfl,SqT.of z,by rw[←s.length];exact d,λl J=>k h (((C.trans g).trans q).trans (.new J)) (U.sameP (.new J)) ?_⟩;simp only[Rep];exact⟨l,_,rfl,ae,(s.cut lo hi).mv (.new J)⟩
end
section
variable[Frm]
def rW:ai D->bo (ai Bool)
 |[]=>some []|.bl b::r=>(rW r).map (b :: ·)|_=>none
theorem pO:∀bs:ai Bool,rW (bs.map D.bl)=some bs
 |[]=>rfl|n::r=>by simp[rW,pO r]
theorem By:∀{ds:ai D} {bs:ai Bool},rW ds=some bs->ds=bs.map D.bl:=by
 intro ds
 induction ds with
 |nil=>intro _ h;cases h;rfl
 |cons d r J =>
  intro ns h;cases d<;>try cases h
  simp only[rW,zym]at h;obtain⟨ms,h,rfl⟩:=h;rw[J h];rfl
theorem nG{K:zvi}{pp:bo bb}{M:ai bb}{H:Hp}:∀{d:ai Bool} {xs:ai V},Reps K pp M H (d.map D.bl) xs->xs=d.map V.bl
 |[],xs,h=>by simpa only[zyj,Reps]using h
 |n::r,xs,h=>by obtain⟨x,t,rfl,rfl,h⟩:=h;rw[nG h];rfl
def gTru(f:ai Bool->Bool):DSp:=λd P=>match d with
 |[.lst g]=>match rW g with
  |some bs=>P (.bl (f bs))|none=>False
 |_=>False
theorem jX{f:ai Bool->Bool}{bs:ai Bool}{P:D->Prop}(h:P (.bl (f bs))):gTru f [.lst (bs.map D.bl)] P:=by unfold gTru;simp only[pO];exact h
theorem uA{f:ai Bool->Bool}{ds:ai D}{P:D->Prop}(h:gTru f ds P):∃bs:ai Bool,ds=[.lst (bs.map D.bl)]/\P (.bl (f bs)):=by
 unfold gTru at h;split at h
 ·rename_i g;cases e:rW g with
  |none=>rw[e]at h;exact h.elim|some d =>
   rw[e]at h;exact⟨d,by rw[By e],h⟩
 ·exact h.elim
theorem uB(q:X.calm=true:=by rfl):CallD X (.builtin "all") (gTru λbs=>bs.all id):=by refine⟨_,AV q,λ{pp M H ds vs Q P} _ r h k=>?_⟩;obtain⟨s,rfl,d⟩:=uA h;obtain⟨x,_,rfl,⟨a,ys,rfl,_,_,g,J⟩,rfl⟩:=r;exact⟨a,s,rfl,SqL.of (by rw[g,nG J]),k d .refl df⟩
theorem Ic(q:X.calm=true:=by rfl):CallD X (.builtin "any") (gTru λbs=>bs.any id):=by refine⟨_,AW q,λ{pp M H ds vs Q P} _ r h k=>?_⟩;obtain⟨s,rfl,d⟩:=uA h;obtain⟨x,_,rfl,⟨a,ys,rfl,_,_,g,J⟩,rfl⟩:=r;exact⟨a,s,rfl,SqL.of (by rw[g,nG J]),k d .refl df⟩
theorem fB{i:Int}{t:Tok}(J:Gl X x)(d:X.mg x=some (.int i t))(hd:(x==("__debug__" : Str))=false:=by decide):PED X (.Name x pos) (dC (.int i)) :=
 .con (DV (v:=.int i) J d ⟨t,rfl⟩ hd) λ_ _ _=>by simp only[Rep]
mutual
def flD:D->Prop
 |.non=>True|.bl _=>True|.int _=>True|.str _=>True|.ty _=>True|.cls _=>True|.tup d=>flDs d|_=>False
def flDs:ai D->Prop
 |[]=>True|d::r=>flD d/\flDs r
end
omit [Frm] in
mutual
theorem RO.live:∀(q:O) (v:V) (A:ai bb),RO K pp M H q v A->∀a∈A,H a≠none
 |.val d,v,A,h,a,g=>by simp only[RO]at h;rw[h.1]at g;simp at g
 |.lst os,v,A,h,a,g=>by
  simp only[RO]at h;obtain⟨b,C,B,e,s,rfl,r⟩:=h;rcases zzr.mp g with rfl|g
  ·rw[s];intro z;cases z
  ·exact ROs.live os C B r a g
 |.dct ks os,v,A,h,a,g=>by
  simp only[RO]at h;obtain⟨b,kvs,B,e,s,e2,rfl,r⟩:=h;rcases zzr.mp g with rfl|g
  ·rw[s];intro z;cases z
  ·exact ROs.live os _ B r a g
 |.tup os,v,A,h,a,g=>by simp only[RO]at h;obtain⟨b,C,e,s,r⟩:=h;exact ROs.live os C A r a g
theorem ROs.live:∀(os:ai O) (xs:ai V) (A:ai bb),ROs K pp M H os xs A->∀a∈A,H a≠none
 |[],xs,A,h,a,d=>by simp only[ROs]at h;rw[h.2]at d;simp at d
 |o::os,xs,A,h,a,d=>by
  simp only[ROs]at h;obtain⟨x,r,B,C,e,rfl,g,q⟩:=h;rcases zzx.mp d with d|d
  ·exact RO.live o x B g a d
  ·exact ROs.live os r C q a d
end
omit [Frm] in
theorem ROs.vals:∀{ds:ai D} {xs:ai V},Reps K pp M H ds xs->ROs K pp M H (ds.map O.val) xs []
 |[],xs,h=>by simp only[Reps]at h;simp only[zyj,ROs];exact⟨h,trivial⟩
 |d::ds,xs,h=>by obtain⟨x,r,rfl,g,q⟩:=h;exact⟨x,r,[],[],rfl,rfl,⟨rfl,g⟩,ROs.vals q⟩
section
variable{F:Fx}{ρ:DS}{q q':O}
theorem RSt.newObj{A:ai bb}(r:RSt K F M1 H σ ρ)(s:SameP K F.pp H H')(N:A.Nodup)(C:∀a∈A,H a=none/\F.pp≠some a)(k:RO K F.pp (A++M1) H' q v A)(i:Nat) :
  Mv K F.pp M1 H (A++M1) H'/\RSt K F (A++M1) H' (σ.set i (some v)) (ρ.set i (.obj q)):=by
 have G:Mv K F.pp M1 H M1 H':=s.mv;have m:Mv K F.pp M1 H (A++M1) H':=by
  refine⟨G.tup,λa o e n p=>⟨(G.oth a o e n p).1,λz=>?_⟩,G.pen,G.tb⟩;rcases zzx.mp z with z|z
  ·rw[(C a z).1]at e;cases e
  ·exact n z
 have M:∀a∈A,F.H0 a=none:=λa g=>by
  cases e:F.H0 a with
  |none=>rfl|some o=>exact absurd (C a g).1 (r.same.live a (by rw[e];intro z;cases z))
 refine⟨m,⟨by simp[r.len],λj t o I L=>?_,r.ow.step m i (λj e=>zzO (Ne.symm e)) (λj e=>zzO (Ne.symm e)) (λA0 _ _=>⟨A,λt o u x=>?_,λb E=>⟨zzx.mpr (.inl E),M b E,(C b E).2,.inr λz=>r.liv.m b z (C b E).1⟩,λa g T z0 _=>⟨zzx.mpr (.inr g),(s.ow a g T z0).2⟩⟩),λa g=>zzx.mpr (.inr (r.sub a g)),r.same.trans s.toSameQ,r.old,⟨λa g=>?_,λp e=>s.live p (r.liv.p p e)⟩,r.lk.cl m⟩⟩
 ·by_cases e:i=j
  ·subst e;rw[aI I,aI L];exact⟨v,rfl⟩
  ·rw[zzO e]at I L;have q':=r.sl j t o I L;cases t with
   |nil=>trivial|val d=>obtain⟨v,e,q⟩:=q';exact⟨v,e,q.mv m⟩
   |pin w d=>obtain⟨v,e,y,q⟩:=q';exact⟨v,e,y,q.mv m⟩
   |own es =>
    obtain⟨c,zs,rfl,Y,J,Q,U,l⟩:=q';exact⟨c,zs,rfl,zzx.mpr (.inr Y),J,Q,(s.ow c Y Q J).2 _ U (by intro _ z;cases z),l.mv m⟩
   |obj q=>exact q'
 ·rw[aI u,aI x];exact⟨N,v,rfl,k⟩
 ·rcases zzx.mp g with g|g
  ·exact RO.live q v A k a g
  ·exact s.live a (r.liv.m a g)
end
abbrev DTB:=(D->Prop)->(O->Prop)->DS->Prop
omit [Frm] in
theorem wg{K:zvi}{pp:bo bb}(n:Nat):Reps K pp M H (eX 0 n) (rA n):=by have:=fA (K:=K) (pp:=pp) (M:=M) (H:=H) n 0;unfold rA;simpa using this
abbrev Id(t:DA):DA:=λq Q=>t q λg d=>match g with
 |[.int j]=>(0<=j/\j<=100000)/\Q (eX 0 j.toNat) d|_=>False
theorem Bz{g:DA}(z:X.calm=true)(U:Gl X "list")(Y:X.mg "list" = none)(C:Gl X "range")(G:X.mg "range" = none)(s:PAD X [a] g)(he:starEach [a] X.env=[(false,eval a X.env)]:=by rfl)(I:starEach [.Call (.Name "range" py) [a] [] p2] X.env=(false,eval (.Call (.Name "range" py) [a] [] p2) X.env)::starEach [] X.env:=by rfl)(J:(backTo pos (starEach [] X.env)).any (·.1)=false:=by rfl) :
  PLD X (.Call (.Name "list" p) [.Call (.Name "range" py) [a] [] p2] [] pos) (Id g):=by
 obtain⟨T,Q,b⟩:=s;refine⟨_,pB z U Y C G Q he I J,λrs h k=>b rs h λh L q d=>?_⟩;split at h
 ·rename_i j;simp only[Reps,Rep]at d;obtain⟨x,r,rfl,rfl,rfl⟩:=d;exact⟨j,rfl,h.1.1,h.1.2,λl E=>k h.2 L q E (wg _)⟩
 ·exact h.elim
end
def Ie:HO->Prop
 |.lst _=>True|.dT _=>True|_=>False
theorem Mv.writeX{o:HO}(J:H l=some o)(d:Ie o)(g:l∈M)(U:pp≠some l):Mv K pp M H M (upd H l u):=by
 refine⟨λa Y e=>by rw[af (iT e J (by rintro rfl;exact d))];exact e,λa Y e n q=>⟨by rw[af (by rintro rfl;exact n g)];exact e,n⟩,λp e h=>?_,λz=>z.upd J (by rintro(⟨_,rfl⟩|⟨_,_,rfl⟩)<;>exact d)⟩;obtain⟨a,s,t,k,h⟩:=h;refine⟨a,s,t,k,?_,?_,h.t0⟩
 ·rw[af (by rintro rfl;exact U e)];exact h.lst
 ·rcases h.scr with ⟨o',e⟩|e
  ·refine .inl ⟨o',?_⟩;rw[af (iT e J (by rintro rfl;exact d))];exact e
  ·exact .inr e
def k1D:Key->D
 |.inl i=>.int i|.inr x=>.str x
def keyD(k:ai Key):D:=.tup (k.map k1D)
theorem jh{K:zvi}{pp:bo bb}{M:ai bb}{H:Hp}:∀{k:ai Key} {xs:ai V},Reps K pp M H (k.map k1D) xs->xs=k.map kV
 |[],xs,h=>by simpa only[zyj,Reps]using h
 |.inl i::r,xs,h=>by obtain⟨x,t,rfl,rfl,h⟩:=h;rw[jh h];rfl
 |.inr i::r,xs,h=>by obtain⟨x,t,rfl,rfl,h⟩:=h;rw[jh h];rfl
theorem nH{K:zvi}{pp:bo bb}{M:ai bb}{H:Hp}:∀(k:ai Key),Reps K pp M H (k.map k1D) (k.map kV)
 |[]=>by simp only[zyj,Reps]
 |.inl i::r=>by exact⟨_,_,rfl,rfl,nH r⟩
 |.inr i::r=>by exact⟨_,_,rfl,rfl,nH r⟩
theorem gC{K:zvi}{pp:bo bb}{k:ai Key}(h:Rep K pp M H (keyD k) v):∃b,v=.ref b/\H b=some (.tup (k.map kV)):=by obtain⟨b,xs,rfl,d,h⟩:=h;rw[jh h]at d;exact⟨b,rfl,d⟩
theorem BA{K:zvi}{pp:bo bb}{k:ai Key}{b:bb}(h:H b=some (.tup (k.map kV))):Rep K pp M H (keyD k) (.ref b):=by exact⟨b,_,rfl,h,nH k⟩
section
variable{α β:Type}
def fh(ps:ai (ai Key×α))(k:ai Key):bo α:=(ps.find? λp=>decide (p.1=k)).map (·.2)
def putA(ps:ai (ai Key×α))(k:ai Key)(x:α):ai (ai Key×α) :=
 if (ps.any λp=>decide (p.1=k))=true then ps.map (λp=>if p.1=k then(p.1,x) else p) else ps++[(k,x)]
abbrev PK(R:α->β->Prop):ai (ai Key×α)->ai (ai Key×β)->Prop:=Paired λp q=>p.1=q.1/\R p.2 q.2
theorem PK.find{R:α->β->Prop}{ps:ai (ai Key×α)}{d:ai (ai Key×β)}(h:PK R ps d)(k:ai Key):(fh ps k=none/\fh d k=none)∨∃x y,fh ps k=some x/\fh d k=some y/\R x y:=by
 induction h with
 |nil=>exact .inl ⟨rfl,rfl⟩|@cons p q ps d h _ U =>
  unfold fh at U ⊢;by_cases e:p.1=k
  ·have J:q.1=k:=h.1.symm.trans e;refine .inr ⟨p.2,q.2,?_,?_,h.2⟩
   ·rw[zzR (by simpa using e)];rfl
   ·rw[zzR (by simpa using J)];rfl
  ·have J:¬q.1=k:=λz=>e (h.1.trans z);rw[zzS (by simpa using e),zzS (by simpa using J)];exact U
theorem PK.any{R:α->β->Prop}{ps:ai (ai Key×α)}{d:ai (ai Key×β)}(h:PK R ps d)(k:ai Key):(ps.any λp=>decide (p.1=k))=d.any λp=>decide (p.1=k):=by
 induction h with
 |nil=>rfl|@cons p q ps d h _ J=>simp only[zvf,J,h.1]
theorem PK.put{R:α->β->Prop}{ps:ai (ai Key×α)}{d:ai (ai Key×β)}(h:PK R ps d)(k:ai Key){x:α}{y:β}(r:R x y):PK R (putA ps k x) (putA d k y):=by
 unfold putA;rw[h.any k];by_cases e:(d.any λp=>decide (p.1=k))=true
 ·rw[zzi e,zzi e];clear e
  induction h with
  |nil=>exact .nil|@cons p q ps d h _ J =>
   rw[zzh,zzh];refine .cons ?_ J;by_cases e:p.1=k
   ·rw[zzi e,zzi (h.1.symm.trans e)];exact⟨h.1,r⟩
   ·rw[zzg e,zzg (λz=>e (h.1.trans z))];exact h
 ·rw[zzg e,zzg e];exact Paired.snoc h ⟨rfl,r⟩
theorem PK.keys{R:α->β->Prop}{ps:ai (ai Key×α)}{d:ai (ai Key×β)}(h:PK R ps d):ps.map (·.1)=d.map (·.1):=by
 induction h with
 |nil=>rfl|cons h _ J=>simp only[zzh,J,h.1]
end
theorem uC(d:ai (ai Key×V))(k:ai Key):fh d k=valV d k:=rfl
theorem Fg:∀{J:ai (ai Key×D)} {d:ai (ai Key×V)},d.map (·.1)=J.map (·.1)->Reps K pp M H (J.map (·.2)) (d.map (·.2))->PK (Rep K pp M H) J d
 |[],[],_,_=>.nil|[],_::_,h,_=>by simp at h
 |_::_,[],h,_=>by simp at h
 |p::ps,q::qs,h,r=>by simp only[zzh,List.cons.injEq]at h;obtain⟨x,t,e,z,U⟩:=r;injection e with g s;subst g s;exact .cons ⟨h.1.symm,z⟩ (Fg h.2 U)
theorem Fh{J:ai (ai Key×D)}{d:ai (ai Key×V)}(h:PK (Rep K pp M H) J d):Reps K pp M H (J.map (·.2)) (d.map (·.2)):=by
 induction h with
 |nil=>simp only[zyj,Reps]|cons h _ U=>exact .cons h.2 U
theorem PK.imp{R S:α->β->Prop}{ps:ai (ai Key×α)}{qs:ai (ai Key×β)}(h:PK R ps qs)(f:∀a b,R a b->S a b):PK S ps qs:=by
 induction h with
 |nil=>exact .nil|cons h _ J=>exact .cons ⟨h.1,f _ _ h.2⟩ J
def dvO(J:ai (ai Key×D)):O:=.dct (J.map (·.1)) (J.map λp=>.val p.2)
theorem ro_dv{J:ai (ai Key×D)}{A:ai bb}:RO K pp M H (dvO J) v A↔∃a kvs,v=.ref a/\H a=some (.dT kvs)/\A=[a]/\PK (Rep K pp M H) J kvs:=by
 have vals:∀{J:ai (ai Key×D)} {xs:ai V} {B:ai bb},ROs K pp M H (J.map λp=>O.val p.2) xs B->B=[]/\Reps K pp M H (J.map (·.2)) xs:=by
  intro J
  induction J with
  |nil=>intro xs B h;exact⟨h.2,by simp only[zyj,Reps];exact h.1⟩|cons p ps Y =>
   intro xs B h;obtain⟨x,r,B1,C,rfl,rfl,⟨rfl,g⟩,q⟩:=h;obtain⟨rfl,s⟩:=Y q;exact⟨rfl,.cons g s⟩
 constructor
 ·intro h;obtain⟨a,kvs,B,rfl,d,U,rfl,r⟩:=h;obtain⟨rfl,z⟩:=vals r;exact⟨a,kvs,rfl,d,rfl,Fg U z⟩
 ·rintro⟨a,kvs,rfl,d,rfl,r⟩;refine⟨a,kvs,[],rfl,d,r.keys.symm,rfl,?_⟩;have:=ROs.vals (Fh r);rw[zzk]at this;exact this
def dlO(J:ai (ai Key×ai D)):O:=.dct (J.map (·.1)) (J.map λp=>.lst (p.2.map .val))
def PL(K:zvi)(pp:bo bb)(M:ai bb)(H:Hp):ai (ai Key×ai D)->ai (ai Key×V)->ai bb->Prop
 |[],d,g=>d=[]/\g=[]|p::ps,d,g=>∃l q r t,d=(p.1,.ref l)::r/\g=l::t/\H l=some (.lst q)/\Reps K pp M H p.2 q/\PL K pp M H ps r t
theorem BC{ds:ai D}{xs:ai V}(h:ROs K pp M H (ds.map O.val) xs M1):M1=[]/\Reps K pp M H ds xs:=by
 induction ds generalizing xs M1 with
 |nil=>simp only[zyj,ROs]at h;exact⟨h.2,by simp only[Reps];exact h.1⟩|cons d ds J =>
  obtain⟨x,r,B1,C,rfl,rfl,⟨rfl,g⟩,q⟩:=h;obtain⟨rfl,s⟩:=J q;exact⟨rfl,.cons g s⟩
theorem Ig:∀{J:ai (ai Key×ai D)} {d:ai (ai Key×V)} {B:ai bb},d.map (·.1)=J.map (·.1)->ROs K pp M H (J.map λp=>O.lst (p.2.map .val)) (d.map (·.2)) B->PL K pp M H J d B
 |[],[],B,_,h=>by simp only[zyj,ROs]at h;exact⟨rfl,h.2⟩
 |[],_::_,_,h,_=>by simp at h
 |_::_,[],_,h,_=>by simp at h
 |p::ps,q::I,B,e,h=>by simp only[zzh,List.cons.injEq]at e;obtain⟨x,r,B1,C,g,rfl,⟨l,L,B2,rfl,Y,rfl,z⟩,E⟩:=h;injection g with s U;subst U;obtain⟨rfl,G⟩:=BC z;exact⟨l,L,I,C,by rw[←e.1,←s],rfl,Y,G,Ig e.2 E⟩
theorem Ih:∀{J:ai (ai Key×ai D)} {d:ai (ai Key×V)} {B:ai bb},PL K pp M H J d B->d.map (·.1)=J.map (·.1)/\ROs K pp M H (J.map λp=>O.lst (p.2.map .val)) (d.map (·.2)) B
 |[],d,B,h=>by obtain⟨rfl,rfl⟩:=h;simp only[zyj,ROs];exact⟨trivial,trivial,trivial⟩
 |p::ps,d,B,h=>by obtain⟨l,z,r,t,rfl,rfl,U,g,q⟩:=h;obtain⟨e,s⟩:=Ih q;refine⟨by simp only[zzh,e],?_⟩;exact⟨.ref l,_,[l],t,rfl,rfl,⟨l,z,[],rfl,U,rfl,ROs.vals g⟩,s⟩
theorem ro_dl{J:ai (ai Key×ai D)}{A:ai bb}:RO K pp M H (dlO J) v A↔∃a d ls,v=.ref a/\H a=some (.dT d)/\A=a::ls/\PL K pp M H J d ls:=by
 constructor
 ·intro h;obtain⟨a,d,B,rfl,g,U,rfl,r⟩:=h;exact⟨a,d,B,rfl,g,rfl,Ig U r⟩
 ·rintro⟨a,d,ls,rfl,g,rfl,r⟩;obtain⟨e,r⟩:=Ih r;exact⟨a,d,ls,rfl,g,e,rfl,r⟩
section
variable[Frm]
section
variable{F:Fx}{ρ:DS}{q q':O}
theorem RSt.objStep(r:RSt K F M H σ ρ)(h:ρ[i]?=some (.obj q))(m:Mv K F.pp M H M' H')
  (k:∀v A,σ[i]?=some (some v)->A.Nodup->RO K F.pp M H q v A->(∀a∈A,a∈M/\F.H0 a=none/\F.pp≠some a)->∃J,J.Nodup/\RO K F.pp M' H' q' v J/\(∀b∈J,b∈M'/\F.H0 b=none/\F.pp≠some b/\(b∈A∨b∉M)) /\
   ∀a,a∈M->F.pp≠some a->F.H0 a=none->a∉A->a∈M'/\∀x,H a=some x->NT x->H' a=some x)
  (sub:∀a∈F.M0,a∈M') (same:SameQ K F.pp F.H0 H') (liv:Lv0 F.pp M' H'):RSt K F M' H' σ (ρ.set i (.obj q')):=by
 obtain⟨v,A,g,nd,hq,hA,l⟩:=r.objAt h;obtain⟨_,_,_,_,ke⟩:=k v A g nd hq hA;refine⟨by simp[r.len],λj s o C E=>?_,r.ow.step m i (λ_ _=>rfl) (λj e=>zzO (Ne.symm e)) (λc n p=>?_),sub,same,r.old,liv,r.lk.cl m⟩
 ·by_cases e:i=j
  ·subst e;rw[g]at E;rw[aI C];cases E;exact⟨v,rfl⟩
  ·rw[zzO e]at C;have q':=r.sl j s o C E;cases s with
   |nil=>trivial|val d=>obtain⟨v,e,q⟩:=q';exact⟨v,e,q.mv m⟩
   |pin w d=>obtain⟨v,e,ew,q⟩:=q';exact⟨v,e,ew,q.mv m⟩
   |own es =>
    obtain⟨I,zs,rfl,u,U,L,Y,N⟩:=q';have nl:I∉A:=l j _ _ (Ne.symm e) C E _ ⟨es,rfl⟩ rfl;obtain⟨k1,k2⟩:=ke I u L U nl;exact⟨I,zs,rfl,k1,U,L,k2 _ Y (by intro _ z;cases z),N.mv m⟩
   |obj q=>exact q'
 ·obtain⟨b1,v1,G,y⟩:=n _ _ h g;cases G;obtain⟨J,T,ro,hb,ha⟩:=k v c g b1 y p;refine⟨J,λs o G Q=>?_,hb,ha⟩;rw[g]at Q;cases Q;rw[aI G];exact⟨T,v,rfl,ro⟩
theorem Lv0.upd{pp:bo bb}{l:bb}{o:HO}(h:Lv0 pp M H):Lv0 pp M (L2.upd H l o):=by
 refine⟨λa d=>?_,λp e=>?_⟩
 ·by_cases z:a=l
  ·subst z;rw[ae];intro z;cases z
  ·rw[af z];exact h.m a d
 ·by_cases z:p=l
  ·subst z;rw[ae];intro z;cases z
  ·rw[af z];exact h.p p e
theorem RSt.sameW{o:HO}(r:RSt K F M H σ ρ)(h0:F.H0 l=none)(m:Mv K F.pp M H M' (L2.upd H l o)):SameQ K F.pp F.H0 (L2.upd H l o):=by
 refine⟨λb o e n=>?_,λp e h=>m.pen p e (r.same.pen p e h),λb e=>?_⟩
 ·rw[af (by rintro rfl;rw[h0]at e;cases e)];exact r.same.keep b o e n
 ·by_cases z:b=l
  ·subst z;rw[ae];intro z;cases z
  ·rw[af z];exact r.same.live b e
end
def Ii:Sl->Prop
 |.obj _=>True|_=>False
omit [Frm] in
theorem BD{s:Sl}(h:Ii s):∃q,s=.obj q:=by cases s<;>first|exact⟨_,rfl⟩|exact h.elim
abbrev KD(i:Nat):DTS:=λE d=>E.nx (d.set i (.obj (.dct [] [])))
theorem yP(i:Nat)(d:X.N.Nodup:=by assumption)(hi:X.N[i]?=some y:=by rfl)(Y:Loc X.env.scope y:=by first|exact Or.inl rfl|exact Or.inr rfl)(s:swapsWith (.Dict [] [] p2) (some (.Name y py)) pos.line X.env=pure false:=by rfl)(hf:X.fn y=true∨X.env.scope.names.lookup y=some .local:=by first|exact .inl rfl|exact .inr rfl|assumption):PSD X (.Assign [.Name y py] (.Dict [] [] p2) pos) (KD i):=by refine⟨_,fH d hi Y AI s hf,λ{F M H σ ρ E D} rs q o p J=>?_⟩;have lf:=rs.liv.fresh J;obtain⟨m,U⟩:=rs.newObj (q:=.dct [] []) (A:=[p]) (.new J) (by simp) (λa g=>by rw[zzy.mp g];exact⟨J,lf.2⟩) (by simp only[RO,ROs];exact⟨p,[],[],rfl,ae,rfl,rfl,rfl,rfl⟩) i;exact o.nx m U q
abbrev KE(i:Nat)(tk te:DE):DTS:=λE q=>te q λd U=>Ii (slot U i)/\tk U λg Y=>∃J k,slot Y i=.obj (dvO J)/\g=keyD k/\J.length<sizeLine/\E.nx (Y.set i (.obj (dvO (putA J k d))))
omit [Frm] in
theorem Ij{R:α->β->Prop}{ps:ai (ai Key×α)}{d:ai (ai Key×β)}(h:PK R ps d):ps.length=d.length:=cX h
theorem Fi{r:Nat}{o:bN}{tk u:DE}(hr:Room r X.A)(ho:PE X o (tVar i))(hk:PED X tg tk)(he:PED X e u)(hs:swapsWith e (some (.Subscript o tg p)) pos.line X.env=pure false:=by rfl) :
  PSD X (.Assign [.Subscript o tg p] e pos) (KE i tk u):=by
 obtain⟨Tk,I,rk⟩:=hk;obtain⟨Te,pe,re⟩:=he;refine⟨_,Ev (by have:=hr.units;lia) ho I pe hs,λ{F M H σ ρ E D} rs h oo=>re rs h λ{d ρ1 M1 H1 v} h m1 m r1=>?_⟩;obtain⟨q0,T⟩:=BD h.1;obtain⟨v0,_,U,_⟩:=m.objAt (aB T);refine⟨v0,U,rk m h.2 λ{dk ρ2 M2 L y} h n J r2=>?_⟩;obtain⟨kds,k,es,rfl,hl,h⟩:=h;obtain⟨b,rfl,hb⟩:=gC r2;have g:=aB es;obtain⟨v1,A,l,nd,hq,hA,_⟩:=J.objAt g;rw[U]at l;cases l;obtain⟨a,G,rfl,s,rfl,I⟩:=ro_dv.mp hq;obtain⟨am,Q,ap⟩:=hA a (by simp);have q:Mv X.K F.pp M2 L M2 (upd L a (.dT (putK G k v))):=.writeX s trivial am ap;refine⟨a,_,rfl,DPut.t s hb (by rw[←Ij I];exact hl),oo.nx ((m1.trans n).trans q) (J.objStep g q (λv' A' j _ w hA'=>?_) J.sub (J.sameW Q q) J.liv.upd) h⟩;rw[U]at j;cases j;obtain⟨a',kvs',e,Y,rfl,N⟩:=ro_dv.mp w;cases e;rw[s]at Y;cases Y;refine⟨[a],by simp,ro_dv.mpr ⟨a,_,rfl,ae,rfl,(N.imp λx y z=>z.mv q).put k ((r1.mv n).mv q)⟩,λc C=>?_,λc C _ _ hn=>⟨C,λx e _=>?_⟩⟩
 ·rw[zzy.mp C];exact⟨am,Q,ap,.inl (by simp)⟩
 ·rw[af (by rintro rfl;exact hn (by simp))];exact e
def Ik:Sl->Prop
 |.obj (.dct _ _)=>True|_=>False
omit [Frm] in
theorem BE{s:Sl}(h:Ik s):∃d os,s=.obj (.dct d os):=by
 cases s with
 |obj q=>cases q with
  |dct d os=>exact⟨d,os,rfl⟩|_=>exact h.elim
 |_=>exact h.elim
abbrev KF(i:Nat)(tk te:DE):DE:=λg Q=>Ik (slot g i)/\tk g λq Y=>te Y λd U=>∃J k,slot U i=.obj (dvO J)/\q=keyD k/\Q ((fh J k).getD d) U
theorem Fj{r:Nat}{o:bN}{tk I:DE}(hr:Room r X.A)(N:PE X o (tVar i))(w:PED X tg tk)(he:PED X e I)(m:M2 X o "get" pos tg e p:=by exact⟨rfl,rfl,rfl,rfl⟩) :
  PED X (.Call (.Attribute o "get" pos) [tg,e] [] p) (KF i tk I):=by
 obtain⟨Tk,C,rk⟩:=w;obtain⟨Te,pe,re⟩:=he;refine⟨_,AJ (by have:=hr.units;lia) N C pe m,λ{F M H σ ρ Q P} rs h kk=>?_⟩;obtain⟨ks,os,l⟩:=BE h.1;obtain⟨v0,A0,U,_,J,_⟩:=rs.objAt (aB l);simp only[RO]at J;obtain⟨a,L,B,rfl,c,_⟩:=J;refine⟨.ref a,U,a,rfl,.inr ⟨L,.inl c⟩,rk rs h.2 λ{dk ρ1 M1 H1 y} h m1 j r1=>re j h λ{d ρ2 M2 H2 z} h G E r2=>?_⟩;obtain⟨kds,k,es,tg,n⟩:=h;subst tg;obtain⟨b,rfl,v⟩:=gC (r1.mv G);have g:=aB es;obtain⟨v1,A,Y,nd,T,hA,_⟩:=E.objAt g;rw[U]at Y;cases Y;obtain⟨a',kvs,e,u,rfl,C⟩:=ro_dv.mp T;cases e;refine⟨_,DGet.t u v,kk n (m1.trans G) E ?_⟩;rcases C.find k with ⟨s,q⟩|⟨x,y,s,q,rr⟩
 ·rw[uC]at q;rw[s,q];exact r2
 ·rw[uC]at q;rw[s,q];exact rr
def gIxT:D->D->(D->Prop)->Prop:=λx y P=>∃(J:ai (ai Key×D)) (k:ai Key) (d:D),x=.dT (J.map (·.1)) (J.map (·.2))/\y=keyD k/\fh J k=some d/\P d
theorem yQ{r:Nat}{b:bN}{ta I:DE}(i:Room r X.A)(Q:PED X a ta)(q:PED X b I)(j:NoSl b):PED X (.Subscript a b pos) (dOp gIxT ta I):=by
 obtain⟨Ta,n,v⟩:=Q;obtain⟨Tb,p,w⟩:=q;refine⟨_,Eu (by have:=i.units;lia) n p j,λrs h l=>v rs h λh m J z=>w J h λh G U u=>?_⟩;obtain⟨kds,k,d,rfl,rfl,E,h⟩:=h;obtain⟨b,rfl,q⟩:=gC u;have z:=z.mv G;obtain⟨c,s,rfl,_,_,e,L,H⟩:=z;rcases (Fg L H).find k with ⟨g,C⟩|⟨x,y,g,C,Y⟩
 ·rw[E]at g;cases g
 ·rw[E]at g;cases g;exact⟨c,y,rfl,C ▸ .inr ⟨s,k,b,e,rfl,q,rfl⟩,l h (m.trans G) U Y⟩
def CT:DSp:=λg P=>match g with
 |[.dT d _]=>((∀k∈d,rC k)/\(2<=d.length->∀k∈d,k≠[])/\d.length<64)/\P (.lst ((srtK d).map keyD))|_=>False
omit [Frm] in
theorem jY{K:zvi}{pp:bo bb}{d:ai (ai Key)}(h:Paired (pF H) d ys):Reps K pp M H (d.map keyD) ys:=by
 induction h with
 |nil=>simp only[zyj,Reps]|cons h _ J =>
  obtain⟨b,rfl,g⟩:=h;exact .cons (BA g) J
theorem BF(C:X.calm=true:=by rfl):CallD X (.builtin "sorted") CT:=by
 refine⟨_,vS C,λ{pp M H ds vs Q P} lv r h k=>?_⟩;unfold CT at h;split at h
 case h_2=>exact h.elim
 obtain⟨⟨s,g,q⟩,h⟩:=h;obtain⟨x,t,rfl,⟨a,d,rfl,_,_,z,rfl,_⟩,rfl⟩:=r;rw[zza]at g q;refine⟨a,d,rfl,z,s,g,q,λl bs J U=>k h (.new J) ?_⟩;exact⟨l,bs,rfl,(lv.fresh J).1,(lv.fresh J).2,ae,(jY U).mv (.new J)⟩
omit [Frm] in
theorem lU{K:zvi}{pp:bo bb}{M:ai bb}{H:Hp}:∀{d:ai Int} {xs:ai V},Reps K pp M H (d.map D.int) xs->xs=d.map V.int
 |[],xs,h=>by simpa only[zyj,Reps]using h
 |n::r,xs,h=>by obtain⟨x,t,rfl,rfl,h⟩:=h;rw[lU h];rfl
abbrev Fk(te:DE):DE:=λs Q=>te s λd q=>∃g:ai Int,d=.tup (g.map .int)/\g.length<=1000/\Q (.int (vT g)) q
theorem yR{z:DE}(L:X.calm=true)(J:Gl X "len")(Y:X.mg "len" = none)(U:Gl X "set")(C:X.mg "set" = none)(he:PED X e z)(d:starEach [e] X.env=(false,eval e X.env)::starEach [] X.env:=by rfl)(G:starEach [.Call (.Name "set" py) [e] [] p2] X.env=(false,eval (.Call (.Name "set" py) [e] [] p2) X.env)::starEach [] X.env:=by rfl)(hp:(backTo pos (starEach [] X.env)).any (·.1)=false:=by rfl)(hp':(backTo p2 (starEach [] X.env)).any (·.1)=false:=by rfl) :
  PED X (.Call (.Name "len" p) [.Call (.Name "set" py) [e] [] p2] [] pos) (Fk z):=by
 obtain⟨T,c,j⟩:=he;refine⟨_,gb yb J Y zwm (bh (jz (he:=d) (ya L) U C rfl (bh c cJ d)) cJ G),λrs h k=>j rs h λh b E i=>?_⟩;obtain⟨s,rfl,Q,I⟩:=h;obtain⟨a,xs,rfl,g,m⟩:=i;rw[lU m]at g;exact⟨a,s,rfl,g,Q,λl S q=>⟨l,S,vT s,rfl,ae,k I (b.trans (.new q)) (E.sameP (.new q)) bx⟩⟩
def KG(i:Nat)(E:DEnds)(ρ:DS)(d:D):Sl->Prop
 |.own g=>∃es,d=.lst es/\g.length+es.length<=sizeLine/\E.nx (ρ.set i (.own (g++es)))|_=>False
abbrev dExt(i:Nat)(te:DE):DTS:=λE q=>wf (slot q i)/\te q λd g=>KG i E g d (slot g i)
theorem Il{o:bN}{L:DE}(A:PE X o (tVar i))(he:PED X e L)(J:attributeBase o "extend" X.env (eval o X.env)=eval o X.env:=by rfl)(Q:((backTo p2 (starEach [e] X.env)).all (λx=>!x.1) && (backToKw p2 (keywordEach [] X.env)).all (λx=>x.1.isSome)
   && decide ([e].length+([]:ai Keyword).length+(if ([]:ai Keyword).isEmpty then 0 else 1)<30))=true:=by rfl)(U:(py.endLine==p2.line)=true:=by rfl)(z:starEach [e] X.env=(false,eval e X.env)::starEach [] X.env:=by rfl)(k:(backTo p2 (starEach [] X.env)).any (·.1)=false:=by rfl)(N:swapsWith (.Call (.Attribute o "extend" py) [e] [] p2) none pos.line X.env=pure false:=by rfl):PSD X (.Expr (.Call (.Attribute o "extend" py) [e] [] p2) pos) (dExt i L):=by
 obtain⟨T,p,r⟩:=he;refine⟨_,jt (vO zxn PySem.F.slot_list_extend PySem.F.type_list_extend xG A (bh p cJ z) J Q U z k) N,λ{F M H σ ρ E D} rs h oo=>?_⟩;obtain⟨h0,h⟩:=h;obtain⟨ds,q⟩:=gw h0;obtain⟨_,Y,l,xs,rfl,_,_,_,j,_⟩:=rs.at (aB q);refine⟨.ref l,Y,.inl ⟨rfl,xs,SqL.of j⟩,r rs h λ{d g _ _ _} h m C rd=>?_⟩;cases G:slot g i<;>rw[G]at h<;>first|exact h.elim|skip
 obtain⟨es,rfl,a,y⟩:=h;have g1:=aB G;obtain⟨l',v,w,_,_,_,b,s⟩:=C.sl i _ _ g1 Y;cases w;obtain⟨c,zs,rfl,hc,_,n,I⟩:=rd;obtain⟨m2,u⟩:=C.write g1 Y (s.append I);exact⟨l,c,v,zs,rfl,rfl,b,n,by rw[←s.length,←I.length];exact a,oo.nx (m.trans m2) u y⟩
omit [Frm] in
theorem PL.mv(m:Mv K pp M H M' H'):∀{J:ai (ai Key×ai D)} {d:ai (ai Key×V)} {g:ai bb},(∀b∈g,∀o,H b=some o->H' b=some o)->PL K pp M H J d g->PL K pp M' H' J d g
 |[],d,g,_,h=>h|p::ps,d,g,q,h=>by obtain⟨l,E,r,t,rfl,rfl,U,s,z⟩:=h;exact⟨l,E,r,t,rfl,rfl,q l zzd _ U,s.mv m,PL.mv m (λb C=>q b (zzf _ C)) z⟩
omit [Frm] in
theorem PL.snoc{k:ai Key}{es:ai D}{l:bb}{xs:ai V}(q:H l=some (.lst xs))(s:Reps K pp M H es xs):∀{J:ai (ai Key×ai D)} {d:ai (ai Key×V)} {g:ai bb},PL K pp M H J d g->PL K pp M H (J++[(k,es)]) (d++[(k,.ref l)]) (g++[l])
 |[],d,g,h=>by obtain⟨rfl,rfl⟩:=h;exact⟨l,xs,[],[],rfl,rfl,q,s,rfl,rfl⟩
 |p::ps,d,g,h=>by obtain⟨E,Y,r,t,rfl,rfl,U,z,C⟩:=h;exact⟨E,Y,r++[(k,.ref l)],t++[l],rfl,rfl,U,z,PL.snoc q s C⟩
def lw(k:ai Key)(d:D):ai (ai Key×ai D)->ai (ai Key×ai D)
 |[]=>[(k,[d])]|p::r=>if p.1=k then(p.1,p.2++[d])::r else p::lw k d r
omit [Frm] in
theorem PL.add(k:ai Key)(d:D):∀{J:ai (ai Key×ai D)} {g:ai (ai Key×V)} {s:ai bb},PL K pp M H J g s->s.Nodup ->
  (valV g k=none/\lw k d J=J++[(k,[d])])∨∃q xs,valV g k=some (.ref q)/\q∈s/\H q=some (.lst xs)/\(∃p∈J,p.1=k/\p.2.length=xs.length) /\
   ∀{M':ai bb} {H':Hp} {v:V},Mv K pp M H M' H'->Rep K pp M' H' d v->H' q=some (.lst (xs++[v]))->(∀b∈s,b≠q->∀o,H b=some o->H' b=some o)->PL K pp M' H' (lw k d J) g s
 |[],g,s,h,_=>by obtain⟨rfl,rfl⟩:=h;exact .inl ⟨rfl,rfl⟩
 |p::ps,g,s,h,i=>by
  obtain⟨l,xs,r,t,rfl,rfl,I,E,G⟩:=h;obtain⟨L,c⟩:=zyl.mp i;by_cases e:p.1=k
  ·refine .inr ⟨l,xs,jg e,zzd,I,⟨p,zzd,e,E.length⟩,λ{M' H' v} m Y U C=>?_⟩;unfold lw;rw[zzi e];exact⟨l,_,r,t,rfl,rfl,U,(E.mv m).append (.one Y),PL.mv m (λb z=>C b (zzf _ z) (by rintro rfl;exact L z)) G⟩
  ·rcases PL.add k d G c with ⟨a1,a2⟩|⟨q,ys,a1,a2,a3,⟨j,Q,a⟩,f⟩
   ·refine .inl ⟨by rw[gc e];exact a1,?_⟩;unfold lw;rw[zzg e,a2];rfl
   ·refine .inr ⟨q,ys,by rw[gc e];exact a1,zzf _ a2,a3,⟨j,zzf _ Q,a⟩,λ{M' H' v} m Y U C=>?_⟩;unfold lw;rw[zzg e];exact⟨l,xs,r,t,rfl,rfl,C l zzd (by rintro rfl;exact L a2) _ I,E.mv m,f m Y U λb z=>C b (zzf _ z)⟩
abbrev dSda(i jk U:Nat):DTS:=λE g=>∃(J:ai (ai Key×ai D)) (k:ai Key) (d:D),slot g i=.obj (dlO J)/\slot g jk=.val (keyD k)/\slot g U=.val d/\J.length<sizeLine/\(∀p∈J,p.2.length<sizeLine)/\E.nx (g.set i (.obj (dlO (lw k d J))))
omit [Frm] in
theorem PL.len{K:zvi}{pp:bo bb}{M:ai bb}{H:Hp}:∀{J:ai (ai Key×ai D)} {d:ai (ai Key×V)} {g:ai bb},PL K pp M H J d g->J.length=d.length
 |[],d,g,h=>by rw[h.1];rfl
 |p::ps,d,g,h=>by obtain⟨l,xs,r,t,rfl,rfl,hl,h1,q⟩:=h;simp[PL.len q]
theorem Im{jk ja r:Nat}{o I:bN}{p1 p3 j:Pos}(hr:Room r X.A)(ho:PE X o (tVar i))(hk:PE X tg (tVar jk))(ha:PE X I (tVar ja))(b1:attributeBase o "setdefault" X.env (eval o X.env)=eval o X.env:=by rfl)(f1:((backTo p2 (starEach [tg,.List [] py] X.env)).all (λx=>!x.1) && (backToKw p2 (keywordEach [] X.env)).all (λx=>x.1.isSome)
   && decide ([tg,.List [] py].length+([]:ai Keyword).length+(if ([]:ai Keyword).isEmpty then 0 else 1)<30))=true:=by rfl)(l1:(p1.endLine==p2.line)=true:=by rfl)(s1:starEach [tg,.List [] py] X.env=(false,eval tg X.env)::starEach [.List [] py] X.env:=by rfl)(d6:starEach [.List [] py] X.env=(false,eval (.List [] py) X.env)::starEach [] X.env:=by rfl)(q1:(backTo p2 (starEach [.List [] py] X.env)).any (·.1)=false:=by rfl)(b2:attributeBase (.Call (.Attribute o "setdefault" p1) [tg,.List [] py] [] p2) "append" X.env (eval (.Call (.Attribute o "setdefault" p1) [tg,.List [] py] [] p2) X.env)=eval (.Call (.Attribute o "setdefault" p1) [tg,.List [] py] [] p2) X.env:=by rfl)(f2:((backTo j (starEach [I] X.env)).all (λx=>!x.1) && (backToKw j (keywordEach [] X.env)).all (λx=>x.1.isSome)
   && decide ([I].length+([]:ai Keyword).length+(if ([]:ai Keyword).isEmpty then 0 else 1)<30))=true:=by rfl)(l2:(p3.endLine==j.line)=true:=by rfl)(s2:starEach [I] X.env=(false,eval I X.env)::starEach [] X.env:=by rfl)(q2:(backTo j (starEach [] X.env)).any (·.1)=false:=by rfl)(hs:swapsWith (.Call (.Attribute (.Call (.Attribute o "setdefault" p1) [tg,.List [] py] [] p2) "append" p3) [I] [] j) none pos.line X.env=pure false:=by rfl) :
  PSD X (.Expr (.Call (.Attribute (.Call (.Attribute o "setdefault" p1) [tg,.List [] py] [] p2) "append" p3) [I] [] j) pos) (dSda i jk ja):=by
 have hm:=vO zxn PySem.F.slot_list_append PySem.F.type_list_append jB (vO PySem.F.plainAttrs_dict PySem.F.slot_dict_setdefault PySem.F.type_dict_setdefault (mX (by have:=hr.units;lia)) ho (bh hk (bh (xy cJ) cJ d6) s1) b1 f1 l1 s1 q1) (bh ha cJ s2) b2 f2 l2 s2 q2;refine⟨_,jt hm hs,λ{F M H σ ρ E D} rs h oo=>?_⟩;obtain⟨kls,k,d,e1,e2,e3,c4,b5,h9⟩:=h;have g1:=aB e1;obtain⟨v0,A,b7,nd,hq,hA,_⟩:=rs.objAt g1;obtain⟨a,g,ls,rfl,hd,rfl,pl⟩:=ro_dl.mp hq;obtain⟨_,d0,vk,rfl,rk⟩:=rs.at (aB e2);obtain⟨_,b9,C,rfl,ra⟩:=rs.at (aB e3);obtain⟨b,rfl,hb⟩:=gC rk;obtain⟨am,a0,ap⟩:=hA a zzd;obtain⟨nd1,d5⟩:=zyl.mp nd;refine⟨.ref a,b7,.inr (.inr (.inl ⟨rfl,.inr ⟨g,hd⟩⟩)),.ref b,d0,zzT _,λl s=>?_⟩;have la:a≠l:=by rintro rfl;rw[hd]at s;cases s
 have lb:b≠l:=by rintro rfl;rw[hb]at s;cases s
 have lf:=rs.liv.fresh s;have b0:upd H l (.lst []) a=some (.dT g):=by rw[af la];exact hd
 have mn:Mv X.K F.pp M H M (upd H l (.lst [])):=.new s;have a9:RSt X.K F M (upd H l (.lst [])) σ ρ:=rs.sameP (.new s);have f0:=rs.h0 s;refine⟨a,g,k,b,.ref l,rfl,rfl,b0,by rw[af lb];exact hb,by rw[←pl.len];exact c4,λv hv=>?_,λQ=>?_⟩
 ·rcases pl.add k d d5 with ⟨a1,_⟩|⟨l0,T,a1,a2,a3,⟨p',c1,c2,c3⟩,_⟩
  ·rw[hv]at a1;cases a1
  rw[hv]at a1;cases a1;obtain⟨lm,d2,d3⟩:=hA l0 (zzf _ a2);have n0:l0≠l:=by rintro rfl;rw[s]at a3;cases a3
  have b3:upd H l (.lst []) l0=some (.lst T):=by rw[af n0];exact a3
  have mw:Mv X.K F.pp M (upd H l (.lst [])) M (upd (upd H l (.lst [])) l0 (.lst (T++[C]))):=.writeX b3 trivial lm d3;have m:=mn.trans mw;refine⟨.inl ⟨rfl,T,SqL.of b3⟩,C,b9,l0,T,C,rfl,rfl,b3,by rw[←c3];exact b5 p' c1,oo.nx m ?_ h9⟩;refine rs.objStep g1 m (λv' A' w a7 b6 L=>?_) rs.sub (a9.sameW d2 mw) a9.liv.upd;rw[b7]at w;cases w;obtain⟨a',c6,ls',e,u,rfl,a8⟩:=ro_dl.mp b6;cases e;rw[hd]at u;cases u;obtain⟨U,Y⟩:=zyl.mp a7;rcases a8.add k d Y with ⟨z,_⟩|⟨d1,d7,z1,z2,z3,_,f⟩
  ·rw[hv]at z;cases z
  rw[hv]at z1;cases z1;rw[a3]at z3;cases z3;have na:a≠l0:=by rintro rfl;exact U z2
  have keep:∀c x,c≠l0->H c=some x->upd (upd H l (.lst [])) l0 (.lst (T++[C])) c=some x:=λc x N G=>by rw[af N,af (by rintro rfl;rw[s]at G;cases G)];exact G
  refine⟨a::ls',a7,ro_dl.mpr ⟨a,g,ls',rfl,keep a _ na hd,rfl,f m (ra.mv m) ae λc _ N x G=>keep c x N G⟩,λc q=>⟨(L c q).1,(L c q).2.1,(L c q).2.2,.inl q⟩,λc q _ _ Q=>⟨q,λx e _=>keep c x (by rintro rfl;exact Q (zzf _ z2)) e⟩⟩
 ·have c5:putK g k (.ref l)=g++[(k,.ref l)]:=by
   unfold putK;rw[mR,Q];rfl
  rw[c5];have m1:Mv X.K F.pp M H (l::M) (upd H l (.lst [])):=.newOwn s;have m2:Mv X.K F.pp (l::M) (upd H l (.lst [])) (l::M) (upd (upd H l (.lst [])) a (.dT (g++[(k,.ref l)]))):=.writeX b0 trivial (zzf _ am) ap;have d4:Mv X.K F.pp M (upd H l (.lst [])) M (upd (upd H l (.lst [])) a (.dT (g++[(k,.ref l)]))):=.writeX b0 trivial am ap;have b4:upd (upd H l (.lst [])) a (.dT (g++[(k,.ref l)])) l=some (.lst []):=by rw[af (Ne.symm la),ae]
  have m3:Mv X.K F.pp (l::M) (upd (upd H l (.lst [])) a (.dT (g++[(k,.ref l)]))) (l::M) (upd (upd (upd H l (.lst [])) a (.dT (g++[(k,.ref l)]))) l (.lst ([]++[C]))):=.writeX b4 trivial zzd lf.2;have m:=(m1.trans m2).trans m3;have J:=a9.sameW a0 d4;have b8:SameQ X.K F.pp F.H0 (upd (upd (upd H l (.lst [])) a (.dT (g++[(k,.ref l)]))) l (.lst ([]++[C]))):=by
   refine⟨λc x e n=>?_,λp e h=>m3.pen p e (J.pen p e h),λc e=>?_⟩
   ·rw[af (by rintro rfl;rw[f0]at e;cases e)];exact J.keep c x e n
   ·by_cases z:c=l
    ·subst z;rw[ae];intro z;cases z
    ·rw[af z];exact J.live c e
  have c8:=(a9.liv.upd (l:=a) (o:=.dT (g++[(k,.ref l)]))).upd (l:=l) (o:=.lst ([]++[C]));refine⟨.inl ⟨rfl,[],SqL.of b4⟩,C,b9,l,[],C,rfl,rfl,b4,by decide,oo.nx m ?_ h9⟩;refine rs.objStep g1 m (λv' A' w a7 b6 L=>?_) (λc q=>zzf _ (rs.sub c q)) b8 ⟨λc q=>?_,c8.p⟩
  ·rw[b7]at w;cases w;obtain⟨a',c6,ls',e,u,rfl,a8⟩:=ro_dl.mp b6;cases e;rw[hd]at u;cases u;obtain⟨U,Y⟩:=zyl.mp a7;have c7:l∉ls':=λz=>lf.1 (L l (zzf _ z)).1;rcases a8.add k d Y with ⟨_,z⟩|⟨d1,d7,z1,_⟩
   ·have keep:∀c x,c≠a->c≠l->H c=some x->upd (upd (upd H l (.lst [])) a (.dT (g++[(k,.ref l)]))) l (.lst ([]++[C])) c=some x:=λc x N G h3=>by
     rw[af G,af N,af G];exact h3
    have c9:upd (upd (upd H l (.lst [])) a (.dT (g++[(k,.ref l)]))) l (.lst ([]++[C])) a=some (.dT (g++[(k,.ref l)])):=by rw[af la,ae]
    refine⟨a::(ls'++[l]),?_,ro_dl.mpr ⟨a,_,ls'++[l],rfl,c9,rfl,?_⟩,λc q=>?_,λc q _ _ Q=>⟨zzf _ q,λx e _=>keep c x (by rintro rfl;exact Q zzd) (by rintro rfl;exact lf.1 q) e⟩⟩
    ·refine zyl.mpr ⟨λz=>?_,zxj.mpr ⟨Y,by simp,λx hx y hy e=>?_⟩⟩
     ·rcases zzx.mp z with z|z
      ·exact U z
      ·exact la (zzy.mp z)
     ·rw[zzy.mp hy]at e;subst e;exact c7 hx
    ·rw[z];exact PL.snoc ae (.one (ra.mv m)) (a8.mv m λc q x e=>keep c x (by rintro rfl;exact U q) (by rintro rfl;exact c7 q) e)
    ·rcases zzr.mp q with rfl|q
     ·exact⟨zzf _ am,a0,ap,.inl zzd⟩
     rcases zzx.mp q with q|q
     ·have:=L c (zzf _ q);exact⟨zzf _ this.1,this.2.1,this.2.2,.inl (zzf _ q)⟩
     ·rw[zzy.mp q];exact⟨zzd,f0,lf.2,.inr lf.1⟩
   ·rw[Q]at z1;cases z1
  ·rcases zzr.mp q with rfl|q
   ·rw[ae];intro z;cases z
   ·exact c8.m c q
end
section
variable[Frm]{st:Stmt}
abbrev Fl(k:Nat)(t:DTS):DTS:=λE g=>∃d,slot g k=.own d/\t E (g.set k (.val (.lst d)))
theorem yS{t:DTS}(h:PSD X st t):PSD X st (Fl k t):=by obtain⟨T,p,r⟩:=h;refine⟨T,p,λrs q o=>?_⟩;obtain⟨ds,e,q⟩:=q;obtain⟨M',v,_,m,J,_⟩:=rs.freeze (aB e);exact r J q (o.mv m)
end
theorem ka2{K:zvi}{t:av}{a b:Bool}(d:PySem.W.kitOne K t (.type "list")=some a)(g:PySem.W.kitOne K t (.type "tuple")=some b):PySem.W.kitAny K t [.type "list",.type "tuple"]=some (a || b):=by
 unfold PySem.W.kitAny;rw[d];cases a with
 |true=>rfl|false =>
  show PySem.W.kitAny K t [.type "tuple"]=_;unfold PySem.W.kitAny;rw[g];cases b<;>rfl
theorem wj:cZ X (.builtin "isinstance") (λxs H Q=>∃x p,xs=[x,.ref p]/\H p=some (.tup [.ty "list",.ty "tuple"])/\knV H x/\Q (.bl (dc H x || bv H x)) H):=by
 intro G s σ H xs us Q I r h;obtain⟨x,p,rfl,u,U,q⟩:=h;obtain⟨J,u2,rfl,L,A⟩:=GU r;cases A;obtain⟨_,j,M,v,C,l,n,hd⟩:=I.hok p _ u;have Y:j=[.type "list",.type "tuple"]:=by
  cases M with
  |cons a b =>
   cases b with
   |cons b c =>
    cases c;cases (show _=Value.type "list" from a);cases (show _=Value.type "tuple" from b);rfl
 subst Y;obtain⟨oc,od,odt,osl⟩:=v;dsimp only at l hd;subst l hd;have fin:∀k,EP X G σ Q (.bool (dc H x || bv H x)) {s with toks:=k}:=λk=>⟨.bl _,H,I.tok k,rfl,q⟩;cases x with
 |non=>cases (show J=Value.none from L);exact zyV PySem.W.kitx_none I.kIn True.intro C (ka2 iV dQ) (λz=>nomatch z) fin
 |bl c=>cases (show J=Value.bool c from L);exact zyV PySem.W.kitx_bool I.kIn True.intro C (ka2 pd gd) (λz=>nomatch z) fin
 |int i=>obtain⟨t,z⟩:=(show ∃t,J=Value.int i t from L);cases z;exact zyV PySem.W.kitx_int I.kIn True.intro C (ka2 rf iH) (λz=>nomatch z) fin
 |str y=>obtain⟨t,z⟩:=(show ∃t,J=Value.str y t from L);cases z;exact zyV PySem.W.kitx_str I.kIn True.intro C (ka2 rm iI) (λz=>nomatch z) fin
 |ref a =>
  cases (show J=Value.ref a from L);rcases U with ⟨ys,e⟩|⟨o,ys,e⟩|⟨ys,e⟩|⟨ys,e⟩|⟨ys,e⟩
  ·have d:(dc H (.ref a) || bv H (.ref a))=true:=by simp only[dc,bv,e];rfl
   rw[d]at fin;obtain⟨_,_,n,_,g⟩:=(show ObjOk X.prog X.w H s.heap a (.lst ys) from I.hok a _ e);exact zyV zwp I.kIn ⟨_,g,rfl⟩ C (ka2 iJ cM) (λz=>nomatch z) fin
  ·have d:(dc H (.ref a) || bv H (.ref a))=true:=by simp only[dc,bv,e];rfl
   rw[d]at fin;obtain⟨_,_,_,n,_,g⟩:=(show ObjOk X.prog X.w H s.heap a (.frz o (.lst ys)) from I.hok a _ e);exact zyV zwp I.kIn ⟨_,g,rfl⟩ C (ka2 iJ cM) (λz=>nomatch z) fin
  ·have d:(dc H (.ref a) || bv H (.ref a))=true:=by simp only[dc,bv,e];rfl
   rw[d]at fin;obtain⟨_,_,_,o,g,E,_⟩:=(show ObjOk X.prog X.w H s.heap a (.tup ys) from I.hok a _ e);exact zyV PySem.W.kitx_tuple I.kIn ⟨o,g,E⟩ C (ka2 mT fJ) (λz=>nomatch z) fin
  ·have d:(dc H (.ref a) || bv H (.ref a))=false:=by simp only[dc,bv,e];rfl
   rw[d]at fin;obtain⟨_,_,vs,_,p⟩:=(show ObjOk X.prog X.w H s.heap a (.dK ys) from I.hok a _ e);obtain⟨o,es,m,g,E,_⟩:=p;exact zyV zwq I.kIn ⟨o,g,E.1⟩ C (ka2 iK cN) (λz=>nomatch z) fin
  ·have d:(dc H (.ref a) || bv H (.ref a))=false:=by simp only[dc,bv,e];rfl
   rw[d]at fin;obtain⟨_,_,xs,_,o,es,m,g,E,_⟩:=(show ObjOk X.prog X.w H s.heap a (.dT ys) from I.hok a _ e);exact zyV zwq I.kIn ⟨o,g,E.1⟩ C (ka2 iK cN) (λz=>nomatch z) fin
 |_=>exact U.elim
def Fm(d:D):Bool:=HP d || uw d
def KH:DSp:=λg P=>∃d,g=[d,.tup [.ty "list",.ty "tuple"]]/\yD d=true/\P (.bl (Fm d))
theorem yT:CallD X (.builtin "isinstance") KH:=by
 refine⟨_,wj,λ{pp M H ds vs Q P} _ r h k=>?_⟩;obtain⟨d,rfl,fd,h⟩:=h;simp only[Reps]at r;obtain⟨J,_,rfl,g,x2,_,rfl,U,rfl⟩:=r;simp only[Rep]at U;obtain⟨a,E,rfl,s,Y⟩:=U;have q:E=[.ty "list",.ty "tuple"]:=by simp only[Reps,Rep]at Y;obtain⟨_,_,rfl,rfl,_,_,rfl,rfl,rfl⟩:=Y;rfl
 subst q;have z:=CP g fd;have e:(dc H J || bv H J)=Fm d:=by
  unfold Fm;cases d<;>first|cases fd|skip
  all_goals simp only[Rep]at g
  case non=>subst g;rfl
  case bl=>subst g;rfl
  case int=>subst g;rfl
  case str=>subst g;rfl
  case tup=>obtain⟨a,C,rfl,h,_⟩:=g;simp only[dc,bv,h];rfl
  case lst=>obtain⟨a,C,rfl,_,_,h,_⟩:=g;simp only[dc,bv,h];rfl
 exact⟨J,a,rfl,s,z,by rw[e];exact k h .refl df⟩
end DL
namespace DL
open PySem PySem.Spec PyProof.Rows L2
variable[TB]
variable{p pos tp:Pos}
section
variable[Frm]
def seqD:D->bo (ai D)
 |.lst a=>some a|.tup a=>some a|_=>none
omit [Frm] in
theorem CU{K:zvi}{pp:bo bb}{M:ai bb}{H:Hp}{d:D}{v:V}{ds:ai D}(r:Rep K pp M H d v)(e:seqD d=some ds) :
  ∃a xs,v=.ref a/\Reps K pp M H ds xs/\∀M2 g,Mv K pp M H M2 g->SqX (λc=>L2.isTupO (H c)) K g a xs:=by
 cases d<;>simp only[seqD]at e<;>cases e
 all_goals simp only[Rep]at r
 ·obtain⟨a,xs,rfl,b,J⟩:=r;refine⟨a,xs,rfl,J,λM2 g i=>?_⟩;unfold SqX;rw[zzi (show L2.isTupO (H a)=true by rw[b];rfl)];exact SqT.of (i.tup a xs b)
 ·obtain⟨a,xs,rfl,j,U,b,J⟩:=r;refine⟨a,xs,rfl,J,λM2 g i=>?_⟩;unfold SqX;rw[zzg (show ¬L2.isTupO (H a)=true by rw[b];intro z;cases z)];exact SqL.of (i.lst a xs b j U).1
section
variable{X:Cx}
abbrev Io(t:DA):DA:=λi Q=>t i λg c=>match g with
 |[a,b]=>∃d e,seqD a=some d/\seqD b=some e/\Q (zipD d e) c|_=>False
theorem ir{l A:bN}{tl:DA}{elts:ai bN}{k:Nat}(hm:X.mg "zip" = none)(ha:PAD X [l,A] tl)(he:starEach [l,A] X.env=(false,eval l X.env)::starEach [A] X.env:=by rfl)(a5:(backTo pos (starEach [A] X.env)).any (·.1)=false:=by rfl)(hg:Gl X "zip":=by rfl) :
  PID X (.Tuple elts k tp) (.Call (.Name "zip" p) [l,A] [] pos) (Io tl):=by
 obtain⟨T,pa,r⟩:=ha;refine⟨_,EJ hg hm pa he a5,λ{F M H σ ρ R P} rs h k=>r rs h λ{d ρ' M' H' v} h m a9 U=>?_⟩;split at h
 case h_2=>exact h.elim
 rename_i d1 d2;obtain⟨Q,Y,e1,e2,h⟩:=h;simp only[Reps]at U;obtain⟨x,r0,rfl,hx,x',r0',rfl,a8,rfl⟩:=U;obtain⟨a,j,rfl,U,u⟩:=CU hx e1;obtain⟨b,n,rfl,J,w⟩:=CU a8 e2;have L:=fT Q Y;refine⟨λc=>L2.isTupO (H' c),a,b,rfl,⟨j,u _ _ .refl⟩,⟨n,w _ _ .refl⟩,k h m a9 ⟨λM2 N g i d y H3 e yl=>?_,λM2 N g i I=>?_,λM2 N g i I=>?_⟩⟩
 ·obtain⟨T,r,G,rfl,⟨hr,hz⟩,rfl⟩:=yl;obtain⟨d1,d2,a0,a4,rfl⟩:=nE Q Y i d e;obtain⟨v1,a6,b0⟩:=U.get' a0;obtain⟨v2,a7,b1⟩:=J.get' a4;have C:=hz 0 a j rfl (u _ _ g);have E:=hz 1 b n rfl (w _ _ g);rw[a6]at C;rw[a7]at E;have er:r=[v1,v2]:=by
   match r,hr,C,E with
   |[p,q],_,C,E =>
    cases C;cases E;rfl
  subst er;refine⟨.new G,?_⟩;simp only[Rep];exact⟨T,_,rfl,ae,.cons ((b0.mv g).mv (.new G)) (.one ((b1.mv g).mv (.new G)))⟩
 ·rw[L,U.length,J.length]at I;intro c s;simp only[zzr,zyo,zxv]at s;rcases s with rfl|rfl
  ·exact⟨j,j[i]'(by lia),u _ _ g,by simp⟩
  ·exact⟨n,n[i]'(by lia),w _ _ g,by simp⟩
 ·rw[L,U.length,J.length]at I;refine⟨λc s=>?_,?_⟩
  ·simp only[zzr,zyo,zxv]at s;rcases s with rfl|rfl
   ·exact⟨j,u _ _ g⟩
   ·exact⟨n,w _ _ g⟩
  ·rcases Nat.lt_or_ge n.length j.length with z|z
   ·exact⟨b,by simp,n,w _ _ g,by lia⟩
   ·exact⟨a,by simp,j,u _ _ g,by lia⟩
end
end
end DL
namespace DL
open PySem PySem.Spec L2
open PyProof.Rows hiding St
variable[TB]
variable{k n:Nat}{p pos tp:Pos}
variable{X:Cx}
section
variable[Frm]
theorem BG{f:bb}{fd:bp}{ps:ai Str}{g:DSpN}{x:Str}{e:bN}{b:ai bN}{t:DA}(i:FnOk X.prog X.w X.K X.mg X.base CX0 k f fd ps (spDN X.K n g))(E:Room k X.A)(u:Gl X x)(z:X.mg x=some (.ref f))(v:PySem.W.keepIn X.K (.ref f)=true)(m:Binds X.K fd ps [])(c:PAD X (e::b) t)(U:(x==("__debug__" : Str))=false:=by decide)(he:starEach (e::b) X.env=(false,eval e X.env)::starEach b X.env:=by rfl)(Y:(backTo tp (starEach b X.env)).any (·.1)=false:=by rfl) :
  PSsN X [.Return (some (.Call (.Name x p) (e::b) [] tp)) pos] (λQ L ρ=>t ρ λds _=>ds.length=n/\g ds Q L):=by
 obtain⟨T,H,M⟩:=c;refine⟨_,eJ (jv (mK i E u z v m .nil AK H U he Y)),λrs q d=>M rs q λq G J I=>?_⟩;rw[zyb];exact⟨_,_,_,_,_,J.liv,I,q.1,q.2,λq s r=>d.rt (G.trans s.mv) (J.sameP s) r q,λq s sub y C l j N=>d.nw (J.sameT.trans s) (λa c=>sub a (J.sub a c)) (J.h0 y) C l j N q⟩
end
def Ip:D->D->(D->Prop)->Prop
 |.tup a,.tup b,P=>(a.length+b.length<=sizeLine)/\P (.tup (a++b))|_,_,_=>False
theorem Fo:OpD X (binaryOp .Add) Ip:=by
 refine⟨_,EK,λ{pp M H x y v u Q P} lv i j h k=>?_⟩;cases x<;>first|exact h.elim|skip
 cases y<;>first|exact h.elim|skip
 rename_i A C;have Y:=i;have r:=j;obtain⟨a,m,rfl,c,J⟩:=i;obtain⟨b,q,rfl,d,U⟩:=j;by_cases z:A=[]
 ·subst z;have e:m=[]:=zzX.mp J.length.symm;subst e;exact .inr ⟨a,b,q,rfl,rfl,SqT.of c,SqT.of d,k h.2 .refl r⟩
 ·obtain⟨w,h⟩:=h;refine .inl ⟨a,b,m,q,rfl,rfl,SqT.of c,SqT.of d,?_,by rw[←J.length,←U.length];exact w,λe=>?_,λe l g=>k h (.new g) ?_⟩
  ·rintro rfl;exact z (zzX.mp J.length)
  ·subst e;have s:C=[]:=zzX.mp U.length;subst s;rw[zyb]at h;exact k h .refl Y
  ·simp only[Rep];exact⟨l,_,rfl,ae,(J.append U).mv (.new g)⟩
section
variable[Frm]
abbrev Fp(t:DA):DA:=λd Q=>t d λb a=>match b with
 |[.tup c]=>Q (eA 0 c) a|_=>False
theorem uD{l:bN}{v:DA}{elts:ai bN}(H:X.mg "enumerate" = none)(c:PAD X [l] v)(he:starEach [l] X.env=(false,eval l X.env)::starEach [] X.env:=by rfl)(w:(backTo pos (starEach [] X.env)).any (·.1)=false:=by rfl)(G:Gl X "enumerate":=by rfl) :
  PID X (.Tuple elts k tp) (.Call (.Name "enumerate" p) [l] [] pos) (Fp v):=by
 obtain⟨T,L,r⟩:=c;refine⟨_,Bh G H L he w,λrs h k=>r rs h λh m C J=>?_⟩;split at h
 case h_2=>exact h.elim
 rename_i j;obtain⟨x,r0,rfl,⟨a,b,rfl,c,J⟩,rfl⟩:=J;refine⟨a,rfl,⟨b,SqT.of c⟩,k h m C ⟨λM2 s g i d y H3 e M=>?_,λM2 s g i q=>?_,λM2 s g i q=>?_⟩⟩
 ·obtain⟨T,z,u,rfl,I,rfl⟩:=M;obtain⟨d',U,rfl⟩:=eB j 0 i d e;obtain⟨v',A,E⟩:=J.get' U;have:=I b (SqT.of (g.tup a b c));rw[A]at this;cases this;refine⟨.new u,?_⟩;exact⟨T,_,rfl,ae,.cons (by rw[zwj];exact bx) (.one ((E.mv g).mv (.new u)))⟩
 ·have Y:i<b.length:=by rw[←J.length,←aJ j 0];exact q
  exact⟨b,b[i],SqT.of (g.tup a b c),by simp[Y]⟩
 ·exact⟨b,SqT.of (g.tup a b c),by rw[←J.length,←aJ j 0];exact q⟩
end
def Fq:Sl->bo D
 |.val d=>some d|_=>none
theorem yU{K:zvi}{pp:bo bb}{P:bb}{d:Str}{H H':Hp}(h:LamMade P d H H')(A:TB.tb.lookup P=some d):SameP K pp H H':=by
 obtain⟨ps,more,Y,J,C,y⟩:=h.tab;have keep:∀b o,H b=some o->NT o->H' b=some o:=λb o e n=>h.keep b o e (by rintro rfl;rw[Y]at e;cases e;exact n _ rfl);refine⟨⟨λb o e n=>keep b o e n.2,λp e ⟨a,E,t,l,pen⟩=>⟨a,E,t,l,keep _ _ pen.lst (by intro _ z;cases z),?_,pen.t0⟩,λb e=>?_⟩,λG U r e=>?_⟩
 ·rcases pen.scr with ⟨o,e⟩|e
  ·exact .inl ⟨o,keep _ _ e (by intro _ z;cases z)⟩
  ·exact .inr e
 ·by_cases z:b=P
  ·subst z;rw[J];intro z;cases z
  ·cases q:H b with
   |none=>exact absurd q e|some o=>rw[h.keep b o q z];intro z;cases z
 ·obtain⟨s,m,v,w⟩:=G U r e;have old:∀pos g,codeAmong pos s.toList=some g->∃c i u j t,g=.ref c/\H' c=some (.frz i u)/\i.data=.fields j/\j[1]?=some (.str r t):=λpos g q =>
   let ⟨c,i,u,j,t,f1,f2,x⟩:=w pos g q;⟨c,i,u,j,t,f1,keep _ _ f2 (by intro _ z;cases z),x⟩
  by_cases z:U=P
  ·subst z;rw[A]at e;cases e;rw[Y]at m;cases m;refine⟨_,J,C,λpos g q=>?_⟩;rcases y pos g q with q|q
   ·exact old pos g q
   ·exact q
  ·exact⟨s,h.keep _ _ m z,v,old⟩
theorem pP[Frm]{K:zvi}{F:Fx}{M:ai bb}{H:Hp}{g:St}{c:DS}(rs:RSt K F M H g c):∀(js:ai Nat) (ds:ai D),js.map (λi=>(c[i]?).bind Fq)=ds.map some->∃b,js.map (λi=>g[i]?)=b.map (λv=>some (some v))/\Reps K F.pp M H ds b
 |[],[],_=>⟨[],rfl,.nil⟩|[],_::_,h=>by simp at h
 |_::_,[],h=>by simp at h
 |i::js,d::ds,h=>by
  simp only[zzh,List.cons.injEq]at h;obtain⟨a,l⟩:=h;obtain⟨b,j,U⟩:=pP rs js ds l;cases e:c[i]? with
  |none=>rw[e]at a;cases a
  |some q =>
   rw[e]at a;cases q with
   |val d =>
    cases a;obtain⟨o,m,v,J,r⟩:=rs.at e;subst J;exact⟨v::b,by simp only[zzh,m,j],.cons r U⟩
   |nil=>cases a
   |pin v d=>cases a
   |own d=>cases a
   |obj d=>cases a
section
variable{N2:ai Str}{scope:Scope}{cl:ai (Str×bb)}
structure LamIn(X:Cx)(scope:Scope)(cl:List (Str×Addr))(N2:List Str)(js:List Nat):Prop where
 clo:closureFor scope X.env=pure cl
 sub:∀x c,cl.lookup x=some c->X.env.cells.lookup x=some c
 all:∀x,scope.names.lookup x=some .free->x∈N2
 len:N2.length=js.length
 nam:∀(j:Nat) x,N2[j]? = some x->∃i,js[j]? = some i/\X.N[i]? = some x/\X.env.kindOf x=some .cell/\scope.names.lookup x=some .free/\∃c,cl.lookup x=some c
end
end DL
namespace DL
open PySem PySem.Spec L2
open PyProof.Rows hiding St
variable{M:ai bb}{N ps:ai Str}{c e1 e2:bN}{ctv pm:av}{i k n:Nat}{js:ai Nat}{mg:Str->bo av}{p pos q r:Pos}{s1:Stmt}{ta te:DE}{u:DTS}{w:World}{x y:Str}
variable{X:Cx}{qual:Str}{scope:Scope}{c':bb}{vs:ai V}{te:DE}
theorem jZ{g:Type}:∀{l:ai (bb×g)} {a:bb} {o:g},l.lookup a=some o->(a,o)∈l
 |[],_,_,e=>by cases e
 |(b,x)::r,a,o,e=>by
  rw[zyC]at e;cases d:a==b with
  |true=>rw[d]at e;cases e;rw[zwD d];exact .head _
  |false=>rw[d]at e;exact .tail _ (jZ e)
theorem Fr{g:ai (bb×Str)}(K:zvi)(H:Hp)(a:bb)(d:ai Int)(j:∀b,H b=none∨(∃o xs,H b=some (.frz o (.lst xs)))∨H b=some (.tbl #[]))(J:∀P∈g.map (·.1),H P=some (.tbl #[]))(h:SqL K H a (d.map V.int)) :
  @spLaw ⟨g⟩ K [.ref a] H (λv _=>v=.bl true) λ_ _ _=>False:=by
 refine⟨a,d,rfl,?_,λP U e=>⟨#[],J P (zzc.mpr ⟨(P,U),jZ e,rfl⟩),trivial,λpos cv z=>by cases z⟩,λ_=>rfl⟩;rcases h with (h|⟨o,h⟩)|h
 ·rcases j a with z|⟨o,xs,z⟩|z
  ·rw[z]at h;cases h
  ·rw[z]at h;cases h
  ·rw[z]at h;cases h
 ·exact .inl ⟨o,h⟩
 ·exact .inr λH'=>.inr h
theorem walk_ofT{l:PySem.W.OpenLaw}{q:bP}{E:(Str->bo av)->bz->Prop}{A:World->bz->Prop}{d:DefRec}{K:Params->zvi}(hn:l.most=some n)(r:n<=sizeLine)(i:d.params.defaults=[])(hr:Room k callerA)(hY:∀(w:World) (h:bz),A w h->(K w.params).In h)(Q:∀(w:World) (h:bz),A w h->∀P∈M,h.get? P=some (PySem.W.tabObj #[]))(F:∀(w:World) (mg:Str->bo av) (j:bb) (h:bz),(K w.params).In h->h.Ns mainGlobals mg->mg d.name=some (.ref j) ->
   ∃(fd:bp) (m:ai (bb×Str)),(∀(s:bd) (u:av),BindsTo s fd ⟨[u],[]⟩ [(x,u)])/\(∀q∈m,(∃c,PySem.W.codeHdIn (K w.params) c q.1=true)/\q.1∈M/\(K w.params).lookup q.1=none) /\
    ∀base:bz,(K w.params).In base->base.Ns mainGlobals mg->Bm mg base->FnOk l.prog w (K w.params) mg base CX0 k j fd [x] (@spLaw ⟨m⟩ (K w.params))) :
  PySem.W.WalkO q ps E A l.row.toRowW d [] (λf vs=>PySem.call f vs):=by
 refine Att.attach_call hn i λw s₀ s₁ mg mb j o pm cd doc a vs ns G Y ho hd hcd p L U I hg=>?_;have v:=hY w _ Y;obtain⟨fd,m,hb,ht,y⟩:=F w mg j _ v G.T.g p;have C:∀P∈m.map (·.1),(∃c,PySem.W.codeHdIn (K w.params) c P=true)/\P∈M/\(K w.params).lookup P=none:=λP J=>by obtain⟨q,hq,rfl⟩:=zzc.mp J;exact ht q hq
 exact yo v G.T.g G.T.b G.T.builtins G.T.nolimit ⟨G.T.bmain⟩ hg L U (zzo I r) hr (λP J=>Q w _ Y P (C P J).2.1) (λP J=>let ⟨c,e⟩:=(C P J).1;⟨c,PySem.W.codeHd_of_K v e⟩) (λP J=>(C P J).2.2) y hb
  (λH N hT hS=>Fr (K w.params) H a ns N hT hS) λH e s' z=>z
section
variable[TB]
theorem fnDL{P:bP}{K:zvi}{base:bz}{f:bb}{fd:bp}{g:DSp}{t:DTS}(Y:Fun K x y s1 f fd)(S:FnScope N ps (ah s1))(d:∀{a:av} (_:a=fd.code) {A:Around} {b:ai Env} {s:bd} {H:Hp} {E:XK},Room k (A.deeper (envOfC y (ah s1) s.heap.objs.size f a))->N.Nodup -> @PSsD _ Frm.free (cxOf CX0 P w K mg base N y (ah s1) f a A b s H E).nox (ck s1) t)(j:∀ds Q,ds.length=ps.length->g ds Q->t {nx:=λ_=>Q .non,rt:=Q} (fL N.length ds)):FnOk P w K mg base CX0 (k+1) f fd ps (spD K ps.length g):=by
 obtain⟨oc,od,kV,doc,pm,an,a,ct,osl,e,lk,J⟩:=Y.ex;have U:a=fd.code:=by rw[e]
 subst e;refine Ej lk J S (λvs H Q E h=>?_) λA b s H vs Q E l h=>?_
 ·obtain⟨pp,M,ds,P,_,r,e,_⟩:=h;rw[←r.length,e]
 ·obtain⟨pp,M,ds,P,lv,r,e,h,k⟩:=h;obtain⟨T,p,run⟩:=d U l S.nd;exact⟨T,p.nox,run (gv lv r trivial) (j ds _ e h) ⟨λm rs q=>k q rs.sameT (by simp only[Rep]),λ_ _ q=>q,λ_ _ q=>q,λm rs v q=>k q rs.sameT (v.mv (.less rs.sub))⟩⟩
end
inductive Nams(X:Cx)(scope:Scope)(cl:List (Str×Addr)):List Str->List Nat->Prop
 |nil:Nams X scope cl [] []
 |cons {x:Str} {i:Nat} {c:Addr} {xs:List Str} {is:List Nat} (hN:X.N[i]? = some x) (hk:X.env.kindOf x=some .cell) (hs:scope.names.lookup x=some .free) (hc:cl.lookup x=some c) (r:Nams X scope cl xs is):Nams X scope cl (x::xs) (i::is)
theorem Nams.len{X:Cx}{scope:Scope}{cl:ai (Str×bb)}(h:Nams X scope cl ps js):ps.length=js.length:=by
 induction h with
 |nil=>rfl|cons _ _ _ _ _ J=>simp[J]
theorem Nams.at{X:Cx}{scope:Scope}{cl:ai (Str×bb)}{a:ai Str}{js:ai Nat}(h:Nams X scope cl a js):∀(j:Nat) x,a[j]?=some x->∃i,js[j]?=some i/\X.N[i]?=some x/\X.env.kindOf x=some .cell/\scope.names.lookup x=some .free/\∃c,cl.lookup x=some c:=by
 induction h with
 |nil=>intro j x h;simp at h|cons b g l d _ J =>
  intro j y h;cases j with
  |zero=>simp at h;subst h;exact⟨_,rfl,b,g,l,_,d⟩|succ j =>
   obtain⟨i,e,r⟩:=J j y (by simpa using h);exact⟨i,by simpa using e,r⟩
theorem Iq{X:Cx}{scope:Scope}{cl:ai (Str×bb)}(b:closureFor scope X.env=pure cl)(sub:∀p∈cl,X.env.cells.lookup p.1=some p.2)(all:∀p∈scope.names,p.2=.free->p.1∈ps)(a:Nams X scope cl ps js):LamIn X scope cl ps js :=
 ⟨b,λx c h=>sub (x,c) (zzV h),λx h=>all (x,.free) (zzV h) rfl,a.len,a.at⟩
section
variable[TB]
theorem KI{P:bP}{K:zvi}{base:bz}{st:Stmt}{f:bb}{fd:bp}{t:DTS}{rest:ai Stmt}(c:Fun K "law" "law" st f fd)(S:FnScope N [x] (ah st))(hs:ck st=s1::rest)(hN:2<=N.length)(n:∀(j:av) (A:Around) (g:ai Env) (s:bd) (H:Hp) (E:XK),Room k (A.deeper (envOfC "law" (ah st) s.heap.objs.size f j))->PS (cxOf CX0 P w K mg base N "law" (ah st) f j A g s H E).nox s1 (tAsg (GW (CH K) [] E0 (Eh (tVar 0) tNil)) (xp 1)))(y:∀{j:av} (_:j=fd.code) {A:Around} {g:ai Env} {s:bd} {H:Hp} {E:XK},Room k (A.deeper (envOfC "law" (ah st) s.heap.objs.size f j))->N.Nodup -> @PSsD _ Frm.free (cxOf CX0 P w K mg base N "law" (ah st) f j A g s H E).nox rest t)(M:t {nx:=λ_=>False,rt:=λd=>d=.bl true} (.nil :: .val .pen::List.replicate (N.length - 2) .nil)):FnOk P w K mg base CX0 (k+1) f fd [x] (spLaw K):=by
 obtain⟨oc,od,kV,doc,pm,an,j,ct,osl,e,lk,J⟩:=c.ex;have U:j=fd.code:=by rw[e]
 subst e;refine Ej lk J S (λvs H Q E h=>?_) (λA g s H vs Q E L h=>?_)
 ·obtain⟨a,C,rfl,_⟩:=h;rfl
 ·suffices hh:∃t,PSs (cxOf CX0 P w K mg base N "law" (ah st) f j A g s H E).nox (ck st) t/\t {nx:=λ_ l=>Q .non l,rt:=Q} (L2.start N vs) H by
   obtain⟨t,a,b⟩:=hh;exact⟨t,a.nox,b⟩
  obtain⟨a,C,rfl,Y,r,h⟩:=h;rw[hs];refine⟨_,bn (u:=λD G l=>∃p:bb,@RSt _ Frm.free K ⟨some p,[],l⟩ [] l G (.nil :: .val .pen::List.replicate (N.length - 2) .nil)/\∀v,D.rt (.bl true) v) (n j A g s H E L) ?_,?_⟩
  ·intro m s' G l D I ⟨p,rs,q⟩;obtain⟨T,pT,run⟩:=y U L S.nd;refine pT m s' G l D I (run rs M ⟨λ_ _ q=>q.elim,λ_ _ q=>q.elim,λ_ _ q=>q.elim,λ_ _ rd e=>?_⟩);subst e;subst rd;exact q _
  ·refine⟨.ref a,?_,a,C,rfl,Y,λp l hp pen sm=>⟨p,⟨?_,λi s o e1 e2=>?_,OwF.none (λi s e1=>?_),λa z=>by simp at z,.refl,λa z=>by simp at z,⟨λa z=>by simp at z,λq e=>?_⟩,⟨trivial,r.of λb o e _=>sm b o e⟩⟩,h⟩⟩
   ·simp[L2.start]
   ·simp[L2.start];lia
   ·match i,e1 with
    |0,e1=>simp at e1;subst e1;trivial|1,e1 =>
     simp at e1;subst e1;have hi:1<(L2.start N [V.ref a]).length:=by simp[L2.start];lia
     simp[hi]at e2;subst e2;refine⟨_,rfl,?_⟩;exact⟨p,rfl,rfl,a,C,0,0,pen⟩
    |i+2,e1 =>
     have:=zyH (zzD (by simpa using e1));subst this;trivial
   ·have:=zzD e1;simp at this;rcases this with rfl|rfl|⟨_,rfl⟩<;>exact⟨λds z=>(by cases z),λq z=>(by cases z)⟩
   ·cases e;rw[pen.lst];intro z;cases z
end
variable[TB]
section
variable[Frm]
def KJ(i:Nat)(E:DEnds)(ρ:DS)(J:ai D):Sl->Prop
 |.own a=>∃(k:Int) (d:D),J=[.int k,d]/\0<=k/\k<=(a.length:Int)/\a.length<1000/\E.nx (ρ.set i (.own (a.take k.toNat++d::a.drop k.toNat)))|_=>False
abbrev dIns(i:Nat)(t:DA):DTS:=λE b=>wf (slot b i)/\t b λJ a=>KJ i E a J (slot a i)
theorem Ir{o:bN}{a:Pos}{t:DA}(y:PE X o (tVar i))(u:PAD X [e1,e2] t)(J:attributeBase o "insert" X.env (eval o X.env)=eval o X.env:=by rfl)(A:((backTo a (starEach [e1,e2] X.env)).all (λx=>!x.1) && (backToKw a (keywordEach [] X.env)).all (λx=>x.1.isSome)
   && decide ([e1,e2].length+([]:ai Keyword).length+(if ([]:ai Keyword).isEmpty then 0 else 1)<30))=true:=by rfl)(U:(p.endLine==a.line)=true:=by rfl)(L:starEach [e1,e2] X.env=(false,eval e1 X.env)::starEach [e2] X.env:=by rfl)(I:(backTo a (starEach [e2] X.env)).any (·.1)=false:=by rfl)(N:swapsWith (.Call (.Attribute o "insert" p) [e1,e2] [] a) none pos.line X.env=pure false:=by rfl):PSD X (.Expr (.Call (.Attribute o "insert" p) [e1,e2] [] a) pos) (dIns i t):=by
 obtain⟨T,pa,r⟩:=u;have w:PE X (.Call (.Attribute o "insert" p) [e1,e2] [] a) (tBM X.K "list" yp (tVar i) T):=vO zxn PySem.F.slot_list_insert PySem.F.type_list_insert yq y pa J A U L I;refine⟨_,jt w N,λ{F M H σ ρ E D} rs h oo=>?_⟩;obtain⟨h0,h⟩:=h;obtain⟨ds,q⟩:=gw h0;obtain⟨_,Y,l,xs,rfl,_,_,_,G,_⟩:=rs.at (aB q);refine⟨.ref l,Y,.inl ⟨rfl,xs,SqL.of G⟩,r rs h λ{ds2 e _ _ _} h m g z=>?_⟩;cases s:slot e i<;>rw[s]at h<;>first|exact h.elim|skip
 obtain⟨k,d,rfl,k0,k1,lz,n⟩:=h;have g1:=aB s;obtain⟨_,j,c,_,_,_,C,b⟩:=g.sl i _ _ g1 Y;cases c;simp only[Reps]at z;obtain⟨x1,_,rfl,v,x2,_,rfl,r2,rfl⟩:=z;simp only[Rep]at v;subst v;have hlen:=b.length;obtain⟨m2,Q⟩:=g.write g1 Y ((b.take k.toNat).append (.cons r2 (b.drop k.toNat)));exact⟨l,j,k,x2,rfl,rfl,C,k0,by lia,by lia,zzH (show j.length<1000 by lia) (by decide),oo.nx (m.trans m2) Q n⟩
end
section
variable{P:bP}{w:World}{K:zvi}{mg:Str->bo av}{base:bz}{N:ai Str}{f:bb}{cl:ai (Str×bb)}{A:Around}{outer:ai Env}{s:bd}{H:Hp}{E:XK}
theorem wm{x:Str}{v:V}{u:av}{a:Arguments}{body:bN}{Q:VK}{pp:bo bb}{d:D}{ds:ai D}{R:D->Prop}(S:LamSc1 x a scope)(I:Room (k+1) A)(g:Env0 P w K mg base A outer s H)(G:s.heap.get? f=some (PySem.W.kla_obj y qual a body scope cl pm c' ctv))(e:s.heap.CodeRec (.ref c') qual)(C:Cells scope cl N vs H s.heap)(c:RelV v u)(l : @PED _ Frm.free (cxL P w K mg base (x::N) qual scope f (.ref c') cl A outer s H E) body te)(lv:Lv pp M H)(r:Reps K pp M H (d::ds) (v::vs))(L:te (.val d::ds.map .val) (λJ _=>R J))(j:∀J,R J->∀b Y,SameP K pp H b->Rep K pp M b J Y->Q Y b) :
  codeAny (model P w) A (.call (.ref f) ⟨[u],[]⟩) (CR (CXE P w) outer P w H s Q E) s:=by
 obtain⟨T,p,run⟩:=l;have z:=r.length;have rs : @RSt _ Frm.free K ⟨pp,M,H⟩ M H (some v::vs.map some) (.val d::ds.map .val):=by
  have : @RSt _ Frm.free K ⟨pp,M,H⟩ M H (L2.start (x::N) (v::vs)) (fL (x::N).length (d::ds)):=gv lv r trivial;have e1:L2.start (x::N) (v::vs)=some v::vs.map some:=by simp[L2.start,C.len]
  have e2:fL (x::N).length (d::ds)=.val d::ds.map .val:=by
   have:ds.length=vs.length:=by simpa using z
   simp[fL,C.len,this]
  rw[e1,e2]at this;exact this
 exact Bj (T:=T) S I g G e C c p (run rs L λ{J _ _ b Y} hd m U i=>j J hd b Y U.sameT (i.mv (.less U.sub)))
end
section
variable{k:Nat}{fa:bb}{N2:ai Str}{params:Arguments}{body:bN}{cl:ai (Str×bb)}
theorem LamIn.cells1(J:LamIn X scope cl N2 js)(g:∀x∈scope.names,x.2 ≠ .cell){a:ai (bb×Obj)}{A:St}{H:Hp}{s:bd}(I:Inv X a A H s)(e:js.map (λi=>A[i]?)=vs.map λv=>some (some v)):Cells scope cl N2 vs H s.heap:=by
 have U:js.length=vs.length:=by have:=congrArg List.length e;simpa using this
 refine⟨λx y c b d=>I.ok.inj x y c (J.sub x c b) (J.sub y c d),λx h=>?_,λx c h=>I.cell x c (J.sub x c h),λx c h=>I.freeC x c (J.sub x c h),J.len.trans U,λj x v b d=>?_⟩
 ·rcases h with h|h
  ·exact absurd rfl (g _ (zzV h))
  ·obtain⟨j,T⟩:=zxZ (J.all x h);obtain⟨_,_,_,_,_,q⟩:=J.nam j x T;exact q
 ·obtain⟨i,e1,e2,Y,E,c,C⟩:=J.nam j x b;have Q:A[i]?=some (some v):=by
   have:=congrArg (λl=>l[j]?) e;simp only[zzl,e1,d,zwP]at this;exact zya this
  obtain⟨m,hn,U⟩:=I.loc;obtain⟨u,k,lo⟩:=U i x v e2 Q (.inr (.inl Y));refine⟨u,c,k,E,C,?_⟩;rcases lo with ⟨z,_⟩|⟨_,c2,G,L⟩
  ·rw[Y]at z;cases z
  ·have:=J.sub x c C;rw[G]at this;cases this;exact L
theorem uE{K:zvi}{pp:bo bb}{M:ai bb}{H:Hp}:∀(kz:ai Int) {ds:ai D} {xs:ai V},Reps K pp M H ds xs->Paired (λ(p:Int×D) (q:Int×V)=>p.1=q.1/\Rep K pp M H p.2 q.2) (kz.zip ds) (kz.zip xs)
 |[],_,_,_=>.nil|_::_,[],xs,h=>by simp only[Reps]at h;subst h;exact .nil
 |k::kz,d::ds,xs,h=>by simp only[Reps]at h;obtain⟨x,r,rfl,a,b⟩:=h;exact .cons ⟨rfl,a⟩ (uE kz b)
theorem BH{K:zvi}{pp:bo bb}{H:Hp}{ps:ai (Int×D)}{a:ai (Int×V)}(h:Paired (λ(p:Int×D) (q:Int×V)=>p.1=q.1/\Rep K pp M H p.2 q.2) ps a):Reps K pp M H (ps.map (·.2)) (a.map (·.2)):=by
 induction h with
 |nil=>exact .nil|cons b _ J=>exact .cons b.2 J
theorem yV{e g:Type}{S:e->g->Prop}{ps:ai (Int×e)}{a:ai (Int×g)}(h:Paired (λ(p:Int×e) (q:Int×g)=>p.1=q.1/\S p.2 q.2) ps a):(∀c:Int,(∀q∈a,c<=q.1)->∀p∈ps,c<=p.1)/\(a.Pairwise (λp q=>p.1<=q.1)->ps.Pairwise λp q=>p.1<=q.1):=by
 induction h with
 |nil=>exact⟨λ_ _ p J=>by simp at J,λ_=>.nil⟩
 |@cons p q ps a j _ b =>
  refine⟨λc l d J=>?_,λY=>?_⟩
  ·rcases zzr.mp J with rfl|J
   ·rw[j.1];exact l q zzd
   ·exact b.1 c (λs m=>l s (zzf _ m)) d J
  ·rw[zyJ]at Y ⊢;refine⟨λd U=>?_,b.2 Y.2⟩;rw[j.1];exact b.1 q.1 Y.1 d U
abbrev Iu(js:ai Nat)(ta te:DE):DE:=λg Q=>ta g λd J=>∃(a:ai D) (b:ai Int) (e:ai D),d=.lst a/\a.length<64/\b.length=a.length/\js.map (λi=>(J[i]?).bind Fq)=e.map some /\
 (∀(i:Nat) (x:D) (z:Int),a[i]?=some x->b[i]?=some z->te (.val x::e.map .val) λU _=>U=.int z) /\
 ∀ps:ai (Int×D),ps.Perm (b.zip a)->ps.Pairwise (λp q=>p.1<=q.1)->Q (.lst (ps.map (·.2))) J
def Fs[Frm](X:Cx)(js:ai Nat)(te:DE)(σ:St)(Q:VK)(v:V)(H1:Hp):Prop:=∃(F:Fx) (M:ai bb) (J:DS) (a:ai D) (e:ai Int) (g:ai D),RSt X.K F M H1 σ J/\Rep X.K F.pp M H1 (.lst a) v/\a.length<64/\e.length=a.length/\js.map (λi=>(J[i]?).bind Fq)=g.map some /\
   (∀(i:Nat) (x:D) (z:Int),a[i]?=some x->e[i]?=some z->te (.val x::g.map .val) λY _=>Y=.int z) /\
   ∀ps:ai (Int×D),ps.Perm (e.zip a)->ps.Pairwise (λp q=>p.1<=q.1)->∀d b U,Mv X.K F.pp M H1 d b->RSt X.K F d b σ J->Rep X.K F.pp d b (.lst (ps.map (·.2))) U->Q U b
def KK[Frm](X:Cx)(js:ai Nat)(te:DE)(σ:St)(Q:VK):ai V->Hp->Prop
 |[v],a=>Fs X js te σ Q v a|_,_=>False
theorem BI[Frm]{c0 P:bb}{x:Str}{lpos T:Pos}(S:LamSc1 x params scope)(hr:Room (k+3) X.A)(hg:Gl X "sorted")(hm:X.mg "sorted" = none)(bm:Bm X.mg X.base)(hc:X.env.code=.ref c0)(hP:PySem.W.codeHdIn X.K c0 P=true)(hq:X.env.qual ++ "<lambda>" = qual)(a4:TB.tb.lookup P=some qual)(li:LamIn X scope cl N2 js)(a0:defaultsOf params X.env=([],[]))(ha:PED X e1 ta)(hb:∀(fa c':bb) (A:Around) (G:ai Env) (s:bd) (H:Hp) (E:XK),Room k (A.deeper (PySem.W.envX qual scope s.heap.objs.size fa (.ref c') cl)) -> @PED _ Frm.free (cxL X.prog X.w X.K X.mg X.base (x::N2) qual scope fa (.ref c') cl A G s H E) body te)(y:bootBuiltins "sorted" = some (.builtin "sorted"):=by rfl)(he:starEach [e1] X.env=(false,eval e1 X.env)::starEach [] X.env:=by rfl)(a8:backTo pos (starEach [e1] X.env)=(false,eval e1 X.env)::backTo pos (starEach [] X.env):=by rfl)(a9:(backTo pos (starEach [e1] X.env)).any (·.1)=false:=by rfl) :
  PED X (.Call (.Name "sorted" p) [e1] [⟨some "key",.Lambda params body scope lpos,T⟩] pos) (Iu js ta te):=by
 obtain⟨Ta,pa,ra⟩:=ha;refine⟨λm H Q=>Ta m H λv H1=>Fs X js te m Q v H1,λj s m H Q I h=>?_,λ{F M H m ρ Q P} rs h k=>ra rs h λ{d a6 M1 H1 v} h m1 b5 r1=>?_⟩
 rotate_left
 ·obtain⟨L,kz,ds,h1,h2,h3,h4,h5,h6⟩:=h;exact⟨F,M1,a6,L,kz,ds,b5,by rw[←h1];exact r1,h2,h3,h4,h5,λps p1 p2 M' g v' m' b4 r'=>k (h6 ps p1 p2) (m1.trans m') b4 r'⟩
 have C:PySem.W.CodeHd X.base c0 P:=PySem.W.codeHd_of_K I.mod.kin hP;refine zxI (eY I hg hm y ?_ (by decide) (by decide));refine callWith_kw ?_ a8 a9;refine thn (bh pa cJ he pos j s m H (KK X js te m Q) I h) λus s1 ⟨vs,H1,I1,r,q⟩=>?_;obtain⟨v,rfl,q⟩:∃v,vs=[v]/\Fs X js te m Q v H1:=by
  match vs,q with
  |[v],q=>exact⟨v,rfl,q⟩|[],q=>exact q.elim|_::_::_,q=>exact q.elim
 obtain⟨u,rfl,ru⟩:∃u,us=[u]/\RelV v u:=by
  cases r with
  |cons a b=>cases b;exact⟨_,rfl,a⟩
 obtain⟨F,M,a6,L,kz,ds,rs,rx,x64,hkz,e1,b2,b1⟩:=q;obtain⟨ps,tb1,tb2,b9⟩:=rs.liv.t P qual a4;refine thn (Ei (HF bm hc C hq li.clo a0) GY pos j s1 m H1 (λus H2=>∃fa c' ctv,us=[.ref fa]/\LamMade P qual H1 H2/\H2 fa=some (frzO (PySem.W.kla_obj "<lambda>" qual params body scope cl ((X.mg "__name__").getD .none) c' ctv) fa)/\Bi H2 c' qual) I1
  ⟨ps,tb1,tb2,λcv e=>let ⟨c,N,u,vs,t,f1,f2,f3⟩:=b9 _ cv e;⟨c,f1,N,u,vs,t,f2,f3⟩,λfa c' ctv g lm ho ch=>⟨fa,c',ctv,rfl,lm,ho,ch⟩⟩) λws s2 ⟨zs,H2,I2,rz,fa,c',ctv,e2,lm,ho,ch⟩=>?_
 subst e2;obtain⟨u2,rfl,b6⟩:∃u,ws=[u]/\RelV (.ref fa) u:=by
  cases rz with
  |cons a b=>cases b;exact⟨_,rfl,a⟩
 cases b6;have sm:SameP X.K F.pp H1 H2:=yU lm a4;have U:=rs.sameP sm;obtain⟨vs,e3,r3⟩:=pP U js ds e1;have a5:Rep X.K F.pp M H2 (.lst L) v:=rx.mv sm.mv;simp only[Rep]at a5;obtain⟨l,ys,rfl,lM,lp,hl,ry⟩:=a5;cases ru;have yl:=ry.length;show wpAny _ _ (call (.builtin "sorted") [.ref l] [(Str.ofString "key",.ref fa)]) _ _ _;refine yr (kz:=kz) (R:=λg=>SameP X.K F.pp H2 g) I2 hl (by lia) (by lia) .refl (λi v z y hz s3 H3 u n J fz ru=>?_) (λD g qs hD a7 J p1 p2=>?_)
 ·have hi:i<L.length:=by rw[yl];exact(zzt.mp y).1
  obtain⟨d,ed⟩:∃d,L[i]?=some d:=⟨_,zzp hi⟩;obtain⟨v',e4,rd⟩:=ry.get' ed;rw[y]at e4;cases e4;obtain⟨N,uu,ws,t,c1,c2,c3⟩:=ch;have b0:s3.heap.CodeRec (.ref c') qual:=⟨c',N,ws,t,rfl,(n.hok c' _ (fz c' N uu c1)).1,c2,c3⟩;have ob:=(n.hok fa _ (fz fa _ _ ho)).1;have e0:Env0 X.prog X.w X.K X.mg X.base X.A.in1.in1 X.stack s3 H3:=let e:=n.env0;⟨e.frames,e.mod,e.bs,e.bsz,e.funs,e.frf,e.hok,e.bare⟩
  refine wm S (hr.in1.in1) e0 ob b0 (li.cells1 S.noc n e3) ru (hb fa c' _ _ s3 H3 _ (hr.in1.in1.deeper _)) (U.sameP J).liv (.cons (rd.mv J.mv) (r3.mv J.mv)) (b2 i d z ed hz) λd' hd g v' b8 rv=>?_;subst hd;simp only[Rep]at rv;exact⟨rv,J.trans b8⟩
 ·have b7:Reps X.K F.pp M g L ys:=ry.mv J.mv;obtain⟨b3,q1,q2⟩:=perm_lift p1 (uE kz b7);have Y:SameP X.K F.pp g (upd g D (.lst (qs.map (·.2)))):=.new a7;have fr:=U.liv.fresh hD;refine b1 b3 q1 ((yV q2).2 p2) M _ (.ref D) (sm.trans (J.trans Y)).mv (rs.sameP (sm.trans (J.trans Y))) ?_;simp only[Rep];exact⟨D,_,rfl,fr.1,fr.2,ae,(BH q2).mv Y.mv⟩
end
section
variable[Frm]
def CV:DSp:=λa P=>match a with
 |[.dT b _]=>P (.lst (b.map keyD))|_=>False
theorem BJ(e:X.calm=true:=by rfl):CallD X (.type "list") CV:=by
 refine⟨_,vV e,λ{pp M H ds vs Q P} lv r h k=>?_⟩;unfold CV at h;split at h
 case h_2=>exact h.elim
 simp only[Reps,Rep]at r;obtain⟨x,t,rfl,⟨a,b,rfl,_,_,d,rfl,_⟩,rfl⟩:=r;refine⟨a,b,rfl,d,λl bs J U=>k h (.new J) ?_⟩;simp only[Rep];exact⟨l,bs,rfl,(lv.fresh J).1,(lv.fresh J).2,ae,(jY U).mv (.new J)⟩
end
section
theorem repsI_iff{K:zvi}{pp:bo bb}{M:ai bb}{H:Hp}:∀{a:ai Int} {xs:ai V},Reps K pp M H (a.map .int) xs↔xs=a.map .int
 |[],xs=>by simp only[zyj,Reps]
 |n::a,xs=>by
  simp only[zzh,Reps,Rep];constructor
  ·rintro⟨x,r,rfl,rfl,h⟩;rw[repsI_iff.mp h]
  ·rintro rfl;exact⟨_,_,rfl,rfl,repsI_iff.mpr rfl⟩
theorem vals_ints:∀{d:ai Int} {a:ai av},Vals (d.map .int) a↔IntsAre a d
 |[],a=>by
  constructor
  ·intro h;cases h;exact .nil
  ·intro h;cases h;exact .nil
 |n::d,a=>by
  constructor
  ·intro h;cases h with
   |cons e b =>
    obtain⟨t,rfl⟩:=e;exact .cons n t (vals_ints.mp b)
  ·intro h;cases h with
   |cons _ t b=>exact .cons ⟨t,rfl⟩ (vals_ints.mpr b)
theorem wo:cZ X (.builtin "sorted") (λxs H Q=>∃(a:bb) (g:ai Int),xs=[.ref a]/\H a=some (.lst (g.map V.int))/\g.length<64 /\
  ∀(l:bb) (J:ai Int),H l=none->J.Perm g->J.Pairwise (·<=·)->Q (.ref l) (upd H l (.lst (J.map .int)))):=by
 intro pins s σ H xs us Q I r h;obtain⟨a,g,rfl,e,h64,q⟩:=h;obtain⟨u,rfl,e2⟩:=gU r;cases e2;obtain⟨z,j,n,G,v⟩:=I.hok a _ e;have Y:=vals_ints.mp G;have hl:=Y.length;refine sorted_ints ⟨_,v,rfl,n,rfl⟩ Y (by lia) λd J C m E=>?_;have fr:H (s.heap.objs.size+1)=none:=I.hok.fresh (by lia);obtain⟨A,U⟩:=sortedAll_at s.heap j d;refine⟨.ref (s.heap.objs.size+1),upd H (s.heap.objs.size+1) (.lst (J.map .int)),I.laid (λb u e=>sortedAll_old e) (by lia) ⟨?_,d.toList,A,vals_ints.mpr C,?_⟩,rfl,q _ J fr m E⟩
 ·rw[zza,m.length_eq,zyt];lia
 ·rw[U]
variable[Frm]
def Iv:DSp:=λb P=>∃a:ai Int,b=[.lst (a.map .int)]/\a.length<64/\∀J:ai Int,J.Perm a->J.Pairwise (·<=·)->P (.lst (J.map .int))
theorem nJ:CallD X (.builtin "sorted") Iv:=by refine⟨_,wo,λ{pp M H ds vs Q P} lv r h k=>?_⟩;obtain⟨e,rfl,b,h⟩:=h;simp only[Reps,Rep]at r;obtain⟨x,t,rfl,⟨a,ys,rfl,_,_,d,Y⟩,rfl⟩:=r;rw[repsI_iff.mp Y]at d;refine⟨a,e,rfl,d,b,λl U J g j=>k (h U g j) (.new J) ?_⟩;simp only[Rep];exact⟨l,_,rfl,(lv.fresh J).1,(lv.fresh J).2,ae,repsI_iff.mpr rfl⟩
end
section
variable[Frm]
omit [Frm] in
theorem lV{K:zvi}{pp:bo bb}{M:ai bb}{H:Hp}:∀{J:ai (ai Key×D)} {vs:ai V},Reps K pp M H (J.map λp=>.tup [keyD p.1,p.2]) vs->∃a:ai vW,a.map (·.1)=J.map (·.1)/\vs=a.map (λq=>V.ref q.2.2.2)/\(∀q∈a,H q.2.2.2=some (.tup [.ref q.2.1,q.2.2.1])/\H q.2.1=some (.tup (q.1.map kV)))/\Reps K pp M H (J.map (·.2)) (a.map λq=>q.2.2.1)
 |[],vs,h=>by simp only[zyj,Reps]at h;exact⟨[],rfl,h,λq U=>by simp at U,by simp only[zyj,Reps]⟩
 |p::J,vs,h=>by
  simp only[zzh,Reps]at h;obtain⟨v,r,rfl,d,s⟩:=h;obtain⟨a,e1,rfl,l,m⟩:=lV s;simp only[Rep]at d;obtain⟨b,ys,rfl,z,g⟩:=d;simp only[Reps]at g;obtain⟨x1,r1,rfl,Y,C,r2,rfl,j,rfl⟩:=g;simp only[keyD,Rep]at Y;obtain⟨c,zs,rfl,e,A⟩:=Y;rw[jh A]at e;refine⟨(p.1,c,C,b)::a,by rw[zzh,zzh,e1],rfl,λq U=>?_,?_⟩
  ·rcases zzr.mp U with rfl|U
   ·exact⟨z,e⟩
   ·exact l q U
  ·simp only[zzh,Reps];exact⟨_,_,rfl,j,m⟩
end
section
variable[Frm]
theorem pQ{K:zvi}{pp:bo bb}{M:ai bb}{H:Hp}:∀{a:ai (ai Key)} {bs:ai V},Reps K pp M H (a.map keyD) bs->Paired (pF H) a bs
 |[],bs,h=>by subst h;exact .nil
 |k::a,bs,h=>by obtain⟨x,r,rfl,b,d⟩:=h;exact .cons (gC b) (pQ d)
def yW:DSp:=λb P=>∃a:ai (ai Key),b=[.lst (a.map keyD)]/\(∀k∈a,rC k)/\(2<=a.length->∀k∈a,k≠[])/\a.length<64/\P (.lst ((srtK a).map keyD))
theorem uF:CallD X (.builtin "sorted") yW:=by refine⟨_,vX,λ{pp M H ds vs Q P} lv r h k=>?_⟩;obtain⟨g,rfl,b,c,d,h⟩:=h;obtain⟨x,t,rfl,⟨a,j,rfl,_,_,e,Y⟩,rfl⟩:=r;refine⟨a,g,j,rfl,e,pQ Y,b,c,d,λl bs J U=>k h (.new J) ?_⟩;exact⟨l,bs,rfl,(lv.fresh J).1,(lv.fresh J).2,ae,(jY U).mv (.new J)⟩
end
section
variable[Frm]
section
variable{x:Str}{p pos:Pos}{e:bN}{es:ai bN}{t:DA}{g:DSp}
theorem dv(i:Nat)(a:X.N[i]?=some x:=by rfl)(U:Vis X.env.scope x:=by first|exact Or.inl rfl|exact Or.inr (Or.inl rfl)|exact Or.inr (Or.inr rfl))(hd:(x==("__debug__" : Str))=false:=by decide)(J:(x==("__classdict__" : Str))=false:=by decide):PED X (.Name x pos) (dVar i):=HG i (pv i a U hd J)
theorem dcl{D:Dd X.K X.mg x s1 ps}(a:D.Ok X.prog X.w X.base CX0 k (spD X.K n g))(z:Room i X.A)(j:PAD X (e::es) t)(v:k<=i:=by decide)(l:Gl X x:=by rfl)(U:(x==("__debug__" : Str))=false:=by decide)(he:starEach (e::es) X.env=(false,eval e X.env)::starEach es X.env:=by rfl)(Y:(backTo pos (starEach es X.env)).any (·.1)=false:=by rfl) :
  PED X (.Call (.Name x p) (e::es) [] pos) (Bp n g t):=by
 obtain⟨T,C,G⟩:=j;refine⟨_,mK a (z.mono v) l D.d.m D.d.F.kp D.d.b .nil AK C U he Y,λrs q k=>G rs q λq m J E=>?_⟩;rw[zyb];exact⟨_,_,_,_,J.liv,E,q.1,q.2,λq s r=>k q (m.trans s.mv) (J.sameP s) r⟩
theorem dse(i:Nat)(h:PED X e te)(a:X.N.Nodup:=by assumption)(b:X.N[i]?=some x:=by rfl)(J:Loc X.env.scope x:=by first|exact Or.inl rfl|exact Or.inr rfl)(d:swapsWith e (some (.Name x q)) pos.line X.env=pure false:=by rfl)(hf:X.fn x=true∨X.env.scope.names.lookup x=some .local:=by first|exact .inl rfl|exact .inr rfl|assumption) :
  PSD X (.Assign [.Name x q] e pos) (dSet i te):=HJ a b J h d hf
theorem dow(i:Nat)(h:PLD X e t)(a:X.N.Nodup:=by assumption)(b:X.N[i]?=some x:=by rfl)(J:Loc X.env.scope x:=by first|exact Or.inl rfl|exact Or.inr rfl)(d:swapsWith e (some (.Name x q)) pos.line X.env=pure false:=by rfl)(hf:X.fn x=true∨X.env.scope.names.lookup x=some .local:=by first|exact .inl rfl|exact .inr rfl|assumption) :
  PSD X (.Assign [.Name x q] e pos) (dOwn i t):=HK a b J h d hf
theorem dgn(i:Nat)(a:X.N.Nodup:=by assumption)(b:X.N[i]?=some x:=by rfl)(J:Loc X.env.scope x:=by first|exact Or.inl rfl|exact Or.inr rfl)(hf:X.fn x=true∨X.env.scope.names.lookup x=some .local:=by first|exact .inl rfl|exact .inr rfl|assumption):PGD X (.Name x pos) (bX i):=yy a b J hf
theorem dgb{scope:Scope}{cl:ai (Str×bb)}{B:Blk}(i:Nat)(a:ps.Nodup:=by decide +kernel)(b:ps[i]?=some x:=by rfl)(J:Loc (cxB X scope cl ps B).env.scope x:=by first|exact Or.inl rfl|exact Or.inr rfl)(hf:(cxB X scope cl ps B).fn x=true∨(cxB X scope cl ps B).env.scope.names.lookup x=some .local:=by first|exact .inl rfl|exact .inr rfl|assumption):PGD (cxB X scope cl ps B) (.Name x pos) (bX i):=yy a b J hf
theorem dix{a b:bN}(d:PED X a ta)(j:PED X b te)(l:mL b:=by exact λ_ _=>rfl):PED X (.Subscript a b pos) (dOp gIx ta te):=Ku d j l
theorem fnd{P:bP}{K:zvi}{base:bz}{D:Dd K mg x s1 ps}{t:DTS}(N:ai Str)(j:∀{b:av} {A:Around} {a:ai Env} {s:bd} {H:Hp} {E:XK},Room k (A.deeper (envOfC x (ah s1) s.heap.objs.size D.f b))->N.Nodup -> @PSsD _ Frm.free (cxOf CX0 P w K mg base N x (ah s1) D.f b A a s H E).nox (ck s1) t)(J:∀ds Q,ds.length=ps.length->g ds Q->t {nx:=λ_=>Q .non,rt:=Q} (fL N.length ds))(S:FnScope N ps (ah s1):=by exact iY):D.Ok P w base CX0 (k+1) (spD K ps.length g):=fnD D.d.F S j J
theorem a1(i:Nat)(h:PED X (.Name x p) (dVar i):=by exact dv _):PAD X [.Name x p] (bD (dVar i) fQ):=aa h cB
theorem a2(i j:Nat)(h:PED X (.Name x p) (dVar i):=by exact dv _)(a:PAD X [.Name y q] (bD (dVar j) fQ):=by exact a1 _):PAD X [.Name x p,.Name y q] (bD (dVar i) (bD (dVar j) fQ)):=aa h a
theorem a3(i j k:Nat){z:Str}(h:PED X (.Name x p) (dVar i):=by exact dv _)(a:PAD X [.Name y q,.Name z r] (bD (dVar j) (bD (dVar k) fQ)):=by exact a2 _ _):PAD X [.Name x p,.Name y q,.Name z r] (bD (dVar i) (bD (dVar j) (bD (dVar k) fQ))):=aa h a
theorem da1(h:PED X e te)(a:starEach [e] X.env=(false,eval e X.env)::starEach [] X.env:=by rfl):PAD X [e] (bD te fQ):=aa h cB a
theorem dx(i:Nat){n j q}(h:PED X (.Name x p) (dVar i):=by exact dv _):PED X (.Subscript (.Name x p) (.Constant (.int n) j q) pos) (dOp gIx (dVar i) (dC (.int n))):=dix h ad
theorem dr(h:PED X e te):PSsD X [.Return (some e) pos] (dRet te):=ag (yx h)
theorem dif{a:ai Stmt}{b:DT}(j:PTD X c b)(d:PSsD X a u):PSD X (.If c a [] pos) (dIfS b u wd):=HI j d ET
theorem dir{a:DT}(b:PTD X c a)(h:PED X e te):PSD X (.If c [.Return (some e) p] [] pos) (dIfS a (dRet te) wd):=dif b (dr h)
theorem dnv:PSsD X [s1] yw:=ag Bs
theorem dln{g:DSp}(a:CallD X (.builtin "len") g)(b:X.mg "len" = none)(h:PED X e te)(he:starEach [e] X.env=(false,eval e X.env)::starEach [] X.env:=by rfl)(J:Gl X "len":=by rfl):PED X (.Call (.Name "len" p) [e] [] pos) (dCB g (bD te fQ)):=aC a b zwm (aa h cB he) J (he:=he)
theorem dgt{es:ai bN}{g:DGs}(n:Nat)(h:PGsD X es g)(a:X.calm=true:=by rfl)(b:(assignEach es X.env).length=n:=by rfl)(J:(assignEach es X.env).findIdx? (·.1)=none:=by rfl):PGD X (.Tuple es k pos) (Bu n g):=HL a h b J
theorem dg2(i j:Nat)(a:PGD X (.Name x p) (bX i):=by first|exact dgn _|exact dgb _)(b:PGD X (.Name y q) (bX j):=by first|exact dgn _|exact dgb _)(d:X.calm=true:=by rfl):PGD X (.Tuple [.Name x p,.Name y q] k pos) (Bu 2 (pH (bX i) (pH (bX j) EU))):=dgt 2 (cQ a (cQ b rL)) d
end
abbrev Iw(te:DE):DE:=λb Q=>te b λd a=>∃J:ai (ai Key×D),d=.lst (J.map λp=>.tup [keyD p.1,p.2])/\(J.map (·.1)).Nodup/\J.length<=1000/\Q (.dT (J.map (·.1)) (J.map (·.2))) a
theorem BK(i:Room n X.A)(G:X.calm=true)(I:Gl X "dict")(L:X.mg "dict" = none)(he:PED X c te)(j:starEach [c] X.env=(false,eval c X.env)::starEach [] X.env:=by rfl)(hp:(backTo pos (starEach [] X.env)).any (·.1)=false:=by rfl) :
  PED X (.Call (.Name "dict" p) [c] [] pos) (Iw te):=by
 obtain⟨T,x,y⟩:=he;have r:X.A.units+16<cLine:=by have:=i.units;lia
 refine⟨_,jz (he:=j) (vY r G) I L rfl (bh x cJ j),λ{F M H σ ρ Q P} rs h k=>y rs h λ{d ρ1 M1 g v} h u J s=>?_⟩;obtain⟨U,rfl,w,l,C⟩:=h;simp only[Rep]at s;obtain⟨a,vs,rfl,na,np,E,N⟩:=s;obtain⟨e,e1,rfl,Y,z⟩:=lV N;have el:e.length=U.length:=by have:=congrArg List.length e1;rwa [zza,zza]at this
 refine⟨a,e,rfl,E,Y,by rw[e1];exact w,by lia,λb m=>?_⟩;have s1:SameP X.K F.pp g (upd g b (.dT (e.map λq=>(q.1,q.2.2.1)))):=.new m;have fr:=J.liv.fresh m;refine k C (u.trans s1.mv) (J.sameP s1) ?_;simp only[Rep];refine⟨b,_,rfl,fr.1,fr.2,.inl ae,by rw[zzk,←e1];rfl,?_⟩;rw[zzk];exact z.mv s1.mv
end
end DL
namespace My
open PySem L2
variable{A hs s ws:ai Int}{L ks:ai (ai Int)}{N a b z:Int}{Q:D->Prop}{c1 l qs:ai Rat}{cT cg cz dM:Tok}{ds ys:ai D}{e x' y':D}{eF fa:bb}{g:ai Nat}{gs gs':ai (ai Nat)}{i k m n:Nat}{ls ls':ai (Rat×Rat)}{p q x y:Rat}{q':Nat->Rat}{te:DE}{u v:DTS}{xs:ai (bo Rat)}{α β:Type}
variable{n:Nat}{ms so hs pl:ai Int}{a b z c d:Int}{q:Rat}{cs:ai (ai Int)}
def top(i:Nat):Stmt:=PySem.Challenge.pw_othersum_k64_whole_called_otherwise.main.body.getD i (.Pass ⟨0,0,0,0⟩)
theorem eV{f:α->β}{l a b:ai α}(j:l=a++b)(r:l.map f=a.map f):l=a:=by have:=congrArg List.length r;rw[j]at this;simp at this;rw[j,this,zyb]
theorem dg{f:α->β}{l a b:ai α}{d:β}{p:ai β}(j:l=a++b)(e:l.map f=a.map f++d::p):∃x c,b=x::c/\d=f x:=by
 rw[j,zzs]at e;have e:=zzZ e;cases b with
 |nil=>simp at e|cons x c=>exact⟨x,c,rfl,by injection e with J;exact J.symm⟩
abbrev lW:Stmt:=top 40
theorem rX:FnScope ["many","pairs","found","kinds","counts","cells"] ["many","pairs"] (ah lW):=iY
abbrev lX:Stmt:=top 48
theorem rY:FnScope ["book","some"] ["book","some"] (ah lX):=iY
abbrev lY:Stmt:=top 50
theorem rZ:FnScope ["book","some"] ["book","some"] (ah lY):=iY
abbrev CW:Stmt:=top 56
theorem Ft:FnScope ["table","a","b"] ["table","a","b"] (ah CW):=iY
abbrev yX:Stmt:=top 82
theorem BL:FnScope ["table","a","b","greatest","moved","share","corners","low","weight"] ["table","a","b"] (ah yX):=iY
abbrev yY:Stmt:=top 83
theorem sc_level:FnScope ["table","a","b","corners","ends","due","place","bar","rest","least","weights"] ["table","a","b"] (ah yY):=iY
abbrev uG:Stmt:=top 85
theorem yZ:FnScope ["shares","bottom"] ["shares"] (ah uG):=iY
abbrev fM:Stmt:=top 86
theorem kf:FnScope ["table","a","b","bar","rest","told","weight","share","taken"] ["table","a","b","bar","rest"] (ah fM):=iY
abbrev lZ:Stmt:=top 102
theorem se:FnScope ["_law_script"] ["_law_script"] (ah lZ):=iY
abbrev kg:Stmt:=top 103
theorem sc__law_next:FnScope ["_law_pen_here","_law_many","_law_script","_law_turn","_law_left","_law_cell","_law_number"] ["_law_pen_here","_law_many"] (ah kg):=iY
abbrev Ix:Stmt:=top 110
theorem sc_law:FnScope ["_law_script","_law_pen_here","_law_many","_law_marks","_law_rows_here","_law_houses","_law_places","_law_called","_law_other_marks","_law_mark","_law_kinds","_law_book","_law_other","_law_some","_law_table","_law_beyond","_law_a","_law_b","_law_due"] ["_law_script"] (ah Ix):=iY
set_option genInjectivity false in
set_option genSizeOf false in
structure Ta(K:zvi)(mg:Str->Option Value) where
 gS:Dd K mg "greatest_divisor" (top 9) ["one","other"]
 wV:Dd K mg "ratio_of" (top 10) ["top","bottom"]
 JB:Dd K mg "plus" (top 11) ["one","other"]
 Gq:Dd K mg "minus" (top 12) ["one","other"]
 Go:Dd K mg "times" (top 13) ["one","other"]
 JC:Dd K mg "over" (top 14) ["one","other"]
 JH:Dd K mg "less" (top 15) ["one","other"]
 sY:Dd K mg "total" (top 16) ["ratios"]
 Cw:Dd K mg "lesser" (top 17) ["one","other"]
 lh:Dd K mg "common_bottom" (top 18) ["ratios"]
 wW:Dd K mg "top_over" (top 19) ["ratio","bottom"]
 xf:Dd K mg "is_whole" (top 21) ["thing"]
 tI:Dd K mg "is_within" (top 22) ["thing","least","most"]
 wX:Dd K mg "is_count" (top 23) ["thing"]
 xg:Dd K mg "together" (top 24) ["counts"]
 fY:Dd K mg "together_by_house" (top 25) ["many","rows"]
 xh:Dd K mg "share_of" (top 26) ["count"]
 JJ:Dd K mg "said" (top 27) ["one","other"]
 oE:Dd K mg "check_house" (top 29) ["many","house"]
 qI:Dd K mg "check_pair" (top 30) ["many","a","b"]
 tt:Dd K mg "houses_of" (top 31) ["table"]
 Av:Dd K mg "book_of" (top 39) ["many","marks","rows"]
 cY:Dd K mg "gathered" lW ["many","pairs"]
 wY:Dd K mg "is_tried" (top 41) ["counts"]
 kZ:Dd K mg "counts_of_row" (top 42) ["row","many"]
 tM:Dd K mg "are_marks" (top 43) ["marks"]
 xj:Dd K mg "are_rows" (top 44) ["rows","many","marks"]
 Cu:Dd K mg "is_row" (top 45) ["row","many","marks"]
 tD:Dd K mg "are_kinds" (top 46) ["kinds","marks"]
 iE:Dd K mg "parts_by" lX ["book","some"]
 xc:Dd K mg "whole_of" (top 49) ["book"]
 iC:Dd K mg "table_by" lY ["book","some"]
 tF:Dd K mg "values_by" (top 51) ["kinds","some"]
 qL:Dd K mg "check_mark" (top 52) ["book","mark"]
 oI:Dd K mg "check_marks" (top 53) ["book","some"]
 An:Dd K mg "sums_of" (top 55) ["table"]
 Al:Dd K mg "says" CW ["table","a","b"]
 Ap:Dd K mg "turning" (top 57) ["table","a","b"]
 jd:Dd K mg "turned_or_kept" (top 58) ["number","whole"]
 tJ:Dd K mg "turned_by" (top 60) ["book","a","b"]
 Aj:Dd K mg "choices" (top 61) ["many"]
 Cy:Dd K mg "longer" (top 62) ["tuples","many"]
 Gn:Dd K mg "ranks" (top 63) ["counts"]
 qK:Dd K mg "weights_of" (top 65) ["table","house"]
 Ak:Dd K mg "ends_of" (top 66) ["table","house"]
 oK:Dd K mg "whole_count" (top 67) ["table","house"]
 sZ:Dd K mg "whole_gap" (top 68) ["table","a","b"]
 tH:Dd K mg "shares_in" (top 69) ["table","house"]
 qJ:Dd K mg "ends_among" (top 70) ["ratios"]
 CA:Dd K mg "uneven" (top 72) ["table","a","b"]
 Gm:Dd K mg "apart" (top 73) ["table","house"]
 Gr:Dd K mg "leads" (top 74) ["table","a","b"]
 Le:Dd K mg "gap" (top 75) ["table","a","b"]
 gQ:Dd K mg "check_same_parts" (top 76) ["table","a","b"]
 JE:Dd K mg "push" (top 78) ["table","a","b"]
 lg:Dd K mg "push_to_level" (top 79) ["lead","reach"]
 oJ:Dd K mg "mixed_share" (top 80) ["table","house","weights"]
 tE:Dd K mg "reach" yX ["table","a","b"]
 Gk:Dd K mg "level" yY ["table","a","b"]
 Cv:Dd K mg "levels" (top 84) ["table","a","b"]
 jr:Dd K mg "rising" uG ["shares"]
 bJ:Dd K mg "weights_left" fM ["table","a","b","bar","rest"]
 CC:Dd K mg "firsts" (top 88) ["table","weights","others"]
 je:Dd K mg "check_standard" (top 89) ["table","weights"]
 qE:Dd K mg "as_weights" (top 90) ["weights"]
 oH:Dd K mg "check_tried" (top 91) ["table","houses","weights","others"]
 Au:Dd K mg "line_of" (top 92) ["table","house","weights","others"]
 tK:Dd K mg "stretches" (top 93) ["lines"]
 tG:Dd K mg "houses_on" (top 94) ["lines","line"]
 qD:Dd K mg "first_line" (top 95) ["lines"]
 tN:Dd K mg "next_step" (top 96) ["lines","line"]
 xa:Dd K mg "is_ahead" (top 97) ["step","other"]
 wZ:Dd K mg "standard" (top 99) ["table","weights"]
 jc:Dd K mg "standard_share" (top 100) ["table","house","weights"]
 eG:Dd K mg "_law_pen" lZ ["_law_script"]
 fZ:Dd K mg "_law_next" kg ["_law_pen_here","_law_many"]
 qF:Dd K mg "_law_order" (top 104) ["_law_pen_here","_law_size"]
 tq:Dd K mg "_law_rows" (top 105) ["_law_pen_here","_law_many","_law_marks"]
 gT:Dd K mg "_law_turned_rows" (top 106) ["_law_rows_here","_law_houses","_law_places","_law_called","_law_by"]
 oB:Dd K mg "_law_tables" (top 107) ["_law_book","_law_other","_law_some","_law_places","_law_called"]
 gR:Dd K mg "_law_pairs_right" (top 108) ["_law_table","_law_beyond","_law_houses","_law_a","_law_b"]
 iD:Dd K mg "_law_ways_right" (top 109) ["_law_pen_here","_law_table","_law_beyond","_law_houses"]
 Am:Dd K mg "law" Ix ["_law_script"]
 DR:mg "ValueError" = none
 Li:mg "abs" = none
 CB:mg "sum" = none
 bj:mg "tuple" = none
 bO:mg "len" = none
 Lf:mg "any" = none
 Cz:mg "all" = none
 aZ:mg "enumerate" = none
 xb:mg "zip" = none
 eT:mg "sorted" = none
 vH:mg "list" = none
 dm:mg "range" = none
 JD:mg "dict" = none
 aW:mg "isinstance" = none
 Lh:mg "int" = none
 JF:mg "bool" = none
 Lg:mg "set" = none
set_option genInjectivity false in
structure Tx[DL.TB](K:zvi)(mg:Str->Option Value) extends Ta K mg where
 cg:Tok
 ld:mg "LEAST_HOUSES" = some (.int 2 cg)
 cz:Tok
 lC:mg "MOST_HOUSES" = some (.int 6 cz)
 cT:Tok
 oD:mg "MOST_MARKS" = some (.int 5 cT)
 dM:Tok
 qH:mg "MOST_ROWS" = some (.int 60 dM)
 cV:Tok
 oF:mg "MOST_KINDS" = some (.int 6 cV)
 cU:Tok
 oG:mg "MOST_TRIED" = some (.int 1000000000000 cU)
 eF:∃c P,jr.fd.code=.ref c/\PySem.W.codeHdIn K c P=true/\DL.TB.tb.lookup P=some ("rising.<locals>.<lambda>" : Str)
open DL
section
variable{P:bP}{w:World}{K:zvi}{mg:Str->bo av}{base:bz}[DL.TB]
theorem sf(T:Tx K mg):T.eG.Ok P w base CX0 1 (CH K):=by
 refine T.eG.d.F.ok se (λr H Q E h=>?_) (λcdv A outer s H r Q E hr h=>?_)
 ·obtain⟨a,j,rfl,_⟩:=h;rfl
 ·obtain⟨a,j,rfl,hs,k⟩:=h;refine⟨_,(eJ (jv (xy (bh (pv 0) (bh bC (bh bC cJ)))))),?_⟩;refine⟨_,rfl,(by show (3:Nat)<=sizeLine;decide),λp J=>?_⟩;refine k p _ J ⟨ae,?_,zyu 0⟩ (tW J);rcases hs with ⟨o,e⟩|e
  ·exact .inl ⟨o,cG J e⟩
  ·exact .inr e
theorem pR(T:Tx K mg):T.fZ.Ok P w base CX0 1 (xP K):=by
 refine T.fZ.d.F.ok sc__law_next (λM H Q E h=>?_) (λcdv A outer s H M Q E hr h=>?_)
 ·obtain⟨p,a,C,t,l,m,rfl,_⟩:=h;rfl
 ·obtain⟨p,a,C,t,l,m,rfl,pen,m1,m2,k⟩:=h;refine⟨_,(bn (oN (pv 0) (Hs rfl (jf (mJ (i:=2) sc__law_next.nd rfl (Or.inl rfl)) (jf (mJ (i:=3) sc__law_next.nd rfl (Or.inl rfl)) (jf (mJ (i:=4) sc__law_next.nd rfl (Or.inl rfl)) xq)))))
   (bn (Ay (jy JV (pv 4) bC (lF _)) (bn (oN (db jw (pv 3) bC) (xr (pv 0) bC mO))
   (bn (Ay (PW.pt (GC (jy GS (pv 3) (gb cA rfl T.bO zwm (bh (pv 2) cJ)) (lF _)) (CD (jy GQ (xE mM (pv 2) (pv 3) (λ_ _=>rfl)) (db GN bC bC) (lF _))))) (bn (fH (i:=5) sc__law_next.nd rfl (Or.inl rfl) bC)
   (bn (Ay (jy GR (gb cA rfl T.bO zwm (bh (pv 2) cJ)) bC (lF _)) (eJ (fH (i:=5) sc__law_next.nd rfl (Or.inl rfl) (db jx (xE mM (pv 2) (db jx (pv 3) (gb cA rfl T.bO zwm (bh (pv 2) cJ))) (λ_ _=>rfl)) bC))) mI)
   (bn (fH (i:=6) sc__law_next.nd rfl (Or.inl rfl) (db jx (db hU (db jw (db jw (pv 5) (db hU bC (pv 3))) bC) bC) bC))
   (bn (fH (i:=6) sc__law_next.nd rfl (Or.inl rfl) (db jx (db jw (db jw (db hU (pv 6) (pv 6)) (db hU bC (pv 3))) bC) bC))
   (eJ (jv (db jx (db mV (db jx (db hU (pv 6) (db jw (pv 6) bC)) bC) bC) (pv 1)))))))) mI)
   (eJ (fH (i:=4) sc__law_next.nd rfl (Or.inl rfl) (xE mM (pv 2) (pv 3) (λ_ _=>rfl)))))) mI)
   (bn (oN (db mV (pv 4) (pv 1)) (xr (pv 0) bC mO))
   (eJ (jv (db jx (pv 4) (pv 1))))))),?_⟩
  have U:=pen.t0;have j:(0:Int)<m:=by lia
  refine⟨_,rfl,p,_,rfl,pen.lst,rfl,_,_,rfl,_,_,rfl,_,_,rfl,rfl,?_⟩;refine⟨_,rfl,rfl,_,rfl,?_⟩;refine ite2 (λY=>?_) (λY=>?_)
  ·
   refine⟨_,rfl,_,_,rfl,rfl,_,rfl,p,_,1,1,rfl,rfl,pen.lst,rfl,?_⟩;have J:Pen K (upd H p (.lst [.ref a,.int (t+1),.int l])) p a C (t+1) l:=pen.put (by lia);have sq:=J.scr.sq;refine⟨_,rfl,_,rfl,a,_,rfl,.inl sq,_,_,rfl,rfl,_,rfl,?_⟩;refine ite2 (λr=>iteT ?_) (λr=>⟨_,rfl,_,rfl,a,_,t,_,rfl,rfl,sq,xN U (by simp only[zyr,zza]at r;lia),_,_,rfl,rfl,⟨by decide,by decide,by decide⟩,_,_,rfl,rfl,_,rfl,ite2 (λI=>?_) (λI=>?_)⟩)
   rotate_left 2
   ·
    simp only[zyr,zza]at r;refine⟨_,rfl,_,rfl,a,_,t,_,rfl,rfl,sq,xN U (by lia),?_⟩;refine⟨_,rfl,_,rfl,_,_,rfl,rfl,⟨j,xQ (by lia) (by lia)⟩,_,rfl,p,_,2,2,rfl,rfl,J.lst,rfl,?_⟩;refine⟨_,rfl,_,rfl,_,_,rfl,rfl,j,?_⟩;exact k _ (t+1) _ _ (zxK _ (by lia)) (zxr _ j) (J.put (by lia)) (SBut.upd.trans SBut.upd)
   all_goals
    refine⟨_,rfl,a,_,rfl,.inl sq,_,_,rfl,rfl,_,rfl,?_⟩;refine ite2 (λG=>?_) (λG=>?_)
    ·simp only[zyr,zza]at G;refine⟨_,rfl,_,rfl,_,rfl,a,_,rfl,.inl sq,_,_,rfl,rfl,(by show (0:Int)<((C.map V.int).length:Int);rw[zza];lia),a,_,_,_,rfl,rfl,sq,xN (by rw[zza];exact zxK _ (by lia)) (by rw[zza];exact zxr _ (by lia)),_,_,rfl,rfl,mpos,?_⟩;refine⟨_,rfl,_,rfl,_,_,rfl,rfl,AM,_,_,rfl,rfl,_,_,rfl,rfl,_,_,rfl,rfl,AN,_,_,rfl,rfl,mpos,?_⟩;refine⟨_,rfl,_,rfl,_,_,rfl,rfl,mW (by decide) (by decide),_,rfl,_,_,rfl,rfl,AM,_,_,rfl,rfl,_,_,rfl,rfl,_,_,rfl,rfl,mpos,?_⟩;refine⟨_,rfl,_,rfl,_,_,rfl,rfl,_,_,rfl,rfl,mW (by decide) (by decide),_,_,rfl,rfl,mpos,_,_,rfl,rfl,⟨by decide,jG (by decide) (by decide)⟩,_,rfl,_,_,rfl,rfl,j,?_⟩;exact k _ (t+1) _ _ (zxK _ (by lia)) (zxr _ j) J SBut.upd
    ·refine⟨_,rfl,_,rfl,_,_,rfl,rfl,AM,_,_,rfl,rfl,_,_,rfl,rfl,_,_,rfl,rfl,AN,_,_,rfl,rfl,mpos,?_⟩;refine⟨_,rfl,_,rfl,_,_,rfl,rfl,mW (by decide) (by decide),_,rfl,_,_,rfl,rfl,AM,_,_,rfl,rfl,_,_,rfl,rfl,_,_,rfl,rfl,mpos,?_⟩;refine⟨_,rfl,_,rfl,_,_,rfl,rfl,_,_,rfl,rfl,mW (by decide) (by decide),_,_,rfl,rfl,mpos,_,_,rfl,rfl,⟨by decide,jG (by decide) (by decide)⟩,_,rfl,_,_,rfl,rfl,j,?_⟩;exact k _ (t+1) _ _ (zxK _ (by lia)) (zxr _ j) J SBut.upd
  ·
   refine⟨_,rfl,_,rfl,_,_,rfl,rfl,⟨j,xQ (by lia) (by lia)⟩,_,rfl,p,_,2,2,rfl,rfl,pen.lst,rfl,?_⟩;refine⟨_,rfl,_,rfl,_,_,rfl,rfl,j,?_⟩;exact k _ t _ _ (zxK _ (by lia)) (zxr _ j) (pen.put U) SBut.upd
theorem aD(T:Tx K mg):T.fZ.Ok P w base CX0 1 (spD K 2 EZ):=Fa (pR T)
def muG(ρ:DS):Nat:=match slot ρ 1 with
 |.val (.int y)=>y.natAbs|_=>0
theorem dD(T:Tx K mg):T.gS.Ok P w base CX0 1 (spD K 2 gGcd):=by
 refine fnd ["one","other","rest"] (λY _=>(aw (gu (aj (fF Y) (dv 1) ad) (ac (dse 2 (aP EV (dv 0) (dv 1))) (ac (dse 0 (dv 1)) (ag (dse 1 (dv 2)))))) (dr (aC HQ T.Li rfl (a1 0))))) (λds Q hl h=>?_);unfold gGcd at h;split at h
 case h_2=>exact h.elim
 rename_i a b;refine⟨λj=>∃(x:Int) (s:Sl),j=[.val (.int x),.val (.int 0),s]/\Int.gcd x 0=Int.gcd a b,?_,?_⟩
 ·refine eu (λj=>∃(x y:Int) (s:Sl),j=[.val (.int x),.val (.int y),s]/\Int.gcd x y=Int.gcd a b) muG (λj X r U=>?_) _ ⟨a,b,_,rfl,rfl⟩;obtain⟨x,y,s,rfl,e⟩:=r;refine⟨⟨rfl,rfl⟩,λJ=>?_,λJ=>?_⟩
  ·have J:y≠0:=by simpa[aG]using J
   exact⟨J,U _ ⟨y,x.fmod y,_,rfl,by rw[Ra.gcd_step J,e]⟩ (Ra.fmod_less J)⟩
  ·have J:y=0:=by simpa[aG]using J
   subst J;exact⟨x,s,rfl,e⟩
 ·rintro _ ⟨x,s,rfl,e⟩;show Q (.int (if x<0 then -x else x));rw[Ra.gcd_zero,e];exact h
theorem bS(T:Tx K mg):T.wV.Ok P w base CX0 2 (spD K 2 CQ):=by
 refine fnd ["top","bottom","divisor"] (λY _=>(ac (dif (aj (bZ Y) (dv 1) ad) dnv) (ac (dse 2 (dcl (dD T) Y (a2 0 1))) (aw (dif (aj EW (dv 1) ad) (ag (dse 2 (yC pK (dv 2))))) (dr (ay (aa (aP uv (dv 0) (dv 2)) (da1 (aP uv (dv 1) (dv 2)))))))))) (λds Q hl h=>?_);unfold CQ at h;split at h
 case h_2=>exact h.elim
 rename_i a b;obtain⟨⟨j,ba,r⟩,h⟩:=h;refine⟨⟨rfl,rfl⟩,λe=>?_,λ_=>?_⟩
 ·exact j (by simpa[aG]using e)
 refine⟨rfl,?_⟩;refine⟨λC=>∃d:Int,d=(if b<0 then -((Int.gcd a b:Nat):Int) else((Int.gcd a b:Nat):Int))/\C=[.val (.int a),.val (.int b),.val (.int d)],⟨λe=>?_,λe=>?_⟩,?_⟩
 ·have e:b<0:=by simpa using e
  exact⟨_,by rw[zzi e],rfl⟩
 ·have e:¬b<0:=by simpa using e
  exact⟨_,by rw[zzg e],rfl⟩
 ·rintro _ ⟨d,hd,rfl⟩;have hg:0<Int.gcd a b:=zxo a j;have hgb:Int.gcd a b<=b.natAbs:=zvg (zwX.mpr j) (Int.gcd_dvd_natAbs_right a b);have J:d≠0:=by rw[hd];split<;>lia
  have U:Big d:=(r.le (by rw[hd];split<;>lia)).big (by decide);exact⟨⟨J,U⟩,⟨J,U⟩,sz,h _ _ (Ra.low_of j hd)⟩
theorem ce(T:Tx K mg):T.Gq.Ok P w base CX0 3 (spD K 2 yH):=by
 refine fnd ["one","other"] (λC _=>(dr (dcl (bS T) C (aa (aP pI (aP cj (dx 0) (dx 1)) (aP cj (dx 1) (dx 0))) (da1 (aP cj (dx 0) (dx 1))))))) (λds Q hl h=>?_);unfold yH gRR at h;split at h
 case h_2=>exact h.elim
 obtain⟨⟨r,j,J,Y,U⟩,h⟩:=h;exact⟨j.cmul U,Y.cmul J,J.cmul U,rfl,⟨r,((j.mul U).sub (Y.mul J)).mono (by decide),(J.mul U).mono (by decide)⟩,h⟩
theorem sg(T:Tx K mg):T.Go.Ok P w base CX0 3 (spD K 2 yI):=by
 refine fnd ["one","other"] (λC _=>(dr (dcl (bS T) C (aa (aP cj (dx 0) (dx 1)) (da1 (aP cj (dx 0) (dx 1))))))) (λds Q hl h=>?_);unfold yI gRR at h;split at h
 case h_2=>exact h.elim
 rename_i a b c d;obtain⟨⟨r,j,J,U,Y⟩,h⟩:=h;exact⟨j.cmul U,J.cmul Y,rfl,⟨r,(j.mul U).mono (by decide),(J.mul Y).mono (by decide)⟩,h⟩
theorem za(T:Tx K mg):T.JC.Ok P w base CX0 3 (spD K 2 Fc):=by
 refine fnd ["one","other"] (λC _=>(dr (dcl (bS T) C (aa (aP cj (dx 0) (dx 1)) (da1 (aP cj (dx 0) (dx 1))))))) (λds Q hl h=>?_);unfold Fc gRR at h;split at h
 case h_2=>exact h.elim
 obtain⟨⟨r,j,J,U,Y⟩,h⟩:=h;exact⟨j.cmul Y,J.cmul U,rfl,⟨r,(j.mul Y).mono (by decide),(J.mul U).mono (by decide)⟩,h⟩
theorem cL(T:Tx K mg):T.JH.Ok P w base CX0 1 (spD K 2 Fd):=by
 refine fnd ["one","other"] (λhr _=>(dr (jQ EW (aP cj (dx 0) (dx 1)) (aP cj (dx 1) (dx 0))))) (λds Q hl h=>?_);unfold Fd at h;split at h
 case h_2=>exact h.elim
 obtain⟨⟨j,J,U,Y⟩,h⟩:=h;exact⟨j.cmul Y,U.cmul J,h⟩
def Iy:D->Bool
 |.int _=>true|_=>false
def gW:DSp:=λds Q=>match ds with
 |[d]=>yD d=true/\Q (.bl (Iy d))|_=>False
theorem fC(T:Tx K mg):T.xf.Ok P w base CX0 1 (spD K 1 gW):=by
 refine fnd ["thing"] (λhr _=>(dr (ur (aC yE T.aW rfl (aa (dv 0) (da1 (lu rfl T.Lh rfl)))) (uq (HH (aC we T.aW rfl (aa (dv 0) (da1 (lu rfl T.JF rfl))))))))) (λds Q hl h=>?_);unfold gW at h;split at h
 case h_2=>exact h.elim
 rename_i d;obtain⟨j,h⟩:=h;refine⟨rfl,j,?_⟩;cases d with
 |int i=>exact Br.t ⟨rfl,j,h⟩|bl i=>exact Br.t ⟨rfl,j,h⟩|_=>exact Br.f h
def bi(c:Int×Int):D:=.tup [.int c.1,.int c.2]
def gTog:DSp:=λds Q=>match ds with
 |[.lst xs]=>∃cs:ai (Int×Int),xs=cs.map bi/\cs.length<=1000/\Q (.tup [.int (cs.map (·.1)).sum,.int (cs.map (·.2)).sum])|[.tup xs]=>∃cs:ai (Int×Int),xs=cs.map bi/\cs.length<=1000/\Q (.tup [.int (cs.map (·.1)).sum,.int (cs.map (·.2)).sum])|_=>False
theorem KL{cs:ai (Int×Int)}{s:Sl}{Q:ai D->Prop}(C:cs.length<=1000)(U:Q ((cs.map (·.1)).map D.int)):cq (bX 0) bF (dOp gIx (dVar 0) (dC (.int 0))) (cs.map bi) [] [s] Q:=by refine cr (D.int ∘ (·.1)) (λj=>∃s,j=[s]) (zzo C (by decide)) (λc _ j Y Z r J=>?_) _ ⟨_,rfl⟩ (by rw[←zzk];exact U);obtain⟨s,rfl⟩:=r;exact Br.t (J _ ⟨_,rfl⟩)
theorem KM{cs:ai (Int×Int)}{s:Sl}{Q:ai D->Prop}(C:cs.length<=1000)(U:Q ((cs.map (·.2)).map D.int)):cq (bX 0) bF (dOp gIx (dVar 0) (dC (.int 1))) (cs.map bi) [] [s] Q:=by refine cr (D.int ∘ (·.2)) (λj=>∃s,j=[s]) (zzo C (by decide)) (λc _ j Y Z r J=>?_) _ ⟨_,rfl⟩ (by rw[←zzk];exact U);obtain⟨s,rfl⟩:=r;exact Br.t (J _ ⟨_,rfl⟩)
theorem wu(T:Tx K mg):T.xg.Ok P w base CX0 1 (spD K 1 gTog):=by
 refine fnd ["counts","tried","well"] (λhr _=>(ac (dse 1 (aC uy T.CB PyProof.Rows.boot_sum (da1 (dfc (ao ["count"] [none] rfl (yL (dv 0)) (dgb 0) au (dx 0)))))) (ac (dse 2 (aC uy T.CB PyProof.Rows.boot_sum (da1 (dfc (ao ["count"] [none] rfl (yL (dv 0)) (dgb 0) au (dx 0)))))) (dr (ay (a2 1 2)))))) (λds Q hl h=>?_);unfold gTog at h;split at h
 case h_3=>exact h.elim
 all_goals
  obtain⟨cs,rfl,j,h⟩:=h;refine KL j (nD ?_);refine KM j (nD ?_);exact⟨sz,h⟩
def pU:DSp:=λds Q=>match ds with
 |[.tup [.int t,.int w]]=>(Bd 7000 t/\Bd 7000 w)/\(t=0->Q .non)/\(t≠0->∀x y,Ra.Low w t x y->Q (.tup [.int x,.int y]))|_=>False
theorem eC(T:Tx K mg):T.xh.Ok P w base CX0 3 (spD K 1 pU):=by
 refine fnd ["count"] (λJ _=>(ac (dir (aj (bZ J) (dx 0) ad) dX) (dr (dcl (bS T) J (aa (dx 0) (da1 (dx 0))))))) (λds Q hl h=>?_);unfold pU at h;split at h
 case h_2=>exact h.elim
 rename_i t w;obtain⟨⟨j,U⟩,h0,r⟩:=h;refine⟨⟨rfl,rfl⟩,λe=>?_,λe=>?_⟩
 ·exact h0 (by simpa[aG]using e)
 ·have e:t≠0:=by simpa[aG]using e
  exact⟨rfl,⟨e,U,j⟩,r e⟩
def cC(t w t' J:Int):D:=if t=0∨t'=0 then .non else if t*J<w*t' then .int 1 else if w*t'<t*J then .int (-1) else .int 0
def wv:DSp:=λds Q=>match ds with
 |[.tup [.int t,.int w],.tup [.int j,.int J]]=>(Bd 7000 t/\Bd 7000 w/\Bd 7000 j/\Bd 7000 J)/\Q (cC t w j J)|_=>False
theorem pV(T:Tx K mg):T.JJ.Ok P w base CX0 1 (spD K 2 wv):=by
 refine fnd ["one","other","first","second"] (λY _=>(ac (dir (PWD.pt (io (aj (bZ Y) (dx 0) ad) (dY (aj (bZ Y) (dx 1) ad)))) dX) (ac (dse 2 (aP cj (dx 0) (dx 1))) (ac (dse 3 (aP cj (dx 1) (dx 0))) (ac (dir (aj iq (dv 2) (dv 3)) ad) (ac (dir (aj EW (dv 2) (dv 3)) (yC pK ad)) (dr ad))))))) (λds Q hl h=>?_);unfold wv at h;split at h
 case h_2=>exact h.elim
 rename_i t w t' J;obtain⟨⟨r,C,E,G⟩,h⟩:=h;unfold cC at h;refine⟨⟨rfl,rfl⟩,λe=>Br.t ?_,λe=>⟨⟨rfl,rfl⟩,λU=>?_,λU=>?_⟩⟩
 ·have e:t=0:=by simpa[aG]using e
  rw[zzi (.inl e)]at h;exact h
 ·have U:t'=0:=by simpa[aG]using U
  rw[zzi (.inr U)]at h;exact h
 ·have e:t≠0:=by simpa[aG]using e
  have U:t'≠0:=by simpa[aG]using U
  rw[zzg (by simp[e,U])]at h;refine⟨C.cmul E,G.cmul r,⟨λc=>?_,λc=>⟨λj=>?_,λj=>?_⟩⟩⟩
  ·have c:J*t<w*t':=by simpa using c
   rw[zzi (by rw[zyX t J];exact c)]at h;exact h
  ·have c:¬J*t<w*t':=by simpa using c
   have j:w*t'<J*t:=by simpa using j
   rw[zzg (by rw[zyX t J];exact c),zzi (by rw[zyX t J];exact j)]at h;exact h
  ·have c:¬J*t<w*t':=by simpa using c
   have j:¬w*t'<J*t:=by simpa using j
   rw[zzg (by rw[zyX t J];exact c),zzg (by rw[zyX t J];exact j)]at h;exact h
structure Cnt(n:Nat)(t w:Int):Prop where
 lo:0 <= w
 hi:w <= t
 bt:Bd n t
 bw:Bd n w
theorem Cnt.mono{m n:Nat}{t w:Int}(h:Cnt m t w)(l:m<=n):Cnt n t w:=⟨h.lo,h.hi,h.bt.mono l,h.bw.mono l⟩
theorem pW{t w:Int}(lo:0<=w)(j:w<=t)(b:Bd n t):Cnt n t w:=⟨lo,j,b,b.le (by lia)⟩
abbrev Row:=ai (Int×Int)
variable{ps:ai (ai Int×Row)}{t':ai Row}
def rowD(r:Row):D:=.tup (r.map bi)
def RowN(n m:Nat)(r:Row):Prop:=r.length=m/\∀c∈r,Cnt n c.1 c.2
abbrev wx(m:Nat)(r:Row):Prop:=RowN 200 m r
theorem RowN.up{r:Row}(o:RowN n m r)(h:n<=200:=by decide):wx m r:=⟨o.1,λc j=>(o.2 c j).mono h⟩
structure Tbl(m:Nat)(t:List Row):Prop where
 m2:2 <= m
 m6:m <= 6
 p1:1 <= t.length
 p60:t.length <= 100
 rows:∀r∈t,wx m r
def at_(r:Row)(h:Nat):Int×Int:=r.getD h (0,0)
def col(t:ai Row)(h:Nat):ai (Int×Int):=t.map λr=>at_ r h
def sumP(cs:ai (Int×Int)):Int×Int:=((cs.map (·.1)).sum,(cs.map (·.2)).sum)
def sums(t:ai Row)(m:Nat):Row:=(List.range m).map λh=>sumP (col t h)
theorem cD{r:Row}(o:RowN n m r){h:Nat}(J:h<m):r[h]?=some (at_ r h)/\Cnt n (at_ r h).1 (at_ r h).2:=by
 have U:h<r.length:=by rw[o.1];exact J
 have e:r[h]?=some (at_ r h):=by unfold at_;simp[U]
 exact⟨e,o.2 _ (zzD e)⟩
theorem dh{r:Row}(o:RowN n m r){h:Int}(h0:0<=h)(h1:h<m)(q:Q (bi (at_ r h.toNat))):opt (atI (r.map bi) h) Q:=by refine bR h0 ?_ q;rw[zzl,(cD o (by lia)).1];rfl
def Iz:DSp:=λds Q=>match ds with
 |[.int x,.int lo,.int j]=>(lo<=x/\x<=j)/\Q (.bl true)|_=>False
theorem cu(T:Tx K mg):T.tI.Ok P w base CX0 2 (spD K 3 Iz):=by
 refine fnd ["thing","least","most"] (λJ _=>(dr (ur (dcl (fC T) J (a1 0)) (uq (ut yA yA (dv 1) (dv 0) (dv 2)))))) (λds Q hl h=>?_);unfold Iz at h;split at h
 case h_2=>exact h.elim
 rename_i x lo E;obtain⟨⟨r,C⟩,h⟩:=h;have j:Q (.bl (decide (x<=E))):=by rw[zzJ C];exact h
 exact⟨rfl,rfl,Br.t (Br.dt r j)⟩
def gChH:DSp:=λds Q=>match ds with
 |[.int m,.int h]=>(0<=h/\h<m)/\Q .non|_=>False
theorem eO(T:Tx K mg):T.oE.Ok P w base CX0 3 (spD K 2 gChH):=by
 refine fnd ["many","house"] (λJ _=>(ag (dif (bG (aE (dcl (cu T) J (aa (dv 1) (aa ad (da1 (aP pI (dv 0) ad))))))) dnv))) (λds Q hl h=>?_);unfold gChH at h;split at h
 case h_2=>exact h.elim
 obtain⟨⟨j,h2⟩,h⟩:=h;exact⟨rfl,⟨j,by lia⟩,Br.f h⟩
def gHs:DSp:=λds Q=>match ds with
 |[.lst (.tup xs::_)]=>Q (.int xs.length)|_=>False
theorem bA(T:Tx K mg):T.tt.Ok P w base CX0 1 (spD K 1 gHs):=by
 refine fnd ["table"] (λhr _=>(dr (dln aV T.bO (dx 0)))) (λds Q hl h=>?_);unfold gHs at h;split at h
 case h_2=>exact h.elim
 exact bR (zyu 0) rfl h
theorem bT{t:ai Row}(o:Tbl m t)(q:Q (.int m)):gHs [.lst (t.map rowD)] Q:=by
 cases t with
 |nil=>have:=o.p1;simp at this|cons r rest =>
  have:=(o.rows r zzd).1;show Q (.int ((r.map bi).length:Nat));rw[zza,this];exact q
theorem BM{t:ai Row}(M:∀r∈t,wx m r)(I:t.length<=1000){h:Int}(h0:0<=h)(H:h<m){s:Sl}{Q:ai D->Prop}(q:Q ((col t h.toNat).map bi)) :
  cq (bX 0) bF (dOp gIx (dVar 0) (dVar 1)) (t.map rowD) [] [s,.val (.int h)] Q:=by
 refine aA (λpre J E=>∃j t1:ai Row,t=j++t1/\pre=j.map rowD/\J=(col j h.toNat).map bi/\∃s,E=[s,.val (.int h)]) (λJ E C=>?_) (λpre d post J E Y e C U=>?_) _ ⟨[],t,rfl,rfl,rfl,_,rfl⟩
 ·obtain⟨j,t1,rfl,e,rfl,_⟩:=C;have:t1=[]:=by
   have:=congrArg List.length e;simp at this;exact this
  subst this;simpa using q
 ·obtain⟨j,t1,rfl,rfl,rfl,s,rfl⟩:=C;rw[zzs]at e;have e:=zzZ e;cases t1 with
  |nil=>simp at e|cons r t1 =>
   injection e with G e2;subst G;have o:=M r (by simp);refine Br.t (dh o h0 H ⟨?_,U _ _ ⟨j++[r],t1,by simp,by simp,by simp[col],_,rfl⟩⟩);rw[zza];unfold col;rw[zza];have:j.length<=1000:=by rw[zzm]at I;lia
   exact zzz this (by decide)
def gTbh:DSp:=λds Q=>match ds with
 |[.int m,.lst xs]=>∃(n:Nat) (t:ai Row),m=n/\xs=t.map rowD/\(n<=6/\t.length<=1000/\∀r∈t,wx n r)/\Q (rowD (sums t n))|_=>False
theorem eD:∀(n:Nat) (lo:Int),eX lo n=(List.range n).map λ(i:Nat)=>D.int (lo+i)
 |0,_=>rfl|n+1,lo=>by
  rw[List.range_succ_eq_map,zzh,zzk,eX,eD n (lo+1)];congr 1
  ·simp
  ·apply zzF;lia
theorem bM(T:Tx K mg):T.fY.Ok P w base CX0 2 (spD K 2 gTbh):=by
 refine fnd ["many","rows"] (λH _=>(dr (aU bK T.bj (da1 (dfc (ao ["house","rows"] [none,some 1] rfl (bY T.dm (a1 0)) (dgb 0) au (dcl (wu T) H (da1 (dfc (ao ["row","house"] [none,some 0] rfl (yL (dv 1)) (dgb 0) au (dix (dv 0) (dv 1)))))))))))) (λds Q hl h=>?_);unfold gTbh at h;split at h
 case h_2=>exact h.elim
 obtain⟨n,t,rfl,rfl,⟨U,J,G⟩,h⟩:=h;refine⟨⟨by lia,by lia⟩,?_⟩;rw[zzG,eD];refine cr (λi:Nat=>bi (sumP (col t (0+(i:Int)).toNat))) (λr=>∃s,r=[s,.val (.lst (t.map rowD))]) ?_ (λi j r Y Z C E=>?_) _ ⟨_,rfl⟩ ?_
 ·rw[zzK];exact zzo U (by decide)
 ·obtain⟨s,rfl⟩:=C;have j:=zzB.mp j;refine Br.t (BM G J (by lia) (by lia) ⟨rfl,col t (0+(i:Int)).toNat,rfl,?_,E _ ⟨_,rfl⟩⟩);unfold col;rw[zza];exact J
 ·show Q (.tup (List.map _ (List.range n)));have e:(List.range n).map (λi:Nat=>bi (sumP (col t (0+(i:Int)).toNat)))=(sums t n).map bi:=by
   unfold sums;rw[zzk];apply zzF;intro i _;show bi (sumP (col t (0+(i:Int)).toNat))=bi (sumP (col t i));congr 3;lia
  rw[e];exact h
def IA:DSp:=λds Q=>match ds with
 |[.lst xs]=>∃(n:Nat) (t:ai Row),xs=t.map rowD/\Tbl n t/\Q (rowD (sums t n))|_=>False
theorem pX(T:Tx K mg):T.An.Ok P w base CX0 3 (spD K 1 IA):=by
 refine fnd ["table"] (λJ _=>(dr (dcl (bM T) J (aa (dcl (bA T) J (a1 0)) (a1 0))))) (λds Q hl h=>?_);unfold IA at h;split at h
 case h_2=>exact h.elim
 obtain⟨n,t,rfl,o,h⟩:=h;refine⟨rfl,bT o ⟨rfl,n,t,rfl,rfl,⟨o.m6,zzo o.p60 (by decide),o.rows⟩,h⟩⟩
def gChP:DSp:=λds Q=>match ds with
 |[.int m,.int a,.int b]=>(0<=a/\a<m/\0<=b/\b<m/\a≠b)/\Q .non|_=>False
theorem cE(T:Tx K mg):T.qI.Ok P w base CX0 4 (spD K 3 gChP):=by
 refine fnd ["many","a","b"] (λJ _=>(ac (aY (dcl (eO T) J (a2 0 1))) (ac (aY (dcl (eO T) J (a2 0 2))) (ag (dif (aj (bZ J) (dv 1) (dv 2)) dnv))))) (λds Q hl h=>?_);unfold gChP at h;split at h
 case h_2=>exact h.elim
 obtain⟨⟨j,r,C,U,Y⟩,h⟩:=h;refine⟨rfl,⟨j,r⟩,rfl,⟨C,U⟩,⟨rfl,rfl⟩,λz=>?_,λ_=>h⟩;exact absurd (by simpa[aG]using z) Y
def kI(ks:ai Int):ai Key:=ks.map .inl
def az(ks:ai Int):D:=.tup (ks.map .int)
theorem fV(ks:ai Int):az ks=keyD (kI ks):=by unfold keyD kI az;rw[zzk];rfl
theorem uH{a b:ai Int}(h:kI a=kI b):a=b:=by exact(List.map_inj_right (λ_ _ e=>Sum.inl.inj e)).mp h
theorem Fu{a b:ai Int}:(kI a=kI b)↔a=b:=⟨uH,λe=>by rw[e]⟩
theorem BN(ks:ai Int):rC (kI ks):=λx J=>by obtain⟨i,_,rfl⟩:=zzc.mp J;exact⟨i,rfl⟩
def addG(k:ai Int)(r:Row):ai (ai Int×ai Row)->ai (ai Int×ai Row)
 |[]=>[(k,[r])]|p::t=>if p.1=k then(p.1,p.2++[r])::t else p::addG k r t
def grp(ps:ai (ai Int×Row)):ai (ai Int×ai Row):=ps.foldl (λg p=>addG p.1 p.2 g) []
theorem uI(ps:ai (ai Int×Row))(p:ai Int×Row):grp (ps++[p])=addG p.1 p.2 (grp ps):=by unfold grp;rw[List.foldl_append];rfl
def emb(g:ai (ai Int×ai Row)):ai (ai Key×ai D):=g.map λp=>(kI p.1,p.2.map rowD)
def embV(g:ai (ai Int×ai Row)):ai (ai Key×D):=g.map λp=>(kI p.1,.lst (p.2.map rowD))
theorem zb(k:ai Int)(r:Row):∀g,lw (kI k) (rowD r) (emb g)=emb (addG k r g)
 |[]=>rfl|p::t=>by
  show lw (kI k) (rowD r) ((kI p.1,p.2.map rowD)::emb t)=_;unfold lw addG;by_cases e:p.1=k
  ·rw[zzi (show (kI p.1,p.2.map rowD).1=kI k by rw[e]),zzi e];simp[emb]
  ·rw[zzg (show ¬(kI p.1,p.2.map rowD).1=kI k from λz=>e (uH z)),zzg e,zb k r t];rfl
theorem ji(k:ai Int)(r:Row):∀g:ai (ai Int×ai Row),(addG k r g).map (·.1)=if k∈g.map (·.1) then g.map (·.1) else g.map (·.1)++[k]
 |[]=>rfl|p::t=>by
  unfold addG;by_cases e:p.1=k
  ·rw[zzi e,zzi (by simp[e])];rfl
  ·rw[zzg e,zzh,ji k r t];by_cases m:k∈t.map (·.1)
   ·rw[zzi m,zzi (by rw[zzh];exact zzf _ m),zzh]
   ·rw[zzg m,zzg (by rw[zzh];intro z;rcases zzr.mp z with z|z;exact e z.symm;exact m z),zzh];rfl
structure GOk(C:List Int->Prop)(R:Row->Prop)(n:Nat)(g:List (List Int×List Row)):Prop where
 nd:(g.map (·.1)).Nodup
 it:∀p∈g,C p.1/\p.2≠[]/\p.2.length <= n/\∀r∈p.2,R r
 len:g.length <= n
theorem GOk.add{C:ai Int->Prop}{R:Row->Prop}{g:ai (ai Int×ai Row)}(h:GOk C R n g){k:ai Int}{r:Row}(G:C k)(Y:R r):GOk C R (n+1) (addG k r g):=by
 refine⟨?_,?_,?_⟩
 ·rw[ji];split
  ·exact h.nd
  ·rename_i m;refine zxj.mpr ⟨h.nd,by simp,λa j b E e=>?_⟩;rw[zzy.mp E]at e;exact m (e ▸ j)
 ·have key:∀g:ai (ai Int×ai Row),(∀p∈g,C p.1/\p.2≠[]/\p.2.length<=n/\∀r∈p.2,R r)->∀p∈addG k r g,C p.1/\p.2≠[]/\p.2.length<=n+1/\∀r∈p.2,R r:=by
   intro g
   induction g with
   |nil =>
    intro _ p J;rw[zzy.mp J];exact⟨G,by simp,by simp,λx U=>by rw[zzy.mp U];exact Y⟩
   |cons q t H =>
    intro h p J;unfold addG at J;split at J
    ·rcases zzr.mp J with rfl|J
     ·have:=h q zzd;refine⟨this.1,by simp,by simp;exact this.2.2.1,λx U=>?_⟩;rcases zzx.mp U with U|U
      ·exact this.2.2.2 x U
      ·rw[zzy.mp U];exact Y
     ·have:=h p (zzf _ J);exact⟨this.1,this.2.1,Nat.le_succ_of_le this.2.2.1,this.2.2.2⟩
    ·rcases zzr.mp J with rfl|J
     ·have:=h p zzd;exact⟨this.1,this.2.1,Nat.le_succ_of_le this.2.2.1,this.2.2.2⟩
     ·exact H (λp J=>h p (zzf _ J)) p J
  exact key g h.it
 ·have:=congrArg List.length (ji k r g);rw[zza]at this;rw[this];split
  ·rw[zza];exact Nat.le_succ_of_le h.len
  · simp;exact h.len
theorem pY{C:ai Int->Prop}{R:Row->Prop}:∀(ps:ai (ai Int×Row)),(∀p∈ps,C p.1/\R p.2)->GOk C R ps.length (grp ps):=by
 intro ps;generalize j:ps.length=n
 induction n generalizing ps with
 |zero =>
  intro _;have:ps=[]:=zzX.mp j;subst this;exact⟨zxy,λp J=>by simp[grp]at J,zzT _⟩
 |succ n Y =>
  intro h;obtain⟨qs,p,rfl⟩:∃qs p,ps=qs++[p]:=⟨ps.dropLast,ps.getLast (by intro z;rw[z]at j;simp at j),(List.dropLast_concat_getLast _).symm⟩;rw[uI];have J:=h p (by simp);exact(Y qs (by simp at j;exact j) λq U=>h q (by simp[U])).add J.1 J.2
def bH(g:ai (ai Int×ai Row))(k:ai Int):ai Row:=((g.find? λp=>decide (p.1=k)).map (·.2)).getD []
theorem zc{g:ai (ai Int×ai Row)}{k:ai Int}(h:k∈g.map (·.1)):∃p∈g,p.1=k/\bH g k=p.2/\fh (embV g) (kI k)=some (.lst (p.2.map rowD)):=by
 induction g with
 |nil=>simp at h|cons q t U =>
  by_cases e:q.1=k
  ·refine⟨q,zzd,e,?_,?_⟩
   ·unfold bH;rw[zzR (by simpa using e)];rfl
   ·unfold fh embV;rw[zzh,zzR (by simpa[Fu]using e)];rfl
  ·have r:k∈t.map (·.1):=by
    rcases zzr.mp h with h|h
    ·exact absurd h.symm e
    ·exact h
   obtain⟨p,C,E,j,J⟩:=U r;refine⟨p,zzf _ C,E,?_,?_⟩
   ·unfold bH at j ⊢;rw[zzS (by simpa using e)];exact j
   ·unfold fh embV at J ⊢;rw[zzh,zzS (by simpa[Fu]using e)];exact J
def bu(ks:ai (ai Int)):ai (ai Int):=if ks.length<2 then ks else(kRun (λi j=>lexI ((ks.map kI).getD i []) ((ks.map kI).getD j [])) (PySem.W.kas_sort ks.length)).toList.map λi=>ks.getD i []
theorem kh(ks:ai (ai Int))(i:Nat):(ks.map kI).getD i []=kI (ks.getD i []):=by rw[zze,zze,zzl];cases ks[i]?<;>rfl
theorem zd(ks:ai (ai Int)):srtK (ks.map kI)=(bu ks).map kI:=by
 unfold srtK bu;rw[zza];split
 ·rfl
 ·rw[zzk];apply zzF;intro i _;exact kh ks i
theorem ak(ks:ai (ai Int)):(bu ks).Perm ks:=by
 unfold bu;split
 ·exact List.Perm.refl _
 ·exact pC (KGood.end _ _ (dS (by lia)))
def dP(c:ai Int×Row):D:=.tup [az c.1,rowD c.2]
def br(m:Nat)(ps:ai (ai Int×Row)):ai (ai Int×Row):=(bu ((grp ps).map (·.1))).map λk=>(k,sums (bH (grp ps) k) m)
def kj(r:Row):Prop:=∃c∈r,0<c.1
theorem CY(h:∀n∈A,0<=n):∀x∈A,x<=A.sum/\0<=A.sum:=by
 induction A with
 |nil=>intro x J;simp at J|cons a r U =>
  intro x J;have h0:=h a zzd;have hr:0<=r.sum:=by
   cases r with
   |nil=>simp|cons b t=>exact(U (λn j=>h n (zzf _ j)) b zzd).2
  rw[zzE];rcases zzr.mp J with rfl|J
  ·lia
  ·have:=(U (λn j=>h n (zzf _ j)) x J).1;lia
theorem wy(E:∀r∈t',RowN n m r)(Y:t'≠[])(I:∀r∈t',kj r):kj (sums t' m):=by
 cases t' with
 |nil=>exact absurd rfl Y|cons r0 rs =>
  obtain⟨c,G,hpos⟩:=I r0 zzd;obtain⟨h,j⟩:=zxZ G;have C:h<m:=by have:=(zzt.mp j).1;rw[(E r0 zzd).1]at this;exact this
  refine⟨sumP (col (r0::rs) h),zzc.mpr ⟨h,zzB.mpr C,rfl⟩,?_⟩;have e:at_ r0 h=c:=by unfold at_;rw[zze,j];rfl
  have U:c.1∈(col (r0::rs) h).map (·.1):=zzc.mpr ⟨c,zzc.mpr ⟨r0,zzd,e⟩,rfl⟩;have J:∀x∈(col (r0::rs) h).map (·.1),0<=x:=λx M=>by obtain⟨d,hd,rfl⟩:=zzc.mp M;obtain⟨r,H,rfl⟩:=zzc.mp hd;have:=(cD (E r H) C).2;have h1:=this.lo;have h2:=this.hi;lia
  have:=(CY J _ U).1;unfold sumP;lia
theorem IB(ds:ai D):fzOs (ds.map O.val)=ds:=by
 induction ds with
 |nil=>rfl|cons d r J=>simp only[zzh,fzOs,fzO,J]
theorem KN(g:ai (ai Int×ai Row)):fzO (dlO (emb g))=.dT ((embV g).map (·.1)) ((embV g).map (·.2)):=by
 unfold dlO emb embV;refine congr (congrArg D.dT ?_) ?_
 ·rw[zzk,zzk];rfl
 ·rw[nq,zzk,zzk,zzk];apply zzF;intro p _;simp only[Function.comp,fzO,IB]
theorem Fv{l:Nat}(C:ks.Nodup)(J:∀k∈ks,k.length=l)(j:2<=ks.length):∀k∈ks,k≠[]:=by
 intro k H z;subst z;have I:l=0:=(J [] H).symm;subst I
 match ks,C,J,j with
 |a::b::r,C,J,_ =>
  have E:a=[]:=zzX.mp (J a (by simp));have G:b=[]:=zzX.mp (J b (by simp));subst E G;simp at C
 |[_],_,_,j=>simp at j|[],_,_,j=>simp at j
def ltI:ai Int->ai Int->Bool
 |[],[]=>false|[],_::_=>true|_::_,[]=>false|a::r,b::j=>if a=b then ltI r j else decide (a<b)
theorem km:∀a b:ai Int,lexI (kI a) (kI b)=ltI a b
 |[],[]=>rfl|[],_::_=>rfl|_::_,[]=>rfl|a::r,b::j=>by
  show (if a=b then lexI (kI r) (kI j) else decide (a<b))=if a=b then ltI r j else decide (a<b)
  rw[km r j]
theorem sk:∀a:ai Int,ltI a a=false
 |[]=>rfl|a::r=>by show (if a=a then ltI r r else _)=_;rw[zzi rfl];exact sk r
theorem ze:∀a b c:ai Int,ltI a b=true->ltI b c=true->ltI a c=true
 |[],[],_,h,_=>by cases h
 |[],_::_,[],_,h=>by cases h
 |[],_::_,_::_,_,_=>rfl|_::_,[],_,h,_=>by cases h
 |_::_,_::_,[],_,h=>by cases h
 |a::r,b::s,c::t,j,C=>by
  unfold ltI at j C ⊢;by_cases G:a=b
  ·rw[zzi G]at j;subst G;by_cases E:a=c
   ·rw[zzi E]at C ⊢;exact ze r s t j C
   ·rw[zzg E]at C ⊢;exact C
  ·rw[zzg G]at j;have j:=zzQ j;by_cases E:b=c
   ·subst E;rw[zzg G];exact zzJ j
   ·rw[zzg E]at C;rw[zzg (by lia)];exact zzJ (by lia)
theorem CZ{a b:ai Int}(h:ltI a b=true):ltI b a=false:=by
 cases e:ltI b a with
 |false=>rfl|true =>
  have:=ze a b a h e;rw[sk]at this;cases this
theorem Da:∀a b:ai Int,a≠b->ltI a b=false->ltI b a=true
 |[],[],h,_=>absurd rfl h|[],_::_,_,h=>by cases h
 |_::_,[],_,_=>rfl|a::r,b::s,h,e=>by
  unfold ltI at e ⊢;by_cases z:a=b
  ·subst z;rw[zzi rfl]at e ⊢;exact Da r s (λz=>h (by rw[z])) e
  ·rw[zzg z]at e;rw[zzg (Ne.symm z)];exact zzJ (by lia)
theorem uJ(I:ks.Nodup):(bu ks).Pairwise λa b=>ltI a b=true:=by
 unfold bu;by_cases h:ks.length<2
 ·rw[zzi h];rcases ks with _|⟨_,_|_⟩
  ·exact .nil
  ·exact List.pairwise_singleton _ _
  ·simp at h;lia
 ·rw[zzg h];have O:StrO ks.length (λi j=>lexI ((ks.map kI).getD i []) ((ks.map kI).getD j [])):=by
   refine⟨λi j k _ _ _ r H=>?_,λi j _ _ r=>?_,λi j C J e r=>?_⟩
   ·simp only[kh,km]at *;exact ze _ _ _ r H
   ·simp only[kh,km]at *;exact CZ r
   ·simp only[kh,km]at *;refine Da _ _ (λz=>e ?_) r;have E:ks.getD i []=ks[i]:=by simp[C]
    have G:ks.getD j []=ks[j]:=by simp[J]
    rw[E,G]at z;exact(zxz I).mp z
  have pm:=KGood.end (λi j=>lexI ((ks.map kI).getD i []) ((ks.map kI).getD j [])) _ (dS (N:=ks.length) (by lia));have as:=Bb O (by lia);have sz:=pm.size;generalize kRun (λi j=>lexI ((ks.map kI).getD i []) ((ks.map kI).getD j [])) (PySem.W.kas_sort ks.length)=p at pm as sz;rw[zyO,List.pairwise_iff_getElem];intro i j C J U;have:=as i j U (by rw[zyx]at J;lia);simp only[kh,km]at this;rw[zyx]at C J;have E:p.getD i 0=p[i]:=by simp[Array.getD,C]
  have G:p.getD j 0=p[j]:=by simp[Array.getD,J]
  rw[E,G]at this;simpa using this
theorem IC:∀{xs ys:ai (ai Int)},xs.Pairwise (λa b=>ltI a b=true)->ys.Pairwise (λa b=>ltI a b=true)->(∀k,k∈xs↔k∈ys)->xs=ys
 |[],[],_,_,_=>rfl|[],y::ys,_,_,h=>absurd ((h y).mpr zzd) (by simp)|x::xs,[],_,_,h=>absurd ((h x).mp zzd) (by simp)|x::xs,y::ys,H,I,h=>by
  obtain⟨J,E⟩:=zyJ.mp H;obtain⟨U,G⟩:=zyJ.mp I;have C:x=y:=by
   rcases zzr.mp ((h x).mp zzd) with e|e
   ·exact e
   ·rcases zzr.mp ((h y).mpr zzd) with Y|Y
    ·exact Y.symm
    ·have a:=U x e;have b:=J y Y;rw[CZ a]at b;cases b
  subst C;have r:∀{zs:ai (ai Int)},(∀z∈zs,ltI x z=true)->x∉zs:=λM m=>by have:=M x m;rw[sk]at this;cases this
  rw[IC E G λk=>⟨λj=>?_,λj=>?_⟩]
  ·rcases zzr.mp ((h k).mp (zzf _ j)) with rfl|e
   ·exact absurd j (r J)
   ·exact e
  ·rcases zzr.mp ((h k).mpr (zzf _ j)) with rfl|e
   ·exact absurd j (r U)
   ·exact e
theorem pZ{xs:ai (ai Int)}(J:xs.Nodup)(U:L.Nodup)(h:∀k,k∈xs↔k∈L):bu xs=bu L :=
 IC (uJ J) (uJ U) λk=>by rw[(ak xs).mem_iff,(ak L).mem_iff];exact h k
theorem zf(ps:ai (ai Int×Row)):((grp ps).map (·.1)).Nodup:=(pY (C:=λ_=>True) (R:=λ_=>True) ps λ_ _=>⟨trivial,trivial⟩).nd
theorem uK(k:ai Int)(r:Row)(C:ai Int):∀g:ai (ai Int×ai Row),bH (addG k r g) C=if k=C then bH g C++[r] else bH g C
 |[]=>by
  unfold addG bH;by_cases e:k=C
  ·rw[zzi e,zzR (by simpa using e)];rfl
  ·rw[zzg e,zzS (by simpa using e)]
 |p::t=>by
  have J:=uK k r C t;unfold addG;unfold bH at J ⊢;by_cases e:p.1=k
  ·rw[zzi e];by_cases j:k=C
   ·rw[zzi j,zzR (by simp[e,j]),zzR (by simp[e,j])];rfl
   ·rw[zzg j,zzS (by simp[e,j]),zzS (by simp[e,j])]
  ·rw[zzg e];by_cases j:p.1=C
   ·rw[zzR (by simpa using j),zzR (by simpa using j),zzg (λz=>e (by rw[j,z]))]
   ·rw[zzS (by simpa using j),zzS (by simpa using j)];exact J
theorem iu(ps:ai (ai Int×Row))(k:ai Int):bH (grp ps) k=(ps.filter λp=>decide (p.1=k)).map (·.2):=by
 have key:∀(qs:ai (ai Int×Row)) g,bH (qs.foldl (λg (p:ai Int×Row)=>addG p.1 p.2 g) g) k=bH g k++(qs.filter λp=>decide (p.1=k)).map (·.2):=by
  intro qs
  induction qs with
  |nil=>intro g;simp|cons q t J =>
   intro g;rw[zxh,J,uK];by_cases e:q.1=k
   ·rw[zzi e,zyp (by simpa using e),zzh,zyF];rfl
   ·rw[zzg e,zyq (by simpa using e)]
 rw[grp,key];rfl
theorem nK(ps:ai (ai Int×Row))(k:ai Int):k∈(grp ps).map (·.1)↔k∈ps.map (·.1):=by
 have key:∀(qs:ai (ai Int×Row)) g,k∈(qs.foldl (λg (p:ai Int×Row)=>addG p.1 p.2 g) g).map (·.1)↔k∈g.map (·.1)∨k∈qs.map (·.1):=by
  intro qs
  induction qs with
  |nil=>intro g;simp|cons q t J =>
   intro g;rw[zxh,J,ji,zzh,zzr];by_cases m:q.1∈g.map (·.1)
   ·rw[zzi m];constructor
    ·rintro(h|h)
     ·exact .inl h
     ·exact .inr (.inr h)
    ·rintro(h|h|h)
     ·exact .inl h
     ·exact .inl (h ▸ m)
     ·exact .inr h
   ·rw[zzg m,zzx,zzy];constructor
    ·rintro((h|h)|h)
     ·exact .inl h
     ·exact .inr (.inl h)
     ·exact .inr (.inr h)
    ·rintro(h|h|h)
     ·exact .inl (.inl h)
     ·exact .inl (.inr h)
     ·exact .inr h
 rw[grp,key];simp
def iP(r:Row):Bool:=(r.map λc=>decide (0<c.1)).any id
theorem triedB_iff{r:Row}:iP r=true↔kj r:=by
 unfold iP kj;rw[zyS];constructor
 ·rintro⟨b,C,e⟩;obtain⟨c,j,rfl⟩:=zzc.mp C;exact⟨c,j,by simpa using e⟩
 ·rintro⟨c,j,J⟩;exact⟨true,zzc.mpr ⟨c,j,by simpa using J⟩,rfl⟩
def Db:DSp:=λds Q=>match ds with
 |[.tup xs]=>∃r:Row,xs=r.map bi/\r.length<=1000/\Q (.bl (iP r))|_=>False
theorem wz(T:Tx K mg):T.wY.Ok P w base CX0 1 (spD K 1 Db):=by
 refine fnd ["counts"] (λhr _=>(dr (aC Ic T.Lf PyProof.Rows.boot_any (da1 (dfc (ao ["count"] [none] rfl (iO (dv 0)) (dgb 0) au (jQ iq (dx 0) ad))))))) (λds Q J h=>?_);unfold Db at h;split at h
 case h_2=>exact h.elim
 obtain⟨r,rfl,J,h⟩:=h;refine cr (D.bl ∘ λc=>decide (0<c.1)) (λj=>∃s,j=[s]) (zzo J (by decide)) (λc _ j Y Z C U=>?_) _ ⟨_,rfl⟩ ?_
 ·obtain⟨s,rfl⟩:=C;exact Br.t (U _ ⟨_,rfl⟩)
 ·rw[←zzk];exact jX h
def gath(n:Nat)(ps:ai (ai Int×Row)):ai (ai Int×Row):=(br n ps).filter λc=>iP c.2
def uL:DSpN:=λds _ L=>match ds with
 |[.int m,.lst xs]=>∃(n:Nat) (ps:ai (ai Int×Row)) (l:Nat),m=n/\xs=ps.map dP/\(n<=6/\ps.length<=60/\∀p∈ps,p.1.length=l/\RowN 110 n p.2)/\L ((gath n ps).map dP)|_=>False
theorem kq(T:Tx K mg):T.cY.Ok P w base CX0 3 (spDN K 2 uL):=by
 refine fnDN T.cY.d.F rX (λm _=>(cx (yP 2) (rT (aM (ar (dv 1)) (dg2 3 4) (ag (Im m (pv 2) (pv 3) (pv 4)))) (cx (fg 5 (ao ["kinds","many","found"] [none,some 0,some 2] rfl (ar (aC BF T.eT (by decide +kernel) (a1 2))) (dgb 0) au (ay (aa (dv 0) (da1 (dcl (bM T) m (aa (dv 1) (da1 (yQ m (dv 2) (dv 0) (λ_ _=>rfl)))))))))) (rS (PCD.pld (ao ["cell"] [none] rfl (ar (dv 5)) (dgb 0) (eN (aE (dcl (wz T) m (da1 (dx 0))))) (dv 0)))))))) (λds Q L hl h=>?_);unfold uL at h;split at h
 case h_2=>exact h.elim
 obtain⟨n,ps,l,rfl,rfl,⟨n6,x,a7⟩,h⟩:=h;have a0:∀qs:ai (ai Int×Row),(∀p∈qs,p∈ps)->GOk (λk=>k.length=l) (λr=>RowN 110 n r) qs.length (grp qs):=λqs I=>pY qs λp v=>a7 p (I p v);refine⟨λC=>∃a b:Sl,C=[.val (.int n),.val (.lst (ps.map dP)),.obj (dlO (emb (grp ps))),a,b,.nil],?_,?_⟩
 ·refine aN (λpre C=>∃G g:ai (ai Int×Row),ps=G++g/\pre=G.map dP/\∃a b:Sl,C=[.val (.int n),.val (.lst (ps.map dP)),.obj (dlO (emb (grp G))),a,b,.nil]) (λC E=>?_) (λpre d post C X e E hX=>?_) _ ⟨[],ps,rfl,rfl,_,_,rfl⟩
  ·obtain⟨G,g,rfl,e,a,b,rfl⟩:=E;have:g=[]:=by
    have:=congrArg List.length e;simp at this;exact this
   subst this;rw[zyb];exact⟨a,b,rfl⟩
  ·obtain⟨G,g,rfl,rfl,a,b,rfl⟩:=E;rw[zzs]at e;have e:=zzZ e;cases g with
   |nil=>simp at e|cons p g =>
    rw[zzh]at e;injection e with H y;subst H;have go:=a0 G λq I=>by simp[I]
    have pl:G.length<=60:=by rw[zzm]at x;lia
    refine⟨rfl,emb (grp G),kI p.1,rowD p.2,rfl,?_,rfl,?_,λq I=>?_,hX _ ⟨G++[p],g,by simp,by simp,_,_,by rw[zb,←uI];rfl⟩⟩
    ·show Sl.val (az p.1)=_;rw[fV]
    ·unfold emb;rw[zza];exact zzz (show (grp G).length<=60 from zzo go.len pl) (by decide)
    ·obtain⟨q',a8,rfl⟩:=zzc.mp I;rw[zza];exact zzz (show q'.2.length<=60 from zzo (go.it q' a8).2.2.1 pl) (by decide)
 ·rintro _ ⟨a,b,rfl⟩;have go:=a0 ps λq I=>I;have i:(emb (grp ps)).map (·.1)=((grp ps).map (·.1)).map kI:=by unfold emb;rw[zzk,zzk];rfl
  have kl:((grp ps).map (·.1)).length<=60:=by rw[zza];exact zzo go.len x
  have a9:∀k∈(grp ps).map (·.1),k.length=l:=λk i=>by obtain⟨p,v,rfl⟩:=zzc.mp i;exact(go.it p v).1
  have sl:(bu ((grp ps).map (·.1))).length<=60:=by rw[(ak _).length_eq];exact kl
  refine⟨⟨λk U=>?_,λN k U=>?_,?_⟩,?_⟩
  ·rw[i]at U;obtain⟨k',_,rfl⟩:=zzc.mp U;exact BN k'
  ·rw[i]at N U;rw[zza]at N;obtain⟨k',a6,rfl⟩:=zzc.mp U;intro z;exact Fv go.nd a9 N k' a6 (uH z)
  ·rw[i,zza];lia
  ·have H:(srtK ((emb (grp ps)).map (·.1))).map keyD=(bu ((grp ps).map (·.1))).map az:=by
    rw[i,zd,zzk];apply zzF;intro k _;exact(fV k).symm
   show cq _ _ _ ((srtK ((emb (grp ps)).map (·.1))).map keyD) _ _ _;rw[H];refine aA (λpre J C=>∃M u:ai (ai Int),bu ((grp ps).map (·.1))=M++u/\pre=M.map az/\J=(M.map λk=>(k,sums (bH (grp ps) k) n)).map dP/\∃s:Sl,C=[s,.val (.int n),.val (fzO (dlO (emb (grp ps))))]) (λJ C E=>?_) (λpre d post J C Y e E A=>?_) _ ⟨[],_,rfl,rfl,rfl,_,rfl⟩
   ·obtain⟨M,u,e,y,rfl,s,rfl⟩:=E;have e:=eV e y;rw[←e];have a4:((bu ((grp ps).map (·.1))).map λk=>(k,sums (bH (grp ps) k) n))=br n ps:=rfl;rw[a4];have b0:(br n ps).length<=60:=by unfold br;rw[zza];exact sl
    refine aA (λpre J C=>∃c0 c1:ai (ai Int×Row),br n ps=c0++c1/\pre=c0.map dP/\J=(c0.filter λc=>iP c.2).map dP/\∃s:Sl,C=[s]) (λJ C E=>?_) (λpre d post J C Y e E A=>?_) _ ⟨[],_,rfl,rfl,rfl,_,rfl⟩
    ·obtain⟨c0,c1,j,e4,rfl,s,rfl⟩:=E;have:c1=[]:=by
      have:=congrArg List.length e4;rw[j]at this;simp at this;exact this
     subst this;rw[zyb]at j;rw[←j];exact h
    ·obtain⟨c0,c1,j,rfl,rfl,s,rfl⟩:=E;rw[j,zzs]at e;have e:=zzZ e;cases c1 with
     |nil=>simp at e|cons c c1 =>
      rw[zzh]at e;injection e with H y;subst H;rw[j,zzm]at b0;have hc:c∈br n ps:=by rw[j];simp
      have a5:c.2.length<=1000:=by obtain⟨k,_,rfl⟩:=zzc.mp hc;show (sums _ n).length<=1000;unfold sums;rw[zza,zzK];lia
      refine⟨rfl,c.2,rfl,a5,?_⟩;cases z:iP c.2 with
      |true =>
       refine Br.t ⟨?_,A _ _ ⟨c0++[c],c1,by rw[j];simp,by simp,by rw[zyA,zyp (by simpa using z)];simp,_,rfl⟩⟩;rw[zza];exact zzz (show _<=60 from zzo (zzU _ _) (by lia)) (by decide)
      |false=>exact Br.f (A _ _ ⟨c0++[c],c1,by rw[j];simp,by simp,by rw[zyA,zyq (by simp[z])];simp,_,rfl⟩)
   ·obtain⟨M,u,j,rfl,rfl,s,rfl⟩:=E;rw[j,zzs]at e;have e:=zzZ e;cases u with
    |nil=>simp at e|cons k u =>
     rw[zzh]at e;injection e with H y;subst H;have U:k∈bu ((grp ps).map (·.1)):=by rw[j];simp
     obtain⟨p,v,_,h3,h4⟩:=zc ((ak _).mem_iff.mp U);have gp:=go.it p v;rw[j,zzm]at sl;refine Br.t ⟨embV (grp ps),kI k,.lst (p.2.map rowD),KN _,fV k,h4,rfl,n,p.2,rfl,rfl,⟨n6,zzo gp.2.2.1 (by lia),λr m=>(gp.2.2.2 r m).up⟩,sz,?_,A _ _ ⟨M++[k],u,by rw[j];simp,by simp,by rw[zzs,zzs,←h3];rfl,_,rfl⟩⟩;rw[zza,zza];exact zzz (show M.length<=60 by lia) (by decide)
def ID:DSp:=λds Q=>uL ds Q λj=>Q (.lst j)
theorem wC(T:Tx K mg):T.cY.Ok P w base CX0 3 (spD K 2 ID):=DL.FnOk.asD (kq T) (λds Q h=>h)
theorem BO{l:Nat}(h:∀p∈ps,p.1.length=l/\RowN 110 n p.2/\kj p.2):gath n ps=br n ps:=by unfold gath;rw[zxF];intro c E;obtain⟨k,G,rfl⟩:=zzc.mp E;obtain⟨p,J,_,j,_⟩:=zc ((ak _).mem_iff.mp G);have go:=(pY (C:=λk=>k.length=l) (R:=λr=>RowN 110 n r/\kj r) ps λp J=>⟨(h p J).1,(h p J).2⟩).it p J;rw[triedB_iff];rw[j];exact wy (λr U=>(go.2.2.2 r U).1) go.2.1 λr U=>(go.2.2.2 r U).2
structure Bk where
 m:Nat
 marks:List Int
 cells:List (List Int×Row)
def du(b:Bk):D:=.tup [.int b.m,az b.marks,.tup (b.cells.map dP)]
structure BkOk(b:Bk):Prop where
 m2:2 <= b.m
 m6:b.m <= 6
 mk5:b.marks.length <= 5
 c60:b.cells.length <= 60
 it:∀c∈b.cells,c.1.length=b.marks.length/\RowN 110 b.m c.2/\kj c.2
structure SoOk(b:Bk)(so:List Int):Prop where
 it:∀x∈so,0 <= x/\x<b.marks.length
 nd:so.Nodup
 len:so.length <= 5
def vals(ks so:ai Int):ai Int:=so.map λx=>ks.getD x.toNat 0
def eW(b:Bk)(so:ai Int):ai (ai Int×Row):=br b.m (b.cells.map λc=>(vals c.1 so,c.2))
theorem zg{so:ai Int}(C:∀x∈so,0<=x/\x<A.length)(U:so.length<=1000){s:Sl}{Q:ai D->Prop}(q:Q ((vals A so).map D.int)) :
  cq (bX 0) bF (dOp gIx (dVar 1) (dVar 0)) (so.map D.int) [] [s,.val (az A)] Q:=by
 unfold vals at q;rw[zzk]at q;refine cr _ (λj=>∃s,j=[s,.val (az A)]) (zzo U (by decide)) (λx E j Y Z r J=>?_) _ ⟨_,rfl⟩ q;obtain⟨s,rfl⟩:=r;obtain⟨h0,h1⟩:=C x E;refine Br.t (bR h0 ?_ (J _ ⟨_,rfl⟩));have:x.toNat<A.length:=by lia
 simp[this]
def KO:DSp:=λds Q=>∃ks so:ai Int,ds=[az ks,az so]/\(∀x∈so,0<=x/\x<ks.length)/\so.length<=1000/\Q (az (vals ks so))
theorem ss(T:Tx K mg):T.tF.Ok P w base CX0 1 (spD K 2 KO):=by refine fnd ["kinds","some"] (λhr _=>(dr (aU bK T.bj (da1 (dfc (ao ["mark","kinds"] [none,some 0] rfl (iO (dv 1)) (dgb 0) au (dix (dv 1) (dv 0)))))))) (λds Q hl h=>?_);obtain⟨ks,so,rfl,j,r,h⟩:=h;exact zg j r h
def gChM:DSp:=λds Q=>∃(b:Bk) (x:Int),ds=[du b,.int x]/\(0<=x/\x<b.marks.length)/\b.marks.length<=5/\Q .non
theorem qc(T:Tx K mg):T.qL.Ok P w base CX0 3 (spD K 2 gChM):=by
 refine fnd ["book","mark"] (λJ _=>(ag (dif (bG (aE (dcl (cu T) J (aa (dv 1) (aa ad (da1 (aP pI (dln aV T.bO (dx 0)) ad))))))) dnv))) (λds Q hl h=>?_);obtain⟨b,x,rfl,⟨h0,h1⟩,h2,h⟩:=h;have e:((b.marks.map D.int).length:Int)=b.marks.length:=by rw[zza]
 refine⟨rfl,⟨h0,?_⟩,Br.f h⟩;lia
theorem Fw{d:D}(h:shp d=true){A B:Prop}(q:B):Br (!eqD d d) A B:=by rw[gz h];exact Br.f q
theorem lx{d:D}(h:d=e)(s:shp e=true){A B:Prop}(q:B):Br (!eqD d e) A B:=by rw[h];exact Fw s q
def KQ:DSp:=λds Q=>∃(b:Bk) (so:ai Int),ds=[du b,az so]/\SoOk b so/\b.marks.length<=5/\Q .non
theorem nL(T:Tx K mg):T.oI.Ok P w base CX0 4 (spD K 2 KQ):=by
 refine fnd ["book","some","mark"] (λJ _=>(ac (dif (bG (aE (aC eM T.aW rfl (aa (dv 1) (da1 (lu rfl T.bj rfl)))))) dnv) (aw (aM (iO (dv 1)) (dgn 2) (ag (aY (dcl (qc T) J (a2 0 2))))) (ag (dif (aj (fF J) (yR rfl rfl T.bO rfl T.Lg (dv 1)) (dln aV T.bO (dv 1))) dnv))))) (λds Q hl h=>?_);obtain⟨b,so,rfl,o,C,h⟩:=h;refine⟨rfl,rfl,Br.f ?_⟩;refine⟨λj=>∃s:Sl,j=[.val (du b),.val (az so),s],?_,?_⟩
 ·refine gy (λj=>∃s:Sl,j=[.val (du b),.val (az so),s]) (λj h=>h) (λd hd j X r U=>?_) _ ⟨_,rfl⟩;obtain⟨s,rfl⟩:=r;obtain⟨x,Y,rfl⟩:=zzc.mp hd;exact⟨rfl,b,x,rfl,o.it x Y,C,U _ ⟨_,rfl⟩⟩
 ·rintro _ ⟨s,rfl⟩;have e:D.int (vT so:Nat)=D.int ((so.map D.int).length:Nat):=by rw[rE o.nd,zza]
  exact⟨so,rfl,zzo o.len (by decide),⟨rfl,rfl⟩,lx e rfl h⟩
def zh:DSpN:=λds _ L=>∃(b:Bk) (so:ai Int),ds=[du b,az so]/\BkOk b/\SoOk b so/\L ((eW b so).map dP)
theorem sv(T:Tx K mg):T.iE.Ok P w base CX0 5 (spDN K 2 zh):=by
 refine fnDN T.iE.d.F rY (λH _=>(cx (aY (dcl (nL T) H (a2 0 1))) (BG (kq T) (H.mono (by decide)) rfl T.cY.d.m T.cY.d.F.kp T.cY.d.b (aa (dx 0) (da1 (dfc (ao ["cell","some"] [none,some 1] rfl (iO (dx 0)) (dgb 0) au (ay (aa (dcl (ss T) H (aa (dx 0) (a1 1))) (da1 (dx 0))))))))))) (λds Q L hl h=>?_);obtain⟨b,so,rfl,U,o,h⟩:=h;unfold eW at h;refine⟨rfl,b,so,rfl,o,U.mk5,?_⟩;have C:=U.c60;refine aA (λpre J I=>∃c0 c1:ai (ai Int×Row),b.cells=c0++c1/\pre=c0.map dP/\J=(c0.map λc=>(vals c.1 so,c.2)).map dP/\∃s:Sl,I=[s,.val (az so)]) (λJ I E=>?_) (λpre d post J I Y e E i=>?_) _ ⟨[],_,rfl,rfl,rfl,_,rfl⟩
 ·obtain⟨c0,c1,e,M,rfl,s,rfl⟩:=E;have e:=eV e M;rw[←e];have fin:uL [.int b.m,.lst ((b.cells.map λc=>(vals c.1 so,c.2)).map dP)] Q L:=by
   have g:=BO (ps:=b.cells.map λc=>(vals c.1 so,c.2)) λp G=>by obtain⟨c,j,rfl⟩:=zzc.mp G;exact⟨by unfold vals;rw[zza],(U.it c j).2⟩
   refine⟨b.m,_,so.length,rfl,rfl,⟨U.m6,by rw[zza];exact U.c60,λp G=>?_⟩,by rw[g];exact h⟩;obtain⟨c,j,rfl⟩:=zzc.mp G;exact⟨by unfold vals;rw[zza],(U.it c j).2.1⟩
  exact⟨rfl,fin⟩
 ·obtain⟨c0,c1,r,rfl,rfl,s,rfl⟩:=E;rw[r,zzs]at e;have e:=zzZ e;cases c1 with
  |nil=>simp at e|cons c c1 =>
   rw[zzh]at e;injection e with a M;subst a;have j:=U.it c (by rw[r];simp);rw[r,zzm]at C;refine Br.t ⟨rfl,c.1,so,rfl,λx k=>by rw[j.1];exact o.it x k,zzo o.len (by decide),sz,?_,i _ _ ⟨c0++[c],c1,by rw[r];simp,by simp,by rw[zzs,zzs];rfl,_,rfl⟩⟩;rw[zza,zza];exact zzz (show c0.length<=60 by lia) (by decide)
theorem qd{b:Bk}(J:BkOk b){so:ai Int}:(eW b so).length<=60:=by unfold eW br;rw[zza,(ak _).length_eq,zza];have:=(pY (C:=λ_=>True) (R:=λ_=>True) (b.cells.map λc=>(vals c.1 so,c.2)) λ_ _=>⟨trivial,trivial⟩).len;rw[zza]at this;exact zzo this J.c60
def IE:DSp:=λds Q=>zh ds Q λj=>Q (.lst j)
theorem iw(T:Tx K mg):T.iE.Ok P w base CX0 5 (spD K 2 IE):=DL.FnOk.asD (sv T) (λds Q h=>h)
def zi:DSpN:=λds _ L=>∃(b:Bk) (so:ai Int),ds=[du b,az so]/\BkOk b/\SoOk b so/\L (((eW b so).map (·.2)).map rowD)
theorem sx(T:Tx K mg):T.iC.Ok P w base CX0 6 (spDN K 2 zi):=by refine fnDN T.iC.d.F rZ (λC _=>(rS (PCD.pld (ao ["part"] [none] rfl (ar (dcl (iw T) C (a2 0 1))) (dgb 0) au (dx 0))))) (λds Q L hl h=>?_);obtain⟨b,so,rfl,J,o,h⟩:=h;refine⟨rfl,b,so,rfl,J,o,?_⟩;refine cr (rowD ∘ (·.2)) (λj=>∃s,j=[s]) (zzo (qd J) (by decide)) (λc _ j Y Z r U=>?_) _ ⟨_,rfl⟩ (by rw[←zzk];exact h);obtain⟨s,rfl⟩:=r;exact Br.t (U _ ⟨_,rfl⟩)
def isS(s:Int)(d:D):Bool:=eqF d (.int s)
structure AbOk(m:Nat)(a b:Int):Prop where
 a0:0 <= a
 a1:a<m
 b0:0 <= b
 b1:b<m
 ne:a≠b
def ly(a b:Nat)(r:Row):D:=cC (at_ r a).1 (at_ r a).2 (at_ r b).1 (at_ r b).2
theorem zj{g:DSp}(T:∀(c d:Int×Int) (Q:D->Prop),Cnt 200 c.1 c.2->Cnt 200 d.1 d.2->Q (cC c.1 c.2 d.1 d.2)->g [bi c,bi d] Q){t:ai Row}(k:∀r∈t,wx m r)(i:t.length<=1000)(G:0<=a)(a1:a<m)(H:0<=b)(I:b<m){s:Sl}{Q:ai D->Prop}(q:Q (t.map (ly a.toNat b.toNat))) :
  cq (bX 0) bF (Bp 2 g (bD (dOp gIx (dVar 0) (dVar 1)) (bD (dOp gIx (dVar 0) (dVar 2)) fQ))) (t.map rowD) [] [s,.val (.int a),.val (.int b)] Q:=by
 refine aA (λpre J E=>∃j t1:ai Row,t=j++t1/\pre=j.map rowD/\J=j.map (ly a.toNat b.toNat)/\∃s,E=[s,.val (.int a),.val (.int b)]) (λJ E C=>?_) (λpre d post J E Y e C U=>?_) _ ⟨[],t,rfl,rfl,rfl,_,rfl⟩
 ·obtain⟨j,t1,rfl,e,rfl,_⟩:=C;have:t1=[]:=by
   have:=congrArg List.length e;simp at this;exact this
  subst this;simpa using q
 ·obtain⟨j,t1,rfl,rfl,rfl,s,rfl⟩:=C;rw[zzs]at e;have e:=zzZ e;cases t1 with
  |nil=>simp at e|cons r t1 =>
   injection e with M e2;subst M;have o:=k r (by simp);refine Br.t (dh o G a1 (dh o H I ⟨rfl,T _ _ _ (cD o (by lia)).2 (cD o (by lia)).2 ⟨?_,U _ _ ⟨j++[r],t1,by simp,by simp,by simp[ly],_,rfl⟩⟩⟩));rw[zza];have:j.length<=1000:=by rw[zzm]at i;lia
   exact zzz this (by decide)
theorem BP(c d:Int×Int)(Q:D->Prop)(j:Cnt 200 c.1 c.2)(hd:Cnt 200 d.1 d.2)(q:Q (cC c.1 c.2 d.1 d.2)):wv [bi c,bi d] Q :=
 ⟨⟨j.bt.mono (by decide),j.bw.mono (by decide),hd.bt.mono (by decide),hd.bw.mono (by decide)⟩,q⟩
def IF:DSpN:=λds _ L=>match ds with
 |[.lst xs,.int a,.int b]=>∃(n:Nat) (t:ai Row),xs=t.map rowD/\Tbl n t/\(0<=a/\a<n/\0<=b/\b<n/\a≠b)/\L (t.map (ly a.toNat b.toNat))|_=>False
theorem Fy(T:Tx K mg):T.Al.Ok P w base CX0 5 (spDN K 3 IF):=by
 refine fnDN T.Al.d.F Ft (λJ _=>(cx (aY (dcl (cE T) J (aa (dcl (bA T) J (a1 0)) (a2 1 2)))) (rS (PCD.pld (ao ["part","a","b"] [none,some 1,some 2] rfl (ar (dv 0)) (dgb 0) au (dcl (pV T) J (aa (dix (dv 0) (dv 1)) (da1 (dix (dv 0) (dv 2)))))))))) (λds Q L hl h=>?_);unfold IF at h;split at h
 case h_2=>exact h.elim
 obtain⟨n,t,rfl,o,⟨j,a1,r,C,E⟩,h⟩:=h;refine⟨rfl,bT o ⟨rfl,⟨j,a1,r,C,E⟩,?_⟩⟩;exact zj BP o.rows (zzo o.p60 (by decide)) j a1 r C h
def kr:D->Bool
 |.non=>true|.int i=>i==0|_=>false
def tkT(s:Int)(x:D):D:=if eqD x (.int s)=true then .tup [.str "kept",.int s] else .tup [.str "turned",.int s,x]
def eP(told:ai D)(x:D):D :=
 if told.all (isS 1)=true then tkT 1 x else if told.all (isS (-1))=true then tkT (-1) x else
 match told.findIdx? kr with
 | some j=>.tup [.str "open",.int j]| none=>.tup [.str "apart",.int (told.findIdx (isS 1)),.int (told.findIdx (isS (-1)))]
theorem ix(a b:Nat)(r:Row):ly a b r=.non∨ly a b r=.int 1∨ly a b r=.int (-1)∨ly a b r=.int 0:=by
 unfold ly cC;split
 ·exact .inl rfl
 ·split
  ·exact .inr (.inl rfl)
  ·split
   ·exact .inr (.inr (.inl rfl))
   ·exact .inr (.inr (.inr rfl))
theorem iy(t w t' J:Int):(∃i,cC t w t' J=.int i)∨cC t w t' J=.non:=by
 unfold cC;split
 ·exact .inr rfl
 ·split
  ·exact .inl ⟨_,rfl⟩
  ·split<;>exact .inl ⟨_,rfl⟩
abbrev told(t:ai Row)(a b:Nat):ai D:=t.map (ly a b)
theorem qe(t:ai Row)(a b:Nat):(told t a b).all rV=true:=by rw[zyw];intro d hd;obtain⟨r,_,rfl⟩:=zzc.mp hd;rcases ix a b r with e|e|e|e<;>(rw[e];rfl)
def gTKt:DSp:=λds Q=>match ds with
 |[.int s,x]=>((∃i,x=.int i)∨x=.non)/\Q (tkT s x)|_=>False
theorem uM{x:D}(h:(∃i,x=.int i)∨x=.non):shp x=true:=by
 rcases h with ⟨i,rfl⟩|rfl
 ·exact Shp.shp (n:=0) .int
 ·exact Shp.shp (n:=0) .non
theorem iZ(T:Tx K mg):T.jd.Ok P w base CX0 1 (spD K 2 gTKt):=by
 refine fnd ["number","whole"] (λJ _=>(ac (dir (aj (bZ J) (dv 1) (dv 0)) (ay (aa fK (a1 0)))) (dr (ay (aa fK (a2 0 1)))))) (λds Q hl h=>?_);unfold gTKt at h;split at h
 case h_2=>exact h.elim
 rename_i s x;obtain⟨U,h⟩:=h;unfold tkT at h;refine⟨⟨uM U,rfl⟩,λe=>?_,λe=>?_⟩
 ·have e:eqD x (.int s)=true:=e;rw[zzi e]at h;exact⟨sz,h⟩
 ·have e:eqD x (.int s)=false:=e;rw[zzg (by rw[e];exact zzL)]at h;exact⟨sz,h⟩
theorem gE:∀{j:ai Int},(∀i∈j,Bd n i)->∀{k:Nat},j.length<=2^k->Bd (n+k) j.sum:=by
 have key:∀j:ai Int,(∀i∈j,Bd n i)->j.sum.natAbs<=j.length*(2^n - 1):=by
  intro j
  induction j with
  |nil=>intro _;simp|cons a r J =>
   intro h;have C:=J λi G=>h i (zzf _ G);have E:a.natAbs<2^n:=h a zzd;rw[zzE,zzI,Nat.succ_mul];lia
 intro j h k H;have C:=key j h;unfold Bd;have E:j.length*(2^n - 1)<=2^k*(2^n - 1):=Nat.mul_le_mul_right _ H;have h3:2^k*(2^n - 1)<2^k*2^n:=Nat.mul_lt_mul_of_pos_left (by have:=zwR n;lia) (zwR k);lia
theorem aL{t:ai Row}(o:Tbl m t){h:Nat}(Y:h<m):0<=(sumP (col t h)).2/\(sumP (col t h)).2<=(sumP (col t h)).1/\Bd 300 (sumP (col t h)).1/\Bd 300 (sumP (col t h)).2:=by
 have j:∀c∈col t h,Cnt 200 c.1 c.2:=λc j=>by obtain⟨r,G,rfl⟩:=zzc.mp j;exact(cD (o.rows r G) Y).2
 have U:(col t h).length<=2^10:=by unfold col;rw[zza];exact zzo o.p60 (by decide)
 have E:0<=((col t h).map (·.2)).sum/\((col t h).map (·.2)).sum<=((col t h).map (·.1)).sum:=by
  generalize col t h=cs at j
  induction cs with
  |nil=>simp|cons c r H =>
   have:=H λd hd=>j d (zzf _ hd);have h1:=(j c zzd).lo;have h2:=(j c zzd).hi;simp only[zzh,zzE];lia
 refine⟨E.1,E.2,(gE (n:=200) (λi C=>?_) (by rw[zza];exact U)).mono (by decide),(gE (n:=200) (λi C=>?_) (by rw[zza];exact U)).mono (by decide)⟩
 ·obtain⟨c,J,rfl⟩:=zzc.mp C;exact(j c J).bt
 ·obtain⟨c,J,rfl⟩:=zzc.mp C;exact(j c J).bw
def wholeS(t:ai Row)(a b:Nat):D:=cC (sumP (col t a)).1 (sumP (col t a)).2 (sumP (col t b)).1 (sumP (col t b)).2
theorem kt{t:ai Row}{h:Int}(h0:0<=h)(h1:h<m)(q:Q (bi (sumP (col t h.toNat)))):opt (atI ((sums t m).map bi) h) Q:=by refine bR h0 ?_ q;unfold sums;rw[zzl,zzl,zzW (by lia)];rfl
def uN:DSp:=λds Q=>match ds with
 |[.lst xs,.int a,.int b]=>∃(n:Nat) (t:ai Row),xs=t.map rowD/\Tbl n t/\(0<=a/\a<n/\0<=b/\b<n/\a≠b)/\Q (eP (told t a.toNat b.toNat) (wholeS t a.toNat b.toNat))|_=>False
def Dc:DSp:=λds Q=>match ds with
 |[.lst xs,.int a,.int b]=>∃(n:Nat) (t:ai Row),xs=t.map rowD/\Tbl n t/\(0<=a/\a<n/\0<=b/\b<n/\a≠b)/\Q (.lst (told t a.toNat b.toNat))|_=>False
theorem IG(T:Tx K mg):T.Al.Ok P w base CX0 5 (spD K 3 Dc):=DL.FnOk.asD (Fy T) (λds Q h=>by
 unfold Dc at h;split at h
 ·exact h
 ·exact h.elim)
theorem count_all:(eqD (.int ((ds.countP λz=>eqF z (.int b):Nat):Int)) (.int (ds.length:Int))=true)↔ds.all (isS b)=true:=by
 rw[aG,zyr];have h:((ds.countP λz=>eqF z (.int b):Nat):Int)=(ds.length:Int)↔(ds.countP λz=>eqF z (.int b))=ds.length:=by lia
 rw[h,List.countP_eq_length,zyw];rfl
theorem wD{t:ai Row}{a b:Nat}(C:(told t a b).findIdx? kr=none)(hs:N=1∨N = -1)(j:¬(told t a b).all (isS (-N))=true) :
  ∃z,(told t a b)[(told t a b).findIdx (isS N)]?=some z/\isS N z=true:=by
 have hex:∃d∈told t a b,isS N d=true:=by
  rw[zyw]at j;have:∃d∈told t a b,¬isS (-N) d=true:=by apply zxf;intro h;exact j λd hd=>zxf λq=>h ⟨d,hd,q⟩
  obtain⟨d,hd,q⟩:=this;refine⟨d,hd,?_⟩;have J:kr d=false:=by have:=List.findIdx?_eq_none_iff.mp C d hd;simpa using this
  obtain⟨r,_,rfl⟩:=zzc.mp hd;rcases ix a b r with e|e|e|e<;>rw[e]at q J ⊢
  ·exact absurd J (by decide)
  ·rcases hs with rfl|rfl
   ·rfl
   ·exact absurd rfl q
  ·rcases hs with rfl|rfl
   ·exact absurd rfl q
   ·rfl
  ·exact absurd J (by decide)
 have U:=List.findIdx_lt_length.mpr hex;exact⟨(told t a b)[(told t a b).findIdx (isS N)],zzp U,List.findIdx_getElem⟩
theorem De{t:ai Row}{a b:Nat}(C:(told t a b).findIdx? kr=none)(hs:N=1∨N = -1)(r:¬(told t a b).all (isS (-N))=true)(q:Q (.int ((told t a b).findIdx (isS N):Nat))) :
  Ib (.lst (told t a b)) (.int N) Q:=by
 refine⟨⟨rfl,qe t a b⟩,(told t a b).findIdx (isS N),⟨wD C hs r,λm z j U=>?_⟩,q⟩;have:=List.not_of_lt_findIdx j;have J:=zzt.mp U;obtain⟨hl,e⟩:=J;subst e;exact this
theorem kw(T:Tx K mg):T.Ap.Ok P w base CX0 6 (spD K 3 uN):=by
 refine fnd ["table","a","b","told","whole","number","part"] (λJ _=>(ac (dse 3 (dcl (IG T) J (a3 0 1 2))) (ac (dse 4 (dcl (pX T) J (a1 0))) (aw (aM (iO (ay (aa ad (da1 (yC pK ad))))) (dgn 5) (ag (dir (aj (bZ J) (Ff Bx (dv 3) (dv 5)) (dln aV T.bO (dv 3))) (dcl (iZ T) J (aa (dv 5) (da1 (dcl (pV T) J (aa (dix (dv 4) (dv 1)) (da1 (dix (dv 4) (dv 2))))))))))) (aw (aM (fU T.aZ (a1 3)) (dg2 6 5) (ag (dir (PWD.pt (io (aj yB (dv 5) dX) (dY (aj (bZ J) (dv 5) ad)))) (ay (aa fK (a1 6)))))) (dr (ay (aa fK (aa (Ff uz (dv 3) ad) (da1 (Ff uz (dv 3) (yC pK ad)))))))))))) (λds Q k h=>?_);unfold uN at h;split at h
 case h_2=>exact h.elim
 rename_i a b;obtain⟨n,t,rfl,o,G,h⟩:=h;have x:=G.1;have a1:=G.2.1;have y:=G.2.2.1;have A:=G.2.2.2.1;have wa:=aL o (h:=a.toNat) (by lia);have wb:=aL o (h:=b.toNat) (by lia);have tf:=qe t a.toNat b.toNat;have sw:=iy (sumP (col t a.toNat)).1 (sumP (col t a.toNat)).2 (sumP (col t b.toNat)).1 (sumP (col t b.toNat)).2;refine⟨rfl,n,t,rfl,o,G,rfl,n,t,rfl,o,?_⟩;refine⟨λE=>(¬(told t a.toNat b.toNat).all (isS 1)=true/\¬(told t a.toNat b.toNat).all (isS (-1))=true)/\∃U Y:Sl,E=[.val (.lst (t.map rowD)),.val (.int a),.val (.int b),.val (.lst (told t a.toNat b.toNat)),.val (rowD (sums t n)),U,Y],?_,?_⟩
 ·have bs:∀{c:Int×Int},(0<=c.2/\c.2<=c.1/\Bd 300 c.1/\Bd 300 c.2)->Bd 7000 c.1/\Bd 7000 c.2:=λh=>⟨h.2.2.1.mono (by decide),h.2.2.2.mono (by decide)⟩;have sd:∀{Q:D->Prop},Q (wholeS t a.toNat b.toNat)->wv [bi (sumP (col t a.toNat)),bi (sumP (col t b.toNat))] Q:=λq=>⟨⟨(bs wa).1,(bs wa).2,(bs wb).1,(bs wb).2⟩,q⟩;refine⟨sz,trivial,⟨rfl,tf⟩,⟨rfl,rfl⟩,λz=>?_,λz=>⟨trivial,⟨rfl,tf⟩,⟨rfl,rfl⟩,λC=>?_,λC=>?_⟩⟩
  ·have z:=count_all.mp z;have e:eP (told t a.toNat b.toNat) (wholeS t a.toNat b.toNat)=tkT 1 (wholeS t a.toNat b.toNat):=by unfold eP;rw[zzi z]
   rw[e]at h;exact kt x a1 (kt y A ⟨rfl,sd ⟨rfl,sw,h⟩⟩)
  ·have C:=count_all.mp C;have z:¬(told t a.toNat b.toNat).all (isS 1)=true:=λq=>by rw[count_all.mpr q]at z;cases z
   have e:eP (told t a.toNat b.toNat) (wholeS t a.toNat b.toNat)=tkT (-1) (wholeS t a.toNat b.toNat):=by unfold eP;rw[zzg z,zzi C]
   rw[e]at h;exact kt x a1 (kt y A ⟨rfl,sd ⟨rfl,sw,h⟩⟩)
  ·have z:¬(told t a.toNat b.toNat).all (isS 1)=true:=λq=>by rw[count_all.mpr q]at z;cases z
   have C:¬(told t a.toNat b.toNat).all (isS (-1))=true:=λq=>by rw[count_all.mpr q]at C;cases C
   exact⟨⟨z,C⟩,_,_,rfl⟩
 ·rintro _ ⟨⟨p,s⟩,U,Y,rfl⟩;refine⟨λE=>(told t a.toNat b.toNat).findIdx? kr=none/\∃U Y:Sl,E=[.val (.lst (t.map rowD)),.val (.int a),.val (.int b),.val (.lst (told t a.toNat b.toNat)),.val (rowD (sums t n)),U,Y],?_,?_⟩
  ·refine dLoop_enum (λi E=>(∀m z,m<i->(told t a.toNat b.toNat)[m]?=some z->kr z=false)/\∃U Y:Sl,E=[.val (.lst (t.map rowD)),.val (.int a),.val (.int b),.val (.lst (told t a.toNat b.toNat)),.val (rowD (sums t n)),U,Y]) ?_ ?_ _ ⟨λm z I=>absurd I (zyz _),_,_,rfl⟩
   ·rintro E ⟨M,J⟩;refine⟨?_,J⟩;rw[List.findIdx?_eq_none_iff];intro d hd;obtain⟨m,I,e⟩:=zxX.mp hd;exact M m d I (by rw[←e];exact zzp I)
   ·rintro i d E X hd ⟨M,U,Y,rfl⟩ L;have ret:kr d=true->Q (.tup [.str "open",.int i]):=λv=>by
     have H:(told t a.toNat b.toNat).findIdx? kr=some i:=by rw[List.findIdx?_eq_some_iff_getElem];obtain⟨k,e⟩:=zzt.mp hd;refine⟨k,by rw[e];exact v,λj N=>?_⟩;have:=M j ((told t a.toNat b.toNat)[j]'(zxS N k)) N (zzp _);rw[this];exact zzL
     unfold eP at h;rw[zzg p,zzg s,H]at h;exact h
    have u:kr d=false->∀m z,m<i+1->(told t a.toNat b.toNat)[m]?=some z->kr z=false:=λv m z I l=>by
     by_cases e:m=i
     ·subst e;rw[hd]at l;cases l;exact v
     ·exact M m z (by lia) l
    obtain⟨r,_,rfl⟩:=zzc.mp (zzD hd);rcases ix a.toNat b.toNat r with e|e|e|e<;>rw[e]at ret u ⊢
    ·exact⟨rfl,Br.t (Br.t ⟨sz,ret rfl⟩)⟩
    ·exact⟨rfl,Br.f ⟨⟨rfl,rfl⟩,Br.f (L _ ⟨u rfl,_,_,rfl⟩)⟩⟩
    ·exact⟨rfl,Br.f ⟨⟨rfl,rfl⟩,Br.f (L _ ⟨u rfl,_,_,rfl⟩)⟩⟩
    ·exact⟨rfl,Br.f ⟨⟨rfl,rfl⟩,Br.t ⟨sz,ret rfl⟩⟩⟩
  ·rintro _ ⟨H,U,Y,rfl⟩;unfold eP at h;rw[zzg p,zzg s,H]at h;refine⟨trivial,De H (.inl rfl) s ⟨trivial,?_⟩⟩;obtain⟨i1,j,i2,g⟩:=De H (.inr rfl) p rfl;injection g with g;have g:j=(told t a.toNat b.toNat).findIdx (isS (-1)):=by lia
   subst g;exact⟨i1,_,i2,sz,h⟩
theorem ma(m:Nat)(ps:ai (ai Int×Row)):(br m ps).map (·.1)=bu ((grp ps).map (·.1)):=by unfold br;rw[zzk];exact List.map_id _
theorem parts_mem{k:ai Int}:k∈(br m ps).map (·.1)↔k∈ps.map (·.1):=by rw[ma,(ak _).mem_iff,nK]
theorem qf{c:ai Int×Row}(h:c∈br m ps):c.2=sums ((ps.filter λp=>decide (p.1=c.1)).map (·.2)) m:=by obtain⟨k,_,rfl⟩:=zzc.mp h;rw[iu]
theorem BQ(m:Nat)(ps:ai (ai Int×Row)):br m ps=((br m ps).map (·.1)).map λk=>(k,sums ((ps.filter λp=>decide (p.1=k)).map (·.2)) m):=by
 rw[zzk]
 conv=>lhs;rw[←List.map_id (br m ps)]
 apply zzF;intro c j;show c=(c.1,_);rw[←qf j]
theorem BR(m:Nat)(ps:ai (ai Int×Row)):((br m ps).map (·.1)).Nodup:=by rw[ma];exact(ak _).nodup_iff.mpr (zf _)
theorem dE{α:Type}(p:α->Bool)(F:α->Int):∀l:ai α,((l.filter p).map F).sum=(l.map λx=>if p x=true then F x else 0).sum
 |[]=>rfl|x::l=>by rw[zzh,zzE,←dE p F l,zyM];split<;>simp
theorem gF{α:Type}{F:α->Int}:∀{l:ai α},(∀x∈l,F x=0)->(l.map F).sum=0
 |[],_=>rfl|x::l,h=>by rw[zzh,zzE,h x zzd,gF λy J=>h y (zzf _ J)];rfl
theorem sy{v:Int}{k:ai Int}:∀{K:ai (ai Int)},K.Nodup->k∈K->(K.map λx=>if k=x then v else 0).sum=v
 |[],_,h=>by simp at h
 |x::K,j,h=>by
  have j:=zyl.mp j;rw[zzh,zzE];by_cases z:k=x
  ·rw[zzi z];have:(K.map λx=>if k=x then v else 0).sum=0:=gF λy J=>zzg λe=>j.1 (by rw[←z,e];exact J);lia
  ·rw[zzg z,sy j.2 (by rcases zzr.mp h with h|h;exact absurd h z;exact h)];lia
theorem nM{α:Type}(F G:α->Int):∀l:ai α,(l.map λx=>F x+G x).sum=(l.map F).sum+(l.map G).sum
 |[]=>rfl|x::l=>by rw[zzh,zzh,zzh,zzE,zzE,zzE,nM F G l];lia
theorem uO(F:Row->Int){K:ai (ai Int)}(j:K.Nodup):∀(ps:ai (ai Int×Row)),(∀p∈ps,p.1∈K)->(K.map λk=>(((ps.filter λp=>decide (p.1=k)).map (·.2)).map F).sum).sum=((ps.map (·.2)).map F).sum
 |[],_=>gF λ_ _=>rfl|p::ps,h=>by
  have U:=uO F j ps λq J=>h q (zzf _ J);rw[zzh,zzh,zzE,←U,←sy (v:=F p.2) j (h p zzd),←nM];congr 1;apply zzF;intro k _;rw[zyM];by_cases z:p.1=k
  ·rw[zzi (zzJ z),zzi z,zzh,zzh,zzE]
  ·rw[zzg (by rw[zyr];exact z),zzg z];lia
theorem kx{h:Nat}(J:h<n):at_ (sums t' n) h=sumP (col t' h):=by unfold at_ sums;rw[zze,zzl,zzW J];rfl
theorem wE(m:Nat)(ps:ai (ai Int×Row)):sums ((br m ps).map (·.2)) m=sums (ps.map (·.2)) m:=by
 apply zzF;intro h J;have J:=zzB.mp J;have j:∀p∈ps,p.1∈(br m ps).map (·.1):=λp Y=>parts_mem.mpr (zzc.mpr ⟨p,Y,rfl⟩);have key:∀g:Int×Int->Int,(∀cs:ai (Int×Int),g (sumP cs)=(cs.map g).sum)->((col ((br m ps).map (·.2)) h).map g).sum=((col (ps.map (·.2)) h).map g).sum:=λg U=>by
  have:=uO (λr=>g (at_ r h)) (BR m ps) ps j;unfold col;rw[zzk,zzk (f:=λr=>at_ r h)];refine Eq.trans ?_ this
  conv=>lhs;rw[BQ m ps]
  rw[zzk,zzk];congr 1;apply zzF;intro k _;show g (at_ (sums ((ps.filter λp=>decide (p.1=k)).map (·.2)) m) h)=_;rw[kx J,U];unfold col;rw[zzk];rfl
 have C:=key (·.1) λcs=>rfl;have E:=key (·.2) λcs=>rfl;unfold sumP;rw[C,E]
theorem Dg(H:∀r∈t',RowN 110 m r)(G:t'.length<=60):RowN 200 m (sums t' m):=by
 refine⟨by unfold sums;simp,λc E=>?_⟩;obtain⟨h,Y,rfl⟩:=zzc.mp E;have Y:=zzB.mp Y;have U:∀x∈col t' h,Cnt 110 x.1 x.2:=λx M=>by obtain⟨r,I,rfl⟩:=zzc.mp M;exact(cD (H r I) Y).2
 have cl:(col t' h).length<=2^10:=by unfold col;rw[zza];exact zzo G (by decide)
 have C:0<=((col t' h).map (·.2)).sum/\((col t' h).map (·.2)).sum<=((col t' h).map (·.1)).sum:=by
  generalize col t' h=cs at U
  induction cs with
  |nil=>simp|cons c r T =>
   have:=T λd hd=>U d (zzf _ hd);have h1:=(U c zzd).lo;have h2:=(U c zzd).hi;simp only[zzh,zzE];lia
 refine⟨C.1,C.2,(gE (n:=110) (λi j=>?_) (by rw[zza];exact cl)).mono (by decide),(gE (n:=110) (λi j=>?_) (by rw[zza];exact cl)).mono (by decide)⟩
 ·obtain⟨c,J,rfl⟩:=zzc.mp j;exact(U c J).bt
 ·obtain⟨c,J,rfl⟩:=zzc.mp j;exact(U c J).bw
structure Rw where
 h:Int
 ks:List Int
 t:Int
 w:Int
variable{r:Rw}
def rwD(r:Rw):D:=.tup [.int r.h,az r.ks,.int r.t,.int r.w]
structure RwOk(n:Nat)(ms:List Int)(r:Rw):Prop where
 h0:0 <= r.h
 h1:r.h<n
 kl:r.ks.length=ms.length
 kk:∀(i:Nat) (k m:Int),r.ks[i]? = some k->ms[i]? = some m->0 <= k/\k<m
 w0:0 <= r.w
 wt:r.w <= r.t
 t1:r.t <= 10^12
structure MsOk(ms:List Int):Prop where
 l5:ms.length <= 5
 it:∀m∈ms,1 <= m/\m <= 6
def KR:DSp:=λds Q=>∃t w:Int,ds=[.tup [.int t,.int w]]/\(0<=w/\w<=t)/\Q (.bl true)
theorem wF(T:Tx K mg):T.wX.Ok P w base CX0 2 (spD K 1 KR):=by
 refine fnd ["thing"] (λJ _=>(ac (dir (PWD.pt (io (bG (aE (aC eM T.aW rfl (aa (dv 0) (da1 (lu rfl T.bj rfl)))))) (dY (aj (fF J) (dln aV T.bO (dv 0)) ad)))) gt) (ac (dir (PWD.pt (io (bG (aE (dcl (fC T) J (da1 (dx 0))))) (dY (bG (aE (dcl (fC T) J (da1 (dx 0)))))))) gt) (dr (ut yA yA ad (dx 0) (dx 0)))))) (λds Q hl h=>?_);obtain⟨t,w,rfl,⟨w0,C⟩,h⟩:=h;have j:Q (.bl (decide (w<=t))):=by rw[zzJ C];exact h
 exact⟨rfl,rfl,Br.f ⟨⟨rfl,rfl⟩,Br.f ⟨rfl,rfl,Br.f ⟨rfl,rfl,Br.f (Br.dt w0 j)⟩⟩⟩⟩
def IH:DSp:=λds Q=>∃(ks ms:ai Int),ds=[az ks,.lst (ms.map D.int)]/\ks.length=ms.length/\ms.length<=1000/\(∀(i:Nat) (k m:Int),ks[i]?=some k->ms[i]?=some m->0<=k/\k<m)/\Q (.bl true)
theorem qg:∀(ks ms:ai Int),zipD (ks.map D.int) (ms.map D.int)=(ks.zip ms).map λp=>.tup [.int p.1,.int p.2]
 |[],_=>rfl|_::_,[]=>rfl|k::ks,m::ms=>by rw[zzh,zzh,zipD,qg ks ms,List.zip_cons_cons,zzh]
theorem sA:(List.replicate n true).all id=true:=by rw[zyw];intro b j;rw[zyH j];rfl
theorem sC(T:Tx K mg):T.tD.Ok P w base CX0 3 (spD K 2 IH):=by
 refine fnd ["kinds","marks"] (λJ _=>(ac (dir (PWD.pt (io (bG (aE (aC eM T.aW rfl (aa (dv 0) (da1 (lu rfl T.bj rfl)))))) (dY (aj (fF J) (dln aV T.bO (dv 0)) (dln aV T.bO (dv 1)))))) gt) (dr (aC uB T.Cz PyProof.Rows.boot_all (da1 (dfc (ao ["kind","most"] [none,none] rfl (ir T.xb (a2 0 1)) (dg2 0 1) au (dcl (cu T) J (aa (dv 0) (aa ad (da1 (aP pI (dv 1) ad)))))))))))) (λds Q hl h=>?_);obtain⟨ks,ms,rfl,U,M,H,h⟩:=h;refine⟨rfl,rfl,Br.f ⟨⟨rfl,rfl⟩,lx (by rw[zza,zza,U]) rfl ?_⟩⟩;refine⟨ks.map D.int,ms.map D.int,rfl,rfl,?_⟩;rw[qg];refine bc (λ_=>.bl true) (λC=>∃a b,C=[a,b]) ?_ (λd hd C Y Z E G=>?_) _ ⟨_,_,rfl⟩ ?_
 ·rw[zza,List.length_zip];exact zzo (zzo (Nat.min_le_right _ _) M) (by decide)
 ·obtain⟨a,b,rfl⟩:=E;obtain⟨p,I,rfl⟩:=zzc.mp hd;obtain⟨i,j⟩:=zwG.mp I;rw[List.getElem?_zip_eq_some]at j;have:=H i p.1 p.2 j.1 j.2;exact⟨rfl,Br.t ⟨rfl,⟨this.1,by lia⟩,G _ ⟨_,_,rfl⟩⟩⟩
 ·have e:((ks.zip ms).map λp=>D.tup [.int p.1,.int p.2]).map (λ_=>D.bl true)=(List.replicate (ks.zip ms).length true).map D.bl:=by
   rw[zzk,zxL];exact List.map_const' ..
  rw[e];refine jX ?_;rw[sA];exact h
def II:DSp:=λds Q=>∃(r:Rw) (n:Nat) (ms:ai Int),ds=[rwD r,.int n,.lst (ms.map D.int)]/\RwOk n ms r/\MsOk ms/\Q (.bl true)
theorem BS(T:Tx K mg):T.Cu.Ok P w base CX0 4 (spD K 3 II):=by
 refine fnd ["row","many","marks"] (λJ _=>(ac (dir (PWD.pt (io (bG (aE (aC eM T.aW rfl (aa (dv 0) (da1 (lu rfl T.bj rfl)))))) (dY (aj (fF J) (dln aV T.bO (dv 0)) ad)))) gt) (ac (dir (PWD.pt (io (bG (aE (dcl (cu T) J (aa (dx 0) (aa ad (da1 (aP pI (dv 1) ad))))))) (dY (bG (aE (dcl (sC T) J (aa (dx 0) (a1 2)))))))) gt) (dr (ur (dcl (wF T) J (da1 (ay (aa (dx 0) (da1 (dx 0)))))) (uq (jQ yA (dx 0) (fB rfl T.oG)))))))) (λds Q hl h=>?_);obtain⟨r,n,ms,rfl,o,C,h⟩:=h;have j:Q (.bl (decide (r.t<=10^12))):=by rw[zzJ o.t1];exact h
 refine⟨rfl,rfl,Br.f ⟨⟨rfl,rfl⟩,Br.f ?_⟩⟩;refine⟨rfl,⟨o.h0,by have:=o.h1;lia⟩,Br.f ⟨rfl,r.ks,ms,rfl,o.kl,zzo C.l5 (by decide),o.kk,Br.f ?_⟩⟩;exact⟨sz,rfl,r.t,r.w,rfl,⟨o.w0,o.wt⟩,Br.t j⟩
def Fz:DSp:=λds Q=>∃(rs:ai Rw) (n:Nat) (ms:ai Int),ds=[.lst (rs.map rwD),.int n,.lst (ms.map D.int)]/\rs.length<=60/\(∀r∈rs,RwOk n ms r)/\MsOk ms/\Q (.bl true)
theorem wG(T:Tx K mg):T.xj.Ok P w base CX0 5 (spD K 3 Fz):=by
 refine fnd ["rows","many","marks"] (λJ _=>(ac (dir (PWD.pt (io (bG (aE (aC yT T.aW rfl (aa (dv 0) (da1 (ay (aa (lu rfl T.vH rfl) (da1 (lu rfl T.bj rfl))))))))) (dY (aj iq (dln aV T.bO (dv 0)) (fB rfl T.qH))))) gt) (dr (aC uB T.Cz PyProof.Rows.boot_all (da1 (dfc (ao ["row","many","marks"] [none,some 1,some 2] rfl (ar (dv 0)) (dgb 0) au (dcl (BS T) J (a3 0 1 2))))))))) (λds Q hl h=>?_);obtain⟨rs,n,ms,rfl,U,H,G,h⟩:=h;refine⟨sz,_,rfl,rfl,Br.f (Br.dn (by rw[zza];lia) ?_)⟩;refine bc (λ_=>.bl true) (λj=>∃a,j=[a,.val (.int n),.val (.lst (ms.map D.int))]) ?_ (λd hd j Y Z C E=>?_) _ ⟨_,rfl⟩ ?_
 ·rw[zza];exact zzo U (by decide)
 ·obtain⟨a,rfl⟩:=C;obtain⟨r,J,rfl⟩:=zzc.mp hd;exact Br.t ⟨rfl,r,n,ms,rfl,H r J,G,E _ ⟨_,rfl⟩⟩
 ·have e:(rs.map rwD).map (λ_=>D.bl true)=(List.replicate rs.length true).map D.bl:=by
   rw[zzk,zxL];exact List.map_const' ..
  rw[e];refine jX ?_;rw[sA];exact h
def BT:DSp:=λds Q=>∃(ms:ai Int),ds=[.lst (ms.map D.int)]/\MsOk ms/\Q (.bl true)
theorem sD(T:Tx K mg):T.tM.Ok P w base CX0 3 (spD K 1 BT):=by
 refine fnd ["marks"] (λU _=>(ac (dir (PWD.pt (io (bG (aE (aC yT T.aW rfl (aa (dv 0) (da1 (ay (aa (lu rfl T.vH rfl) (da1 (lu rfl T.bj rfl))))))))) (dY (aj iq (dln aV T.bO (dv 0)) (fB rfl T.oD))))) gt) (dr (aC uB T.Cz PyProof.Rows.boot_all (da1 (dfc (ao ["kinds"] [none] rfl (ar (dv 0)) (dgb 0) au (dcl (cu T) U (aa (dv 0) (aa ad (da1 (fB rfl T.oF)))))))))))) (λds Q hl h=>?_);obtain⟨ms,rfl,j,h⟩:=h;have l5:=j.l5;refine⟨sz,_,rfl,rfl,Br.f (Br.dn (by rw[zza];lia) ?_)⟩;refine bc (λ_=>.bl true) (λC=>∃a,C=[a]) ?_ (λd hd C Y Z E J=>?_) _ ⟨_,rfl⟩ ?_
 ·rw[zza];exact zzo j.l5 (by decide)
 ·obtain⟨a,rfl⟩:=E;obtain⟨m,G,rfl⟩:=zzc.mp hd;exact Br.t ⟨rfl,j.it m G,J _ ⟨_,rfl⟩⟩
 ·have e:(ms.map D.int).map (λ_=>D.bl true)=(List.replicate ms.length true).map D.bl:=by
   rw[zzk,zxL];exact List.map_const' ..
  rw[e];refine jX ?_;rw[sA];exact h
def fi(n:Nat)(r:Rw):Row:=(List.replicate n (0,0)).set r.h.toNat (r.t,r.w)
def gCoR:DSp:=λds Q=>∃(r:Rw) (n:Nat) (ms:ai Int),ds=[rwD r,.int n]/\RwOk n ms r/\n<=6/\Q (rowD (fi n r))
theorem ky(T:Tx K mg):T.kZ.Ok P w base CX0 1 (spD K 2 gCoR):=by
 refine fnd ["row","many","counts"] (λhr _=>(ac (dow 2 (yO (ff (bW (da1 (ay (aa ad (da1 ad)))))) (dv 1))) (ac (fS (ay (aa (dx 0) (da1 (dx 0)))) (lS (pv 2) (dx 0))) (dr (aU bK T.bj (a1 2)))))) (λds Q hl h=>?_);obtain⟨r,n,ms,rfl,o,n6,h⟩:=h;have h0:=o.h0;have j:=o.h1;have e:∀k:Nat,(List.replicate k [D.tup [.int 0,.int 0]]).flatten=(List.replicate k ((0,0):Int×Int)).map bi:=λk=>by
  induction k with
  |zero=>rfl|succ k J=>rw[zyD,zyD,zxP,zzh,J];rfl
 refine⟨sz,sz,⟨⟨by lia,by lia⟩,?_⟩,?_⟩
 ·rw[zzG];exact zzo (show 1*n<=6 by lia) (by decide)
 rw[zzG,e];refine⟨sz,trivial,r.h.toNat,lT h0 (by rw[zza,zwB];exact j),?_⟩;show Q (.tup (((List.replicate n ((0,0):Int×Int)).map bi).set r.h.toNat (bi (r.t,r.w))));rw[←zwS];exact h
def FA:DSp:=λds Q=>∃(n:Nat) (ms:ai Int) (rs:ai Rw),ds=[.int n,.lst (ms.map D.int),.lst (rs.map rwD)]/\(2<=n/\n<=6)/\MsOk ms/\rs.length<=60/\(∀r∈rs,RwOk n ms r)/\Q (du ⟨n,ms,gath n (rs.map λr=>(r.ks,fi n r))⟩)
theorem FB(o:RwOk n A r):RowN 110 n (fi n r):=by
 refine⟨by unfold fi;simp,λc j=>?_⟩;unfold fi at j;rcases zwe j with j|rfl
 ·rw[zyH j];exact pW (zyu 0) (zyu 0) (by unfold Bd;exact zwR _)
 ·refine pW o.w0 o.wt ?_;have:=o.t1;have:=o.w0;have:=o.wt;unfold Bd;have e:(2:Nat)^110=1298074214633706907132624082305024:=by decide
  lia
theorem qh(T:Tx K mg):T.Av.Ok P w base CX0 6 (spD K 3 FA):=by
 refine fnd ["many","marks","rows","pairs"] (λJ _=>(ac (dif (bG (aE (dcl (cu T) J (aa (dv 0) (aa (fB rfl T.ld) (da1 (fB rfl T.lC))))))) dnv) (ac (dif (bG (aE (dcl (sD T) J (a1 1)))) dnv) (ac (dif (bG (aE (dcl (wG T) J (a3 2 0 1)))) dnv) (ac (fg 3 (ao ["row","many"] [none,some 0] rfl (ar (dv 2)) (dgb 0) au (ay (aa (aU bK T.bj (da1 (dx 0))) (da1 (dcl (ky T) J (a2 0 1))))))) (dr (ay (aa (dv 0) (aa (aU bK T.bj (a1 1)) (da1 (aU bK T.bj (da1 (dcl (wC T) J (a2 0 3)))))))))))))) (λds Q hl h=>?_);obtain⟨n,ms,rs,rfl,⟨n2,b⟩,a,G,E,h⟩:=h;refine⟨rfl,⟨by lia,by lia⟩,Br.f ⟨rfl,ms,rfl,a,Br.f ⟨rfl,rs,n,ms,rfl,G,E,a,Br.f ?_⟩⟩⟩;refine aA (λpre U I=>∃r0 j:ai Rw,rs=r0++j/\pre=r0.map rwD/\U=(r0.map λr=>(r.ks,fi n r)).map dP/\∃s:Sl,I=[s,.val (.int n)]) (λU I H=>?_) (λpre d post U I Y e H g=>?_) _ ⟨[],_,rfl,rfl,rfl,_,rfl⟩
 ·obtain⟨r0,j,e,M,rfl,s,rfl⟩:=H;have e:=eV e M;subst e;have fin:ID [.int n,.lst ((rs.map λr=>(r.ks,fi n r)).map dP)] (λd=>yF [d] λd=>[D.int n,az ms,d].length<=sizeLine/\Q (.tup [.int n,az ms,d])):=by
   refine⟨n,_,ms.length,rfl,rfl,⟨b,by rw[zza];exact G,λp i=>?_⟩,sz,h⟩;obtain⟨r,J,rfl⟩:=zzc.mp i;exact⟨(E r J).kl,FB (E r J)⟩
  exact⟨rfl,fin⟩
 ·obtain⟨r0,j,C,rfl,rfl,s,rfl⟩:=H;rw[C,zzs]at e;have e:=zzZ e;cases j with
  |nil=>simp at e|cons r j =>
   rw[zzh]at e;injection e with c M;subst c;have J:=E r (by rw[C];simp);rw[C,zzm]at G;refine Br.t ⟨rfl,r,n,ms,rfl,J,b,sz,?_,g _ _ ⟨r0++[r],j,by rw[C];simp,by simp,by rw[zzs,zzs];rfl,_,rfl⟩⟩;rw[zza,zza];exact zzz (show r0.length<=60 by lia) (by decide)
def aH(s:ai Int):Int:=match s.getLast? with
 |some x=>x+1|none=>0
def extI(n:Nat)(s:ai Int):ai (ai Int):=(List.range (n - (aH s).toNat)).map λ(i:Nat)=>s++[aH s+(i:Int)]
def lgr(n:Nat)(J:ai (ai Int)):ai (ai Int):=J.flatMap (extI n)
def lv(n:Nat):Nat->ai (ai Int)
 |0=>[[]]|k+1=>lgr n (lv n k)
def chs(n:Nat):Nat->ai (ai Int)
 |0=>[]|k+1=>chs n k++lv n (k+1)
theorem uP:∀n,n<=5->∀k,k<=6->(lv n k).length<=10:=by decide +kernel
theorem IJ:∀n,n<=5->lv n (n+1)=[]:=by decide +kernel
theorem KS:∀n,n<=5->∀k,k<=n->lv n k≠[]:=by decide +kernel
theorem kB:∀n,n<=5->∀k,k<=6->(chs n k).length<=31:=by decide +kernel
def ascB:ai Int->Bool
 |[]=>true|x::r=>r.all (λy=>decide (x<y)) && ascB r
def okB(n:Nat)(s:ai Int):Bool:=decide (s.length<=5) && (s.all (λx=>decide (0<=x) && decide (x<(n:Int))) && ascB s)
theorem Dh:∀{s:ai Int},ascB s=true->s.Nodup
 |[],_=>zxy|x::r,h=>by have h:(r.all (λy=>decide (x<y)) && ascB r)=true:=h;rw[zzY,zyw]at h;refine zyl.mpr ⟨λm=>?_,Dh h.2⟩;have:=zzQ (h.1 x m);lia
theorem Di{n:Nat}(h:okB n s=true):s.length<=5/\(∀x∈s,0<=x/\x<(n:Int))/\s.Nodup:=by unfold okB at h;rw[zzY,zzY,zyw]at h;refine⟨zzQ h.1,λx J=>?_,Dh h.2.2⟩;have:=h.2.1 x J;rw[zzY]at this;exact⟨zzQ this.1,zzQ this.2⟩
theorem IK:∀n,n<=5->∀k,k<=6->(lv n k).all (okB n)=true:=by decide +kernel
theorem FC:∀n,n<=5->∀k,k<=6->(chs n k).all (okB n)=true:=by decide +kernel
theorem IL{n:Nat}(C:n<=5)(j:k<=6)(h:s∈lv n k):s.length<=5/\(∀x∈s,0<=x/\x<(n:Int))/\s.Nodup:=Di (zyw.mp (IK n C k j) s h)
theorem iQ{n:Nat}(C:n<=5)(j:k<=6)(h:s∈chs n k):s.length<=5/\(∀x∈s,0<=x/\x<(n:Int))/\s.Nodup:=Di (zyw.mp (FC n C k j) s h)
def fj(J:ai (ai Int)):D:=.lst (J.map az)
theorem FD(n:Nat)(s:ai Int):(extI n s).length<=n:=by unfold extI;rw[zza,zzK];lia
theorem FE(n:Nat)(J:ai (ai Int)):(lgr n J).length<=n*J.length:=by
 unfold lgr
 induction J with
 |nil=>simp|cons a r ih =>
  rw[List.flatMap_cons,zzm,zzI,Nat.mul_succ];have:=FD n a;lia
theorem BU{n:Nat}(h:∀x∈s,0<=x/\x<(n:Int)):0<=aH s/\aH s<=n:=by
 unfold aH;cases e:s.getLast? with
 |none=>exact⟨by simp,by simp⟩|some x =>
  have:=h x (List.mem_of_getLast? e);lia
def gLg:DSp:=λds Q=>∃(n:Nat) (J:ai (ai Int)),ds=[fj J,.int n]/\n<=5/\J.length<=100/\(∀s∈J,s.length<=5/\∀x∈s,0<=x/\x<(n:Int))/\Q (fj (lgr n J))
theorem BV(T:Tx K mg):T.Cy.Ok P w base CX0 1 (spD K 2 gLg):=by
 refine fnd ["tuples","many","told","some","start","mark"] (λhr _=>(ac (dow 2 (bW cB)) (aw (aM (ar (dv 0)) (dgn 3) (ac (dse 4 (nA (aj iq (dln aV T.bO (dv 3)) ad) (aP et (dix (dv 3) (yC pK ad)) ad) ad)) (ag (aM (yz T.dm (a2 4 1)) (dgn 5) (ag (eU (pv 2) (aP Fo (dv 3) (ay (a1 5))))))))) (dr (dv 2))))) (λds Q hl h=>?_);obtain⟨n,Y,rfl,v,M,ok,h⟩:=h;refine⟨sz,λρ=>∃j U J:Sl,ρ=[.val (fj Y),.val (.int n),.own ((lgr n Y).map az),j,U,J],?_,?_⟩
 ·refine aN (λpre ρ=>∃c0 c1:ai (ai Int),Y=c0++c1/\pre=c0.map az/\∃j U J:Sl,ρ=[.val (fj Y),.val (.int n),.own ((lgr n c0).map az),j,U,J]) (λρ H=>?_) (λpre d post ρ X e H s=>?_) _ ⟨[],Y,rfl,rfl,_,_,_,rfl⟩
  ·obtain⟨c0,c1,C,b,j,U,J,rfl⟩:=H;have C:=eV C b;subst C;exact⟨_,_,_,rfl⟩
  ·obtain⟨c0,c1,C,rfl,j,U,J,rfl⟩:=H;obtain⟨c,c1,rfl,rfl⟩:=dg C e;have co:=ok c (by rw[C];simp);have st:=BU co.2;have cl:c0.length<=100:=by rw[C,zzm]at M;lia
   have ll:=FE n c0;have lm:n*c0.length<=5*100:=Nat.mul_le_mul v cl;have inner:∀E:DEnds,(∀ρ,(∃j U J:Sl,ρ=[.val (fj Y),.val (.int n),.own ((lgr n (c0++[c])).map az),j,U,J])->E.nx ρ)->dFor (diR2 (bD (dVar 4) (bD (dVar 1) fQ))) (bX 5) (dApp 2 (dOp Ip (dVar 3) (dTup (bD (dVar 5) fQ)))) E [.val (fj Y),.val (.int n),.own ((lgr n c0).map az),.val (az c),.val (.int (aH c)),J]:=λE r=>by
    have e5:((n:Int) - aH c).toNat=n - (aH c).toNat:=by lia
    refine⟨⟨by lia,by lia,by lia,by lia⟩,?_⟩;refine gA (λk ρ=>∃J:Sl,ρ=[.val (fj Y),.val (.int n),.own ((lgr n c0++(List.range (k - aH c).toNat).map λ(i:Nat)=>c++[aH c+(i:Int)]).map az),.val (az c),.val (.int (aH c)),J]) _ _ ?_ ?_ _ ⟨J,by rw[Int.sub_self];simp⟩
    ·rintro ρ ⟨J,rfl⟩;refine r _ ⟨.val (az c),.val (.int (aH c)),J,?_⟩;have g:lgr n (c0++[c])=lgr n c0++(List.range (aH c+(((n:Int) - aH c).toNat:Nat) - aH c).toNat).map λ(i:Nat)=>c++[aH c+(i:Int)]:=by
      unfold lgr;rw[List.flatMap_append,List.flatMap_singleton];have:(aH c+(((n:Int) - aH c).toNat:Nat) - aH c).toNat=n - (aH c).toNat:=by lia
      rw[this];rfl
     rw[g]
    ·rintro k ρ Z k0 k1 ⟨J,rfl⟩ u;have m:(List.range (k+1 - aH c).toNat).map (λ(i:Nat)=>c++[aH c+(i:Int)])=(List.range (k - aH c).toNat).map (λ(i:Nat)=>c++[aH c+(i:Int)])++[c++[k]]:=by
      rw[show (k+1 - aH c).toNat=(k - aH c).toNat+1 by lia,zyQ,zzs];congr 2;show [c++[aH c+(((k - aH c).toNat:Nat):Int)]]=_;rw[show aH c+(((k - aH c).toNat:Nat):Int)=k by lia]
     refine⟨trivial,sz,?_,?_,u _ ⟨.val (.int k),?_⟩⟩
     ·show (c.map D.int).length+1<=sizeLine;rw[zza];exact zzo (show c.length+1<=6 by lia) (by decide)
     ·rw[zza,zzm,zza,zzK];exact zzz (show _<=600 by lia) (by decide)
     ·have em:∀A:ai (ai Int),(A++[c++[k]]).map az=A.map az++[.tup (c.map D.int++[.int k])]:=λA=>by
       rw[zzs];unfold az;simp
      rw[m,←zyF,em];rfl
   have go:∀E:DEnds,(∀ρ,(∃j U J:Sl,ρ=[.val (fj Y),.val (.int n),.own ((lgr n (c0++[c])).map az),j,U,J])->E.nx ρ)->True:=λ_ _=>trivial;have fin:∀ρ,(∃j U J:Sl,ρ=[.val (fj Y),.val (.int n),.own ((lgr n (c0++[c])).map az),j,U,J])->X ρ:=λρ ⟨j,U,J,p⟩=>s ρ ⟨c0++[c],c1,by rw[C];simp,by simp,j,U,J,p⟩;have el:(((c.map D.int).length:Nat):Int)=c.length:=by rw[zza]
   refine Br.di (λz=>?_) (λz=>?_)
   ·obtain⟨x,I⟩:∃x,c.getLast? = some x:=by
     cases q:c.getLast? with
     |none =>
      rw[List.getLast?_eq_none_iff]at q;rw[q]at z;exact absurd z (by decide)
     |some x=>exact⟨x,rfl⟩
    have G:aH c=x+1:=by unfold aH;rw[I]
    rw[G]at inner;have cp:0<c.length:=by lia
    have l:atI (c.map D.int) (-1)=some (.int x):=by unfold atI ixN;rw[zza,zzg (by decide),zzi (by lia)];show (c.map D.int)[(-1+(c.length:Int)).toNat]?=_;rw[zzl,show (-1+(c.length:Int)).toNat=c.length - 1 by lia,←List.getLast?_eq_getElem?,I];rfl
    show opt (atI (c.map D.int) (-1)) _;rw[l];exact inner _ fin
   ·have a:c=[]:=by
     have:c.length=0:=by lia
     exact zzX.mp this
    have G:aH c=0:=by rw[a];rfl
    rw[G]at inner;exact inner _ fin
 ·rintro _ ⟨j,U,J,rfl⟩;exact h
def gCh:DSp:=λds Q=>∃n:Nat,ds=[.int n]/\n<=5/\Q (fj (chs n (n+1)))
def cntO:Sl->Nat
 |.own l=>2*(40 - l.length)|_=>0
def flg:Sl->Nat
 |.val (.lst (_::_))=>1|_=>0
def muC(ρ:DS):Nat:=cntO (slot ρ 1)+flg (slot ρ 2)
theorem zk(T:Tx K mg):T.Aj.Ok P w base CX0 2 (spD K 1 gCh):=by
 refine fnd ["many","told","longest"] (λH _=>(ac (dow 1 (bW cB)) (ac (dse 2 (ff (bW (da1 (ay cB))))) (aw (gu (aj iq (dln aV T.bO (dv 2)) ad) (ac (dse 2 (dcl (BV T) H (a2 2 0))) (ag (Il (pv 1) (dv 2))))) (dr (dv 1)))))) (λds Q hl h=>?_);obtain⟨n,rfl,J,h⟩:=h;refine⟨sz,sz,sz,λj=>∃C:Sl,j=[.val (.int n),.own ((chs n (n+1)).map az),C],?_,?_⟩
 ·refine eu (λj=>∃k,k<=n+1/\j=[.val (.int n),.own ((chs n k).map az),.val (fj (lv n k))]) muC (λj X G Y=>?_) _ ⟨0,by lia,rfl⟩;obtain⟨k,kn,rfl⟩:=G;have l10:=uP n J k (by lia);have cl:=kB n J k (by lia);by_cases z:k=n+1
  ·subst z;have e:=IJ n J;rw[e];exact Br.f ⟨_,rfl⟩
  ·have U:k<=n:=by lia
   have ne:=KS n J k U;have lp:0<(lv n k).length:=List.length_pos_iff.mpr ne;have el:((((lv n k).map az).length:Nat):Int)=(lv n k).length:=by rw[zza]
   refine Br.dt (by lia) ?_;refine⟨rfl,n,lv n k,rfl,J,by lia,λs hs=>⟨(IL J (by lia) hs).1,(IL J (by lia) hs).2.1⟩,trivial,?_⟩;have l10':=uP n J (k+1) (by lia);have e1:lgr n (lv n k)=lv n (k+1):=rfl;have E:(chs n (k+1)).map az=(chs n k).map az++(lv n (k+1)).map az:=by show (chs n k++lv n (k+1)).map az=_;rw[zzs]
   refine⟨_,rfl,?_,Y _ ⟨k+1,by lia,by rw[E];rfl⟩ ?_⟩
   ·rw[zza,zza];exact zzo (show _<=100 by lia) (by decide)
   ·have c2:(chs n (k+1)).length=(chs n k).length+(lv n (k+1)).length:=by
     show (chs n k++lv n (k+1)).length=_;rw[zzm]
    show 2*(40 - ((chs n k).map az++(lv n (k+1)).map az).length)+flg (.val (fj (lv n (k+1))))<2*(40 - ((chs n k).map az).length)+flg (.val (fj (lv n k)));have I:flg (.val (fj (lv n k)))=1:=by
     cases q:lv n k with
     |nil=>exact absurd q ne|cons a r=>rfl
    have m2:flg (.val (fj (lv n (k+1))))<=(lv n (k+1)).length/\flg (.val (fj (lv n (k+1))))<=1:=by
     cases q:lv n (k+1) with
     |nil=>exact⟨zzn _,zzT _⟩|cons a r=>exact⟨Nat.succ_le_succ (zzT _),zzn _⟩
    rw[I,zzm,zza,zza];lia
 ·rintro _ ⟨C,rfl⟩;exact h
theorem wH(T:Tx K mg):T.iC.Ok P w base CX0 6 (spD K 2 (λds Q=>zi ds Q λj=>Q (.lst j))):=DL.FnOk.asD (sx T) (λds Q h=>h)
def tblB(b:Bk)(so:ai Int):ai Row:=(eW b so).map (·.2)
def trnB(b:Bk)(x y:Nat)(so:ai Int):D:=eP (told (tblB b so) x y) (wholeS (tblB b so) x y)
def hdD:D->D
 |.tup (d::_)=>d|_=>.non
def isT(b:Bk)(x y:Nat)(so:ai Int):Bool:=eqD (hdD (trnB b x y so)) (.str (PySem.Str.ofString "turned"))
theorem wI(ws:ai D)(d:D):∃s r,eP ws d=.tup (.str s::r)/\shp (.str s)=true:=by
 have C:∀s:Int,∃j r,tkT s d=.tup (.str j::r)/\shp (.str j)=true:=λs=>by
  unfold tkT;split
  ·exact⟨_,_,rfl,Shp.shp (n:=0) ⟨rfl,by decide +kernel,zzT _⟩⟩
  ·exact⟨_,_,rfl,Shp.shp (n:=0) ⟨rfl,by decide +kernel,zzT _⟩⟩
 unfold eP;split
 ·exact C 1
 ·split
  ·exact C (-1)
  ·split
   ·exact⟨_,_,rfl,Shp.shp (n:=0) ⟨rfl,by decide +kernel,zzT _⟩⟩
   ·exact⟨_,_,rfl,Shp.shp (n:=0) ⟨rfl,by decide +kernel,zzT _⟩⟩
def tby(b:Bk)(x y:Nat):ai (ai Int):=if b.cells=[] then[] else(chs b.marks.length (b.marks.length+1)).filter (isT b x y)
def gTB:DSp:=λds Q=>∃(b:Bk) (x y:Int),ds=[du b,.int x,.int y]/\BkOk b/\AbOk b.m x y/\Q (fj (tby b x.toNat y.toNat))
theorem zl{b:Bk}(J:BkOk b)(Y:b.cells≠[])(so:ai Int):Tbl b.m (tblB b so):=by
 refine⟨J.m2,J.m6,?_,?_,λr U=>?_⟩
 ·cases q:b.cells with
  |nil=>exact absurd q Y|cons c t =>
   have:vals c.1 so∈(eW b so).map (·.1):=by unfold eW;rw[parts_mem,zzk,zzc];exact⟨c,by rw[q];exact zzd,rfl⟩
   unfold tblB;cases e:eW b so with
   |nil=>rw[e]at this;simp at this|cons _ _=>simp
 ·unfold tblB;rw[zza];exact zzo (qd J) (by decide)
 ·obtain⟨c,j,rfl⟩:=zzc.mp U;rw[qf j];refine Dg (λr U=>?_) ?_
  ·obtain⟨p,C,rfl⟩:=zzc.mp U;obtain⟨d,hd,rfl⟩:=zzc.mp (zzu.mp C).1;exact(J.it d hd).2.1
  ·rw[zza];refine zzo (zzU _ _) ?_;rw[zza];exact J.c60
theorem zm:shp (.str (PySem.Str.ofString "turned"))=true:=Shp.shp (n:=0) ⟨rfl,by decide +kernel,zzT _⟩
theorem kC(T:Tx K mg):T.tJ.Ok P w base CX0 7 (spD K 3 gTB):=by
 refine fnd ["book","a","b"] (λU _=>(ac (aY (dcl (cE T) U (aa (dx 0) (a2 1 2)))) (ac (dir (aj (bZ U) (dln aV T.bO (dx 0)) ad) (ff (bW cB))) (dr (dfc (ao ["some","book","a","b"] [none,some 0,some 1,some 2] rfl (ar (dcl (zk T) U (da1 (dln aV T.bO (dx 0))))) (dgb 0) (eN (aj (bZ U) (dix (dcl (kw T) U (aa (dcl (wH T) U (a2 1 0)) (a2 2 3))) ad) fK)) (dv 0))))))) (λds Q hl h=>?_);obtain⟨b,x,y,rfl,H,j,h⟩:=h;have E:=H.mk5;refine⟨rfl,⟨j.a0,j.a1,j.b0,j.b1,j.ne⟩,⟨rfl,rfl⟩,λz=>?_,λz=>?_⟩
 ·have z:(((b.cells.map dP).length:Nat):Int)=0:=by simpa[aG]using z
  have G:b.cells=[]:=by rw[zza]at z;exact zzX.mp (by lia)
  unfold tby at h;rw[zzi G]at h;exact⟨sz,h⟩
 ·have z:(((b.cells.map dP).length:Nat):Int)≠0:=by simpa[aG]using z
  have G:b.cells≠[]:=λq=>z (by rw[q];rfl);unfold tby at h;rw[zzg G]at h;have em:(((b.marks.map D.int).length:Nat):Int)=((b.marks.length:Nat):Int):=by rw[zza]
  refine⟨rfl,b.marks.length,by rw[em],E,?_⟩;have a:∀s∈chs b.marks.length (b.marks.length+1),SoOk b s:=λs hs=>by have:=iQ E (show b.marks.length+1<=6 by lia) hs;exact⟨this.2.1,this.2.2,this.1⟩
  have cl:=kB _ E (b.marks.length+1) (by lia);generalize chs b.marks.length (b.marks.length+1)=cs at h a cl;refine aA (λpre J M=>∃c0 c1:ai (ai Int),cs=c0++c1/\pre=c0.map az/\J=(c0.filter (isT b x.toNat y.toNat)).map az/\∃s:Sl,M=[s,.val (du b),.val (.int x),.val (.int y)]) (λJ M I=>?_) (λpre d post J M Y e I k=>?_) _ ⟨[],cs,rfl,rfl,rfl,_,rfl⟩
  ·obtain⟨c0,c1,C,n,rfl,s,rfl⟩:=I;have C:=eV C n;subst C;exact h
  ·obtain⟨c0,c1,C,rfl,rfl,s,rfl⟩:=I;obtain⟨c,c1,rfl,rfl⟩:=dg C e;have so:=a c (by rw[C];simp);have p:=zl H G c;have l:(c0.filter (isT b x.toNat y.toNat)).length<=31:=by
    rw[C,zzm]at cl;exact zzo (zzU _ _) (by lia)
   refine⟨rfl,b,c,rfl,H,so,rfl,b.m,tblB b c,rfl,p,⟨j.a0,j.a1,j.b0,j.b1,j.ne⟩,?_⟩;obtain⟨u,r,i,sw⟩:=wI (told (tblB b c) x.toNat y.toNat) (wholeS (tblB b c) x.toNat y.toNat);have g:isT b x.toNat y.toNat c=eqD (.str u) (.str (PySem.Str.ofString "turned")):=by unfold isT trnB;rw[i];rfl
   rw[i];refine bR (zyu 0) rfl ⟨⟨sw,zm⟩,λz=>?_,λz=>?_⟩
   ·have z:isT b x.toNat y.toNat c=true:=by rw[g];exact z
    refine⟨?_,k _ _ ⟨c0++[c],c1,by rw[C];simp,by simp,?_,_,rfl⟩⟩
    ·rw[zza];exact zzz l (by decide)
    ·rw[zyA,zyp z,zzs];rfl
   ·have z:isT b x.toNat y.toNat c=false:=by rw[g];exact z
    refine k _ _ ⟨c0++[c],c1,by rw[C];simp,by simp,?_,_,rfl⟩;rw[zyA,zyq (by rw[z];exact zzL)];simp
def addX{α:Type}(k:ai Int)(r:α):ai (ai Int×ai α)->ai (ai Int×ai α)
 |[]=>[(k,[r])]|p::t=>if p.1=k then(p.1,p.2++[r])::t else p::addX k r t
def grpX{α:Type}(ps:ai (ai Int×α)):ai (ai Int×ai α):=ps.foldl (λg p=>addX p.1 p.2 g) []
theorem qi(ps:ai (ai Int×α))(p:ai Int×α):grpX (ps++[p])=addX p.1 p.2 (grpX ps):=by unfold grpX;rw[List.foldl_append];rfl
theorem gG{α:Type}(k:ai Int)(r:α):∀g:ai (ai Int×ai α),(addX k r g).map (·.1)=if k∈g.map (·.1) then g.map (·.1) else g.map (·.1)++[k]
 |[]=>rfl|p::t=>by
  unfold addX;by_cases e:p.1=k
  ·rw[zzi e,zzi (by simp[e])];rfl
  ·rw[zzg e,zzh,gG k r t];by_cases m:k∈t.map (·.1)
   ·rw[zzi m,zzi (by rw[zzh];exact zzf _ m),zzh]
   ·rw[zzg m,zzg (by rw[zzh];intro z;rcases zzr.mp z with z|z;exact e z.symm;exact m z),zzh];rfl
def xsOf{α:Type}(g:ai (ai Int×ai α))(k:ai Int):ai α:=((g.find? λp=>decide (p.1=k)).map (·.2)).getD []
theorem qj{α:Type}(k:ai Int)(r:α)(C:ai Int):∀g:ai (ai Int×ai α),xsOf (addX k r g) C=if k=C then xsOf g C++[r] else xsOf g C
 |[]=>by
  unfold addX xsOf;by_cases e:k=C
  ·rw[zzi e,zzR (by simpa using e)];rfl
  ·rw[zzg e,zzS (by simpa using e)]
 |p::t=>by
  have J:=qj k r C t;unfold addX;unfold xsOf at J ⊢;by_cases e:p.1=k
  ·rw[zzi e];by_cases j:k=C
   ·rw[zzi j,zzR (by simp[e,j]),zzR (by simp[e,j])];rfl
   ·rw[zzg j,zzS (by simp[e,j]),zzS (by simp[e,j])]
  ·rw[zzg e];by_cases j:p.1=C
   ·rw[zzR (by simpa using j),zzR (by simpa using j),zzg (λz=>e (by rw[j,z]))]
   ·rw[zzS (by simpa using j),zzS (by simpa using j)];exact J
theorem fk(ps:ai (ai Int×α))(k:ai Int):xsOf (grpX ps) k=(ps.filter λp=>decide (p.1=k)).map (·.2):=by
 have key:∀(qs:ai (ai Int×α)) g,xsOf (qs.foldl (λg (p:ai Int×α)=>addX p.1 p.2 g) g) k=xsOf g k++(qs.filter λp=>decide (p.1=k)).map (·.2):=by
  intro qs
  induction qs with
  |nil=>intro g;simp|cons q t J =>
   intro g;rw[zxh,J,qj];by_cases e:q.1=k
   ·rw[zzi e,zyp (by simpa using e),zzh,zyF];rfl
   ·rw[zzg e,zyq (by simpa using e)]
 rw[grpX,key];rfl
theorem gH(ps:ai (ai Int×α))(k:ai Int):k∈(grpX ps).map (·.1)↔k∈ps.map (·.1):=by
 have key:∀(qs:ai (ai Int×α)) g,k∈(qs.foldl (λg (p:ai Int×α)=>addX p.1 p.2 g) g).map (·.1)↔k∈g.map (·.1)∨k∈qs.map (·.1):=by
  intro qs
  induction qs with
  |nil=>intro g;simp|cons q t J =>
   intro g;rw[zxh,J,gG,zzh,zzr];by_cases m:q.1∈g.map (·.1)
   ·rw[zzi m];constructor
    ·rintro(h|h)
     ·exact .inl h
     ·exact .inr (.inr h)
    ·rintro(h|h|h)
     ·exact .inl h
     ·exact .inl (h ▸ m)
     ·exact .inr h
   ·rw[zzg m,zzx,zzy];constructor
    ·rintro((h|h)|h)
     ·exact .inl h
     ·exact .inr (.inl h)
     ·exact .inr (.inr h)
    ·rintro(h|h|h)
     ·exact .inl (.inl h)
     ·exact .inl (.inr h)
     ·exact .inr h
 rw[grpX,key];simp
theorem nN(ps:ai (ai Int×α)):((grpX ps).map (·.1)).Nodup:=by
 have key:∀(qs:ai (ai Int×α)) g,(g.map (·.1)).Nodup->((qs.foldl (λg (p:ai Int×α)=>addX p.1 p.2 g) g).map (·.1)).Nodup:=by
  intro qs
  induction qs with
  |nil=>intro g h;exact h|cons q t J =>
   intro g h;rw[zxh];refine J _ ?_;rw[gG];by_cases m:q.1∈g.map (·.1)
   ·rw[zzi m];exact h
   ·rw[zzg m];refine zxj.mpr ⟨h,by simp,λa j b C e=>?_⟩;rw[zzy.mp C]at e;exact m (e ▸ j)
 exact key ps [] zxy
def ax(n:Nat)(rs:ai Rw):Row:=(List.range n).map λ(h:Nat)=>(((rs.filter λr=>decide (r.h=(h:Int))).map (·.t)).sum,((rs.filter λr=>decide (r.h=(h:Int))).map (·.w)).sum)
theorem uQ{p:α->Bool}{l:ai α}(h:l.length<=n):(l.filter p).length<=n:=zzo (zzU _ _) h
def dG(rs:ai Rw)(so:ai Int):ai (ai Int×Rw):=(rs.filter λr=>decide (0<r.t)).map λr=>(vals r.ks so,r)
def dueL(n:Nat)(rs:ai Rw)(so:ai Int):ai (ai Int×Row):=(bu ((grpX (dG rs so)).map (·.1))).map λk=>(k,ax n (xsOf (grpX (dG rs so)) k))
theorem BW(ps:ai (ai Int×α)):(grpX ps).length<=ps.length:=by
 have key:∀(qs:ai (ai Int×α)) g,(qs.foldl (λg (p:ai Int×α)=>addX p.1 p.2 g) g).length<=g.length+qs.length:=by
  intro qs
  induction qs with
  |nil=>intro g;simp|cons q t J =>
   intro g;rw[zxh,zzI];have h1:=J (addX q.1 q.2 g);have j:=congrArg List.length (gG q.1 q.2 g);rw[zza]at j;have h3:(addX q.1 q.2 g).length<=g.length+1:=by
    rw[j];split
    ·rw[zza];lia
    ·rw[zzm,zza];simp
   lia
 have:=key ps [];simpa[grpX]using this
theorem eQ{F G:α->Int}{l:ai α}(h:∀x∈l,F x=G x):(l.map F).sum=(l.map G).sum:=by rw[zzF h]
theorem zn{F:Rw->Int}{P:ai Int->Bool}{K:ai (ai Int)}(C:K.Nodup):∀{rs:ai Rw},(∀r∈rs,r.ks∈K) ->
  (K.map λk=>if P k=true then(rs.map λr=>if r.ks=k then F r else 0).sum else 0).sum=(rs.map λr=>if P r.ks=true then F r else 0).sum
 |[],_=>gF λk _=>by split<;>rfl
 |r::rs,h=>by
  rw[zzh,zzE,←zn C λx J=>h x (zzf _ J)];have e:(K.map λk=>if P k=true then((r::rs).map λr=>if r.ks=k then F r else 0).sum else 0).sum=(K.map λk=>(if r.ks=k then(if P r.ks=true then F r else 0) else 0)+(if P k=true then(rs.map λr=>if r.ks=k then F r else 0).sum else 0)).sum:=by
   apply eQ;intro k _;rw[zzh,zzE];by_cases j:r.ks=k
   ·subst j;rw[zzi rfl,zzi rfl];split
    ·rfl
    ·rfl
   ·rw[zzg j,zzg j,zwT,zwT]
  rw[e,nM,sy C (h r zzd)]
theorem FF(o:RwOk n A r){h:Nat}(J:h<n):at_ (fi n r) h=if r.h=(h:Int) then(r.t,r.w) else(0,0):=by
 unfold at_ fi;have h0:=o.h0;have h1:=o.h1;rw[zze,List.getElem?_set];by_cases e:r.h=(h:Int)
 ·rw[zzi e,zzi (by lia),zzi (by rw[zwB];lia)];rfl
 ·rw[zzg e,zzg (by lia),List.getElem?_replicate,zzi J];rfl
def prs(n:Nat)(rs:ai Rw):ai (ai Int×Row):=rs.map λr=>(r.ks,fi n r)
theorem nO(n:Nat)(rs:ai Rw)(k:ai Int):bH (grp (prs n rs)) k=(rs.filter λr=>decide (r.ks=k)).map (fi n):=by rw[iu];unfold prs;rw[zwf,zzk];rfl
structure Part(pr:Int×Int->Int)(fr:Rw->Int):Prop where
 un:∀r:Rw,pr (r.t,r.w)=fr r
 z:pr (0,0)=0
 su:∀cs,pr (sumP cs)=(cs.map pr).sum
theorem FG:Part (·.1) (·.t):=⟨λ_=>rfl,rfl,λ_=>rfl⟩
theorem KU:Part (·.2) (·.w):=⟨λ_=>rfl,rfl,λ_=>rfl⟩
section
variable{rs:ai Rw}{pr:Int×Int->Int}{fr:Rw->Int}
theorem zo(pt:Part pr fr)(j:∀r∈rs,RwOk n ms r){h:Nat}(J:h<n)(k:ai Int):pr (at_ (sums (bH (grp (prs n rs)) k) n) h)=(rs.map λr=>if r.ks=k then(if r.h=(h:Int) then fr r else 0) else 0).sum:=by
 rw[kx J,nO,pt.su];unfold col;rw[zzk,zzk,dE];apply eQ;intro r U;by_cases e:r.ks=k
 ·rw[zzi (by simpa using e),zzi e];show pr (at_ (fi n r) h)=_;rw[FF (j r U) J];split
  ·exact pt.un r
  ·exact pt.z
 ·rw[zzg (by simpa using e),zzg e]
theorem zp{F:Rw->Int}:∀{l:ai Rw},0<(l.map F).sum->∃r∈l,0<F r
 |[],h=>by simp at h
 |r::l,h=>by
  rw[zzh,zzE]at h;by_cases e:0<F r
  ·exact⟨r,zzd,e⟩
  ·obtain⟨x,U,J⟩:=zp (F:=F) (l:=l) (by lia);exact⟨x,zzf _ U,J⟩
theorem gI(E:∀r∈rs,RwOk n ms r)(k:ai Int):iP (sums (bH (grp (prs n rs)) k) n)=true↔∃r∈rs,r.ks=k/\0<r.t:=by
 rw[triedB_iff];constructor
 ·rintro⟨c,T,H⟩;obtain⟨h,J,rfl⟩:=zzc.mp T;have J:=zzB.mp J;have e:=zo FG E J k;rw[kx J]at e;rw[e]at H;obtain⟨r,Y,q⟩:=zp H;by_cases C:r.ks=k
  ·rw[zzi C]at q;by_cases G:r.h=(h:Int)
   ·rw[zzi G]at q;exact⟨r,Y,C,q⟩
   ·rw[zzg G]at q;lia
  ·rw[zzg C]at q;lia
 ·rintro⟨r,Y,C,tp⟩;have o:=E r Y;have h0:=o.h0;have h1:=o.h1;have J:r.h.toNat<n:=by lia
  refine⟨at_ (sums (bH (grp (prs n rs)) k) n) r.h.toNat,?_,?_⟩
  ·rw[kx J];exact zzc.mpr ⟨r.h.toNat,zzB.mpr J,rfl⟩
  ·have e:=zo FG E J k;rw[e];have I:r.t∈rs.map λj=>if j.ks=k then(if j.h=(r.h.toNat:Int) then j.t else 0) else 0:=zzc.mpr ⟨r,Y,by rw[zzi C,zzi (by lia)]⟩
   have U:∀x∈rs.map λj=>if j.ks=k then(if j.h=(r.h.toNat:Int) then j.t else 0) else 0,0<=x:=λx a=>by
    obtain⟨j,M,rfl⟩:=zzc.mp a;have o':=E j M;have:=o'.w0;have:=o'.wt;split
    ·split
     ·lia
     ·lia
    ·lia
   have:=(CY U _ I).1;lia
theorem uR(pt:Part pr fr)(C:∀r∈rs,RwOk n ms r)(Y:∀r∈rs,r.t<=0->fr r=0){h:Nat}(U:h<n)(P:ai Int->Bool) :
  (((gath n (prs n rs)).filter λc=>P c.1).map λc=>pr (at_ c.2 h)).sum=(rs.map λr=>if P r.ks=true then(if r.h=(h:Int) then fr r else 0) else 0).sum:=by
 have E:(bu ((grp (prs n rs)).map (·.1))).Nodup:=(ak _).nodup_iff.mpr (zf _);have mem:∀r∈rs,r.ks∈bu ((grp (prs n rs)).map (·.1)):=λr J=>by rw[(ak _).mem_iff,nK];exact zzc.mpr ⟨(r.ks,fi n r),zzc.mpr ⟨r,J,rfl⟩,rfl⟩
 rw[←zn E mem];unfold gath br;rw[dE,dE,zzk];apply eQ;intro k hk;dsimp only[Function.comp];rw[zo pt C U k];cases z:iP (sums (bH (grp (prs n rs)) k) n) with
 |true=>rw[zzi rfl]|false =>
  rw[zzg (by intro z;cases z)];by_cases e:P k=true
  ·rw[zzi e];symm;refine gF λr J=>?_;by_cases j:r.ks=k
   ·have H:r.t<=0:=by
     refine Int.not_lt.mp λG=>?_;have:=(gI C k).mpr ⟨r,J,j,G⟩;rw[z]at this;cases this
    rw[zzi j,Y r J H];split<;>rfl
   ·rw[zzg j]
  ·rw[zzg e]
end
section
variable{rs:ai Rw}
theorem zq(o:RwOk n ms r):RowN 40 n (fi n r):=by
 refine⟨by unfold fi;simp,λc j=>?_⟩;unfold fi at j;rcases zwe j with j|rfl
 ·rw[zyH j];exact pW (zyu 0) (zyu 0) (by unfold Bd;exact zwR _)
 ·refine pW o.w0 o.wt ?_;have:=o.t1;have:=o.w0;have:=o.wt;unfold Bd;have e:(2:Nat)^40=1099511627776:=by decide
  lia
theorem FH{cs:ai (Int×Int)}(h:∀c∈cs,Cnt 40 c.1 c.2)(l:cs.length<=2^6):Cnt 110 (sumP cs).1 (sumP cs).2:=by
 have lo:∀cs:ai (Int×Int),(∀c∈cs,Cnt 40 c.1 c.2)->0<=(cs.map (·.2)).sum/\(cs.map (·.2)).sum<=(cs.map (·.1)).sum:=by
  intro cs
  induction cs with
  |nil=>intro _;exact⟨zyu 0,zyu 0⟩|cons c t U =>
   intro h;have h1:=U λx J=>h x (zzf _ J);have j:=h c zzd;have:=j.lo;have:=j.hi;rw[zzh,zzh,zzE,zzE];lia
 have b:Bd (40+6) (cs.map (·.1)).sum:=gE (λi E=>by obtain⟨c,C,rfl⟩:=zzc.mp E;exact(h c C).bt) (by rw[zza];exact l)
 exact pW (lo cs h).1 (lo cs h).2 (b.mono (by decide))
theorem uS{c:ai Int×Row}(E:∀r∈rs,RwOk n ms r)(h:c∈gath n (prs n rs)):∃k,c=(k,sums (bH (grp (prs n rs)) k) n)/\∃r∈rs,r.ks=k/\0<r.t:=by unfold gath at h;obtain⟨j,C⟩:=zzu.mp h;obtain⟨k,hk,rfl⟩:=zzc.mp j;exact⟨k,rfl,(gI E k).mp C⟩
theorem zr(j:∀r∈rs,RwOk n ms r)(J:r∈rs)(tp:0<r.t):(r.ks,sums (bH (grp (prs n rs)) r.ks) n)∈gath n (prs n rs):=by unfold gath;refine zzu.mpr ⟨zzc.mpr ⟨r.ks,?_,rfl⟩,(gI j r.ks).mpr ⟨r,J,rfl,tp⟩⟩;rw[(ak _).mem_iff,nK];exact zzc.mpr ⟨(r.ks,fi n r),zzc.mpr ⟨r,J,rfl⟩,rfl⟩
theorem FI(I:2<=n)(M:n<=6)(H:MsOk ms)(a:rs.length<=60)(E:∀r∈rs,RwOk n ms r):BkOk ⟨n,ms,gath n (prs n rs)⟩:=by
 refine⟨I,M,H.l5,?_,λc j=>?_⟩
 ·show (gath n (prs n rs)).length<=60;unfold gath;refine uQ ?_;unfold br;rw[zza,(ak _).length_eq,zza];have:=(pY (C:=λ_=>True) (R:=λ_=>True) (prs n rs) λ_ _=>⟨trivial,trivial⟩).len;have e:(prs n rs).length=rs.length:=by unfold prs;rw[zza]
  lia
 ·obtain⟨k,rfl,r,G,rfl,b⟩:=uS E j;refine⟨(E r G).kl,⟨?_,λc j=>?_⟩,triedB_iff.mp ((gI E r.ks).mpr ⟨r,G,rfl,b⟩)⟩
  ·show (sums _ n).length=n;unfold sums;rw[zza,zzK]
  ·obtain⟨h,U,rfl⟩:=zzc.mp j;have U:=zzB.mp U;refine FH (λc j=>?_) ?_
   ·obtain⟨row,J,rfl⟩:=zzc.mp j;rw[nO]at J;obtain⟨T,Y,rfl⟩:=zzc.mp J;exact(cD (zq (E T (zzu.mp Y).1)) U).2
   ·unfold col;rw[zza,nO,zza];exact zzo (uQ a) (by decide)
theorem hz1(rs:ai Rw):∀r∈rs,r.t<=0->(·.t) r=0∨r.t<0:=λr _ h=>by show r.t=0∨_;lia
theorem zt(j:∀r∈rs,RwOk n ms r):∀r∈rs,r.t<=0->r.t=0:=λr J h=>by have:=(j r J).w0;have:=(j r J).wt;lia
theorem zw(j:∀r∈rs,RwOk n ms r):∀r∈rs,r.t<=0->r.w=0:=λr J h=>by have:=(j r J).w0;have:=(j r J).wt;lia
theorem me(j:∀r∈rs,RwOk n ms r)(P:ai Int->Bool):sums (((gath n (prs n rs)).filter λc=>P c.1).map (·.2)) n=ax n (rs.filter λr=>P r.ks):=by
 unfold sums ax;apply zzF;intro h J;have J:=zzB.mp J;unfold sumP col;have C:=uR FG j (zt j) J P;have E:=uR KU j (zw j) J P;simp only[zzk];refine Prod.ext ?_ ?_
 ·show ((_:ai (ai Int×Row)).map λc=>(at_ c.2 h).1).sum=(((rs.filter λr=>P r.ks).filter λr=>decide (r.h=(h:Int))).map (·.t)).sum;rw[C,dE,dE];apply eQ;intro r _;split
  ·by_cases z:r.h=(h:Int)
   ·rw[zzi z,zzi (by simpa using z)]
   ·rw[zzg z,zzg (by simpa using z)]
  ·rfl
 ·show ((_:ai (ai Int×Row)).map λc=>(at_ c.2 h).2).sum=(((rs.filter λr=>P r.ks).filter λr=>decide (r.h=(h:Int))).map (·.w)).sum;rw[E,dE,dE];apply eQ;intro r _;split
  ·by_cases z:r.h=(h:Int)
   ·rw[zzi z,zzi (by simpa using z)]
   ·rw[zzg z,zzg (by simpa using z)]
  ·rfl
theorem sE(j:∀r∈rs,RwOk n ms r)(m:Nat):ax m (rs.filter λr=>decide (0<r.t))=ax m rs:=by
 unfold ax;apply zzF;intro h _;refine Prod.ext ?_ ?_
 ·show (((rs.filter _).filter _).map _).sum=((rs.filter _).map _).sum;rw[dE,dE,dE];apply eQ;intro r J;have:=zt j r J;by_cases z:0<r.t
  ·rw[zzi (by simpa using z)]
  ·rw[zzg (by simpa using z),this (by lia)];split<;>rfl
 ·show (((rs.filter _).filter _).map _).sum=((rs.filter _).map _).sum;rw[dE,dE,dE];apply eQ;intro r J;have:=zw j r J;by_cases z:0<r.t
  ·rw[zzi (by simpa using z)]
  ·rw[zzg (by simpa using z),this (by lia)];split<;>rfl
theorem kD(j:∀r∈rs,RwOk n ms r):sums ((gath n (prs n rs)).map (·.2)) n=ax n rs:=by have:=me j λ_=>true;rw[zxF.mpr λ_ _=>rfl,zxF.mpr λ_ _=>rfl]at this;exact this
theorem zu(j:∀r∈rs,RwOk n ms r)(so:ai Int):eW ⟨n,ms,gath n (prs n rs)⟩ so=dueL n rs so:=by
 show br n ((gath n (prs n rs)).map λc=>(vals c.1 so,c.2))=_;unfold br dueL;rw[pZ (zf _) (nN (dG rs so)) λk=>?_]
 ·apply zzF;intro k _;rw[iu,fk,zwf,zzk];have E:(((gath n (prs n rs)).filter ((λp=>decide (p.1=k)) ∘ λc=>(vals c.1 so,c.2))).map ((·.2) ∘ λc=>(vals c.1 so,c.2)))=((gath n (prs n rs)).filter λc=>decide (vals c.1 so=k)).map (·.2):=rfl;have H:sums (((gath n (prs n rs)).filter λc=>decide (vals c.1 so=k)).map (·.2)) n=ax n (rs.filter λr=>decide (vals r.ks so=k)):=me j λM=>decide (vals M so=k);rw[E,H];unfold dG;rw[zwf,zzk,zvd];have G:∀l:ai Rw,l.map ((·.2) ∘ λr=>(vals r.ks so,r))=l:=λl=>by
   have:((·.2) ∘ λr:Rw=>(vals r.ks so,r))=id:=rfl;rw[this,List.map_id]
  rw[G];have U:=sE (rs:=rs.filter λr=>decide (vals r.ks so=k)) (λr J=>j r (zzu.mp J).1) n;rw[zvd]at U;rw[←U];have Y:(rs.filter λr=>decide (0<r.t) && decide (vals r.ks so=k))=rs.filter λr=>((λp=>decide (p.1=k)) ∘ λr=>(vals r.ks so,r)) r && decide (0<r.t):=by apply zxR;intro r _;exact Bool.and_comm _ _
  rw[Y]
 ·rw[nK,gH,zzk];unfold dG;rw[zzk];constructor
  ·intro h;obtain⟨c,I,rfl⟩:=zzc.mp h;obtain⟨k,rfl,r,J,rfl,C⟩:=uS j I;exact zzc.mpr ⟨r,zzu.mpr ⟨J,by simpa using C⟩,rfl⟩
  ·intro h;obtain⟨r,J,rfl⟩:=zzc.mp h;obtain⟨J,C⟩:=zzu.mp J;exact zzc.mpr ⟨_,zr j J (by simpa using C),rfl⟩
end
def sT(h:Int)(xs:ai Rw):Int:=((xs.filter λr=>decide (r.h=h)).map (·.t)).sum
def sW(h:Int)(xs:ai Rw):Int:=((xs.filter λr=>decide (r.h=h)).map (·.w)).sum
abbrev Gp(rs:ai Rw)(so:ai Int):ai (ai Int×ai Rw):=grpX (dG rs so)
abbrev Kp(rs:ai Rw)(so:ai Int):ai (ai Int):=(Gp rs so).map (·.1)
abbrev Xp(rs:ai Rw)(so:ai Int)(k:ai Int):ai Rw:=xsOf (Gp rs so) k
structure RsOk(n:Nat)(ms:List Int)(rs:List Rw):Prop where
 n2:2 <= n
 n6:n <= 6
 mo:MsOk ms
 rl:rs.length <= 36
 ro:∀r∈rs,RwOk n ms r
 t9:∀r∈rs,1 <= r.t/\r.t <= 600
section
variable{rs:ai Rw}
abbrev BB(n:Nat)(ms:ai Int)(rs:ai Rw):Bk:=⟨n,ms,gath n (prs n rs)⟩
theorem cf{xs:ai Rw}{h:Nat}(J:h<n):at_ (ax n xs) h=(sT (h:Int) xs,sW (h:Int) xs):=by unfold at_ ax;rw[zze,zzl,zzW J];rfl
theorem sF(o:RsOk n ms rs):BkOk (BB n ms rs):=FI o.n2 o.n6 o.mo (by have:=o.rl;lia) o.ro
theorem nP(o:RsOk n ms rs)(so:ai Int):eW (BB n ms rs) so=(bu (Kp rs so)).map λk=>(k,ax n (Xp rs so k)):=zu o.ro so
theorem Dj(o:RsOk n ms rs)(so:ai Int):tblB (BB n ms rs) so=(bu (Kp rs so)).map λk=>ax n (Xp rs so k):=by unfold tblB;rw[nP o,zzk];rfl
end
def lowP(a b:Int):Int×Int:=(a.fdiv (if b<0 then -((Int.gcd a b:Nat):Int) else((Int.gcd a b:Nat):Int)),b.fdiv (if b<0 then -((Int.gcd a b:Nat):Int) else((Int.gcd a b:Nat):Int)))
theorem uT(j:b≠0):Ra.Low a b (lowP a b).1 (lowP a b).2:=Ra.low_of j rfl
theorem IM{x y:Int}(j:b≠0)(l:Ra.Low a b x y):x=(lowP a b).1/\y=(lowP a b).2:=l.uniq j (uT j)
def ratD(a b:Int):D:=.tup [.int (lowP a b).1,.int (lowP a b).2]
theorem IN(E:b≠0)(q:Q (ratD a b)):∀x y,Ra.Low a b x y->Q (.tup [.int x,.int y]):=λx y l=>by obtain⟨j,C⟩:=IM E l;rw[j,C];exact q
def bI(c:Int×Int):D:=if c.1=0 then .non else ratD c.2 c.1
theorem uU{c:Int×Int}(j:n<=7000)(C:Bd n c.1)(E:Bd n c.2)(q:Q (bI c)):pU [bi c] Q:=by
 refine⟨⟨C.mono j,E.mono j⟩,λe=>?_,λe=>IN e ?_⟩
 ·unfold bI at q;rw[zzi e]at q;exact q
 ·unfold bI at q;rw[zzg e]at q;exact q
def gWC:DSp:=λds Q=>match ds with
 |[.lst xs,.int h]=>∃(n:Nat) (t:ai Row),xs=t.map rowD/\Tbl n t/\(0<=h/\h<n)/\(sumP (col t h.toNat)).1≠0/\Q (bi (sumP (col t h.toNat)))|_=>False
theorem aO(T:Tx K mg):T.oK.Ok P w base CX0 4 (spD K 2 gWC):=by
 refine fnd ["table","house","count"] (λJ _=>(ac (aY (dcl (eO T) J (aa (dcl (bA T) J (a1 0)) (a1 1)))) (ac (dse 2 (dix (dcl (pX T) J (a1 0)) (dv 1))) (ac (dif (aj (bZ J) (dx 2) ad) dnv) (dr (dv 2)))))) (λds Q hl h=>?_);unfold gWC at h;split at h
 case h_2=>exact h.elim
 obtain⟨n,t,rfl,o,⟨h0,j⟩,hs,h⟩:=h;refine⟨rfl,bT o ⟨rfl,⟨h0,j⟩,rfl,n,t,rfl,o,kt h0 j ⟨⟨rfl,rfl⟩,λz=>?_,λ_=>h⟩⟩⟩;exact absurd (by simpa[aG]using z) hs
theorem wJ{t:ai Row}(M:∀r∈t,wx m r)(I:t.length<=1000){h:Int}(h0:0<=h)(H:h<m){s:Sl}{Q:ai D->Prop}(q:Q ((col t h.toNat).map bI)) :
  cq (bX 0) bF (Bp 1 pU (bD (dOp gIx (dVar 0) (dVar 1)) fQ)) (t.map rowD) [] [s,.val (.int h)] Q:=by
 refine aA (λpre J E=>∃j t1:ai Row,t=j++t1/\pre=j.map rowD/\J=(col j h.toNat).map bI/\∃s,E=[s,.val (.int h)]) (λJ E C=>?_) (λpre d post J E Y e C U=>?_) _ ⟨[],t,rfl,rfl,rfl,_,rfl⟩
 ·obtain⟨j,t1,rfl,e,rfl,_⟩:=C;have:t1=[]:=by
   have:=congrArg List.length e;simp at this;exact this
  subst this;simpa using q
 ·obtain⟨j,t1,rfl,rfl,rfl,s,rfl⟩:=C;rw[zzs]at e;have e:=zzZ e;cases t1 with
  |nil=>simp at e|cons r t1 =>
   injection e with G e2;subst G;have o:=M r (by simp);have c:=(cD o (h:=h.toNat) (by lia)).2;refine Br.t (dh o h0 H ⟨rfl,uU (by decide) c.bt c.bw ⟨?_,U _ _ ⟨j++[r],t1,by simp,by simp,by simp[col],_,rfl⟩⟩⟩);rw[zza];unfold col;rw[zza];have:j.length<=1000:=by rw[zzm]at I;lia
   exact zzz this (by decide)
def IO:DSp:=λds Q=>match ds with
 |[.lst xs,.int h]=>∃(n:Nat) (t:ai Row),xs=t.map rowD/\Tbl n t/\(0<=h/\h<n)/\Q (.lst ((col t h.toNat).map bI))|_=>False
theorem dj(T:Tx K mg):T.tH.Ok P w base CX0 4 (spD K 2 IO):=by
 refine fnd ["table","house"] (λJ _=>(dr (dfc (ao ["part","house"] [none,some 1] rfl (ar (dv 0)) (dgb 0) au (dcl (eC T) J (da1 (dix (dv 0) (dv 1)))))))) (λds Q hl h=>?_);unfold IO at h;split at h
 case h_2=>exact h.elim
 obtain⟨n,t,rfl,o,⟨h0,j⟩,h⟩:=h;exact wJ o.rows (zzo o.p60 (by decide)) h0 j h
namespace Rq
variable{b d:Int}{m n:Nat}{p q:Rat}
theorem cast_ne{b:Int}(j:b≠0):(b:Rat)≠0:=λh=>j (Rat.intCast_inj.mp (by simpa using h))
theorem KW{a c:Int}(j:b≠0)(hd:d≠0):(a:Rat) / b=(c:Rat) / d↔a*d=c*b:=by
 have hb':=cast_ne j;have hd':=cast_ne hd;constructor
 ·intro h;have:(a:Rat)*d=c*b:=by grind
  have:((a*d:Int):Rat)=((c*b:Int):Rat):=by rw[zzP,zzP];exact this
  exact Rat.intCast_inj.mp this
 ·intro h;have:((a*d:Int):Rat)=((c*b:Int):Rat):=by rw[h]
  grind
theorem self(q:Rat):(q.num:Rat) / ((q.den:Int):Rat)=q:=by rw[←Rat.divInt_eq_div];exact Rat.num_divInt_den q
theorem den_pos(q:Rat):(0:Int)<(q.den:Int):=by have:=q.den_pos;lia
theorem dH(q:Rat):(q.den:Int)≠0:=by have:=den_pos q;lia
theorem lowQ{a:Int}(j:b≠0):Ra.Low a b ((a:Rat) / b).num (((a:Rat) / b).den:Int):=by
 refine⟨den_pos _,?_,?_⟩
 ·exact((a:Rat) / b).reduced
 ·exact(KW (dH _) j).mp (self ((a:Rat) / b))
theorem low{a x y:Int}(j:b≠0)(l:Ra.Low a b x y):x=((a:Rat) / b).num/\y=(((a:Rat) / b).den:Int):=l.uniq j (lowQ j)
theorem Dk(p q:Rat):((p.num*(q.den:Int)+q.num*(p.den:Int):Int):Rat) / (((p.den:Int)*(q.den:Int):Int):Rat)=p+q:=by
 have hp:=self p;have hq:=self q;have dp:=cast_ne (dH p);have dq:=cast_ne (dH q)
 grind
theorem Dm(p q:Rat):((p.num*(q.den:Int) - q.num*(p.den:Int):Int):Rat) / (((p.den:Int)*(q.den:Int):Int):Rat)=p - q:=by
 have hp:=self p;have hq:=self q;have dp:=cast_ne (dH p);have dq:=cast_ne (dH q)
 grind
theorem Do(p q:Rat):((p.num*q.num:Int):Rat) / (((p.den:Int)*(q.den:Int):Int):Rat)=p*q:=by
 have hp:=self p;have hq:=self q;have dp:=cast_ne (dH p);have dq:=cast_ne (dH q);rw[zzP,zzP]
 grind
theorem zv(h:q≠0):q.num≠0:=λz=>h (Rat.num_eq_zero.mp z)
theorem Dp(p q:Rat)(h:q≠0):((p.num*(q.den:Int):Int):Rat) / (((p.den:Int)*q.num:Int):Rat)=p / q:=by
 have hp:=self p;have hq:=self q
 grind
structure QB(n:Nat)(q:Rat):Prop where
 nu:Bd n q.num
 de:Bd n (q.den:Int)
theorem QB.mono{m n:Nat}{q:Rat}(h:QB m q)(l:m<=n):QB n q:=⟨h.nu.mono l,h.de.mono l⟩
theorem QB.of{a:Int}(j:b≠0)(J:Bd n a)(U:Bd n b):QB n ((a:Rat) / b):=⟨J.le ((lowQ j).le j).1,U.le ((lowQ j).le j).2⟩
theorem nQ(p q:Rat):((p.den:Int)*(q.den:Int))≠0:=zxM (dH p) (dH q)
theorem QB.add{m n:Nat}{p q:Rat}(h:QB m p)(k:QB n q):QB (m+n+1) (p+q):=by rw[←Dk];exact QB.of (nQ p q) (((h.nu.mul k.de).add (k.nu.mul h.de)).mono (by lia)) ((h.de.mul k.de).mono (by lia))
theorem QB.sub{m n:Nat}{p q:Rat}(h:QB m p)(k:QB n q):QB (m+n+1) (p - q):=by rw[←Dm];exact QB.of (nQ p q) (((h.nu.mul k.de).sub (k.nu.mul h.de)).mono (by lia)) ((h.de.mul k.de).mono (by lia))
theorem QB.mul{m n:Nat}{p q:Rat}(h:QB m p)(k:QB n q):QB (m+n) (p*q):=by rw[←Do];exact QB.of (nQ p q) (h.nu.mul k.nu) (h.de.mul k.de)
theorem QB.div(h:QB m p)(k:QB n q)(J:q≠0):QB (m+n) (p / q):=by rw[←Dp p q J];exact QB.of (zxM (dH p) (zv J)) (h.nu.mul k.de) (h.de.mul k.nu)
end Rq
open Rq
def ratQ(q:Rat):D:=.tup [.int q.num,.int (q.den:Int)]
theorem cy:eqD (ratQ p) (ratQ q)=decide (p=q):=by
 unfold ratQ;rw[Bv];by_cases h:p=q
 ·subst h;simp
 ·rw[zyk h,Bool.and_eq_false_iff];by_cases e:p.num=q.num
  ·right
   refine zyk λz=>h ?_;rw[←self p,←self q,e,z]
  ·left
   exact zyk e
theorem cR(q:Rat):shp (ratQ q)=true:=Shp.shp (n:=1) .pair
theorem gJ{a:Int}(E:b≠0)(q:Q (ratQ ((a:Rat) / b))):∀x y,Ra.Low a b x y->Q (.tup [.int x,.int y]):=λx y l=>by obtain⟨j,C⟩:=Rq.low E l;rw[j,C];exact q
def gPl:DSp:=λds Q=>∃(p q:Rat) (m n:Nat),ds=[ratQ p,ratQ q]/\m+n<=6900/\QB m p/\QB n q/\Q (ratQ (p+q))
theorem kE(T:Tx K mg):T.JB.Ok P w base CX0 3 (spD K 2 gPl):=by refine fnd ["one","other"] (λJ _=>(dr (dcl (bS T) J (aa (aP et (aP cj (dx 0) (dx 1)) (aP cj (dx 1) (dx 0))) (da1 (aP cj (dx 0) (dx 1))))))) (λds Q hl h=>?_);obtain⟨p,q,m,n,rfl,l,h,k,r⟩:=h;exact⟨h.nu.cmul k.de (by lia) (by lia),k.nu.cmul h.de (by lia) (by lia),h.de.cmul k.de (by lia) (by lia),rfl,⟨nQ p q,(((h.nu.mul k.de).mono l).add ((k.nu.mul h.de).mono (n:=6900) (by lia))).mono (by decide),(h.de.mul k.de).mono (by lia)⟩,gJ (nQ p q) (by rw[Dk];exact r)⟩
theorem zx(h:QB 3000 p)(k:QB 3000 q)(r:Q (ratQ (p+q))):gPl [ratQ p,ratQ q] Q:=⟨p,q,3000,3000,rfl,by decide,h,k,r⟩
theorem dI(h:QB 3000 p)(k:QB 3000 q)(r:Q (ratQ (p - q))):yH [ratQ p,ratQ q] Q :=
 ⟨⟨nQ p q,h.nu,h.de,k.nu,k.de⟩,gJ (nQ p q) (by rw[Dm];exact r)⟩
theorem zy(h:QB 3000 p)(k:QB 3000 q)(r:Q (ratQ (p*q))):yI [ratQ p,ratQ q] Q :=
 ⟨⟨nQ p q,h.nu,h.de,k.nu,k.de⟩,gJ (nQ p q) (by rw[Do];exact r)⟩
theorem fG(h:QB 7000 p)(k:QB 7000 q)(r:Q (.bl (decide (p<q)))):Fd [ratQ p,ratQ q] Q:=by refine⟨⟨h.nu,h.de,k.nu,k.de⟩,?_⟩;have e:decide (p.num*(q.den:Int)<q.num*(p.den:Int))=decide (p<q):=decide_eq_decide.mpr (Rat.lt_iff p q).symm;rw[e];exact r
theorem FJ(h:QB 3000 p)(k:QB 3000 q)(J:q≠0)(r:Q (ratQ (p / q))):Fc [ratQ p,ratQ q] Q :=
 ⟨⟨zxM (dH p) (zv J),h.nu,h.de,k.nu,k.de⟩,gJ (zxM (dH p) (zv J)) (by rw[Dp p q J];exact r)⟩
def gTot:Nat->DSp
 |0=>λ_ _=>False|n+1=>λds Q=>∃qs:ai Rat,ds=[.lst (qs.map ratQ)]/\qs.length<=2^n/\(∀l,l <:+: qs->QB 3000 l.sum)/\Q (ratQ qs.sum)
theorem IP(qs:ai Rat)(h:Nat)(hh:h<=qs.length):cutD (qs.map ratQ) none (some (h:Int))=(qs.take h).map ratQ:=by
 have j:HT.sIx (qs.map ratQ).length 0 none=0:=rfl;have C:HT.sIx (qs.map ratQ).length (qs.map ratQ).length (some (h:Int))=h:=by rw[zza];unfold HT.sIx;simp;rw[zzg (by lia)];lia
 unfold cutD;rw[j,C,zva,zwO,List.map_take]
theorem IQ(qs:ai Rat)(h:Nat)(hh:h<=qs.length):cutD (qs.map ratQ) (some (h:Int)) none=(qs.drop h).map ratQ:=by
 have j:HT.sIx (qs.map ratQ).length 0 (some (h:Int))=h:=by rw[zza];unfold HT.sIx;simp;rw[zzg (by lia)];lia
 have C:HT.sIx (qs.map ratQ).length (qs.map ratQ).length none=(qs.map ratQ).length:=rfl;unfold cutD;rw[j,C,List.map_drop];apply zyN;rw[zxC];exact zzn _
theorem nR:∀a b:ai Rat,(a++b).sum=a.sum+b.sum
 |[],b=>by rw[List.nil_append,zwk,Rat.zero_add]
 |x::a,b=>by rw[List.cons_append,zzE,zzE,nR a b,Rat.add_assoc]
theorem IR(T:Tx K mg):∀n:Nat,FnOk P w K mg base CX0 (n+3) T.sY.f T.sY.fd ["ratios"] (spD K 1 (gTot n))
 |0=>⟨λb H Q E h=>by obtain⟨_,_,_,_,_,_,_,h,_⟩:=h;exact h.elim,λA outer s H args us b Q E _ _ _ _ h=>by obtain⟨_,_,_,_,_,_,_,h,_⟩:=h;exact h.elim⟩
 |n+1=>by
  have kJ:=λ(_:Tx K mg)=>IR T n;refine fnd ["ratios","half"] (λJ _=>(ac (dir (aj (bZ J) (dln aV T.bO (dv 0)) ad) (ay (aa ad (da1 ad)))) (ac (dir (aj (bZ J) (dln aV T.bO (dv 0)) ad) (dx 0)) (ac (dse 1 (aP rO (dln aV T.bO (dv 0)) ad)) (dr (dcl (kE T) J (aa (dcl (kJ T) J (da1 (ff (yN (dv 0) jS (jT (dv 1))))) (by lia)) (da1 (dcl (kJ T) J (da1 (ff (yN (dv 0) (jT (dv 1)) jS))) (by lia)))) (by lia))))))) (λds Q U h=>?_);obtain⟨qs,rfl,a,C,h⟩:=h;have hlm:(qs.map ratQ).length=qs.length:=zza ..;refine⟨⟨rfl,rfl⟩,λz=>?_,λz=>⟨⟨rfl,rfl⟩,λj=>?_,λj=>?_⟩⟩
  ·have z:((qs.map ratQ).length:Int)=0:=by simpa[aG]using z
   have:qs=[]:=zzX.mp (by lia);subst this;exact⟨sz,h⟩
  ·have j:((qs.map ratQ).length:Int)=1:=by simpa[aG]using j
   obtain⟨q,rfl⟩:∃q,qs=[q]:=List.length_eq_one_iff.mp (by lia);rw[zzE,zwk,Rat.add_zero]at h;show opt (atI [ratQ q] 0) Q;exact bR (d:=ratQ q) (zyu 0) rfl h
  ·have z:((qs.map ratQ).length:Int)≠0:=by simpa[aG]using z
   have j:((qs.map ratQ).length:Int)≠1:=by simpa[aG]using j
   have hl2:2<=qs.length:=by lia
   refine⟨⟨by decide,jG (by decide) (by decide)⟩,?_⟩;have M:((qs.map ratQ).length:Int) / 2=((qs.length / 2:Nat):Int):=by lia
   dsimp only;rw[M];generalize hq:qs.length / 2=hf;have c1:=IP qs hf (by lia);have Y:=IQ qs hf (by lia);cases n with
   |zero=>simp at a;lia|succ n =>
    have pw:2^(n+1)=2*2^n:=by rw[Nat.pow_succ];lia
    have G:qs.take hf <:+: qs:=(List.take_prefix hf qs).isInfix;have I:qs.drop hf <:+: qs:=(List.drop_suffix hf qs).isInfix;refine⟨rfl,qs.take hf,congrArg (λx=>[D.lst x]) c1,by rw[zyK];lia,λl U=>C l (U.trans G),?_⟩;refine⟨rfl,qs.drop hf,congrArg (λx=>[D.lst x]) Y,by rw[zxC];lia,λl U=>C l (U.trans I),?_⟩;refine⟨rfl,zx (C _ G) (C _ I) ?_⟩;rw[←nR,zwH];exact h
def optQ:bo Rat->D
 |none=>.non|some q=>ratQ q
def oq(xs:ai (bo Rat))(k:Nat):bo Rat:=xs.getD k none
def vq(xs:ai (bo Rat))(k:Nat):Rat:=(oq xs k).getD 0
def plq(xs:ai (bo Rat))(n:Nat):ai Nat:=(List.range n).filter λk=>(oq xs k).isSome
def bf(xs:ai (bo Rat))(st:Nat×Nat)(k:Nat):Nat×Nat:=(if vq xs k<vq xs st.1 then k else st.1,if vq xs st.2<vq xs k then k else st.2)
def aK(xs:ai (bo Rat)):Nat×Nat:=match plq xs xs.length with
 |[]=>(0,0)|p::ps=>(p::ps).foldl (bf xs) (p,p)
def qk(xs:ai (bo Rat)):D:=.tup [ratQ (vq xs (aK xs).1),.int (aK xs).1,ratQ (vq xs (aK xs).2),.int (aK xs).2]
theorem BX(xs:ai (bo Rat))(n:Nat):plq xs (n+1)=plq xs n++(if (oq xs n).isSome=true then[n] else[]):=by unfold plq;rw[zyQ,zyA,zyM,List.filter_nil]
theorem uV(h:k<xs.length):xs[k]?=some (oq xs k):=by unfold oq;rw[zze];simp[h]
theorem nS(h:k∈plq xs n):k<n/\oq xs k=some (vq xs k):=by
 unfold plq at h;rw[zzu,zzB]at h;refine⟨h.1,?_⟩;unfold vq;cases e:oq xs k with
 |none=>rw[e]at h;exact absurd h.2 (by simp)|some q=>rfl
theorem zA(h:k<n)(hs:(oq xs k).isSome=true):k∈plq xs n:=by unfold plq;rw[zzu,zzB];exact⟨h,hs⟩
theorem kF(xs:ai (bo Rat))(J:plq xs xs.length≠[]):((aK xs).1∈plq xs xs.length/\(aK xs).2∈plq xs xs.length)/\∀k∈plq xs xs.length,vq xs (aK xs).1<=vq xs k/\vq xs k<=vq xs (aK xs).2:=by
 have key:∀(ks:ai Nat) (st:Nat×Nat),((ks.foldl (bf xs) st).1∈ks∨(ks.foldl (bf xs) st).1=st.1)/\((ks.foldl (bf xs) st).2∈ks∨(ks.foldl (bf xs) st).2=st.2)/\vq xs (ks.foldl (bf xs) st).1<=vq xs st.1/\vq xs st.2<=vq xs (ks.foldl (bf xs) st).2/\∀k∈ks,vq xs (ks.foldl (bf xs) st).1<=vq xs k/\vq xs k<=vq xs (ks.foldl (bf xs) st).2:=by
  intro ks
  induction ks with
  |nil=>intro st;exact⟨.inr rfl,.inr rfl,zyh,zyh,λk I=>by simp at I⟩
  |cons k r T =>
   intro st;rw[zxh];obtain⟨U,Y,G,H,M⟩:=T (bf xs st k);have C:vq xs (bf xs st k).1<=vq xs st.1/\vq xs (bf xs st k).1<=vq xs k/\((bf xs st k).1=k∨(bf xs st k).1=st.1):=by
    unfold bf;dsimp only;split
    ·exact⟨by grind,zyh,.inl rfl⟩
    ·exact⟨zyh,by grind,.inr rfl⟩
   have E:vq xs st.2<=vq xs (bf xs st k).2/\vq xs k<=vq xs (bf xs st k).2/\((bf xs st k).2=k∨(bf xs st k).2=st.2):=by
    unfold bf;dsimp only;split
    ·exact⟨by grind,zyh,.inl rfl⟩
    ·exact⟨zyh,by grind,.inr rfl⟩
   refine⟨?_,?_,Rat.le_trans G C.1,Rat.le_trans E.1 H,λx j=>?_⟩
   ·rcases U with U|U
    ·exact .inl (zzf _ U)
    ·rw[U];rcases C.2.2 with e|e
     ·exact .inl (by rw[e];exact zzd)
     ·exact .inr e
   ·rcases Y with Y|Y
    ·exact .inl (zzf _ Y)
    ·rw[Y];rcases E.2.2 with e|e
     ·exact .inl (by rw[e];exact zzd)
     ·exact .inr e
   ·rcases zzr.mp j with rfl|j
    ·exact⟨Rat.le_trans G C.2.1,Rat.le_trans E.2.1 H⟩
    ·exact M x j
 unfold aK;generalize hp:plq xs xs.length=ps at J;cases ps with
 |nil=>exact absurd rfl J|cons p ps =>
  have k:=key (p::ps) (p,p);refine⟨⟨?_,?_⟩,k.2.2.2.2⟩
  ·rcases k.1 with e|e
   ·exact e
   ·dsimp only at e ⊢;rw[e];exact zzd
  ·rcases k.2.1 with e|e
   ·exact e
   ·dsimp only at e ⊢;rw[e];exact zzd
def gEQ:DSp:=λds Q=>∃xs:ai (bo Rat),ds=[.lst (xs.map optQ)]/\(∀q,some q∈xs->QB 7000 q)/\xs.length<=1000/\plq xs xs.length≠[]/\Q (qk xs)
theorem FK(E:∀q,some q∈xs->QB 7000 q)(G:k∈plq xs xs.length):QB 7000 (vq xs k):=by obtain⟨j,C⟩:=nS G;have:=uV j;rw[C]at this;exact E _ (zzD this)
theorem wK{k:Nat}(E:k∈plq xs xs.length)(q:Q (ratQ (vq xs k))):opt (atI (xs.map optQ) (k:Int)) Q:=by obtain⟨j,C⟩:=nS E;refine bR (by lia) ?_ q;rw[zzG,zzl,uV j,C];rfl
theorem BY(hl:xs.length<=1000){x y:Sl}{Q:ai D->Prop}(q:Q ((plq xs xs.length).map λ(k:Nat)=>D.int k)) :
  cq (Bu 2 (pH (bX 0) (pH (bX 1) EU))) (dB (dOp (gIsN true) (dVar 1) (dC .non))) (dVar 0) (eA 0 (xs.map optQ)) [] [x,y] Q:=by
 refine aA (λpre J E=>J=(plq xs pre.length).map (λ(k:Nat)=>D.int k)/\∃x y,E=[x,y]) (λJ E C=>?_) (λpre d post J E Y e C H=>?_) _ ⟨rfl,_,_,rfl⟩
 ·rw[C.1,aJ,zza];exact q
 ·obtain⟨rfl,x,y,rfl⟩:=C;have I:=congrArg List.length e;rw[aJ,zza,zzm,zzI]at I;have c:(eA 0 (xs.map optQ))[pre.length]?=some d:=by
   rw[e,zzM (zzn _),zyY];rfl
  obtain⟨T,U,rfl⟩:=eB _ _ _ _ c;have g:pre.length<xs.length:=by lia
  have a:T=optQ (oq xs pre.length):=by rw[zzl,uV g]at U;cases U;rfl
  subst a;have M:∀m:Nat,(plq xs m).length<=m:=λm=>by unfold plq;have:=zzU (λk=>(oq xs k).isSome) (List.range m);simpa using this
  have lt:((plq xs pre.length).map (λ(k:Nat)=>D.int k)).length<sizeLine:=by rw[zza];exact zzz (show (plq xs pre.length).length<=1000 by have:=M pre.length;lia) (by decide)
  have b:((0+pre.length:Nat):Int)=(pre.length:Int):=by lia
  have j:=BX xs pre.length;cases G:oq xs pre.length with
  |none =>
   rw[G]at j;refine⟨rfl,Br.f (H _ _ ⟨?_,_,_,rfl⟩)⟩;rw[zzm,zzN,j];simp
  |some v =>
   rw[G]at j;refine⟨rfl,Br.t ⟨lt,H _ _ ⟨?_,_,_,rfl⟩⟩⟩;rw[zzm,zzN,j,zzs,b];rfl
theorem iR(T:Tx K mg):T.qJ.Ok P w base CX0 2 (spD K 1 gEQ):=by
 refine fnd ["ratios","places","least","greatest","place"] (λg _=>(ac (fg 1 (ao ["place","ratio"] [none,none] rfl (fU T.aZ (a1 0)) (dg2 0 1) (eN (aj nB (dv 1) dX)) (dv 0))) (ac (dse 2 (dx 1)) (ac (dse 3 (dx 1)) (aw (aM (ar (dv 1)) (dgn 4) (aw (dif (aE (dcl (cL T) g (aa (dix (dv 0) (dv 4)) (da1 (dix (dv 0) (dv 2)))))) (ag (dse 2 (dv 4)))) (ag (dif (aE (dcl (cL T) g (aa (dix (dv 0) (dv 3)) (da1 (dix (dv 0) (dv 4)))))) (ag (dse 3 (dv 4))))))) (dr (ay (aa (dix (dv 0) (dv 2)) (aa (dv 2) (aa (dix (dv 0) (dv 3)) (a1 3))))))))))) (λds Q hl h=>?_);obtain⟨xs,rfl,M,l,Y,h⟩:=h;refine BY l ?_;have i:=(kF xs Y).1;generalize a:plq xs xs.length=ps at Y;obtain⟨p,rest,rfl⟩:∃p rest,ps=p::rest:=by
  cases ps with
  |nil=>exact absurd rfl Y|cons p rest=>exact⟨p,rest,rfl⟩
 have mem:∀k∈p::rest,k∈plq xs xs.length:=λk L=>by rw[a];exact L
 refine bR (zyu 0) rfl (bR (zyu 0) rfl ?_);have u:aK xs=(p::rest).foldl (bf xs) (p,p):=by unfold aK;rw[a]
 refine⟨λC=>∃s:Sl,C=[.val (.lst (xs.map optQ)),.val (.lst ((p::rest).map λ(k:Nat)=>D.int k)),.val (.int (aK xs).1),.val (.int (aK xs).2),s],?_,?_⟩
 ·refine aN (λpre C=>∃ks J:ai Nat,p::rest=ks++J/\pre=ks.map (λ(k:Nat)=>D.int k)/\(ks.foldl (bf xs) (p,p)).1∈p::rest/\(ks.foldl (bf xs) (p,p)).2∈p::rest/\∃s:Sl,C=[.val (.lst (xs.map optQ)),.val (.lst ((p::rest).map λ(k:Nat)=>D.int k)),.val (.int (ks.foldl (bf xs) (p,p)).1),.val (.int (ks.foldl (bf xs) (p,p)).2),s]) (λC I=>?_) (λpre d post C X e I A=>?_) _ ⟨[],p::rest,rfl,rfl,zzd,zzd,_,rfl⟩
  ·obtain⟨ks,J,j,q,_,_,s,rfl⟩:=I;have:J=[]:=by
    have:=congrArg List.length q;have v:=congrArg List.length j;simp only[zza,zzm]at this v;exact zzX.mp (by lia)
   subst this;rw[zyb]at j;rw[u,j];exact⟨s,rfl⟩
  ·obtain⟨ks,J,j,rfl,G,H,s,rfl⟩:=I;rw[j,zzs]at e;have e:=zzZ e;cases J with
   |nil=>simp at e|cons k J =>
    rw[zzh]at e;injection e with r E;subst r;have mk:k∈p::rest:=by rw[j];simp
    have fs:(ks++[k]).foldl (bf xs) (p,p)=bf xs (ks.foldl (bf xs) (p,p)) k:=by rw[List.foldl_append];rfl
    generalize ks.foldl (bf xs) (p,p)=st at G H fs;have bk:=FK M (mem k mk);have m:=FK M (mem _ G);have n:=FK M (mem _ H);have b:∀{x y:Nat} {c:Prop} [Decidable c],x∈p::rest->y∈p::rest->(if c then x else y)∈p::rest:=λhx hy=>by split<;>assumption
    have U:X [.val (.lst (xs.map optQ)),.val (.lst ((p::rest).map λ(k:Nat)=>D.int k)),.val (.int (bf xs st k).1),.val (.int (bf xs st k).2),.val (.int (k:Int))]:=by
     refine A _ ⟨ks++[k],J,by rw[j];simp,by simp,?_,?_,.val (.int (k:Int)),?_⟩
     ·rw[fs];exact b mk G
     ·rw[fs];exact b mk H
     ·rw[fs]
    refine⟨λC=>C=[.val (.lst (xs.map optQ)),.val (.lst ((p::rest).map λ(k:Nat)=>D.int k)),.val (.int (bf xs st k).1),.val (.int st.2),.val (.int (k:Int))],wK (mem k mk) (wK (mem _ G) ⟨rfl,fG bk m (Br.di (λz=>?_) (λz=>?_))⟩),?_⟩
    ·show _=_;unfold bf;rw[zzi z];rfl
    ·show _=_;unfold bf;rw[zzg z];rfl
    ·rintro _ rfl;refine wK (mem _ H) (wK (mem k mk) ⟨rfl,fG n bk (Br.di (λz=>?_) (λz=>?_))⟩)
     ·have E:(bf xs st k).2=k:=by unfold bf;rw[zzi z]
      rw[E]at U;exact U
     ·have E:(bf xs st k).2=st.2:=by unfold bf;rw[zzg z]
      rw[E]at U;exact U
 ·rintro _ ⟨s,rfl⟩;exact wK i.1 (wK i.2 ⟨sz,h⟩)
def shQ(c:Int×Int):Rat:=(c.2:Rat) / (c.1:Rat)
def shO(c:Int×Int):bo Rat:=if c.1=0 then none else some (shQ c)
theorem FL{a:Int}(j:b≠0):ratD a b=ratQ ((a:Rat) / b):=by obtain⟨C,E⟩:=Rq.low j (uT j);unfold ratD ratQ;rw[C,E]
theorem gL(c:Int×Int):bI c=optQ (shO c):=by
 unfold bI shO;split
 ·rfl
 ·rename_i h;exact FL h
theorem iz(cs:Row):cs.map bI=(cs.map shO).map optQ:=by rw[zzk];exact zzF λc _=>gL c
theorem KY{c:Int×Int}(h:Cnt n c.1 c.2)(h0:c.1≠0):QB n (shQ c):=QB.of h0 h.bw h.bt
theorem kG{cs:Row}(j:∀c∈cs,Cnt n c.1 c.2):∀q,some q∈cs.map shO->QB n q:=λq J=>by
 obtain⟨c,C,e⟩:=zzc.mp J;unfold shO at e;split at e
 ·cases e
 ·rename_i h0;cases e;exact KY (j c C) h0
theorem cH{t:ai Row}(o:Tbl n t){h:Nat}(J:h<n):∀c∈col t h,Cnt 200 c.1 c.2:=λc j=>by obtain⟨r,U,rfl⟩:=zzc.mp j;exact(cD (o.rows r U) J).2
theorem FM{t:ai Row}(o:Tbl n t){h:Nat}:(col t h).length<=1000:=by unfold col;rw[zza];exact zzo o.p60 (by decide)
theorem gM{cs:Row}(hs:(sumP cs).1≠0):plq (cs.map shO) (cs.map shO).length≠[]:=λz=>by
 apply hs;have J:∀c∈cs,c.1=0:=λc C=>zxf λh=>by
  obtain⟨k,j,e⟩:=zxX.mp C;have:k∈plq (cs.map shO) (cs.map shO).length:=by refine zA (by rw[zza];exact j) ?_;unfold oq;rw[zze,zzl,zzp j,e];show (shO c).isSome=true;unfold shO;rw[zzg h];rfl
  rw[z]at this;simp at this
 show (cs.map (·.1)).sum=0;clear z hs
 induction cs with
 |nil=>rfl|cons c r U =>
  rw[zzh,zzE,J c zzd,U λd hd=>J d (zzf _ hd)];rfl
def colO(t:ai Row)(h:Int):ai (bo Rat):=(col t h.toNat).map shO
def gEO:DSp:=λds Q=>match ds with
 |[.lst xs,.int h]=>∃(n:Nat) (t:ai Row),xs=t.map rowD/\Tbl n t/\(0<=h/\h<n)/\(sumP (col t h.toNat)).1≠0/\Q (qk (colO t h))|_=>False
theorem fm(T:Tx K mg):T.Ak.Ok P w base CX0 5 (spD K 2 gEO):=by
 refine fnd ["table","house"] (λJ _=>(ac (aY (dcl (aO T) J (a2 0 1))) (dr (dcl (iR T) J (da1 (dcl (dj T) J (a2 0 1))))))) (λds Q hl h=>?_);unfold gEO at h;split at h
 case h_2=>exact h.elim
 obtain⟨n,t,rfl,o,⟨h0,j⟩,hs,h⟩:=h;refine⟨rfl,n,t,rfl,o,⟨h0,j⟩,hs,rfl,n,t,rfl,o,⟨h0,j⟩,rfl,_,by rw[iz],λq U=>(kG (cH o (by lia)) q U).mono (by decide),?_,gM hs,h⟩;rw[zza];exact FM o
def zC(xs:ai (bo Rat)):Rat:=vq xs (aK xs).2 - vq xs (aK xs).1
def Dq:DSp:=λds Q=>match ds with
 |[.lst xs,.int h]=>∃(n:Nat) (t:ai Row),xs=t.map rowD/\Tbl n t/\(0<=h/\h<n)/\(sumP (col t h.toNat)).1≠0/\Q (ratQ (zC (colO t h)))|_=>False
theorem fW(E:∀q,some q∈xs->QB n q)(J:plq xs xs.length≠[]):QB n (vq xs (aK xs).1)/\QB n (vq xs (aK xs).2):=by
 have key:∀k∈plq xs xs.length,QB n (vq xs k):=λk G=>by obtain⟨j,C⟩:=nS G;have:=uV j;rw[C]at this;exact E _ (zzD this)
 have U:=(kF xs J).1;exact⟨key _ U.1,key _ U.2⟩
theorem zD(T:Tx K mg):T.Gm.Ok P w base CX0 6 (spD K 2 Dq):=by
 refine fnd ["table","house","ends"] (λJ _=>(ac (dse 2 (dcl (fm T) J (a2 0 1))) (dr (dcl (ce T) J (aa (dx 2) (da1 (dx 2))))))) (λds Q hl h=>?_);unfold Dq at h;split at h
 case h_2=>exact h.elim
 obtain⟨n,t,rfl,o,⟨h0,C⟩,hs,h⟩:=h;have j:=fW (kG (cH o (by lia))) (gM hs);exact⟨rfl,n,t,rfl,o,⟨h0,C⟩,hs,rfl,dI (j.2.mono (by decide)) (j.1.mono (by decide)) h⟩
def lsr(p q:Rat):Rat:=if q<p then q else p
def gLsr:DSp:=λds Q=>∃p q:Rat,ds=[ratQ p,ratQ q]/\QB 7000 p/\QB 7000 q/\Q (ratQ (lsr p q))
theorem uW(T:Tx K mg):T.Cw.Ok P w base CX0 2 (spD K 2 gLsr):=by
 refine fnd ["one","other"] (λU _=>(dr (nA (aE (dcl (cL T) U (a2 1 0))) (dv 1) (dv 0)))) (λds Q hl h=>?_);obtain⟨p,q,rfl,J,j,h⟩:=h;unfold lsr at h;refine⟨rfl,fG j J (Br.di (λz=>?_) (λz=>?_))⟩
 ·rw[zzi z]at h;exact h
 ·rw[zzg z]at h;exact h
theorem zE{g:DG}{b:DTS}{E:DEnds}{xs:ai D}(N:Nat->DS->Prop)(H:∀ρ,N (min xs.length ys.length) ρ->E.nx ρ)(hs:∀(i:Nat) (x y:D) (ρ:DS) (X:DS->Prop),xs[i]?=some x->ys[i]?=some y->N i ρ->(∀j,N (i+1) j->X j)->g (.tup [x,y]) ρ λJ=>b {E with nx:=X,ct:=X,bk:=E.nx} J)(ρ:DS)(h:N 0 ρ):dZ g b (zipD xs ys) E ρ:=by
 refine aN (λpre ρ=>N pre.length ρ) (λρ C=>H ρ (by rw[fT]at C;exact C)) (λpre d post ρ X e C U=>?_) _ h;have Y:(zipD xs ys)[pre.length]?=some d:=by rw[e,zzM (zzn _),zyY];rfl
 obtain⟨x,y,I,M,rfl⟩:=nE _ _ _ _ Y;exact hs _ x y ρ X I M C λj G=>U j (by rw[zzm];exact G)
def wts(cs:Row):ai Rat:=cs.map λc=>(c.1:Rat) / ((sumP cs).1:Rat)
def gWts:DSp:=λds Q=>match ds with
 |[.lst xs,.int h]=>∃(n:Nat) (t:ai Row),xs=t.map rowD/\Tbl n t/\(0<=h/\h<n)/\(sumP (col t h.toNat)).1≠0/\Q (.lst ((wts (col t h.toNat)).map ratQ))|_=>False
theorem cF(T:Tx K mg):T.qK.Ok P w base CX0 5 (spD K 2 gWts):=by
 refine fnd ["table","house","tried"] (λb _=>(ac (dse 2 (dix (dcl (aO T) b (a2 0 1)) ad)) (dr (dfc (ao ["part","house","tried"] [none,some 1,some 2] rfl (ar (dv 0)) (dgb 0) au (dcl (bS T) b (aa (dix (dix (dv 0) (dv 1)) ad) (a1 2)))))))) (λds Q hl h=>?_);unfold gWts at h;split at h
 case h_2=>exact h.elim
 rename_i U;obtain⟨n,t,rfl,o,⟨h0,a⟩,hs,h⟩:=h;have i:=aL o (h:=U.toNat) (by lia);refine⟨rfl,n,t,rfl,o,⟨h0,a⟩,hs,?_⟩;obtain⟨W,C⟩:∃W,(sumP (col t U.toNat)).1=W:=⟨_,rfl⟩;rw[C]at hs i;refine aA (λpre J I=>∃j t1:ai Row,t=j++t1/\pre=j.map rowD/\J=((col j U.toNat).map λc=>((c.1:Rat) / (W:Rat))).map ratQ/\∃s,I=[s,.val (.int U),.val (.int W)]) (λJ I G=>?_) (λpre d post J I Y e G k=>?_) _ ⟨[],t,rfl,rfl,rfl,.nil,by rw[←C];rfl⟩
 ·obtain⟨j,t1,rfl,e,rfl,_⟩:=G;have:t1=[]:=by
   have:=congrArg List.length e;simp at this;exact this
  subst this;rw[zyb]at h C;unfold wts at h;rw[C]at h;exact h
 ·obtain⟨j,t1,rfl,rfl,rfl,s,rfl⟩:=G;rw[zzs]at e;have e:=zzZ e;cases t1 with
  |nil=>simp at e|cons r t1 =>
   rw[zzh]at e;injection e with E M;subst E;have g:=o.rows r (by simp);have c:=(cD g (h:=U.toNat) (by lia)).2;refine Br.t (dh g h0 a ⟨rfl,⟨hs,c.bt.mono (by decide),i.2.2.1.mono (by decide)⟩,λx y l=>?_⟩);obtain⟨E,M⟩:=Rq.low hs l;rw[E,M];refine⟨?_,k _ _ ⟨j++[r],t1,by simp,by simp,by simp[col,ratQ],_,rfl⟩⟩;rw[zza,zza];unfold col;rw[zza];have H:=o.p60;have:j.length<=1000:=by rw[zzm]at H;lia
   exact zzz this (by decide)
def wQ(t:ai Row)(h:Int):Rat:=shQ (sumP (col t h.toNat))
theorem wQ_B{t:ai Row}(o:Tbl n t){h:Int}(h0:0<=h)(h1:h<n)(hs:(sumP (col t h.toNat)).1≠0):QB 300 (wQ t h):=by have w:=aL o (h:=h.toNat) (by lia);exact QB.of hs w.2.2.2 w.2.2.1
theorem uX{c:Int×Int}(E:n<=7000)(j:Bd n c.1)(C:Bd n c.2)(h0:c.1≠0)(q:Q (ratQ (shQ c))):pU [bi c] Q :=
 uU E j C (by rw[gL];unfold shO;rw[zzg h0];exact q)
def gGap:DSp:=λds Q=>match ds with
 |[.lst xs,.int a,.int b]=>∃(n:Nat) (t:ai Row),xs=t.map rowD/\Tbl n t/\(0<=a/\a<n)/\(0<=b/\b<n)/\(sumP (col t a.toNat)).1≠0/\(sumP (col t b.toNat)).1≠0/\Q (ratQ (wQ t a - wQ t b))|_=>False
theorem kH(T:Tx K mg):T.sZ.Ok P w base CX0 5 (spD K 3 gGap):=by
 refine fnd ["table","a","b"] (λJ _=>(dr (dcl (ce T) J (aa (dcl (eC T) J (da1 (dcl (aO T) J (a2 0 1)))) (da1 (dcl (eC T) J (da1 (dcl (aO T) J (a2 0 2))))))))) (λds Q hl h=>?_);unfold gGap at h;split at h
 case h_2=>exact h.elim
 rename_i a b;obtain⟨n,t,rfl,o,⟨E,a1⟩,⟨G,H⟩,j,C,h⟩:=h;have U:=aL o (h:=a.toNat) (by lia);have Y:=aL o (h:=b.toNat) (by lia);exact⟨rfl,n,t,rfl,o,⟨E,a1⟩,j,rfl,uX (by decide) U.2.2.1 U.2.2.2 j ⟨rfl,n,t,rfl,o,⟨G,H⟩,C,rfl,uX (by decide) Y.2.2.1 Y.2.2.2 C ⟨rfl,dI ((wQ_B o E a1 j).mono (by decide)) ((wQ_B o G H C).mono (by decide)) h⟩⟩⟩
structure Two(n:Nat)(t:List Row)(a b:Int):Prop where
 o:Tbl n t
 a0:0 <= a
 a1:a<n
 b0:0 <= b
 b1:b<n
 ab:a≠b
 ha:(sumP (col t a.toNat)).1≠0
 hb:(sumP (col t b.toNat)).1≠0
 like:∀r∈t,(at_ r a.toNat).1=0↔(at_ r b.toNat).1=0
def gCSP:DSp:=λds Q=>match ds with
 |[.lst xs,.int a,.int b]=>∃(n:Nat) (t:ai Row),xs=t.map rowD/\Two n t a b/\Q .non|_=>False
theorem dJ(T:Tx K mg):T.gQ.Ok P w base CX0 5 (spD K 3 gCSP):=by
 refine fnd ["table","a","b","part","counts"] (λJ _=>(ac (aY (dcl (cE T) J (aa (dcl (bA T) J (a1 0)) (a2 1 2)))) (ac (aY (dcl (aO T) J (a2 0 1))) (ac (aY (dcl (aO T) J (a2 0 2))) (ag (aM (fU T.aZ (a1 0)) (dg2 3 4) (ac (dif (PWD.pt (iN (aj (bZ J) (dix (dix (dv 4) (dv 1)) ad) ad) (fc (aj iq (dix (dix (dv 4) (dv 2)) ad) ad)))) dnv) (ag (dif (PWD.pt (iN (aj (bZ J) (dix (dix (dv 4) (dv 2)) ad) ad) (fc (aj iq (dix (dix (dv 4) (dv 1)) ad) ad)))) dnv))))))))) (λds Q hl h=>?_);unfold gCSP at h;split at h
 case h_2=>exact h.elim
 rename_i a b;obtain⟨n,t,rfl,w,h⟩:=h;refine⟨rfl,bT w.o ⟨rfl,⟨w.a0,w.a1,w.b0,w.b1,w.ab⟩,rfl,n,t,rfl,w.o,⟨w.a0,w.a1⟩,w.ha,rfl,n,t,rfl,w.o,⟨w.b0,w.b1⟩,w.hb,?_⟩⟩;refine dLoop_enum (λ_ C=>∃x y:Sl,C=[.val (.lst (t.map rowD)),.val (.int a),.val (.int b),x,y]) (λC _=>h) (λi d C X hd I U=>?_) _ ⟨_,_,rfl⟩;obtain⟨x,y,rfl⟩:=I;rw[zzl]at hd;obtain⟨r,J,rfl⟩:=zym.mp hd;have H:=zzD J;have j:=w.o.rows r H;have lk:=w.like r H;have E:=(cD j (h:=a.toNat) (by have:=w.a0;have:=w.a1;lia)).2;have G:=(cD j (h:=b.toNat) (by have:=w.b0;have:=w.b1;lia)).2;have pa:=E.lo;have pb:=G.lo;have qa:=E.hi;have qb:=G.hi;refine⟨rfl,dh j w.a0 w.a1 ⟨⟨rfl,rfl⟩,λz=>?_,λz=>?_⟩⟩
 ·have z:(at_ r a.toNat).1=0:=by simpa[aG]using z
  refine dh j w.b0 w.b1 (Br.dn (by have:=lk.mp z;lia) (dh j w.b0 w.b1 ⟨⟨rfl,rfl⟩,λ_=>dh j w.a0 w.a1 (Br.dn (by lia) (U _ ⟨_,_,rfl⟩)),λ_=>Br.f (U _ ⟨_,_,rfl⟩)⟩))
 ·have z:(at_ r a.toNat).1≠0:=by simpa[aG]using z
  refine Br.f (dh j w.b0 w.b1 ⟨⟨rfl,rfl⟩,λy=>?_,λ_=>Br.f (U _ ⟨_,_,rfl⟩)⟩);have y:(at_ r b.toNat).1=0:=by simpa[aG]using y
  exact absurd (lk.mpr y) z
def wM:bo Rat->bo Rat->bo Rat
 |some p,some q=>some (p - q)|_,_=>none
def aR(t:ai Row)(a b:Int):ai (bo Rat):=List.zipWith wM (colO t a) (colO t b)
def Ds:DSp:=λds Q=>match ds with
 |[.lst xs,.int a,.int b]=>∃(n:Nat) (t:ai Row),xs=t.map rowD/\Two n t a b/\Q (qk (aR t a b))|_=>False
theorem uY{t:ai Row}(G:∀c∈col t a.toNat,Cnt 200 c.1 c.2)(H:∀c∈col t b.toNat,Cnt 200 c.1 c.2):∀q,some q∈aR t a b->QB 401 q:=λq J=>by
 obtain⟨i,j⟩:=zwG.mp J;unfold aR at j;rw[zwI]at j;cases C:(colO t a)[i]? with
 |none=>rw[C]at j;cases j
 |some p =>
  cases E:(colO t b)[i]? with
  |none=>rw[C,E]at j;cases j
  |some r =>
   rw[C,E]at j;have e:wM p r=some q:=by simpa using j
   cases p with
   |none=>cases e
   |some p =>
    cases r with
    |none=>cases e
    |some r =>
     cases e;exact(kG G p (zzD C)).sub (kG H r (zzD E))
theorem IS{t:ai Row}(w:Two n t a b)(i:Nat):oq (colO t a) i=none↔oq (colO t b) i=none:=by
 unfold oq colO col;rw[zze,zze,zzk,zzk,zzl,zzl];cases e:t[i]? with
 |none=>simp|some r =>
  have:=w.like r (zzD e);simp only[zwP,Option.getD_some,Function.comp,shO];by_cases z:(at_ r a.toNat).1=0
  ·rw[zzi z,zzi (this.mp z)]
  ·rw[zzg z,zzg (λy=>z (this.mpr y))];simp
theorem fE(t:ai Row)(h:Int):(colO t h).length=t.length:=by unfold colO col;simp
theorem BZ(t:ai Row)(a b:Int)(i:Nat):oq (aR t a b) i=wM (oq (colO t a) i) (oq (colO t b) i):=by
 unfold oq aR;rw[zze,zze,zze,zwI];by_cases h:i<t.length
 ·rw[zzp (by rw[fE];exact h),zzp (by rw[fE];exact h)];rfl
 ·rw[zyg (by rw[fE];lia),zyg (by rw[fE];lia)];rfl
theorem zF{t:ai Row}(w:Two n t a b):plq (aR t a b) (aR t a b).length=plq (colO t a) (colO t a).length:=by
 have J:(aR t a b).length=(colO t a).length:=by unfold aR;rw[zwd,fE,fE];lia
 rw[J];unfold plq;apply zxR;intro i _;rw[BZ];have:=IS w i;cases j:oq (colO t a) i with
 |none=>rfl|some p =>
  cases C:oq (colO t b) i with
  |none=>rw[this.mpr C]at j;cases j
  |some q=>rfl
theorem uZ{t:ai Row}(w:Two n t a b):plq (aR t a b) (aR t a b).length≠[]:=by rw[zF w];exact gM w.ha
theorem FN(T:Tx K mg):T.Gr.Ok P w base CX0 6 (spD K 3 Ds):=by
 refine fnd ["table","a","b","told","share","other"] (λj _=>(ac (aY (dcl (dJ T) j (a3 0 1 2))) (ac (dow 3 (bW cB)) (aw (aM (ir T.xb (aa (dcl (dj T) j (a2 0 1)) (da1 (dcl (dj T) j (a2 0 2))))) (dg2 4 5) (ag (eU (pv 3) (nA (aj yB (dv 4) dX) dX (dcl (ce T) j (a2 4 5)))))) (dr (dcl (iR T) j (a1 3))))))) (λds Q I h=>?_);unfold Ds at h;split at h
 case h_2=>exact h.elim
 rename_i a b;obtain⟨n,t,rfl,w,h⟩:=h;refine⟨rfl,n,t,rfl,w,sz,?_⟩;have G:=cH w.o (h:=a.toNat) (by have:=w.a0;have:=w.a1;lia);have H:=cH w.o (h:=b.toNat) (by have:=w.b0;have:=w.b1;lia);have la:(colO t a).length=t.length:=by unfold colO col;simp
 have d:(colO t b).length=t.length:=by unfold colO col;simp
 have l60:=w.o.p60;have k:∀q,some q∈colO t a->QB 200 q:=kG G;have l:∀q,some q∈colO t b->QB 200 q:=kG H;have lk:∀i:Nat,(oq (colO t a) i=none↔oq (colO t b) i=none):=λi=>by
  unfold oq colO col;rw[zze,zze,zzk,zzk,zzl,zzl];cases e:t[i]? with
  |none=>simp|some r =>
   have:=w.like r (zzD e);simp only[zwP,Option.getD_some,Function.comp,shO];by_cases z:(at_ r a.toNat).1=0
   ·rw[zzi z,zzi (this.mp z)]
   ·rw[zzg z,zzg (λy=>z (this.mpr y))];simp
 refine⟨λC=>∃x y:Sl,C=[.val (.lst (t.map rowD)),.val (.int a),.val (.int b),.own ((aR t a b).map optQ),x,y],?_,?_⟩
 ·refine⟨rfl,n,t,rfl,w.o,⟨w.a0,w.a1⟩,rfl,n,t,rfl,w.o,⟨w.b0,w.b1⟩,?_⟩;rw[iz,iz];refine⟨_,_,rfl,rfl,?_⟩;refine zE (λi C=>∃x y:Sl,C=[.val (.lst (t.map rowD)),.val (.int a),.val (.int b),.own (((aR t a b).take i).map optQ),x,y]) (λC E=>?_) (λi x y C X M c E m=>?_) _ ⟨_,_,rfl⟩
  ·obtain⟨x,y,rfl⟩:=E;refine⟨x,y,?_⟩;rw[zyN];unfold aR;rw[zwd];simp only[colO,zza];exact zzn _
  ·obtain⟨u,v,rfl⟩:=E;rw[zzl]at M c;obtain⟨p,Y,rfl⟩:=zym.mp M;obtain⟨q,J,rfl⟩:=zym.mp c;have Y:(colO t a)[i]?=some p:=Y;have J:(colO t b)[i]?=some q:=J;have I:(aR t a b)[i]?=some (wM p q):=by unfold aR;rw[zwI,Y,J]
   have s:(aR t a b).take (i+1)=(aR t a b).take i++[wM p q]:=by rw[List.take_succ,I];rfl
   have U:=lk i;unfold oq at U;rw[zze,zze,Y,J]at U;have len:(((aR t a b).take i).map optQ).length<sizeLine:=by
    rw[zza,zyK];have:(aR t a b).length<=100:=by unfold aR;rw[zwd];lia
    exact zzz (show _<=100 by lia) (by decide)
   have g:=m [.val (.lst (t.map rowD)),.val (.int a),.val (.int b),.own (((aR t a b).take i).map optQ++[optQ (wM p q)]),.val (optQ p),.val (optQ q)] ⟨_,_,by rw[s,zzs];rfl⟩;cases p with
   |none=>exact⟨rfl,trivial,Br.t ⟨len,g⟩⟩|some p =>
    cases q with
    |none=>exact absurd (U.mpr rfl) (by simp)|some q =>
     exact⟨rfl,trivial,Br.f ⟨rfl,dI ((k p (zzD Y)).mono (by decide)) ((l q (zzD J)).mono (by decide)) ⟨len,g⟩⟩⟩
 ·rintro _ ⟨x,y,rfl⟩;have d:=uY G H;refine⟨rfl,_,rfl,λq J=>(d q J).mono (by decide),?_,uZ w,h⟩;unfold aR;rw[zwd];lia
def upl(x y:ai Rat)(n:Nat):ai Nat:=(List.range n).filter λk=>decide (y.getD k 0<x.getD k 0)
def unvQ(x y:ai Rat):Rat:=((upl x y x.length).map λk=>x.getD k 0 - y.getD k 0).sum
def unvD(x y:ai Rat):D:=.tup [ratQ (unvQ x y),.lst ((upl x y x.length).map λ(k:Nat)=>D.int k)]
def gUnv:DSp:=λds Q=>match ds with
 |[.lst xs,.int a,.int b]=>∃(n:Nat) (t:ai Row),xs=t.map rowD/\t.length<=64/\Two n t a b/\Q (unvD (wts (col t a.toNat)) (wts (col t b.toNat)))|_=>False
theorem jl{n:Nat}{N:Int}(j:N≠0):∀{l:ai Rat},(∀q∈l,∃z:Int,Bd n z/\q=(z:Rat) / N)->∃J:ai Int,J.length=l.length/\(∀z∈J,Bd n z)/\l.sum=(J.sum:Rat) / N
 |[],_=>⟨[],rfl,λz I=>by simp at I,by simp[zyi]⟩
 |q::l,h=>by
  obtain⟨z,Y,e⟩:=h q zzd;obtain⟨J,C,E,G⟩:=jl j λq H=>h q (zzf _ H);refine⟨z::J,by simp[C],λy U=>?_,?_⟩
  ·rcases zzr.mp U with rfl|U
   ·exact Y
   ·exact E y U
  ·have hN':=Rq.cast_ne j;rw[zzE,zzE,G,e,zwg]
   grind
theorem FO(j:N≠0)(J:Bd m N)(h:∀q∈qs,∃z:Int,Bd n z/\q=(z:Rat) / N)(Y:qs.length<=2^k)(I:m<=3000:=by decide)(H:n+k<=3000:=by decide):∀l,l <:+: qs->QB 3000 l.sum:=λl C=>by obtain⟨zs,E,G,U⟩:=jl j λq M=>h q (C.subset M);rw[U];exact QB.of j ((gE G (by rw[E];exact zzo C.length_le Y)).mono H) (J.mono I)
theorem sG(t:ai Row)(h:Nat):(wts (col t h)).length=t.length:=by unfold wts col;simp
theorem mh{t:ai Row}{h:Nat}(j:k<t.length):∃c∈col t h,(wts (col t h)).getD k 0=(c.1:Rat) / ((sumP (col t h)).1:Rat):=by
 have J:k<(col t h).length:=by unfold col;rw[zza];exact j
 refine⟨(col t h)[k],zyL J,?_⟩;unfold wts;rw[zze,zzl,zzp J];rfl
theorem Ca{k:Nat}(j:k<qs.length)(q:Q (ratQ (qs.getD k 0))):opt (atI (qs.map ratQ) (k:Int)) Q:=by refine bR (by lia) ?_ q;rw[zzG,zzl,zze,zzp j];rfl
theorem Cb(x y:ai Rat)(n:Nat):upl x y (n+1)=upl x y n++(if y.getD n 0<x.getD n 0 then[n] else[]):=by
 unfold upl;rw[zyQ,zyA,zyM,List.filter_nil];by_cases h:y.getD n 0<x.getD n 0
 ·rw[zzi h,zzi (zzJ h)]
 ·rw[zzg h,zzg (by rw[zyk h];exact zzL)]
theorem sH{x y:ai Rat}(h:k∈upl x y n):k<n:=by unfold upl at h;rw[zzu,zzB]at h;exact h.1
theorem sI(x y:ai Rat)(n:Nat):(upl x y n).length<=n:=by unfold upl;have:=zzU (λk=>decide (y.getD k 0<x.getD k 0)) (List.range n);simpa using this
theorem kJ(T:Tx K mg):T.sY.Ok P w base CX0 10 (spD K 1 (gTot 7)):=IR T 7
theorem nT(T:Tx K mg):T.CA.Ok P w base CX0 11 (spD K 3 gUnv):=by
 refine fnd ["table","a","b","weights","others","parts"] (λU _=>(ac (aY (dcl (cE T) U (aa (dcl (bA T) U (a1 0)) (a2 1 2)))) (ac (dse 3 (dcl (cF T) U (a2 0 1))) (ac (dse 4 (dcl (cF T) U (a2 0 2))) (ac (fg 5 (ao ["part","others","weights"] [none,some 4,some 3] rfl (bY T.dm (da1 (dln aV T.bO (dv 0)))) (dgb 0) (eN (aE (dcl (cL T) U (aa (dix (dv 1) (dv 0)) (da1 (dix (dv 2) (dv 0))))))) (dv 0))) (dr (ay (aa (dcl (kJ T) U (da1 (dfc (ao ["part","weights","others"] [none,some 3,some 4] rfl (ar (dv 5)) (dgb 0) au (dcl (ce T) U (aa (dix (dv 1) (dv 0)) (da1 (dix (dv 2) (dv 0))))))))) (a1 5))))))))) (λds Q hl h=>?_);unfold gUnv at h;split at h
 case h_2=>exact h.elim
 rename_i a b;obtain⟨n,t,rfl,p,w,h⟩:=h;refine⟨rfl,bT w.o ⟨rfl,⟨w.a0,w.a1,w.b0,w.b1,w.ab⟩,rfl,n,t,rfl,w.o,⟨w.a0,w.a1⟩,w.ha,rfl,n,t,rfl,w.o,⟨w.b0,w.b1⟩,w.hb,?_⟩⟩;have hl:((t.map rowD).length:Int)=t.length:=by rw[zza]
 refine⟨⟨by lia,by lia⟩,?_⟩;have I:=aL w.o (h:=a.toNat) (by have:=w.a0;have:=w.a1;lia);have M:=aL w.o (h:=b.toNat) (by have:=w.b0;have:=w.b1;lia);have N:=sG t a.toNat;have lb:=sG t b.toNat;have A:=cH w.o (h:=a.toNat) (by have:=w.a0;have:=w.a1;lia);have L:=cH w.o (h:=b.toNat) (by have:=w.b0;have:=w.b1;lia);have g:∀k,k<t.length->QB 300 ((wts (col t a.toNat)).getD k 0):=λk j=>by obtain⟨c,G,e⟩:=mh j;rw[e];exact QB.of w.ha ((A c G).bt.mono (by decide)) I.2.2.1
 have l:∀k,k<t.length->QB 300 ((wts (col t b.toNat)).getD k 0):=λk j=>by obtain⟨c,G,e⟩:=mh j;rw[e];exact QB.of w.hb ((L c G).bt.mono (by decide)) M.2.2.1
 have C:(sumP (col t a.toNat)).1*(sumP (col t b.toNat)).1≠0:=zxM w.ha w.hb;have hd:∀k,k<t.length->∃z:Int,Bd 501 z/\(wts (col t a.toNat)).getD k 0 - (wts (col t b.toNat)).getD k 0=(z:Rat) / ((sumP (col t a.toNat)).1*(sumP (col t b.toNat)).1:Int):=λk j=>by
  obtain⟨c,G,e⟩:=mh j;obtain⟨d,hd,e'⟩:=mh j;refine⟨c.1*(sumP (col t b.toNat)).1 - d.1*(sumP (col t a.toNat)).1,(((A c G).bt.mul M.2.2.1).sub ((L d hd).bt.mul I.2.2.1)).mono (by decide),?_⟩;rw[e,e',Rat.intCast_sub,zzP,zzP,zzP];have n1:=Rq.cast_ne w.ha;have n2:=Rq.cast_ne w.hb
  grind
 unfold unvD unvQ at h;rw[N]at h;generalize wts (col t a.toNat)=x at N g hd h;generalize wts (col t b.toNat)=y at lb l hd h;have e0:((t.map rowD).length:Int).toNat=t.length:=by lia
 refine aA (λpre J E=>J=(upl x y pre.length).map (λ(k:Nat)=>D.int k)/\∃s,E=[s,.val (.lst (y.map ratQ)),.val (.lst (x.map ratQ))]) (λJ E C=>?_) (λpre d post J E Y e C H=>?_) _ ⟨rfl,_,rfl⟩
 rotate_left
 ·obtain⟨rfl,s,rfl⟩:=C;have a4:=congrArg List.length e;rw[eD,zza,zzK,zzm,zzI]at a4;have u:(eX 0 ((t.map rowD).length:Int).toNat)[pre.length]?=some d:=by
   rw[e,zzM (zzn _),zyY];rfl
  have v:pre.length<t.length:=by lia
  rw[eD,zzl,zzW (by lia)]at u;have ed:d=.int (pre.length:Int):=by
   have:D.int (0+(pre.length:Int))=d:=by simpa using u
   rw[←this];congr 1;lia
  subst ed;have r:=Cb x y pre.length;refine Ca (by lia) (Ca (by lia) ⟨rfl,fG ((l _ v).mono (by decide)) ((g _ v).mono (by decide)) (Br.di (λz=>⟨?_,H _ _ ⟨?_,_,rfl⟩⟩) (λz=>H _ _ ⟨?_,_,rfl⟩))⟩)
  ·rw[zza];have:=sI x y pre.length;exact zzz (show (upl x y pre.length).length<=100 by lia) (by decide)
  ·rw[zzm,zzN,r,zzi z,zzs];rfl
  ·rw[zzm,zzN,r,zzg z,zyb]
 obtain⟨rfl,_⟩:=C;rw[eD,zza,zzK,e0];have ul:=sI x y t.length;refine bc (λd=>match d with|.int i=>ratQ (x.getD i.toNat 0 - y.getD i.toNat 0)|_=>.non) (λE=>∃s,E=[s,.val (.lst (x.map ratQ)),.val (.lst (y.map ratQ))]) ?_ (λd hd E Y Z C H=>?_) _ ⟨_,rfl⟩ ?_
 ·rw[zza];exact zzo (show (upl x y t.length).length<=100 by lia) (by decide)
 ·obtain⟨s,rfl⟩:=C;obtain⟨k,j,rfl⟩:=zzc.mp hd;have j:=sH j;refine Br.t (Ca (by lia) (Ca (by lia) ⟨rfl,dI ((g _ j).mono (by decide)) ((l _ j).mono (by decide)) ?_⟩));exact H _ ⟨_,rfl⟩
 ·have e3:((upl x y t.length).map λ(k:Nat)=>D.int k).map (λd=>match d with|.int i=>ratQ (x.getD i.toNat 0 - y.getD i.toNat 0)|_=>.non)=((upl x y t.length).map λk=>x.getD k 0 - y.getD k 0).map ratQ:=by
   rw[zzk,zzk];rfl
  rw[e3];refine⟨rfl,_,rfl,?_,FO (m:=600) (n:=501) (k:=6) C ((I.2.2.1.mul M.2.2.1).mono (by decide)) (λq hq=>?_) ?_,⟨sz,h⟩⟩
  ·rw[zza];exact zzo ul p
  ·obtain⟨k,j,rfl⟩:=zzc.mp hq;exact hd k (sH j)
  ·rw[zza];exact zzo ul p
theorem FP{t:ai Row}(w:Two n t a b):∀k,k<t.length->∃z:Int,Bd 501 z/\(wts (col t a.toNat)).getD k 0 - (wts (col t b.toNat)).getD k 0=(z:Rat) / ((sumP (col t a.toNat)).1*(sumP (col t b.toNat)).1:Int):=λk j=>by
 have C:=aL w.o (h:=a.toNat) (by have:=w.a0;have:=w.a1;lia);have E:=aL w.o (h:=b.toNat) (by have:=w.b0;have:=w.b1;lia);have U:=cH w.o (h:=a.toNat) (by have:=w.a0;have:=w.a1;lia);have Y:=cH w.o (h:=b.toNat) (by have:=w.b0;have:=w.b1;lia);obtain⟨c,G,e⟩:=mh j;obtain⟨d,hd,J⟩:=mh j;refine⟨c.1*(sumP (col t b.toNat)).1 - d.1*(sumP (col t a.toNat)).1,(((U c G).bt.mul E.2.2.1).sub ((Y d hd).bt.mul C.2.2.1)).mono (by decide),?_⟩;rw[e,J,Rat.intCast_sub,zzP,zzP,zzP];have n1:=Rq.cast_ne w.ha;have n2:=Rq.cast_ne w.hb
 grind
theorem KZ{t:ai Row}(w:Two n t a b)(l64:t.length<=64):QB 700 (unvQ (wts (col t a.toNat)) (wts (col t b.toNat))):=by
 have C:=aL w.o (h:=a.toNat) (by have:=w.a0;have:=w.a1;lia);have E:=aL w.o (h:=b.toNat) (by have:=w.b0;have:=w.b1;lia);have j:(sumP (col t a.toNat)).1*(sumP (col t b.toNat)).1≠0:=zxM w.ha w.hb;unfold unvQ;have la:=sG t a.toNat;obtain⟨zs,G,H,J⟩:=jl j (l:=((upl (wts (col t a.toNat)) (wts (col t b.toNat)) (wts (col t a.toNat)).length).map λk=>(wts (col t a.toNat)).getD k 0 - (wts (col t b.toNat)).getD k 0)) λq U=>by obtain⟨k,I,rfl⟩:=zzc.mp U;have:=sH I;exact FP w k (by lia)
 rw[J];refine QB.of j ((gE (k:=6) H ?_).mono (by decide)) ((C.2.2.1.mul E.2.2.1).mono (by decide));rw[G,zza];have:=sI (wts (col t a.toNat)) (wts (col t b.toNat)) (wts (col t a.toNat)).length;exact zzo this (by lia)
def vb(t:ai Row)(a b:Int):Rat:=unvQ (wts (col t a.toNat)) (wts (col t b.toNat))*lsr (zC (colO t a)) (zC (colO t b))
def Dt(t:ai Row)(a b:Int):Rat:=vq (aR t a b) (aK (aR t a b)).1 - vb t a b
def zG(t:ai Row)(a b:Int):Rat:=vq (aR t a b) (aK (aR t a b)).2+vb t a b
def gapD(t:ai Row)(a b:Int):D:=.tup [ratQ (Dt t a b),ratQ (wQ t a - wQ t b),ratQ (zG t a b)]
def gGp:DSp:=λds Q=>match ds with
 |[.lst xs,.int a,.int b]=>∃(n:Nat) (t:ai Row),xs=t.map rowD/\t.length<=64/\Two n t a b/\Q (gapD t a b)|_=>False
theorem IT(h:QB n p)(k:QB n q):QB n (lsr p q):=by unfold lsr;split<;>assumption
theorem IU(T:Tx K mg):T.Le.Ok P w base CX0 12 (spD K 3 gGp):=by
 refine fnd ["table","a","b","ends","slack"] (λJ _=>(ac (dse 3 (dcl (FN T) J (a3 0 1 2))) (ac (dse 4 (dcl (sg T) J (aa (dix (dcl (nT T) J (a3 0 1 2)) ad) (da1 (dcl (uW T) J (aa (dcl (zD T) J (a2 0 1)) (da1 (dcl (zD T) J (a2 0 2))))))))) (dr (ay (aa (dcl (ce T) J (aa (dx 3) (a1 4))) (aa (dcl (kH T) J (a3 0 1 2)) (da1 (dcl (kE T) J (aa (dx 3) (a1 4))))))))))) (λds Q hl h=>?_);unfold gGp at h;split at h
 case h_2=>exact h.elim
 rename_i a b;obtain⟨n,t,rfl,U,w,h⟩:=h;have E:=cH w.o (h:=a.toNat) (by have:=w.a0;have:=w.a1;lia);have G:=cH w.o (h:=b.toNat) (by have:=w.b0;have:=w.b1;lia);have C:=fW (uY E G) (uZ w);have sa:=fW (kG E) (gM w.ha);have H:=fW (kG G) (gM w.hb);have Y:QB 401 (zC (colO t a)):=sa.2.sub sa.1;have j:QB 401 (zC (colO t b)):=H.2.sub H.1;have M:=KZ w U;have I:QB 1101 (vb t a b):=M.mul (IT Y j);refine⟨rfl,n,t,rfl,w,rfl,n,t,rfl,U,w,rfl,n,t,rfl,w.o,⟨w.a0,w.a1⟩,w.ha,rfl,n,t,rfl,w.o,⟨w.b0,w.b1⟩,w.hb,rfl,_,_,rfl,Y.mono (by decide),j.mono (by decide),?_⟩;refine⟨rfl,zy (M.mono (by decide)) ((IT Y j).mono (by decide)) ?_⟩;refine⟨rfl,dI (C.1.mono (by decide)) (I.mono (by decide)) ⟨rfl,n,t,rfl,w.o,⟨w.a0,w.a1⟩,⟨w.b0,w.b1⟩,w.ha,w.hb,rfl,zx (C.2.mono (by decide)) (I.mono (by decide)) ⟨sz,h⟩⟩⟩
structure IsL(ps:List Rat)(L:Int):Prop where
 pos:0<L
 dv:∀q∈ps,(q.den:Int) ∣ L
 least:∀M:Int,(∀q∈ps,(q.den:Int) ∣ M)->L ∣ M
theorem IsL.step{ps:ai Rat}(h:IsL ps b)(q:Rat):IsL (ps++[q]) (b*((q.den:Int) / ((Int.gcd b (q.den:Int):Nat):Int))):=by
 have hd:=den_pos q;have hg:0<Int.gcd b (q.den:Int):=zxo b (by lia);have g1:((Int.gcd b (q.den:Int):Nat):Int) ∣ b:=Int.gcd_dvd_left ..;have g2:((Int.gcd b (q.den:Int):Nat):Int) ∣ (q.den:Int):=Int.gcd_dvd_right ..;obtain⟨c,j⟩:=id g2;have hgi:(0:Int)<((Int.gcd b (q.den:Int):Nat):Int):=by lia
 have C:(q.den:Int) / ((Int.gcd b (q.den:Int):Nat):Int)=c:=Int.ediv_eq_of_eq_mul_right (by lia) j;have U:0<c:=by
  rcases Int.lt_or_le 0 c with z|z
  ·exact z
  ·have:((Int.gcd b (q.den:Int):Nat):Int)*c<=0:=Int.mul_nonpos_of_nonneg_of_nonpos (by lia) z;lia
 have e:b*c=((Int.lcm b (q.den:Int):Nat):Int):=by
  have E:=Int.gcd_mul_lcm b (q.den:Int);have G:((Int.gcd b (q.den:Int):Nat):Int)*((Int.lcm b (q.den:Int):Nat):Int)=b*(q.den:Int):=by
   have:((Int.gcd b (q.den:Int)*Int.lcm b (q.den:Int):Nat):Int)=((b.natAbs*(q.den:Int).natAbs:Nat):Int):=by rw[E]
   rw[Int.natCast_mul,Int.natCast_mul,Int.natAbs_of_nonneg (by have:=h.pos;lia),Int.natAbs_of_nonneg (by lia)]at this;exact this
  apply Int.eq_of_mul_eq_mul_left (a:=((Int.gcd b (q.den:Int):Nat):Int)) (by lia);rw[G,Int.mul_left_comm,←j]
 rw[C];refine⟨zyZ h.pos U,λp J=>?_,λM Y=>?_⟩
 ·rw[e];rcases zzx.mp J with J|J
  ·exact Int.dvd_trans (h.dv p J) (Int.dvd_lcm_left ..)
  ·rw[zzy.mp J];exact Int.dvd_lcm_right ..
 ·rw[e];exact Int.coe_lcm_dvd (h.least M λp J=>Y p (by simp[J])) (Y q (by simp))
theorem nU{L:Int}(h:(q.den:Int) ∣ L):((q.num*(L / (q.den:Int)):Int):Rat)=q*(L:Rat):=by
 obtain⟨c,rfl⟩:=h;rw[Int.mul_ediv_cancel_left c (dH q),zzP,zzP];have hq:=self q;have dq:=cast_ne (dH q)
 grind
theorem FQ(h:ratQ p=ratQ q):p=q:=by unfold ratQ at h;simp at h;rw[←self p,←self q,h.1,h.2]
theorem zH{xs:ai Rat}(h:xs.map ratQ=qs.map ratQ):xs=qs:=(List.map_inj_right λ_ _ h=>FQ h).mp h
def gCB:DSp:=λds Q=>match ds with
 |[.lst xs]=>∃qs:ai Rat,xs=qs.map ratQ/\qs.length<=20/\(∀q∈qs,QB 100 q)/\∀L:Int,IsL qs L->Bd 2500 L->Q (.int L)|_=>False
theorem kK(T:Tx K mg):T.lh.Ok P w base CX0 2 (spD K 1 gCB):=by
 refine fnd ["ratios","bottom","ratio"] (λg _=>(ac (dse 1 ad) (aw (aM (ar (dv 0)) (dgn 2) (ag (dse 1 (aP cj (dv 1) (aP rO (dx 2) (dcl (dD T) g (aa (dv 1) (da1 (dx 2))))))))) (dr (dv 1))))) (λds Q H h=>?_);unfold gCB at h;split at h
 case h_2=>exact h.elim
 obtain⟨qs,rfl,l8,c,h⟩:=h;refine⟨λj=>∃(L:Int) (s:Sl),(IsL qs L/\Bd 2500 L)/\j=[.val (.lst (qs.map ratQ)),.val (.int L),s],?_,?_⟩
 ·refine aN (λpre j=>∃(ps:ai Rat) (L:Int) (s:Sl),pre=ps.map ratQ/\IsL ps L/\Bd (100*ps.length+1) L/\j=[.val (.lst (qs.map ratQ)),.val (.int L),s]) (λj C=>?_) (λpre d post j X e C b=>?_) _ ⟨[],1,_,rfl,⟨by decide,λq Y=>by simp at Y,λM _=>Int.one_dvd M⟩,yG,rfl⟩
  ·obtain⟨ps,L,s,e,o,J,rfl⟩:=C;have a:=zH e;subst a;exact⟨L,s,⟨o,J.mono (by lia)⟩,rfl⟩
  ·obtain⟨ps,L,s,rfl,o,J,rfl⟩:=C;have hd:d∈qs.map ratQ:=by rw[e];simp
   obtain⟨q,Y,rfl⟩:=zzc.mp hd;have H:(qs.map ratQ).length=(ps.map ratQ).length+(post.length+1):=by rw[e];simp
   rw[zza,zza]at H;have G:=c q Y;have hd0:=den_pos q;have hg:0<Int.gcd L (q.den:Int):=zxo L (by lia);have U:Int.gcd L (q.den:Int)<=(q.den:Int).natAbs:=zvg (zwX.mpr (by lia)) (Int.gcd_dvd_natAbs_right ..);have I:Big ((Int.gcd L (q.den:Int):Nat):Int):=(G.de.le (by rw[Int.natAbs_natCast];exact U)).big (by decide);have E:Bd 100 ((q.den:Int) / ((Int.gcd L (q.den:Int):Nat):Int)):=G.de.le (Int.natAbs_ediv_le_natAbs ..);refine⟨rfl,⟨by lia,I⟩,(J.mono (by lia):Bd 3000 L).cmul (E.mono (by decide):Bd 3000 _),b _ ⟨ps++[q],_,_,by simp,o.step q,((J.mul E).mono (by simp;lia)),rfl⟩⟩
 ·rintro _ ⟨L,s,⟨o,J⟩,rfl⟩;exact h L o J
def gTop:DSp:=λds Q=>∃(q:Rat) (L:Int),ds=[ratQ q,.int L]/\QB 1000 q/\Bd 2500 L/\(q.den:Int) ∣ L/\∀n:Int,(n:Rat)=q*(L:Rat)->Q (.int n)
theorem wN(T:Tx K mg):T.wW.Ok P w base CX0 1 (spD K 2 gTop):=by refine fnd ["ratio","bottom"] (λhr _=>(dr (aP cj (dx 0) (aP rO (dv 1) (dx 0))))) (λds Q hl h=>?_);obtain⟨q,L,rfl,j,J,dv,h⟩:=h;have hd:=den_pos q;have U:Bd 2500 (L / (q.den:Int)):=J.le (Int.natAbs_ediv_le_natAbs ..);exact⟨⟨by lia,j.de.big (by decide)⟩,(j.nu.mono (by decide):Bd 3000 _).cmul (U.mono (by decide):Bd 3000 _),h _ (nU dv)⟩
theorem FR{a b:Rat}(hL:q≠0)(e:a*q=b*q):a=b:=by grind
theorem sJ{f:α->β}{l:ai α}{ps:ai β}(p:ps.Perm (l.map f)):∃rs:ai α,rs.Perm l/\ps=rs.map f:=by
 have h0:∀l:ai α,PySem.Paired (λa b=>b=f a) l (l.map f):=λl=>by
  induction l with
  |nil=>exact .nil|cons a l J=>exact .cons rfl J
 have U:∀{rs:ai α} {ps:ai β},PySem.Paired (λa b=>b=f a) rs ps->ps=rs.map f:=λh=>by
  induction h with
  |nil=>rfl|cons h _ J=>rw[zzh,h,J]
 obtain⟨rs,j,C⟩:=L2.perm_lift p (h0 l);exact⟨rs,j,U C⟩
theorem vc{α β j:Type}(f:α->β)(g:α->j):∀l:ai α,(l.map f).zip (l.map g)=l.map λa=>(f a,g a)
 |[]=>rfl|a::l=>by simp[vc f g l]
def Ris(qs rs:ai Rat):Prop:=rs.Perm qs/\rs.Pairwise (· < ·)
def gRis:DSp:=λds Q=>∃qs:ai Rat,ds=[.lst (qs.map ratQ)]/\qs.length<=20/\qs.Nodup/\(∀q∈qs,QB 100 q)/\∀rs,Ris qs rs->Q (.lst (rs.map ratQ))
theorem Cc(T:Tx K mg)(B:Bm mg base):T.jr.Ok P w base CX0 5 (spD K 1 gRis):=by
 refine fnDL T.jr.d.F yZ (λU=>λM _=>by obtain⟨c0,P0,v,y,N⟩:=T.eF;rw[v]at U;subst U;exact(ac (dse 1 (dcl (kK T) M (a1 0)))
   (ag (yx (BI (k:=1) (js:=[1]) ⟨rfl,rfl,rfl,by decide +kernel,rfl,λ_ _ _ _ _ _ _ _=>rfl⟩ (M.mono (by decide)) rfl T.eT B rfl y rfl N (Iq rfl (zwU.mpr ⟨rfl,λ_ h=>nomatch h⟩) (by decide +kernel) (.cons rfl rfl rfl rfl .nil)) rfl (dv 0) (λfa c' A outer s H E r=>(dcl (wN T) r (a2 0 1)))))))) (λds Q hl h=>?_)
 obtain⟨qs,rfl,u,nd,G,h⟩:=h;refine⟨rfl,qs,rfl,u,G,λL o bL=>?_⟩;refine⟨qs.map ratQ,qs.map λq=>q.num*(L / (q.den:Int)),[.int L],rfl,by rw[zza];lia,by rw[zza,zza],rfl,λi x z g Y=>?_,λps l m=>?_⟩
 ·rw[zzl]at g Y;obtain⟨q,I,rfl⟩:=zym.mp g;rw[I]at Y;have Y:q.num*(L / (q.den:Int))=z:=by simpa using Y
  have C:=zzD I;refine⟨rfl,q,L,rfl,(G q C).mono (by decide),bL,o.dv q C,λn hn=>?_⟩;have e:=nU (o.dv q C);rw[←hn,Y]at e;rw[Rat.intCast_inj.mp e]
 ·rw[vc]at l;obtain⟨rs,j,rfl⟩:=sJ l;rw[zzk];refine h rs ⟨j,?_⟩;rw[zyO]at m;have nr:rs.Nodup:=j.nodup_iff.mpr nd;have hL:(0:Rat)<L:=by exact_mod_cast o.pos
  refine(m.and nr).imp_of_mem λ{a b} ha p J=>?_;have e1:=nU (o.dv a (j.mem_iff.mp ha));have e2:=nU (o.dv b (j.mem_iff.mp p));have le:(a*(L:Rat))<=b*L:=by rw[←e1,←e2];exact zww.mpr J.1
  rcases (Rat.le_total:a<=b∨b<=a) with c|c
  ·rcases Rat.le_iff_lt_or_eq.mp c with c|c
   ·exact c
   ·exact absurd c J.2
  ·have:=zyR c (zxa hL);have e3:a*(L:Rat)=b*L:=by grind
   exact absurd (FR (by grind) e3) J.2
theorem fo{g:DG}{b:DTS}{E:DEnds}(F:Nat->D)(N:Nat->DS->Prop)(H:∀ρ,N n ρ->E.nx ρ)(hs:∀(i:Nat) (ρ:DS) (X:DS->Prop),i<n->N i ρ->(∀j,N (i+1) j->X j)->g (F i) ρ λU=>b {E with nx:=X,ct:=X,bk:=E.nx} U)(ρ:DS)(h:N 0 ρ):dZ g b ((List.range n).map F) E ρ:=by
 refine aN (λpre ρ=>N pre.length ρ) (λρ C=>H ρ (by simpa using C)) (λpre d post ρ X e C Y=>?_) _ h;have J:((List.range n).map F)[pre.length]?=some d:=by rw[e,zzM (zzn _),zyY];rfl
 have lt:pre.length<n:=by have:=(zzt.mp J).1;simpa using this
 rw[zzl,zzW lt]at J;have J:F pre.length=d:=by simpa using J
 rw[←J];exact hs pre.length ρ X lt C λj G=>Y j (by rw[zzm];exact G)
theorem qp{l:ai α}{d:α}(f:α->D):l.map f=(List.range l.length).map λi=>f (l.getD i d):=by
 apply zxk;intro i;rw[zzl,zzl];by_cases h:i<l.length
 ·rw[zzW h,zzp h];simp[zze,h]
 ·rw[zyg (by lia),zyg (by simp;lia)];rfl
def cl(t:ai Row)(h i:Nat):Int×Int:=(col t h).getD i (0,0)
def sh(t:ai Row)(h i:Nat):Rat:=if (cl t h i).1=0 then 0 else((cl t h i).2:Rat) / ((cl t h i).1:Rat)
def sumQ(f:Nat->Rat):Nat->Rat
 |0=>0|n+1=>sumQ f n+f n
theorem IV{f:Nat->Rat}{n k:Nat}(h:∀i,i<n->QB k (f i)):∀i,i<=n->QB ((k+1)*i+1) (sumQ f i)
 |0,_=>⟨by show Int.natAbs 0<_;simp,by show Int.natAbs 1<_;simp⟩|i+1,hi=>by have j:=IV h i (by lia);have C:=h i (by lia);exact(j.add C).mono (by rw[Nat.mul_succ];lia)
theorem qq{g:DG}{Q:ai D->Prop}(F G:Nat->D)(N:DS->Prop)(hl:n<=sizeLine)(hs:∀i,i<n->∀(j:DS) (Y:D->DS->Prop) (Z:DS->Prop),N j->(∀C,N (bU C)->Y (G i) C)->g (F i) j λI=>bF I λb H=>Br b (te H Y) (Z H))(j:DS)(h:N j)(a:Q ((List.range n).map G)):cq g bF te ((List.range n).map F) [] j Q:=by
 refine aA (λpre J j=>J=(List.range pre.length).map G/\N j) (λJ j E=>by rw[E.1,zza,zzK];exact a) (λpre d post J j Y e E T=>?_) _ ⟨rfl,h⟩;obtain⟨rfl,E⟩:=E;have U:((List.range n).map F)[pre.length]?=some d:=by rw[e,zzM (zzn _),zyY];rfl
 have lt:pre.length<n:=by have:=(zzt.mp U).1;simpa using this
 rw[zzl,zzW lt]at U;have U:F pre.length=d:=by simpa using U
 rw[←U];refine hs pre.length lt j _ _ E λC M=>⟨?_,T _ _ ⟨?_,M⟩⟩
 ·rw[zza,zzK];lia
 ·rw[zzm,zzN,zyQ,zzs];rfl
theorem jm(f:α->D)(d:α)(l:ai α):eA 0 (l.map f)=(List.range l.length).map λi=>.tup [.int (i:Int),f (l.getD i d)]:=by
 apply zxk;intro i;rw[zzl];by_cases h:i<l.length
 ·have J:i<(eA 0 (l.map f)).length:=by rw[aJ,zza];exact h
  obtain⟨e,j,C⟩:=eB (l.map f) 0 i _ (zzp J);rw[zzp J,C,zzW h];rw[zzl,zzp h]at j;have j:f l[i]=e:=by simpa using j
  rw[←j,zwj];simp[zze,h]
 ·rw[zyg (by rw[aJ,zza];lia),zyg (by simp;lia)];rfl
theorem Cd(n:Nat):eX 0 n=(List.range n).map λi:Nat=>D.int (i:Int):=by rw[eD];simp
theorem jn{α:Type}(f g:α->D):∀l:ai α,zipD (l.map f) (l.map g)=l.map λi=>.tup [f i,g i]
 |[]=>rfl|a::l=>by simp[zipD,jn f g l]
def pcs(q s:Nat->Rat)(n:Nat):ai Rat:=((List.range n).filter λk=>decide (0<q k)).map λk=>q k*s k
theorem nV(q s:Nat->Rat)(n:Nat):pcs q s (n+1)=pcs q s n++(if 0<q n then[q n*s n] else[]):=by
 unfold pcs;rw[zyQ,zyA,zzs,zyM];by_cases z:0<q n
 ·rw[zzi (zzJ z),zzi z];rfl
 ·rw[zzg (by rw[zyr];exact z),zzg z];rfl
theorem sK(q s:Nat->Rat)(n:Nat):(pcs q s n).length<=n:=by unfold pcs;rw[zza];exact zzo (zzU _ _) (by rw[zzK];exact zzn _)
theorem zI{q s:Nat->Rat}:∀{n:Nat},(∀i,i<n->0<=q i)->(pcs q s n).sum=sumQ (λi=>q i*s i) n
 |0,_=>rfl|n+1,h=>by
  rw[nV,nR,zI λi hi=>h i (by lia)];simp only[sumQ];have:=h n (by lia);split
  ·rw[zzE,zwk];grind
  ·have:q n=0:=by grind
   rw[zwk,this];grind
theorem vd(f:Nat->Rat):∀n,((List.range n).map f).sum=sumQ f n
 |0=>rfl|n+1=>by
  rw[zyQ,zzs,nR,vd f n];simp only[sumQ,zzh,zyj,zzE,zwk]
  grind
theorem kL{l:ai α}(d:α)(f:α->β):l.map f=(List.range l.length).map λi=>f (l.getD i d):=by
 apply zxk;intro i;rw[zzl,zzl];by_cases h:i<l.length
 ·rw[zzW h,zzp h];simp[zze,h]
 ·rw[zyg (by lia),zyg (by simp;lia)];rfl
theorem dl{f g:Nat->Rat}:∀{n:Nat},(∀i,i<n->f i=g i)->sumQ f n=sumQ g n
 |0,_=>rfl|n+1,h=>by simp only[sumQ];rw[dl λi hi=>h i (by lia),h n (by lia)]
theorem nW(f g:Nat->Rat):∀n,sumQ (λi=>f i+g i) n=sumQ f n+sumQ g n
 |0=>by simp only[sumQ];grind
 |n+1=>by
  simp only[sumQ];rw[nW f g n]
  grind
theorem nX(c:Rat)(f:Nat->Rat):∀n,sumQ (λi=>c*f i) n=c*sumQ f n
 |0=>by simp only[sumQ];grind
 |n+1=>by
  simp only[sumQ];rw[nX c f n]
  grind
theorem num_pos':(0<q.num)↔0<q:=by rw[Rat.lt_iff];simp
structure T61(n:Nat)(t:List Row)(a b:Int):Prop extends Two n t a b where
 l16:t.length <= 16
 r40:∀r∈t,RowN 40 n r
def WA(t:ai Row)(a:Int):Int:=(sumP (col t a.toNat)).1
def wA(t:ai Row)(a:Int)(i:Nat):Rat:=((cl t a.toNat i).1:Rat) / (WA t a:Rat)
section
variable{t:ai Row}
theorem T61.cl(o:T61 n t a b){h i:Nat}(Y:h<n)(j:i<t.length):∃r,t[i]?=some r/\r∈t/\at_ r h=cl t h i/\Cnt 40 (cl t h i).1 (cl t h i).2:=by
 have e:t[i]?=some t[i]:=by simp[j]
 have U:t[i]∈t:=zyL j;have J:My.cl t h i=at_ t[i] h:=by unfold My.cl col;rw[zze,zzl,e];rfl
 refine⟨t[i],e,U,J.symm,?_⟩;rw[J];exact(cD (o.r40 _ U) Y).2
theorem T61.na(o:T61 n t a b):a.toNat<n:=by have:=o.a0;have:=o.a1;lia
theorem T61.nb(o:T61 n t a b):b.toNat<n:=by have:=o.b0;have:=o.b1;lia
theorem T61.lk(o:T61 n t a b)(j:i<t.length):(My.cl t a.toNat i).1=0↔(My.cl t b.toNat i).1=0:=by
 obtain⟨r,C,Y,E,_⟩:=o.cl o.na j;obtain⟨G,J,_,U,_⟩:=o.cl o.nb j;have:G=r:=by rw[C]at J;cases J;rfl
 subst this;rw[←E,←U];exact o.like _ Y
theorem T61.W(o:T61 n t a b):0<WA t a/\Bd 44 (WA t a):=by have w:=aL o.o o.na;have h0:WA t a≠0:=o.ha;refine⟨by unfold WA at h0 ⊢;lia,?_⟩;unfold WA sumP;refine gE (k:=4) (λi C=>?_) (by unfold col;rw[zza,zza];exact o.l16);obtain⟨c,j,rfl⟩:=zzc.mp C;obtain⟨r,J,rfl⟩:=zzc.mp j;exact(cD (o.r40 r J) o.na).2.bt
theorem T61.wB(o:T61 n t a b)(j:i<t.length):QB 44 (wA t a i):=by obtain⟨_,_,_,_,c⟩:=o.cl o.na j;exact QB.of (by have:=o.W.1;lia) (c.bt.mono (by decide)) o.W.2
theorem T61.wn(o:T61 n t a b)(j:i<t.length):0<=wA t a i/\(0<wA t a i↔(My.cl t a.toNat i).1≠0):=by
 obtain⟨_,_,_,_,c⟩:=o.cl o.na j;have hc:0<=(My.cl t a.toNat i).1:=by have:=c.lo;have:=c.hi;lia
 have J:(0:Rat)<(WA t a:Rat):=by exact_mod_cast o.W.1
 unfold wA;by_cases z:(My.cl t a.toNat i).1=0
 ·rw[z];have e:((0:Int):Rat) / (WA t a:Rat)=0:=by simp[zyi]
  rw[e];exact⟨zyh,by grind⟩
 ·have U:(0:Rat)<((My.cl t a.toNat i).1:Rat):=by exact_mod_cast (show 0<(My.cl t a.toNat i).1 by lia)
  have:0<((My.cl t a.toNat i).1:Rat) / (WA t a:Rat):=by rw[zyi];exact Rat.mul_pos U (zvb.mpr J)
  exact⟨zxa this,λ_=>z,λ_=>this⟩
theorem T61.sB(o:T61 n t a b)(j:i<t.length):QB 40 (sh t b.toNat i):=by
 obtain⟨_,_,_,_,c⟩:=o.cl o.nb j;unfold sh;split
 ·exact⟨by show Int.natAbs 0<2^40;decide,by show Int.natAbs 1<2^40;decide⟩
 ·rename_i z;exact QB.of z c.bw c.bt
end
theorem zJ(t:ai Row)(a:Int):(wts (col t a.toNat)).map ratQ=(List.range t.length).map λi=>ratQ (wA t a i):=by
 unfold wts;rw[zzk,kL (0,0)];have:(col t a.toNat).length=t.length:=by unfold col;rw[zza]
 rw[this];rfl
theorem kM{f g:Nat->Rat}:∀{n:Nat},(∀i,i<n->f i<=g i)->sumQ f n<=sumQ g n
 |0,_=>zyh|n+1,h=>by
  simp only[sumQ];have h1:=kM λi j=>h i (zxl j);have h2:=h n (zwA n)
  grind
theorem ve(f:Nat->Rat)(k:Nat):∀n,sumQ (λi=>if i=k then f i else 0) n=if k<n then f k else 0
 |0=>rfl|n+1=>by
  simp only[sumQ];rw[ve f k n];by_cases z:n=k
  ·subst z;rw[zzg (by lia),zzi rfl,zzi (by lia)]
   grind
  ·rw[zzg z];by_cases y:k<n
   ·rw[zzi y,zzi (by lia)]
    grind
   ·rw[zzg y,zzg (by lia)]
    grind
theorem zB{z:Int}(H:0<N)(h0:(0:Rat)<=(z:Rat) / N)(C:(z:Rat) / N<=1):z.natAbs<=N.natAbs:=by
 have e:=(Rq.lowQ (a:=z) (b:=N) (by lia));have hn:=cast_ne (show N≠0 by lia);have p:(0:Rat)<(N:Rat):=by have:=Rat.intCast_lt_intCast.mpr H;simpa using this
 have j:(0:Rat)<=(z:Rat):=by
  have:(z:Rat)=(z:Rat) / N*N:=by grind
  rw[this];exact zxp h0 (zxa p)
 have a1:(z:Rat)<=(N:Rat):=by
  have E:(z:Rat)=(z:Rat) / N*N:=by grind
  have G:(z:Rat) / N*N<=1*N:=zyR C (zxa p);rw[←E]at G
  grind
 have b0:(0:Int)<=z:=zww.mp (by simpa using j);have b1:z<=N:=zww.mp a1;lia
theorem FS(G:0<N)(J:Bd n N)(h:∀q∈qs,(0<=q/\q<=1)/\∃z:Int,q=(z:Rat) / N)(Y:qs.length<=16)(hn:n<=2900):∀l,l <:+: qs->QB 3000 l.sum:=λl j=>by
 obtain⟨zs,C,E,U⟩:=jl (N:=N) (by lia) λq H=>by obtain⟨⟨I,M⟩,z,e⟩:=h q (j.subset H);exact⟨z,J.le (zB G (by rw[←e];exact I) (by rw[←e];exact M)),e⟩
 rw[U];refine QB.of (by lia) ((gE (k:=4) E ?_).mono (by lia)) (J.mono (by lia));rw[C];exact zzo j.length_le Y
theorem IW{a b:Rat}(C:0<=a/\a<=1)(j:0<=b/\b<=1):0<=a*b/\a*b<=1:=by
 refine⟨zxp C.1 j.1,?_⟩;have h1:a*b<=1*b:=zyR C.2 j.1;have h2:=j.2
 grind
structure Wk(n:Nat)(q:Nat->Rat):Prop where
 nn:∀i,i<n->0 <= q i
 one:sumQ q n=1
 cd:∃N:Int,0<N/\Bd 700 N/\∀i,i<n->∃z:Int,q i=(z:Rat) / N
theorem Wk.le{q:Nat->Rat}(o:Wk n q)(C:i<n):q i<=1:=by
 have j:sumQ (λk=>if k=i then q k else 0) n<=sumQ q n:=kM λk E=>by
  have:=o.nn k E;show (if k=i then q k else 0)<=q k;split
  ·exact zyh
  ·exact this
 rw[ve q i n,zzi C,o.one]at j;exact j
theorem fr_B{z:Int}(U:0<N)(J:Bd m N)(e:x=(z:Rat) / N)(h0:0<=x)(j:x<=1):QB m x:=by rw[e]at h0 j ⊢;exact QB.of (by lia) (J.le (zB U h0 j)) J
theorem Wk.B{q:Nat->Rat}(o:Wk n q)(j:i<n):QB 700 (q i):=by obtain⟨N,Y,J,U⟩:=o.cd;obtain⟨z,e⟩:=U i j;exact fr_B Y J e (o.nn i j) (o.le j)
section
variable{t:ai Row}
theorem T61.shc(o:T61 n t a b):∀j,j<=t.length->∃P:Int,0<P/\Bd (40*j+1) P/\∀i,i<j->∃z:Int,sh t b.toNat i=(z:Rat) / P
 |0,_=>⟨1,by decide,by unfold Bd;decide,λi C=>absurd C (zyz i)⟩
 |j+1,hj=>by
  obtain⟨P,Y,J,U⟩:=o.shc j (by lia);obtain⟨_,_,_,_,c⟩:=o.cl (i:=j) o.nb (by lia);by_cases z:(My.cl t b.toNat j).1=0
  ·refine⟨P,Y,J.mono (by lia),λi C=>?_⟩;by_cases y:i=j
   ·subst y;exact⟨0,by unfold sh;rw[zzi z];simp[zyi]⟩
   ·exact U i (by lia)
  ·have c0:0<(My.cl t b.toNat j).1:=by have:=c.lo;have:=c.hi;lia
   have n1:=Rq.cast_ne (show P≠0 by lia);have n2:=Rq.cast_ne z;refine⟨P*(My.cl t b.toNat j).1,zyZ Y c0,(J.mul c.bt).mono (by lia),λi C=>?_⟩;by_cases y:i=j
   ·subst y;refine⟨P*(My.cl t b.toNat i).2,?_⟩;unfold sh;rw[zzg z,zzP,zzP]
    grind
   ·obtain⟨u,E⟩:=U i (by lia);refine⟨u*(My.cl t b.toNat j).1,?_⟩;rw[E,zzP,zzP]
    grind
theorem T61.sP(o:T61 n t a b):∃P:Int,0<P/\Bd 641 P/\∀i,i<t.length->∃z:Int,sh t b.toNat i=(z:Rat) / P:=by obtain⟨P,U,J,h⟩:=o.shc t.length (zzn _);exact⟨P,U,J.mono (by have:=o.l16;lia),h⟩
theorem T61.s01(o:T61 n t a b)(C:i<t.length):0<=sh t b.toNat i/\sh t b.toNat i<=1:=by
 obtain⟨_,_,_,_,c⟩:=o.cl o.nb C;unfold sh;split
 ·exact⟨zyh,by decide⟩
 ·rename_i z;have h0:0<=(My.cl t b.toNat i).2:=by have:=c.lo;lia
  have j:(My.cl t b.toNat i).2<=(My.cl t b.toNat i).1:=by have:=c.hi;lia
  have U:(0:Rat)<((My.cl t b.toNat i).1:Rat):=by exact_mod_cast (show 0<(My.cl t b.toNat i).1 by lia)
  have c0:(0:Rat)<=((My.cl t b.toNat i).2:Rat):=by exact_mod_cast h0
  have c1:((My.cl t b.toNat i).2:Rat)<=((My.cl t b.toNat i).1:Rat):=by exact_mod_cast j
  have J:=zvb.mpr U;refine⟨?_,?_⟩
  ·rw[zyi];exact zxp c0 (zxa J)
  ·rw[zyi];have:=zyR c1 (zxa J);have e:((My.cl t b.toNat i).1:Rat)*((My.cl t b.toNat i).1:Rat)⁻¹=1:=Rat.mul_inv_cancel _ (by grind);rw[e]at this;exact this
theorem T61.wk(o:T61 n t a b):Wk t.length (wA t a):=by
 refine⟨λi j=>(o.wn j).1,?_,WA t a,o.W.1,o.W.2.mono (by decide),λi j=>⟨_,rfl⟩⟩;have key:∀k,k<=t.length->sumQ (wA t a) k=(((List.range k).map λi=>(My.cl t a.toNat i).1).sum:Int) / (WA t a:Rat):=λk=>by
  induction k with
  |zero=>intro _;simp[sumQ,zyi]|succ k J =>
   intro hk;simp only[sumQ];rw[J (by lia),zyQ,zzs,List.sum_append];simp only[zzh,zyj,zzE,zwk,Int.add_zero,zwg];unfold wA;have:=Rq.cast_ne (show WA t a≠0 by have:=o.W.1;lia)
   grind
 rw[key _ (zzn _)];have e:((List.range t.length).map λi=>(My.cl t a.toNat i).1).sum=WA t a:=by
  unfold WA sumP;rw[kL (0,0) (λc:Int×Int=>c.1)];have:(col t a.toNat).length=t.length:=by unfold col;rw[zza]
  rw[this];rfl
 rw[e];have:=Rq.cast_ne (show WA t a≠0 by have:=o.W.1;lia)
 grind
end
def mixW(t:ai Row)(b:Int)(q:Nat->Rat):Rat:=sumQ (λi=>q i*sh t b.toNat i) t.length
def mixQ(t:ai Row)(a b:Int):Rat:=mixW t b (wA t a)
structure Mx(n:Nat)(t:List Row)(a b:Int)(q:Nat->Rat):Prop extends T61 n t a b where
 k:Wk t.length q
 tr:∀i,i<t.length->0<q i->(My.cl t b.toNat i).1≠0
theorem T61.mx{t:ai Row}(o:T61 n t a b):Mx n t a b (wA t a):=⟨o,o.wk,λi j z e=>(o.wn j).2.mp z ((o.lk j).mpr e)⟩
def wL(q:Nat->Rat)(n:Nat):D:=.lst ((List.range n).map λi=>ratQ (q i))
theorem IX(t:ai Row)(a:Int):D.lst ((wts (col t a.toNat)).map ratQ)=wL (wA t a) t.length:=by rw[zJ];rfl
def gMS:DSp:=λds Q=>∃(n:Nat) (t:ai Row) (a b:Int) (q:Nat->Rat),ds=[.lst (t.map rowD),.int b,wL q t.length]/\Mx n t a b q/\Q (ratQ (mixW t b q))
theorem Mx.pcs{n:Nat}{t:ai Row}{a b:Int}{q:Nat->Rat}(o:Mx n t a b q):∀l,l <:+: pcs q (sh t b.toNat) t.length->QB 3000 l.sum:=by
 obtain⟨N,H,U,G⟩:=o.k.cd;obtain⟨P,I,Y,E⟩:=o.sP;refine FS (N:=N*P) (n:=1341) (zyZ H I) (U.mul Y) (λx J=>?_) (zzo (sK _ _ _) o.l16) (by decide);unfold My.pcs at J;obtain⟨k,j,rfl⟩:=zzc.mp J;have j:=zzB.mp (zzu.mp j).1;refine⟨IW ⟨o.k.nn k j,o.k.le j⟩ (o.s01 j),?_⟩;obtain⟨z,e⟩:=G k j;obtain⟨y,C⟩:=E k j;refine⟨z*y,?_⟩;rw[e,C,zzP,zzP];have:=Rq.cast_ne (show N≠0 by lia);have:=Rq.cast_ne (show P≠0 by lia)
 grind
theorem cS(T:Tx K mg):T.oJ.Ok P w base CX0 11 (spD K 3 gMS):=by
 refine fnd ["table","house","weights","pieces","part","weight"] (λY _=>(ac (dow 3 (bW cB)) (aw (aM (ir T.xb (a2 0 2)) (dg2 4 5) (ag (dif (aj iq (dx 5) ad) (ag (eU (pv 3) (dcl (sg T) Y (aa (dv 5) (da1 (dcl (eC T) Y (da1 (dix (dv 4) (dv 1)))))))))))) (dr (dcl (kJ T) Y (a1 3)))))) (λds Q H h=>?_);obtain⟨n,t,a,J,q,rfl,o,h⟩:=h;have l16:=o.l16;have h0:=o.b0;have m:=o.b1;refine⟨sz,λC=>∃x y:Sl,C=[.val (.lst (t.map rowD)),.val (.int J),.val (wL q t.length),.own ((pcs q (sh t J.toNat) t.length).map ratQ),x,y],?_,?_⟩
 ·refine⟨_,_,rfl,rfl,?_⟩;show dZ _ _ (zipD (t.map rowD) ((List.range t.length).map λi=>ratQ (q i))) _ _;have g:zipD (t.map rowD) ((List.range t.length).map λi=>ratQ (q i))=(List.range t.length).map λi=>.tup [rowD (t.getD i []),ratQ (q i)]:=by rw[qp rowD,jn]
  rw[g];refine fo _ (λi C=>∃x y:Sl,C=[.val (.lst (t.map rowD)),.val (.int J),.val (wL q t.length),.own ((pcs q (sh t J.toNat) i).map ratQ),x,y]) (λC E=>E) (λi C X j E G=>?_) _ ⟨.nil,.nil,rfl⟩;obtain⟨x,y,rfl⟩:=E;obtain⟨r,I,M,b,c⟩:=o.cl o.nb j;have d:t.getD i []=r:=by rw[zze,I];rfl
  rw[d];refine⟨rfl,Br.di (λz=>?_) (λz=>?_)⟩
  ·have wp:=num_pos'.mp z;have c0:(My.cl t J.toNat i).1≠0:=o.tr i j wp;have e:sh t J.toNat i=((My.cl t J.toNat i).2:Rat) / ((My.cl t J.toNat i).1:Rat):=by unfold sh;rw[zzg c0]
   refine⟨trivial,dh (o.r40 r M) h0 m ?_⟩;rw[b];refine⟨rfl,uX (by decide) c.bt c.bw c0 ?_⟩;have U:shQ (My.cl t J.toNat i)=sh t J.toNat i:=by rw[e];rfl
   rw[U];refine⟨rfl,zy ((o.k.B j).mono (by decide)) ((o.sB j).mono (by decide)) ⟨?_,G _ ⟨.val (rowD r),.val (ratQ (q i)),?_⟩⟩⟩
   ·rw[zza];exact zzz (zzo (sK _ _ _) (show i<=100 by lia)) (by decide)
   ·rw[nV,zzi wp,zzs];rfl
  ·have z:¬ 0<q i:=λy=>z (num_pos'.mpr y);refine G _ ⟨.val (rowD r),.val (ratQ (q i)),?_⟩;rw[nV,zzg z,zyb];rfl
 ·rintro _ ⟨x,y,rfl⟩;refine⟨rfl,pcs q (sh t J.toNat) t.length,rfl,zzo (sK _ _ _) (show _<=64 by lia),λl H=>o.pcs l H,?_⟩;rw[zI λi j=>o.k.nn i j];exact h
theorem Du(n0:0<N)(J:∃z:Int,x=(z:Rat) / N)(U:∃z:Int,y=(z:Rat) / N):∃z:Int,x+y=(z:Rat) / N:=by
 obtain⟨u,rfl⟩:=J;obtain⟨v,rfl⟩:=U;refine⟨u+v,?_⟩;have:=Rq.cast_ne (show N≠0 by lia);rw[zwg]
 grind
theorem vf(n0:0<N)(J:∃z:Int,x=(z:Rat) / N)(U:∃z:Int,y=(z:Rat) / N):∃z:Int,x - y=(z:Rat) / N:=by
 obtain⟨u,rfl⟩:=J;obtain⟨v,rfl⟩:=U;refine⟨u - v,?_⟩;have:=Rq.cast_ne (show N≠0 by lia);rw[Rat.intCast_sub]
 grind
theorem Dv{M:Int}(n0:0<N)(m0:0<M)(J:∃z:Int,x=(z:Rat) / N)(U:∃z:Int,y=(z:Rat) / M):∃z:Int,x*y=(z:Rat) / ((N*M:Int):Rat):=by
 obtain⟨u,rfl⟩:=J;obtain⟨v,rfl⟩:=U;refine⟨u*v,?_⟩;have:=Rq.cast_ne (show N≠0 by lia);have:=Rq.cast_ne (show M≠0 by lia);rw[zzP,zzP]
 grind
theorem IY{M:Int}(n0:0<N)(m0:0<M)(J:∃z:Int,x=(z:Rat) / N):∃z:Int,x=(z:Rat) / ((N*M:Int):Rat):=by
 obtain⟨u,rfl⟩:=J;refine⟨u*M,?_⟩;have:=Rq.cast_ne (show N≠0 by lia);have:=Rq.cast_ne (show M≠0 by lia);rw[zzP,zzP]
 grind
theorem fr_0(N:Int):∃z:Int,(0:Rat)=(z:Rat) / N:=⟨0,by simp[zyi]⟩
theorem FT{c:Prop}[Decidable c](J:∃z:Int,x=(z:Rat) / N):∃z:Int,(if c then x else 0)=(z:Rat) / N:=by
 split
 ·exact J
 ·exact fr_0 N
theorem qr{N:Int}(J:0<N){f:Nat->Rat}:∀{n:Nat},(∀i,i<n->∃z:Int,f i=(z:Rat) / N)->∃z:Int,sumQ f n=(z:Rat) / N
 |0,_=>fr_0 N|n+1,h=>Du J (qr J λi hi=>h i (by lia)) (h n (by lia))
theorem kN{f:Nat->Rat}:∀{n:Nat},(∀i,i<n->0<=f i)->0<=sumQ f n
 |0,_=>zyh|n+1,h=>by
  have h1:=kN λi (hi:i<n)=>h i (by lia);have h2:=h n (by lia);show 0<=sumQ f n+f n
  grind
theorem vg(f g:Nat->Rat):∀n,sumQ (λi=>f i - g i) n=sumQ f n - sumQ g n
 |0=>by simp only[sumQ];grind
 |n+1=>by
  simp only[sumQ];rw[vg f g n]
  grind
section
variable{t:ai Row}
theorem Mx.m01{q:Nat->Rat}(o:Mx n t a b q):0<=mixW t b q/\mixW t b q<=1:=by
 refine⟨kN λi j=>(IW ⟨o.k.nn i j,o.k.le j⟩ (o.s01 j)).1,?_⟩;rw[←o.k.one];refine kM λi j=>?_;have C:=o.k.nn i j;have E:=(o.s01 j).2;have:=Rat.mul_le_mul_of_nonneg_left E C
 grind
theorem T61.mF(o:T61 n t a b){P:Int}(J:0<P)(U:∀i,i<t.length->∃z:Int,sh t b.toNat i=(z:Rat) / P):∃z:Int,mixQ t a b=(z:Rat) / ((WA t a*P:Int):Rat) :=
 qr (zyZ o.W.1 J) λi j=>Dv o.W.1 J ⟨_,rfl⟩ (U i j)
theorem T61.mB(o:T61 n t a b):QB 1400 (mixQ t a b):=by obtain⟨P,J,U,Y⟩:=o.sP;obtain⟨z,e⟩:=o.mF J Y;have m:=o.mx.m01;exact(fr_B (zyZ o.W.1 J) (o.W.2.mul U) e m.1 m.2).mono (by decide)
end
def ratK(q:Rat):ai Key:=[.inl q.num,.inl (q.den:Int)]
theorem ratK_inj:ratK p=ratK q↔p=q:=by
 refine⟨λh=>?_,λh=>by rw[h]⟩;unfold ratK at h;have j:p.num=q.num:=by simpa using(List.cons.inj h).1
 have C:(p.den:Int)=(q.den:Int):=by have:=(List.cons.inj (List.cons.inj h).2).1;exact Sum.inl.inj this
 rw[←self p,←self q,j,C]
def encL(p:Rat×Int):ai Key×D:=(ratK p.1,.int p.2)
def getL(L:ai (Rat×Int))(q:Rat):Int:=((L.find? λp=>decide (p.1=q)).map (·.2)).getD 0
def putL(L:ai (Rat×Int))(q:Rat)(v:Int):ai (Rat×Int):=if (L.any λp=>decide (p.1=q))=true then L.map (λp=>if p.1=q then(p.1,v) else p) else L++[(q,v)]
theorem nY(q:Rat):∀L:ai (Rat×Int),fh (L.map encL) (ratK q)=(L.find? λp=>decide (p.1=q)).map λp=>.int p.2
 |[]=>rfl|p::L=>by
  have J:=nY q L;unfold fh at J ⊢;rw[zzh,zxi,zxi];have e:decide ((encL p).1=ratK q)=decide (p.1=q):=decide_eq_decide.mpr ratK_inj;rw[e];cases decide (p.1=q) with
  |true=>rfl|false=>exact J
theorem FU(L:ai (Rat×Int))(q:Rat):(fh (L.map encL) (ratK q)).getD (.int 0)=.int (getL L q):=by rw[nY];unfold getL;cases L.find? λp=>decide (p.1=q)<;>rfl
theorem FV(L:ai (Rat×Int))(q:Rat)(v:Int):putA (L.map encL) (ratK q) (.int v)=(putL L q v).map encL:=by
 unfold putA putL;have e:((L.map encL).any λp=>decide (p.1=ratK q))=L.any λp=>decide (p.1=q):=by rw[List.any_map];congr 1;funext p;exact decide_eq_decide.mpr ratK_inj
 rw[e];split
 ·rw[zzk,zzk];apply zzF;intro p _;show (if ratK p.1=ratK q then(ratK p.1,D.int v) else encL p)=encL (if p.1=q then(p.1,v) else p);by_cases z:p.1=q
  ·rw[zzi (ratK_inj.mpr z),zzi z];rfl
  ·rw[zzg (λy=>z (ratK_inj.mp y)),zzg z]
 ·rw[zzs];rfl
def lvl(t:ai Row)(a b:Int)(q:Rat):Nat->Int
 |0=>0|k+1=>lvl t a b q k+if (cl t b.toNat k).1≠0/\sh t b.toNat k=q then(cl t a.toNat k).1 else 0
structure Lev(t:List Row)(a b:Int)(i:Nat)(L:List (Rat×Int)):Prop where
 nd:(L.map (·.1)).Nodup
 mem:∀q,q∈L.map (·.1)↔∃k,k<i/\(cl t b.toNat k).1≠0/\sh t b.toNat k=q
 val:∀p∈L,p.2=lvl t a b p.1 i
 len:L.length <= i
theorem vh{t:ai Row}{a b:Int}{q:Rat}:∀{i:Nat},(∀k,k<i->¬((cl t b.toNat k).1≠0/\sh t b.toNat k=q))->lvl t a b q i=0
 |0,_=>rfl|i+1,h=>by show lvl t a b q i+_=0;rw[vh λk hk=>h k (by lia),zzg (h i (by lia))];rfl
theorem kO(L:ai (Rat×Int))(q:Rat)(v:Int):(putL L q v).map (·.1)=if q∈L.map (·.1) then L.map (·.1) else L.map (·.1)++[q]:=by
 have e:(L.any λp=>decide (p.1=q))=true↔q∈L.map (·.1):=by rw[zyS,zzc];exact⟨λ⟨p,J,e⟩=>⟨p,J,zzQ e⟩,λ⟨p,J,e⟩=>⟨p,J,zzJ e⟩⟩
 unfold putL;by_cases z:q∈L.map (·.1)
 ·rw[zzi (e.mpr z),zzi z,zzk];apply zzF;intro p _;show (if p.1=q then(p.1,v) else p).1=p.1;split<;>rfl
 ·rw[zzg (λy=>z (e.mp y)),zzg z,zzs];rfl
theorem Ce{L:ai (Rat×Int)}{v:Int}:∀p∈putL L q v,(p.1=q/\p.2=v)∨(p.1≠q/\p∈L):=λp J=>by
 unfold putL at J;split at J
 ·obtain⟨r,U,rfl⟩:=zzc.mp J;by_cases z:r.1=q
  ·rw[zzi z];exact .inl ⟨z,rfl⟩
  ·rw[zzg z];exact .inr ⟨z,U⟩
 ·rename_i no;rcases zzx.mp J with J|J
  ·refine .inr ⟨λz=>no ?_,J⟩;rw[zyS];exact⟨p,J,zzJ z⟩
  ·rw[zzy.mp J];exact .inl ⟨rfl,rfl⟩
theorem Lev.get{t:ai Row}{L:ai (Rat×Int)}(o:Lev t a b i L)(q:Rat):getL L q=lvl t a b q i:=by
 unfold getL;cases e:L.find? λp=>decide (p.1=q) with
 |none =>
  refine(vh λk E Y=>?_).symm;obtain⟨p,U,J⟩:=zzc.mp ((o.mem q).mpr ⟨k,E,Y⟩);have:=List.find?_eq_none.mp e p U;exact this (zzJ J)
 |some p =>
  have j:=List.mem_of_find?_eq_some e;have C:p.1=q:=by simpa using List.find?_some e
  have:=o.val p j;rw[C]at this;exact this
theorem Lev.step{t:ai Row}{L:ai (Rat×Int)}(o:Lev t a b i L)(h:(cl t b.toNat i).1≠0):Lev t a b (i+1) (putL L (sh t b.toNat i) (getL L (sh t b.toNat i)+(cl t a.toNat i).1)):=by
 rw[o.get];refine⟨?_,λq=>?_,λp U=>?_,?_⟩
 ·rw[kO];split
  ·exact o.nd
  ·rename_i z;rw[zxj];exact⟨o.nd,by simp,λx J y Y e=>by rw[zzy.mp Y]at e;rw[e]at J;exact z J⟩
 ·have key:q∈(putL L (sh t b.toNat i) (lvl t a b (sh t b.toNat i) i+(cl t a.toNat i).1)).map (·.1)↔q∈L.map (·.1)∨q=sh t b.toNat i:=by
   rw[kO];split
   ·rename_i z;exact⟨.inl,λy=>y.elim id λe=>by rw[e];exact z⟩
   ·rw[zzx,zzy]
  rw[key,o.mem];constructor
  ·rintro(⟨k,C,j⟩|rfl)
   ·exact⟨k,by lia,j⟩
   ·exact⟨i,by lia,h,rfl⟩
  ·rintro⟨k,C,j,E⟩;by_cases z:k=i
   ·subst z;exact .inr E.symm
   ·exact .inl ⟨k,by lia,j,E⟩
 ·show p.2=lvl t a b p.1 i+_;rcases Ce p U with ⟨C,j⟩|⟨C,j⟩
  ·rw[C,j,zzi ⟨h,rfl⟩]
  ·rw[zzg (λy=>C y.2.symm),o.val p j];lia
 ·have e:(putL L (sh t b.toNat i) (lvl t a b (sh t b.toNat i) i+(cl t a.toNat i).1)).length=((putL L (sh t b.toNat i) (lvl t a b (sh t b.toNat i) i+(cl t a.toNat i).1)).map (·.1)).length:=by rw[zza]
  rw[e,kO];have:=o.len;split
  ·rw[zza];lia
  ·rw[zzm,zza,zzN];lia
theorem Lev.skip{t:ai Row}{L:ai (Rat×Int)}(o:Lev t a b i L)(h:(cl t b.toNat i).1=0):Lev t a b (i+1) L:=by
 refine⟨o.nd,λq=>?_,λp J=>?_,by have:=o.len;lia⟩
 ·rw[o.mem];constructor
  ·rintro⟨k,C,j⟩;exact⟨k,by lia,j⟩
  ·rintro⟨k,C,j,E⟩;by_cases z:k=i
   ·subst z;exact absurd h j
   ·exact⟨k,by lia,j,E⟩
 ·show p.2=lvl t a b p.1 i+_;rw[zzg (λy=>y.1 h),o.val p J];lia
def sumA(t:ai Row)(a:Int):Nat->Int
 |0=>0|k+1=>sumA t a k+(cl t a.toNat k).1
theorem IZ(t:ai Row)(a:Int):sumA t a t.length=WA t a:=by
 unfold WA sumP;have key:∀n,sumA t a n=((List.range n).map λi=>(cl t a.toNat i).1).sum:=λn=>by
  induction n with
  |zero=>rfl|succ n J =>
   rw[zyQ,zzs,List.sum_append];show sumA t a n+_=_;rw[J];simp
 rw[key,kL (0,0) (λc:Int×Int=>c.1)];have:(col t a.toNat).length=t.length:=by unfold col;rw[zza]
 rw[this];rfl
theorem T61.lv{n:Nat}{t:ai Row}{a b:Int}(o:T61 n t a b)(q:Rat):∀i,i<=t.length->0<=lvl t a b q i/\lvl t a b q i<=sumA t a i
 |0,_=>⟨zyu 0,zyu 0⟩|i+1,hi=>by
  have ih:=o.lv q i (by lia);obtain⟨_,_,_,_,c⟩:=o.cl o.na (show i<t.length by lia);have hc:0<=(My.cl t a.toNat i).1:=by have:=c.lo;have:=c.hi;lia
  show 0<=lvl t a b q i+_/\lvl t a b q i+_<=sumA t a i+_;split<;>lia
theorem T61.lB{t:ai Row}(o:T61 n t a b)(q:Rat):Bd 44 (lvl t a b q t.length):=by have h:=o.lv q t.length (zzn _);rw[IZ]at h;exact o.W.2.le (by lia)
def Ups(t:ai Row)(b:Int)(rs:ai Rat):Prop:=rs.Pairwise (· < ·)/\∀q,q∈rs↔∃k,k<t.length/\(cl t b.toNat k).1≠0/\sh t b.toNat k=q
def wl(t:ai Row)(a b:Int)(q:Rat):Rat:=(lvl t a b q t.length:Rat) / (WA t a:Rat)
def levD(t:ai Row)(a b:Int)(q:Rat):D:=.tup [ratQ q,ratQ (wl t a b q)]
def gLev:DSp:=λds Q=>∃(n:Nat) (t:ai Row) (a b:Int),ds=[.lst (t.map rowD),.int a,.int b]/\T61 n t a b/\∀rs,Ups t b rs->rs.length<=16->Q (.lst (rs.map (levD t a b)))
theorem vi(T:Tx K mg)(B:Bm mg base):T.Cv.Ok P w base CX0 6 (spD K 3 gLev):=by
 refine fnd ["table","a","b","tried","part","share","whole"] (λJ _=>(ac (yP 3) (aw (aM (fU T.aZ (da1 (dcl (dj T) J (a2 0 2)))) (dg2 4 5) (ag (dif (aj nB (dv 5) dX) (ag (Fi J (pv 3) (dv 5) (aP et (Fj J (pv 3) (dv 5) ad) (dix (dix (dix (dv 0) (dv 4)) (dv 1)) ad))))))) (ac (dse 6 (dix (dcl (aO T) J (a2 0 1)) ad)) (dr (dfc (ao ["share","tried","whole"] [none,some 3,some 6] rfl (ar (dcl (Cc T B) J (da1 (aU BJ T.vH (a1 3))))) (dgb 0) au (ay (aa (dv 0) (da1 (dcl (bS T) J (aa (yQ J (dv 1) (dv 0) (λ_ _=>rfl)) (a1 2))))))))))))) (λds Q hl h=>?_);obtain⟨n,t,a,b,rfl,o,h⟩:=h;have l16:=o.l16;refine⟨λj=>∃L,Lev t a b t.length L/\∃x y:Sl,j=[.val (.lst (t.map rowD)),.val (.int a),.val (.int b),.obj (dvO (L.map encL)),x,y,.nil],?_,?_⟩
 ·refine⟨rfl,n,t,rfl,o.o,⟨o.b0,o.b1⟩,?_⟩;show dZ _ _ (eA 0 ((col t b.toNat).map bI)) _ _;rw[jm bI (0,0)];have el:(col t b.toNat).length=t.length:=by unfold col;rw[zza]
  rw[el];refine fo _ (λi j=>∃L,Lev t a b i L/\∃x y:Sl,j=[.val (.lst (t.map rowD)),.val (.int a),.val (.int b),.obj (dvO (L.map encL)),x,y,.nil]) (λj C=>C) (λi j X v C m=>?_) _ ⟨[],⟨by simp,λq=>by simp,λp I=>by simp at I,zzn _⟩,_,_,rfl⟩;obtain⟨L,lv,x,y,rfl⟩:=C;obtain⟨r,E,G,e3,c⟩:=o.cl (h:=a.toNat) o.na v;obtain⟨_,_,_,_,cb⟩:=o.cl (h:=b.toNat) o.nb v;have lL:=lv.len;by_cases z:(cl t b.toNat i).1=0
  ·have H:bI ((col t b.toNat).getD i (0,0))=.non:=by
    have z:((col t b.toNat).getD i (0,0)).1=0:=z;unfold bI;rw[zzi z]
   rw[H];exact⟨rfl,Br.f (m _ ⟨L,lv.skip z,_,_,rfl⟩)⟩
  ·have H:bI ((col t b.toNat).getD i (0,0))=ratQ (sh t b.toNat i):=by
    have z':¬((col t b.toNat).getD i (0,0)).1=0:=z;rw[gL];unfold shO sh;rw[zzg z',zzg z];rfl
   rw[H];refine⟨rfl,Br.t ⟨trivial,L.map encL,ratK (sh t b.toNat i),rfl,rfl,?_⟩⟩;rw[FU];refine bR (d:=rowD r) (by lia) (by rw[zzG,zzl,E];rfl) (dh (o.r40 r G) o.a0 o.a1 ?_);refine⟨trivial,L.map encL,ratK (sh t b.toNat i),rfl,rfl,by rw[zza];exact zzz (show L.length<=100 by lia) (by decide),m _ ⟨_,lv.step z,.val (.int i),.val (ratQ (sh t b.toNat i)),?_⟩⟩;rw[←FV,e3];rfl
 ·rintro _ ⟨L,lv,x,y,rfl⟩;have lL:=lv.len;have W:=o.W;refine⟨rfl,n,t,rfl,o.o,⟨o.a0,o.a1⟩,o.ha,?_⟩;refine⟨rfl,L.map (·.1),by rw[zzk,zzk,zzk];rfl,by rw[zza];lia,lv.nd,λq M=>?_,λrs U=>?_⟩
  ·obtain⟨k,hk,_,rfl⟩:=(lv.mem q).mp M;exact(o.sB hk).mono (by decide)
  have ups:Ups t b rs:=⟨U.2,λq=>by rw[U.1.mem_iff];exact lv.mem q⟩;have A:rs.length<=16:=by rw[U.1.length_eq,zza];lia
  refine bc (λd=>match d with|.tup [.int x,.int y]=>levD t a b ((x:Rat) / (y:Rat))|_=>.non) (λj=>∃s:Sl,j=[s,.val (fzO (dvO (L.map encL))),.val (.int (WA t a))]) (by rw[zza];exact zzo A (by decide)) (λd hd j Y Z C u=>?_) _ ⟨_,rfl⟩ ?_
  ·obtain⟨s,rfl⟩:=C;obtain⟨q,M,rfl⟩:=zzc.mp hd;have eq:(match ratQ q with|.tup [.int x,.int y]=>levD t a b ((x:Rat) / (y:Rat))|_=>.non)=levD t a b q:=by
    show levD t a b ((q.num:Rat) / ((q.den:Int):Rat))=_;rw[self q]
   rw[eq]at u;have hm:q∈L.map (·.1):=U.1.mem_iff.mp M;have fe:fh (L.map encL) (ratK q)=some (.int (lvl t a b q t.length)):=by
    rw[nY,←lv.get q];unfold getL;obtain⟨p,I,N⟩:=zzc.mp hm;cases e:L.find? λp=>decide (p.1=q) with
    |none=>exact absurd (zzJ N) (List.find?_eq_none.mp e p I)|some p=>rfl
   refine Br.t ⟨L.map encL,ratK q,.int (lvl t a b q t.length),?_,rfl,fe,?_⟩
   ·show fzO (dvO (L.map encL))=_;unfold dvO;simp only[fzO];rw[nq,zzk,zzk,zzk,zzk];rfl
   ·have g:WA t a≠0:=by lia
    refine⟨rfl,⟨g,(o.lB q).mono (by decide),W.2.mono (by decide)⟩,λx y l=>?_⟩;obtain⟨E,G⟩:=Rq.low g l;rw[E,G];exact⟨sz,u _ ⟨_,rfl⟩⟩
  ·have:=h rs ups A;have e:(rs.map ratQ).map (λd=>match d with|.tup [.int x,.int y]=>levD t a b ((x:Rat) / (y:Rat))|_=>.non)=rs.map (levD t a b):=by
    rw[zzk];apply zzF;intro q _;show levD t a b ((q.num:Rat) / ((q.den:Int):Rat))=_;rw[self q]
   rw[e];exact this
def wO(p:Rat×Rat):D:=.tup [ratQ p.1,ratQ p.2]
def cor(G:Rat)(wt:Rat->Rat):Rat->Rat->ai Rat->ai (Rat×Rat)
 |_,_,[]=>[]|m,s,q::rs=>if q=G then cor G wt m s rs else(m+wt q,s+wt q*(G - q))::cor G wt (m+wt q) (s+wt q*(G - q)) rs
def aq(t:ai Row)(b:Int):Rat:=vq (colO t b) (aK (colO t b)).2
theorem T61.tB{t:ai Row}(o:T61 n t a b):QB 40 (aq t b):=by refine(fW (kG λc j=>?_) (gM o.hb)).2;obtain⟨r,J,rfl⟩:=zzc.mp j;exact(cD (o.r40 r J) o.nb).2
theorem T61.wlB{t:ai Row}(o:T61 n t a b)(q:Rat):QB 44 (wl t a b q):=QB.of (by have:=o.W.1;lia) (o.lB q) o.W.2
def iS(t:ai Row)(a b:Int)(rs:ai Rat):ai (Rat×Rat):=(0,mixQ t a b)::cor (aq t b) (wl t a b) 0 (mixQ t a b) rs
def gRch:DSpN:=λds _ L=>∃(n:Nat) (t:ai Row) (a b:Int),ds=[.lst (t.map rowD),.int a,.int b]/\T61 n t a b/\∀rs,Ups t b rs->rs.length<=16->L ((iS t a b rs).map wO)
theorem Cf(T:Tx K mg)(B:Bm mg base):T.tE.Ok P w base CX0 12 (spDN K 3 gRch):=by
 refine fnDN T.tE.d.F BL (λJ _=>(cx (aY (dcl (dJ T) J (a3 0 1 2))) (cx (dse 3 (dix (dcl (fm T) J (a2 0 2)) ad)) (cx (dse 4 (ay (aa ad (da1 ad)))) (cx (dse 5 (dcl (cS T) J (aa (dv 0) (aa (dv 2) (da1 (dcl (cF T) J (a2 0 1))))))) (cx (dow 6 (bW (da1 (ay (a2 4 5))))) (rT (aM (ar (dcl (vi T B) J (a3 0 1 2))) (dg2 7 8) (ag (dif (aj (fF J) (dv 7) (dv 3)) (ac (dse 4 (dcl (kE T) J (a2 4 8))) (ac (dse 5 (dcl (kE T) J (aa (dv 5) (da1 (dcl (sg T) J (aa (dv 8) (da1 (dcl (ce T) J (a2 3 7))))))))) (ag (eU (pv 6) (ay (a2 4 5))))))))) (yM (pv 6))))))))) (λds Q L hl h=>?_);obtain⟨n,t,a,b,rfl,o,h⟩:=h;refine⟨rfl,n,t,rfl,o.toTwo,rfl,n,t,rfl,o.o,⟨o.b0,o.b1⟩,o.hb,?_⟩;refine⟨sz,rfl,n,t,rfl,o.o,⟨o.a0,o.a1⟩,o.ha,rfl,n,t,a,b,wA t a,by rw[←IX],o.mx,?_⟩;have I:=o.tB;have sB:=o.mB;refine⟨sz,sz,λC=>∃(rs:ai Rat) (m s:Rat),Ups t b rs/\rs.length<=16/\∃x y:Sl,C=[.val (.lst (t.map rowD)),.val (.int a),.val (.int b),.val (ratQ (aq t b)),.val (ratQ m),.val (ratQ s),.own ((iS t a b rs).map wO),x,y],?_,?_⟩
 ·refine⟨rfl,n,t,a,b,rfl,o,λrs u E=>?_⟩;refine aN (λpre C=>∃(c0 c1:ai Rat) (m s:Rat) (cs:ai (Rat×Rat)),rs=c0++c1/\pre=c0.map (levD t a b)/\cor (aq t b) (wl t a b) 0 (mixQ t a b) rs=cs++cor (aq t b) (wl t a b) m s c1/\QB (45*c0.length+1) m/\QB (1400+126*c0.length) s/\cs.length<=c0.length /\
   ∃x y:Sl,C=[.val (.lst (t.map rowD)),.val (.int a),.val (.int b),.val (ratQ (aq t b)),.val (ratQ m),.val (ratQ s),.own (((0,mixQ t a b)::cs).map wO),x,y]) (λC H=>?_) (λpre d post C X e H M=>?_) _ ⟨[],rs,0,mixQ t a b,[],rfl,rfl,rfl,⟨yG,yG⟩,sB.mono (by lia),zzn _,_,_,rfl⟩
  ·obtain⟨c0,c1,m,s,cs,j,g,U,_,_,_,x,y,rfl⟩:=H;have:c1=[]:=by
    have:=congrArg List.length g;rw[j]at this;simp at this;exact this
   subst this;refine⟨rs,m,s,u,E,x,y,?_⟩;unfold iS;rw[U];simp[cor]
  ·obtain⟨c0,c1,m,s,cs,j,rfl,U,G,bs,lc,x,y,rfl⟩:=H;obtain⟨q,c1,rfl,rfl⟩:=dg j e;have lr:c0.length+c1.length+1<=16:=by rw[j,zzm,zzI]at E;lia
   have l:q∈rs:=by rw[j];simp
   have c:QB 40 q:=by obtain⟨k,i,_,rfl⟩:=(u.2 q).mp l;exact o.sB i
   have wB:=o.wlB q;refine⟨rfl,⟨cR _,cR _⟩,λz=>?_,λz=>?_⟩
   ·have z:(!eqD (ratQ q) (ratQ (aq t b)))=true:=z;rw[cy]at z;have z:¬q=aq t b:=by simpa using z
    have Y:QB 81 (aq t b - q):=I.sub c;have tw:QB 125 (wl t a b q*(aq t b - q)):=wB.mul Y;refine⟨rfl,m,wl t a b q,_,44,rfl,by lia,G,wB,rfl,dI (I.mono (by decide)) (c.mono (by decide)) ⟨rfl,zy (wB.mono (by decide)) (Y.mono (by decide)) ⟨rfl,s,_,_,125,rfl,by lia,bs,tw,?_⟩⟩⟩;refine⟨trivial,sz,?_,M _ ⟨c0++[q],c1,m+wl t a b q,s+wl t a b q*(aq t b - q),cs++[(m+wl t a b q,s+wl t a b q*(aq t b - q))],by rw[j];simp,by simp,?_,?_,?_,?_,.val (ratQ q),.val (ratQ (wl t a b q)),?_⟩⟩
    ·rw[zza,zzI];exact zzz (show cs.length+1<=100 by lia) (by decide)
    ·rw[U];simp only[cor];rw[zzg z];simp
    ·refine(G.add wB).mono ?_;rw[zzm,zzN];lia
    ·refine(bs.add tw).mono ?_;rw[zzm,zzN];lia
    ·rw[zzm,zzm,zzN,zzN];lia
    ·rw[←List.cons_append,zzs];rfl
   ·have z:(!eqD (ratQ q) (ratQ (aq t b)))=false:=z;rw[cy]at z;have z:q=aq t b:=by simpa using z
    refine M _ ⟨c0++[q],c1,m,s,cs,by rw[j];simp,by simp,?_,G.mono ?_,bs.mono ?_,?_,.val (ratQ q),.val (ratQ (wl t a b q)),rfl⟩
    ·rw[U];simp only[cor];rw[zzi z]
    ·rw[zzm,zzN];lia
    ·rw[zzm,zzN];lia
    ·rw[zzm,zzN];lia
 ·rintro _ ⟨rs,m,s,u,E,x,y,rfl⟩;exact h rs u E
def Aq(t:ai Row)(a b:Int)(q:Rat):Rat:=sumQ (λi=>if sh t b.toNat i<q then wA t a i else 0) t.length
def Sq(t:ai Row)(a b:Int)(q:Rat):Rat:=mixQ t a b+sumQ (λi=>if sh t b.toNat i<q then wA t a i*(aq t b - sh t b.toNat i) else 0) t.length
section
variable{t:ai Row}
theorem T61.w0(o:T61 n t a b)(j:i<t.length)(z:(My.cl t b.toNat i).1=0):wA t a i=0:=by unfold wA;rw[(o.lk j).mpr z];simp[zyi]
theorem T61.wl_sum(o:T61 n t a b)(q:Rat):wl t a b q=sumQ (λi=>if sh t b.toNat i=q then wA t a i else 0) t.length:=by
 unfold wl;have key:∀k,k<=t.length->(lvl t a b q k:Rat) / (WA t a:Rat)=sumQ (λi=>if sh t b.toNat i=q then wA t a i else 0) k:=λk=>by
  induction k with
  |zero=>intro _;simp[lvl,sumQ,zyi]|succ k J =>
   intro hk;simp only[sumQ,lvl];rw[←J (by lia),zwg];have hW:=Rq.cast_ne (show WA t a≠0 by have:=o.W.1;lia);by_cases z:(My.cl t b.toNat k).1=0
   ·rw[zzg (λy=>y.1 z)];have:=o.w0 (show k<t.length by lia) z;rw[this];simp[Rat.add_zero]
   ·by_cases y:sh t b.toNat k=q
    ·rw[zzi ⟨z,y⟩,zzi y];unfold wA
     grind
    ·rw[zzg (λx=>y x.2),zzg y];simp[Rat.add_zero]
 exact key _ (zzn _)
theorem mj{r:Rat}(h:l.Pairwise (· < ·))(e:l=qs++r::q::c1):r<q/\∀x∈l,(x<q↔x<r∨x=r):=by
 subst e;rw[List.pairwise_append]at h;obtain⟨h1,j,C⟩:=h;rw[zyJ]at j;obtain⟨E,U⟩:=j;rw[zyJ]at U;have Y:=E q zzd;refine⟨Y,λx J=>?_⟩;rcases zzx.mp J with J|J
 ·have:=C x J r zzd;constructor
  ·intro _;exact .inl this
  ·intro _;grind
 ·rcases zzr.mp J with rfl|J
  ·exact⟨λ_=>.inr rfl,λ_=>Y⟩
  ·rcases zzr.mp J with rfl|J
   ·constructor
    ·intro h;exact absurd h (by grind)
    ·intro h;grind
   ·have:=U.1 x J;constructor
    ·intro h;exact absurd h (by grind)
    ·intro h;grind
theorem T61.nextA(o:T61 n t a b){rs:ai Rat}(u:Ups t b rs){r:Rat}(e:rs=qs++r::q::c1):Aq t a b q=Aq t a b r+wl t a b r/\Sq t a b q=Sq t a b r+wl t a b r*(aq t b - r):=by
 have J:=(mj u.1 e).2;rw[o.wl_sum];have j:∀i,i<t.length->wA t a i=0∨sh t b.toNat i∈rs:=λi j=>by
  by_cases z:(My.cl t b.toNat i).1=0
  ·exact .inl (o.w0 j z)
  ·exact .inr ((u.2 _).mpr ⟨i,j,z,rfl⟩)
 constructor
 ·unfold Aq;rw[←nW];refine dl λi h=>?_;rcases j i h with z|z
  ·simp only[z];grind
  ·have k:=J _ z;have:=(mj u.1 e).1
   grind
 ·unfold Sq;rw[Rat.mul_comm,←nX,Rat.add_assoc,←nW];congr 1;refine dl λi h=>?_;rcases j i h with z|z
  ·simp only[z];grind
  ·have k:=J _ z;have:=(mj u.1 e).1
   grind
end
theorem zK:∀{rs J:ai Rat},rs.Pairwise (· < ·)->J.Pairwise (· < ·)->(∀q,q∈rs↔q∈J)->rs=J
 |[],[],_,_,_=>rfl|[],b::r',_,_,h=>absurd ((h b).mpr zzd) (by simp)|a::r,[],_,_,h=>absurd ((h a).mp zzd) (by simp)|a::r,b::r',j,C,h=>by
  rw[zyJ]at j C;have e:a=b:=by
   rcases zzr.mp ((h a).mp zzd) with e|y
   ·exact e
   ·rcases zzr.mp ((h b).mpr zzd) with e|z
    ·exact e.symm
    ·have h3:=C.1 a y;have h4:=j.1 b z
     grind
  subst e;have:r=r':=zK j.2 C.2 λq=>by
   constructor
   ·intro U;rcases zzr.mp ((h q).mp (zzf _ U)) with e|y
    ·have:=j.1 q U
     grind
    ·exact y
   ·intro U;rcases zzr.mp ((h q).mpr (zzf _ U)) with e|y
    ·have:=C.1 q U
     grind
    ·exact y
  rw[this]
theorem Ups.one{t:ai Row}{rs:ai Rat}(h:Ups t b rs)(j:Ups t b qs):rs=qs:=zK h.1 j.1 λq=>by rw[h.2,j.2]
theorem Ja{t:ai Row}(C:k<t.length):oq (colO t b) k=if (cl t b.toNat k).1=0 then none else some (sh t b.toNat k):=by
 unfold oq colO;rw[zze,zzl];have j:(col t b.toNat)[k]?=some (cl t b.toNat k):=by
  unfold cl;have J:k<(col t b.toNat).length:=by unfold col;rw[zza];exact C
  rw[zze,zzp J];rfl
 rw[j];show (some (shO (cl t b.toNat k))).getD none=_;unfold shO sh;by_cases z:(cl t b.toNat k).1=0
 ·rw[zzi z,zzi z];rfl
 ·rw[zzg z,zzg z,zzg z];rfl
theorem T61.top{t:ai Row}(o:T61 n t a b):((aK (colO t b)).2<t.length/\(My.cl t b.toNat (aK (colO t b)).2).1≠0/\sh t b.toNat (aK (colO t b)).2=aq t b)/\∀k,k<t.length->(My.cl t b.toNat k).1≠0->sh t b.toNat k<=aq t b:=by
 have J:(colO t b).length=t.length:=by unfold colO col;rw[zza,zza]
 have M:=gM o.hb;obtain⟨⟨_,T⟩,H⟩:=kF (colO t b) M;have val:∀k,k∈plq (colO t b) (colO t b).length->k<t.length/\(My.cl t b.toNat k).1≠0/\vq (colO t b) k=sh t b.toNat k:=λk E=>by
  obtain⟨C,j⟩:=nS E;rw[J]at C;rw[Ja C]at j;by_cases z:(My.cl t b.toNat k).1=0
  ·rw[zzi z]at j;cases j
  ·rw[zzg z]at j;exact⟨C,z,(zya j).symm⟩
 refine⟨?_,λk E U=>?_⟩
 ·obtain⟨C,j,I⟩:=val _ T;exact⟨C,j,I.symm⟩
 ·have G:k∈plq (colO t b) (colO t b).length:=zA (by rw[J];exact E) (by rw[Ja E,zzg U];rfl);have:=(H k G).2;rw[(val k G).2.2]at this;exact this
theorem Ups.last{t:ai Row}(o:T61 n t a b){rs:ai Rat}(u:Ups t b rs):∃l,rs=l++[aq t b]/\∀q∈l,q≠aq t b:=by
 obtain⟨⟨M,c,e⟩,C⟩:=o.top;have J:aq t b∈rs:=(u.2 _).mpr ⟨_,M,c,e⟩;rcases List.eq_nil_or_concat rs with z|⟨l,g,z⟩
 ·rw[z]at J;simp at J
 ·rw[List.concat_eq_append]at z;have j:=u.1;rw[z,List.pairwise_append]at j;have H:g∈rs:=by rw[z];simp
  obtain⟨d,U,Y,E⟩:=(u.2 g).mp H;have I:=C d U Y;rw[E]at I;have h2:aq t b<=g:=by
   rw[z]at J;rcases zzx.mp J with y|y
   ·exact zxa (j.2.2 _ y g (by simp))
   ·rw[zzy.mp y];exact zyh
  have G:g=aq t b:=by grind
  subst G;exact⟨l,z,λq T e=>by have:=j.2.2 q T _ (by simp:aq t b∈[aq t b]);grind⟩
section
variable{t:ai Row}
theorem T61.leG(o:T61 n t a b){rs:ai Rat}(u:Ups t b rs)(J:q∈rs):q<=aq t b:=by obtain⟨k,j,U,rfl⟩:=(u.2 q).mp J;exact o.top.2 k j U
theorem T61.cor_is(o:T61 n t a b){rs:ai Rat}(u:Ups t b rs):∀(c1 c0:ai Rat) (r:Rat),rs=c0++r::c1->cor (aq t b) (wl t a b) (Aq t a b r) (Sq t a b r) (r::c1)=c1.map λq=>(Aq t a b q,Sq t a b q)
 |[],c0,r,e=>by
  obtain⟨l,J,_⟩:=u.last o;have:r=aq t b:=by rw[J]at e;have:=congrArg List.getLast? e;simpa using this.symm
  simp[cor,this]
 |j::c1,c0,r,e=>by have lt:=(mj u.1 e).1;have hG:=o.leG u (q:=j) (by rw[e];simp);obtain⟨C,E⟩:=o.nextA u e;have U:=o.cor_is u c1 (c0++[r]) j (by rw[e];simp);rw[zzh,←U];rw[show cor (aq t b) (wl t a b) (Aq t a b r) (Sq t a b r) (r::j::c1)=if r=aq t b then cor (aq t b) (wl t a b) (Aq t a b r) (Sq t a b r) (j::c1) else(Aq t a b r+wl t a b r,Sq t a b r+wl t a b r*(aq t b - r))::cor (aq t b) (wl t a b) (Aq t a b r+wl t a b r) (Sq t a b r+wl t a b r*(aq t b - r)) (j::c1) from rfl];rw[zzg (by grind),←C,←E]
theorem T61.first(o:T61 n t a b){rs c:ai Rat}{r:Rat}(u:Ups t b rs)(e:rs=r::c):Aq t a b r=0/\Sq t a b r=mixQ t a b:=by
 have lo:∀i,i<t.length->sh t b.toNat i<r->wA t a i=0:=λi j h=>by
  by_cases z:(My.cl t b.toNat i).1=0
  ·exact o.w0 j z
  ·have C:sh t b.toNat i∈rs:=(u.2 _).mpr ⟨i,j,z,rfl⟩;have p:=u.1;rw[e]at C p;rw[zyJ]at p;rcases zzr.mp C with y|y
   ·grind
   ·have:=p.1 _ y
    grind
 have J:∀k,sumQ (λ_=>(0:Rat)) k=0:=λk=>by
  induction k with
  |zero=>rfl|succ k U=>simp only[sumQ];rw[U];grind
 constructor
 ·unfold Aq;rw[dl λi j=>?_,J];have:=lo i j
  grind
 ·unfold Sq;rw[dl λi j=>?_,J]
  ·grind
  ·have:=lo i j
   grind
theorem T61.reach_is(o:T61 n t a b){rs:ai Rat}(u:Ups t b rs):iS t a b rs=rs.map λq=>(Aq t a b q,Sq t a b q):=by
 obtain⟨l,J,_⟩:=u.last o;cases e:rs with
 |nil=>rw[e]at J;simp at J|cons r c =>
  obtain⟨j,C⟩:=o.first u e;have h:=o.cor_is u c [] r (by rw[e];rfl);rw[j,C]at h;unfold iS;rw[h,zzh,j,C]
theorem T61.endS(o:T61 n t a b):Sq t a b (aq t b)=aq t b:=by
 unfold Sq mixQ mixW;have e:sumQ (λi=>if sh t b.toNat i<aq t b then wA t a i*(aq t b - sh t b.toNat i) else 0) t.length=sumQ (λi=>aq t b*wA t a i - wA t a i*sh t b.toNat i) t.length:=by
  refine dl λi j=>?_;by_cases z:(My.cl t b.toNat i).1=0
  ·have:=o.w0 j z
   grind
  ·have:=o.top.2 i j z
   grind
 rw[e,vg,nX,o.wk.one]
 grind
def un(w p:Nat->Rat)(n:Nat):Rat:=sumQ (λi=>if p i<w i then w i - p i else 0) n
end
def Bq(t:ai Row)(a b:Int)(q:Rat)(j:Nat):Rat:=sumQ (λi=>if sh t b.toNat i=q then wA t a i else 0) j
def rst(t:ai Row)(a b:Int)(q rest:Rat)(j:Nat):Rat:=if rest<=Bq t a b q j then 0 else rest - Bq t a b q j
def wlf(t:ai Row)(a b:Int)(q rest:Rat)(i:Nat):Rat:=if sh t b.toNat i<q then 0 else if sh t b.toNat i=q then wA t a i - lsr (rst t a b q rest i) (wA t a i) else wA t a i
section
variable{t:ai Row}{rest:Rat}
theorem Dw(j:Nat):0<=rst t a b q rest j:=by unfold rst;split<;>grind
theorem jp(o:T61 n t a b)(J:m<t.length):rst t a b q rest (m+1)=if sh t b.toNat m=q then rst t a b q rest m - lsr (rst t a b q rest m) (wA t a m) else rst t a b q rest m:=by
 have hw:=o.wk.nn m J;unfold rst lsr Bq;simp only[sumQ];by_cases z:sh t b.toNat m=q
 ·simp only[zzi z]
  grind
 ·simp only[zzg z]
  grind
theorem Jb(h0:0<=rest)(o:T61 n t a b)(j:Nat)(hj:j<=t.length):rst t a b q rest j<=rest:=by
 have:0<=Bq t a b q j:=kN λi hi=>by
  have:=o.wk.nn i (by lia);show 0<=if sh t b.toNat i=q then wA t a i else 0
  split<;>grind
 unfold rst;split<;>grind
structure Rs(t:List Row)(a b:Int)(q rest:Rat):Prop where
 r0:0 <= rest
 r1:rest <= 1
 bq:QB 40 q
 cd:∃g:Int,0<g/\Bd 641 g/\∃z:Int,rest=(z:Rat) / ((WA t a*g:Int):Rat)
theorem Rs.fr(s:Rs t a b q rest)(o:T61 n t a b):∃N:Int,0<N/\Bd 685 N/\(∀i,i<t.length->∃z:Int,wA t a i=(z:Rat) / N)/\∀j,j<=t.length->∃z:Int,rst t a b q rest j=(z:Rat) / N:=by
 obtain⟨g,U,Y,G⟩:=s.cd;have W:=o.W;have J:=zyZ W.1 U;have C:∀i,i<t.length->∃z:Int,wA t a i=(z:Rat) / ((WA t a*g:Int):Rat):=λi E=>IY W.1 U ⟨_,rfl⟩;refine⟨WA t a*g,J,W.2.mul Y,C,λj hj=>?_⟩;unfold rst;split
 ·exact fr_0 _
 ·exact vf J G (qr J λi E=>FT (C i (by lia)))
theorem Rs.rB(s:Rs t a b q rest)(o:T61 n t a b)(J:m<=t.length):QB 685 (rst t a b q rest m):=by obtain⟨N,Y,U,_,h⟩:=s.fr o;obtain⟨z,e⟩:=h m J;have j:=Dw (t:=t) (a:=a) (b:=b) (q:=q) (rest:=rest) m;have h2:=Jb (q:=q) s.r0 o m J;have:=s.r1;exact fr_B Y U e j (by grind)
end
def gWl:DSpN:=λds _ L=>∃(n:Nat) (t:ai Row) (a b:Int) (q rest:Rat),ds=[.lst (t.map rowD),.int a,.int b,ratQ q,ratQ rest]/\T61 n t a b/\Rs t a b q rest/\L ((List.range t.length).map λi=>ratQ (wlf t a b q rest i))
theorem kP(T:Tx K mg):T.bJ.Ok P w base CX0 12 (spDN K 5 gWl):=by
 refine fnDN T.bJ.d.F kf (λE _=>(cx (dow 5 (bW cB)) (rT (aM (ir T.xb (aa (dcl (cF T) E (a2 0 1)) (da1 (dcl (dj T) E (a2 0 2))))) (dg2 6 7) (aw (HI (PWD.pt (iN (aj nB (dv 7) dX) (fc (aE (dcl (cL T) E (a2 7 3)))))) (ag (dse 6 (ay (aa ad (da1 ad))))) (ag (dif (aj (bZ E) (dv 7) (dv 3)) (ac (dse 8 (dcl (uW T) E (a2 4 6))) (ac (dse 4 (dcl (ce T) E (a2 4 8))) (ag (dse 6 (dcl (ce T) E (a2 6 8))))))))) (ag (eU (pv 5) (dv 6))))) (yM (pv 5))))) (λds Q L hl h=>?_);obtain⟨n,t,a,b,q,rest,rfl,o,s,h⟩:=h;have l16:=o.l16;refine⟨sz,λj=>∃G U J:Sl,j=[.val (.lst (t.map rowD)),.val (.int a),.val (.int b),.val (ratQ q),.val (ratQ (rst t a b q rest t.length)),.own ((List.range t.length).map λi=>ratQ (wlf t a b q rest i)),G,U,J],?_,?_⟩
 ·refine⟨rfl,n,t,rfl,o.o,⟨o.a0,o.a1⟩,o.ha,rfl,n,t,rfl,o.o,⟨o.b0,o.b1⟩,?_⟩;refine⟨_,_,rfl,rfl,?_⟩;show dZ _ _ (zipD ((wts (col t a.toNat)).map ratQ) ((col t b.toNat).map bI)) _ _;have g:(col t b.toNat).length=t.length:=by unfold col;rw[zza]
  have k:zipD ((wts (col t a.toNat)).map ratQ) ((col t b.toNat).map bI)=(List.range t.length).map λi=>.tup [ratQ (wA t a i),bI (My.cl t b.toNat i)]:=by rw[zJ,qp bI,g,jn];rfl
  rw[k];have h0:rst t a b q rest 0=rest:=by
   have:=s.r0;unfold rst Bq;simp only[sumQ]
   grind
  refine fo _ (λi j=>∃G U J:Sl,j=[.val (.lst (t.map rowD)),.val (.int a),.val (.int b),.val (ratQ q),.val (ratQ (rst t a b q rest i)),.own ((List.range i).map λi=>ratQ (wlf t a b q rest i)),G,U,J]) (λj c=>c) (λi j X C c l=>?_) _ ⟨.nil,.nil,.nil,by rw[h0];rfl⟩;obtain⟨G,U,J,rfl⟩:=c;have wB:=o.wB C;have rB:=s.rB o (Nat.le_of_lt C);have sB:=o.sB C;have e:((List.range i).map λi=>ratQ (wlf t a b q rest i)).length<sizeLine:=by rw[zza,zzK];exact zzz (show i<=100 by lia) (by decide)
  have fin:∀(v:Rat) (U J:Sl) (Y:Rat),Y=rst t a b q rest (i+1)->v=wlf t a b q rest i->X [.val (.lst (t.map rowD)),.val (.int a),.val (.int b),.val (ratQ q),.val (ratQ Y),.own (((List.range i).map λi=>ratQ (wlf t a b q rest i))++[ratQ v]),.val (ratQ v),U,J]:=λv U J Y H I=>by refine l _ ⟨.val (ratQ v),U,J,?_⟩;rw[H,I,zyQ,zzs];rfl
  by_cases z:(My.cl t b.toNat i).1=0
  ·have M:bI (My.cl t b.toNat i)=.non:=by unfold bI;rw[zzi z]
   rw[M];have w0:=o.w0 C z;have rn:=Dw (t:=t) (a:=a) (b:=b) (q:=q) (rest:=rest) i;refine⟨rfl,λj=>j=[.val (.lst (t.map rowD)),.val (.int a),.val (.int b),.val (ratQ q),.val (ratQ (rst t a b q rest i)),.own ((List.range i).map λi=>ratQ (wlf t a b q rest i)),.val (ratQ (wA t a i)),.val .non,J],Br.f (Br.f ⟨⟨rfl,cR q⟩,Br.f rfl⟩),?_⟩;rintro _ rfl;refine⟨trivial,e,fin _ _ _ _ ?_ ?_⟩
   ·rw[jp o C];unfold lsr
    grind
   ·unfold wlf lsr
    grind
  ·have M:bI (My.cl t b.toNat i)=ratQ (sh t b.toNat i):=by
    rw[gL];unfold shO sh;rw[zzg z,zzg z];rfl
   rw[M];refine⟨rfl,λj=>∃(v Y:Rat) (J:Sl),Y=rst t a b q rest (i+1)/\v=wlf t a b q rest i/\j=[.val (.lst (t.map rowD)),.val (.int a),.val (.int b),.val (ratQ q),.val (ratQ Y),.own ((List.range i).map λi=>ratQ (wlf t a b q rest i)),.val (ratQ v),.val (ratQ (sh t b.toNat i)),J],Br.t ⟨rfl,fG (sB.mono (by decide)) (s.bq.mono (by decide)) (Br.di (λy=>?_) (λy=>?_))⟩,?_⟩
   ·refine⟨sz,0,_,J,rfl,?_,?_⟩
    ·unfold wlf;rw[zzi y]
    ·rw[jp o C,zzg (by grind)];rfl
   ·refine⟨⟨cR _,cR _⟩,λx=>?_,λx=>?_⟩
    ·have x:eqD (ratQ (sh t b.toNat i)) (ratQ q)=true:=x;rw[cy]at x;have x:sh t b.toNat i=q:=by simpa using x
     have tB:QB 685 (lsr (rst t a b q rest i) (wA t a i)):=by
      unfold lsr;split
      ·exact wB.mono (by decide)
      ·exact rB
     refine⟨rfl,_,_,rfl,rB.mono (by decide),wB.mono (by decide),?_⟩;refine⟨rfl,dI (rB.mono (by decide)) (tB.mono (by decide)) ⟨rfl,dI (wB.mono (by decide)) (tB.mono (by decide)) ⟨_,_,.val (ratQ (lsr (rst t a b q rest i) (wA t a i))),?_,?_,rfl⟩⟩⟩
     ·rw[jp o C,zzi x]
     ·unfold wlf;rw[zzg y,zzi x]
    ·have x:eqD (ratQ (sh t b.toNat i)) (ratQ q)=false:=x;rw[cy]at x;have x:¬sh t b.toNat i=q:=by simpa using x
     refine⟨wA t a i,_,J,?_,?_,rfl⟩
     ·rw[jp o C,zzg x]
     ·unfold wlf;rw[zzg y,zzg x]
   ·rintro _ ⟨v,Y,J,H,I,rfl⟩;exact⟨trivial,e,fin v _ _ Y H I⟩
 ·rintro _ ⟨G,U,J,rfl⟩;exact h
section
variable{t:ai Row}
theorem T61.d01(o:T61 n t a b):0<=wQ t a/\wQ t a<=1:=by
 have w:=aL o.o o.na;have W:=o.W.1;have Y:(0:Rat)<((WA t a:Int):Rat):=by exact_mod_cast W
 have J:=zvb.mpr Y;have c0:(0:Rat)<=((sumP (col t a.toNat)).2:Rat):=by exact_mod_cast w.1
 have c1:((sumP (col t a.toNat)).2:Rat)<=((WA t a:Int):Rat):=by exact_mod_cast w.2.1
 have U:wQ t a=((sumP (col t a.toNat)).2:Rat) / ((WA t a:Int):Rat):=rfl;rw[U,zyi];refine⟨zxp c0 (zxa J),?_⟩;have:=zyR c1 (zxa J);have e:((WA t a:Int):Rat)*((WA t a:Int):Rat)⁻¹=1:=Rat.mul_inv_cancel _ (by grind);rw[e]at this;exact this
theorem T61.dF(_o:T61 n t a b):∃z:Int,wQ t a=(z:Rat) / (WA t a:Rat):=⟨_,rfl⟩
theorem T61.dB(o:T61 n t a b):QB 44 (wQ t a):=by obtain⟨z,e⟩:=o.dF;exact fr_B o.W.1 o.W.2 e o.d01.1 o.d01.2
theorem T61.A01(o:T61 n t a b)(q:Rat):0<=Aq t a b q/\Aq t a b q<=1:=by
 refine⟨kN λi j=>?_,?_⟩
 ·have:=o.wk.nn i j;show 0<=if sh t b.toNat i<q then wA t a i else 0
  split<;>grind
 ·rw[←o.wk.one];refine kM λi j=>?_;have:=o.wk.nn i j;show (if sh t b.toNat i<q then wA t a i else 0)<=wA t a i;split<;>grind
theorem T61.AF(o:T61 n t a b)(q:Rat):∃z:Int,Aq t a b q=(z:Rat) / (WA t a:Rat):=qr o.W.1 λ_ _=>FT ⟨_,rfl⟩
theorem T61.AB(o:T61 n t a b)(q:Rat):QB 44 (Aq t a b q):=by obtain⟨z,e⟩:=o.AF q;exact fr_B o.W.1 o.W.2 e (o.A01 q).1 (o.A01 q).2
theorem T61.G01(o:T61 n t a b):0<=aq t b/\aq t b<=1:=by have h:=o.top.1;rw[←h.2.2];exact o.s01 h.1
theorem T61.S01(o:T61 n t a b)(hq:q<=aq t b):mixQ t a b<=Sq t a b q/\Sq t a b q<=aq t b:=by
 have G:∀i,i<t.length->0<=if sh t b.toNat i<q then wA t a i*(aq t b - sh t b.toNat i) else 0:=λi j=>by
  have:=o.wk.nn i j;split
  ·exact zxp this (by grind)
  ·exact zyh
 constructor
 ·unfold Sq;have:=kN G
  grind
 ·have e:=o.endS;rw[←e];have h:sumQ (λi=>if sh t b.toNat i<q then wA t a i*(aq t b - sh t b.toNat i) else 0) t.length<=sumQ (λi=>if sh t b.toNat i<aq t b then wA t a i*(aq t b - sh t b.toNat i) else 0) t.length:=by
   refine kM λi j=>?_;have E:=o.wk.nn i j;show (if sh t b.toNat i<q then wA t a i*(aq t b - sh t b.toNat i) else 0)<=if sh t b.toNat i<aq t b then wA t a i*(aq t b - sh t b.toNat i) else 0
   by_cases z:sh t b.toNat i<q
   ·rw[zzi z,zzi (by grind)];exact zyh
   ·rw[zzg z];split
    ·exact zxp E (by grind)
    ·exact zyh
  rw[e];have C:Sq t a b (aq t b)=aq t b:=e;have:Sq t a b q<=Sq t a b (aq t b):=by
   unfold Sq
   grind
  rw[C]at this;exact this
theorem T61.SF(o:T61 n t a b){P:Int}(J:0<P)(U:∀i,i<t.length->∃z:Int,sh t b.toNat i=(z:Rat) / P)(q:Rat):∃z:Int,Sq t a b q=(z:Rat) / ((WA t a*P:Int):Rat):=by
 have Y:=zyZ o.W.1 J;have j:∃z:Int,aq t b=(z:Rat) / P:=by have h:=o.top.1;rw[←h.2.2];exact U _ h.1
 exact Du Y (o.mF J U) (qr Y λi C=>FT (Dv o.W.1 J ⟨_,rfl⟩ (vf J j (U i C))))
theorem T61.SB(o:T61 n t a b)(j:q<=aq t b):QB 685 (Sq t a b q):=by obtain⟨P,J,U,Y⟩:=o.sP;obtain⟨z,e⟩:=o.SF J Y q;have h1:=o.S01 j;have h2:=o.mx.m01;have h3:=o.G01;have e0:mixQ t a b=mixW t b (wA t a):=rfl;exact fr_B (zyZ o.W.1 J) (o.W.2.mul U) e (by grind) (by grind)
structure Bar(t:List Row)(a b:Int)(q r':Rat):Prop where
 adj:∃rs c0 c1,Ups t b rs/\rs=c0++q::r'::c1
 lo:Sq t a b q<wQ t a
 hi:wQ t a <= Sq t a b r'
def rs63(t:ai Row)(a b:Int)(q:Rat):Rat:=(wQ t a - Sq t a b q) / (aq t b - q)
def m63(t:ai Row)(a b:Int)(q:Rat):Rat:=Aq t a b q+rs63 t a b q
variable{r':Rat}
theorem Bar.lt(k:Bar t a b q r')(o:T61 n t a b):q<r'/\r'<=aq t b:=by obtain⟨rs,c0,c1,u,e⟩:=k.adj;exact⟨(mj u.1 e).1,o.leG u (by rw[e];simp)⟩
theorem Bar.next(k:Bar t a b q r')(o:T61 n t a b):Aq t a b r'=Aq t a b q+wl t a b q/\Sq t a b r'=Sq t a b q+wl t a b q*(aq t b - q):=by obtain⟨rs,c0,c1,u,e⟩:=k.adj;exact o.nextA u e
theorem Bar.rest(k:Bar t a b q r')(o:T61 n t a b):rs63 t a b q*(aq t b - q)=wQ t a - Sq t a b q:=by
 have:=k.lt o;unfold rs63;have h:aq t b - q≠0:=by grind
 grind
theorem Bar.r0(k:Bar t a b q r')(o:T61 n t a b):0<rs63 t a b q:=by have h:=k.lt o;have h2:=k.lo;unfold rs63;rw[zyi];exact Rat.mul_pos (by grind) (zvb.mpr (by grind))
theorem Bar.rw'(k:Bar t a b q r')(o:T61 n t a b):rs63 t a b q<=wl t a b q:=by
 have h:=k.lt o;have h1:=k.rest o;have j:=(k.next o).2;have C:=k.hi;rw[j]at C;have J:rs63 t a b q*(aq t b - q)<=wl t a b q*(aq t b - q):=by grind
 exact Rat.le_of_mul_le_mul_right J (by grind)
theorem Bar.m01(k:Bar t a b q r')(o:T61 n t a b):0<m63 t a b q/\m63 t a b q<=Aq t a b r':=by have h1:=k.r0 o;have h2:=k.rw' o;have h3:=(k.next o).1;have h4:=(o.A01 q).1;unfold m63;constructor<;>grind
theorem Bar.rs(k:Bar t a b q r')(o:T61 n t a b):Rs t a b q (rs63 t a b q):=by
 have T:=k.m01 o;have hA:=(o.A01 r').2;have hA0:=(o.A01 q).1;refine⟨zxa (k.r0 o),by unfold m63 at T;grind,?_,?_⟩
 ·obtain⟨rs,c0,c1,u,e⟩:=k.adj;obtain⟨i,j,_,rfl⟩:=(u.2 q).mp (by rw[e];simp);exact o.sB j
 ·obtain⟨P,J,E,Y⟩:=o.sP;obtain⟨g,U⟩:∃g:Int,aq t b - q=(g:Rat) / P:=by
   refine vf J ?_ ?_
   ·have h:=o.top.1;rw[←h.2.2];exact Y _ h.1
   ·obtain⟨rs,c0,c1,u,e⟩:=k.adj;obtain⟨i,j,_,rfl⟩:=(u.2 q).mp (by rw[e];simp);exact Y i j
  have h:=k.lt o;have q0:0<=q:=by obtain⟨rs,c0,c1,u,e⟩:=k.adj;obtain⟨i,j,_,rfl⟩:=(u.2 q).mp (by rw[e];simp);exact(o.s01 j).1
  have hG:=o.G01.2;have G:(0:Rat)<(P:Rat):=by exact_mod_cast J
  have ge:(g:Rat)=(aq t b - q)*P:=by rw[U];grind
  have M:(0:Rat)<(g:Rat):=by rw[ge];exact Rat.mul_pos (by grind) G
  have I:0<g:=by exact_mod_cast M
  refine⟨g,I,E.le (zB J (by rw[←U];grind) (by rw[←U];grind)),?_⟩;have C:=zyZ o.W.1 J;obtain⟨z,H⟩:=vf C (IY o.W.1 J o.dF) (o.SF J Y q);refine⟨z,?_⟩;unfold rs63;rw[H,U,zzP,zzP];have cW:=Rq.cast_ne (show WA t a≠0 by have:=o.W.1;lia);have:(g:Rat)≠0:=by grind
  have:(P:Rat)≠0:=by grind
  grind
end
def tw(t:ai Row)(a b:Int)(q:Rat)(i:Nat):Rat:=wlf t a b q (rs63 t a b q) i+if i=(aK (colO t b)).2 then m63 t a b q else 0
def La:DSp:=λds Q=>gRch ds Q λj=>Q (.lst j)
theorem sL(T:Tx K mg)(B:Bm mg base):T.tE.Ok P w base CX0 12 (spD K 3 La):=DL.FnOk.asD (Cf T B) (λds Q h=>h)
theorem FW{p:Prop}[Decidable p]{A B:Prop}(a:¬p->A)(b:p->B):Br (!decide p) A B:=⟨λz=>a (by simpa using z),λz=>b (by simpa using z)⟩
theorem qt{F:Rat->D}{p:Nat}{i:Int}(e:i=(p:Int))(J:p<l.length)(q:Q (F (l.getD p 0))):opt (atI (l.map F) i) Q:=by subst e;refine bR (by lia) ?_ q;rw[zzG,zzl,zzp J];simp[zze,J]
theorem Jc{p:Nat}(J:p+1<l.length):∃c0 c1,l=c0++l.getD p 0::l.getD (p+1) 0::c1:=by
 refine⟨l.take p,l.drop (p+2),?_⟩;have j:l.getD p 0=l[p]:=by simp[zze,show p<l.length by lia]
 have C:l.getD (p+1) 0=l[p+1]:=by simp[zze,J]
 rw[j,C,←zxe J,←zxe (show p<l.length by lia),zwH]
theorem Jd{t:ai Row}(o:T61 n t a b){rs:ai Rat}(u:Ups t b rs){p:Nat}(hp:p<rs.length)(h:Sq t a b (rs.getD p 0)<aq t b):p+1<rs.length:=by
 obtain⟨l,J,_⟩:=u.last o;apply zxf;intro z;have ll:rs.length=l.length+1:=by rw[J];simp
 have j:p=l.length:=by lia
 have:rs.getD p 0=aq t b:=by rw[J,j];simp
 rw[this,o.endS]at h
 grind
def gLvl:DSp:=λds Q=>∃(n:Nat) (t:ai Row) (a b:Int),ds=[.lst (t.map rowD),.int a,.int b]/\T61 n t a b /\
 (aq t b<wQ t a->Q (.tup [.str "never",.int ((aK (colO t b)).2:Int)])) /\
 (¬aq t b<wQ t a->¬mixQ t a b<wQ t a->Q (.tup [.str "can",ratQ 0,wL (wA t a) t.length,.non])) /\
 ∀q j,Bar t a b q j->Q (.tup [.str "can",ratQ (m63 t a b q),wL (tw t a b q) t.length,ratQ q])
theorem zL(T:Tx K mg)(B:Bm mg base):T.Gk.Ok P w base CX0 13 (spD K 3 gLvl):=by
 refine fnd ["table","a","b","corners","ends","due","place","bar","rest","least","weights"] (λJ _=>(ac (dse 3 (dcl (sL T B) J (a3 0 1 2))) (ac (dse 4 (dcl (fm T) J (a2 0 2))) (ac (dse 5 (dcl (eC T) J (da1 (dcl (aO T) J (a2 0 1))))) (ac (dir (aE (dcl (cL T) J (aa (dx 4) (a1 5)))) (ay (aa fK (da1 (dx 4))))) (ac (dir (bG (aE (dcl (cL T) J (aa (dix (dx 3) ad) (a1 5))))) (ay (aa fK (aa (ay (aa ad (da1 ad))) (aa (dcl (cF T) J (a2 0 1)) (da1 dX)))))) (ac (dse 6 ad) (aw (gu (aE (dcl (cL T) J (aa (dix (dix (dv 3) (aP et (dv 6) ad)) ad) (a1 5)))) (ag (dse 6 (aP et (dv 6) ad)))) (ac (dse 7 (dix (dix (dcl (vi T B) J (a3 0 1 2)) (dv 6)) ad)) (ac (dse 8 (dcl (za T) J (aa (dcl (ce T) J (aa (dv 5) (da1 (dix (dix (dv 3) (dv 6)) ad)))) (da1 (dcl (ce T) J (aa (dx 4) (a1 7))))))) (ac (dse 9 (dcl (kE T) J (aa (dix (dix (dv 3) (dv 6)) ad) (a1 8)))) (ac (Fe (i:=10) (kP T) (J.mono (by decide)) rfl T.bJ.d.m T.bJ.d.F.kp T.bJ.d.b (aa (dv 0) (aa (dv 1) (a3 2 7 8))) sc_level.nd rfl (by first|exact Or.inl rfl|exact Or.inr rfl)) (ac (fS (dcl (kE T) J (aa (Ia (pv 10) (dx 4) (λ_ _=>rfl)) (a1 9))) (lS (pv 10) (dx 4))) (ag (yS (k:=10) (yx (ay (aa fK (a3 9 10 7))))))))))))))))))) (λds Q hl h=>?_);obtain⟨n,t,a,b,rfl,o,h1,h2,h3⟩:=h;have g:=aL o.o (h:=a.toNat) o.na;have v:(sumP (col t a.toNat)).1≠0:=o.ha;have dB:=o.dB;have tB:=o.tB;refine⟨rfl,n,t,a,b,rfl,o,λrs u rl=>?_⟩;rw[o.reach_is u,zzk];refine⟨rfl,n,t,rfl,o.o,⟨o.b0,o.b1⟩,o.hb,rfl,n,t,rfl,o.o,⟨o.a0,o.a1⟩,o.ha,rfl,uX (by decide) g.2.2.1 g.2.2.2 v ?_⟩;refine⟨rfl,fG (tB.mono (by decide)) (dB.mono (by decide)) (Br.di (λz=>⟨sz,h1 z⟩) (λ(z:¬aq t b<wQ t a)=>?_))⟩;obtain⟨l,el,_⟩:=u.last o;have E:0<rs.length:=by rw[el];simp
 obtain⟨r0,c,Y⟩:∃r c,rs=r::c:=by
  cases e:rs with
  |nil=>rw[e]at E;simp at E|cons r c=>exact⟨r,c,rfl⟩
 have H:rs.getD 0 0=r0:=by rw[Y];rfl
 have f0:=o.first u Y;have mem:∀p,p<rs.length->rs.getD p 0∈rs:=λp U=>by
  have:rs.getD p 0=rs[p]:=by simp[zze,U]
  rw[this];exact zyL U
 refine qt (p:=0) rfl E ⟨rfl,?_⟩;rw[H];refine fG (p:=Sq t a b r0) ((o.SB (o.leG u (by rw[Y];simp))).mono (by decide)) (dB.mono (by decide)) (FW (λy=>?_) (λy=>?_))
 ·refine⟨sz,rfl,n,t,rfl,o.o,⟨o.a0,o.a1⟩,o.ha,sz,?_⟩;rw[f0.2]at y;have:=h2 z y;rw[←IX]at this;exact this
 have s:Sq t a b (rs.getD 0 0)<wQ t a:=by rw[H];exact y
 refine⟨λj=>∃p:Nat,p+1<rs.length/\Sq t a b (rs.getD p 0)<wQ t a/\¬Sq t a b (rs.getD (p+1) 0)<wQ t a/\j=[.val (.lst (t.map rowD)),.val (.int a),.val (.int b),.val (.lst (rs.map (wO ∘ λq=>(Aq t a b q,Sq t a b q)))),.val (qk (colO t b)),.val (ratQ (wQ t a)),.val (.int p),.nil,.nil,.nil,.nil],?_,?_⟩
 ·refine eu (λj=>∃p:Nat,p+1<rs.length/\Sq t a b (rs.getD p 0)<wQ t a/\j=[.val (.lst (t.map rowD)),.val (.int a),.val (.int b),.val (.lst (rs.map (wO ∘ λq=>(Aq t a b q,Sq t a b q)))),.val (qk (colO t b)),.val (ratQ (wQ t a)),.val (.int p),.nil,.nil,.nil,.nil]) (λj=>match slot j 6 with|.val (.int p)=>rs.length - p.toNat|_=>0) (λj X hN hX=>?_) _ ⟨0,Jd o u E (by grind),s,rfl⟩;obtain⟨p,U,hs,rfl⟩:=hN;refine qt (p:=p+1) rfl U ⟨rfl,fG (p:=Sq t a b (rs.getD (p+1) 0)) ((o.SB (o.leG u (mem _ U))).mono (by decide)) (dB.mono (by decide)) (Br.di (λx=>?_) (λx=>?_))⟩
  ·refine hX _ ⟨p+1,Jd o u U (by grind),x,rfl⟩ ?_;show rs.length - ((p:Int)+1).toNat<rs.length - (p:Int).toNat;lia
  ·exact⟨p,U,hs,x,rfl⟩
 rintro _ ⟨p,U,hs,hs',rfl⟩;have M:=mem p (by lia);have k:Bar t a b (rs.getD p 0) (rs.getD (p+1) 0):=by obtain⟨c0,c1,e⟩:=Jc U;exact⟨⟨rs,c0,c1,u,e⟩,hs,by grind⟩
 obtain⟨q,eq⟩:∃q,q=rs.getD p 0:=⟨_,rfl⟩;obtain⟨G,A⟩:∃G,G=rs.getD (p+1) 0:=⟨_,rfl⟩;rw[←eq,←A]at k;rw[←eq]at M;have lt:=k.lt o;have sB:=o.SB (o.leG u M);have I:=(k.rs o).bq;have rB:QB 685 (rs63 t a b q):=by
  have:=(k.rs o).rB o (zzT _);have h0:rst t a b q (rs63 t a b q) 0=rs63 t a b q:=by
   have:=k.r0 o;unfold rst Bq;simp only[sumQ]
   grind
  rw[h0]at this;exact this
 have C:=o.top.1;refine⟨rfl,n,t,a,b,rfl,o,λL u' _=>?_⟩;have N:L=rs:=u'.one u;rw[N];refine qt (p:=p) rfl (by lia) ?_;rw[←eq];refine qt (p:=p) rfl (by lia) ?_;rw[←eq];have g1:QB 730 (wQ t a - Sq t a b q):=(dB.sub sB).mono (by decide);have g2:QB 81 (aq t b - q):=tB.sub I;refine⟨rfl,dI (dB.mono (by decide)) (sB.mono (by decide)) ⟨rfl,dI (p:=aq t b) (tB.mono (by decide)) (I.mono (by decide)) ⟨rfl,FJ (g1.mono (by decide)) (g2.mono (by decide)) (by grind) ?_⟩⟩⟩;refine qt (p:=p) rfl (by lia) ?_;rw[←eq];refine⟨rfl,zx ((o.AB q).mono (by decide)) (rB.mono (by decide)) ⟨rfl,n,t,a,b,q,rs63 t a b q,rfl,o,k.rs o,?_⟩⟩;have hg:((List.range t.length).map λi=>ratQ (wlf t a b q (rs63 t a b q) i))[(aK (colO t b)).2]?=some (ratQ (wlf t a b q (rs63 t a b q) (aK (colO t b)).2)):=by rw[zzl,zzW C.1];rfl
 have ew:wlf t a b q (rs63 t a b q) (aK (colO t b)).2=wA t a (aK (colO t b)).2:=by unfold wlf;rw[C.2.2,zzg (by grind),zzg (by grind)]
 have mB:QB 730 (m63 t a b q):=((o.AB q).add rB).mono (by decide);refine⟨trivial,bR (d:=ratQ (wlf t a b q (rs63 t a b q) (aK (colO t b)).2)) (by lia) (by rw[zzG];exact hg) ⟨rfl,zx (by rw[ew];exact(o.wB C.1).mono (by decide)) (mB.mono (by decide)) ⟨trivial,(aK (colO t b)).2,?_,?_⟩⟩⟩
 ·rw[zza,zzK];exact lT (by lia) (by lia)
 refine⟨_,rfl,sz,?_⟩;have e:((List.range t.length).map λi=>ratQ (wlf t a b q (rs63 t a b q) i)).set (aK (colO t b)).2 (ratQ (wlf t a b q (rs63 t a b q) (aK (colO t b)).2+m63 t a b q))=(List.range t.length).map λi=>ratQ (tw t a b q i):=by
  apply zxk;intro i;rw[List.getElem?_set,zza,zzK,zzl,zzl];by_cases z:(aK (colO t b)).2=i
  ·subst z;rw[zzi rfl,zzi C.1,zzW C.1];show _=some (ratQ (tw t a b q (aK (colO t b)).2));unfold tw;rw[zzi rfl]
  ·rw[zzg z];by_cases y:i<t.length
   ·rw[zzW y];show some (ratQ (wlf t a b q (rs63 t a b q) i))=some (ratQ (tw t a b q i));unfold tw;rw[zzg λe=>z e.symm,Rat.add_zero]
   ·rw[zyg (by simp;lia)];rfl
 have:=h3 q G k;unfold wL at this;rw[←e]at this;exact this
structure Ord(m:Nat)(A:List Int):Prop where
 it:∀x∈A,0 <= x/\x<m
 nd:A.Nodup
 len:A.length=m
def gi(A:ai Int)(i:Int):Int:=A.getD i.toNat 0
theorem Ord.at(o:Ord m A){i:Int}(h0:0<=i)(h1:i<m):A[i.toNat]?=some (gi A i)/\0<=gi A i/\gi A i<m:=by
 have J:i.toNat<A.length:=by rw[o.len];lia
 have e:A[i.toNat]?=some (gi A i):=by unfold gi;rw[zze,zzp J];rfl
 exact⟨e,o.it _ (zzD e)⟩
theorem Ord.inj(o:Ord m A){i:Int}(U:0<=i)(Y:i<m)(G:0<=b)(H:b<m)(h:gi A i=gi A b):i=b:=by
 obtain⟨j,_⟩:=o.at U Y;obtain⟨C,_⟩:=o.at G H;rw[h]at j;have E:i.toNat<A.length:=by rw[o.len];lia
 have J:b.toNat<A.length:=by rw[o.len];lia
 rw[zzp E]at j;rw[zzp J]at C;have:=(zxz o.nd).mp ((zya j).trans (zya C).symm);lia
def cal(cs:ai (ai Int))(x k:Int):Int:=gi (cs.getD x.toNat []) k
def frs(pl:ai Int)(cs:ai (ai Int))(ks:ai Int):Nat->ai Int
 |0=>List.replicate ks.length 0|i+1=>(frs pl cs ks i).set (gi pl i).toNat (cal cs i (gi ks i))
theorem kQ(pl:ai Int)(cs:ai (ai Int))(ks:ai Int):∀i,(frs pl cs ks i).length=ks.length
 |0=>by unfold frs;simp
 |i+1=>by unfold frs;rw[zwM,kQ pl cs ks i]
theorem zM{pl:ai Int}{cs:ai (ai Int)}{ks:ai Int}(o:Ord ks.length pl):∀(i:Nat),i<=ks.length->∀j:Int,0<=j->j<i->gi (frs pl cs ks i) (gi pl j)=cal cs j (gi ks j)
 |0,_,j,J,U=>by lia
 |i+1,hi,j,J,U=>by
  obtain⟨_,p0,p1⟩:=o.at (i:=(i:Int)) (by lia) (by lia);obtain⟨_,q0,q1⟩:=o.at J (by lia);show gi ((frs pl cs ks i).set (gi pl i).toNat (cal cs i (gi ks i))) (gi pl j)=_;unfold gi at *;by_cases e:j=(i:Int)
  ·subst e;rw[zze,zxN (by rw[kQ];lia)];rfl
  ·have ne:(pl.getD (i:Int).toNat 0).toNat≠(pl.getD j.toNat 0).toNat:=λz=>e (o.inj J (by lia) (by lia) (by lia) (by unfold gi;lia));rw[zze,zzO ne,←zze];exact zM o i (by lia) j J (by lia)
abbrev frs'(pl:ai Int)(cs:ai (ai Int))(ks:ai Int):ai Int:=frs pl cs ks ks.length
def tuR(hs pl:ai Int)(cs:ai (ai Int))(z:Int)(r:Rw):Rw:=⟨gi hs r.h,frs' pl cs r.ks,r.t*z,r.w*z⟩
def kap(cs:ai (ai Int)):ai Int->ai Int->ai Int
 |x::so,k::v=>cal cs x k::kap cs so v|_,_=>[]
theorem qu{pl:ai Int}{cs:ai (ai Int)}{ks:ai Int}(o:Ord ks.length pl):∀{so:ai Int},(∀x∈so,0<=x/\x<ks.length)->vals (frs' pl cs ks) (so.map (gi pl))=kap cs so (vals ks so)
 |[],_=>rfl|x::so,h=>by obtain⟨U,Y⟩:=h x zzd;have:=qu o (cs:=cs) λy J=>h y (zzf _ J);unfold vals at this ⊢;rw[zzh,zzh,zzh,kap,this];exact congrArg (· :: _) (zM o ks.length (zzn _) x U Y)
theorem vj{α β:Type}{f:ai Int->ai Int}{g:α->β}{k:ai Int}{r:α}:∀{G:ai (ai Int×ai α)},(∀p∈G,f p.1=f k->p.1=k)->addX (f k) (g r) (G.map λp=>(f p.1,p.2.map g))=(addX k r G).map λp=>(f p.1,p.2.map g)
 |[],_=>rfl|p::G,h=>by
  have U:=vj (g:=g) (r:=r) λq J=>h q (zzf _ J);rw[zzh];unfold addX;by_cases e:p.1=k
  ·rw[zzi (by rw[e]),zzi e,zzh,zzs];rfl
  ·rw[zzg (λz=>e (h p zzd z)),zzg e,zzh,U]
theorem Cg{f:ai Int->ai Int}{g:α->β}{ps:ai (ai Int×α)}(inj:∀p∈ps,∀q∈ps,f p.1=f q.1->p.1=q.1):grpX (ps.map λp=>(f p.1,g p.2))=(grpX ps).map λq=>(f q.1,q.2.map g):=by
 have:∀(n:Nat),n<=ps.length->grpX ((ps.take n).map λp=>(f p.1,g p.2))=(grpX (ps.take n)).map λq=>(f q.1,q.2.map g):=by
  intro n
  induction n with
  |zero=>intro _;rfl|succ n E =>
   intro C;have J:n<ps.length:=C;rw[List.take_add_one,zzp J];show grpX ((ps.take n++[ps[n]]).map _)=(grpX (ps.take n++[ps[n]])).map _;rw[zzs,zzh,zyj,qi,qi,E (by lia)];refine vj (r:=ps[n].2) λp U e=>?_;have:p.1∈(ps.take n).map (·.1):=(gH _ _).mp (zzc.mpr ⟨p,U,rfl⟩);obtain⟨q,Y,j⟩:=zzc.mp this;rw[←j]at e ⊢;exact inj q (List.mem_of_mem_take Y) _ (zyL J) e
 have:=this ps.length (zzn _);rw[zxE]at this;exact this
theorem vm{α β:Type}{f:ai Int->ai Int}{g:α->β}{k:ai Int}:∀{G:ai (ai Int×ai α)},(∀p∈G,f p.1=f k->p.1=k)->xsOf (G.map λp=>(f p.1,p.2.map g)) (f k)=(xsOf G k).map g
 |[],_=>rfl|p::G,h=>by
  have J:=vm (g:=g) λq U=>h q (zzf _ U);unfold xsOf at J ⊢;rw[zzh];by_cases e:p.1=k
  ·rw[zzR (by simp[e]),zzR (by simp[e])];rfl
  ·rw[zzS (by simpa using λz=>e (h p zzd z)),zzS (by simpa using e)];exact J
structure CsO(ms:List Int)(cs:List (List Int)):Prop where
 it:∀x:Int,0 <= x->x<ms.length->Ord (gi ms x).toNat (cs.getD x.toNat [])
structure Tn(n:Nat)(ms:List Int)(rs:List Rw)(hs pl:List Int)(cs:List (List Int))(z:Int):Prop where
 o:RsOk n ms rs
 hs:Ord n hs
 pl:Ord ms.length pl
 cs:CsO ms cs
 z1:1 <= z
 z9:z <= 9
section
variable{rs:ai Rw}
theorem sM(c:CsO ms cs){ks J:ai Int}(j:∀x:Int,0<=x->x<ms.length->0<=gi ks x/\gi ks x<gi ms x)(C:∀x:Int,0<=x->x<ms.length->0<=gi J x/\gi J x<gi ms x):∀{so:ai Int},(∀x∈so,0<=x/\x<ms.length)->kap cs so (vals ks so)=kap cs so (vals J so)->vals ks so=vals J so
 |[],_,_=>rfl|x::so,hs,h=>by have E:=sM c j C λy I=>hs y (zzf _ I);unfold vals at E h ⊢;rw[zzh,zzh,kap,kap]at h;injection h with G H;obtain⟨U,Y⟩:=hs x zzd;have a:=j x U Y;have b:=C x U Y;have:gi ks x=gi J x:=(c.it x U Y).inj a.1 (by lia) b.1 (by lia) G;rw[zzh,zzh,E H];exact congrArg (· :: _) this
theorem RwOk.ki(o:RwOk n ms r)(x:Int)(x0:0<=x)(x1:x<ms.length):0<=gi r.ks x/\gi r.ks x<gi ms x:=by
 have j:x.toNat<r.ks.length:=by rw[o.kl];lia
 have C:x.toNat<ms.length:=by lia
 unfold gi;rw[zze,zze,zzp j,zzp C];exact o.kk x.toNat _ _ (zzp j) (zzp C)
theorem wP(t:Tn n ms rs hs pl cs z)(U:∀x∈so,0<=x/\x<ms.length):dG (rs.map (tuR hs pl cs z)) (so.map (gi pl))=(dG rs so).map λp=>(kap cs so p.1,tuR hs pl cs z p.2):=by
 unfold dG;rw[zwf,zzk,zzk];have z1:=t.z1;have e:rs.filter ((λr=>decide (0<r.t)) ∘ tuR hs pl cs z)=rs.filter λr=>decide (0<r.t):=by refine zxR λr J=>?_;have:=(t.o.t9 r J).1;show decide (0<r.t*z)=decide (0<r.t);rw[zzJ (show 0<r.t by lia),zzJ (zyZ (by lia) (by lia))]
 rw[e];refine zzF λr J=>?_;have j:=t.o.ro r (zzu.mp J).1;show (vals (frs' pl cs r.ks) (so.map (gi pl)),_)=(kap cs so (vals r.ks so),_);rw[qu (by rw[j.kl];exact t.pl) (by rw[j.kl];exact U)]
theorem zN(t:Tn n ms rs hs pl cs z)(J:∀x∈so,0<=x/\x<ms.length):Gp (rs.map (tuR hs pl cs z)) (so.map (gi pl))=(Gp rs so).map λq=>(kap cs so q.1,q.2.map (tuR hs pl cs z)):=by show grpX (dG (rs.map (tuR hs pl cs z)) (so.map (gi pl)))=_;rw[wP t J];refine Cg λp Y q j e=>?_;obtain⟨r,C,rfl⟩:=zzc.mp Y;obtain⟨E,U,rfl⟩:=zzc.mp j;exact sM t.cs (t.o.ro r (zzu.mp C).1).ki (t.o.ro E (zzu.mp U).1).ki J e
theorem mq{k:ai Int}(h:k∈Kp rs so):∃r∈rs,k=vals r.ks so:=by obtain⟨p,J,rfl⟩:=zzc.mp ((gH _ _).mp h);obtain⟨r,U,rfl⟩:=zzc.mp J;exact⟨r,(zzu.mp U).1,rfl⟩
theorem Je(t:Tn n ms rs hs pl cs z)(U:∀x∈so,0<=x/\x<ms.length){k:ai Int}(h:k∈Kp rs so)(j:A∈Kp rs so)(e:kap cs so k=kap cs so A):k=A:=by obtain⟨r,Y,rfl⟩:=mq h;obtain⟨C,J,rfl⟩:=mq j;exact sM t.cs (t.o.ro r Y).ki (t.o.ro C J).ki U e
theorem nZ(t:Tn n ms rs hs pl cs z)(J:∀x∈so,0<=x/\x<ms.length):Kp (rs.map (tuR hs pl cs z)) (so.map (gi pl))=(Kp rs so).map (kap cs so):=by show (Gp _ _).map _=_;rw[zN t J,zzk,zzk];rfl
theorem sN(t:Tn n ms rs hs pl cs z)(J:∀x∈so,0<=x/\x<ms.length){k:ai Int}(j:k∈Kp rs so):Xp (rs.map (tuR hs pl cs z)) (so.map (gi pl)) (kap cs so k)=(Xp rs so k).map (tuR hs pl cs z):=by show xsOf (Gp _ _) _=_;rw[zN t J];exact vm λp U e=>Je t J (zzc.mpr ⟨p,U,rfl⟩) j e
theorem fX(t:Tn n ms rs hs pl cs z){h:Int}(h0:0<=h)(j:h<n):∀{xs:ai Rw},(∀r∈xs,r∈rs)->sT (gi hs h) (xs.map (tuR hs pl cs z))=sT h xs*z/\sW (gi hs h) (xs.map (tuR hs pl cs z))=sW h xs*z
 |[],_=>by unfold sT sW;simp
 |r::xs,J=>by
  obtain⟨a,b⟩:=fX t h0 j λy U=>J y (zzf _ U);have C:=t.o.ro r (J r zzd);unfold sT at a ⊢;unfold sW at b ⊢;rw[zzh];by_cases e:r.h=h
  ·rw[zyp (by show decide (gi hs r.h=gi hs h)=true;rw[e];simp),zyp (by simpa using e),zzh,zzh,zzh,zzh,zzE,zzE,zzE,zzE,a,b];exact⟨by show r.t*z+_=_;rw[zwx],by show r.w*z+_=_;rw[zwx]⟩
  ·rw[zyq (by show ¬decide (gi hs r.h=gi hs h)=true;simpa using λq=>e (t.hs.inj C.h0 C.h1 h0 j q)),zyq (by simpa using e)];exact⟨a,b⟩
theorem wR(k:ai Int):∀r∈Xp rs so k,r∈rs:=λr U=>by rw[show Xp rs so k=_ from fk _ _]at U;obtain⟨p,Y,rfl⟩:=zzc.mp U;obtain⟨r,J,rfl⟩:=zzc.mp (zzu.mp Y).1;exact(zzu.mp J).1
abbrev tb1(n:Nat)(rs:ai Rw)(so:ai Int):ai Row:=(bu (Kp rs so)).map λk=>ax n (Xp rs so k)
abbrev tb2(n:Nat)(rs:ai Rw)(so hs pl:ai Int)(cs:ai (ai Int))(z:Int):ai Row:=(bu (Kp rs so)).map λk=>ax n ((Xp rs so k).map (tuR hs pl cs z))
theorem vn(t:Tn n ms rs hs pl cs z){h:Nat}(J:h<n):col (tb2 n rs so hs pl cs z) (gi hs h).toNat=(col (tb1 n rs so) h).map λc=>(c.1*z,c.2*z):=by obtain⟨_,g0,g1⟩:=t.hs.at (i:=(h:Int)) (by lia) (by lia);unfold col;rw[zzk,zzk,zzk];refine zzF λk _=>?_;show at_ (ax n _) (gi hs h).toNat=((at_ (ax n _) h).1*z,(at_ (ax n _) h).2*z);rw[cf (by lia),cf J,show (((gi hs h).toNat:Nat):Int)=gi hs h by lia];obtain⟨a,b⟩:=fX t (h:=(h:Int)) (by lia) (by lia) (wR k);rw[a,b]
end
theorem Ord.ins{m:Nat}(h:Ord m A)(k:Nat):Ord (m+1) (A.take k++(m:Int)::A.drop k):=by
 have e:(A.take k++(m:Int)::A.drop k).Perm ((m:Int)::A):=by refine List.perm_middle.trans ?_;rw[zwH]
 refine⟨λx J=>?_,e.nodup_iff.mpr (zyl.mpr ⟨λz=>?_,h.nd⟩),by rw[e.length_eq,zzI,h.len]⟩
 ·rcases zzr.mp (e.mem_iff.mp J) with rfl|J
  ·lia
  ·have:=h.it x J;lia
 ·have:=h.it _ z;lia
def gOr:DSp:=λds Q=>∃m:Nat,ds=[.pen,.int m]/\m<=6/\∀A,Ord m A->Q (.lst (A.map .int))
theorem dL(T:Tx K mg):T.qF.Ok P w base CX0 2 (spD K 2 gOr):=by
 refine fnd ["_law_pen_here","_law_size","_law_found","_law_k"] (λY _=>(ac (dow 2 (bW cB)) (aw (aM (bY T.dm (a1 1)) (dgn 3) (ag (Ir (pv 2) (aa (dcl (aD T) Y (aa (dv 0) (da1 (aP et (dv 3) ad)))) (a1 3))))) (dr (dv 2))))) (λds Q hl h=>?_);obtain⟨m,rfl,m6,h⟩:=h;refine⟨sz,λj=>∃A,Ord m A/\∃s:Sl,j=[.val .pen,.val (.int m),.own (A.map D.int),s],⟨⟨by lia,by lia⟩,?_⟩,?_⟩
 ·refine gA (λk j=>∃A,Ord k.toNat A/\∃s:Sl,j=[.val .pen,.val (.int m),.own (A.map D.int),s]) _ _ ?_ ?_ _ ⟨[],⟨λx C=>by simp at C,zxy,rfl⟩,_,rfl⟩
  ·rintro j ⟨A,J,s,rfl⟩;have e:(0+(((m:Int).toNat:Nat):Int)).toNat=m:=by lia
   rw[e]at J;exact⟨A,J,s,rfl⟩
  ·rintro k j X k0 k1 ⟨A,J,s,rfl⟩ U;have ol:=J.len;refine⟨trivial,rfl,⟨by lia,by lia⟩,λu E u1=>⟨u,.int k,rfl,E,by rw[zza];lia,by rw[zza];lia,U _ ⟨A.take u.toNat++k::A.drop u.toNat,?_,.val (.int k),?_⟩⟩⟩
   ·have:=J.ins u.toNat;rw[show ((k.toNat:Nat):Int)=k by lia]at this;rw[show (k+1).toNat=k.toNat+1 by lia];exact this
   ·rw[zzs,zzh,List.map_take,List.map_drop];rfl
 ·rintro _ ⟨A,J,s,rfl⟩;exact h A J
structure RsF(n:Nat)(ms:List Int)(rs:List Rw):Prop where
 ro:∀r∈rs,RwOk n ms r
 t9:∀r∈rs,1 <= r.t/\r.t <= 60
 al:∀r∈rs,∀h:Int,0 <= h->h<n->∃r'∈rs,r'.ks=r.ks/\r'.h=h
def C6(k:Nat)(rs:ai Rw):Prop:=∃C:ai (ai Int),C.length<=k/\∀r∈rs,r.ks∈C
def gRw:DSp:=λds Q=>∃(n:Nat) (ms:ai Int),ds=[.pen,.int n,.lst (ms.map D.int)]/\(2<=n/\n<=6)/\MsOk ms/\∀rs:ai Rw,rs≠[]->rs.length<=36->RsF n ms rs->C6 6 rs->Q (.lst (rs.map rwD))
theorem sO(T:Tx K mg):T.tq.Ok P w base CX0 2 (spD K 3 gRw):=by
 refine fnd ["_law_pen_here","_law_many","_law_marks","_law_rows_here","_law_k","_law_kinds","_law_house","_law_tried"] (λJ _=>(ac (dow 3 (bW cB)) (aw (aM (bY T.dm (da1 (aP et ad (dcl (aD T) J (aa (dv 0) (da1 ad)))))) (dgn 4) (ac (dse 5 (aU bK T.bj (da1 (dfc (ao ["_law_kinds","_law_pen_here"] [none,some 0] rfl (ar (dv 2)) (dgb 0) au (dcl (aD T) J (a2 1 0))))))) (ag (aM (bY T.dm (a1 1)) (dgn 6) (ac (dse 7 (aP et ad (dcl (aD T) J (aa (dv 0) (da1 (dix (ff (bW (aa ad (da1 ad)))) (dcl (aD T) J (aa (dv 0) (da1 ad))))))))) (ag (eU (pv 3) (ay (aa (dv 6) (aa (dv 5) (aa (dv 7) (da1 (dcl (aD T) J (aa (dv 0) (da1 (aP et (dv 7) ad)))))))))))))))) (dr (ff (yN (dv 3) jS (jT ad))))))) (λds Q hl h=>?_);obtain⟨n,ms,rfl,⟨n2,n6⟩,mo,h⟩:=h;have m5:=mo.l5;have go:∀rs:ai Rw,rs.length<=36->(rs.map rwD).length<=60:=λrs hl=>by rw[zza];lia
 refine⟨sz,λE=>∃rs:ai Rw,rs≠[]/\rs.length<=36/\RsF n ms rs/\C6 6 rs/\∃a b c d:Sl,E=[.val .pen,.val (.int n),.val (.lst (ms.map D.int)),.own (rs.map rwD),a,b,c,d],?_,?_⟩
 ·refine⟨rfl,⟨by decide,by decide⟩,λx x0 x1=>⟨⟨by lia,by lia⟩,?_⟩⟩;refine gA (λk E=>∃rs:ai Rw,(rs.length:Int)=k*n/\RsF n ms rs/\C6 k.toNat rs/\∃a b c d:Sl,E=[.val .pen,.val (.int n),.val (.lst (ms.map D.int)),.own (rs.map rwD),a,b,c,d]) _ _ ?_ ?_ _ ⟨[],by simp,⟨λr J=>by simp at J,λr J=>by simp at J,λr J=>by simp at J⟩,⟨[],zzT _,λr J=>by simp at J⟩,.nil,.nil,.nil,.nil,rfl⟩
  ·rintro E ⟨rs,g,l,⟨C,cl,ci⟩,a,b,c,d,rfl⟩;refine⟨rs,?_,?_,l,⟨C,by lia,ci⟩,a,b,c,d,rfl⟩
   ·rintro rfl;have e:(0+(((1+x).toNat:Nat):Int))=1+x:=by lia
    rw[e]at g;have:0<(1+x)*(n:Int):=zyZ (by lia) (by lia);simp at g;lia
   ·have e:(0+(((1+x).toNat:Nat):Int))=1+x:=by lia
    rw[e]at g;have:(1+x)*(n:Int)<=6*6:=zxd (by lia) (by lia) (by lia) (by decide);lia
  ·rintro k E X k0 k1 ⟨rs,g,l,⟨C,cl,ci⟩,a,b,c,d,rfl⟩ hX;have kn:k*(n:Int)+n<=36:=by
    have:(k+1)*(n:Int)<=6*6:=zxd (by lia) (by lia) (by lia) (by decide);rw[zwx]at this;lia
   refine aA (λpre L E=>∃U y ks:ai Int,ms=U++y/\pre=U.map D.int/\L=ks.map D.int/\ks.length=U.length/\(∀(i:Nat) (k m:Int),ks[i]?=some k->U[i]?=some m->0<=k/\k<m)/\∃s,E=[s,.val .pen]) (λL E hN=>?_) (λpre d post L E Y e hN hY=>?_) _ ⟨[],ms,[],rfl,rfl,rfl,rfl,λi k m I=>by simp at I,_,rfl⟩
   ·obtain⟨U,y,ks,G,e2,rfl,q,kk,s,rfl⟩:=hN;have G:=eV G e2;subst G;refine⟨⟨by lia,by lia⟩,?_⟩;refine gA (λj E=>∃qs:ai Rw,(qs.length:Int)=j/\(∀r∈qs,RwOk n ms r/\r.ks=ks/\(1<=r.t/\r.t<=60))/\(∀h:Int,0<=h->h<j->∃H∈qs,H.h=h)/\∃c d:Sl,E=[.val .pen,.val (.int n),.val (.lst (ms.map D.int)),.own ((rs++qs).map rwD),.val (.int k),.val (az ks),c,d]) _ _ ?_ ?_ _ ⟨[],rfl,λr J=>by simp at J,λh a b=>by lia,c,_,by rw[zyb];rfl⟩
    ·rintro E ⟨qs,ql,M,A,c,d,rfl⟩;have e:(0+(((n:Int).toNat:Nat):Int))=n:=by lia
     rw[e]at ql A;refine hX _ ⟨rs++qs,by rw[zzm,zwx];lia,⟨λr J=>?_,λr J=>?_,λr J h h0 N=>?_⟩,⟨ks::C,by rw[zzI];lia,λr J=>?_⟩,_,_,_,_,rfl⟩
     ·rcases zzx.mp J with J|J
      ·exact l.ro r J
      ·exact(M r J).1
     ·rcases zzx.mp J with J|J
      ·exact l.t9 r J
      ·exact(M r J).2.2
     ·rcases zzx.mp J with J|J
      ·obtain⟨H,a1,a2⟩:=l.al r J h h0 N;exact⟨H,zzx.mpr (.inl a1),a2⟩
      ·obtain⟨H,a1,a2⟩:=A h h0 N;exact⟨H,zzx.mpr (.inr a1),by rw[(M H a1).2.1,(M r J).2.1],a2⟩
     ·rcases zzx.mp J with J|J
      ·exact zzf _ (ci r J)
      ·rw[(M r J).2.1];exact zzd
    ·rintro j E Y j0 j1 ⟨qs,ql,M,A,c,d,rfl⟩ hY;have e:(0+(((n:Int).toNat:Nat):Int))=n:=by lia
     refine⟨sz,rfl,⟨by decide,by decide⟩,λu u0 u1=>Fb u0 u1 λd hd=>?_⟩;have hc:∃c:Int,d=.int c/\1<=c/\c<=60:=by
      simp only[zzr,zyo,zxv]at hd;rcases hd with rfl|rfl
      ·exact⟨_,rfl,by decide,by decide⟩
      ·exact⟨_,rfl,by decide,by decide⟩
     obtain⟨cc,rfl,c0,c1⟩:=hc;refine⟨rfl,⟨by lia,by lia⟩,λv v0 v1=>⟨trivial,rfl,⟨by lia,by lia⟩,λww w0 w1=>⟨sz,?_,hY _ ⟨qs++[⟨j,ks,1+v,ww⟩],by simp;lia,λr J=>?_,λh h0 N=>?_,_,_,by rw[←zyF,zzs (l₁:=rs++qs)];rfl⟩⟩⟩⟩
     ·rw[zza,zzm];exact zzz (show rs.length+qs.length<=100 by lia) (by decide)
     ·rcases zzx.mp J with J|J
      ·exact M r J
      ·rw[zzy.mp J];exact⟨⟨j0,by show j<n;lia,q,kk,w0,by show ww<=1+v;lia,by show 1+v<=10^12;lia⟩,rfl,by show 1<=1+v/\1+v<=60;lia⟩
     ·by_cases z:h=j
      ·exact⟨_,zzx.mpr (.inr (zzy.mpr rfl)),z.symm⟩
      ·obtain⟨H,a1,a2⟩:=A h h0 (by lia);exact⟨H,zzx.mpr (.inl a1),a2⟩
   ·obtain⟨U,y,ks,G,rfl,rfl,q,kk,s,rfl⟩:=hN;obtain⟨x,y,rfl,rfl⟩:=dg G e;have hx:=mo.it x (by rw[G];simp);rw[G,zzm]at m5;refine Br.t ⟨rfl,⟨by lia,by lia⟩,λr r0 r1=>⟨?_,hY _ _ ⟨U++[x],y,ks++[r],by rw[G];simp,by simp,by simp,by simp[q],λi k m I p=>?_,_,rfl⟩⟩⟩
    ·rw[zza,q];exact zzz (show U.length<=10 by lia) (by decide)
    ·by_cases z:i<U.length
     ·rw[zys (by lia)]at I;rw[zys z]at p;exact kk i k m I p
     ·rw[zzM (by lia)]at I;rw[zzM (by lia)]at p;have z2:i - U.length=0:=by
       have:=(zzt.mp p).1;simp at this;lia
      rw[q,z2]at I;rw[z2]at p;simp at I p;lia
 ·rintro _ ⟨rs,rn,g,l,c6,a,b,c,d,rfl⟩;have e:cutD (rs.map rwD) none (some 60)=rs.map rwD:=by
   have:=go rs g;unfold cutD;rw[HT.sIx_none,show HT.sIx (rs.map rwD).length (rs.map rwD).length (some 60)=(rs.map rwD).length from(HT.sIx_nat _ _ 60).trans (Nat.min_eq_right this),zva,zwO];exact zxE
  show Q (.lst (cutD (rs.map rwD) none (some 60)));rw[e];exact h rs rn g l c6
def csD(cs:ai (ai Int)):D:=.lst (cs.map λc=>.lst (c.map .int))
def gTr:DSp:=λds Q=>∃(n:Nat) (ms:ai Int) (rs:ai Rw) (hs pl:ai Int) (cs:ai (ai Int)) (z:Int),ds=[.lst (rs.map rwD),.lst (hs.map D.int),.lst (pl.map D.int),csD cs,.int z]/\Tn n ms rs hs pl cs z/\cs.length=ms.length/\Q (.lst ((rs.map (tuR hs pl cs z)).map rwD))
theorem cw(o:Ord m A){i:Int}(h0:0<=i)(j:i<m)(q:Q (.int (gi A i))):gIx (.lst (A.map D.int)) (.int i) Q:=by obtain⟨e,_⟩:=o.at h0 j;exact bR h0 (by rw[zzl,e];rfl) q
theorem dLoop_enum{g:DG}{b:DTS}{E:DEnds}{xs:ai D}(N:Nat->DS->Prop)(H:∀ρ,N xs.length ρ->E.nx ρ)
  (hs:∀(i:Nat) (x:D) (ρ:DS) (X:DS->Prop),xs[i]?=some x->N i ρ->(∀j,N (i+1) j->X j)->g (.tup [.int i,x]) ρ λJ=>b {E with nx:=X,ct:=X,bk:=E.nx} J) (ρ:DS) (h:N 0 ρ):dZ g b (eA 0 xs) E ρ:=by
 refine aN (λpre ρ=>N pre.length ρ) (λρ C=>H ρ (by rw[aJ]at C;exact C)) (λpre d post ρ X e C U=>?_) _ h;have Y:(eA 0 xs)[pre.length]?=some d:=by rw[e,zzM (zzn _),zyY];rfl
 obtain⟨x,I,rfl⟩:=eB xs 0 _ _ Y;rw[zwj];exact hs _ x ρ X I C λj G=>U j (by rw[zzm];exact G)
theorem gN(T:Tx K mg):T.gT.Ok P w base CX0 1 (spD K 5 gTr):=by
 refine fnd ["_law_rows_here","_law_houses","_law_places","_law_called","_law_by","_law_found","_law_house","_law_kinds","_law_tried","_law_well","_law_fresh","_law_mark","_law_kind"] (λk _=>(ac (dow 5 (bW cB)) (aw (aM (ar (dv 0)) (dgt 4 (cQ (dgn 6) (cQ (dgn 7) (cQ (dgn 8) (cQ (dgn 9) rL))))) (ac (dow 10 (yO (ff (bW (da1 ad))) (dln aV T.bO (dv 7)))) (aw (aM (uD T.aZ (a1 7)) (dg2 11 12) (ag (fS (dix (dix (dv 3) (dv 11)) (dv 12)) (lS (pv 10) (dix (dv 2) (dv 11)))))) (ag (eU (pv 5) (ay (aa (dix (dv 1) (dv 6)) (aa (aU bK T.bj (a1 10)) (aa (aP cj (dv 8) (dv 4)) (da1 (aP cj (dv 9) (dv 4)))))))))))) (dr (dv 5))))) (λds Q hl h=>?_);obtain⟨n,ms,rs,hs,pl,cs,z,rfl,t,cl,h⟩:=h;have rl:=t.o.rl;have ml:=t.o.mo.l5;have z1:=t.z1;have z9:=t.z9;refine⟨sz,λj=>∃G H I M E J U:Sl,j=[.val (.lst (rs.map rwD)),.val (.lst (hs.map D.int)),.val (.lst (pl.map D.int)),.val (csD cs),.val (.int z),.own ((rs.map (tuR hs pl cs z)).map rwD),G,H,I,M,E,J,U],?_,?_⟩
 ·refine aN (λpre j=>∃r0 a:ai Rw,rs=r0++a/\pre=r0.map rwD/\∃G H I M E J U:Sl,j=[.val (.lst (rs.map rwD)),.val (.lst (hs.map D.int)),.val (.lst (pl.map D.int)),.val (csD cs),.val (.int z),.own ((r0.map (tuR hs pl cs z)).map rwD),G,H,I,M,E,J,U]) (λj g=>?_) (λpre d post j X e g u=>?_) _ ⟨[],rs,rfl,rfl,_,_,_,_,_,_,_,rfl⟩
  ·obtain⟨r0,a,C,p,G,H,I,M,E,J,U,rfl⟩:=g;have C:=eV C p;subst C;exact⟨_,_,_,_,_,_,_,rfl⟩
  ·obtain⟨r0,a,C,rfl,G,H,I,M,E,J,U,rfl⟩:=g;obtain⟨r,a,rfl,rfl⟩:=dg C e;have k:r∈rs:=by rw[C];simp
   have b:=t.o.ro r k;have rt:=t.o.t9 r k;have N:=b.kl;refine⟨rfl,sz,?_,λj=>∃J U:Sl,j=[.val (.lst (rs.map rwD)),.val (.lst (hs.map D.int)),.val (.lst (pl.map D.int)),.val (csD cs),.val (.int z),.own ((r0.map (tuR hs pl cs z)).map rwD),.val (.int r.h),.val (az r.ks),.val (.int r.t),.val (.int r.w),.own ((frs' pl cs r.ks).map D.int),J,U],?_,?_⟩
   ·rw[zza,N];refine⟨by lia,?_⟩;show 1*(ms.length:Int).toNat<=_;exact zzo (m:=100) (by lia) (by decide)
   ·refine dLoop_enum (λi j=>∃J U:Sl,j=[.val (.lst (rs.map rwD)),.val (.lst (hs.map D.int)),.val (.lst (pl.map D.int)),.val (csD cs),.val (.int z),.own ((r0.map (tuR hs pl cs z)).map rwD),.val (.int r.h),.val (az r.ks),.val (.int r.t),.val (.int r.w),.own ((frs pl cs r.ks i).map D.int),J,U]) ?_ ?_ _ ?_
    ·rintro j ⟨J,U,rfl⟩;rw[zza];exact⟨_,_,rfl⟩
    ·rintro i x j Y l ⟨J,U,rfl⟩ v;have A:i<r.ks.length:=by
      have:=(zzt.mp l).1;rwa [zza]at this
     have q:x=.int (gi r.ks i):=by
      have s:r.ks[i]?=some (gi r.ks i):=by unfold gi;rw[zzG,zze,zzp A];rfl
      rw[zzl,s]at l;exact(zya l).symm
     subst q;obtain⟨L,k1⟩:=b.ki (i:Int) (by lia) (by lia);obtain⟨p1,p2,p3⟩:=t.pl.at (i:=(i:Int)) (by lia) (by lia);refine⟨rfl,bR (d:=.lst ((cs.getD i []).map .int)) (by lia) ?_ (cw (t.cs.it i (by lia) (by lia)) L (by lia) ⟨trivial,cw t.pl (by lia) (by lia) ⟨(gi pl i).toNat,lT p2 (by rw[zza,kQ];lia),v _ ⟨.val (.int i),.val (.int (gi r.ks i)),?_⟩⟩⟩)⟩
     ·show (cs.map λc=>D.lst (c.map .int))[(i:Int).toNat]?=_;rw[zzG,zzl,zze,zzp (by lia)];rfl
     ·show _=[_,_,_,_,_,_,_,_,_,_,Sl.own (((frs pl cs r.ks i).set (gi pl i).toNat (cal cs i (gi r.ks i))).map D.int),_,_];rw[zwS];rfl
    ·refine⟨J,U,?_⟩;have e:(List.replicate ((r.ks.map D.int).length:Int).toNat [D.int 0]).flatten=(frs pl cs r.ks 0).map D.int:=by
      unfold frs;rw[zzG,zza,zxL]
      induction r.ks.length with
      |zero=>rfl|succ m y=>rw[zyD,zyD,zxP,y];rfl
     show [_,_,_,_,_,_,_,_,_,_,Sl.own _,_,_]=_;rw[e]
   ·rintro _ ⟨J,U,rfl⟩;have hf:(frs' pl cs r.ks).length=r.ks.length:=kQ _ _ _ _;refine⟨trivial,cw t.hs b.h0 b.h1 ⟨?_,?_⟩⟩
    ·exact AN ⟨by lia,by lia⟩
    ·refine⟨AN ⟨by lia,by lia⟩,sz,?_,?_⟩
     ·have:=congrArg List.length C;rw[zzm,zzI]at this;rw[zza,zza];exact zzz (show r0.length<=100 by lia) (by decide)
     ·refine u _ ⟨r0++[r],a,by rw[C];simp,by rw[zzs];rfl,?_⟩;rw[zzs,zzs];exact⟨_,_,_,_,_,_,_,rfl⟩
 ·rintro _ ⟨G,H,I,M,E,J,U,rfl⟩;exact h
theorem vo(f:ai Int->D){k:ai Int}:∀{L:ai (ai Int)},k∈L->fh (L.map λk=>(kI k,f k)) (kI k)=some (f k)
 |[],h=>by simp at h
 |x::L,h=>by
  unfold fh;by_cases e:x=k
  ·subst e;rw[zzh,zzR (by simp)];rfl
  ·rw[zzh,zzS (by simpa[Fu]using e)];exact vo f ((zzr.mp h).resolve_left λz=>e z.symm)
theorem Jf(rs:ai Rw)(so:ai Int):(Kp rs so).length<=rs.length:=by
 have e:(dG rs so).length<=rs.length:=by unfold dG;rw[zza];exact zzU _ _
 rw[zza];exact zzo (BW _) e
theorem Lb(h:L.Nodup):(L.map kI).Nodup:=by unfold List.Nodup at *;rw[zyO];exact h.imp λz e=>z (uH e)
theorem zip_vals(ks:ai Int):∀so:ai Int,zipD (so.map D.int) ((vals ks so).map D.int)=so.map λx=>D.tup [.int x,.int (gi ks x)]
 |[]=>rfl|x::so=>by have:=zip_vals ks so;unfold vals at this ⊢;rw[zzh,zzh,zzh,zzh,←this];rfl
theorem vp(cs:ai (ai Int))(ks:ai Int):∀so:ai Int,kap cs so (vals ks so)=so.map λx=>cal cs x (gi ks x)
 |[]=>rfl|x::so=>by have:=vp cs ks so;unfold vals at this ⊢;rw[zzh,zzh,kap,this];rfl
def gTb:DSp:=λds Q=>∃(n:Nat) (ms J:ai Int) (rs:ai Rw) (so hs pl:ai Int) (cs:ai (ai Int)) (z:Int),ds=[du (BB n ms rs),du (BB n J (rs.map (tuR hs pl cs z))),az so,.lst (pl.map D.int),csD cs]/\Tn n ms rs hs pl cs z/\RsOk n J (rs.map (tuR hs pl cs z))/\SoOk (BB n ms rs) so/\SoOk (BB n J (rs.map (tuR hs pl cs z))) (so.map (gi pl))/\cs.length=ms.length/\Q (.tup [.lst ((tb1 n rs so).map rowD),.lst ((tb2 n rs so hs pl cs z).map rowD)])
theorem og(T:Tx K mg):T.oB.Ok P w base CX0 6 (spD K 5 gTb):=by
 refine fnd ["_law_book","_law_other","_law_some","_law_places","_law_called","_law_parts","_law_there","_law_found","_law_values","_law_counts"] (λG _=>(ac (dse 5 (dcl (iw T) G (a2 0 2))) (ac (dse 6 (BK G rfl rfl T.JD (dcl (iw T) G (aa (dv 1) (da1 (aU bK T.bj (da1 (dfc (ao ["_law_mark","_law_places"] [none,some 3] rfl (iO (dv 2)) (dgb 0) au (dix (dv 1) (dv 0))))))))))) (ac (dow 7 (bW cB)) (aw (aM (ar (dv 5)) (dg2 8 9) (ag (eU (pv 7) (yQ G (dv 6) (aU bK T.bj (da1 (dfc (ao ["_law_mark","_law_kind","_law_called"] [none,none,some 4] rfl (ir T.xb (a2 2 8)) (dg2 0 1) au (dix (dix (dv 2) (dv 0)) (dv 1)))))) (λ_ _=>rfl))))) (dr (ay (aa (dfc (ao ["_law_values","_law_counts"] [none,none] rfl (ar (dv 5)) (dg2 0 1) au (dv 1))) (a1 7))))))))) (λds Q hl h=>?_);obtain⟨n,ms,i,rs,so,hs,pl,cs,z,rfl,t,y,J,A,cl,h⟩:=h;have L:=sF t.o;have N:=sF y;refine⟨rfl,BB n ms rs,so,rfl,L,J,?_⟩;rw[nP t.o];have s5:=J.len;refine bc (λd=>match d with|.int x=>.int (gi pl x)|d=>d) (λj=>∃s,j=[s,.val (.lst (pl.map D.int))]) (by rw[zza];exact zzo (show so.length<=100 by lia) (by decide)) ?_ _ ⟨_,rfl⟩ ?_
 ·rintro d hd j Y Z ⟨s,rfl⟩ M;obtain⟨x,q,rfl⟩:=zzc.mp hd;obtain⟨b,g⟩:=J.it x q;exact Br.t (cw t.pl b g (M _ ⟨_,rfl⟩))
 ·rw[zzk];refine⟨rfl,BB n i (rs.map (tuR hs pl cs z)),so.map (gi pl),by rw[az,zzk];rfl,N,A,?_⟩;rw[nP y,nZ t J.it];have nk:(Kp rs so).Nodup:=nN _;have u:=ak (Kp rs so);have v:=ak ((Kp rs so).map (kap cs so));have n2:((Kp rs so).map (kap cs so)).Nodup:=by rw[←nZ t J.it];exact nN _
  have kl:(Kp rs so).length<=36:=zzo (Jf rs so) t.o.rl
  let F:ai Int->D:=λk=>rowD (ax n (Xp (rs.map (tuR hs pl cs z)) (so.map (gi pl)) k))
  refine⟨(bu ((Kp rs so).map (kap cs so))).map λk=>(kI k,F k),?_,?_,?_,?_⟩
  ·rw[zzk,zzk (l:=bu _)];refine congrArg D.lst (zzF λk _=>?_);show D.tup [az k,_]=D.tup [keyD (kI k),_];rw[fV]
  ·rw[zzk];exact Lb (v.nodup_iff.mpr n2)
  ·rw[zza,v.length_eq,zza];lia
  ·refine⟨sz,λj=>∃H I:Sl,j=[.val (du (BB n ms rs)),.val (du (BB n i (rs.map (tuR hs pl cs z)))),.val (az so),.val (.lst (pl.map D.int)),.val (csD cs),.val (.lst (((bu (Kp rs so)).map λk=>(k,ax n (Xp rs so k))).map dP)),.val (.dT (((bu ((Kp rs so).map (kap cs so))).map λk=>(kI k,F k)).map (·.1)) (((bu ((Kp rs so).map (kap cs so))).map λk=>(kI k,F k)).map (·.2))),.own ((tb2 n rs so hs pl cs z).map rowD),H,I],?_,?_⟩
   ·refine aN (λpre j=>∃U E:ai (ai Int),bu (Kp rs so)=U++E/\pre=(U.map λk=>(k,ax n (Xp rs so k))).map dP/\∃H I:Sl,j=[.val (du (BB n ms rs)),.val (du (BB n i (rs.map (tuR hs pl cs z)))),.val (az so),.val (.lst (pl.map D.int)),.val (csD cs),.val (.lst (((bu (Kp rs so)).map λk=>(k,ax n (Xp rs so k))).map dP)),.val (.dT (((bu ((Kp rs so).map (kap cs so))).map λk=>(kI k,F k)).map (·.1)) (((bu ((Kp rs so).map (kap cs so))).map λk=>(kI k,F k)).map (·.2))),.own ((U.map λk=>ax n ((Xp rs so k).map (tuR hs pl cs z))).map rowD),H,I]) (λj m=>?_) (λpre d post j X e m hX=>?_) _ ⟨[],_,rfl,rfl,_,_,rfl⟩
    ·obtain⟨U,E,C,e2,H,I,rfl⟩:=m;have:E=[]:=by
      have:=congrArg List.length e2;rw[C]at this;simp at this;exact this
     subst this;rw[zyb]at C;rw[←C];exact⟨_,_,rfl⟩
    ·obtain⟨U,E,C,rfl,H,I,rfl⟩:=m;rw[C,zzs,zzs]at e;have e:=zzZ e;cases E with
     |nil=>simp at e|cons k E =>
      rw[zzh,zzh]at e;injection e with e3 e4;subst e3;have p:k∈Kp rs so:=u.mem_iff.mp (by rw[C];simp);obtain⟨r,G,rfl⟩:=mq p;have ro:=t.o.ro r G;refine⟨rfl,trivial,_,_,rfl,rfl,?_⟩;rw[zip_vals];refine bc (λd=>match d with|.tup [.int x,.int k]=>.int (cal cs x k)|d=>d) (λj=>∃s a,j=[s,a,.val (csD cs)]) (by rw[zza];exact zzo (show so.length<=100 by lia) (by decide)) ?_ _ ⟨_,_,rfl⟩ ?_
      ·rintro d hd j Y Z ⟨s,a,rfl⟩ M;obtain⟨x,q,rfl⟩:=zzc.mp hd;obtain⟨b,g⟩:=J.it x q;obtain⟨y0,y1⟩:=ro.ki x b g;refine⟨rfl,Br.t (bR (d:=.lst ((cs.getD x.toNat []).map .int)) b ?_ (cw (t.cs.it x b g) y0 (by lia) (M _ ⟨_,_,rfl⟩)))⟩;show (cs.map λc=>D.lst (c.map .int))[x.toNat]?=_;have x1':x<ms.length:=g;rw[zzl,zze,zzp (by lia)];rfl
      ·have ek:((so.map λx=>D.tup [.int x,.int (gi r.ks x)]).map λd=>match d with|.tup [.int x,.int k]=>D.int (cal cs x k)|d=>d)=(kap cs so (vals r.ks so)).map D.int:=by
        rw[vp,zzk,zzk];rfl
       rw[ek];refine⟨_,kI (kap cs so (vals r.ks so)),F (kap cs so (vals r.ks so)),rfl,fV _,vo F (v.mem_iff.mpr (zxG p)),?_,?_⟩
       ·have:=congrArg List.length C;rw[u.length_eq,zzm]at this;rw[zza,zza];exact zzz (show U.length<=100 by lia) (by decide)
       ·refine hX _ ⟨U++[vals r.ks so],E,by rw[C];simp,by rw[zzs,zzs];rfl,?_⟩;have ef:F (kap cs so (vals r.ks so))=rowD (ax n ((Xp rs so (vals r.ks so)).map (tuR hs pl cs z))):=by
         show rowD (ax n (Xp _ _ _))=_;rw[sN t J.it p]
        rw[zzs,zzs,ef];exact⟨_,_,rfl⟩
   ·rintro _ ⟨H,I,rfl⟩;refine bc (λd=>match d with|.tup [_,c]=>c|d=>d) (λj=>∃s a,j=[s,a]) (by rw[zza,zza,u.length_eq];exact zzo kl (by decide)) ?_ _ ⟨_,_,rfl⟩ ?_
    ·rintro d hd j Y Z ⟨s,a,rfl⟩ M;obtain⟨c,hc,rfl⟩:=zzc.mp hd;exact⟨rfl,Br.t (M _ ⟨_,_,rfl⟩)⟩
    ·refine⟨sz,?_⟩;have e:(((bu (Kp rs so)).map λk=>(k,ax n (Xp rs so k))).map dP).map (λd=>match d with|.tup [_,c]=>c|d=>d)=(tb1 n rs so).map rowD:=by
      rw[zzk,zzk,zzk];rfl
     rw[e];exact h
theorem zO:∀(m:Nat) (A:ai Int),(∀x∈A,0<=x/\x<m)->A.Nodup->A.length<=m
 |0,A,h,_=>by
  cases A with
  |nil=>simp|cons x A=>have:=h x zzd;lia
 |m+1,A,h,j=>by
  by_cases e:(m:Int)∈A
  ·have C:=zO m (A.erase (m:Int)) (λx U=>by
    have J:=(List.Nodup.mem_erase_iff j).mp U;have:=h x J.2;have:=J.1;lia) (j.erase _)
   rw[List.length_erase_of_mem e]at C;lia
  ·have C:=zO m A (λx U=>by
    have:=h x U;have:x≠(m:Int):=λz=>e (z ▸ U);lia) j
   lia
theorem Ord.mem(o:Ord m A){x:Int}(h0:0<=x)(j:x<m):x∈A:=by
 refine zxf λe=>?_;have C:=zO m (x::A) (λy J=>by
  rcases zzr.mp J with rfl|J
  ·exact⟨h0,j⟩
  ·exact o.it y J) (zyl.mpr ⟨e,o.nd⟩)
 rw[zzI,o.len]at C;lia
theorem Ord.surj(o:Ord m A){x:Int}(h0:0<=x)(E:x<m):∃j:Int,0<=j/\j<m/\gi A j=x:=by obtain⟨i,C⟩:=zxZ (o.mem h0 E);have hl:=(zzt.mp C).1;refine⟨i,by lia,by rw[←o.len];lia,?_⟩;unfold gi;rw[zzG,zze,C];rfl
def mkT(pl ms:ai Int):Nat->ai Int
 |0=>List.replicate ms.length 0|i+1=>(mkT pl ms i).set (gi pl i).toNat (gi ms i)
theorem eR(pl ms:ai Int):∀i,(mkT pl ms i).length=ms.length
 |0=>by unfold mkT;simp
 |i+1=>by unfold mkT;rw[zwM,eR pl ms i]
theorem zP{pl ms:ai Int}(o:Ord ms.length pl):∀(i:Nat),i<=ms.length->∀j:Int,0<=j->j<i->gi (mkT pl ms i) (gi pl j)=gi ms j
 |0,_,j,J,U=>by lia
 |i+1,hi,j,J,U=>by
  obtain⟨_,p0,p1⟩:=o.at (i:=(i:Int)) (by lia) (by lia);obtain⟨_,q0,q1⟩:=o.at J (by lia);show gi ((mkT pl ms i).set (gi pl i).toNat (gi ms i)) (gi pl j)=_;unfold gi at *;by_cases e:j=(i:Int)
  ·subst e;rw[zze,zxN (by rw[eR];lia)];rfl
  ·have ne:(pl.getD (i:Int).toNat 0).toNat≠(pl.getD j.toNat 0).toNat:=λz=>e (o.inj J (by lia) (by lia) (by lia) (by unfold gi;lia));rw[zze,zzO ne,←zze];have:=zP o i (by lia) j J (by lia);unfold gi at this;exact this
abbrev mkT'(pl ms:ai Int):ai Int:=mkT pl ms ms.length
theorem vt{x:Int}(h:A[i]?=some x):gi A i=x:=by unfold gi;rw[zzG,zze,h];rfl
section
variable{rs:ai Rw}
theorem Lc(j:MsOk ms){x:Int}(x0:0<=x)(x1:x<ms.length):1<=gi ms x/\gi ms x<=6:=by
 refine j.it _ ?_;have J:x.toNat<ms.length:=by lia
 unfold gi;rw[zze,zzp J];exact zyL J
theorem FX(G:MsOk ms)(p:Ord ms.length pl):MsOk (mkT' pl ms):=by refine⟨by rw[eR];exact G.l5,λm H=>?_⟩;obtain⟨i,E⟩:=zxZ H;have Y:=(zzt.mp E).1;rw[eR]at Y;obtain⟨j,J,U,e⟩:=p.surj (x:=(i:Int)) (by lia) (by lia);have C:=zP p ms.length (zzn _) j J U;rw[e,vt E]at C;rw[C];exact Lc G J U
theorem FY(t:Tn n ms rs hs pl cs z)(M:∀r∈rs,r.t<=60):RsOk n (mkT' pl ms) (rs.map (tuR hs pl cs z)):=by
 have z1:=t.z1;have z9:=t.z9;refine⟨t.o.n2,t.o.n6,FX t.o.mo t.pl,by rw[zza];exact t.o.rl,λr J=>?_,λr J=>?_⟩
 ·obtain⟨r,U,rfl⟩:=zzc.mp J;have J:=U;have C:=t.o.ro r J;have p:=t.o.t9 r J;have l:=M r J;obtain⟨_,a,g1⟩:=t.hs.at C.h0 C.h1;have T:r.t*z<=60*9:=zxd (by lia) (by lia) (by lia) (by decide);refine⟨a,g1,?_,λi k m c I=>?_,Int.mul_nonneg C.w0 (by lia),Int.mul_le_mul_of_nonneg_right C.wt (by lia),by show r.t*z<=_;lia⟩
  ·show (frs' pl cs r.ks).length=_;rw[kQ,eR,C.kl]
  ·have d:=(zzt.mp I).1;rw[eR]at d;obtain⟨j,Y,E,e⟩:=t.pl.surj (x:=(i:Int)) (by lia) (by lia);have H:=zP t.pl ms.length (zzn _) j Y E;have G:=zM (cs:=cs) (by rw[C.kl];exact t.pl) r.ks.length (zzn _) j Y (by rw[C.kl];exact E);rw[e,vt I]at H;rw[e]at G;have b:gi (frs pl cs r.ks r.ks.length) i=k:=vt c;rw[b]at G;obtain⟨g,k1⟩:=C.ki j Y E;obtain⟨_,c0,c1⟩:=(t.cs.it j Y E).at g (by lia);rw[H,G];exact⟨c0,by unfold cal;lia⟩
 ·obtain⟨r,U,rfl⟩:=zzc.mp J;have J:=U;have p:=t.o.t9 r J;have l:=M r J;have T:r.t*z<=60*9:=zxd (by lia) (by lia) (by lia) (by decide);have b0:1*1<=r.t*z:=zxd (by lia) (by lia) (by lia) (by lia);exact⟨by show 1<=r.t*z;lia,by show r.t*z<=600;lia⟩
theorem FZ(p:Ord ms.length pl)(J:SoOk (BB n ms rs) so)(U:ai Rw):SoOk (BB n (mkT' pl ms) U) (so.map (gi pl)):=by
 refine⟨λx Y=>?_,?_,by rw[zza];exact J.len⟩
 ·obtain⟨y,G,rfl⟩:=zzc.mp Y;obtain⟨I,M⟩:=J.it y G;obtain⟨_,a,b⟩:=p.at I M;exact⟨a,by show _<((mkT' pl ms).length:Int);rw[eR];exact b⟩
 ·have H:=J.nd;have j:=J.it;unfold List.Nodup at *;rw[zyO];exact zwl (λC E ne e=>ne (p.inj (j _ C).1 (j _ C).2 (j _ E).1 (j _ E).2 e)) H
end
abbrev scZ(z:Int)(c:Int×Int):Int×Int:=(c.1*z,c.2*z)
structure Sc(z:Int)(t t':List Row)(a b c d:Nat):Prop where
 z1:1 <= z
 ca:col t' c=(col t a).map (scZ z)
 cb:col t' d=(col t b).map (scZ z)
theorem zQ(f:Int×Int->Int×Int->α)(t:ai Row)(a b:Nat):(t.map λr=>f (at_ r a) (at_ r b))=List.zipWith f (col t a) (col t b):=by unfold col;rw[List.zipWith_map,List.zipWith_self]
theorem Sc.two{t:ai Row}{a b c d:Nat}(s:Sc z t t' a b c d)(f:Int×Int->Int×Int->α)(h:∀x y,f (scZ z x) (scZ z y)=f x y):(t'.map λr=>f (at_ r c) (at_ r d))=t.map λr=>f (at_ r a) (at_ r b):=by rw[zQ,zQ,s.ca,s.cb,List.zipWith_map];congr 1;funext x y;exact h x y
theorem Ch{x y:Int}(z1:1<=z):(x*z<y*z)↔x<y:=Int.mul_lt_mul_right (by lia)
theorem sQ(j:1<=z)(t w t' J:Int):cC (t*z) (w*z) (t'*z) (J*z)=cC t w t' J:=by
 have U:∀x:Int,x*z=0↔x=0:=λx=>⟨λh=>(Int.mul_eq_zero.mp h).resolve_right (by lia),λh=>by rw[h,Int.zero_mul]⟩;have C:∀x y:Int,x*z*(y*z)=x*y*(z*z):=λx y=>by rw[Int.mul_assoc,Int.mul_left_comm z,←Int.mul_assoc]
 have Y:1<=z*z:=by have:=zxd j j (by decide) (by lia);lia
 unfold cC;simp only[U,C,Ch Y]
theorem qv(z:Int)(cs:ai (Int×Int)):sumP (cs.map (scZ z))=scZ z (sumP cs):=by
 have h:∀(f:Int×Int->Int),(∀c,f (scZ z c)=f c*z)->((cs.map (scZ z)).map f).sum=(cs.map f).sum*z:=λf j=>by
  induction cs with
  |nil=>simp|cons c cs J=>rw[zzh,zzh,zzh,zzE,zzE,zwx,J,j]
 unfold sumP;rw[h (·.1) λ_=>rfl,h (·.2) λ_=>rfl]
theorem Sc.told{z:Int}{t t':ai Row}{a b c d:Nat}(s:Sc z t t' a b c d):told t' c d=told t a b :=
 s.two (λx y=>cC x.1 x.2 y.1 y.2) λx y=>sQ s.z1 _ _ _ _
theorem Sc.wholeS{z:Int}{t t':ai Row}{a b c d:Nat}(s:Sc z t t' a b c d):wholeS t' c d=wholeS t a b:=by unfold My.wholeS;rw[s.ca,s.cb,qv,qv];exact sQ s.z1 _ _ _ _
theorem my(z1:1<=z)(x y:Int):((x*z:Int):Rat) / ((y*z:Int):Rat)=(x:Rat) / (y:Rat):=by
 have hz:=cast_ne (show z≠0 by lia);rw[zzP,zzP];by_cases J:(y:Rat)=0
 ·rw[J,Rat.zero_mul,zyi,zyi,Rat.inv_zero,Rat.mul_zero,Rat.mul_zero]
 ·grind
theorem zR(z1:1<=z)(x:Int):x*z=0↔x=0:=⟨λh=>(Int.mul_eq_zero.mp h).resolve_right (by lia),λh=>by rw[h,Int.zero_mul]⟩
theorem Dx(j:1<=z)(c:Int×Int):shQ (scZ z c)=shQ c:=my j _ _
theorem Jg(j:1<=z)(c:Int×Int):shO (scZ z c)=shO c:=by unfold shO;rw[Dx j];simp only[zR j]
theorem Jh(j:1<=z)(cs:Row):wts (cs.map (scZ z))=wts cs:=by unfold wts;rw[qv,zzk];exact zzF λc _=>my j _ _
theorem Sc.swap{t:ai Row}{a b c d:Nat}(s:Sc z t t' a b c d):Sc z t t' b a d c:=⟨s.z1,s.cb,s.ca⟩
section
variable{t t':ai Row}
theorem Sc.colO(s:Sc z t t' a.toNat b.toNat c.toNat d.toNat):colO t' c=colO t a:=by unfold My.colO;rw[s.ca,zzk];exact zzF λx _=>Jg s.z1 x
theorem Sc.wQ(s:Sc z t t' a.toNat b.toNat c.toNat d.toNat):wQ t' c=wQ t a:=by unfold My.wQ;rw[s.ca,qv,Dx s.z1]
theorem Sc.wts(s:Sc z t t' a.toNat b.toNat c.toNat d.toNat):wts (col t' c.toNat)=wts (col t a.toNat):=by rw[s.ca,Jh s.z1]
theorem Sc.gap(s:Sc z t t' a.toNat b.toNat c.toNat d.toNat):gapD t' c d=gapD t a b:=by have j:Sc z t t' b.toNat a.toNat d.toNat c.toNat:=s.swap;unfold gapD Dt zG vb aR;rw[s.colO,j.colO,s.wQ,j.wQ,s.wts,j.wts]
theorem Sc.unv(s:Sc z t t' a.toNat b.toNat c.toNat d.toNat):unvD (My.wts (col t' c.toNat)) (My.wts (col t' d.toNat))=unvD (My.wts (col t a.toNat)) (My.wts (col t b.toNat)):=by have j:Sc z t t' b.toNat a.toNat d.toNat c.toNat:=s.swap;rw[s.wts,j.wts]
theorem Sc.cl(s:Sc z t t' a.toNat b.toNat c.toNat d.toNat)(i:Nat):cl t' c.toNat i=scZ z (cl t a.toNat i):=by
 unfold My.cl;rw[s.ca,zze,zze,zzl];cases (col t a.toNat)[i]? with
 |none=>simp[scZ]|some x=>rfl
theorem Sc.sh(s:Sc z t t' a.toNat b.toNat c.toNat d.toNat)(i:Nat):sh t' c.toNat i=sh t a.toNat i:=by unfold My.sh;rw[s.cl];simp only[zR s.z1,my s.z1]
theorem Sc.len(s:Sc z t t' a.toNat b.toNat c.toNat d.toNat):t'.length=t.length:=by have:=congrArg List.length s.ca;unfold col at this;simpa using this
theorem Sc.WA(s:Sc z t t' a.toNat b.toNat c.toNat d.toNat):WA t' c=WA t a*z:=by unfold My.WA;rw[s.ca,qv]
theorem Sc.wA(s:Sc z t t' a.toNat b.toNat c.toNat d.toNat)(i:Nat):wA t' c i=wA t a i:=by unfold My.wA;rw[s.cl,s.WA];exact my s.z1 _ _
theorem Sc.c0(s:Sc z t t' a.toNat b.toNat c.toNat d.toNat)(i:Nat):(My.cl t' c.toNat i).1≠0↔(My.cl t a.toNat i).1≠0:=by rw[s.cl];exact not_congr (zR s.z1 _)
theorem Sc.ups(s:Sc z t t' a.toNat b.toNat c.toNat d.toNat)(rs:ai Rat):Ups t' d rs↔Ups t b rs:=by have j:Sc z t t' b.toNat a.toNat d.toNat c.toNat:=s.swap;unfold Ups;simp only[s.len,j.c0,j.sh]
theorem Sc.lvl(s:Sc z t t' a.toNat b.toNat c.toNat d.toNat)(q:Rat):∀k,lvl t' c d q k=lvl t a b q k*z
 |0=>by simp[My.lvl]
 |k+1=>by
  have j:Sc z t t' b.toNat a.toNat d.toNat c.toNat:=s.swap;have e:(My.cl t' c.toNat k).1=(My.cl t a.toNat k).1*z:=by rw[s.cl]
  unfold My.lvl;simp only[s.lvl q k,j.c0,j.sh,e,zwx];congr 1;split
  ·rfl
  ·simp
theorem Sc.wl(s:Sc z t t' a.toNat b.toNat c.toNat d.toNat):wl t' c d=wl t a b:=by funext q;unfold My.wl;rw[s.len,s.lvl,s.WA];exact my s.z1 _ _
theorem Sc.shd(s:Sc z t t' a.toNat b.toNat c.toNat d.toNat):My.sh t' d.toNat=My.sh t b.toNat:=funext λi=>(show Sc z t t' b.toNat a.toNat d.toNat c.toNat from s.swap).sh i
theorem Sc.wAf(s:Sc z t t' a.toNat b.toNat c.toNat d.toNat):My.wA t' c=My.wA t a:=funext s.wA
theorem Sc.mixQ(s:Sc z t t' a.toNat b.toNat c.toNat d.toNat):mixQ t' c d=mixQ t a b:=by unfold My.mixQ mixW;rw[s.len,s.wAf,s.shd]
theorem Sc.top(s:Sc z t t' a.toNat b.toNat c.toNat d.toNat):aq t' d=aq t b:=by have j:Sc z t t' b.toNat a.toNat d.toNat c.toNat:=s.swap;unfold aq;rw[j.colO]
theorem Sc.reach(s:Sc z t t' a.toNat b.toNat c.toNat d.toNat)(rs:ai Rat):iS t' c d rs=iS t a b rs:=by unfold iS;rw[s.mixQ,s.top,s.wl]
theorem Sc.Sq(s:Sc z t t' a.toNat b.toNat c.toNat d.toNat):Sq t' c d=Sq t a b:=by funext q;unfold My.Sq;rw[s.mixQ,s.top,s.len,s.wAf,s.shd]
theorem Sc.Aq(s:Sc z t t' a.toNat b.toNat c.toNat d.toNat):Aq t' c d=Aq t a b:=by funext q;unfold My.Aq;rw[s.len,s.wAf,s.shd]
theorem Sc.bar(s:Sc z t t' a.toNat b.toNat c.toNat d.toNat)(q r:Rat):Bar t' c d q r↔Bar t a b q r:=by
 constructor
 ·rintro⟨⟨rs,c0,c1,u,e⟩,l,h⟩;exact⟨⟨rs,c0,c1,(s.ups rs).mp u,e⟩,by rw[←s.Sq,←s.wQ];exact l,by rw[←s.Sq,←s.wQ];exact h⟩
 ·rintro⟨⟨rs,c0,c1,u,e⟩,l,h⟩;exact⟨⟨rs,c0,c1,(s.ups rs).mpr u,e⟩,by rw[s.Sq,s.wQ];exact l,by rw[s.Sq,s.wQ];exact h⟩
theorem Sc.m63(s:Sc z t t' a.toNat b.toNat c.toNat d.toNat):m63 t' c d=m63 t a b:=by funext q;unfold My.m63 rs63;rw[s.Aq,s.Sq,s.wQ,s.top]
theorem Dy:∀{rs J:ai Rat},rs.Pairwise (· < ·)->J.Pairwise (· < ·)->(∀q,q∈rs↔q∈J)->rs=J
 |[],[],_,_,_=>rfl|[],y::ys,_,_,h=>by simpa using(h y).mpr zzd
 |x::xs,[],_,_,h=>by simpa using(h x).mp zzd
 |x::xs,y::ys,Y,j,h=>by
  rw[zyJ]at Y j;have e:x=y:=by
   rcases zzr.mp ((h x).mp zzd) with e|e
   ·exact e
   ·rcases zzr.mp ((h y).mpr zzd) with C|C
    ·exact C.symm
    ·have h1:=j.1 x e;have h2:=Y.1 y C
     grind
  subst e;refine congrArg (x :: ·) (Dy Y.2 j.2 λq=>?_);have k:=h q;rw[zzr,zzr]at k;constructor
  ·intro U;have:=Y.1 q U;rcases k.mp (.inr U) with e|e
   ·grind
   ·exact e
  ·intro U;have:=j.1 q U;rcases k.mpr (.inr U) with e|e
   ·grind
   ·exact e
theorem vv{rs:ai Rat}(h:Ups t b rs)(j:Ups t b qs):rs=qs:=Dy h.1 j.1 λq=>(h.2 q).trans (j.2 q).symm
end
theorem q0B:QB (n+1) 0:=⟨Bd.mono (m:=1) (by unfold Bd;decide) (by lia),Bd.mono (m:=1) (by unfold Bd;decide) (by lia)⟩
def lvP(lead reach:Rat):Rat:=if 0<lead then lead / (lead+reach) else 0
def gPtl:DSp:=λds Q=>∃j reach:Rat,ds=[ratQ j,ratQ reach]/\QB 700 j/\QB 700 reach/\(0<j->j+reach≠0)/\Q (ratQ (lvP j reach))
theorem kR(T:Tx K mg):T.lg.Ok P w base CX0 4 (spD K 2 gPtl):=by
 refine fnd ["lead","reach"] (λJ _=>(ac (dir (bG (aE (dcl (cL T) J (aa (ay (aa ad (da1 ad))) (a1 0))))) (ay (aa ad (da1 ad)))) (dr (dcl (za T) J (aa (dv 0) (da1 (dcl (kE T) J (a2 0 1)))))))) (λds Q hl h=>?_);obtain⟨lead,reach,rfl,j,U,C,h⟩:=h;unfold lvP at h;refine⟨sz,rfl,fG q0B (j.mono (by decide)) (FW (λz=>?_) (λz=>?_))⟩
 ·rw[zzg z]at h;exact⟨sz,h⟩
 ·rw[zzi z]at h;exact⟨rfl,zx (j.mono (by decide)) (U.mono (by decide)) ⟨rfl,FJ (j.mono (by decide)) ((j.add U).mono (by decide)) (C z) h⟩⟩
def wS(x y:ai (bo Rat))(lead:Rat):D:=if vq x (aK x).1<vq y (aK y).2 then .tup [.str "can",.int (aK x).1,.int (aK y).2,ratQ (lvP lead (vq y (aK y).2 - vq x (aK x).1))] else .tup [.str "never",.int (aK x).1,.int (aK y).2]
def Ji:DSp:=λds Q=>match ds with
 |[.lst xs,.int a,.int b]=>∃(n:Nat) (t:ai Row),xs=t.map rowD/\Two n t a b/\Q (wS (colO t a) (colO t b) (wQ t a - wQ t b))|_=>False
theorem Dz(T:Tx K mg):T.JE.Ok P w base CX0 7 (spD K 3 Ji):=by
 refine fnd ["table","a","b","ends","others","t"] (λJ _=>(ac (aY (dcl (cE T) J (aa (dcl (bA T) J (a1 0)) (a2 1 2)))) (ac (dse 3 (dcl (fm T) J (a2 0 1))) (ac (dse 4 (dcl (fm T) J (a2 0 2))) (ac (dir (bG (aE (dcl (cL T) J (aa (dx 3) (da1 (dx 4)))))) (ay (aa fK (aa (dx 3) (da1 (dx 4)))))) (ac (dse 5 (dcl (kR T) J (aa (dcl (kH T) J (a3 0 1 2)) (da1 (dcl (ce T) J (aa (dx 4) (da1 (dx 3)))))))) (dr (ay (aa fK (aa (dx 3) (aa (dx 4) (a1 5)))))))))))) (λds Q hl h=>?_);unfold Ji at h;split at h
 case h_2=>exact h.elim
 rename_i a b;obtain⟨n,t,rfl,w,h⟩:=h;have o:=w.o;have j:=w.a0;have a1:=w.a1;have C:=w.b0;have E:=w.b1;have G:=w.ha;have H:=w.hb;have I:QB 200 (vq (colO t a) (aK (colO t a)).1)/\QB 200 (vq (colO t a) (aK (colO t a)).2):=fW (kG (cH o (by lia))) (gM G);have M:QB 200 (vq (colO t b) (aK (colO t b)).1)/\QB 200 (vq (colO t b) (aK (colO t b)).2):=fW (kG (cH o (by lia))) (gM H);refine⟨rfl,bT o ⟨rfl,⟨j,a1,C,E,w.ab⟩,rfl,n,t,rfl,o,⟨j,a1⟩,G,?_⟩⟩;refine⟨rfl,n,t,rfl,o,⟨C,E⟩,H,?_⟩;unfold wS at h;refine⟨rfl,fG (I.1.mono (by decide)) (M.2.mono (by decide)) (FW (λz=>?_) (λz=>?_))⟩
 ·rw[zzg z]at h;exact⟨sz,h⟩
 ·rw[zzi z]at h;refine⟨rfl,n,t,rfl,o,⟨j,a1⟩,⟨C,E⟩,G,H,rfl,dI (M.2.mono (by decide)) (I.1.mono (by decide)) ⟨rfl,_,_,rfl,?_,?_,?_,?_⟩⟩
  ·exact((wQ_B o j a1 G).sub (wQ_B o C E H)).mono (by decide)
  ·exact(M.2.sub I.1).mono (by decide)
  ·intro g
   grind
  ·exact⟨sz,h⟩
section
variable{t t':ai Row}
theorem Sc.push(s:Sc z t t' a.toNat b.toNat c.toNat d.toNat):wS (My.colO t' c) (My.colO t' d) (My.wQ t' c - My.wQ t' d)=wS (My.colO t a) (My.colO t b) (My.wQ t a - My.wQ t b):=by have j:Sc z t t' b.toNat a.toNat d.toNat c.toNat:=s.swap;rw[s.colO,j.colO,s.wQ,j.wQ]
theorem T61.Sq_mono(o:T61 n t a b)(h:p<=q)(hq:q<=aq t b):My.Sq t a b p<=My.Sq t a b q:=by
 have k:∀j,j<=t.length->sumQ (λi=>if My.sh t b.toNat i<p then My.wA t a i*(aq t b - My.sh t b.toNat i) else 0) j<=sumQ (λi=>if My.sh t b.toNat i<q then My.wA t a i*(aq t b - My.sh t b.toNat i) else 0) j:=by
  intro j
  induction j with
  |zero=>intro _;exact zyh|succ j J =>
   intro hj;have J:=J (by lia);have w0:=(o.wk.nn j (by lia));have:(if My.sh t b.toNat j<p then My.wA t a j*(aq t b - My.sh t b.toNat j) else 0)<=(if My.sh t b.toNat j<q then My.wA t a j*(aq t b - My.sh t b.toNat j) else 0):=by
    by_cases e:My.sh t b.toNat j<p
    ·rw[zzi e,zzi (by grind)];exact zyh
    ·rw[zzg e];by_cases C:My.sh t b.toNat j<q
     ·rw[zzi C];exact zxp w0 (by grind)
     ·rw[zzg C];exact zyh
   unfold sumQ
   grind
 have:=k t.length (zzn _);unfold My.Sq
 grind
theorem Ci(o:T61 n t a b)(h:Bar t a b p x)(k:Bar t a b q y):p=q:=by
 have one:∀{p x q y:Rat},Bar t a b p x->Bar t a b q y->¬p<q:=λ{p x q y} h k e=>by
  obtain⟨rs,c0,c1,u,j⟩:=h.adj;obtain⟨rs',d0,d1,Y,C⟩:=k.adj;have U:=vv u Y;subst U;have J:q∈rs:=by rw[C];simp
  have:x<=q:=by
   have:=((mj u.1 j).2 q J)
   grind
  have m:=o.Sq_mono this (o.leG u J);have:=h.hi;have:=k.lo
  grind
 have:=one h k;have:=one k h
 grind
end
theorem qw{x:PySem.Str}(h:(toPy (D.str x)).canLay0=true:=by decide +kernel):Shp n (.str x):=⟨rfl,h,zzT _⟩
theorem al1{P:D->Prop}{a:D}(h:P a):∀d∈[a],P d:=λd hd=>by rw[zzy.mp hd];exact h
theorem alC{P:D->Prop}{a:D}{l:ai D}(h:P a)(k:∀d∈l,P d):∀d∈a::l,P d:=zwU.mpr ⟨h,k⟩
theorem Cj{d:D}(h:(∃i,d=.int i)∨d=.non):shp (eP ds d)=true:=by
 have hd:Shp 0 d:=by
  rcases h with ⟨i,rfl⟩|rfl
  ·exact .int
  ·exact .non
 have j:∀s:Int,Shp 1 (tkT s d):=λs=>by
  unfold tkT;split
  ·exact .tup (alC qw (al1 .int))
  ·exact .tup (alC qw (alC .int (al1 hd)))
 have k:Shp 1 (eP ds d):=by
  unfold eP;split
  ·exact j 1
  ·split
   ·exact j (-1)
   ·split
    ·exact .tup (alC qw (al1 .int))
    ·exact .tup (alC qw (alC .int (al1 .int)))
 exact k.shp
theorem sR(t:ai Row)(a b:Int):shp (gapD t a b)=true:=Shp.shp (n:=2) (.tup (alC .pair (alC .pair (al1 .pair))))
theorem sS(x y:ai Rat):shp (unvD x y)=true:=Shp.shp (n:=2) (.tup (alC .pair (al1 (.lst λd hd=>by obtain⟨k,_,rfl⟩:=zzc.mp hd;exact .int))))
theorem sU(ps:ai (Rat×Rat)):shp (.lst (ps.map wO))=true:=Shp.shp (n:=3) (.lst λd hd=>by obtain⟨k,_,rfl⟩:=zzc.mp hd;exact .tup (alC .pair (al1 .pair)))
theorem oh(x y:ai (bo Rat))(l:Rat):shp (wS x y l)=true:=by
 unfold wS;split
 ·exact Shp.shp (n:=2) (.tup (alC qw (alC .int (alC .int (al1 .pair)))))
 ·exact Shp.shp (n:=2) (.tup (alC qw (alC .int (al1 .int))))
theorem DB{x:PySem.Str}(h:(toPy (D.str x)).canLay0=true:=by decide +kernel):shp (.tup [.str x,ratQ q])=true:=Shp.shp (n:=2) (.tup (alC (qw h) (al1 .pair)))
theorem Jj{x:PySem.Str}{i:Int}(h:(toPy (D.str x)).canLay0=true:=by decide +kernel):shp (.tup [.str x,.int i])=true:=Shp.shp (n:=2) (.tup (alC (qw h) (al1 .int)))
def LvH(t:ai Row)(a b:Int)(x y:D):Prop:=(x=.str "never" /\ aq t b<wQ t a/\y=.int ((aK (colO t b)).2:Int))∨(x=.str "can" /\ ¬aq t b<wQ t a/\¬mixQ t a b<wQ t a/\y=ratQ 0)∨(x=.str "can" /\ ∃q j,Bar t a b q j/\y=ratQ (m63 t a b q))
theorem LvH.shp{t:ai Row}{a b:Int}{x y:D}(h:LvH t a b x y):shp (.tup [x,y])=true:=by
 rcases h with ⟨rfl,_,rfl⟩|⟨rfl,_,_,rfl⟩|⟨rfl,q,r',_,rfl⟩
 ·exact Jj
 ·exact DB
 ·exact DB
theorem Bar.no{t:ai Row}(o:T61 n t a b)(k:Bar t a b q p):¬aq t b<wQ t a/\mixQ t a b<wQ t a:=by have j:=k.lt o;have h2:=(o.S01 j.2).2;have h3:=(o.S01 (show q<=aq t b by grind)).1;have h4:=k.hi;have h5:=k.lo;constructor<;>grind
theorem LvH.uniq{t:ai Row}(o:T61 n t a b){x y:D}(h:LvH t a b x y)(k:LvH t a b x' y'):x=x'/\y=y':=by
 rcases h with ⟨rfl,E,rfl⟩|⟨rfl,E,G,rfl⟩|⟨rfl,q,r',U,rfl⟩
 ·rcases k with ⟨rfl,j,rfl⟩|⟨rfl,j,J,rfl⟩|⟨rfl,p,Y,C,rfl⟩
  ·exact⟨rfl,rfl⟩
  ·exact(j E).elim
  ·exact((C.no o).1 E).elim
 ·rcases k with ⟨rfl,j,rfl⟩|⟨rfl,j,J,rfl⟩|⟨rfl,p,Y,C,rfl⟩
  ·exact(E j).elim
  ·exact⟨rfl,rfl⟩
  ·exact(G (C.no o).2).elim
 ·rcases k with ⟨rfl,j,rfl⟩|⟨rfl,j,J,rfl⟩|⟨rfl,p,Y,C,rfl⟩
  ·exact((U.no o).1 j).elim
  ·exact(J (U.no o).2).elim
  ·exact⟨rfl,by rw[Ci o U C]⟩
theorem Sc.lvH{t:ai Row}{c d:Int}(s:Sc z t t' a.toNat b.toNat c.toNat d.toNat){x y:D}(h:LvH t' c d x y):LvH t a b x y:=by have j:Sc z t t' b.toNat a.toNat d.toNat c.toNat:=s.swap;unfold LvH at h ⊢;simp only[s.top,s.wQ,s.mixQ,j.colO,s.m63,s.bar]at h;exact h
theorem DC{t:ai Row}(o:T61 n t a b)(h:∀x y rest,LvH t a b x y->Q (.tup (x::y::rest))):gLvl [.lst (t.map rowD),.int a,.int b] Q :=
 ⟨n,t,a,b,rfl,o,λz=>h _ _ _ (.inl ⟨rfl,z,rfl⟩),λC J=>h _ _ _ (.inr (.inl ⟨rfl,C,J,rfl⟩)),λq j k=>h _ _ _ (.inr (.inr ⟨rfl,q,j,k,rfl⟩))⟩
theorem cut2(x y:D)(rest:ai D):cutD (x::y::rest) none (some 2)=[x,y]:=by unfold cutD;rw[HT.sIx_none,show HT.sIx (x::y::rest).length (x::y::rest).length (some 2)=2 from(HT.sIx_nat _ _ 2).trans (Nat.min_eq_left (by simp)),zva,zwO];rfl
def gPr:DSp:=λds Q=>∃(n:Nat) (t t':ai Row) (hs:ai Int) (z a b:Int),ds=[.lst (t.map rowD),.lst (t'.map rowD),.lst (hs.map D.int),.int a,.int b]/\Ord n hs/\T61 n t a b/\T61 n t' (gi hs a) (gi hs b)/\Sc z t t' a.toNat b.toNat (gi hs a).toNat (gi hs b).toNat/\Q (.bl true)
theorem gO(T:Tx K mg)(B:Bm mg base):T.gR.Ok P w base CX0 14 (spD K 5 gPr):=by
 refine fnd ["_law_table","_law_beyond","_law_houses","_law_a","_law_b","_law_c","_law_d","_law_one"] (λJ _=>(ac (dse 5 (dix (dv 2) (dv 3))) (ac (dse 6 (dix (dv 2) (dv 4))) (ac (dse 7 (dcl (kw T) J (a3 0 3 4))) (ac (dir (PWD.pt (io (aj (fF J) (dcl (kw T) J (a3 1 5 6)) (dv 7)) (dY (aj (fF J) (dcl (IU T) J (a3 0 3 4)) (dcl (IU T) J (a3 1 5 6)))))) gt) (ac (dir (PWD.pt (io (aj (fF J) (dcl (nT T) J (a3 0 3 4)) (dcl (nT T) J (a3 1 5 6))) (dY (aj (fF J) (dcl (sL T B) J (a3 0 3 4)) (dcl (sL T B) J (a3 1 5 6)))))) gt) (ac (dir (aj (fF J) (CS (dcl (zL T B) J (a3 0 3 4)) jS (jT ad)) (CS (dcl (zL T B) J (a3 1 5 6)) jS (jT ad))) gt) (dr (jQ (bZ J) (dcl (Dz T) J (a3 0 3 4)) (dcl (Dz T) J (a3 1 5 6))))))))))) (λds Q hl h=>?_);obtain⟨n,t,t',hs,z,a,b,rfl,C,o,o',s,h⟩:=h;have l1:=o.l16;have l2:=o'.l16;refine cw C o.a0 o.a1 (cw C o.b0 o.b1 ⟨rfl,n,t,rfl,o.o,⟨o.a0,o.a1,o.b0,o.b1,o.ab⟩,?_⟩);refine⟨rfl,⟨n,t',rfl,o'.o,⟨o'.a0,o'.a1,o'.b0,o'.b1,o'.ab⟩,?_⟩⟩;have s':Sc z t t' b.toNat a.toNat (gi hs b).toNat (gi hs a).toNat:=s.swap;have I:=iy (sumP (col t a.toNat)).1 (sumP (col t a.toNat)).2 (sumP (col t b.toNat)).1 (sumP (col t b.toNat)).2;have j:eP (told t' (gi hs a).toNat (gi hs b).toNat) (wholeS t' (gi hs a).toNat (gi hs b).toNat)=eP (told t a.toNat b.toNat) (wholeS t a.toNat b.toNat):=by rw[s.told,s.wholeS]
 have st:shp (eP (told t a.toNat b.toNat) (wholeS t a.toNat b.toNat))=true:=Cj I;refine⟨⟨by rw[j];exact st,st⟩,lx j st ?_⟩;refine⟨rfl,n,t,rfl,by lia,o.toTwo,rfl,n,t',rfl,by lia,o'.toTwo,⟨sR _ _ _,sR _ _ _⟩,lx s.gap.symm (sR _ _ _) ?_⟩;refine⟨rfl,n,t,rfl,by lia,o.toTwo,rfl,n,t',rfl,by lia,o'.toTwo,⟨sS _ _,sS _ _⟩,lx s.unv.symm (sS _ _) ?_⟩;refine⟨rfl,n,t,a,b,rfl,o,λrs u rl=>?_⟩;refine⟨rfl,n,t',gi hs a,gi hs b,rfl,o',λE H rl'=>?_⟩;have G:=vv u ((s.ups E).mp H);subst G;refine⟨⟨sU _,sU _⟩,lx (by rw[s.reach]) (sU _) ?_⟩;refine⟨rfl,DC o λx y rest U=>?_⟩;refine⟨rfl,DC o' λx' y' rest' Y=>?_⟩;obtain⟨rfl,rfl⟩:=LvH.uniq o U (s.lvH Y);refine⟨⟨by rw[cut2];exact U.shp,by rw[cut2];exact U.shp⟩,lx (by rw[cut2,cut2]) (by rw[cut2];exact U.shp) ?_⟩;refine⟨rfl,n,t,rfl,o.toTwo,rfl,n,t',rfl,o'.toTwo,⟨oh _ _ _,oh _ _ _⟩,?_⟩;rw[s.push,gz (oh _ _ _)];exact h
theorem zS{α:Type}[DecidableEq α]:∀{L C:ai α},L.Nodup->(∀x∈L,x∈C)->L.length<=C.length
 |[],C,_,_=>by simp
 |x::L,C,j,h=>by
  rw[zyl]at j;have J:=h x zzd;have k:=zS j.2 λy U=>by have ne:y≠x:=λe=>j.1 (by rw[←e];exact U);exact(List.mem_erase_of_ne ne).mpr (h y (zzf _ U))
  have p:0<C.length:=List.length_pos_of_mem J;rw[List.length_erase_of_mem J]at k;rw[zzI];lia
section
variable{rs:ai Rw}
theorem oi(c:C6 6 rs):(Kp rs so).length<=6:=by
 obtain⟨C,cl,ci⟩:=c;have k:=zS (C:=C.map λks=>vals ks so) (nN _) λk j=>by obtain⟨r,J,rfl⟩:=mq j;exact zzc.mpr ⟨r.ks,ci r J,rfl⟩
 rw[zza (as:=C)]at k;lia
theorem Ga{h:Int}:∀{xs:ai Rw},(∀r∈xs,0<=r.t)->0<=sT h xs/\∀r∈xs,r.h=h->r.t<=sT h xs
 |[],_=>⟨by simp[sT],λr J=>by simp at J⟩
 |x::xs,p=>by
  obtain⟨g0,g1⟩:=Ga (h:=h) λr J=>p r (zzf _ J);have px:=p x zzd;have e:sT h (x::xs)=(if x.h=h then x.t else 0)+sT h xs:=by
   unfold sT;by_cases z:x.h=h
   ·rw[zzi z,zyp (by simpa using z),zzh,zzE]
   ·rw[zzg z,zyq (by simpa using z),zwT]
  rw[e];refine⟨by split<;>lia,λr J U=>?_⟩;rcases zzr.mp J with rfl|J
  ·rw[zzi U];lia
  ·have:=g1 r J U;split<;>lia
theorem zT(f:RsF n ms rs){k:ai Int}(H:k∈Kp rs so){h:Int}(h0:0<=h)(G:h<n):1<=sT h (Xp rs so k):=by
 obtain⟨r,U,rfl⟩:=mq H;obtain⟨j,J,C,E⟩:=f.al r U h h0 G;have t1:=(f.t9 j J).1;have m:j∈Xp rs so (vals r.ks so):=by rw[show Xp rs so (vals r.ks so)=_ from fk _ _];refine zzc.mpr ⟨(vals j.ks so,j),zzu.mpr ⟨zzc.mpr ⟨j,zzu.mpr ⟨J,by simp;lia⟩,rfl⟩,by simp[C]⟩,rfl⟩
 have:=(Ga λx Y=>by have:=(f.t9 x (wR _ x Y)).1;lia).2 j m E;lia
end
theorem sV{n:Nat}{X:ai Int->ai Rw}{h:Nat}(J:h<n):∀{L:ai (ai Int)},(∀k∈L,1<=sT (h:Int) (X k))->(L.length:Int)<=(sumP (col (L.map λk=>ax n (X k)) h)).1
 |[],_=>by simp[sumP,col]
 |x::L,p=>by have:=sV J λk j=>p k (zzf _ j);have px:=p x zzd;unfold sumP col at this ⊢;simp only[zzh,zzE,zzI]at this ⊢;rw[cf J];show _<=sT (h:Int) (X x)+_;lia
theorem DD(l:2<=n)(m:n<=6){X:ai Int->ai Rw}(i:1<=L.length)(l6:L.length<=6)(p:∀k∈L,∀h:Nat,h<n->(1<=sT (h:Int) (X k)/\sT (h:Int) (X k)<=40000)/\0<=sW (h:Int) (X k)/\sW (h:Int) (X k)<=sT (h:Int) (X k))(M:0<=a)(a1:a<n)(d:0<=b)(g:b<n)(T:a≠b):T61 n (L.map λk=>ax n (X k)) a b:=by
 have C:∀r∈L.map (λk=>ax n (X k)),RowN 40 n r:=λr J=>by
  obtain⟨k,j,rfl⟩:=zzc.mp J;refine⟨by unfold ax;simp,λc E=>?_⟩;unfold ax at E;obtain⟨h,U,rfl⟩:=zzc.mp E;have U:=zzB.mp U;obtain⟨⟨q,G⟩,H,I⟩:=p k j h U;have Y:∀x:Int,0<=x->x<=40000->Bd 40 x:=λx x0 x1=>by unfold Bd;lia
  exact⟨H,I,Y _ (Int.le_trans (by decide) q) G,Y _ H (Int.le_trans I G)⟩
 refine⟨⟨⟨l,m,by rw[zza];exact i,by rw[zza];lia,λr J=>(C r J).up⟩,M,a1,d,g,T,?_,?_,λr J=>?_⟩,by rw[zza];lia,C⟩
 ·have:=sV (n:=n) (by lia) λk j=>(p k j a.toNat (by lia)).1.1;lia
 ·have:=sV (n:=n) (by lia) λk j=>(p k j b.toNat (by lia)).1.1;lia
 ·obtain⟨k,j,rfl⟩:=zzc.mp J;rw[cf (by lia),cf (by lia)];have h1:=(p k j a.toNat (by lia)).1.1;have h2:=(p k j b.toNat (by lia)).1.1;constructor
  ·intro e;have e:sT ((a.toNat:Nat):Int) (X k)=0:=e;lia
  ·intro e;have e:sT ((b.toNat:Nat):Int) (X k)=0:=e;lia
theorem Jk{h m:Int}(U:0<=m):∀{xs:ai Rw},(∀r∈xs,0<=r.w/\r.w<=r.t/\r.t<=m)->0<=sW h xs/\sW h xs<=sT h xs/\sT h xs<=m*xs.length
 |[],_=>by simp[sT,sW]
 |x::xs,p=>by
  obtain⟨g0,g1,g2⟩:=Jk U (h:=h) λr J=>p r (zzf _ J);obtain⟨p0,p1,p2⟩:=p x zzd;have e:sT h (x::xs)=(if x.h=h then x.t else 0)+sT h xs/\sW h (x::xs)=(if x.h=h then x.w else 0)+sW h xs:=by
   unfold sT sW;by_cases z:x.h=h
   ·rw[zzi z,zzi z,zyp (by simpa using z),zzh,zzE,zzh,zzE];exact⟨rfl,rfl⟩
   ·rw[zzg z,zzg z,zyq (by simpa using z),zwT,zwT];exact⟨rfl,rfl⟩
  have l:m*((x::xs).length:Int)=m*xs.length+m:=by rw[zzI,Int.natCast_add,Int.mul_add];simp
  rw[e.1,e.2,l];split<;>lia
section
variable{rs:ai Rw}
theorem Jl(k:ai Int):(Xp rs so k).length<=rs.length:=by rw[show Xp rs so k=_ from fk _ _,zza];refine zzo (zzU _ _) ?_;unfold dG;rw[zza];exact zzU _ _
theorem Jm(o:RsOk n ms rs)(f:RsF n ms rs){k:ai Int}(E:k∈Kp rs so){h:Int}(h0:0<=h)(C:h<n):(1<=sT h (Xp rs so k)/\sT h (Xp rs so k)<=2160)/\0<=sW h (Xp rs so k)/\sW h (Xp rs so k)<=sT h (Xp rs so k):=by
 have p:=zT f E h0 C;obtain⟨U,g1,g2⟩:=Jk (m:=60) (by decide) (xs:=Xp rs so k) λr J=>by have j:=f.ro r (wR k r J);exact⟨j.w0,j.wt,(f.t9 r (wR k r J)).2⟩
 have l:=Jl (rs:=rs) (so:=so) k;have rl:=o.rl;exact⟨⟨p,by lia⟩,U,g1⟩
theorem Jn(o:RsF n ms rs)(ne:rs≠[]):1<=(Kp rs so).length:=by
 cases rs with
 |nil=>exact(ne rfl).elim|cons r rs =>
  have m:vals r.ks so∈Kp (r::rs) so:=by refine(gH _ _).mpr (zzc.mpr ⟨(vals r.ks so,r),zzc.mpr ⟨r,zzu.mpr ⟨zzd,?_⟩,rfl⟩,rfl⟩);have:=(o.t9 r zzd).1;simp;lia
  exact List.length_pos_of_mem m
theorem Jo(t:Tn n ms rs hs pl cs z)(f:RsF n ms rs)(ne:rs≠[])(c:C6 6 rs)(j:0<=a)(a1:a<n)(E:0<=b)(G:b<n)(C:a≠b):T61 n (tb1 n rs so) a b:=by have pm:=ak (Kp rs so);refine DD t.o.n2 t.o.n6 (by rw[pm.length_eq];exact Jn f ne) (by rw[pm.length_eq];exact oi c) (λk H h hh=>?_) j a1 E G C;obtain⟨⟨g1,g2⟩,g3⟩:=Jm t.o f (pm.mem_iff.mp H) (h:=(h:Int)) (by lia) (by lia);exact⟨⟨g1,by lia⟩,g3⟩
theorem Jp(t:Tn n ms rs hs pl cs z)(f:RsF n ms rs)(ne:rs≠[])(c:C6 6 rs)(G:0<=a)(a1:a<n)(C:0<=b)(E:b<n)(H:a≠b):T61 n (tb2 n rs so hs pl cs z) a b:=by have pm:=ak (Kp rs so);have d:=t.z1;have g:=t.z9;refine DD t.o.n2 t.o.n6 (by rw[pm.length_eq];exact Jn f ne) (by rw[pm.length_eq];exact oi c) (λk T h hh=>?_) G a1 C E H;obtain⟨j,J,U,e⟩:=t.hs.surj (x:=(h:Int)) (by lia) (by lia);obtain⟨⟨g1,g2⟩,g3,Y⟩:=Jm t.o f (pm.mem_iff.mp T) J U;obtain⟨I,M⟩:=fX t J U (wR k);show (1<=sT (h:Int) ((Xp rs so k).map (tuR hs pl cs z))/\_)/\0<=sW (h:Int) ((Xp rs so k).map (tuR hs pl cs z))/\_;rw[←e,I,M];have E:sT j (Xp rs so k)*z<=2160*9:=zxd g2 g (by lia) (by decide);have C:1*1<=sT j (Xp rs so k)*z:=zxd g1 d (by decide) (by lia);exact⟨⟨by lia,by lia⟩,Int.mul_nonneg g3 (by lia),Int.mul_le_mul_of_nonneg_right Y (by lia)⟩
theorem zU(t:Tn n ms rs hs pl cs z)(E:0<=a)(a1:a<n)(G:0<=b)(b1:b<n):Sc z (tb1 n rs so) (tb2 n rs so hs pl cs z) a.toNat b.toNat (gi hs a).toNat (gi hs b).toNat:=by have j:=vn (so:=so) t (h:=a.toNat) (by lia);have C:=vn (so:=so) t (h:=b.toNat) (by lia);rw[zyf E]at j;rw[zyf G]at C;exact⟨t.z1,j,C⟩
end
structure T64(n:Nat)(t:List Row):Prop where
 tw:∀a b:Int,0 <= a->a<n->0 <= b->b<n->a≠b->T61 n t a b
 n2:2 <= n
 n6:n <= 6
 l6:t.length <= 6
 tr:∀h i:Nat,h<n->i<t.length->(cl t h i).1≠0
theorem T64.h{n:Nat}{t:ai Row}(o:T64 n t){h:Int}(h0:0<=h)(j:h<n):∃a,T61 n t a h:=by
 have:=o.n2;by_cases e:h=0
 ·exact⟨1,o.tw 1 h (by lia) (by lia) h0 j (by lia)⟩
 ·exact⟨0,o.tw 0 h (by lia) (by lia) h0 j (by lia)⟩
theorem T64.o{n:Nat}{t:ai Row}(o:T64 n t):Tbl n t:=by obtain⟨a,k⟩:=o.h (h:=0) (by lia) (by have:=o.n2;lia);exact k.o
theorem T64.cl{n:Nat}{t:ai Row}(o:T64 n t){h i:Nat}(U:h<n)(E:i<t.length):∃r,t.getD i []=r/\RowN 40 n r/\at_ r h=cl t h i:=by obtain⟨a,k⟩:=o.h (h:=0) (by lia) (by have:=o.n2;lia);obtain⟨r,j,C,J,c⟩:=k.cl U E;exact⟨r,by rw[zze,j];rfl,k.r40 r C,J⟩
structure Wt(n:Nat)(ws:List Int):Prop where
 len:ws.length=n
 b:∀w∈ws,0 <= w/\w <= 4000
 pos:0<ws.sum
def wq(ws:ai Int)(i:Nat):Rat:=((ws.getD i 0:Int):Rat) / ((ws.sum:Int):Rat)
theorem Jq(h:∀w∈ws,w<=4000):ws.sum<=4000*ws.length:=by
 induction ws with
 |nil=>simp|cons a r J =>
  have:=J λw j=>h w (zzf _ j);have:=h a zzd;rw[zzE,zzI];lia
section
variable{ws:ai Int}
theorem Wt.at(o:Wt n ws)(j:i<n):ws[i]?=some (ws.getD i 0)/\0<=ws.getD i 0/\ws.getD i 0<=4000:=by
 have J:i<ws.length:=by rw[o.len];exact j
 have e:ws[i]?=some (ws.getD i 0):=by rw[zze,zzp J];rfl
 exact⟨e,o.b _ (zzD e)⟩
theorem Wt.up(o:Wt n ws)(hn:n<=6):ws.sum<=24000:=by have:=Jq λw j=>(o.b w j).2;rw[o.len]at this;lia
theorem Wt.B(o:Wt n ws)(C:n<=6)(j:i<n):QB 15 (wq ws i):=by
 have h1:=o.up C;have h2:=o.at j;have h3:=o.pos;refine QB.of (by lia) ?_ ?_
 ·show (ws.getD i 0).natAbs<2^15;lia
 ·show ws.sum.natAbs<2^15;lia
theorem vw:∀(ws:ai Int) (S:Rat),(ws.map λw:Int=>(w:Rat) / S).sum=((ws.sum:Int):Rat) / S
 |[],S=>by simp[zyi]
 |a::r,S=>by
  rw[zzh,zzE,vw r S,zzE,zwg,zyi,zyi,zyi]
  grind
theorem Wt.wk(o:Wt n ws)(H:n<=6):Wk n (wq ws):=by
 have j:=o.pos;have h4:=o.up H;refine⟨λi G=>?_,?_,ws.sum,j,(bd64 (by lia)).mono (by decide),λi _=>⟨_,rfl⟩⟩
 ·have E:=(o.at G).2.1;unfold wq;rw[zyi];exact zxp (Rat.intCast_nonneg.mpr E) (zxa (zvb.mpr (Rat.intCast_pos.mpr j)))
 ·have e:=kL (0:Int) (λw:Int=>(w:Rat) / ((ws.sum:Int):Rat)) (l:=ws);rw[o.len]at e;have C:(List.range n).map (wq ws)=ws.map λw:Int=>(w:Rat) / ((ws.sum:Int):Rat):=by rw[e];rfl
  rw[←vd,C,vw];have:=cast_ne (show ws.sum≠0 by lia)
  grind
end
def st(t:ai Row)(ws:ai Int)(h:Nat):Rat:=sumQ (λi=>wq ws i*sh t h i) t.length
theorem Gb{t:ai Row}(o:T64 n t)(w:Wt t.length ws){h:Int}(h0:0<=h)(j:h<n):∃a,Mx n t a h (wq ws):=by obtain⟨a,k⟩:=o.h h0 j;exact⟨a,k,w.wk o.l6,λi C _=>o.tr h.toNat i (by lia) C⟩
theorem st_B{t:ai Row}(o:T64 n t)(w:Wt t.length ws){h:Nat}(h1:h<n):QB 340 (st t ws h):=by obtain⟨a,k⟩:=o.h (h:=(h:Int)) (by lia) (by lia);have:=IV (λi j=>(w.B o.l6 j).mul (k.sB j)) t.length (zzn _);have l6:=o.l6;exact this.mono (by lia)
theorem Gc{j:DS}{Q:D->DS->Prop}(h:slot j k=.val (.lst (ws.map D.int)))(q:Q (.int ws.sum) j):dCB gSum (bD (dVar k) fQ) j Q:=by show ES k j _ (slot j k);rw[h];exact nD (P:=λd=>Q d j) q
theorem Ck{ρ:DS}{E:DEnds}{c:D}(h:slot ρ k=.val (.lst (ws.map D.int)))(q:gEq false (.int ws.sum) c λd=>blD d λb=>Br b (u E ρ) (v E ρ)):wd {E with nx:=λρ=>dIfS (dB (dOp (gEq false) (dCB gSum (bD (dVar k) fQ)) (dC c))) u v E ρ} ρ:=by show ES k ρ _ (slot ρ k);rw[h];exact nD (P:=λd=>gEq false d c λd=>blD d λb=>Br b (u E ρ) (v E ρ)) q
def wsD(ws:ai Int):D:=.lst (ws.map D.int)
def gCS:DSp:=λds Q=>∃(xs:ai D) (ws:ai Int),ds=[.lst xs,wsD ws]/\Wt xs.length ws/\xs.length<=6/\Q .non
theorem cI(T:Tx K mg):T.je.Ok P w base CX0 2 (spD K 2 gCS):=by
 refine fnd ["table","weights"] (λJ _=>(ac (dif (aj (fF J) (dln aV T.bO (dv 1)) (dln aV T.bO (dv 0))) dnv) (ac (dif (bG (aE (aC uB T.Cz PyProof.Rows.boot_all (da1 (dfc (ao ["weight"] [none] rfl (ar (dv 1)) (dgb 0) au (ur (dcl (fC T) J (a1 0)) (uq (jQ Kt (dv 0) ad))))))))) dnv) (ag (dif (aj (bZ J) (aC uy T.CB PyProof.Rows.boot_sum (a1 1)) ad) dnv))))) (λds Q hl h=>?_);obtain⟨xs,ws,rfl,o,l,h⟩:=h;refine⟨⟨rfl,rfl⟩,lx (by rw[zza,o.len]) rfl ?_⟩;refine bc (λ_=>.bl true) (λj=>∃a:Sl,j=[a]) (by rw[zza,o.len];exact zzo l (by decide)) (λd hd j Y Z E U=>?_) _ ⟨_,rfl⟩ ?_
 ·obtain⟨a,rfl⟩:=E;obtain⟨i,G,rfl⟩:=zzc.mp hd;refine Br.t ⟨rfl,rfl,Br.t ?_⟩;have:decide (0<=i)=true:=zzJ (o.b i G).1;show Y (.bl (decide (0<=i))) _;rw[this];exact U _ ⟨_,rfl⟩
 have e:(ws.map D.int).map (λ_=>D.bl true)=(ws.map λ_=>true).map D.bl:=by rw[zzk,zzk];rfl
 rw[e];refine jX ?_;have C:(ws.map λ_=>true).all id=true:=by simp
 rw[C];refine Br.f ?_;refine Ck rfl ⟨⟨rfl,rfl⟩,λz=>?_,λ_=>h⟩;have z:ws.sum=0:=by simpa[aG]using z
 have:=o.pos;lia
def gAW:DSp:=λds Q=>∃(n:Nat) (ws:ai Int),ds=[wsD ws]/\Wt n ws/\n<=6/\Q (wL (wq ws) n)
theorem fq(T:Tx K mg):T.qE.Ok P w base CX0 3 (spD K 1 gAW):=by refine fnd ["weights","whole"] (λU _=>(ac (dse 1 (aC uy T.CB PyProof.Rows.boot_sum (a1 0))) (dr (dfc (ao ["weight","whole"] [none,some 1] rfl (ar (dv 0)) (dgb 0) au (dcl (bS T) U (a2 0 1))))))) (λds Q hl h=>?_);obtain⟨n,ws,rfl,o,l,h⟩:=h;have h1:=o.up l;have h3:=o.pos;refine Gc rfl ?_;show cq _ _ _ (ws.map D.int) _ _ _;rw[qp D.int,o.len];refine qq _ _ (λj=>∃a:Sl,j=[a,.val (.int ws.sum)]) (zzo l (by decide)) (λi E j Y Z C J=>?_) _ ⟨_,rfl⟩ h;obtain⟨a,rfl⟩:=C;have h2:=o.at E;exact Br.t ⟨rfl,⟨by lia,(bd64 (by lia)).mono (by decide),(bd64 (by lia)).mono (by decide)⟩,gJ (Q:=λd=>Y d _) (by lia) (J _ ⟨_,rfl⟩)⟩
def gSS:DSp:=λds Q=>∃(n:Nat) (t:ai Row) (h:Int) (ws:ai Int),ds=[.lst (t.map rowD),.int h,wsD ws]/\T64 n t/\(0<=h/\h<n)/\Wt t.length ws/\Q (ratQ (st t ws h.toNat))
theorem jb(T:Tx K mg):T.jc.Ok P w base CX0 12 (spD K 3 gSS):=by
 refine fnd ["table","house","weights","part","weight"] (λU _=>(aw (aM (ir T.xb (a2 0 2)) (dg2 3 4) (ag (dir (PWD.pt (iN (aj iq (dv 4) ad) (fc (aj (bZ U) (dix (dix (dv 3) (dv 1)) ad) ad)))) dX))) (dr (dcl (cS T) U (aa (dv 0) (aa (dv 1) (da1 (dcl (fq T) U (a1 2))))))))) (λds Q hl h=>?_);obtain⟨n,t,J,ws,rfl,o,⟨h0,G⟩,w,h⟩:=h;have M:zipD (t.map rowD) (ws.map D.int)=(List.range t.length).map λi=>.tup [rowD (t.getD i []),.int (ws.getD i 0)]:=by have E:=qp (l:=ws) (d:=0) D.int;rw[w.len]at E;rw[qp rowD,E,jn]
 refine⟨λj=>∃a b:Sl,j=[.val (.lst (t.map rowD)),.val (.int J),.val (wsD ws),a,b],?_,?_⟩
 ·refine⟨_,_,rfl,rfl,?_⟩;show dZ _ _ (zipD (t.map rowD) (ws.map D.int)) _ _;rw[M];refine fo _ (λi j=>∃a b:Sl,j=[.val (.lst (t.map rowD)),.val (.int J),.val (wsD ws),a,b]) (λj C=>C) (λi j X H C Y=>?_) _ ⟨_,_,rfl⟩;obtain⟨a,b,rfl⟩:=C;obtain⟨r,e,g,I⟩:=o.cl (h:=J.toNat) (by lia) H;rw[e];refine⟨rfl,Br.di (λz=>?_) (λz=>Br.f (Y _ ⟨_,_,rfl⟩))⟩;refine dh g h0 G ⟨⟨rfl,rfl⟩,λy=>?_,λ_=>Y _ ⟨_,_,rfl⟩⟩;have y:eqD (.int (at_ r J.toNat).1) (.int 0)=true:=y;rw[aG,I]at y;exact absurd (zzQ y) (o.tr J.toNat i (by lia) H)
 ·rintro _ ⟨a,b,rfl⟩;obtain⟨c,mx⟩:=Gb o w h0 G;exact⟨rfl,t.length,ws,rfl,w,o.l6,rfl,n,t,c,J,wq ws,rfl,mx,h⟩
def gSt:DSp:=λds Q=>∃(n:Nat) (t:ai Row) (ws:ai Int),ds=[.lst (t.map rowD),wsD ws]/\T64 n t/\Wt t.length ws/\Q (.lst ((List.range n).map λi=>ratQ (st t ws i)))
theorem mz(T:Tx K mg):T.wZ.Ok P w base CX0 13 (spD K 2 gSt):=by refine fnd ["table","weights"] (λJ _=>(ac (aY (dcl (cI T) J (a2 0 1))) (dr (dfc (ao ["house","table","weights"] [none,some 0,some 1] rfl (bY T.dm (da1 (dcl (bA T) J (a1 0)))) (dgb 0) au (dcl (jb T) J (a3 1 0 2))))))) (λds Q hl h=>?_);obtain⟨n,t,ws,rfl,o,w,h⟩:=h;have E:=o.n6;refine⟨rfl,t.map rowD,ws,rfl,by rw[zza];exact w,by rw[zza];exact o.l6,rfl,bT o.o ⟨⟨by lia,by lia⟩,?_⟩⟩;show cq _ _ _ (eX 0 n) _ _ _;rw[Cd];refine qq _ _ (λj=>∃a:Sl,j=[a,.val (.lst (t.map rowD)),.val (wsD ws)]) (zzo E (by decide)) (λi hi j Y Z C U=>?_) _ ⟨_,rfl⟩ h;obtain⟨a,rfl⟩:=C;exact Br.t ⟨rfl,n,t,i,ws,rfl,o,⟨by lia,by lia⟩,w,by rw[zzG];exact U _ ⟨_,rfl⟩⟩
def aS(l:Rat×Rat):D:=.tup [ratQ l.1,ratQ l.2]
structure Ln(l:Rat×Rat):Prop where
 a:QB 340 l.1
 b:QB 690 l.2
theorem vx(x y:D)(xs ys:ai D):eqD (.tup (x::xs)) (.tup (y::ys))=(eqD x y && eqD (.tup xs) (.tup ys)):=rfl
theorem oj(a b:Rat×Rat):eqD (aS a) (aS b)=decide (a=b):=by unfold aS;rw[vx,vx,cy,cy];have e:eqD (.tup []) (.tup [])=true:=rfl;rw[e,Bool.and_true];obtain⟨a1,a2⟩:=a;obtain⟨j,J⟩:=b;by_cases C:a1=j<;>by_cases E:a2=J<;>simp[C,E]
theorem vy(a:Rat×Rat):shp (aS a)=true:=Shp.shp (n:=2) (.tup λd hd=>by simp only[zzr,zyo,zxv]at hd;rcases hd with rfl|rfl<;>exact .pair)
def eE(ls:ai (Rat×Rat)):D:=.lst (ls.map aS)
def stL(t:ai Row)(ws os:ai Int)(h:Nat):Rat×Rat:=(st t ws h,st t os h - st t ws h)
theorem Jr{t:ai Row}(o:T64 n t)(w:Wt t.length ws)(u:Wt t.length A){h:Nat}(J:h<n):Ln (stL t ws A h):=⟨(st_B o w J).mono (by decide),((st_B o u J).sub (st_B o w J)).mono (by decide)⟩
def gLO:DSp:=λds Q=>∃(n:Nat) (t:ai Row) (h:Int) (ws os:ai Int),ds=[.lst (t.map rowD),.int h,wsD ws,wsD os]/\T64 n t/\(0<=h/\h<n)/\Wt t.length ws/\Wt t.length os/\Q (aS (stL t ws os h.toNat))
theorem zV(T:Tx K mg):T.Au.Ok P w base CX0 12 (spD K 4 gLO):=by refine fnd ["table","house","weights","others","start"] (λJ _=>(ac (dse 4 (dcl (cS T) J (aa (dv 0) (aa (dv 1) (da1 (dcl (fq T) J (a1 2))))))) (dr (ay (aa (dv 4) (da1 (dcl (ce T) J (aa (dcl (cS T) J (aa (dv 0) (aa (dv 1) (da1 (dcl (fq T) J (a1 3)))))) (a1 4))))))))) (λds Q hl h=>?_);obtain⟨n,t,U,ws,os,rfl,o,⟨h0,j⟩,w,u,h⟩:=h;obtain⟨c,mx⟩:=Gb o w h0 j;obtain⟨C,Y⟩:=Gb o u h0 j;refine⟨rfl,t.length,ws,rfl,w,o.l6,rfl,n,t,c,U,wq ws,rfl,mx,?_⟩;refine⟨rfl,t.length,os,rfl,u,o.l6,rfl,n,t,C,U,wq os,rfl,Y,?_⟩;exact⟨rfl,dI ((st_B o u (by lia)).mono (by decide)) ((st_B o w (by lia)).mono (by decide)) ⟨sz,h⟩⟩
theorem zW{i:Nat}(j:i<ws.length)(q:Q (.int (ws.getD i 0))):opt (atI (ws.map D.int) (i:Int)) Q:=by refine bR (by lia) ?_ q;rw[zzl,show ((i:Int)).toNat=i by lia,zzp j,zze,zzp j];rfl
def gCT:DSp:=λds Q=>∃(n:Nat) (t:ai Row) (hs ws os:ai Int),ds=[.lst (t.map rowD),.lst (hs.map D.int),wsD ws,wsD os]/\T64 n t/\(∀h∈hs,0<=h/\h<n)/\Wt t.length ws/\Wt t.length os/\Q .non
theorem on(T:Tx K mg):T.oH.Ok P w base CX0 1 (spD K 4 gCT):=by
 refine fnd ["table","houses","weights","others","part","counts","house"] (λU _=>(ag (aM (fU T.aZ (a1 0)) (dg2 4 5) (ac (dif (PWD.pt (iN (aj (bZ U) (dix (dv 2) (dv 4)) ad) (fc (aj (bZ U) (dix (dv 3) (dv 4)) ad)))) (ag rK)) (ag (aM (ar (dv 1)) (dgn 6) (ag (dif (aj (bZ U) (dix (dix (dv 5) (dv 6)) ad) ad) dnv)))))))) (λds Q hl h=>?_);obtain⟨n,t,hs,ws,os,rfl,o,g,w,u,h⟩:=h;show dZ _ _ (eA 0 (t.map rowD)) _ _;rw[jm rowD []];refine fo _ (λ_ j=>∃a b c:Sl,j=[.val (.lst (t.map rowD)),.val (.lst (hs.map D.int)),.val (wsD ws),.val (wsD os),a,b,c]) (λj C=>?_) (λi j X G C J=>?_) _ ⟨_,_,_,rfl⟩
 ·obtain⟨a,b,c,rfl⟩:=C;exact h
 ·obtain⟨a,b,c,rfl⟩:=C;have inner:∀E:DEnds,(∀j,(∃a b c:Sl,j=[.val (.lst (t.map rowD)),.val (.lst (hs.map D.int)),.val (wsD ws),.val (wsD os),a,b,c])->E.nx j)->dZ (bX 6) (dIfS (dB (dOp (gEq false) (dOp gIx (dOp gIx (dVar 5) (dVar 6)) (dC (D.int 0))) (dC (D.int 0)))) yw wd) (hs.map D.int) E [.val (.lst (t.map rowD)),.val (.lst (hs.map D.int)),.val (wsD ws),.val (wsD os),.val (.int i),.val (rowD (t.getD i [])),c]:=λE M=>by
   refine gy (λj=>∃c:Sl,j=[.val (.lst (t.map rowD)),.val (.lst (hs.map D.int)),.val (wsD ws),.val (wsD os),.val (.int i),.val (rowD (t.getD i [])),c]) (λj ⟨c,e⟩=>M j ⟨_,_,c,e⟩) (λd hd j Z C Y=>?_) _ ⟨_,rfl⟩;obtain⟨c,rfl⟩:=C;obtain⟨k,l,rfl⟩:=zzc.mp hd;have H:=g k l;obtain⟨r,e,m,I⟩:=o.cl (h:=k.toNat) (by lia) G;rw[e]at Y ⊢;refine dh m H.1 H.2 ⟨⟨rfl,rfl⟩,λy=>?_,λ_=>Y _ ⟨_,rfl⟩⟩;have y:eqD (.int (at_ r k.toNat).1) (.int 0)=true:=y;rw[aG,I]at y;exact absurd (zzQ y) (o.tr k.toNat i (by lia) G)
  refine⟨rfl,zW (by rw[w.len];exact G) ⟨⟨rfl,rfl⟩,λp=>zW (by rw[u.len];exact G) ⟨⟨rfl,rfl⟩,λq=>J _ ⟨_,_,_,rfl⟩,λq=>?_⟩,λp=>?_⟩⟩
  ·exact inner _ J
  ·exact Br.f (inner _ J)
def hsOf(ls:ai (Rat×Rat))(l:Rat×Rat)(n:Nat):ai Int:=((List.range n).filter λk=>decide (ls.getD k (0,0)=l)).map λ(k:Nat)=>(k:Int)
def gHO:DSp:=λds Q=>∃(ls:ai (Rat×Rat)) (l:Rat×Rat),ds=[eE ls,aS l]/\ls.length<=6/\Q (.lst ((hsOf ls l ls.length).map D.int))
theorem DF(ls:ai (Rat×Rat))(l:Rat×Rat)(n:Nat):(hsOf ls l n).length<=n:=by unfold hsOf;rw[zza];exact zzo (zzU _ _) (by rw[zzK];exact zzn _)
theorem kT(T:Tx K mg):T.tG.Ok P w base CX0 1 (spD K 2 gHO):=by
 refine fnd ["lines","line"] (λa _=>(dr (dfc (ao ["house","other","line"] [none,none,some 1] rfl (fU T.aZ (a1 0)) (dg2 0 1) (eN (aj (bZ a) (dv 1) (dv 2))) (dv 0))))) (λds Q hl h=>?_);obtain⟨ls,l,rfl,l3,h⟩:=h;show cq _ _ _ (eA 0 (ls.map aS)) _ _ _;rw[jm aS (0,0)];refine aA (λpre J E=>J=(hsOf ls l pre.length).map D.int/\∃H I:Sl,E=[H,I,.val (aS l)]) (λJ E j=>?_) (λpre d post J E Y e j G=>?_) _ ⟨rfl,_,_,rfl⟩
 ·obtain⟨rfl,_⟩:=j;rw[zza,zzK];exact h
 ·obtain⟨rfl,H,I,rfl⟩:=j;obtain⟨k,C⟩:∃k,k=pre.length:=⟨_,rfl⟩;have U:((List.range ls.length).map λ(i:Nat)=>D.tup [.int (i:Int),aS (ls.getD i (0,0))])[k]?=some d:=by
   rw[e,C,zzM (zzn _),zyY];rfl
  have b:k<ls.length:=by have:=(zzt.mp U).1;simpa using this
  rw[zzl,zzW b]at U;have U:D.tup [.int (k:Int),aS (ls.getD k (0,0))]=d:=by simpa using U
  subst U;rw[←C];have M:hsOf ls l (pre++[D.tup [.int (k:Int),aS (ls.getD k (0,0))]]).length=hsOf ls l k++(if ls.getD k (0,0)=l then[(k:Int)] else[]):=by
   rw[zzm,zzN,←C];unfold hsOf;rw[zyQ,zyA,zzs,zyM];by_cases z:ls.getD k (0,0)=l
   ·rw[zzi (zzJ z),zzi z];rfl
   ·rw[zzg (by rw[zyr];exact z),zzg z];rfl
  refine⟨rfl,⟨vy _,vy _⟩,λz=>?_,λz=>?_⟩
  ·have z:eqD (aS (ls.getD k (0,0))) (aS l)=true:=z;rw[oj]at z;have z:=zzQ z;refine⟨?_,G _ _ ⟨?_,_,_,rfl⟩⟩
   ·rw[zza];exact zzz (zzo (DF _ _ _) (show k<=6 by lia)) (by decide)
   ·rw[M,zzi z,zzs];rfl
  ·have z:eqD (aS (ls.getD k (0,0))) (aS l)=false:=z;rw[oj]at z;have z:=zyT z;refine G _ _ ⟨?_,_,_,rfl⟩;rw[M,zzg z,zyb]
theorem q1B:QB (n+1) 1:=⟨Bd.mono (m:=1) (by unfold Bd;decide) (by lia),Bd.mono (m:=1) (by unfold Bd;decide) (by lia)⟩
def Le1(o l:Rat×Rat):Prop:=o.1<l.1∨(o.1=l.1/\o.2<=l.2)
theorem Le1.trans{a b c:Rat×Rat}(h:Le1 a b)(k:Le1 b c):Le1 a c:=by
 unfold Le1 at *
 grind
def gFL:DSp:=λds Q=>∃ls:ai (Rat×Rat),ds=[eE ls]/\ls≠[]/\(∀l∈ls,Ln l)/\∀l∈ls,(∀o∈ls,Le1 o l)->Q (aS l)
theorem qx(T:Tx K mg):T.qD.Ok P w base CX0 2 (spD K 1 gFL):=by
 refine fnd ["lines","first","line"] (λY _=>(ac (dse 1 (dx 0)) (aw (aM (ar (dv 0)) (dgn 2) (ag (dif (PWD.pt (io (aE (dcl (cL T) Y (aa (dx 1) (da1 (dx 2))))) (dY (PWD.pt (iN (aj (bZ Y) (dx 2) (dx 1)) (fc (aE (dcl (cL T) Y (aa (dx 1) (da1 (dx 2))))))))))) (ag (dse 1 (dv 2)))))) (dr (dv 1))))) (λds Q J h=>?_);obtain⟨ls,rfl,ne,ok,h⟩:=h;obtain⟨l0,U⟩:∃l0,ls[0]?=some l0:=by
  cases ls with
  |nil=>exact absurd rfl ne|cons a r=>exact⟨a,rfl⟩
 refine bR (zyu 0) (by rw[show (0:Int).toNat=0 from rfl,zzl,U];rfl) ?_;refine⟨λG=>∃l,l∈ls/\(∀o∈ls,Le1 o l)/\∃a:Sl,G=[.val (eE ls),.val (aS l),a],?_,?_⟩
 ·refine aN (λpre G=>∃(c0 c1:ai (Rat×Rat)) (l:Rat×Rat),ls=c0++c1/\pre=c0.map aS/\l∈ls/\(∀o∈c0,Le1 o l)/\∃a:Sl,G=[.val (eE ls),.val (aS l),a]) (λG H=>?_) (λpre d post G X e H I=>?_) _ ⟨[],ls,l0,rfl,rfl,zzD U,λo E=>by simp at E,_,rfl⟩
  ·obtain⟨c0,c1,l,C,k,J,E,a,rfl⟩:=H;have C:=eV C k;subst C;exact⟨l,J,E,_,rfl⟩
  ·obtain⟨c0,c1,l,C,rfl,J,E,a,rfl⟩:=H;obtain⟨c,c1,rfl,rfl⟩:=dg C e;have M:c∈ls:=by rw[C];simp
   have g:=ok c M;have i:=ok l J;have yes:Le1 l c->X [.val (eE ls),.val (aS c),.val (aS c)]:=λz=>I _ ⟨c0++[c],c1,c,by rw[C];simp,by simp,M,λo j=>by
    rcases zzx.mp j with j|j
    ·exact(E o j).trans z
    ·rw[zzy.mp j];exact .inr ⟨rfl,zyh⟩,_,rfl⟩
   have no:Le1 c l->X [.val (eE ls),.val (aS l),.val (aS c)]:=λz=>I _ ⟨c0++[c],c1,l,by rw[C];simp,by simp,J,λo j=>by
    rcases zzx.mp j with j|j
    ·exact E o j
    ·rw[zzy.mp j];exact z,_,rfl⟩
   refine⟨rfl,fG (i.a.mono (by decide)) (g.a.mono (by decide)) (Br.di (λz=>Br.t (yes (.inl z))) (λz=>⟨⟨cR _,cR _⟩,λy=>?_,λy=>Br.f (no ?_)⟩))⟩
   ·have y:eqD (ratQ c.1) (ratQ l.1)=true:=y;rw[cy]at y;have y:=zzQ y;exact⟨rfl,fG (i.b.mono (by decide)) (g.b.mono (by decide)) (Br.di (λx=>yes (.inr ⟨y.symm,by grind⟩)) (λx=>no (.inr ⟨y,by grind⟩)))⟩
   ·have y:eqD (ratQ c.1) (ratQ l.1)=false:=y;rw[cy]at y;have y:=zyT y;exact .inl (by grind)
 ·rintro _ ⟨l,J,E,a,rfl⟩;exact h l J E
def lA(s:Rat×(Rat×Rat)):D:=.tup [ratQ s.1,aS s.2]
structure Sp(s:Rat×(Rat×Rat)):Prop where
 t:QB 2100 s.1
 l:Ln s.2
def Bt(s o:Rat×(Rat×Rat)):Prop:=s.1<o.1∨(s.1=o.1/\o.2.2<s.2.2)
def gIA:DSp:=λds Q=>∃s o:Rat×(Rat×Rat),ds=[lA s,lA o]/\Sp s/\Sp o/\∀b:Bool,(b=true->Bt s o)->(b=false->¬Bt s o)->Q (.bl b)
theorem wT(T:Tx K mg):T.xa.Ok P w base CX0 2 (spD K 2 gIA):=by
 refine fnd ["step","other"] (λJ _=>(ac (dir (aj (bZ J) (dx 0) (dx 1)) (dcl (cL T) J (aa (dix (dx 1) ad) (da1 (dix (dx 0) ad))))) (dr (dcl (cL T) J (aa (dx 0) (da1 (dx 1))))))) (λds Q hl h=>?_);obtain⟨s,o,rfl,ks,U,h⟩:=h;refine⟨⟨cR _,cR _⟩,λy=>?_,λy=>?_⟩
 ·have y:eqD (ratQ s.1) (ratQ o.1)=true:=y;rw[cy]at y;have y:=zzQ y;refine⟨rfl,fG (U.l.b.mono (by decide)) (ks.l.b.mono (by decide)) (h _ (λz=>.inr ⟨y,zzQ z⟩) (λz n=>?_))⟩;have z:=zyT z;rcases n with n|n
  ·grind
  ·exact z n.2
 ·have y:eqD (ratQ s.1) (ratQ o.1)=false:=y;rw[cy]at y;have y:=zyT y;refine⟨rfl,fG (ks.t.mono (by decide)) (U.t.mono (by decide)) (h _ (λz=>.inl (zzQ z)) (λz n=>?_))⟩;have z:=zyT z;rcases n with n|n
  ·exact z n
  ·exact y n.1
def mt(l o:Rat×Rat):Rat:=(l.1 - o.1) / (o.2 - l.2)
def Be(l o o':Rat×Rat):Prop:=mt l o<mt l o'∨(mt l o=mt l o'/\o'.2<=o.2)
theorem Be.trans{l a b c:Rat×Rat}(h:Be l a b)(k:Be l b c):Be l a c:=by
 unfold Be at *
 grind
theorem Cl{l:Rat×Rat}{o o':Rat×Rat}(e:lA (mt l o,o)=lA (mt l o',o')):o=o':=by
 have e:eqD (lA (mt l o,o)) (lA (mt l o',o'))=true:=by rw[←e];exact gz (Shp.shp (n:=3) (.tup λd hd=>by
  simp only[zzr,zyo,zxv]at hd;rcases hd with rfl|rfl
  ·exact .pair
  ·exact .tup λd hd=>by simp only[zzr,zyo,zxv]at hd;rcases hd with rfl|rfl<;>exact .pair))
 have e:(eqD (ratQ (mt l o)) (ratQ (mt l o')) && (eqD (aS o) (aS o') && eqD (.tup []) (.tup [])))=true:=e;rw[zzY,zzY,oj]at e;exact zzQ e.2.1
def Stp(ls c0:ai (Rat×Rat))(l:Rat×Rat)(d:D):Prop :=
 (d=.non/\∀o∈c0,l.2<o.2->¬mt l o<1)∨∃o,o∈ls/\l.2<o.2/\mt l o<1/\d=lA (mt l o,o)/\∀o'∈c0,l.2<o'.2->Be l o o'
theorem mt_B{l o:Rat×Rat}(J:Ln l)(j:Ln o)(h:l.2<o.2):QB 2100 (mt l o):=((J.a.sub j.a).div (j.b.sub J.b) (by grind)).mono (by decide)
def gNS:DSp:=λds Q=>∃(ls:ai (Rat×Rat)) (l:Rat×Rat),ds=[eE ls,aS l]/\(∀l∈ls,Ln l)/\Ln l/\∀d,Stp ls ls l d->Q d
theorem kU(T:Tx K mg):T.tN.Ok P w base CX0 4 (spD K 2 gNS):=by
 refine fnd ["lines","line","step","other","meeting"] (λH _=>(ac (dse 2 dX) (aw (aM (ar (dv 0)) (dgn 3) (ag (dif (aE (dcl (cL T) H (aa (dx 1) (da1 (dx 3))))) (ac (dse 4 (dcl (za T) H (aa (dcl (ce T) H (aa (dx 1) (da1 (dx 3)))) (da1 (dcl (ce T) H (aa (dx 3) (da1 (dx 1)))))))) (ag (dif (PWD.pt (iN (aE (dcl (cL T) H (aa (dv 4) (da1 (ay (aa ad (da1 ad))))))) (fc (PWD.pt (io (aj yB (dv 2) dX) (dY (aE (dcl (wT T) H (aa (ay (a2 4 3)) (a1 2)))))))))) (ag (dse 2 (ay (a2 4 3)))))))))) (dr (dv 2))))) (λds Q J h=>?_);obtain⟨ls,l,rfl,ok,G,h⟩:=h;refine⟨λg=>∃d,Stp ls ls l d/\∃a b:Sl,g=[.val (eE ls),.val (aS l),.val d,a,b],?_,?_⟩
 ·refine aN (λpre g=>∃(c0 c1:ai (Rat×Rat)) (d:D),ls=c0++c1/\pre=c0.map aS/\Stp ls c0 l d/\∃a b:Sl,g=[.val (eE ls),.val (aS l),.val d,a,b]) (λg m=>?_) (λpre d post g X e m x=>?_) _ ⟨[],ls,.non,rfl,rfl,.inl ⟨rfl,λo C=>by simp at C⟩,_,_,rfl⟩
  ·obtain⟨c0,c1,d,E,v,hs,a,b,rfl⟩:=m;have E:=eV E v;rw[←E]at hs;exact⟨d,hs,_,_,rfl⟩
  ·obtain⟨c0,c1,dd,E,rfl,hs,a,b,rfl⟩:=m;obtain⟨c,c1,rfl,rfl⟩:=dg E e;have r:c∈ls:=by rw[E];simp
   have U:=ok c r;have go:∀(i:D) (a b:Sl),Stp ls (c0++[c]) l i->X [.val (eE ls),.val (aS l),.val i,a,b]:=λi a b u=>x _ ⟨c0++[c],c1,i,by rw[E];simp,by simp,u,_,_,rfl⟩;have keep:(l.2<c.2->(dd=.non->¬mt l c<1)/\∀o,dd=lA (mt l o,o)->o∈ls->l.2<o.2->mt l o<1->Be l o c)->Stp ls (c0++[c]) l dd:=λk=>by
    rcases hs with ⟨M,C⟩|⟨o,Y,os,I,M,C⟩
    ·refine .inl ⟨M,λo' j J=>?_⟩;rcases zzx.mp j with j|j
     ·exact C o' j J
     ·have:o'=c:=zzy.mp j;subst this;exact(k J).1 M
    ·refine .inr ⟨o,Y,os,I,M,λo' j J=>?_⟩;rcases zzx.mp j with j|j
     ·exact C o' j J
     ·have:o'=c:=zzy.mp j;subst this;exact(k J).2 o M Y os I
   refine⟨rfl,fG (G.b.mono (by decide)) (U.b.mono (by decide)) (Br.di (λz=>?_) (λz=>go _ _ _ (keep λy=>absurd y z)))⟩;have q:=mt_B G U z;refine⟨rfl,dI (G.a.mono (by decide)) (U.a.mono (by decide)) ⟨rfl,dI (U.b.mono (by decide)) (G.b.mono (by decide)) ⟨rfl,FJ ((G.a.sub U.a).mono (by decide)) ((U.b.sub G.b).mono (by decide)) (by grind) ?_⟩⟩⟩;rw[show (l.1 - c.1) / (c.2 - l.2)=mt l c from rfl];refine⟨sz,rfl,fG (q.mono (by decide)) q1B (Br.di (λp=>?_) (λp=>?_))⟩
   ·have take:(∀o,o∈ls->l.2<o.2->dd=lA (mt l o,o)->Be l c o)->Stp ls (c0++[c]) l (lA (mt l c,c)):=λk=>by
     refine .inr ⟨c,r,z,p,rfl,λo' j J=>?_⟩;rcases zzx.mp j with j|j
     ·rcases hs with ⟨e,C⟩|⟨o,Y,os,I,e,C⟩
      ·have:=C o' j J;exact .inl (by grind)
      ·exact(k o Y os e).trans (C o' j J)
     ·rw[zzy.mp j];exact .inr ⟨rfl,zyh⟩
    rcases hs with ⟨e,C⟩|⟨o,Y,os,I,e,C⟩
    ·subst e;exact Br.t (Br.t ⟨sz,go _ _ _ (take λo _ _ e=>by cases e)⟩)
    ·subst e;have s:=ok o Y;refine Br.f ⟨sz,rfl,(mt l c,c),(mt l o,o),rfl,⟨q,U⟩,⟨mt_B G s os,s⟩,λb L A=>?_⟩;cases b with
     |true =>
      refine Br.t ⟨sz,go _ _ _ (take λo' _ _ e=>?_)⟩;have:o=o':=Cl e;rw[←this];rcases L rfl with y|y
      ·exact .inl y
      ·exact .inr ⟨y.1,by have:=y.2;grind⟩
     |false =>
      refine Br.f (go _ _ _ ?_);refine .inr ⟨o,Y,os,I,rfl,λo' j J=>?_⟩;rcases zzx.mp j with j|j
      ·exact C o' j J
      ·rw[zzy.mp j];have n:=A rfl;unfold Bt at n;unfold Be
       grind
   ·refine Br.f (go _ _ _ (keep λ_=>⟨λ_=>p,λo _ _ _ I=>.inl ?_⟩))
    grind
 ·rintro _ ⟨d,hs,a,b,rfl⟩;exact h d hs
def kW:Sl->Rat
 |.val (.tup [_,.tup [.int n,.int d]])=>(n:Rat) / (d:Rat)|_=>0
def above(ls:ai (Rat×Rat))(y:Rat):Nat:=(ls.filter λo=>decide (y<o.2)).length
theorem Cm{o:Rat×Rat}(U:o∈ls)(h:y<o.2):above ls o.2<above ls y:=by
 unfold above
 induction ls with
 |nil=>simp at U|cons a r J =>
  have mono:(r.filter λp=>decide (o.2<p.2)).length<=(r.filter λp=>decide (y<p.2)).length:=by
   clear U J
   induction r with
   |nil=>simp|cons b r J =>
    rw[zyM,zyM];by_cases z:o.2<b.2
    ·rw[zzi (zzJ z),zzi (zzJ (by grind))];simp only[zzI];lia
    ·rw[zzg (by rw[zyr];exact z)];split
     ·simp only[zzI];lia
     ·exact J
  rw[zyM,zyM];rcases zzr.mp U with rfl|U
  ·rw[zzg (by rw[zyr];grind),zzi (zzJ h)];simp only[zzI];lia
  ·have J:=J U;by_cases z:o.2<a.2
   ·rw[zzi (zzJ z),zzi (zzJ (by grind))];simp only[zzI];lia
   ·rw[zzg (by rw[zyr];exact z)];split
    ·simp only[zzI];lia
    ·exact J
theorem Cn(ls:ai (Rat×Rat))(y:Rat):above ls y<=ls.length:=zzU _ _
abbrev Seg:=Rat×Rat×(Rat×Rat)
def zX(ls:ai (Rat×Rat))(l o:Rat×Rat):Prop:=o∈ls/\l.2<o.2/\mt l o<1/\∀o'∈ls,l.2<o'.2->Be l o o'
def DH(ls:ai (Rat×Rat))(l:Rat×Rat):Prop:=∀o∈ls,l.2<o.2->¬mt l o<1
def qz(ls:ai (Rat×Rat)):Rat->Rat×Rat->ai Seg->Prop
 |_,_,[]=>False|x,l,r::rs=>r.1=x/\r.2.2=l/\((rs=[]/\r.2.1=1/\DH ls l)∨∃o,zX ls l o/\r.2.1=mt l o/\qz ls (mt l o) o rs)
def segD(ls:ai (Rat×Rat))(s:Seg):D:=.tup [ratQ s.1,ratQ s.2.1,.lst ((hsOf ls s.2.2 ls.length).map D.int)]
structure Told(ls:List (Rat×Rat))(rs:List Seg):Prop where
 c:∃l0,l0∈ls/\(∀o∈ls,Le1 o l0)/\qz ls 0 l0 rs
 n:rs.length <= 10
def gStr:DSp:=λds Q=>∃ls:ai (Rat×Rat),ds=[eE ls]/\ls≠[]/\ls.length<=6/\(∀l∈ls,Ln l)/\∀rs,Told ls rs->Q (.lst (rs.map (segD ls)))
theorem sX(T:Tx K mg):T.tK.Ok P w base CX0 5 (spD K 1 gStr):=by
 refine fnd ["lines","told","low","line","step"] (λJ _=>(ac (dow 1 (bW cB)) (ac (dse 2 (ay (aa ad (da1 ad)))) (ac (dse 3 (dcl (qx T) J (a1 0))) (ac (dse 4 (dcl (kU T) J (a2 0 3))) (aw (gu (aj nB (dv 4) dX) (ac (eU (pv 1) (ay (aa (dv 2) (aa (dx 4) (da1 (dcl (kT T) J (a2 0 3))))))) (ac (dse 2 (dx 4)) (ac (dse 3 (dx 4)) (ag (dse 4 (dcl (kU T) J (a2 0 3)))))))) (ac (eU (pv 1) (ay (aa (dv 2) (aa (ay (aa ad (da1 ad))) (da1 (dcl (kT T) J (a2 0 3))))))) (dr (dv 1))))))))) (λds Q hl h=>?_);obtain⟨ls,rfl,ne,H,ok,h⟩:=h;refine⟨sz,sz,rfl,ls,rfl,ne,ok,λj Y v=>?_⟩;refine⟨rfl,ls,j,rfl,ok,ok j Y,λc u=>?_⟩;have M:∀(fr:ai Seg) (s:Seg),(fr++[s]).map (segD ls)=fr.map (segD ls)++[segD ls s]:=λfr s=>by rw[zzs];rfl
 have lf:∀fr:ai Seg,fr.length<=6->(fr.map (segD ls)).length<sizeLine:=λfr n=>by rw[zza];exact zzz n (by decide)
 refine⟨λC=>∃(fr:ai Seg) (l:Rat×Rat) (x:Rat) (d:D),fr.length<=6/\DH ls l/\(∀rs,qz ls x l rs->qz ls 0 j (fr++rs))/\C=[.val (eE ls),.own (fr.map (segD ls)),.val (ratQ x),.val (aS l),.val d],?_,?_⟩
 ·refine eu (λC=>∃(fr:ai Seg) (l:Rat×Rat) (x:Rat) (d:D),fr.length+above ls l.2<=6/\(∀rs,qz ls x l rs->qz ls 0 j (fr++rs))/\Stp ls ls l d/\C=[.val (eE ls),.own (fr.map (segD ls)),.val (ratQ x),.val (aS l),.val d]) (λC=>above ls (kW (slot C 3))) (λC X k m=>?_) _ ⟨[],j,0,c,by have:=Cn ls j.2;simp;lia,λrs h=>h,u,rfl⟩;obtain⟨fr,l,x,d,I,E,hs,rfl⟩:=k;rcases hs with ⟨e,G⟩|⟨o,U,os,q,e,p⟩
  ·subst e;exact Br.f ⟨fr,l,x,_,by lia,G,E,rfl⟩
  ·subst e;have a:=Cm U os;have i:kW (.val (aS l))=l.2:=self l.2;have g:kW (.val (aS o))=o.2:=self o.2;refine Br.t ⟨trivial,rfl,ls,l,rfl,H,sz,lf fr (by lia),?_⟩;refine⟨rfl,ls,o,rfl,ok,ok o U,λb r=>?_⟩;refine m _ ⟨fr++[(x,mt l o,l)],o,mt l o,b,?_,λrs J=>?_,r,?_⟩ ?_
   ·rw[zzm,zzN];lia
   ·rw[zyF];exact E _ ⟨rfl,rfl,.inr ⟨o,⟨U,os,q,p⟩,rfl,J⟩⟩
   ·rw[M];rfl
   ·show above ls (kW (.val (aS o)))<above ls (kW (.val (aS l)));rw[i,g];exact a
 ·rintro _ ⟨fr,l,x,d,I,G,E,rfl⟩;refine⟨trivial,sz,rfl,ls,l,rfl,H,sz,lf fr I,?_⟩;have:=h (fr++[(x,1,l)]) ⟨⟨j,Y,v,E _ ⟨rfl,rfl,.inl ⟨rfl,rfl,G⟩⟩⟩,by rw[zzm,zzN];lia⟩;rw[M]at this;exact this
def lsO(m:Nat)(t:ai Row)(ws os:ai Int):ai (Rat×Rat):=(List.range m).map (stL t ws os)
def gFs:DSp:=λds Q=>∃(n:Nat) (t:ai Row) (ws os:ai Int),ds=[.lst (t.map rowD),wsD ws,wsD os]/\T64 n t/\Wt t.length ws/\Wt t.length os/\∀rs,Told (lsO n t ws os) rs->Q (.lst (rs.map (segD (lsO n t ws os))))
theorem vA(T:Tx K mg):T.CC.Ok P w base CX0 13 (spD K 3 gFs):=by
 refine fnd ["table","weights","others","houses"] (λJ _=>(ac (aY (dcl (cI T) J (a2 0 1))) (ac (aY (dcl (cI T) J (a2 0 2))) (ac (dse 3 (ff (Bz rfl rfl T.vH rfl T.dm (da1 (dcl (bA T) J (a1 0)))))) (ac (aY (dcl (on T) J (aa (dv 0) (a3 3 1 2)))) (dr (dcl (sX T) J (da1 (dfc (ao ["house","table","weights","others"] [none,some 0,some 1,some 2] rfl (ar (dv 3)) (dgb 0) au (dcl (zV T) J (aa (dv 1) (a3 0 2 3))))))))))))) (λds Q U h=>?_);obtain⟨n,t,ws,os,rfl,o,w,u,h⟩:=h;have E:=o.n6;have n2:=o.n2;refine⟨rfl,t.map rowD,ws,rfl,by rw[zza];exact w,by rw[zza];exact o.l6,?_⟩;refine⟨rfl,t.map rowD,os,rfl,by rw[zza];exact u,by rw[zza];exact o.l6,?_⟩;refine⟨rfl,bT o.o ⟨⟨by lia,by lia⟩,?_⟩⟩;have H:eX 0 ((n:Int)).toNat=((List.range n).map λ(i:Nat)=>(i:Int)).map D.int:=by rw[zzG,Cd,zzk];rfl
 rw[H];refine⟨rfl,n,t,(List.range n).map λ(i:Nat)=>(i:Int),ws,os,rfl,o,λk e=>?_,w,u,?_⟩
 ·obtain⟨i,C,rfl⟩:=zzc.mp e;have:=zzB.mp C;lia
 refine bc (λd=>match d with|.int i=>aS (stL t ws os i.toNat)|_=>.non) (λG=>∃a:Sl,G=[a,.val (.lst (t.map rowD)),.val (wsD ws),.val (wsD os)]) (by rw[zza,zza,zzK];exact zzo E (by decide)) (λd hd G Y Z M b=>?_) _ ⟨_,rfl⟩ ?_
 ·obtain⟨a,rfl⟩:=M;obtain⟨i,C,rfl⟩:=zzc.mp hd;obtain⟨j,c,rfl⟩:=zzc.mp C;have:=zzB.mp c;exact Br.t ⟨rfl,n,t,j,ws,os,rfl,o,⟨by lia,by lia⟩,w,u,b _ ⟨_,rfl⟩⟩
 ·have I:(((List.range n).map λ(i:Nat)=>(i:Int)).map D.int).map (λd=>match d with|.int i=>aS (stL t ws os i.toNat)|_=>.non)=(lsO n t ws os).map aS:=by
   unfold lsO;rw[zzk,zzk,zzk];rfl
  rw[I];refine⟨rfl,lsO n t ws os,rfl,?_,by unfold lsO;rw[zza,zzK];exact E,λl U=>?_,h⟩
  ·intro z;have:=congrArg List.length z;unfold lsO at this;rw[zza,zzK]at this;simp at this;lia
  ·obtain⟨i,C,rfl⟩:=zzc.mp U;exact Jr o w u (zzB.mp C)
def SA(n:Nat)(z:Int)(t t':ai Row)(hs:ai Int):Prop:=∀a b:Int,0<=a->a<n->0<=b->b<n->Sc z t t' a.toNat b.toNat (gi hs a).toNat (gi hs b).toNat
theorem zY(m:∀l,l∈ls↔l∈ls'){l o o':Rat×Rat}(h:zX ls l o)(k:zX ls' l o'):o=o':=by
 have E:=h.2.2.2 o' ((m o').mpr k.1) k.2.1;have G:=k.2.2.2 o ((m o).mp h.1) h.2.1;have e:mt l o=mt l o'/\o.2=o'.2:=by
  unfold Be at E G
  grind
 obtain⟨j,C⟩:=e;have p:o'.2 - l.2≠0:=by have:=k.2.1;grind
 have J:o.1=o'.1:=by
  unfold mt at j;rw[C]at j;have:=congrArg (· * (o'.2 - l.2)) j;have a:∀x:Rat,x / (o'.2 - l.2)*(o'.2 - l.2)=x:=λx=>Rat.div_mul_cancel p;have this:(l.1 - o.1) / (o'.2 - l.2)*(o'.2 - l.2)=(l.1 - o'.1) / (o'.2 - l.2)*(o'.2 - l.2):=this;rw[a,a]at this
  grind
 exact Prod.ext J C
theorem mC{ls ls':ai (Rat×Rat)}(m:∀l,l∈ls↔l∈ls'):∀{rs E:ai Seg} {x:Rat} {l:Rat×Rat},qz ls x l rs->qz ls' x l E->rs=E
 |[],_,_,_,h,_=>h.elim|_::_,[],_,_,_,h=>h.elim|(g,b,d)::rs,(i,c,a)::E,x,l,h,k=>by
  obtain⟨G,H,h⟩:=h;obtain⟨M,T,k⟩:=k;have G:g=x:=G;have H:d=l:=H;have M:i=x:=M;have T:a=l:=T;subst G H M T;rcases h with ⟨j,Y,I⟩|⟨o,j,Y,I⟩
  ·have Y:b=1:=Y;rcases k with ⟨U,J,C⟩|⟨o,U,J,C⟩
   ·have J:c=1:=J;subst j Y U J;rfl
   ·exact(I o ((m o).mpr U.1) U.2.1 U.2.2.1).elim
  ·have Y:b=mt a o:=Y;rcases k with ⟨U,J,C⟩|⟨o',U,J,C⟩
   ·exact(C o ((m o).mp j.1) j.2.1 j.2.2.1).elim
   ·have J:c=mt a o':=J;have e:=zY m j U;subst e Y J;rw[mC m I C]
theorem zZ(m:∀l,l∈ls↔l∈ls'){rs J:ai Seg}(h:Told ls rs)(k:Told ls' J):rs=J:=by
 obtain⟨l,j,C,E⟩:=h.c;obtain⟨l',G,U,Y⟩:=k.c;have a:=C l' ((m l').mpr G);have b:=U l ((m l).mp j);have e:l=l':=by unfold Le1 at a b;exact Prod.ext (by grind) (by grind)
 subst e;exact mC m E Y
theorem hs_mem{l:Rat×Rat}{k:Int}:k∈hsOf ls l ls.length↔0<=k/\k.toNat<ls.length/\ls.getD k.toNat (0,0)=l:=by
 unfold hsOf;constructor
 ·intro h;obtain⟨i,j,rfl⟩:=zzc.mp h;obtain⟨a,b⟩:=zzu.mp j;exact⟨by lia,by rw[zzG];exact zzB.mp a,by rw[zzG];exact zzQ b⟩
 ·rintro⟨a,b,c⟩;exact zzc.mpr ⟨k.toNat,zzu.mpr ⟨zzB.mpr b,zzJ c⟩,by lia⟩
theorem Js(ls:ai (Rat×Rat))(l:Rat×Rat)(n:Nat):(hsOf ls l n).Pairwise (· < ·):=by unfold hsOf;rw[zyO];exact(List.pairwise_lt_range.filter _).imp λh=>by lia
theorem Co(h:A.Pairwise (· < ·)):A.Nodup:=h.imp λh e=>by lia
theorem Gd(h:A.Pairwise (· < ·)):A.Pairwise (·<=·):=h.imp λh=>by lia
theorem ou{C:ai Int}(o:Ord n hs)(a:A.Nodup)(J:∀x∈A,0<=x/\x<n)(b:ws.Pairwise (· < ·))(h:∀y,y∈ws↔∃x∈A,gi hs x=y)(p:C.Perm (A.map (gi hs)))(s:C.Pairwise (·<=·)):C=ws:=by
 have j:(A.map (gi hs)).Nodup:=by unfold List.Nodup at *;rw[zyO];exact zwl (λU Y ne e=>ne (o.inj (J _ U).1 (J _ U).2 (J _ Y).1 (J _ Y).2 e)) a
 have q:C.Perm ws:=p.trans ((List.perm_ext_iff_of_nodup j (Co b)).mpr λy=>by rw[h y,zzc]);exact q.eq_of_pairwise (λx y _ _ u v=>by lia) s (Gd b)
section
variable{t t':ai Row}
theorem SA.len(s:SA n z t t' hs)(n2:2<=n):t'.length=t.length:=(s 0 0 (by lia) (by lia) (by lia) (by lia)).len
theorem SA.st(s:SA n z t t' hs)(C:2<=n){h:Int}(h0:0<=h)(j:h<n)(ws:ai Int):My.st t' ws (gi hs h).toNat=My.st t ws h.toNat:=by unfold My.st;rw[s.len C];refine dl λi _=>?_;rw[(s h h h0 j h0 j).sh i]
theorem SA.line(s:SA n z t t' hs)(C:2<=n){h:Int}(h0:0<=h)(j:h<n)(ws os:ai Int):stL t' ws os (gi hs h).toNat=stL t ws os h.toNat:=by unfold stL;rw[s.st C h0 j,s.st C h0 j]
theorem Jt{t:ai Row}(j:i<n):(lsO n t ws A).getD i (0,0)=stL t ws A i:=by unfold lsO;rw[zze,zzl,zzW j];rfl
theorem mD{t:ai Row}:(lsO n t ws A).length=n:=by unfold lsO;rw[zza,zzK]
theorem SA.mem(s:SA n z t t' hs)(o:Ord n hs)(E:2<=n)(ws os:ai Int)(l:Rat×Rat):l∈lsO n t ws os↔l∈lsO n t' ws os:=by
 unfold lsO;constructor
 ·intro h;obtain⟨i,C,rfl⟩:=zzc.mp h;have C:=zzB.mp C;obtain⟨_,g0,g1⟩:=o.at (i:=(i:Int)) (by lia) (by lia);exact zzc.mpr ⟨(gi hs i).toNat,zzB.mpr (by lia),s.line E (by lia) (by lia) ws os⟩
 ·intro h;obtain⟨i,C,rfl⟩:=zzc.mp h;have C:=zzB.mp C;obtain⟨j,J,U,e⟩:=o.surj (x:=(i:Int)) (by lia) (by lia);have:=s.line E J U ws os;rw[e,zzG]at this;exact zzc.mpr ⟨j.toNat,zzB.mpr (by lia),this.symm⟩
theorem SA.best(s:SA n z t t' hs)(o:Ord n hs)(E:2<=n){l:Rat×Rat}{C:ai Int}(p:C.Perm ((hsOf (lsO n t ws A) l (lsO n t ws A).length).map (gi hs)))(c:C.Pairwise (·<=·)):C=hsOf (lsO n t' ws A) l (lsO n t' ws A).length:=by
 refine ou o (Co (Js _ _ _)) (λx J=>?_) (Js _ _ _) (λy=>?_) p c
 ·obtain⟨a,b,_⟩:=hs_mem.mp J;rw[mD]at b;lia
 ·rw[hs_mem,mD];constructor
  ·rintro⟨I,y1,e⟩;obtain⟨j,Y,H,U⟩:=o.surj I (by lia);refine⟨j,hs_mem.mpr ⟨Y,by rw[mD];lia,?_⟩,U⟩;rw[Jt (by lia)]at e ⊢;rw[←e,←U];exact(s.line E Y H ws A).symm
  ·rintro⟨x,J,rfl⟩;obtain⟨a,b,e⟩:=hs_mem.mp J;rw[mD]at b;obtain⟨_,G,g1⟩:=o.at a (by lia);refine⟨G,by lia,?_⟩;rw[Jt (by lia)]at e ⊢;rw[←e];exact s.line E a (by lia) ws A
theorem SA.std(s:SA n z t t' hs)(o:Ord n hs)(C:2<=n)(ws:ai Int):(hs.map λx=>ratQ (My.st t' ws x.toNat))=(List.range n).map λi=>ratQ (My.st t ws i):=by rw[kL (0:Int),o.len];refine zzF λi j=>?_;have j:=zzB.mp j;have:=s.st C (h:=(i:Int)) (by lia) (by lia) ws;rw[zzG]at this;rw[←this];rfl
end
theorem Cp(qs:ai Rat):shp (.lst (qs.map ratQ))=true:=Shp.shp (n:=2) (.lst λd hd=>by obtain⟨k,_,rfl⟩:=zzc.mp hd;exact .pair)
theorem oz(ls:ai (Rat×Rat))(rs:ai Seg):shp (.lst (rs.map (segD ls)))=true:=Shp.shp (n:=3) (.lst λd hd=>by
 obtain⟨k,_,rfl⟩:=zzc.mp hd;exact .tup (alC .pair (alC .pair (al1 (.lst λd hd=>by obtain⟨k,_,rfl⟩:=zzc.mp hd;exact .int)))))
theorem Ju{x:Int}(len:ws.length=n)(b:∀w∈ws,0<=w/\w<=4)(C:i<n)(x0:0<x)(x1:x<=4):Wt n (ws.set i x):=by
 have J:∀w∈ws.set i x,0<=w/\w<=4:=λw j=>by
  rcases zwe j with h|h
  ·exact b w h
  ·lia
 have E:∀{l:ai Int},(∀w∈l,0<=w)->0<=l.sum/\∀w∈l,w<=l.sum:=λ{l} h=>by
  induction l with
  |nil=>simp|cons a l Y =>
   obtain⟨i0,U⟩:=Y λw j=>h w (zzf _ j);have a0:=h a zzd;rw[zzE];refine⟨by lia,λw j=>?_⟩;rcases zzr.mp j with rfl|j
   ·lia
   ·have:=U w j;lia
 have m:x∈ws.set i x:=List.mem_set (by rw[len];exact C) _;have:=(E λw j=>(J w j).1).2 x m;refine⟨by rw[zwM,len],λw j=>?_,by lia⟩;have:=J w j;lia
theorem kX(C:Int->Prop){xs:ai D}{Q:ai D->Prop}(hl:xs.length<=6)(hs:∀(s:Sl) (Y:D->DS->Prop),(∀u:Int,C u->Y (.int u) [s,.val .pen])->te [s,.val .pen] Y)(H:∀ws:ai Int,ws.length=xs.length->(∀w∈ws,C w)->Q (ws.map D.int))(s:Sl):cq (bX 0) bF te xs [] [s,.val .pen] Q:=by
 refine aA (λpre J G=>∃ws:ai Int,J=ws.map D.int/\ws.length=pre.length/\(∀w∈ws,C w)/\∃s:Sl,G=[s,.val .pen]) (λJ G j=>?_) (λpre d post J G Y e j U=>?_) _ ⟨[],rfl,rfl,λw E=>by simp at E,_,rfl⟩
 ·obtain⟨ws,rfl,a,b,_⟩:=j;exact H ws a b
 ·obtain⟨ws,rfl,a,b,s,rfl⟩:=j;refine Br.t (hs _ _ λu I=>⟨?_,U _ _ ⟨ws++[u],by rw[zzs];rfl,by rw[zzm,zzm,a];rfl,λw E=>?_,_,rfl⟩⟩)
  ·have:=congrArg List.length e;rw[zzm,zzI]at this;rw[zza,a];exact zzz (show pre.length<=6 by lia) (by decide)
  ·rcases zzx.mp E with h|h
   ·exact b w h
   ·rw[zzy.mp h];exact I
def gWy:DSp:=λds Q=>∃(n:Nat) (t t':ai Row) (hs:ai Int) (z:Int),ds=[.pen,.lst (t.map rowD),.lst (t'.map rowD),.lst (hs.map D.int)]/\Ord n hs/\T64 n t/\T64 n t'/\SA n z t t' hs/\Q (.bl true)
theorem iA(T:Tx K mg):T.iD.Ok P w base CX0 14 (spD K 4 gWy):=by
 refine fnd ["_law_pen_here","_law_table","_law_beyond","_law_houses","_law_weights","_law_others","_law_one","_law_other","_law_due","_law_low","_law_high","_law_best"] (λG _=>(ac (yJ 4 (ao ["_law_part","_law_pen_here"] [none,some 0] rfl (ar (dv 1)) (dgb 0) au (dcl (aD T) G (aa (dv 1) (da1 ad))))) (ac (yJ 5 (ao ["_law_part","_law_pen_here"] [none,some 0] rfl (ar (dv 1)) (dgb 0) au (dcl (aD T) G (aa (dv 1) (da1 ad))))) (ac (fS ad (lS (pv 4) (dcl (aD T) G (aa (dv 0) (da1 (dln aV T.bO (dv 1))))))) (ac (fS ad (lS (pv 5) (dcl (aD T) G (aa (dv 0) (da1 (dln aV T.bO (dv 1))))))) (ac (dse 6 (dcl (mz T) G (a2 1 4))) (ac (dse 7 (dcl (mz T) G (a2 2 4))) (ac (dir (aj (fF G) (dfc (ao ["_law_house","_law_other"] [none,some 7] rfl (ar (dv 3)) (dgb 0) au (dix (dv 1) (dv 0)))) (dv 6)) gt) (ac (dow 8 (bW cB)) (aw (aM (ar (dcl (vA T) G (a3 1 4 5))) (dgt 3 (cQ (dgn 9) (cQ (dgn 10) (cQ (dgn 11) rL)))) (ag (eU (pv 8) (ay (aa (dv 9) (aa (dv 10) (da1 (aC nJ T.eT (by decide +kernel) (da1 (dfc (ao ["_law_house","_law_houses"] [none,some 3] rfl (ar (dv 11)) (dgb 0) au (dix (dv 1) (dv 0))))))))))))) (dr (jQ (bZ G) (dcl (vA T) G (a3 2 4 5)) (dv 8))))))))))))) (λds Q hl h=>?_);obtain⟨n,t,t',hs,z,rfl,k,o,o',s,h⟩:=h;have l6:=o.l6;have A:=o.n2;have N:=s.len A;have l1:1<=t.length:=o.o.p1;refine kX (λw=>0<=w/\w<=4) (by rw[zza];exact l6) (λa Y I=>⟨rfl,⟨by lia,by lia⟩,λu m u1=>I u ⟨m,by lia⟩⟩) (λws wl wb=>?_) _;refine kX (λw=>0<=w/\w<=4) (by rw[zza];exact l6) (λa Y I=>⟨rfl,⟨by lia,by lia⟩,λu m u1=>I u ⟨m,by lia⟩⟩) (λos ol ob=>?_) _;rw[zza]at wl ol;refine⟨trivial,rfl,⟨by rw[zza];lia,by rw[zza];lia⟩,λu m u1=>?_⟩;rw[zza]at u1;refine⟨u.toNat,lT m (by rw[zza];lia),?_⟩;refine⟨trivial,rfl,⟨by rw[zza];lia,by rw[zza];lia⟩,λv v0 v1=>?_⟩;rw[zza]at v1;refine⟨v.toNat,lT v0 (by rw[zza];lia),?_⟩;have w:Wt t.length (ws.set u.toNat 3):=Ju wl wb (by lia) (by decide) (by decide);have x:Wt t.length (os.set v.toNat 2):=Ju ol ob (by lia) (by decide) (by decide);have E:(ws.map D.int).set u.toNat (.int 3)=(ws.set u.toNat 3).map D.int:=by rw[zwS]
 have q:(os.map D.int).set v.toNat (.int 2)=(os.set v.toNat 2).map D.int:=by rw[zwS]
 generalize ws.set u.toNat 3=ws at w E;generalize os.set v.toNat 2=os at x q;show wd _ [_,_,_,_,.own ((_:ai D).set _ _),.own ((_:ai D).set _ _),_,_,_,_,_,_];rw[E,q];refine⟨rfl,n,t,ws,rfl,o,w,?_⟩;refine⟨rfl,n,t',ws,rfl,o',by rw[N];exact w,?_⟩;refine bc (λd=>match d with|.int i=>ratQ (st t' ws i.toNat)|_=>.non) (λj=>∃a:Sl,j=[a,.val (.lst ((List.range n).map λi=>ratQ (st t' ws i)))]) (by rw[zza,k.len];exact zzo o.n6 (by decide)) (λd hd j Y Z H I=>?_) _ ⟨_,rfl⟩ ?_
 ·obtain⟨a,rfl⟩:=H;obtain⟨i,L,rfl⟩:=zzc.mp hd;have hb:=k.it i L;refine Br.t (bR hb.1 ?_ (I _ ⟨_,rfl⟩));rw[zzl,zzW (by lia)];rfl
 ·have e3:(hs.map D.int).map (λd=>match d with|.int i=>ratQ (st t' ws i.toNat)|_=>.non)=(List.range n).map λi=>ratQ (st t ws i):=by
   rw[←s.std k A ws,zzk];rfl
  have sr:shp (.lst ((List.range n).map λi=>ratQ (st t ws i)))=true:=by have:=Cp ((List.range n).map (st t ws));rwa [zzk]at this
  rw[e3];refine⟨⟨sr,sr⟩,lx rfl sr ?_⟩;refine⟨sz,?_⟩;refine⟨λj=>∃rs,Told (lsO n t ws os) rs/\∃M b g J U:Sl,j=[.val .pen,.val (.lst (t.map rowD)),.val (.lst (t'.map rowD)),.val (.lst (hs.map D.int)),.val (wsD ws),.val (wsD os),M,b,.own (rs.map (segD (lsO n t' ws os))),g,J,U],?_,?_⟩
  ·refine⟨rfl,n,t,ws,os,rfl,o,w,x,λrs y=>?_⟩;refine aN (λpre j=>∃r0 l:ai Seg,rs=r0++l/\pre=r0.map (segD (lsO n t ws os))/\∃M b g J U:Sl,j=[.val .pen,.val (.lst (t.map rowD)),.val (.lst (t'.map rowD)),.val (.lst (hs.map D.int)),.val (wsD ws),.val (wsD os),M,b,.own (r0.map (segD (lsO n t' ws os))),g,J,U]) (λj H=>?_) (λpre d post j X e H hX=>?_) _ ⟨[],rs,rfl,rfl,_,_,_,_,_,rfl⟩
   ·obtain⟨r0,l,E,q,M,b,g,J,U,rfl⟩:=H;have E:=eV E q;subst E;exact⟨rs,y,_,_,_,_,_,rfl⟩
   ·obtain⟨r0,l,E,rfl,M,b,g,J,U,rfl⟩:=H;obtain⟨r,l,rfl,rfl⟩:=dg E e;have rl:=y.n;rw[E,zzm,zzI]at rl;have a4:(hsOf (lsO n t ws os) r.2.2 (lsO n t ws os).length).length<=n:=zzo (DF _ _ _) (Nat.le_of_eq mD);have n6:=o.n6;refine⟨rfl,trivial,?_⟩;refine bc (λd=>match d with|.int i=>.int (gi hs i)|_=>.non) (λj=>∃a:Sl,j=[a,.val (.lst (hs.map D.int))]) (by rw[zza];exact zzo a4 (zzo n6 (by decide))) (λd hd j Y Z H I=>?_) _ ⟨_,rfl⟩ ?_
    ·obtain⟨a,rfl⟩:=H;obtain⟨i,L,rfl⟩:=zzc.mp hd;obtain⟨h1,h2,_⟩:=hs_mem.mp L;rw[mD]at h2;exact Br.t (cw k h1 (by lia) (I _ ⟨_,rfl⟩))
    ·refine⟨(hsOf (lsO n t ws os) r.2.2 (lsO n t ws os).length).map (gi hs),by rw[zzk,zzk];rfl,by rw[zza];lia,λC p c=>?_⟩;rw[s.best k A p c];refine⟨sz,?_,?_⟩
     ·rw[zza];exact zzz (show r0.length<=10 by lia) (by decide)
     ·refine hX _ ⟨r0++[r],l,by rw[E];simp,by rw[zzs];rfl,?_⟩;rw[zzs];exact⟨_,_,_,_,_,rfl⟩
  ·rintro _ ⟨rs,y,M,b,g,J,U,rfl⟩;refine⟨rfl,n,t',ws,os,rfl,o',by rw[N];exact w,by rw[N];exact x,λrs' a0=>?_⟩;have er:=zZ (s.mem k A ws os) y a0;subst er;refine⟨⟨oz _ _,oz _ _⟩,?_⟩;rw[gz (oz _ _)];exact h
theorem jq{g:DG}{l:ai α}{Q:ai D->Prop}(F G:α->D)(N:DS->Prop)(hl:l.length<=1000)(hs:∀i∈l,∀(j:DS) (Y:D->DS->Prop) (Z:DS->Prop),N j->(∀C,N (bU C)->Y (G i) C)->g (F i) j λI=>bF I λb H=>Br b (te H Y) (Z H))(j:DS)(h:N j)(a:Q (l.map G)):cq g bF te (l.map F) [] j Q:=by
 refine aA (λpre J j=>J=(l.take pre.length).map G/\N j) (λJ j E=>by rw[E.1,zza,zxE];exact a) (λpre d post J j Y e E T=>?_) _ ⟨rfl,h⟩;obtain⟨rfl,E⟩:=E;have U:(l.map F)[pre.length]?=some d:=by rw[e,zzM (zzn _),zyY];rfl
 have lt:pre.length<l.length:=by have:=(zzt.mp U).1;simpa using this
 rw[zzl,zzp lt]at U;have U:F l[pre.length]=d:=by simpa using U
 rw[←U];have c:l.take (pre.length+1)=l.take pre.length++[l[pre.length]]:=(List.take_append_getElem lt).symm;refine hs l[pre.length] (zyL lt) j _ _ E λC M=>⟨?_,T _ _ ⟨?_,M⟩⟩
 ·rw[zza,zyK];exact zzz (show min pre.length l.length<=1000 by lia) (by decide)
 ·rw[zzm,zzN,c,zzs];rfl
theorem vB{g:DG}{a:DT}{l:ai α}{Q:ai D->Prop}(F G:α->D)(p:α->Bool)(N:DS->Prop)(hl:l.length<=1000)(hs:∀i∈l,∀(C:DS) (Y:D->DS->Prop) (Z:DS->Prop),N C->(p i=true->∀j,N (bU j)->Y (G i) j)->(p i=false->∀j,N (bU j)->Z j)->g (F i) C λc=>a c λb I=>Br b (te I Y) (Z I))(C:DS)(h:N C)(m:Q ((l.filter p).map G)):cq g a te (l.map F) [] C Q:=by
 refine aA (λpre J C=>J=((l.take pre.length).filter p).map G/\N C) (λJ C E=>by rw[E.1,zza,zxE];exact m) (λpre d post J C Y e E T=>?_) _ ⟨rfl,h⟩;obtain⟨rfl,E⟩:=E;have H:(l.map F)[pre.length]?=some d:=by rw[e,zzM (zzn _),zyY];rfl
 have lt:pre.length<l.length:=by have:=(zzt.mp H).1;simpa using this
 rw[zzl,zzp lt]at H;have k:F l[pre.length]=d:=by simpa using H
 subst k;have M:l.take (pre++[F l[pre.length]]).length=l.take pre.length++[l[pre.length]]:=by rw[zzm,zzN,List.take_succ_eq_append_getElem lt]
 have n:(((l.take pre.length).filter p).map G).length<=1000:=by rw[zza];exact zzo (zzU _ _) (by rw[zyK];lia)
 refine hs _ (zyL lt) C _ _ E (λz j U=>⟨zzz n (by decide),T _ _ ⟨?_,U⟩⟩) (λz j U=>T _ _ ⟨?_,U⟩)
 ·rw[M,zyA,zyp z,zzs];rfl
 ·rw[M,zyA,zyq (by rw[z];exact zzL)];simp
def qR(cs:Row)(i:Nat):Rat:=((at_ cs i).2:Rat) / ((at_ cs i).1:Rat)
theorem Aa{a c d:Int}(j:0<b)(hd:0<d):((a:Rat) / b<(c:Rat) / d)↔a*d<c*b:=by
 have J:(0:Rat)<b:=by exact_mod_cast j
 have U:(0:Rat)<d:=by exact_mod_cast hd
 rw[Rat.div_lt_iff J];have e:(c:Rat) / d*b=(c*b) / d:=by rw[zyi,zyi];grind
 rw[e,Rat.lt_div_iff U];rw[←zzP,←zzP,Rat.intCast_lt_intCast]
theorem Jv{cs:Row}(j:0<(at_ cs i).1)(J:0<(at_ cs n).1):eqD (cC (at_ cs i).1 (at_ cs i).2 (at_ cs n).1 (at_ cs n).2) (.int 1)=decide (qR cs n<qR cs i):=by
 unfold cC qR;rw[zzg (by lia)];have e:=Aa (a:=(at_ cs n).2) (c:=(at_ cs i).2) J j;by_cases z:(at_ cs i).1*(at_ cs n).2<(at_ cs i).2*(at_ cs n).1
 ·rw[zzi z,zzJ (e.mpr (by rw[zyX];exact z))];rfl
 ·rw[zzg z,zyk λq=>z (by have:=e.mp q;rw[zyX]at this;exact this)];split<;>rfl
theorem Jw{cs:Row}(E:0<(at_ cs i).1)(U:0<(at_ cs n).1):eqD (cC (at_ cs i).1 (at_ cs i).2 (at_ cs n).1 (at_ cs n).2) (.int 0)=decide (qR cs i=qR cs n):=by
 unfold cC;rw[zzg (by lia)];have j:=Aa (a:=(at_ cs n).2) (c:=(at_ cs i).2) U E;have C:=Aa (a:=(at_ cs i).2) (c:=(at_ cs n).2) E U;by_cases z:(at_ cs i).1*(at_ cs n).2<(at_ cs i).2*(at_ cs n).1
 ·have:=j.mpr (by rw[zyX];exact z);rw[zzi z,zyk λq=>by unfold qR at q;rw[q]at this;exact absurd this (by grind)];rfl
 ·rw[zzg z];by_cases J:(at_ cs i).2*(at_ cs n).1<(at_ cs i).1*(at_ cs n).2
  ·have:=C.mpr (by rw[zyX (at_ cs n).2];exact J);rw[zzi J,zyk λq=>by unfold qR at q;rw[q]at this;exact absurd this (by grind)];rfl
  ·rw[zzg J];have n1:¬((at_ cs n).2:Rat) / ((at_ cs n).1:Rat)<((at_ cs i).2:Rat) / ((at_ cs i).1:Rat):=λq=>z (by have:=j.mp q;rw[zyX]at this;exact this);have n2:¬((at_ cs i).2:Rat) / ((at_ cs i).1:Rat)<((at_ cs n).2:Rat) / ((at_ cs n).1:Rat):=λq=>J (by have:=C.mp q;rw[zyX (at_ cs n).2]at this;exact this);have:qR cs i=qR cs n:=by unfold qR;grind
   rw[zzJ this];rfl
inductive Rk(q:Nat->Rat):List Nat->List (List Nat)->Prop
 |nil:Rk q [] []
 |cons {left:List Nat} {f:Nat} {gs:List (List Nat)}:f∈left->(∀h∈left,q h <= q f)->Rk q (left.filter λh=>decide (q h≠q f)) gs->Rk q left ((left.filter λh=>decide (q h=q f))::gs)
def natD(i:Nat):D:=.int (i:Int)
def grpD(g:ai Nat):D:=.lst (g.map natD)
def tri(cs:Row):ai Nat:=(List.range cs.length).filter λi=>decide (0<(at_ cs i).1)
def gRk:DSp:=λds Q=>∃(m:Nat) (cs:Row),ds=[rowD cs]/\(m<=6/\RowN 200 m cs)/\∀gs,Rk (qR cs) (tri cs) gs->Q (.lst (gs.map grpD))
def muL(ρ:DS):Nat:=match slot ρ 2 with
 |.val (.lst l)=>l.length|_=>0
theorem vC{cs:Row}(o:RowN 200 m cs){i:Nat}(hi:i<m)(q:Q (bi (at_ cs i))):opt (atI (cs.map bi) ((i:Nat):Int)) Q:=by exact dh o (by lia) (by lia) (by rw[zzG];exact q)
theorem DI{cs:Row}(o:RowN 200 m cs)(E:i<m)(J:n<m)(q:Q (cC (at_ cs i).1 (at_ cs i).2 (at_ cs n).1 (at_ cs n).2)):wv [bi (at_ cs i),bi (at_ cs n)] Q:=by have j:=(cD o E).2;have C:=(cD o J).2;exact⟨⟨j.bt.mono (by decide),j.bw.mono (by decide),C.bt.mono (by decide),C.bw.mono (by decide)⟩,q⟩
theorem vD(t w t' J:Int):shp (cC t w t' J)=true:=uM (iy t w t' J)
theorem Ab{cs:Row}(o:RowN 200 m cs){f:Nat}(M:∀i∈g,i<m/\0<(at_ cs i).1)(ll:g.length<=6)(hf:f<m/\0<(at_ cs f).1)(b:Bool){s:Sl}{Q:ai D->Prop}(q:Q ((g.filter λh=>if b=true then decide (qR cs h≠qR cs f) else decide (qR cs h=qR cs f)).map natD)) :
  cq (bX 0) (dB (dOp (gEq b) (Bp 2 wv (bD (dOp gIx (dVar 1) (dVar 0)) (bD (dOp gIx (dVar 1) (dVar 2)) fQ))) (dC (D.int 0)))) (dVar 0) (g.map natD) [] [s,.val (rowD cs),.val (natD f)] Q:=by
 refine vB natD natD (λh=>if b=true then decide (qR cs h≠qR cs f) else decide (qR cs h=qR cs f)) (λj=>∃s,j=[s,.val (rowD cs),.val (natD f)]) (by lia) (λi I j Y Z E G H=>?_) _ ⟨_,rfl⟩ q;obtain⟨s,rfl⟩:=E;obtain⟨U,T⟩:=M i I;have C:=Jw T hf.2;have J:∀c:Bool,(if b=true then !eqD (cC (at_ cs i).1 (at_ cs i).2 (at_ cs f).1 (at_ cs f).2) (.int 0) else eqD (cC (at_ cs i).1 (at_ cs i).2 (at_ cs f).1 (at_ cs f).2) (.int 0))=c->(if b=true then decide (qR cs i≠qR cs f) else decide (qR cs i=qR cs f))=c:=λc z=>by
  rw[C]at z;cases b with
  |true =>
   rw[zzi rfl]at z ⊢;rw[←z];by_cases w:qR cs i=qR cs f<;>simp[w]
  |false =>
   rw[zzg zzL]at z ⊢;exact z
 refine vC o U (vC o hf.1 ⟨rfl,DI o U hf.1 ⟨⟨vD _ _ _ _,rfl⟩,λz=>?_,λz=>?_⟩⟩)
 ·exact G (J true z) _ ⟨_,rfl⟩
 ·exact H (J false z) _ ⟨_,rfl⟩
theorem Ac(T:Tx K mg):T.Gn.Ok P w base CX0 2 (spD K 1 gRk):=by
 refine fnd ["counts","told","left","first","house"] (λE _=>(ac (dow 1 (bW cB)) (ac (fg 2 (ao ["house","count"] [none,none] rfl (uD T.aZ (a1 0)) (dg2 0 1) (eN (aj iq (dx 1) ad)) (dv 0))) (aw (gu (aj iq (dln aV T.bO (dv 2)) ad) (ac (dse 3 (dx 2)) (aw (aM (ar (dv 2)) (dgn 4) (ag (dif (aj (bZ E) (dcl (pV T) E (aa (dix (dv 0) (dv 4)) (da1 (dix (dv 0) (dv 3))))) ad) (ag (dse 3 (dv 4)))))) (ac (eU (pv 1) (dfc (ao ["house","counts","first"] [none,some 0,some 3] rfl (ar (dv 2)) (dgb 0) (eN (aj (bZ E) (dcl (pV T) E (aa (dix (dv 1) (dv 0)) (da1 (dix (dv 1) (dv 2))))) ad)) (dv 0)))) (ag (fg 2 (ao ["house","counts","first"] [none,some 0,some 3] rfl (ar (dv 2)) (dgb 0) (eN (aj (fF E) (dcl (pV T) E (aa (dix (dv 1) (dv 0)) (da1 (dix (dv 1) (dv 2))))) ad)) (dv 0)))))))) (dr (dv 1)))))) (λds Q hl h=>?_);obtain⟨m,cs,rfl,⟨m6,n⟩,h⟩:=h;have cl:cs.length=m:=n.1;have tl:(tri cs).length<=6:=zzo (zzU _ _) (by rw[zzK];lia);have tm:∀i∈tri cs,i<m/\0<(at_ cs i).1:=λi s=>by obtain⟨a,b⟩:=zzu.mp s;have:=zzB.mp a;exact⟨by lia,zzQ b⟩
 refine⟨sz,?_⟩;show cq _ _ _ (eA 0 (cs.map bi)) _ _ _;rw[jm bi (0,0)];refine vB (λ(i:Nat)=>D.tup [.int (i:Int),bi (cs.getD i (0,0))]) natD (λi=>decide (0<(at_ cs i).1)) (λC=>∃L N,C=[L,N]) (by rw[zzK];lia) (λi s C Y Z I q hZ=>?_) _ ⟨_,_,rfl⟩ ?_
 ·obtain⟨L,N,rfl⟩:=I;exact⟨rfl,λz=>q z _ ⟨_,_,rfl⟩,λz=>hZ z _ ⟨_,_,rfl⟩⟩
 refine⟨λC=>∃(gs:ai (ai Nat)) (s2 p U:Sl),Rk (qR cs) (tri cs) gs/\C=[.val (rowD cs),.own (gs.map grpD),s2,p,U],?_,?_⟩
 ·refine eu (λC=>∃(left:ai Nat) (done:ai (ai Nat)) (p U:Sl),(∀i∈left,i<m/\0<(at_ cs i).1)/\done.length+left.length<=6/\(∀rest,Rk (qR cs) left rest->Rk (qR cs) (tri cs) (done++rest))/\C=[.val (rowD cs),.own (done.map grpD),.val (.lst (left.map natD)),p,U]) muL (λC X I hX=>?_) _ ⟨tri cs,[],_,_,tm,by simpa using tl,λrest E=>E,rfl⟩;obtain⟨left,done,p,U,l,ll,v,rfl⟩:=I;have el:(((left.map natD).length:Nat):Int)=left.length:=by rw[zza]
  cases J:left with
  |nil =>
   subst J;refine Br.f ⟨done,_,p,U,?_,rfl⟩;have:=v [] .nil;rwa [zyb]at this
  |cons a r =>
   have lp:0<left.length:=by rw[J];simp
   rw[←J];refine Br.dt (by lia) ?_;refine bR (zyu 0) (by rw[J];rfl) ?_;refine⟨λC=>∃(f:Nat) (U:Sl),f∈left/\(∀h∈left,qR cs h<=qR cs f)/\C=[.val (rowD cs),.own (done.map grpD),.val (.lst (left.map natD)),.val (natD f),U],?_,?_⟩
   ·refine aN (λpre C=>∃(M k:ai Nat) (f:Nat) (U:Sl),left=M++k/\pre=M.map natD/\f∈left/\(∀h∈M,qR cs h<=qR cs f)/\C=[.val (rowD cs),.own (done.map grpD),.val (.lst (left.map natD)),.val (natD f),U]) (λC I=>?_) (λpre d post C Y e I q=>?_) _ ⟨[],left,a,_,rfl,rfl,by rw[J];simp,λh j=>by simp at j,rfl⟩
    ·obtain⟨M,k,f,U,G,e2,H,g,rfl⟩:=I;have G:=eV G e2;exact⟨f,U,H,by rw[G];exact g,rfl⟩
    ·obtain⟨M,k,f,U,G,rfl,H,g,rfl⟩:=I;obtain⟨c,k,rfl,rfl⟩:=dg G e;have A:c∈left:=by rw[G];simp
     obtain⟨c1,c2⟩:=l c A;obtain⟨f1,f2⟩:=l f H;have y:=Jv c2 f2;refine vC n c1 (vC n f1 ⟨rfl,DI n c1 f1 ⟨⟨vD _ _ _ _,rfl⟩,λz=>?_,λz=>?_⟩⟩)
     ·have z:eqD (cC (at_ cs c).1 (at_ cs c).2 (at_ cs f).1 (at_ cs f).2) (.int 1)=true:=z;rw[y]at z;have z:=zzQ z;refine q _ ⟨M++[c],k,c,.val (natD c),by rw[G];simp,by simp,A,λh j=>?_,rfl⟩;rcases zzx.mp j with j|j
      ·have:=g h j
       grind
      ·rw[zzy.mp j];exact zyh
     ·have z:eqD (cC (at_ cs c).1 (at_ cs c).2 (at_ cs f).1 (at_ cs f).2) (.int 1)=false:=z;rw[y]at z;have z:=zyT z;refine q _ ⟨M++[c],k,f,.val (natD c),by rw[G];simp,by simp,H,λh j=>?_,rfl⟩;rcases zzx.mp j with j|j
      ·exact g h j
      ·rw[zzy.mp j]
       grind
   ·rintro _ ⟨f,U,H,g,rfl⟩;have u:=l f H;have x:left.length<=6:=by lia
    refine⟨trivial,Ab n l x u false ?_⟩;refine⟨?_,Ab n l x u true ?_⟩
    ·rw[zza];exact zzz (show done.length<=6 by lia) (by decide)
    ·have fl:(left.filter λh=>decide (qR cs h≠qR cs f)).length<left.length:=by
      exact zwc.mpr ⟨f,H,by simp⟩
     refine hX _ ⟨left.filter λh=>decide (qR cs h≠qR cs f),done++[left.filter λh=>decide (qR cs h=qR cs f)],.val (natD f),U,λi s=>l i (zzu.mp s).1,?_,λrest E=>?_,?_⟩ ?_
     ·rw[zzm,zzN];lia
     ·rw[zyF];exact v _ (.cons H g E)
     ·rw[zzs];rfl
     ·show ((left.filter λh=>decide (qR cs h≠qR cs f)).map natD).length<(left.map natD).length;rw[zza,zza];exact fl
 ·rintro _ ⟨gs,s2,p,U,E,rfl⟩;exact h gs E
def Jx:DSp:=λds Q=>∃b:Bk,ds=[du b]/\BkOk b/\Q (rowD (sums (b.cells.map (·.2)) b.m))
theorem mE(T:Tx K mg):T.xc.Ok P w base CX0 3 (spD K 1 Jx):=by
 refine fnd ["book"] (λU _=>(dr (dcl (bM T) U (aa (dx 0) (da1 (dfc (ao ["cell"] [none] rfl (iO (dx 0)) (dgb 0) au (dx 0)))))))) (λds Q hl h=>?_);obtain⟨b,rfl,J,h⟩:=h;refine cr (rowD ∘ (·.2)) (λj=>∃s,j=[s]) (zzo J.c60 (by decide)) (λc _ j Y Z C E=>?_) _ ⟨_,rfl⟩ ?_
 ·obtain⟨s,rfl⟩:=C;exact Br.t (E _ ⟨_,rfl⟩)
 ·rw[←zzk];refine⟨rfl,b.m,_,rfl,rfl,⟨J.m6,by rw[zza];exact zzo J.c60 (by decide),λr U=>?_⟩,h⟩;obtain⟨c,G,rfl⟩:=zzc.mp U;exact(J.it c G).2.1.up
def imN(n:Nat)(hs:ai Int)(g:ai Nat):ai Nat:=(List.range n).filter λy=>g.any λx=>decide (gi hs (x:Int)=(y:Int))
theorem mem_imN{y:Nat}:y∈imN n hs g↔y<n/\∃x∈g,gi hs (x:Int)=(y:Int):=by
 unfold imN;rw[zzu,zzB,zyS];constructor
 ·rintro⟨a,x,J,e⟩;exact⟨a,x,J,zzQ e⟩
 ·rintro⟨a,x,J,e⟩;exact⟨a,x,J,zzJ e⟩
theorem DJ(n:Nat)(hs:ai Int)(g:ai Nat):((imN n hs g).map λ(k:Nat)=>(k:Int)).Pairwise (· < ·):=by unfold imN;rw[zyO];exact(List.pairwise_lt_range.filter _).imp λh=>by lia
theorem Ge(o:Ord n hs)(Y:g.Nodup)(U:∀x∈g,x<n){C:ai Int}(p:C.Perm ((g.map λ(k:Nat)=>(k:Int)).map (gi hs)))(s:C.Pairwise (·<=·)):C=(imN n hs g).map λ(k:Nat)=>(k:Int):=by
 refine ou o ?_ (λx J=>?_) (DJ _ _ _) (λy=>?_) p s
 ·unfold List.Nodup at *;rw[zyO];exact Y.imp λh e=>h (by lia)
 ·obtain⟨i,j,rfl⟩:=zzc.mp J;have:=U i j;lia
 ·rw[zzc];constructor
  ·rintro⟨i,j,rfl⟩;obtain⟨_,x,J,e⟩:=mem_imN.mp j;exact⟨(x:Int),zzc.mpr ⟨x,J,rfl⟩,e⟩
  ·rintro⟨x,J,rfl⟩;obtain⟨i,j,rfl⟩:=zzc.mp J;have:=U i j;obtain⟨_,g0,g1⟩:=o.at (i:=(i:Int)) (by lia) (by lia);exact⟨(gi hs i).toNat,mem_imN.mpr ⟨by lia,i,j,by lia⟩,by lia⟩
theorem mG{P Q:Nat->Bool}(h:∀x∈g,∀y:Nat,gi hs (x:Int)=(y:Int)->Q y=P x):(imN n hs g).filter Q=imN n hs (g.filter P):=by
 unfold imN;rw[zvd];refine zxR λy _=>?_;rw[zyU,zzY,zyS,zyS];constructor
 ·rintro⟨a,x,J,e⟩;have:=h x J y (zzQ e);exact⟨x,zzu.mpr ⟨J,by rw[←this];exact a⟩,e⟩
 ·rintro⟨x,J,e⟩;obtain⟨J,U⟩:=zzu.mp J;exact⟨by rw[h x J y (zzQ e)];exact U,x,J,e⟩
theorem Gf(o:Ord n hs){q:Nat->Rat}(I:∀x:Nat,x<n->q' (gi hs (x:Int)).toNat=q x)(r:Rk q g gs):(∀x∈g,x<n)->∀{gs':ai (ai Nat)},Rk q' (imN n hs g) gs'->gs'=gs.map (imN n hs):=by
 have E:∀{x y:Nat},x<n->gi hs (x:Int)=(y:Int)->q' y=q x:=λ{x y} J e=>by rw[←I x J,e,zzG]
 induction r with
 |nil =>
  intro _ gs' j;have e:imN n hs []=[]:=by unfold imN;exact List.filter_eq_nil_iff.mpr λy _=>by simp
  rw[e]at j;cases j with
  |nil=>rfl|cons a=>simp at a
 |@cons g f gs H l r m =>
  intro U gs' j;have T:=U f H;obtain⟨_,g0,g1⟩:=o.at (i:=(f:Int)) (by lia) (by lia);have C:(gi hs (f:Int)).toNat∈imN n hs g:=mem_imN.mpr ⟨by lia,f,H,by lia⟩;generalize d:imN n hs g=left' at j C;cases j with
  |nil=>simp at C|@cons _ Y gs' M c j =>
   subst d;obtain⟨_,x,J,k⟩:=mem_imN.mp M;have G:q' Y=q f:=by
    have a:=c _ C;rw[I f T]at a;have b:=l x J;rw[←E (U x J) k]at b
    grind
   have f1:(imN n hs g).filter (λh=>decide (q' h=q' Y))=imN n hs (g.filter λh=>decide (q h=q f)):=mG λx J y e=>by rw[E (U x J) e,G]
   have f2:(imN n hs g).filter (λh=>decide (q' h≠q' Y))=imN n hs (g.filter λh=>decide (q h≠q f)):=mG λx J y e=>by rw[E (U x J) e,G]
   rw[f2]at j;rw[f1,zzh,m (λx J=>U x (zzu.mp J).1) j]
theorem Jy{q:Nat->Rat}{left:ai Nat}(r:Rk q left gs):left.Nodup->gs.length<=left.length/\∀g∈gs,g.Nodup/\g.length<=left.length/\∀x∈g,x∈left:=by
 induction r with
 |nil=>exact λ_=>⟨zzn _,λg J=>by simp at J⟩
 |@cons left f gs C hm r E =>
  intro j;obtain⟨i0,Y⟩:=E (j.filter _);have fl:(left.filter λh=>decide (q h≠q f)).length<left.length:=zwc.mpr ⟨f,C,by simp⟩;refine⟨by rw[zzI];lia,λg J=>?_⟩;rcases zzr.mp J with rfl|J
  ·exact⟨j.filter _,zzU _ _,λx U=>(zzu.mp U).1⟩
  ·obtain⟨a,b,c⟩:=Y g J;exact⟨a,by lia,λx U=>(zzu.mp (c x U)).1⟩
theorem Ad{p:α->Bool}{ws J:ai α}(h:∀x,x∈ws↔x∈J):ws.all p=J.all p:=by rw[zyU,zyw,zyw];exact⟨λk x U=>k x ((h x).mpr U),λk x U=>k x ((h x).mp U)⟩
theorem Gg(h:∀x,x∈ds↔x∈ys)(d:D):eqD (hdD (eP ds d)) (.str (PySem.Str.ofString "turned"))=eqD (hdD (eP ys d)) (.str (PySem.Str.ofString "turned")):=by
 have no:∀ds:ai D,eqD (hdD (match ds.findIdx? kr with
  | some j=>D.tup [.str "open",.int j]| none=>.tup [.str "apart",.int (ds.findIdx (isS 1)),.int (ds.findIdx (isS (-1)))])) (.str (PySem.Str.ofString "turned"))=false:=λds=>by
  split
  ·show eqD (.str "open") (.str "turned")=false;decide +kernel
  ·show eqD (.str "apart") (.str "turned")=false;decide +kernel
 unfold eP;rw[Ad h,Ad h];split
 ·rfl
 ·split
  ·rfl
  ·exact(no ds).trans (no ys).symm
section
variable{rs:ai Rw}
theorem Jz(rs:ai Rw)(so k:ai Int):Xp rs so k=(rs.filter λr=>decide (0<r.t)).filter λr=>decide (vals r.ks so=k):=by rw[show Xp rs so k=_ from fk _ _];unfold dG;rw[zwf,zzk];exact List.map_id _
theorem vE{so:ai Int}:vals A so=vals ws so↔∀x∈so,gi A x=gi ws x:=by unfold vals;exact List.map_inj_left
theorem JA(o:RsOk n ms rs)(J:r∈rs):vals r.ks so∈Kp rs so:=by have:=(o.t9 r J).1;exact(gH _ _).mpr (zzc.mpr ⟨(vals r.ks so,r),zzc.mpr ⟨r,zzu.mpr ⟨J,zzJ (by lia)⟩,rfl⟩,rfl⟩)
theorem qA(o:RsOk n ms rs){so:ai Int}(h:∀x,x∈so↔x∈A){a b:Nat}{w:D}(hw:w∈told (tb1 n rs so) a b):w∈told (tb1 n rs A) a b:=by
 obtain⟨q,U,rfl⟩:=zzc.mp hw;obtain⟨k,j,rfl⟩:=zzc.mp U;obtain⟨r,Y,rfl⟩:=mq ((ak _).mem_iff.mp j);refine zzc.mpr ⟨_,zzc.mpr ⟨vals r.ks A,(ak _).mem_iff.mpr (JA o Y),rfl⟩,?_⟩;have e:Xp rs A (vals r.ks A)=Xp rs so (vals r.ks so):=by rw[Jz,Jz];refine zxR λr' _=>?_;rw[zyU,decide_eq_true_iff,decide_eq_true_iff,vE,vE];exact⟨λk x J=>k x ((h x).mp J),λk x J=>k x ((h x).mpr J)⟩
 rw[e]
theorem Ae(t:Tn n ms rs hs pl cs z)(o':RsOk n A (rs.map (tuR hs pl cs z)))(J:∀x∈so,0<=x/\x<ms.length)(h:∀x,x∈so.map (gi pl)↔x∈ws)(E:0<=a)(a1:a<n)(G:0<=b)(H:b<n)(w:D):w∈told (tb1 n (rs.map (tuR hs pl cs z)) ws) (gi hs a).toNat (gi hs b).toNat↔w∈told (tb1 n rs so) a.toNat b.toNat:=by
 have I:(∀w,w∈told (tb1 n (rs.map (tuR hs pl cs z)) ws) (gi hs a).toNat (gi hs b).toNat↔w∈told (tb1 n (rs.map (tuR hs pl cs z)) (so.map (gi pl))) (gi hs a).toNat (gi hs b).toNat):=λw=>⟨qA o' λx=>(h x).symm,qA o' h⟩;rw[I,←(zU t E a1 G H).told];constructor
 ·intro C;obtain⟨q,Y,rfl⟩:=zzc.mp C;obtain⟨k,j,rfl⟩:=zzc.mp Y;have j:=(ak _).mem_iff.mp j;rw[nZ t J]at j;obtain⟨M,U,rfl⟩:=zzc.mp j;refine zzc.mpr ⟨_,zzc.mpr ⟨M,(ak _).mem_iff.mpr U,rfl⟩,?_⟩;rw[sN t J U]
 ·intro C;obtain⟨q,Y,rfl⟩:=zzc.mp C;obtain⟨k,j,rfl⟩:=zzc.mp Y;have j:=(ak _).mem_iff.mp j;refine zzc.mpr ⟨_,zzc.mpr ⟨kap cs so k,(ak _).mem_iff.mpr (by rw[nZ t J];exact zxG j),rfl⟩,?_⟩;rw[sN t J j]
theorem gP(o:RsOk n ms rs){h:Nat}(J:h<n):sumP (col (tblB (BB n ms rs) so) h)=(sT (h:Int) rs,sW (h:Int) rs):=by rw[←kx J];unfold tblB eW;rw[wE,zzk];show at_ (sums ((gath n (prs n rs)).map (·.2)) n) h=_;rw[kD o.ro,cf J]
theorem wU(t:Tn n ms rs hs pl cs z)(o':RsOk n A (rs.map (tuR hs pl cs z)))(j:0<=a)(a1:a<n)(C:0<=b)(E:b<n):wholeS (tblB (BB n A (rs.map (tuR hs pl cs z))) ws) (gi hs a).toNat (gi hs b).toNat=wholeS (tblB (BB n ms rs) so) a.toNat b.toNat:=by obtain⟨_,I,p1⟩:=t.hs.at j a1;obtain⟨_,M,q1⟩:=t.hs.at C E;unfold wholeS;rw[gP o' (by lia),gP o' (by lia),gP t.o (by lia),gP t.o (by lia),zyf I,zyf M,zyf j,zyf C];obtain⟨G,H⟩:=fX t j a1 λr J=>J;obtain⟨U,Y⟩:=fX t C E λr J=>J;show cC (sT _ _) (sW _ _) (sT _ _) (sW _ _)=cC (sT _ _) (sW _ _) (sT _ _) (sW _ _);rw[G,H,U,Y];exact sQ t.z1 _ _ _ _
theorem Cq(t:Tn n ms rs hs pl cs z)(o':RsOk n A (rs.map (tuR hs pl cs z)))(J:∀x∈so,0<=x/\x<ms.length)(h:∀x,x∈so.map (gi pl)↔x∈ws)(j:0<=a)(a1:a<n)(C:0<=b)(E:b<n):isT (BB n A (rs.map (tuR hs pl cs z))) (gi hs a).toNat (gi hs b).toNat ws=isT (BB n ms rs) a.toNat b.toNat so:=by unfold isT trnB;rw[wU t o' j a1 C E];refine Gg (λw=>?_) _;rw[Dj o',Dj t.o];exact Ae t o' J h j a1 C E w
end
abbrev nI(l:ai Nat):ai Int:=l.map λ(k:Nat)=>(k:Int)
theorem Af(hm:m<=3)(p:Nat->Bool)(ne:(List.range m).filter p≠[]):nI ((List.range m).filter p)∈chs m (m+1):=by
 have:m=0∨m=1∨m=2∨m=3:=by lia
 rcases this with rfl|rfl|rfl|rfl
 ·exact absurd rfl ne
 ·revert ne;show ([0]:ai Nat).filter p≠[]->nI (([0]:ai Nat).filter p)∈_;cases h0:p 0<;>simp only[List.filter,h0]<;>decide +kernel
 ·revert ne;show ([0,1]:ai Nat).filter p≠[]->nI (([0,1]:ai Nat).filter p)∈_;cases h0:p 0<;>cases j:p 1<;>simp only[List.filter,h0,j]<;>decide +kernel
 ·revert ne;show ([0,1,2]:ai Nat).filter p≠[]->nI (([0,1,2]:ai Nat).filter p)∈_;cases h0:p 0<;>cases j:p 1<;>cases C:p 2<;>simp only[List.filter,h0,j,C]<;>decide +kernel
theorem DK:∀n,n<=3->(chs n (n+1)).Nodup:=by decide +kernel
theorem mH:∀n,n<=3->∀s∈chs n (n+1),s.Pairwise (· < ·)/\s≠[]:=by decide +kernel
theorem DM(a:A.Pairwise (· < ·))(b:ws.Pairwise (· < ·))(h:∀x,x∈A↔x∈ws):A=ws :=
 ((List.perm_ext_iff_of_nodup (Co a) (Co b)).mpr h).eq_of_pairwise (λx y _ _ u v=>by lia) (Gd a) (Gd b)
def imC(m:Nat)(pl s:ai Int):ai Int:=nI (imN m pl (s.map Int.toNat))
theorem iB(o:Ord m A)(hs:∀x∈s,0<=x/\x<m)(y:Int):y∈s.map (gi A)↔y∈imC m A s:=by
 unfold imC;rw[zzc,zzc];constructor
 ·rintro⟨x,J,rfl⟩;obtain⟨U,E⟩:=hs x J;obtain⟨_,g0,g1⟩:=o.at U E;exact⟨(gi A x).toNat,mem_imN.mpr ⟨by lia,x.toNat,zxG J,by rw[zyf U];lia⟩,by lia⟩
 ·rintro⟨i,C,rfl⟩;obtain⟨_,j,Y,e⟩:=mem_imN.mp C;obtain⟨x,J,rfl⟩:=zzc.mp Y;exact⟨x,J,by rw[zyf (hs x J).1]at e;exact e⟩
theorem DN(m:Nat)(pl s:ai Int):(imC m pl s).Pairwise (· < ·):=DJ _ _ _
theorem DP(j:m<=3)(o:Ord m A)(h:s∈chs m (m+1)):imC m A s∈chs m (m+1):=by
 obtain⟨_,hs,_⟩:=iQ (by lia) (by lia) h;obtain⟨_,ne⟩:=mH m j s h;refine Af j _ λz=>?_;cases s with
 |nil=>exact ne rfl|cons x s =>
  have:=(iB o hs (gi A x)).mp (zxG zzd);unfold imC nI imN at this;rw[z]at this;simp at this
theorem Gh(C:m<=3)(o:Ord m A)(h:s∈chs m (m+1))(j:ws∈chs m (m+1))(e:imC m A s=imC m A ws):s=ws:=by
 obtain⟨_,hs,_⟩:=iQ (by lia) (by lia) h;obtain⟨_,J,_⟩:=iQ (by lia) (by lia) j;have key:∀{s ws:ai Int},(∀x∈s,0<=x/\x<(m:Int))->(∀x∈ws,0<=x/\x<(m:Int))->imC m A s=imC m A ws->∀x∈s,x∈ws:=λ{s ws} hs J e x U=>by have:=(iB o hs (gi A x)).mp (zxG U);rw[e]at this;obtain⟨y,Y,E⟩:=zzc.mp ((iB o J (gi A x)).mpr this);rw[←o.inj (J y Y).1 (J y Y).2 (hs x U).1 (hs x U).2 E];exact Y
 exact DM (mH m C s h).1 (mH m C ws j).1 λx=>⟨key hs J e x,key J hs e.symm x⟩
theorem Cr(G:m<=3){k:ai Int}(o:Ord m A)(h:k∈chs m (m+1)):∃s∈chs m (m+1),imC m A s=k:=by
 obtain⟨_,C,_⟩:=iQ (by lia) (by lia) h;obtain⟨I,ne⟩:=mH m G k h;have mem:∀x,x∈nI ((List.range m).filter λx=>decide (gi A (x:Int)∈k))↔(0<=x/\x<m)/\gi A x∈k:=λx=>by
  rw[zzc];constructor
  ·rintro⟨i,H,rfl⟩;obtain⟨a,b⟩:=zzu.mp H;have:=zzB.mp a;exact⟨⟨by lia,by lia⟩,zzQ b⟩
  ·rintro⟨⟨a,b⟩,c⟩;exact⟨x.toNat,zzu.mpr ⟨zzB.mpr (by lia),zzJ (by rw[zyf a];exact c)⟩,by lia⟩
 refine⟨_,Af G (λx=>decide (gi A (x:Int)∈k)) λz=>?_,DM (DN _ _ _) I λy=>?_⟩
 ·cases k with
  |nil=>exact ne rfl|cons y k =>
   obtain⟨M,T⟩:=C y zzd;obtain⟨j,Y,E,e⟩:=o.surj M T;have:=(mem j).mpr ⟨⟨Y,E⟩,by rw[e];exact zzd⟩;unfold nI at this;rw[z]at this;simp at this
 ·rw[←iB o λx J=>((mem x).mp J).1,zzc];constructor
  ·rintro⟨x,J,rfl⟩;exact((mem x).mp J).2
  ·intro U;obtain⟨j,Y,E,e⟩:=o.surj (C y U).1 (C y U).2;exact⟨j,(mem j).mpr ⟨⟨Y,E⟩,by rw[e];exact U⟩,e⟩
section
variable{rs:ai Rw}
theorem Cs(o:RsOk n ms rs)(ne:rs≠[]):(BB n ms rs).cells≠[]:=by
 cases rs with
 |nil=>exact(ne rfl).elim|cons r rs =>
  have:=zr o.ro zzd (by have:=(o.t9 r zzd).1;lia);intro e;have e:gath n (prs n (r::rs))=[]:=e;rw[e]at this;simp at this
theorem Ag(o:RsOk n ms rs)(ne:rs≠[])(x y:Nat):tby (BB n ms rs) x y=(chs ms.length (ms.length+1)).filter (isT (BB n ms rs) x y):=zzg (Cs o ne)
theorem Ct(t:Tn n ms rs hs pl cs z)(ne:rs≠[])(j:ms.length<=3)(I:A.length=ms.length)(o':RsOk n A (rs.map (tuR hs pl cs z)))(C:0<=a)(a1:a<n)(E:0<=b)(G:b<n):bu (tby (BB n A (rs.map (tuR hs pl cs z))) (gi hs a).toNat (gi hs b).toNat)=bu ((tby (BB n ms rs) a.toNat b.toNat).map (imC ms.length pl)):=by
 rw[Ag o' (by simpa using ne),Ag t.o ne,I];have is:∀s∈chs ms.length (ms.length+1),isT (BB n A (rs.map (tuR hs pl cs z))) (gi hs a).toNat (gi hs b).toNat (imC ms.length pl s)=isT (BB n ms rs) a.toNat b.toNat s:=λs h=>by have hs:=(iQ (by lia) (by lia) h).2.1;exact Cq t o' hs (iB t.pl hs) C a1 E G
 refine pZ ((DK _ j).filter _) ?_ λk=>?_
 ·have M:=(DK _ j).filter (isT (BB n ms rs) a.toNat b.toNat);unfold List.Nodup at *;rw[zyO];exact zwl (λJ U ne e=>ne (Gh j t.pl (zzu.mp J).1 (zzu.mp U).1 e)) M
 ·rw[zzu,zzc];constructor
  ·rintro⟨H,Y⟩;obtain⟨s,hs,rfl⟩:=Cr j t.pl H;exact⟨s,zzu.mpr ⟨hs,by rw[←is s hs];exact Y⟩,rfl⟩
  ·rintro⟨s,hs,rfl⟩;obtain⟨hs,i⟩:=zzu.mp hs;exact⟨DP j t.pl hs,by rw[is s hs];exact i⟩
theorem DQ(o:RsOk n ms rs)(ne:rs≠[])(m3:ms.length<=3){x y:Nat}:(tby (BB n ms rs) x y).length<=31/\∀s∈tby (BB n ms rs) x y,s∈chs ms.length (ms.length+1):=by rw[Ag o ne];exact⟨zzo (zzU _ _) (kB _ (by lia) _ (by lia)),λs hs=>(zzu.mp hs).1⟩
end
structure Dr(n:Nat)(ms:List Int):Prop where
 n2:2 <= n
 n6:n <= 6
 mo:MsOk ms
 m1:1 <= ms.length
 m3:ms.length <= 3
theorem vF{X:ai Int->ai Rw}(p:∀k∈L,∀h:Nat,h<n->1<=sT (h:Int) (X k)){h:Nat}(J:h<n)(j:i<(L.map λk=>ax n (X k)).length):(cl (L.map λk=>ax n (X k)) h i).1≠0:=by
 rw[zza]at j;have e:cl (L.map λk=>ax n (X k)) h i=(sT (h:Int) (X L[i]),sW (h:Int) (X L[i])):=by unfold cl col;rw[zzk,zze,zzl,zzp j];exact cf J
 rw[e];have:=p L[i] (zyL j) h J;show sT (h:Int) (X L[i])≠0;lia
structure Dn(n:Nat)(ms:List Int)(rs:List Rw)(hs pl:List Int)(cs:List (List Int)):Prop extends Dr n ms where
 ne:rs≠[]
 rl:rs.length <= 36
 f:RsF n ms rs
 c6:C6 6 rs
 cl:cs.length=ms.length
 ho:Ord n hs
 po:Ord ms.length pl
 co:CsO ms cs
section
variable{rs:ai Rw}
theorem Dn.o(d:Dn n ms rs hs pl cs):RsOk n ms rs:=⟨d.n2,d.n6,d.mo,d.rl,d.f.ro,λr J=>by have:=d.f.t9 r J;lia⟩
theorem Dn.tn(d:Dn n ms rs hs pl cs)(j:1<=z)(C:z<=9):Tn n ms rs hs pl cs z:=⟨d.o,d.ho,d.po,d.co,j,C⟩
theorem Dn.o'(d:Dn n ms rs hs pl cs)(j:1<=z)(C:z<=9):RsOk n (mkT' pl ms) (rs.map (tuR hs pl cs z)):=FY (d.tn j C) λr J=>(d.f.t9 r J).2
theorem Dn.t1(d:Dn n ms rs hs pl cs):T64 n (tb1 n rs so):=by
 have t:=d.tn (z:=1) (by lia) (by lia);refine⟨λa b j a1 E G C=>Jo t d.f d.ne d.c6 j a1 E G C,d.n2,d.n6,?_,λh i J H=>vF (λk I h J=>?_) J H⟩
 ·rw[zza,(ak _).length_eq];exact oi d.c6
 ·exact zT d.f ((ak _).mem_iff.mp I) (by lia) (by lia)
theorem Dn.t2(d:Dn n ms rs hs pl cs)(C:1<=z)(l:z<=9):T64 n (tb2 n rs so hs pl cs z):=by
 have t:=d.tn C l;refine⟨λa b E a1 H I G=>Jp t d.f d.ne d.c6 E a1 H I G,d.n2,d.n6,?_,λh i J T=>vF (λk c h J=>?_) J T⟩
 ·rw[zza,(ak _).length_eq];exact oi d.c6
 ·obtain⟨j,U,Y,e⟩:=d.ho.surj (x:=(h:Int)) (by lia) (by lia);have g:=zT d.f ((ak _).mem_iff.mp c) U Y;obtain⟨M,_⟩:=fX t U Y (wR k);show 1<=sT (h:Int) ((Xp rs so k).map (tuR hs pl cs z));rw[←e,M];have:1*1<=sT j (Xp rs so k)*z:=zxd g C (by decide) (by lia);lia
theorem Dn.sa(d:Dn n ms rs hs pl cs)(G:1<=z)(H:z<=9):SA n z (tb1 n rs so) (tb2 n rs so hs pl cs z) hs:=λa b j a1 C E=>zU (d.tn G H) j a1 C E
theorem Dn.tried(d:Dn n ms rs hs pl cs){h:Int}(h0:0<=h)(C:h<n):1<=sT h rs:=by
 have ne:=d.ne;obtain⟨r,U⟩:∃r,r∈rs:=by
  cases rs with
  |nil=>exact(ne rfl).elim|cons r rs=>exact⟨r,zzd⟩
 obtain⟨j,J,_,e⟩:=d.f.al r U h h0 C;have:=(Ga λx Y=>by have:=(d.f.t9 x Y).1;lia).2 j J e;have:=(d.f.t9 j J).1;lia
theorem Ah{cs:Row}(j:cs.length=n)(h:∀i,i<n->0<(at_ cs i).1):tri cs=List.range n:=by unfold tri;rw[j];exact zxF.mpr λi C=>zzJ (h i (zzB.mp C))
theorem Gi(o:Ord n hs):imN n hs (List.range n)=List.range n:=by unfold imN;refine zxF.mpr λy J=>?_;have J:=zzB.mp J;obtain⟨j,U,j1,e⟩:=o.surj (x:=(y:Int)) (by lia) (by lia);exact zyS.mpr ⟨j.toNat,zzB.mpr (by lia),zzJ (by rw[zyf U];exact e)⟩
theorem Dn.rk(d:Dn n ms rs hs pl cs)(I:1<=z)(m:z<=9)(r:Rk (qR (ax n rs)) (tri (ax n rs)) gs)(G:Rk (qR (ax n (rs.map (tuR hs pl cs z)))) (tri (ax n (rs.map (tuR hs pl cs z)))) gs'):gs'=gs.map (imN n hs):=by
 have t:=d.tn I m;have E:∀xs:ai Rw,(ax n xs).length=n:=λxs=>by unfold ax;rw[zza,zzK]
 have H:∀{h:Int},0<=h->h<n->_:=λ{h} h0 k=>fX t h0 k λr l=>l;have M:tri (ax n rs)=List.range n:=Ah (E _) λi C=>by rw[cf C];have:=d.tried (h:=(i:Int)) (by lia) (by lia);show 0<sT (i:Int) rs;lia
 have T:tri (ax n (rs.map (tuR hs pl cs z)))=List.range n:=Ah (E _) λi C=>by rw[cf C];obtain⟨j,U,Y,e⟩:=d.ho.surj (x:=(i:Int)) (by lia) (by lia);have g:=d.tried U Y;show 0<sT (i:Int) (rs.map (tuR hs pl cs z));rw[←e,(H U Y).1];exact zyZ (by lia) (by lia)
 rw[M]at r;rw[T,←Gi d.ho]at G;refine Gf d.ho (λx J=>?_) r (λx J=>zzB.mp J) G;obtain⟨_,c,g1⟩:=d.ho.at (i:=(x:Int)) (by lia) (by lia);unfold qR;rw[cf (by lia),cf J,zyf c];obtain⟨a,b⟩:=H (h:=(x:Int)) (by lia) (by lia);show ((sW (gi hs (x:Int)) (rs.map (tuR hs pl cs z)):Int):Rat) / ((sT (gi hs (x:Int)) (rs.map (tuR hs pl cs z)):Int):Rat)=((sW (x:Int) rs:Int):Rat) / ((sT (x:Int) rs:Int):Rat);rw[a,b];exact my I _ _
theorem qC(o:RsOk n ms rs):RowN 200 n (ax n rs)/\sums ((BB n ms rs).cells.map (·.2)) (BB n ms rs).m=ax n rs:=by have b:=sF o;have e:sums ((BB n ms rs).cells.map (·.2)) n=ax n rs:=kD o.ro;refine⟨?_,e⟩;rw[←e];refine Dg (λr J=>?_) (by rw[zza];exact b.c60);obtain⟨c,j,rfl⟩:=zzc.mp J;exact(b.it c j).2.1
end
theorem kY(L:ai (ai Int)):shp (.lst (L.map az))=true:=Shp.shp (n:=2) (.lst λd hd=>by
 obtain⟨k,_,rfl⟩:=zzc.mp hd;exact .tup λd hd=>by obtain⟨k,_,rfl⟩:=zzc.mp hd;exact .int)
theorem oA(gs:ai (ai Nat)):shp (.lst (gs.map grpD))=true:=Shp.shp (n:=2) (.lst λd hd=>by
 obtain⟨k,_,rfl⟩:=zzc.mp hd;exact .lst λd hd=>by obtain⟨k,_,rfl⟩:=zzc.mp hd;exact .int)
theorem vG(J:L.length<64)(ne:∀s∈L,s≠[])(q:Q (.lst ((bu L).map az))):yW [.lst (L.map az)] Q:=by
 refine⟨L.map kI,?_,λk j=>?_,λ_ k j=>?_,by rw[zza];exact J,?_⟩
 ·rw[zzk];exact congrArg (λx=>[D.lst x]) (zzF λs _=>fV s)
 ·obtain⟨s,_,rfl⟩:=zzc.mp j;intro x U;obtain⟨i,_,rfl⟩:=zzc.mp U;exact⟨i,rfl⟩
 ·obtain⟨s,hs,rfl⟩:=zzc.mp j;intro e;exact ne s hs (List.map_eq_nil_iff.mp e)
 ·rw[zd,zzk,show keyD ∘ kI=az from funext λs=>(fV s).symm];exact q
theorem Gj(hm:m<=3){C:ai Int}(o:Ord m A)(h:s∈chs m (m+1))(p:C.Perm (s.map (gi A)))(c:C.Pairwise (·<=·)):C=imC m A s:=by obtain⟨_,hs,j⟩:=iQ (by lia) (by lia) h;exact ou o j hs (DN _ _ _) (λy=>by rw[←iB o hs,zzc]) p c
abbrev S1(n:Nat)(ms:ai Int)(rs:ai Rw)(hs pl:ai Int)(cs:ai (ai Int))(r:ai Sl):DS:=.nil :: .val .pen :: .val (.int n) :: .val (.lst (ms.map D.int)) :: .val (.lst (rs.map rwD)) :: .val (.lst (hs.map D.int)) :: .val (.lst (pl.map D.int)) :: .val (csD cs)::r
abbrev S2(n:Nat)(ms:ai Int)(rs:ai Rw)(hs pl:ai Int)(cs:ai (ai Int))(z:Int)(so:ai Int)(U Y J:Sl)(r:ai Sl):DS:=S1 n ms rs hs pl cs (U::Y::J :: .val (du (BB n ms rs)) :: .val (du (BB n (mkT' pl ms) (rs.map (tuR hs pl cs z)))) :: .val (az so) :: .val (.lst ((tb1 n rs so).map rowD)) :: .val (.lst ((tb2 n rs so hs pl cs z).map rowD))::r)
set_option maxHeartbeats 0 in
theorem Ld(T:Tx K mg)(B:Bm mg base):T.Am.Ok P w base CX0 16 (DL.spLaw K):=by
 refine KI T.Am.d.F sc_law rfl (by decide) (λcdv A outer s H E U=>fH sc_law.nd rfl (by first|exact Or.inl rfl|exact Or.inr rfl) (mK (sf T) (U.mono (by decide)) rfl T.eG.d.m T.eG.d.F.kp T.eG.d.b .nil AK (bh (pv 0) cJ))) (λhcd=>λU _=>(ac (dse 2 (aP et ad (dcl (aD T) U (aa (dv 1) (da1 ad))))) (aw (fg 3 (ao ["_law_k","_law_pen_here"] [none,some 1] rfl (bY T.dm (da1 (aP et ad (dcl (aD T) U (aa (dv 1) (da1 ad)))))) (dgb 0) au (aP et ad (dcl (aD T) U (aa (dv 1) (da1 ad)))))) (ac (dse 4 (dcl (sO T) U (a3 1 2 3))) (ac (dse 5 (dcl (dL T) U (a2 1 2))) (ac (dse 6 (dcl (dL T) U (aa (dv 1) (da1 (dln aV T.bO (dv 3)))))) (aw (fg 7 (ao ["_law_kinds","_law_pen_here"] [none,some 1] rfl (ar (dv 3)) (dgb 0) au (dcl (dL T) U (a2 1 0)))) (ac (dow 8 (yO (ff (bW (da1 ad))) (dln aV T.bO (dv 3)))) (aw (aM (fU T.aZ (a1 3)) (dg2 9 10) (ag (fS (dv 10) (lS (pv 8) (dix (dv 6) (dv 9)))))) (ac (dse 11 (dcl (qh T) U (a3 2 3 4))) (aw (dse 12 (dcl (qh T) U (aa (dv 2) (aa (dv 8) (da1 (dcl (gN T) U (aa (dv 4) (aa (dv 5) (aa (dv 6) (aa (dv 7) (da1 (aP et ad (dcl (aD T) U (aa (dv 1) (da1 ad))))))))))))))) (aw (dse 13 (aU bK T.bj (da1 (dfc (ao ["_law_mark","_law_pen_here"] [none,some 1] rfl (ar (dcl (dL T) U (aa (dv 1) (da1 (dln aV T.bO (dv 3)))))) (dgb 0) (eN (aj iq (dcl (aD T) U (aa (dv 1) (da1 ad))) ad)) (dv 0)))))) (aw (fS (dcl (og T) U (aa (dv 11) (aa (dv 12) (a3 13 6 7)))) (dg2 14 15)) (aw (aM (bY T.dm (a1 2)) (dgn 16) (ag (aM (bY T.dm (a1 2)) (dgn 17) (ag (dir (PWD.pt (iN (aj (fF U) (dv 16) (dv 17)) (fc (bG (aE (dcl (gO T B) U (aa (dv 14) (aa (dv 15) (a3 5 16 17))))))))) gt))))) (aw (dir (bG (aE (dcl (iA T) U (aa (dv 1) (a3 14 15 5))))) gt) (aw (dse 18 (aC uF T.eT (by decide +kernel) (da1 (dfc (ao ["_law_choice","_law_places"] [none,some 6] rfl (ar (dcl (kC T) U (aa (dv 11) (aa ad (da1 ad))))) (dgb 0) au (aU bK T.bj (da1 (aC nJ T.eT (by decide +kernel) (da1 (dfc (ao ["_law_mark","_law_places"] [none,some 1] rfl (iO (dv 0)) (dgb 0) au (dix (dv 1) (dv 0))))))))))))) (ac (dir (aj (fF U) (aC uF T.eT (by decide +kernel) (da1 (dcl (kC T) U (aa (dv 12) (aa (dx 5) (da1 (dx 5))))))) (dv 18)) gt) (dr (jQ (bZ U) (dcl (Ac T) U (da1 (dcl (mE T) U (a1 12)))) (dfc (ao ["_law_rank","_law_houses"] [none,some 5] rfl (ar (dcl (Ac T) U (da1 (dcl (mE T) U (a1 11))))) (dgb 0) au (aC nJ T.eT (by decide +kernel) (da1 (dfc (ao ["_law_house","_law_houses"] [none,some 1] rfl (ar (dv 0)) (dgb 0) au (dix (dv 1) (dv 0))))))))))))))))))))))))))) ?_;refine⟨rfl,⟨by decide,by decide⟩,λu u0 u1=>?_⟩;obtain⟨n,en,n2,n6⟩:∃n:Nat,2+u=(n:Int)/\2<=n/\n<=6:=⟨(2+u).toNat,by lia,by lia,by lia⟩;refine⟨λj=>∃ms:ai Int,Dr n ms/\j=[.nil,.val .pen,.val (.int n),.val (.lst (ms.map D.int)),.nil,.nil,.nil,.nil,.nil,.nil,.nil,.nil,.nil,.nil,.nil,.nil,.nil,.nil,.nil],?_,?_⟩
 ·refine⟨rfl,⟨by decide,by decide⟩,λv v0 v1=>⟨⟨by lia,by lia⟩,?_⟩⟩;have ez:(eX 0 (1+v).toNat).length=(1+v).toNat:=by rw[Cd,zza,zzK]
  refine kX (λw=>1<=w/\w<=6) (by rw[ez];lia) (λa Y l=>⟨rfl,⟨by lia,by lia⟩,λu u0 u1=>l _ ⟨by lia,by lia⟩⟩) (λms ml mb=>?_) _;rw[ez]at ml;refine⟨ms,⟨n2,n6,⟨by lia,mb⟩,by lia,by lia⟩,?_⟩;rw[←en];rfl
 ·rintro _ ⟨ms,dr,rfl⟩;have m3:=dr.m3;refine⟨rfl,n,ms,rfl,⟨n2,n6⟩,dr.mo,λrs ne rl f c6=>?_⟩;refine⟨rfl,n,rfl,n6,λhs N=>?_⟩;refine⟨rfl,ms.length,by rw[zza],by lia,λpl po=>?_⟩;refine⟨λj=>∃cs:ai (ai Int),Dn n ms rs hs pl cs/\j=S1 n ms rs hs pl cs [.nil,.nil,.nil,.nil,.nil,.nil,.nil,.nil,.nil,.nil,.nil],?_,?_⟩
  ·refine aA (λpre a4 j=>∃(Q m1:ai Int) (cs:ai (ai Int)),ms=Q++m1/\pre=Q.map D.int/\a4=cs.map (λc=>.lst (c.map .int))/\cs.length=Q.length/\(∀i:Nat,i<Q.length->Ord (gi ms (i:Int)).toNat (cs.getD i []))/\∃s:Sl,j=[s,.val .pen]) (λa4 j I=>?_) (λpre d post a4 j Y e I l=>?_) _ ⟨[],ms,[],rfl,rfl,rfl,rfl,λi hi=>absurd hi (zyz i),_,rfl⟩
   ·obtain⟨Q,m1,cs,M,e2,rfl,el,eo,_⟩:=I;have M:=eV M e2;subst M;exact⟨cs,⟨dr,ne,rl,f,c6,el,N,po,⟨λx x0 x1=>by have:=eo x.toNat (by lia);rwa [zyf x0]at this⟩⟩,rfl⟩
   ·obtain⟨Q,m1,cs,M,rfl,rfl,el,eo,s,rfl⟩:=I;obtain⟨k,m1,rfl,rfl⟩:=dg M e;have hk:=dr.mo.it k (by rw[M];simp);have ll:Q.length<=5:=by
     have:=dr.mo.l5;rw[M,zzm]at this;lia
    refine Br.t ⟨rfl,k.toNat,by rw[zyf (by lia)],by lia,λA oa=>⟨?_,l _ _ ⟨Q++[k],m1,cs++[A],by rw[M];simp,by rw[zzs];rfl,by rw[zzs];rfl,by rw[zzm,zzm,el];rfl,λi hi=>?_,_,rfl⟩⟩⟩
    ·rw[zza,el];exact zzz ll (by decide)
    ·rw[zzm,zzN]at hi;by_cases z:i<Q.length
     ·have:=eo i z;rw[zze,zys (by lia),←zze];exact this
     ·have:i=Q.length:=by lia
      subst this;have e5:gi ms ((Q.length:Nat):Int)=k:=vt (by rw[M,zzM (zzn _),zyY];rfl);rw[e5,zze,←el,zzM (zzn _),zyY];exact oa
  ·rintro _ ⟨cs,d,rfl⟩;refine⟨sz,?_,λj=>∃L J:Sl,j=S1 n ms rs hs pl cs [.own ((mkT' pl ms).map D.int),L,J,.nil,.nil,.nil,.nil,.nil,.nil,.nil,.nil],?_,?_⟩
   ·rw[zza];refine⟨by lia,?_⟩;show 1*(ms.length:Int).toNat<=_;exact zzo (m:=100) (by lia) (by decide)
   ·refine dLoop_enum (λi j=>∃L J:Sl,j=S1 n ms rs hs pl cs [.own ((mkT pl ms i).map D.int),L,J,.nil,.nil,.nil,.nil,.nil,.nil,.nil,.nil]) ?_ ?_ _ ?_
    ·rintro j ⟨L,J,rfl⟩;rw[zza];exact⟨_,_,rfl⟩
    ·rintro i x j Y G ⟨L,J,rfl⟩ l;have il:i<ms.length:=by
      have:=(zzt.mp G).1;rwa [zza]at this
     have ex:x=.int (gi ms i):=by
      have h2:ms[i]?=some (gi ms i):=by unfold gi;rw[zzG,zze,zzp il];rfl
      rw[zzl,h2]at G;exact(zya G).symm
     subst ex;obtain⟨p1,p2,p3⟩:=po.at (i:=(i:Int)) (by lia) (by lia);refine⟨rfl,trivial,cw po (by lia) (by lia) ⟨(gi pl i).toNat,lT p2 (by rw[zza,eR];lia),l _ ⟨.val (.int i),.val (.int (gi ms i)),?_⟩⟩⟩;show _=[_,_,_,_,_,_,_,_,Sl.own (((mkT pl ms i).set (gi pl i).toNat (gi ms i)).map D.int),_,_,_,_,_,_,_,_,_,_];rw[zwS];rfl
    ·refine⟨.nil,.nil,?_⟩;have e:(List.replicate ((ms.map D.int).length:Int).toNat [D.int 0]).flatten=(mkT pl ms 0).map D.int:=by
      unfold mkT;rw[zzG,zza,zxL]
      induction ms.length with
      |zero=>rfl|succ m ih=>rw[zyD,zyD,zxP,ih];rfl
     show [_,_,_,_,_,_,_,_,Sl.own _,_,_,_,_,_,_,_,_,_,_]=_;rw[e]
   ·rintro _ ⟨L,J,rfl⟩;refine⟨rfl,n,ms,rs,rfl,⟨n2,n6⟩,dr.mo,by lia,f.ro,?_⟩;refine⟨λj=>∃z:Int,(1<=z/\z<=9)/\∃s8:Sl,j=S1 n ms rs hs pl cs [s8,L,J,.val (du (BB n ms rs)),.val (du (BB n (mkT' pl ms) (rs.map (tuR hs pl cs z)))),.nil,.nil,.nil,.nil,.nil,.nil],?_,?_⟩
    ·refine⟨rfl,⟨by decide,by decide⟩,λv v0 v1=>?_⟩;have z1:1<=1+v:=by lia
     have z9:1+v<=9:=by lia
     have o':=d.o' z1 z9;refine⟨rfl,n,ms,rs,hs,pl,cs,1+v,rfl,d.tn z1 z9,d.cl,?_⟩;refine⟨rfl,n,mkT' pl ms,rs.map (tuR hs pl cs (1+v)),rfl,⟨n2,n6⟩,o'.mo,by have:=o'.rl;lia,o'.ro,?_⟩;exact⟨1+v,⟨z1,z9⟩,_,rfl⟩
    ·rintro _ ⟨z,⟨z1,z9⟩,s8,rfl⟩;have t:=d.tn z1 z9;have o':=d.o' z1 z9;refine⟨λj=>∃so:ai Int,SoOk (BB n ms rs) so/\j=S1 n ms rs hs pl cs [s8,L,J,.val (du (BB n ms rs)),.val (du (BB n (mkT' pl ms) (rs.map (tuR hs pl cs z)))),.val (az so),.nil,.nil,.nil,.nil,.nil],?_,?_⟩
     ·refine⟨rfl,ms.length,by rw[zza],by lia,λA oa=>?_⟩;refine aA (λpre a4 j=>∃A0 A1 so:ai Int,A=A0++A1/\pre=A0.map D.int/\a4=so.map D.int/\so.Nodup/\so.length<=A0.length/\(∀x∈so,x∈A0)/\∃s:Sl,j=[s,.val .pen]) (λa4 j I=>?_) (λpre d post a4 j Y e I l=>?_) _ ⟨[],A,[],rfl,rfl,rfl,zxy,zzn _,λx G=>G,_,rfl⟩
      ·obtain⟨A0,A1,so,M,e2,rfl,nd,sl,si,_⟩:=I;refine⟨so,⟨λx G=>oa.it x (by rw[M];exact zxg _ (si x G)),nd,?_⟩,rfl⟩;have:=oa.len;rw[M,zzm]at this;lia
      ·obtain⟨A0,A1,so,M,rfl,rfl,nd,sl,si,s,rfl⟩:=I;obtain⟨x,A1,rfl,rfl⟩:=dg M e;have al:=oa.len;have an:=oa.nd;rw[M,zzm,zzI]at al;rw[M]at an;have xn:x∉A0:=λG=>(zxj.mp an).2.2 x G x zzd rfl;refine⟨rfl,⟨by decide,by decide⟩,λv v0 v1=>⟨λz=>⟨?_,l _ _ ⟨A0++[x],A1,so++[x],by rw[M];simp,by rw[zzs];rfl,by rw[zzs];rfl,?_,?_,?_,_,rfl⟩⟩,λz=>l _ _ ⟨A0++[x],A1,so,by rw[M];simp,by rw[zzs];rfl,rfl,nd,by rw[zzm];lia,λy hy=>zxg _ (si y hy),_,rfl⟩⟩⟩
       ·rw[zza];exact zzz (show so.length<=5 by lia) (by decide)
       ·exact zxj.mpr ⟨nd,by simp,λa ha b hb e=>xn (by rw[←zzy.mp hb,←e];exact si a ha)⟩
       ·rw[zzm,zzm];exact Nat.succ_le_succ sl
       ·intro y hy;rcases zzx.mp hy with hy|hy
        ·exact zxg _ (si y hy)
        ·exact zyd _ hy
     ·rintro _ ⟨so,a6,rfl⟩;refine⟨λj=>j=S2 n ms rs hs pl cs z so s8 L J [.nil,.nil,.nil],?_,?_⟩
      ·exact⟨rfl,n,ms,mkT' pl ms,rs,so,hs,pl,cs,z,rfl,t,o',a6,FZ po a6 _,d.cl,rfl,rfl⟩
      ·rintro _ rfl;refine⟨λj=>∃a b:Sl,j=S2 n ms rs hs pl cs z so s8 L J [a,b,.nil],?_,?_⟩
       ·have mi:∀x,x∈eX 0 ((n:Int)).toNat->∃i:Int,x=.int i/\0<=i/\i<n:=λx G=>by
         rw[zzG,Cd]at G;obtain⟨i,hi,rfl⟩:=zzc.mp G;have:=zzB.mp hi;exact⟨i,rfl,by lia,by lia⟩
        refine⟨⟨by lia,by lia⟩,?_⟩;refine gy (λj=>∃a b:Sl,j=S2 n ms rs hs pl cs z so s8 L J [a,b,.nil]) (λj h=>h) (λx G j X I hX=>?_) _ ⟨_,_,rfl⟩;obtain⟨a',b',rfl⟩:=I;obtain⟨a,rfl,a0,a1⟩:=mi x G;refine⟨⟨by lia,by lia⟩,?_⟩;refine gy (λj=>∃b:Sl,j=S2 n ms rs hs pl cs z so s8 L J [.val (.int a),b,.nil]) (λj h=>hX j (by obtain⟨b,rfl⟩:=h;exact⟨_,_,rfl⟩)) (λy hy j Y I l=>?_) _ ⟨_,rfl⟩;obtain⟨b',rfl⟩:=I;obtain⟨b,rfl,b0,b1⟩:=mi y hy;obtain⟨_,p0,p1⟩:=N.at a0 a1;obtain⟨_,q0,q1⟩:=N.at b0 b1;refine⟨⟨rfl,rfl⟩,λy=>?_,λy=>Br.f (l _ ⟨_,rfl⟩)⟩;have ab:a≠b:=by intro e;subst e;have y:(!eqD (.int a) (.int a))=true:=y;rw[aG]at y;simp at y
        refine⟨rfl,n,tb1 n rs so,tb2 n rs so hs pl cs z,hs,z,a,b,rfl,N,d.t1.tw a b a0 a1 b0 b1 ab,(d.t2 z1 z9).tw _ _ p0 p1 q0 q1 (λe=>ab (N.inj a0 a1 b0 b1 e)),d.sa z1 z9 a b a0 a1 b0 b1,?_⟩;exact Br.f (l _ ⟨_,rfl⟩)
       ·rintro _ ⟨a',b',rfl⟩;refine⟨λj=>j=S2 n ms rs hs pl cs z so s8 L J [a',b',.nil],?_,?_⟩
        ·refine⟨rfl,n,tb1 n rs so,tb2 n rs so hs pl cs z,hs,z,rfl,N,d.t1,d.t2 z1 z9,d.sa z1 z9,?_⟩;exact Br.f rfl
        ·rintro _ rfl;have ml:(mkT' pl ms).length=ms.length:=eR _ _ _;have tb:=DQ d.o d.ne m3 (x:=0) (y:=1);have a7:=DQ o' (by simpa using ne) (by rw[ml];exact m3) (x:=(gi hs 0).toNat) (y:=(gi hs 1).toNat);refine⟨λj=>j=S2 n ms rs hs pl cs z so s8 L J [a',b',.val (.lst ((bu ((tby (BB n ms rs) 0 1).map (imC ms.length pl))).map az))],?_,?_⟩
         ·refine⟨rfl,BB n ms rs,0,1,rfl,sF d.o,⟨by lia,by show (0:Int)<n;lia,by lia,by show (1:Int)<n;lia,by lia⟩,?_⟩;refine jq az (λs=>az (imC ms.length pl s)) (λj=>∃s,j=[s,.val (.lst (pl.map D.int))]) (by show (tby (BB n ms rs) 0 1).length<=1000;lia) (λc hc j Y Z I l=>?_) _ ⟨_,rfl⟩ ?_
          ·obtain⟨s,rfl⟩:=I;have hc:=tb.2 c hc;obtain⟨c5,cb,cn⟩:=iQ (by lia) (by lia) hc;refine Br.t (jq D.int (λx=>.int (gi pl x)) (λj=>∃s,j=[s,.val (.lst (pl.map D.int))]) (by lia) (λx G j Y' Z' I a5=>?_) _ ⟨_,rfl⟩ ?_)
           ·obtain⟨s,rfl⟩:=I;exact Br.t (cw po (cb x G).1 (cb x G).2 (a5 _ ⟨_,rfl⟩))
           ·refine⟨c.map (gi pl),by rw[zzk];rfl,by rw[zza];lia,λC p q=>?_⟩;rw[Gj m3 po hc p q];exact l _ ⟨_,rfl⟩
          ·have e:((tby (BB n ms rs) 0 1).map λs=>az (imC ms.length pl s))=((tby (BB n ms rs) 0 1).map (imC ms.length pl)).map az:=by rw[zzk];rfl
           show yW [.lst ((tby (BB n ms rs) 0 1).map λs=>az (imC ms.length pl s))] _;rw[e];refine vG (by rw[zza];lia) (λs hs=>?_) rfl;obtain⟨c,hc,rfl⟩:=zzc.mp hs;exact(mH _ m3 _ (DP m3 po (tb.2 c hc))).2
         ·rintro _ rfl;obtain⟨_,p0,p1⟩:=N.at (i:=0) (by lia) (by lia);obtain⟨_,q0,q1⟩:=N.at (i:=1) (by lia) (by lia);refine cw N (by lia) (by lia) (cw N (by lia) (by lia) ⟨rfl,BB n (mkT' pl ms) (rs.map (tuR hs pl cs z)),gi hs 0,gi hs 1,rfl,sF o',⟨p0,p1,q0,q1,λe=>absurd (N.inj (by lia) (by lia) (by lia) (by lia) e) (by decide)⟩,?_⟩);refine vG (by lia) (λs hs=>?_) ?_
          ·have:=a7.2 s hs;rw[ml]at this;exact(mH _ m3 _ this).2
          rw[Ct t ne m3 ml o' (by lia) (by lia) (by lia) (by lia)];refine⟨⟨kY _,kY _⟩,lx rfl (kY _) ?_⟩;have w1:=qC d.o;have w2:=qC o';refine⟨rfl,BB n (mkT' pl ms) (rs.map (tuR hs pl cs z)),rfl,sF o',?_⟩;rw[w2.2];refine⟨rfl,n,ax n (rs.map (tuR hs pl cs z)),rfl,⟨n6,w2.1⟩,λgs' r'=>?_⟩;refine⟨rfl,BB n ms rs,rfl,sF d.o,?_⟩;rw[w1.2];refine⟨rfl,n,ax n rs,rfl,⟨n6,w1.1⟩,λgs r=>?_⟩;have eg:=d.rk z1 z9 r r';obtain⟨gl,gm⟩:=Jy r (List.nodup_range.filter _);have tl:(tri (ax n rs)).length<=6:=by refine zzo (zzU _ _) ?_;rw[zzK,w1.1.1];exact n6
          have ti:∀x∈tri (ax n rs),x<n:=λx G=>by have:=zzB.mp (zzu.mp G).1;rwa [w1.1.1]at this
          refine jq grpD (λg=>grpD (imN n hs g)) (λj=>∃s,j=[s,.val (.lst (hs.map D.int))]) (by lia) (λg hg j Y Z I l=>?_) _ ⟨_,rfl⟩ ?_
          ·obtain⟨s,rfl⟩:=I;obtain⟨g1,g2,g3⟩:=gm g hg;have gn:∀x∈g,x<n:=λx G=>ti x (g3 x G);refine Br.t (jq natD (λx=>.int (gi hs (x:Int))) (λj=>∃s,j=[s,.val (.lst (hs.map D.int))]) (by lia) (λx G j Y' Z' I a5=>?_) _ ⟨_,rfl⟩ ?_)
           ·obtain⟨s,rfl⟩:=I;have:=gn x G;exact Br.t (cw N (by lia) (by lia) (a5 _ ⟨_,rfl⟩))
           ·refine⟨(nI g).map (gi hs),by rw[zzk,zzk];rfl,by rw[zza,zza];lia,λC p q=>?_⟩;have e:C.map D.int=(imN n hs g).map natD:=by
             rw[Ge N g1 gn p q,zzk];rfl
            rw[e];exact l _ ⟨_,rfl⟩
          ·have e:(gs.map λg=>grpD (imN n hs g))=gs'.map grpD:=by rw[eg,zzk];rfl
           show gEq false (.lst (gs'.map grpD)) (.lst (gs.map λg=>grpD (imN n hs g))) _;rw[e];refine⟨⟨oA _,oA _⟩,?_⟩;exact congrArg D.bl (gz (oA _))
end
set_option maxHeartbeats 0 in
theorem all_mk{l:PySem.W.OpenLaw}{w:World}{K:zvi}{h:bz}{mg:Str->bo av}(X:K.In h)(G:h.Ns mainGlobals mg)(i:mg "law" = some (.ref fa))(A:Ta K mg){cV j:Tok}{E:ai bb}{J:bb}{b:av}{Y:bo bb}{U:Array av}{g:Array (bo av)}(M:A.jr.fd.code=.ref eF)(JG:U[11]?=some (.ref J))(k:PySem.W.nsIn K mainGlobals "LEAST_HOUSES" = some (some (.int 2 cg)))(n:PySem.W.nsIn K mainGlobals "MOST_HOUSES" = some (some (.int 6 cz)))(u:PySem.W.nsIn K mainGlobals "MOST_MARKS" = some (some (.int 5 cT)))(y:PySem.W.nsIn K mainGlobals "MOST_ROWS" = some (some (.int 60 dM)))(p:PySem.W.nsIn K mainGlobals "MOST_KINDS" = some (some (.int 6 cV)))(x:PySem.W.nsIn K mainGlobals "MOST_TRIED" = some (some (.int 1000000000000 j)))(JI:K.lookup eF=some ⟨b,Y,.fields U,g⟩)(r:PySem.W.codeHdIn K eF J=true)(a:K.lookup J=none)(H:J∈E)(I:([(J,"rising.<locals>.<lambda>")]:ai (bb×Str)).lookup J=some ("rising.<locals>.<lambda>" : Str))
  :
  ∃(fd:bp) (C:ai (bb×Str)),(∀(s:bd) (v:av),BindsTo s fd ⟨[v],[]⟩ [("_law_script",v)])/\(∀q∈C,(∃c,PySem.W.codeHdIn K c q.1=true)/\q.1∈E/\K.lookup q.1=none)/\∀base:bz,K.In base->base.Ns mainGlobals mg->Bm mg base->FnOk l.prog w K mg base CX0 16 fa fd ["_law_script"] (@DL.spLaw ⟨C⟩ K):=by
 have e:=i.symm.trans A.Am.d.m;cases e
 letI tbi:DL.TB:=⟨[(J,"rising.<locals>.<lambda>")]⟩
 let T:Tx K mg:=⟨A,cg,zxH X G k,cz,zxH X G n,cT,zxH X G u,dM,zxH X G y,cV,zxH X G p,j,zxH X G x,⟨eF,J,M,r,I⟩⟩
 exact⟨A.Am.fd,[(J,"rising.<locals>.<lambda>")],λs v=>by obtain⟨_,_,_,_,_,_,_,_,_,q,_⟩:=A.Am.d.F.ex;rw[q];exact .of_eq rfl,zwU.mpr ⟨⟨⟨_,r⟩,H,a⟩,λ_ h=>nomatch h⟩,λbase _ _ B=>Ld T B⟩
end My
open PySem PySem.W PyProof.Rows
set_option maxRecDepth 100000 in
set_option maxHeartbeats 0 in
theorem PySem.Challenge.cw_othersum_k64_whole_called_otherwise_holds : PySem.Challenge.rw_othersum_k64_whole_called_otherwise.Holds := by
  refine hd ?_
  k_fill
  refine DL.walk_ofT (l := PySem.Challenge.rw_othersum_k64_whole_called_otherwise) (n := 63) (k := 16) (x := "_law_script") rfl (by decide) rfl ⟨rfl, by decide, by decide⟩ (fun w h Y => PySem.W.km_in_of Y) (fun w h Y => PySem.W.km_tabs_of Y) ?F
  case F =>
    intro w mg fa h KX G hmg
    refine' My.all_mk KX G hmg (My.Ta.mk ..) ?a ?b ..
    any_goals first | refine' L2.ddk KX G ?_ ?_ ?_ ?_ | refine' PySem.W.mg_none_of KX G ?_
    any_goals k_is
    case a => exact rfl
    any_goals k_is
    case b => exact rfl
    all_goals first | k_is | kernel_rfl | k_mem | decide | simp
#print axioms PySem.Challenge.cw_othersum_k64_whole_called_otherwise_holds
