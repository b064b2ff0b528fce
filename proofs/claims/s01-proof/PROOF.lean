import PyProof.Rows.All
import Wide.All
import OpenK.AllK
import Wide.FinOn
import PyProof.EqAt
import PyProof.EqKinds
import PyProof.TupleCall
import KE.BitLaws
import Kg15Spec
import KE.OsGo
import Open.SpecLaws
import PySem.Challenge.RW_shapefile_s01_answers
import KE.KDictList
import PyProof.Rows.SortShellAny
import PyKg15
set_option Elab.async false
set_option linter.all false
set_option maxRecDepth 100000
set_option maxHeartbeats 1000000
set_option compiler.extract_closed false
set_option bootstrap.genMatcherCode false
theorem ws:PySem.Challenge.rw_shapefile_s01_answers.wellSaid=true:=by decide +kernel
theorem kk{G P:Prop}(_:G)(h:P):P:=h
structure PySem.W.Fast:Prop where(tw4101538910158540073 tw12691943906506702946 tw17793090303980254272 tw1975494729534357219 tw15234264132796209951 tw9620627580092330032 tw6771355997106205658 tw14750172674486534540 tw10214798723161860908 tw9692319085095946327 tw17026682123665591243 tw10412490514206232093 tw264932986702033461 tw8371023844593182472 tw3187600833561265495 tw7998388988547395671 tw2386784164831690217 tw14819390147424179368 tw13172660604052367476 tw17397653436517662659 tw15934120759103231973 tw12003660372656728261 tw12747814925858328940 tw7212858340449540239 tw13758190518337804936 tw11408881796089955267 tw11662115353561507501 tw8535803893964050539 tw7291104481378594968 tw18115114710476104648 tw16908126552976182760 tw1660798551392318424 tw11693022853682959955 tw1070438729232803039 tw4471281189289669508 tw5622701340561072331 tw3255949116541119010 tw14827714588952709054 tw16384176429480233704 tw9561226457009474297 tw7248502633702864892 tw3235425350174046738 tw1417652077214873720 tw4862731742212079515 tw17170472223608059050 tw17410218998227585676 tw13813548295540068894 tw11898673842065290130 tw18003772858949239459 tw1467881925912835984 tw628631919661052299 tw16607193741793207195 tw16132249320637822498 tw11151835277377553703 tw6607644564249050058 tw14398111036562950334 tw8392358500681263680 tw15214748959534726111 tw12269216009862288129 tw15895094517606616290 tw8498532028676091811 tw11766270337846329995 tw3303267245142563540 tw17680797132471856694 tw1719895430356276633 tw18094105663378112561 tw561727478393794602 tw6128145076113358165 tw17890440400047909864 tw1972164579936704799 tw6060609690816243450 tw5610444585433571239 tw9388066449989048879 tw7093409678479217127 tw14961746396406840608 tw9113380124883318265 tw15565715512253457277 tw6522051377940421278 tw8157277791214410489 tw8972062959192195235 tw9201617497623189827 tw17852080271459398996 tw6124413428159637790 tw8374155422468719031 tw6194202620331982285 tw13557862171009465336 tw6327569006664949090 tw8122695690928665766 tw354308444213283272 tw14454166528178196959 tw12738610918357793766 tw977512076041815475 tw15752536640612570366 tw14538725608371270373 tw16859961878692490766 tw10539347186207431242 tw17155049476370652306 tw17163426234232328066 tw16873086082458093902 tw1073704658516941901 tw8185220541750880888 tw9433028549170029634 tw4772062507164038959 tw6631347999910079877 tw15779231459743154856 tw11429584451438056573 tw16493865465440409018 tw5920806927976990809 tw8919978131948313185 tw12408111787983249662 tw10842938092177581297 tw11076892268299887525 tw15002400197546761880 tw6542358382571353910 tw11853640710764476214 tw17518593693041627797 tw2576523973992343609 tw16109456028575089023 tw3365755272349913518 tw727553628536289456 tw14341141199694864594 tw17592209452093105858 tw14993981098963755598 tw10294118229990073760 tw14647417624928369756 tw506581581156960101 tw14935156969734317764 tw8760152093665844161 tw10236332898609347644 tw6549852094080907030 tw13484562703626004877 tw7592715696027808041 tw6216382948874008006 tw6858818405166986180 tw8212203176049278890 tw14479964200598819128 tw14154597600763967237 tw10016166984437732892 tw11489344026974618541 tw4548300405975405348 tw7050804516273991350 tw14746253646979254834 tw17267597263503486738 tw6548459193220583526 tw10282777137419654623 tw3419001889969749887 tw14664691819916384248 tw2135409205425526673 tw16005714805435085966 tw8480184845173159842 tw11384182702204212275 tw17823556299335049440 tw2403389108928632939 tw9197174079833555027 tw10888863842102328177 tw3543459598558145280 tw4077048163395320219 tw1383625962624193546 tw4547051000311932777 tw1864683662541468164 tw16615150188913437886 tw5285915839522022235 tw13567515925198824819 tw7217548393331319763 tw12468840222048715292 tw14172470266813156586 tw7933485763601977624 tw11205608169257636508 tw12901003280762261817 tw7086961617601330827 tw14904681115217272601 tw12330612334027959195 tw15254633091992210921 tw4171853373547519906 tw3374319085511977134 tw256976265262469064 tw6557801498797044033 tw6248682570935725439 tw9848817304349107530 tw10910644110388302437 tw9116068151291705539 tw13757698761724263525 tw6472337539984862722 tw446995266069924076 tw10624116801336726872 tw991626836265849350 tw13913613514976480042 tw16636501806038632012 tw18101783494082082527 tw12773500944031208451 tw3300257896294614128 tw4075453323654395381 tw643336161829623379 tw9947508896943372755 tw17937168697417666835 tw7485256538410118956 tw6408400580700104982 tw17464319187374939960 tw8159993647027272844 tw12297992134047619483 tw211337195705725219 tw2084650752826471497 tw14903569129155370506 tw13053770412826190925 tw2466311954974566718 tw14202271707224943307 tw6105849179199505303 tw15861351967447197489 tw2228412568605170491 tw2694234056635809718 tw1826576844605153386 tw12884060626414724322 tw13769103115541136327 tw8912161614967838395 tw1546806297415031771 tw12528533614272120300 tw16409965706819354750 tw9404705873571188630 tw3794614879548551346 tw15127105006835628225 tw14074196154385387334 tw7414254361261656259 tw8924819469995637033 tw3328118118096588273 tw8297923619242306668 tw14849461344987154502 tw11502921971960690029 tw16955839230299176341 tw4096221787609464999 tw17613222154834848340 tw2931988195819169919 tw2046362190076281809 tw14983609241713479053 tw1532491051758110099 tw4321966507151631593 tw7424060955962978353 tw17360015989920007124 tw12670982853097334264 tw14332157829676619468 tw13034982811429478159 tw16822532161544500889 tw13777187281469347942 tw15577281813014381367 tw8899516883271353254 tw10826640976665885199 tw4860023922305330110 tw17339309145561079191 tw14782954611325821827 tw9304451534382375720 tw6702445572142316249 tw5444512763150141072 tw17963105932079019327 tw12188032599808994241 tw5522115075389312692 tw8908233856664302321 tw5323657890516693427 tw6170744672141170255 tw866717566613908145 tw17338325484393633139 tw12099505692703838030 tw855453113358079251 tw13622603851894308203 tw13953587524928339648 tw866652123128751154 tw6851275008772768644 tw14553807712399142462 tw4046790133079468173 tw12798174099139212305 tw9969077435446430640 tw13946496683202179788 tw17187875760726034783 tw14571165188834989974 tw4480162626587320490 tw14424681132571578402 tw12459912946257978736 tw1979317910248211280 tw2144661209622563809 tw4804111812005502284 tw8356303796347215682 tw15240619367488684849 tw13956191218907399338 tw5890639436620234070 tw4849480874435393781 tw16753820520455620202 tw1416189444401192986 tw11066385474520676512 tw1630143524128594353 tw5233118043267047457 tw5395340147747708899 tw14963028359598502718 tw8432719020341155521 tw11317637306720784765 tw14859695947638507448 tw819570635367399668 tw12382822922155266910 tw14226173905949225808 tw4903002758410956813 tw14391293386007564604 tw12772213712371865176 tw8865387616306378214 tw896878414759379649 tw8949853181751564097 tw4683681711962371626 tw4684226298888400098 tw3238445694619138142 tw11692469974320434101 tw16773468814595293053 tw14564479935002850509 tw11024694936033576346 tw447263597446747957 tw10149570385669482864 tw15733337929971156237 tw622995879521568732 tw18105302477358141223 tw2956708394376553000 tw6278996535519779258 tw9919008367099125623 tw4512776594637900181 tw14577027041581768965 tw17292613610259460706 tw14196522196718054806 tw7181997581385953548 tw13343918040275786880 tw10295913840692754127 tw15590096980072825465 tw1158361714356455011 tw13307065042914920193 tw13996866031312336078 tw3049343062529576306 tw17382457898008728272 tw17270988089705257900 tw13710940844802916613 tw7501186508268903616 tw6828597562223498359 tw6331431999304432861 tw18031968618487185184 tw247591363613054380 tw3671519592330383864 tw14703100239697439463 tw539538531456391632 tw12549542988036985293 tw5694767641087392711 tw17658959251048325594 tw2827255003249426055 tw5000232492035539693 tw15554417296805563061 tw13385558918117058561 tw11373181179767321252 tw384561282630992784 tw3099597729799864441 tw11824586356888161845 tw5725222548895626118 tw1915925776726481438 tw17351735930882485243 tw12717557048674177747 tw4307115940973712385 tw11561321288412880329 tw3433779192033484610:True)
section
local macro_rules|`(tactic|assumption)=>`(tactic|exact ws)
set_option maxHeartbeats 0 in
theorem hd:True/\True:=by
 clear hd
 simp only[(kk ?W (by as_aux_lemma=>(w_on;k_headS;(case hw=>exact ⟨[.list [.int 0]],by decide +kernel,by decide +kernel⟩);k_fillS;exact ?W)):PySem.Challenge.rw_shapefile_s01_answers.Holds),and_self]
end
namespace Aa
abbrev ai:=@if_neg
abbrev ao:=@if_pos
abbrev aA:=@PySem.wpAny_bind
abbrev bC:=@List.getElem?_eq_some_iff
abbrev bI:=@List.getElem?_eq_getElem
abbrev aV:=@List.length_map
abbrev aL:=@PySem.sizeLine_eq
abbrev bq:=@List.length_append
abbrev cp:=@PySem.Heap.get?_push_of_some
abbrev aQ:=@Nat.le_refl
abbrev bw:=@PySem.Paired.length
abbrev bJ:=@List.mem_append
abbrev cA:=@List.take_add_one
abbrev bc:=@PySem.wpAny_pure
abbrev bF:=@List.mem_map
abbrev cI:=@Bool.and_eq_true
abbrev eI:=@List.length_replicate
abbrev dj:=@Bool.false_ne_true
abbrev bV:=@List.mem_cons
abbrev eG:=@List.mem_of_getElem?
abbrev cH:=@decide_eq_false
abbrev cG:=@List.append_nil
abbrev dJ:=@Nat.lt_of_lt_of_le
abbrev fE:=@List.take_of_length_le
abbrev dF:=@List.size_toArray
abbrev bY:=@Nat.le_trans
abbrev eZ:=@List.mem_append_left
abbrev cQ:=@decide_eq_true
abbrev dY:=@of_decide_eq_true
abbrev cF:=@List.map_cons
abbrev cz:=@PySem.Heap.lt_size
abbrev fy:=@PySem.Heap.get?_push_size
abbrev dX:=@List.length_cons
abbrev dI:=@Option.some.inj
abbrev gj:=@List.mem_append_right
abbrev gi:=@List.mem_cons_of_mem
abbrev fx:=@List.getElem?_map
abbrev jt:=@List.getD_eq_getElem?_getD
abbrev cP:=@Nat.zero_le
abbrev fw:=@List.map_append
abbrev gF:=@decide_eq_true_iff
abbrev fU:=@List.cons_append
abbrev js:=@Option.map_eq_some_iff
abbrev gE:=@List.append_assoc
abbrev ek:=@Nat.ne_of_lt
abbrev eh:=@Nat.le_of_lt
abbrev gC:=@List.length_take
abbrev iU:=@PySem.mem_of_lookup
abbrev km:=@List.length_eq_zero_iff
abbrev iT:=@List.mem_cons_self
abbrev gT:=@List.foldl_cons
abbrev iS:=@List.length_range
abbrev eY:=@PySem.Paired.snoc
abbrev gB:=@PySem.Heap.size_push
abbrev my:=@Decidable.byContradiction
abbrev jr:=@Int.toNat_natCast
abbrev pG:=@Int.mul_le_mul_of_nonneg_left
abbrev kj:=@List.replicate_zero
abbrev jq:=@List.length_drop
abbrev lb:=@Array.length_toList
abbrev k_:=@List.map_congr_left
abbrev jM:=@List.take_length
abbrev pF:=@List.getLastD_eq_getLast?
abbrev nS:=@List.take_append_drop
abbrev ki:=@Bool.eq_iff_iff
abbrev kh:=@List.nodup_cons
abbrev mw:=@Bool.false_eq_true
abbrev pE:=@List.drop_of_length_le
abbrev nR:=@List.replicate_succ
abbrev mv:=@Nat.le_succ_of_le
abbrev uL:=@PySem.F.slot_dict_keyiterator_next
abbrev jo:=@List.map_map
abbrev uK:=@PyProof.Rows.callWith_type1
abbrev nQ:=@Int.natCast_nonneg
abbrev nP:=@Nat.lt_of_le_of_lt
abbrev iq:=@PySem.wpAny_mono
abbrev mr:=@Option.bind_some
abbrev gh:=@congrArg
abbrev kg:=@Nat.ne_of_gt
abbrev k8:=@Nat.lt_irrefl
abbrev kZ:=@List.sum_cons
abbrev uJ:=@Option.bind_eq_some_iff
abbrev uI:=@decide_eq_false_iff_not
abbrev pC:=@List.mem_range'_1
abbrev nO:=@List.range_succ
abbrev rH:=@List.flatMap_append
abbrev kY:=@Int.ofNat_lt
abbrev xx:=@Array.getElem?_eq_some_iff
abbrev xw:=@List.getLast?_eq_getElem?
abbrev xq:=@List.drop_eq_getElem_cons
abbrev pB:=@List.of_mem_zip
abbrev rG:=@PySem.wpAny_truthy_bool
abbrev rF:=@List.any_eq_false
abbrev A6:=@PySem.wpAny_typeNameOfWhole_keyiter
abbrev uH:=@List.drop_succ_cons
abbrev uG:=@List.length_pos_iff
abbrev rE:=@List.lookup_cons
abbrev rD:=@List.filter_cons
abbrev uF:=@List.mem_filterMap
abbrev nM:=@Nat.le_of_eq
abbrev uB:=@PySem.Calls.spliced_cons
abbrev uA:=@PySem.wpAny_Call_Name_kw
abbrev uz:=@List.zip_cons_cons
abbrev rA:=@PySem.wpAny_passesOwn
abbrev xo:=@PySem.Heap.get?_update_self
abbrev rm:=@List.find?_cons
abbrev rj:=@Nat.min_eq_left
abbrev rh:=@List.length_zip
abbrev xn:=@List.length_filter_le
abbrev A4:=@Int.fdiv_eq_ediv_of_nonneg
abbrev jL:=@if_false
abbrev uy:=@PySem.wpAny_newObj_type
abbrev ux:=@List.flatMap_cons
abbrev xk:=@List.mem_of_mem_drop
abbrev xj:=@List.mem_of_mem_take
abbrev jn:=@if_true
abbrev pA:=@PySem.W.of_hideAll
abbrev uw:=@List.all_eq_true
abbrev A3:=@PySem.wpAny_typeNameOf_keyiter
abbrev uv:=@List.any_eq_true
abbrev xi:=@beq_eq_false_iff_ne
abbrev A2:=@Nat.add_sub_cancel_left
abbrev uu:=@List.mem_filter
abbrev xh:=@PySem.tupleKind_room_in1
abbrev xg:=@List.mem_singleton
abbrev xf:=@List.pairwise_cons
abbrev FJ:=@Int.mul_le_mul_of_nonneg_right
abbrev A1:=@PySem.Heap.get?_update_other
abbrev A0:=@PySem.Calls.callWith_builtin
abbrev AZ:=@Option.map_eq_none_iff
abbrev pz:=@PySem.wpAny_field
abbrev xb:=@List.flatten_cons
abbrev w_:=@Nat.lt_succ_of_lt
abbrev rg:=@Nat.add_comm
abbrev ur:=@List.drop_zero
abbrev uq:=@Int.mul_nonneg
abbrev uo:=@Int.add_le_add
abbrev pw:=@beq_iff_eq
abbrev AY:=@PySem.Calls.evalArgs_plain
abbrev w9:=@PySem.wpAny_call_entry
abbrev AX:=@Nat.pow_le_pow_right
abbrev AW:=@List.getLastD_concat
abbrev AV:=@List.pairwise_append
abbrev w8:=@Nat.testBit_zero
abbrev w6:=@Nat.testBit_succ
abbrev AU:=@List.mem_iff_getElem
abbrev um:=@PySem.wpAny_holding
abbrev FI:=@Nat.mod_two_eq_zero_or_one
abbrev uk:=@Int.ofNat.inj
abbrev AS:=@PySem.Heap.SameBut.update
abbrev AR:=@Int.add_le_add_left
abbrev AQ:=@List.map_eq_nil_iff
abbrev wZ:=@PySem.wpAny_execs_nil
abbrev wY:=@List.length_set
abbrev wX:=@PySem.pushCells_keeps
abbrev FH:=@List.mem_of_find?_eq_some
abbrev wW:=@Nat.two_pow_pos
abbrev wV:=@Nat.div_add_mod
abbrev wU:=@Nat.and_le_left
abbrev FG:=@List.pairwise_iff_getElem
abbrev wR:=@PySem.PassesOwn.never
abbrev FF:=@List.getElem?_zip_eq_some
abbrev wQ:=@Int.natCast_pow
abbrev AO:=@PySem.F.slot_list_extend
abbrev uj:=@List.map_nil
abbrev AN:=@PySem.Obj.data_mapFields
abbrev AM:=@List.find?_eq_none
abbrev ui:=@Int.mul_comm
abbrev uh:=@Int.le_trans
abbrev AL:=@PySem.wpAny_setField_rec
abbrev mq:=@Ne.symm
abbrev FE:=@List.getElem?_replicate
abbrev FD:=@PySem.wpAny_callSpecial?_slot
abbrev FC:=@List.getElem?_cons_zero
abbrev AK:=@PySem.Calls.spliced_nil
abbrev AJ:=@Nat.le_of_succ_le
abbrev AI:=@decide_eq_true_eq
abbrev AH:=@Bool.eq_false_iff
abbrev AG:=@Nat.lt_succ_of_le
abbrev AF:=@List.foldl_append
abbrev AE:=@PySem.F.plainAttrs_list
abbrev FA:=@List.getElem?_set_self
abbrev Fz:=@Int.ediv_lt_iff_lt_mul
abbrev AD:=@Nat.zero_testBit
abbrev AB:=@Int.ediv_le_ediv
abbrev AA:=@List.flatMap_def
abbrev Az:=@List.drop_length
abbrev pj:=@PyProof.Rows.boot_min
abbrev ph:=@PyProof.Rows.boot_max
abbrev Fy:=@Bool.and_eq_false_iff
abbrev Fx:=@Array.getElem?_toList
abbrev Fw:=@List.getElem?_set_ne
abbrev Fv:=@Array.mem_toList_iff
abbrev ug:=@PySem.call_meets
abbrev Ay:=@Option.map_some
abbrev Ly:=@PySem.F.args_dict_keyiterator_next_1
abbrev wO:=@Int.ofNat_le
abbrev wN:=@Int.add_zero
abbrev Ax:=@Nat.not_lt_zero
abbrev Aw:=@Int.natCast_mul
abbrev Au:=@beq_false_of_ne
abbrev Fu:=@Nat.eq_of_testBit_eq
abbrev Lx:=@PySem.F.entry_dict_keyiterator_next
abbrev Lw:=@List.take_append_of_le_length
abbrev Lu:=@List.drop_append_of_le_length
abbrev Ls:=@Int.mul_le_mul_of_nonpos_left
abbrev Ft:=@List.filterMap_cons
abbrev Fs:=@Nat.testBit_two_pow
abbrev As:=@List.mem_range
abbrev Ar:=@PySem.wpAny_setField
abbrev Lr:=@PySem.F.slot_dict_keyiterator_iter
abbrev Aq:=@Option.map_map
abbrev wM:=@Sum.inl.inj
abbrev Fq:=@Int.lt_add_one_iff
abbrev Fp:=@Nat.sub_add_cancel
abbrev Fn:=@Nat.pos_of_ne_zero
abbrev Fm:=@List.map_replicate
abbrev Fl:=@Nat.add_sub_cancel
abbrev Fj:=@List.filter_append
abbrev Lo:=@List.getElem?_append_right
abbrev Ap:=@List.map_drop
abbrev Fi:=@Option.isSome_map
abbrev Fh:=@PySem.wpAny_dictEntries
abbrev Fg:=@Nat.le_of_lt_succ
abbrev Lm:=@List.getElem?_append_left
abbrev wL:=@Nat.not_le
abbrev Ff:=@Nat.lt_succ_self
abbrev Ao:=@PySem.codeAny_mono
abbrev Ll:=@Option.isSome_iff_exists
abbrev Lk:=@List.getElem?_take_of_lt
abbrev Am:=@Int.toNat_le
abbrev Lj:=@List.eq_of_mem_replicate
abbrev Fe:=@Bool.not_eq_true
abbrev Fd:=@Nat.min_eq_right
abbrev Li:=@Array.size_setIfInBounds
abbrev Lh:=@List.getElem?_cons_succ
abbrev Lg:=@List.pairwise_replicate
abbrev Lf:=@Nat.exists_eq_add_of_le
abbrev Fc:=@List.nil_append
abbrev Fb:=@Bool.or_eq_true
abbrev E_:=@PySem.F.slot_dict_get
abbrev E9:=@PySem.wpAny_dictEpoch
abbrev E8:=@List.find?_some
abbrev E7:=@List.sum_append
abbrev E6:=@and_congr_right
abbrev E5:=@Int.natCast_sub
abbrev Le:=@PyProof.noPylong_small
abbrev Ld:=@Nat.testBit_lt_two_pow
abbrev Al:=@Int.one_mul
abbrev Lc:=@List.filter_eq_nil_iff
abbrev Lb:=@List.length_singleton
abbrev La:=@List.getElem?_eq_none
abbrev K_:=@List.mem_iff_getElem?
abbrev K9:=@List.singleton_append
abbrev E4:=@Nat.testBit_or
abbrev E3:=@List.drop_drop
abbrev Ak:=@Int.not_lt
abbrev E2:=@List.any_cons
abbrev E1:=@List.map_take
abbrev EZ:=@Nat.succ_mul
abbrev EY:=@Nat.lt_trans
abbrev EX:=@Nat.sub_self
abbrev EW:=@Int.le_of_lt
abbrev EV:=@Nat.succ.inj
abbrev EU:=@Nat.zero_add
end Aa
section
open Aa
namespace L2
open PySem PySem.Spec PyProof.Rows
section
abbrev Key:=Sum Int Str
noncomputable def mQ:Key->Value->Bool
 | .inl k,v=>Value.isInt k v
 | .inr x,v=>Value.isStrOf x v
noncomputable def RQ (w:World):Key->Int
 | .inl k=>hashInt k
 | .inr x=>hashStr w x
theorem lj: ∀{k:Key}{v:Value},mQ k v=true->(∃i t,k=Sum.inl i/\v=Value.int i t)\/(∃x t,k=Sum.inr x/\v=Value.str x t)
 | .inl i,v,h=>by
  obtain⟨t,e⟩:=Value.isInt_shape (k:=i) (v:=v) h;exact .inl ⟨i,t,rfl,e⟩
 | .inr x,v,h=>by obtain⟨t,e⟩:=Value.isStrOf_shape (x:=x) (v:=v) h;exact .inr ⟨x,t,rfl,e⟩
def YL(i:Int)(t:Tok):mQ (.inl i) (.int i t)=true:=by simp[mQ,Value.isInt]
def YK(x:Str)(t:Tok):mQ (.inr x) (.str x t)=true:=by simp[mQ,Value.isStrOf]
def acz(a b:Int):decide ((Sum.inl a:Key)=Sum.inl b)=(a==b):=by
 by_cases e:a=b
 ·subst e;simp
 ·have h: ¬(Sum.inl a:Key)=Sum.inl b:=λ q=>e (wM q);rw[cH h];exact(xi.mpr e).symm
def acw(a b:Str):decide ((Sum.inr a:Key)=Sum.inr b)=decide (a=b):=by
 by_cases e:a=b
 ·subst e;simp
 ·have h: ¬(Sum.inr a:Key)=Sum.inr b:=λ q=>e (Sum.inr.inj q);rw[cH h,cH e]
def acy(a:Int)(b:Str):decide ((Sum.inl a:Key)=Sum.inr b)=false:=cH (λ q=>nomatch q)
def acx(a:Str)(b:Int):decide ((Sum.inr a:Key)=Sum.inl b)=false:=cH (λ q=>nomatch q)
noncomputable def eN (prog:Program) (w:World):PySem.KeyKind prog w Key where
 is:=mQ
 hash:=RQ w
 inj:=λ v a b ha hb=>by
  rcases lj ha with⟨i,t,rfl,rfl⟩|⟨x,t,rfl,rfl⟩
  ·rcases lj hb with⟨j,u,rfl,e⟩|⟨y,u,rfl,e⟩
   ·injection e with e1 _;rw[e1]
   ·exact nomatch e
  ·rcases lj hb with⟨j,u,rfl,e⟩|⟨y,u,rfl,e⟩
   ·exact nomatch e
   ·injection e with e1 _;rw[e1]
 byValue:=λ k v h=>by rcases lj h with⟨i,t,rfl,rfl⟩|⟨x,t,rfl,rfl⟩<;>rfl
 pyHash:=λ hv h=>by
  rcases lj hv with⟨i,t,rfl,rfl⟩|⟨x,t,rfl,rfl⟩
  ·exact wpAny_pyHash_int h
  ·exact wpAny_pyHash_str h
 eqBool:=λ hu hv h=>by
  rcases lj hu with⟨i,t,rfl,rfl⟩|⟨x,t,rfl,rfl⟩
  ·rcases lj hv with⟨j,u,rfl,rfl⟩|⟨y,u,rfl,rfl⟩
   ·rw[acz]at h;exact wpAny_eqBool_int h
   ·rw[acy]at h;exact SeqAt.EqAt.int_str i t y u _ _ _ _ h
  ·rcases lj hv with⟨j,u,rfl,rfl⟩|⟨y,u,rfl,rfl⟩
   ·rw[acx]at h;exact SeqAt.EqAt.str_int x t j u _ _ _ _ h
   ·rw[acw]at h;exact wpAny_eqBool_str h
 «strs»:=λ k x t v h=>by
  rcases lj h with⟨i,u,rfl,e⟩|⟨y,u,rfl,e⟩
  ·exact nomatch e
  ·injection e with e1 _;subst e1;cases v<;>rfl
def Xs(prog:Program)(w:World)(i:Int)(t:Tok):(eN prog w).is (.inl i) (.int i t)=true:=YL i t
def Xq(prog:Program)(w:World)(x:Str)(t:Tok):(eN prog w).is (.inr x) (.str x t)=true:=YK x t
end
section
inductive V where
 |aG|bl (b:Bool)|int (i:Int)|str (x:Str)|j5 (b:Array UInt8)|zX (b:UInt64)|ref (a:Addr)|ty (n:String)
 deriving DecidableEq
def RelV:V->Value->Prop
 | .aG,u=>u=Value.none
 | .bl b,u=>u=Value.bool b
 | .int i,u=>∃t,u=Value.int i t
 | .str x,u=>∃t,u=Value.str x t
 | .j5 b,u=>∃t,u=Value.bytes b t
 | .zX b,u=>∃t,u=Value.float b t
 | .ref a,u=>u=Value.ref a
 | .ty n,u=>u=Value.type n
abbrev Vals:List V->List Value->Prop:=Paired RelV
theorem Vals.length(r:Vals xs us):xs.length=us.length:=bw r
theorem Vals.get: ∀{xs:List V}{us:List Value}{i:Nat}{x:V},Vals xs us->xs[i]?=some x-> ∃u,us[i]?=some u/\RelV x u
 |_,_,_,_,.nil,e=>by simp at e
 |_,_,0,_,.cons r _,e=>by simp at e;subst e;exact⟨_,rfl,r⟩
 |_,_,i+1,x,.cons _ t,e=>by obtain⟨u,h1,h2⟩:=Vals.get (i:=i) (x:=x) t (by simpa using e);exact⟨u,by simpa using h1,h2⟩
theorem Vals.set(r:RelV x u): ∀{xs:List V}{us:List Value}(i:Nat),Vals xs us->Vals (xs.set i x) (us.set i u)
 |_,_,_,.nil=> .nil
 |_,_,0,.cons _ t=> .cons r t
 |_,_,i+1,.cons q t=> .cons q (Vals.set r i t)
theorem Vals.append: ∀{xs ys:List V}{us ws:List Value},Vals xs us->Vals ys ws->Vals (xs++ys) (us++ws)
 |_,_,_,_,.nil,s=>s
 |_,_,_,_,.cons r t,s=> .cons r (Vals.append t s)
theorem Vals.take: ∀{xs:List V}{us:List Value}(n:Nat),Vals xs us->Vals (xs.take n) (us.take n)
 |_,_,0,_=> .nil
 |_,_,_+1,.nil=> .nil
 |_,_,n+1,.cons r t=> .cons r (Vals.take n t)
theorem Vals.drop: ∀{xs:List V}{us:List Value}(n:Nat),Vals xs us->Vals (xs.drop n) (us.drop n)
 |_,_,0,r=>r
 |_,_,_+1,.nil=> .nil
 |_,_,n+1,.cons _ t=>Vals.drop n t
def gm:Option V->Option Value->Prop
 |some v,some u=>RelV v u
 |none,none=>True
 |_,_=>False
def KV{κ:Type}:List (κ×V)->List (κ×Value)->Prop:=Paired λ(p:κ×V)(q:κ×Value)=>p.1=q.1/\RelV p.2 q.2
noncomputable def kV:Key->V
 | .inl i=> .int i
 | .inr x=> .str x
inductive HO where
 |lst (xs:List V)
 |tup (xs:List V)
 |dK (kvs:List (Key×V))|dT (kvs:List (List Key×V))
 |set (S:Int->Bool) (n:Nat)
 |ins (C dx:Addr) (fs:List (Str×V))
 |own (x:Addr)
 |xd (fs:List (Str×V))
 |met (f x:Addr)
 |C9 (lo hi:Int)
 |bM (o:Obj) (u:HO)
 |qF (ps:Array Value)
 |ext (φ:Heap->Prop)
abbrev Hp:=Addr->Option HO
noncomputable def upd (H:Hp) (a:Addr) (o:HO):Hp:=λ b=>if b=a then some o else H b
def br:upd H a o a=some o:=by unfold upd;rw[ao rfl]
def bb(h:b≠a):upd H a o b=H b:=by unfold upd;rw[ai h]
def aea{H:Hp}{a b:Addr}{o u:HO}(h:H a=some o)(h':H b=some u)(d:o≠u):a≠b:=by intro e;subst e;rw[h]at h';exact d (dI h')
def cC{H:Hp}{a b:Addr}{o:HO}(h:H a=some o)(h':H b=none):a≠b:=by intro e;subst e;rw[h]at h';cases h'
section
variable(P:Program)(w:World)
def dy(H:Hp)(h:Heap)(a:Addr):HO->Prop
 | .lst xs=>xs.length<=sizeLine/\ ∃(aw:List Value)(n:Nat),Vals xs aw/\h.get? a=some {cls:= .type "list",data:= .seq aw.toArray n}
 | .tup xs=>xs.length<=sizeLine/\ ∃aw:List Value,Vals xs aw/\IsTup h a aw.toArray
 | .dK kvs=>kvs.length<=sizeLine/\(a==sysModules)=false/\ ∃vs,KV kvs vs/\h.DictOf (eN P w) a vs
 | .dT kvs=>kvs.length<=sizeLine/\(a==sysModules)=false/\ ∃xs:List (List Key×Addr×Value),
   Paired (λ(p:List Key×V)(q:List Key×Addr×Value)=>p.1=q.1/\H q.2.1=some (.tup (p.1.map kV))/\RelV p.2 q.2.2) kvs xs/\
   ∃o es ep,h.get? a=some o/\o.ExactDict/\o.data= .dict es ep/\es.toList=xs.map (entryOfKey (tupleKind (eN P w)))/\(xs.map (·.1)).Nodup
 | .set S n=>h.SetOf (intKind P w) a S n
 | .ins C dx fs=>H dx=some (.own a)/\fs.length<=1000/\dx≠a/\h.get? a=some (W.instObj C dx)/\
   ∃mA,h.Ns1 dx mA/\(∀f,gm (fs.lookup f) (mA f))/\PySem.Within mA (fs.map (·.1))
 | .own _=>∃o,h.get? a=some o
 | .xd fs=>∃mA,h.Ns1 a mA/\ ∀f,gm (fs.lookup f) (mA f)
 | .C9 lo hi=>∃t u v,h.get? a=some {cls:= .type "range",data:= .fields #[.int lo t,.int hi u,.int 1 v]}
 | .bM o u=>h.get? a=some o/\dy H h a u
 | .qF ps=>h.get? a=some {cls:= .none,data:= .fields ps}
 | .met f x=>h.get? a=some (W.methodObj (.ref f) (.ref x))
 | .ext φ=>φ h/\(∃o,h.get? a=some o)/\ ∀h1 h2:Heap,φ h1->(∀o,h1.get? a=some o->h2.get? a=some o)->φ h2
def cU(H:Hp)(h:Heap):Prop:=∀a o,H a=some o->dy P w H h a o
end
section
variable{P:Program}{w:World}{H H':Hp}{h h':Heap}{a:Addr}{o:HO}
theorem dy.lt(x:dy P w H h a o):a<h.objs.size:=by
 cases o with
 |lst xs=>obtain⟨_,_,_,_,e⟩:=x;exact cz e
 |tup xs=>obtain⟨_,_,_,p⟩:=x;exact p.lt
 |dK kvs=>obtain⟨_,_,_,_,o,_,_,e,_⟩:=x;exact cz e
 |dT kvs=>obtain⟨_,_,_,_,o,_,_,e,_⟩:=x;exact cz e
 |set S n=>obtain⟨o,_,_,_,e,_⟩:=x;exact cz e
 |ins C dx fs=>obtain⟨_,_,_,e,_⟩:=x;exact cz e
 |own y=>obtain⟨_,e⟩:=x;exact cz e
 |xd fs=>obtain⟨_,⟨_,_,_,e,_⟩,_⟩:=x;exact cz e
 |C9 lo hi=>obtain⟨_,_,_,e⟩:=x;exact cz e
 |bM ob u=>obtain⟨e,_⟩:=x;exact cz e
 |qF ps=>exact cz (show h.get? a=some _ from x)
 |met f y=>exact cz (show h.get? a=some _ from x)
 |ext φ=>obtain⟨_,⟨_,e⟩,_⟩:=x;exact cz e
theorem Paired.a8: ∀{l₁:List α}{l₂:List β},Paired F l₁ l₂->(∀a b,F a b->G a b)->Paired G l₁ l₂
 |_,_,.nil,_=> .nil
 |_,_,.cons r t,f=> .cons (f _ _ r) (Paired.a8 t f)
theorem dy.lL(x:dy P w H h a o)(k: ∀b u,(b=a\/H b=some (.own a))->h.get? b=some u->h'.get? b=some u)
  (ho: ∀b,H b=some (.own a)->H' b=some (.own a))(ht: ∀b xs,H b=some (.tup xs)->H' b=some (.tup xs)):dy P w H' h' a o:=by
 induction o with
 |lst xs=>obtain⟨z,aw,n,r,e⟩:=x;exact⟨z,aw,n,r,k _ _ (.inl rfl) e⟩
 |tup xs=>obtain⟨z,aw,r,ob,e,c⟩:=x;exact⟨z,aw,r,ob,k _ _ (.inl rfl) e,c⟩
 |dK kvs=>obtain⟨z,y,vs,r,ob,es,ep,e,c⟩:=x;exact⟨z,y,vs,r,ob,es,ep,k _ _ (.inl rfl) e,c⟩
 |dT kvs=>
  obtain⟨z,y,xs,r,ob,es,ep,e,c⟩:=x;exact⟨z,y,xs,Paired.a8 r λ p q z=>⟨z.1,ht _ _ z.2.1,z.2.2⟩,ob,es,ep,k _ _ (.inl rfl) e,c⟩
 |set S n=>obtain⟨ob,es,ep,t,e,c⟩:=x;exact⟨ob,es,ep,t,k _ _ (.inl rfl) e,c⟩
 |ins C dx fs=>
  obtain⟨d,z,ne,e,mA,⟨od,es,ep,e2,c⟩,r⟩:=x;exact⟨ho _ d,z,ne,k _ _ (.inl rfl) e,mA,⟨od,es,ep,k _ _ (.inr d) e2,c⟩,r⟩
 |own y=>obtain⟨ob,e⟩:=x;exact⟨ob,k _ _ (.inl rfl) e⟩
 |xd fs=>obtain⟨mA,⟨od,es,ep,e,c⟩,r⟩:=x;exact⟨mA,⟨od,es,ep,k _ _ (.inl rfl) e,c⟩,r⟩
 |C9 lo hi=>obtain⟨t,u,v,e⟩:=x;exact⟨t,u,v,k _ _ (.inl rfl) e⟩
 |bM ob u ih=>obtain⟨e,q⟩:=x;exact⟨k _ _ (.inl rfl) e,ih q⟩
 |qF ps=>
  have e:h.get? a=some {cls:= .none,data:= .fields ps}:=x;show h'.get? a=some {cls:= .none,data:= .fields ps};exact k a _ (.inl rfl) e
 |met f y=>
  have e:h.get? a=some (W.methodObj (.ref f) (.ref y)):=x;show h'.get? a=some (W.methodObj (.ref f) (.ref y));exact k a _ (.inl rfl) e
 |ext φ=>obtain⟨p,⟨o,e⟩,st⟩:=x;exact⟨st _ _ p λ o q=>k _ _ (.inl rfl) q,⟨o,k _ _ (.inl rfl) e⟩,st⟩
theorem cU.lt(x:cU P w H h)(e:H a=some o):a<h.objs.size:=(x a o e).lt
theorem cU.fresh(x:cU P w H h)(e:h.objs.size<=a):H a=none:=by
 cases q:H a with
 |none=>rfl
 |some u=>exact absurd (dJ (x.lt q) e) (k8 _)
def cU.kept(x:cU P w H h)(k: ∀b u,h.get? b=some u->h'.get? b=some u):cU P w H h':=λ a o e=>
 (x a o e).lL (λ b u _ q=>k b u q) (λ _ q=>q) λ _ _ q=>q
def cU.laid(x:cU P w H h)(k: ∀b u,h.get? b=some u->h'.get? b=some u)(hp:h.objs.size<=a)(new:dy P w (upd H a o) h' a o):cU P w (upd H a o) h':=λ b u e=>by
 have hn:=x.fresh hp;by_cases hb:b=a
 ·subst hb;rw[br]at e;cases e;exact new
 ·rw[bb hb]at e;exact(x b u e).lL (λ c v _ q=>k c v q) (λ c q=>by rw[bb (cC q hn)];exact q) λ c xs q=>by rw[bb (cC q hn)];exact q
end
def Rd(H:Hp)(a:Addr)(u:HO):Prop:=H a=some u\/ ∃o,H a=some (.bM o u)
def Rd.ok(r:Rd H a u)(x:cU P w H h):dy P w H h a u:=by
 rcases r with r|⟨o,r⟩
 ·exact x a u r
 ·obtain⟨_,q⟩:=x a _ r;exact q
def qY:Option HO->Prop
 |some (.lst _)=>True
 |some (.dK _)=>True
 |some (.dT _)=>True
 |some (.set _ _)=>True
 |some (.ins _ _ _)=>True
 |some (.ext _)=>True
 |_=>False
section
variable{P:Program}{w:World}{H:Hp}{h h':Heap}{x e:Addr}{o':HO}
def cU.write(ok:cU P w H h)(mu:qY (H x))(he:e=x\/H e=some (.own x))(k: ∀b u,b≠e->h.get? b=some u->h'.get? b=some u)(wc: ∃u,h'.get? e=some u)
  (new:dy P w (upd H x o') h' x o'):cU P w (upd H x o') h':=λ b u q=>by
 have RJ: ∀c y,H c=some (.own y)->c≠x:=λ c y r z=>by subst z;rw[r]at mu;exact mu
 have ae_: ∀c xs,H c=some (.tup xs)->c≠x:=λ c xs r z=>by subst z;rw[r]at mu;exact mu
 by_cases hb:b=x
 ·subst hb;rw[br]at q;cases q;exact new
 ·rw[bb hb]at q;by_cases tI:b=e
  ·have q':H b=some (.own x):=by
    rcases he with z|z
    ·exact absurd (tI.trans z) hb
    ·rw[tI];exact z
   rw[q]at q';cases q';obtain⟨v,hv⟩:=wc;exact⟨v,by rw[tI];exact hv⟩
  ·refine(ok b u q).lL (λ c v hc r=>k c v ?_ r) (λ c r=>by rw[bb (RJ c b r)];exact r) λ c xs r=>by rw[bb (ae_ c xs r)];exact r
   rcases hc with rfl|hc
   ·exact tI
   ·rintro rfl;rcases he with z|z
    ·exact RJ c b hc z
    ·rw[hc]at z;cases z;exact hb rfl
end
structure Un(fs ex:List Addr)(H H':Hp)(h h':Heap):Prop where
 keep: ∀b o,h.get? b=some o->H b=none->b∉fs->b∉ex->h'.get? b=some o
 slot: ∀b o,h.get? b=some o->H b=none->b∈fs->b∉ex-> ∃sl,h'.get? b=some {o with slots:=sl}
 free: ∀b o,h.get? b=some o->H b=none->b∉ex->H' b=none
 there: ∀b o,h.get? b=some o->b∉ex-> ∃o',h'.get? b=some o'
 mT: ∀b xs,H b=some (.tup xs)->H' b=some (.tup xs)
 kJ: ∀b o u,H b=some (.bM o u)->H' b=some (.bM o u)
 mU: ∀b ps,H b=some (.qF ps)-> ∃more,H' b=some (.qF (ps++more))
section
variable{fs fs' ex ex':List Addr}{H H1 H2:Hp}{h h1 h2 h':Heap}{a x e:Addr}{o:HO}
def Un.any(u:Un fs ex H H1 h h1)(q:h.get? b=some ob)(n:H b=none)(hx:b∉ex): ∃sl,h1.get? b=some {ob with slots:=sl}:=by
 by_cases hb:b∈fs
 ·exact u.slot b ob q n hb hx
 ·exact⟨ob.slots,u.keep b ob q n hb hx⟩
def Un.kept(k: ∀b u,h.get? b=some u->h'.get? b=some u):Un fs ex H H h h':=
 ⟨λ b ob q _ _ _=>k b ob q,λ b ob q _ _ _=>⟨ob.slots,k b ob q⟩,λ _ _ _ n _=>n,λ b ob q _=>⟨ob,k b ob q⟩,λ _ _ q=>q,λ _ _ _ q=>q,λ _ ps q=>⟨#[],by rw[q];simp⟩⟩
def Un.refl:Un fs ex H H h h:=Un.kept λ _ _ q=>q
def Un.laid(k: ∀b u,h.get? b=some u->h'.get? b=some u)(hp:h.objs.size<=a)(hn:H a=none):Un fs ex H (upd H a o) h h' where
 keep:=λ b u q _ _ _=>k b u q
 slot:=λ b u q _ _ _=>⟨u.slots,k b u q⟩
 free:=λ b u q n _=>by rw[bb (ek (dJ (cz q) hp))];exact n
 there:=λ b u q _=>⟨u,k b u q⟩
 mT:=λ b xs q=>by rw[bb (cC q hn)];exact q
 kJ:=λ b u xs q=>by rw[bb (cC q hn)];exact q
 mU:=λ b ps q=>⟨#[],by rw[bb (cC q hn),q];simp⟩
def Un.write(mu:qY (H x))(he:e=x\/H e=some (.own x))(k: ∀b u,b≠e->h.get? b=some u->h'.get? b=some u)(wc: ∃u,h'.get? e=some u):Un fs ex H (upd H x o) h h':=by
 have hx: ∀b,H b=none->b≠x:=λ b n z=>by subst z;rw[n]at mu;exact mu
 have hb: ∀b,H b=none->b≠e:=λ b n z=>by
  subst z;rcases he with r|r
  ·exact hx b n r
  ·rw[n]at r;cases r
 have hm: ∀b u,H b=some u-> ¬qY (some u)->b≠x:=λ b u q nm z=>by subst z;rw[q]at mu;exact nm mu
 refine⟨λ b u q n _ _=>k b u (hb b n) q,λ b u q n _ _=>⟨u.slots,k b u (hb b n) q⟩,λ b u q n _=>by rw[bb (hx b n)];exact n,λ b u q _=>?_,
  λ b xs q=>by rw[bb (hm b _ q λ z=>z)];exact q,λ b u xs q=>by rw[bb (hm b _ q λ z=>z)];exact q,λ b ps q=>⟨#[],by rw[bb (hm b _ q λ z=>z),q];simp⟩⟩
 by_cases tI:b=e
 ·subst tI;exact wc
 ·exact⟨u,k b u tI q⟩
end
noncomputable def C4 (h:Heap) (H:Hp):List Addr:=(List.range h.objs.size).filter λ a=>(H a).isSome
noncomputable def oB (h:Heap) (H:Hp):Heap:=W.hideAll h (C4 h H)
def YN(h:Heap)(H:Hp):(oB h H).objs.size=h.objs.size:=W.hideAll_size _ _
def ZL(e:h.get? b=some o)(n:H b=none):(oB h H).get? b=some o:=
 W.hideAll_get _ e λ hm=>by have q:(H b).isSome=true:=(uu.mp hm).2;rw[n]at q;simp at q
theorem aaF(e:(oB h H).get? b=some o):h.get? b=some o/\H b=none:=by
 have e':h.get? b=some o:=pA (C4 h H) e;refine⟨e',?_⟩;cases q:H b with
 |none=>rfl
 |some x=>
  have hm:b∈C4 h H:=uu.mpr ⟨As.mpr (cz e'),by simp[q]⟩;have z:(oB h H).get? b=none:=W.hideAll_none (C4 h H) hm;rw[z]at e;cases e
end
section
structure Mod(K:W.Frag)(mg:Str->Option Value)(base:Heap):Prop where
 oP:K.In base
 glob:base.Ns mainGlobals mg
 blt: ∃mb,base.Ns builtinsNs mb/\ ∀x:Str,x≠"__name__" ->mb x=bootBuiltins x
 nolimit:base.NoLimit
structure Cx where
 prog:Program
 w:World
 K:W.Frag
 mg:Str->Option Value
 base:Heap
 A:Around
 N:List Str
 s₀:Shared
 H₀:Hp
 env:Env
 outer:List Env
 stack:List Env
 ex:List Addr
 fn:Str->Bool
 calm:Bool
 pn:List (Addr×Obj)
 xe:Value->Shared->Prop
noncomputable def fS (l:List Env):List Addr:=l.filterMap (·.frame)
noncomputable abbrev Cx.fs (X:Cx):List Addr:=fS X.outer
def wq(sc:Scope)(x:Str):Prop:=sc.names.lookup x=some .local\/sc.names.lookup x=some .cell\/sc.names.lookup x=some .free
def Loc(sc:Scope)(x:Str):Prop:=sc.names.lookup x=some .local\/sc.names.lookup x=some .cell
def Look(env:Env)(h:Heap)(m:Str->Option Value)(x:Str)(u:Value):Prop:=
 (env.kindOf x=some .local/\m x=some u)\/((env.kindOf x=some .cell\/env.kindOf x=some .free)/\ ∃c,env.cells.lookup x=some c/\h.IsCell c (some u))
structure Cx.Ok(X:Cx):Prop where
 mod:Mod X.K X.mg X.base
 kind:X.env.scope.kind= .function
 glob:X.env.globals=mainGlobals
 blt:X.env.builtins=builtinsNs
 above:X.s₀.heap.objs.size<=X.env.locals
 inj: ∀x y c,X.env.cells.lookup x=some c->X.env.cells.lookup y=some c->x=y
 has: ∀x,(X.env.kindOf x=some .cell\/X.env.kindOf x=some .free)-> ∃c,X.env.cells.lookup x=some c
 qV: ∀x c,X.fn x=true->X.env.cells.lookup x=some c->X.s₀.heap.objs.size<=c
 hd:X.calm=true->X.A.handled=none
 frames:X.A.frames=some X.stack
 sS:X.stack=X.outer\/(X.stack=X.env::X.outer/\X.env.frame=some X.env.locals)
 oX: ∀b∈X.ex,b≠X.env.locals/\ ∀x c,X.env.cells.lookup x=some c->c≠b
 bs: ∀b o,X.base.get? b=some o->X.s₀.heap.get? b=some o/\X.H₀ b=none
 kR:X.base.objs.size<=X.s₀.heap.objs.size
 qm: ∀b o,X.base.get? b=some o->b∉X.ex
 oE: ∀b∈X.ex,b∉X.fs
 g_:X.s₀.heap.FunFrames X.base X.outer
 kQ: ∀b∈X.fs,X.H₀ b=none
structure Inv(X:Cx)(pins:List (Addr×Obj))(σ:List (Option V))(H:Hp)(s:Shared):Prop where
 ok:X.Ok
 os:s.os=X.s₀.os
 bare:AllBare s.gens
 base:Un X.fs X.ex X.H₀ H X.s₀.heap s.heap
 loc: ∃m,s.heap.Ns X.env.locals m/\ ∀(i:Nat)(x:Str)(v:V),X.N[i]?=some x->σ[i]?=some (some v)->wq X.env.scope x-> ∃u,RelV v u/\Look X.env s.heap m x u
 cell: ∀x c,X.env.cells.lookup x=some c-> ∃v,s.heap.IsCell c v
 free:H X.env.locals=none
 gN: ∀x c,X.env.cells.lookup x=some c->H c=none
 pin: ∀p∈X.pn++pins,s.heap.get? p.1=some p.2/\H p.1=none/\p.1≠X.env.locals/\p.1∉X.fs/\ ∀v,p.2.data≠ .cell v
 ax:cU X.prog X.w H s.heap
 len:σ.length=X.N.length
section
variable{X:Cx}{pins:List (Addr×Obj)}{σ:List (Option V)}{H H':Hp}{s:Shared}{h':Heap}
def Cx.Ok.afb(ok:X.Ok)(e:X.base.get? b=some o):b∉X.fs:=λ hb=>by have:=(ok.g_.mem hb).1;rw[e]at this;cases this
theorem Inv.bs(I:Inv X pins σ H s): ∀b o,X.base.get? b=some o->s.heap.get? b=some o/\H b=none:=λ b o e=>
 ⟨I.base.keep b o (I.ok.bs b o e).1 (I.ok.bs b o e).2 (I.ok.afb e) (I.ok.qm b o e),I.base.free b o (I.ok.bs b o e).1 (I.ok.bs b o e).2 (I.ok.qm b o e)⟩
def Inv.bk(I:Inv X pins σ H s): ∀b o,X.base.get? b=some o->s.heap.get? b=some o:=λ b o e=>(I.bs b o e).1
theorem Inv.mod(I:Inv X pins σ H s):Mod X.K X.mg X.base:=I.ok.mod
def Inv.gq(I:Inv X pins σ H s):X.K.In s.heap:=I.ok.mod.oP.keeps I.bk
theorem Inv.lt(I:Inv X pins σ H s):X.env.locals<s.heap.objs.size:=let⟨_,hn,_⟩:=I.loc;hn.lt
def Inv.sz(I:Inv X pins σ H s):X.s₀.heap.objs.size<=s.heap.objs.size:=bY I.ok.above (eh I.lt)
def Inv.afa(I:Inv X pins σ H s)(h:s.heap.objs.size<=a):a∉X.fs:=λ hb=>by obtain⟨_,o,ho,_⟩:=I.ok.g_.mem hb;exact absurd (dJ (cz ho) (bY I.sz h)) (k8 _)
def Inv.tO(I:Inv X pins σ H s): ∀x c,X.env.cells.lookup x=some c->c≠X.env.locals:=λ x c e z=>by obtain⟨v,o,ho,hd⟩:=I.cell x c e;obtain⟨m,⟨o',es,ep,jF,fq,_⟩,_⟩:=I.loc;rw[z,jF]at ho;cases ho;rw[fq]at hd;cases hd
theorem Inv.g_(I:Inv X pins σ H s):s.heap.FunFrames X.base X.outer:=by
 have all: ∀(l:List Env),(∀b∈fS l,b∈X.fs)->X.s₀.heap.FunFrames X.base l->s.heap.FunFrames X.base l:=by
  intro l
  induction l with
  |nil=>intro _ _;trivial
  |cons env r ih=>
   intro hs hl;obtain⟨hk,⟨L,o,hf,hn,ho,hd⟩,hr⟩:=hl;have hL:L∈X.fs:=hs L (by unfold fS;rw[Ft,hf];exact iT);obtain⟨sl,e⟩:=I.base.slot L o ho (I.ok.kQ L hL) hL λ z=>I.ok.oE L z hL;exact⟨hk,⟨L,_,hf,hn,e,hd⟩,ih (λ b hb=>hs b (by unfold fS;rw[Ft,hf];exact gi _ hb)) hr⟩
 exact all X.outer (λ _ hb=>hb) I.ok.g_
theorem Inv.stack(I:Inv X pins σ H s):s.heap.FunFrames X.base X.stack:=by
 rcases I.ok.sS with e|⟨e,hf⟩
 ·rw[e];exact I.g_
 ·rw[e];obtain⟨m,hn,_⟩:=I.loc;refine .cons (by rw[I.ok.kind];decide) hf hn ?_ I.g_;exact Heap.get?_none_of_le (bY I.ok.kR I.ok.above)
def Inv.xU(I:Inv X pins σ H s): ∀b∈fS X.stack,b∈X.env.locals::X.fs:=λ b hb=>by
 rcases I.ok.sS with e|⟨e,hf⟩
 ·rw[e]at hb;exact gi _ hb
 ·rw[e]at hb;unfold fS at hb;rw[Ft,hf]at hb;exact hb
def Inv.NX(I:Inv X pins σ H s): ∀b∈fS X.stack,H b=none:=λ b hb=>by
 rcases bV.mp (I.xU b hb)with e|hb
 ·rw[e];exact I.free
 ·obtain⟨_,o,ho,_⟩:=I.ok.g_.mem hb;exact I.base.free b o ho (I.ok.kQ b hb) λ z=>I.ok.oE b z hb
def Inv.step{g':Array GenState}{t':Nat}{d':Drawn}{ch:List Addr}(I:Inv X pins σ H s)
  (jh: ∀b∈ch,(b∈X.ex\/X.s₀.heap.objs.size<=b)/\b≠X.env.locals/\(∀x c,X.env.cells.lookup x=some c->c≠b)/\ ∀p∈X.pn++pins,p.1≠b)
  (keep: ∀b o,b≠X.env.locals->b∉X.fs->b∉ch->s.heap.get? b=some o->H b=none->h'.get? b=some o)
  (slot: ∀b o,b≠X.env.locals->b∈X.fs->b∉ch->s.heap.get? b=some o->H b=none-> ∃sl,h'.get? b=some {o with slots:=sl})(free: ∀b o,b∉ch->s.heap.get? b=some o->H b=none->H' b=none)
  (there: ∀b o,b∉ch->s.heap.get? b=some o-> ∃o',h'.get? b=some o')
  (mT: ∀b xs,H b=some (.tup xs)->H' b=some (.tup xs))(kJ: ∀b o u,H b=some (.bM o u)->H' b=some (.bM o u))(mU: ∀b ps,H b=some (.qF ps)-> ∃more,H' b=some (.qF (ps++more)))
  (ns: ∀m,s.heap.Ns X.env.locals m->h'.Ns X.env.locals m)(ax:cU X.prog X.w H' h')(hg:AllBare g'):
  Inv X pins σ H' {s with heap:=h',gens:=g',drawn:=d',toks:=t'}:=by
 have To: ∀b o,X.s₀.heap.get? b=some o->b≠X.env.locals:=λ b o e=>ek (dJ (cz e) I.ok.above);have Dl: ∀b o,X.s₀.heap.get? b=some o->b∉X.ex->b∉ch:=λ b o e hx hb=>by
  rcases(jh b hb).1 with z|z
  ·exact hx z
  ·exact absurd (dJ (cz e) z) (k8 _)
 have cellK: ∀x c,X.env.cells.lookup x=some c-> ∀v,s.heap.IsCell c v->h'.IsCell c v:=λ x c e v ⟨o,ho,hd⟩=>by
  have zq:c∉ch:=λ z=>(jh c z).2.2.1 x c e rfl;by_cases hc:c∈X.fs
  ·obtain⟨sl,q⟩:=slot c o (I.tO x c e) hc zq ho (I.gN x c e);exact⟨_,q,hd⟩
  ·exact⟨o,keep c o (I.tO x c e) hc zq ho (I.gN x c e),hd⟩
 refine⟨I.ok,I.os,hg,⟨λ b o e n hb hx=>?_,λ b o e n hb hx=>?_,λ b o e n hx=>?_,λ b o e hx=>?_,λ b xs e=>mT b xs (I.base.mT b xs e),λ b o xs e=>kJ b o xs (I.base.kJ b o xs e),λ b ps e=>?_⟩,?_,λ x c e=>?_,?_,λ x c e=>?_,λ p hp=>?_,ax,I.len⟩
 ·exact keep b o (To b o e) hb (Dl b o e hx) (I.base.keep b o e n hb hx) (I.base.free b o e n hx)
 ·obtain⟨sl,e1⟩:=I.base.slot b o e n hb hx;obtain⟨sl',e2⟩:=slot b _ (To b o e) hb (Dl b o e hx) e1 (I.base.free b o e n hx);exact⟨sl',e2⟩
 ·obtain⟨o',e1⟩:=I.base.there b o e hx;exact free b o' (Dl b o e hx) e1 (I.base.free b o e n hx)
 ·obtain⟨o',e1⟩:=I.base.there b o e hx;exact there b o' (Dl b o e hx) e1
 ·obtain⟨m1,e1⟩:=I.base.mU b ps e;obtain⟨m2,e2⟩:=mU b _ e1;exact⟨m1++m2,by rw[e2,Array.append_assoc]⟩
 ·obtain⟨m,hn,hl⟩:=I.loc;refine⟨m,ns m hn,λ i x v e1 e2 e3=>?_⟩;obtain⟨u,r,l⟩:=hl i x v e1 e2 e3;refine⟨u,r,?_⟩;rcases l with l|⟨k,c,e,z⟩
  ·exact .inl l
  ·exact .inr ⟨k,c,e,cellK x c e _ z⟩
 ·obtain⟨v,z⟩:=I.cell x c e;exact⟨v,cellK x c e v z⟩
 ·obtain⟨m,⟨o,_,_,ho,_⟩,_⟩:=I.loc;exact free _ o (λ z=>(jh _ z).2.1 rfl) ho I.free
 ·obtain⟨v,o,ho,hd⟩:=I.cell x c e;exact free c o (λ z=>(jh c z).2.2.1 x c e rfl) ho (I.gN x c e)
 ·obtain⟨e,n,ne,nf,d⟩:=I.pin p hp;have zq:p.1∉ch:=λ z=>(jh p.1 z).2.2.2 p hp rfl;exact⟨keep p.1 p.2 ne nf zq e n,free p.1 p.2 zq e n,ne,nf,d⟩
def Inv.un{t':Nat}(I:Inv X pins σ H s)(u:Un X.fs [] H H' s.heap h')(ax:cU X.prog X.w H' h'):Inv X pins σ H' {s with heap:=h',toks:=t'}:=by
 obtain⟨m,⟨o,es,ep,ho,r⟩,_⟩:=id I.loc;obtain⟨sl,hL⟩:=u.any ho I.free (by simp);exact I.step (g':=s.gens) (d':=s.drawn) (ch:=[]) (λ _ z=>nomatch z) (λ b o _ hb _ e n=>u.keep b o e n hb (by simp)) (λ b o _ hb _ e n=>u.slot b o e n hb (by simp)) (λ b o _ e n=>u.free b o e n (by simp)) (λ b o _ e=>u.there b o e (by simp)) u.mT u.kJ u.mU (λ m' hm=>by obtain⟨o',l9,l_,jF,r'⟩:=hm;rw[ho]at jF;cases jF;exact⟨_,l9,l_,hL,r'⟩) ax I.bare
def Inv.call{g':Array GenState}{t':Nat}{d':Drawn}{ch:List Addr}(I:Inv X pins σ H s)(u:Un (fS X.stack) ch H H' s.heap h')(ax:cU X.prog X.w H' h')(hg:AllBare g')
  (jh: ∀b∈ch,(b∈X.ex\/X.s₀.heap.objs.size<=b)/\b≠X.env.locals/\(∀x c,X.env.cells.lookup x=some c->c≠b)/\ ∀p∈X.pn++pins,p.1≠b):
  Inv X pins σ H' {s with heap:=h',gens:=g',drawn:=d',toks:=t'}:=by
 obtain⟨m,⟨o,es,ep,ho,r⟩,_⟩:=id I.loc;obtain⟨sl,hL⟩:=u.any ho I.free λ z=>(jh _ z).2.1 rfl;exact I.step (ch:=ch) jh (λ b o hL hb hc e n=>u.keep b o e n (λ z=>(bV.mp (I.xU b z)).elim hL hb) hc) (λ b o _ _ hc e n=>u.any e n hc) (λ b o hc e n=>u.free b o e n hc) (λ b o hc e=>u.there b o e hc) u.mT u.kJ u.mU (λ m' hm=>by obtain⟨o',l9,l_,jF,r'⟩:=hm;rw[ho]at jF;cases jF;exact⟨_,l9,l_,hL,r'⟩) ax hg
def Inv.turned{t':Nat}{it:Addr}(I:Inv X pins σ H s)(k: ∀b o,b≠it->s.heap.get? b=some o->h'.get? b=some o)(hn:H it=none)(hL:it≠X.env.locals)
  (h1:it∈X.ex\/X.s₀.heap.objs.size<=it)(h2: ∀x c,X.env.cells.lookup x=some c->c≠it)(h3: ∀p∈X.pn++pins,p.1≠it):Inv X pins σ H {s with heap:=h',toks:=t'}:=by
 have qK: ∀b u,H b=some u->b≠it:=λ b u e z=>by rw[z,hn]at e;cases e
 refine I.step (g':=s.gens) (d':=s.drawn) (ch:=[it]) (λ b hb=>?_) (λ b o _ _ hc e _=>k b o (λ z=>hc (by simp[z])) e) (λ b o _ _ hc e _=>⟨o.slots,k b o (λ z=>hc (by simp[z])) e⟩) (λ _ _ _ _ n=>n)
  (λ b o hc e=>⟨o,k b o (λ z=>hc (by simp[z])) e⟩) (λ _ _ e=>e) (λ _ _ _ e=>e) (λ b ps e=>⟨#[],by rw[e];simp⟩) (λ m hm=>?_) (λ b u e=>?_) I.bare
 ·have e:b=it:=by simpa using hb
  subst e;exact⟨h1,hL,h2,h3⟩
 ·obtain⟨o,es,ep,ho,r⟩:=hm;exact⟨o,es,ep,k _ o (mq hL) ho,r⟩
 ·refine(I.ax b u e).lL (λ c v hc q=>k c v ?_ q) (λ _ q=>q) λ _ _ q=>q;rcases hc with z|z
  ·rw[z];exact qK b u e
  ·exact qK c _ z
def Inv.tok(I:Inv X pins σ H s)(t:Nat):Inv X pins σ H {s with toks:=t}:=I.un (h':=s.heap) (t':=t) Un.refl I.ax
theorem Inv.kept(I:Inv X pins σ H s)(k: ∀b u,s.heap.get? b=some u->h'.get? b=some u):Inv X pins σ H {s with heap:=h',toks:=t'}:=I.un (Un.kept k) (I.ax.kept k)
theorem Inv.laid(I:Inv X pins σ H s)(k: ∀b u,s.heap.get? b=some u->h'.get? b=some u)(hp:s.heap.objs.size<=a)(new:dy X.prog X.w (upd H a o) h' a o):
  Inv X pins σ (upd H a o) {s with heap:=h',toks:=t'}:=I.un (Un.laid k hp (I.ax.fresh hp)) (I.ax.laid k hp new)
theorem Inv.write(I:Inv X pins σ H s)(mu:qY (H x))(he:e=x\/H e=some (.own x))(k: ∀b u,b≠e->s.heap.get? b=some u->h'.get? b=some u)(wc: ∃u,h'.get? e=some u)
  (new:dy X.prog X.w (upd H x o) h' x o):Inv X pins σ (upd H x o) {s with heap:=h',toks:=t'}:=I.un (Un.write mu he k wc) (I.ax.write mu he k wc new)
def Inv.weak(I:Inv X pins σ H s)(hl:σ'.length=σ.length)(w: ∀(i:Nat)v,σ'[i]?=some (some v)->σ[i]?=some (some v)):Inv X pins σ' H s:=
 ⟨I.ok,I.os,I.bare,I.base,let⟨m,hn,iM⟩:=I.loc;⟨m,hn,λ i x v e1 e2 e3=>iM i x v e1 (w i v e2) e3⟩,I.cell,I.free,I.gN,I.pin,I.ax,hl.trans I.len⟩
def Inv.Oo(I:Inv X pins σ H s)(h: ∀p∈HZ,s.heap.get? p.1=some p.2/\H p.1=none/\p.1≠X.env.locals/\p.1∉X.fs/\ ∀v,p.2.data≠ .cell v):Inv X HZ σ H s:=
 ⟨I.ok,I.os,I.bare,I.base,I.loc,I.cell,I.free,I.gN,λ p hp=>(bJ.mp hp).elim (λ z=>I.pin p (eZ _ z)) (h p),I.ax,I.len⟩
def GN{N:List Str}(hN:N.Nodup){i j:Nat}{x:Str}(a:N[i]?=some x)(b:N[j]?=some x):i=j:=by obtain⟨h1,e1⟩:=bC.mp a;obtain⟨h2,e2⟩:=bC.mp b;exact(List.getElem_inj hN).mp (e1.trans e2.symm)
def Mh{M:Model}{A:Around}{E:Value->Shared->Prop}{i:Nat}{x:Str}{v:V}{u:Value}{Q:Unit->Shared->Prop}(I:Inv X pins σ H s)(hN:X.N.Nodup)(hi:X.N[i]?=some x)(hx:Loc X.env.scope x)(r:RelV v u)
  (h: ∀s',Inv X pins (σ.set i (some v)) H s'->(∃a,Heap.SameBut a s.heap s'.heap/\(a=X.env.locals\/X.env.cells.lookup x=some a))->Q () s')(hf:X.fn x=true\/X.env.scope.names.lookup x=some .local:=by first|exact .inl rfl|exact .inr rfl|assumption):wpAny M A (storeName X.env x u) Q E s:=by
 obtain⟨m,hn,hl⟩:=id I.loc;have afz:(X.env.scope.kind== .class||(X.env.scope.kind== .module&&X.env.locals != X.env.globals))=false:=by rw[I.ok.kind];rfl
 have Uq:i<σ.length:=by rw[I.len];exact(bC.mp hi).1
 have tO:=I.tO;have tracked: ∀{a:Addr}{h':Heap},(∃o,s.heap.get? a=some o/\H a=none)->Heap.SameBut a s.heap h'->cU X.prog X.w H h':=λ{a h'}ha hs b ob e=>by
  obtain⟨_,_,p9⟩:=ha;refine(I.ax b ob e).lL (λ c w' hc q=>(hs.2 c ?_).trans q) (λ _ q=>q) λ _ _ q=>q;rintro rfl;rcases hc with rfl|hc
  ·rw[p9]at e;cases e
  ·rw[p9]at hc;cases hc
 rcases hx with hk|hk
 ·refine wpAny_storeName_local hk hn (λ h' qP hs=>?_) afz;obtain⟨oL,_,_,hoL,_⟩:=id hn;refine h _ ⟨I.ok,I.os,I.bare,⟨λ b o e n hb hx=>?_,λ b o e n hb hx=>?_,I.base.free,λ b o e hx=>?_,I.base.mT,I.base.kJ,I.base.mU⟩,⟨_,qP,λ j y v' e1 e2 e3=>?_⟩,λ y c e=>?_,I.free,I.gN,λ p hp=>?_,tracked ⟨oL,hoL,I.free⟩ hs,by simpa using I.len⟩ ⟨_,hs,.inl rfl⟩
  ·exact(hs.2 b (ek (dJ (cz e) I.ok.above))).trans (I.base.keep b o e n hb hx)
  ·obtain⟨sl,e1⟩:=I.base.slot b o e n hb hx;exact⟨sl,(hs.2 b (ek (dJ (cz e) I.ok.above))).trans e1⟩
  ·obtain⟨o',e1⟩:=I.base.there b o e hx;exact⟨o',(hs.2 b (ek (dJ (cz e) I.ok.above))).trans e1⟩
  ·by_cases hj:j=i
   ·subst hj;rw[hi]at e1;cases e1;rw[FA Uq]at e2;cases e2;exact⟨u,r,.inl ⟨hk,by simp⟩⟩
   ·rw[Fw (mq hj)]at e2;obtain⟨u',r',q⟩:=hl j y v' e1 e2 e3;refine⟨u',r',?_⟩;rcases q with⟨k,e⟩|⟨k,c,e,z⟩
    ·refine .inl ⟨k,?_⟩;have:y≠x:=λ e=>hj (GN hN e1 (e▸hi));simp[this,e]
    ·exact .inr ⟨k,c,e,z.sameBut hs (tO y c e)⟩
  ·obtain⟨w',z⟩:=I.cell y c e;exact⟨w',z.sameBut hs (tO y c e)⟩
  ·obtain⟨e,n,ne,nf,d⟩:=I.pin p hp;exact⟨(hs.2 p.1 ne).trans e,n,ne,nf,d⟩
 ·have Kg:X.fn x=true:=by
   rcases hf with z|z
   ·exact z
   ·rw[z]at hk;cases hk
  obtain⟨c,hc⟩:=I.ok.has x (.inl hk);obtain⟨w',z⟩:=I.cell x c hc;refine wpAny_storeName_cell I.ok.kind hk hc z (λ h' we hs=>?_);obtain⟨oc,Uc,afp⟩:=id z;refine h {s with heap:=h'} ⟨I.ok,I.os,I.bare,⟨λ b o e n hb hx=>?_,λ b o e n hb hx=>?_,I.base.free,λ b o e hx=>?_,I.base.mT,I.base.kJ,I.base.mU⟩,⟨m,hn.sameBut hs (mq (tO x c hc)),λ j y v' e1 e2 e3=>?_⟩,λ y c' e=>?_,I.free,I.gN,λ p hp=>?_,tracked ⟨oc,Uc,I.gN x c hc⟩ hs,by simpa using I.len⟩ ⟨c,hs,.inr hc⟩
  ·exact(hs.2 b (ek (dJ (cz e) (I.ok.qV x c Kg hc)))).trans (I.base.keep b o e n hb hx)
  ·obtain⟨sl,e1⟩:=I.base.slot b o e n hb hx;exact⟨sl,(hs.2 b (ek (dJ (cz e) (I.ok.qV x c Kg hc)))).trans e1⟩
  ·obtain⟨o',e1⟩:=I.base.there b o e hx;exact⟨o',(hs.2 b (ek (dJ (cz e) (I.ok.qV x c Kg hc)))).trans e1⟩
  ·by_cases hj:j=i
   ·subst hj;rw[hi]at e1;cases e1;rw[FA Uq]at e2;cases e2;exact⟨u,r,.inr ⟨.inl hk,c,hc,we⟩⟩
   ·rw[Fw (mq hj)]at e2;obtain⟨u',r',q⟩:=hl j y v' e1 e2 e3;refine⟨u',r',?_⟩;rcases q with q|⟨k,c',e,z'⟩
    ·exact .inl q
    ·refine .inr ⟨k,c',e,z'.sameBut hs ?_⟩;rintro rfl;exact hj (GN hN e1 (I.ok.inj _ _ _ e hc▸hi))
  ·by_cases eV:c'=c
   ·subst eV;exact⟨_,we⟩
   ·obtain⟨w2,z2⟩:=I.cell y c' e;exact⟨w2,z2.sameBut hs eV⟩
  ·obtain⟨e,n,ne,nf,d⟩:=I.pin p hp;refine⟨(hs.2 p.1 ?_).trans e,n,ne,nf,d⟩;intro q;rw[q,Uc]at e;have q':oc=p.2:=dI e;exact d w' (by rw[<- q'];exact afp)
def GA(I:Inv X pins σ H s)(hN:X.N.Nodup)(hi:X.N[i]?=some x)(hx:Loc X.env.scope x)(r:RelV v u)
  (h: ∀s',Inv X pins (σ.set i (some v)) H s'->Q () s')(hf:X.fn x=true\/X.env.scope.names.lookup x=some .local:=by first|exact .inl rfl|exact .inr rfl|assumption):wpAny M A (storeName X.env x u) Q E s:=
 Mh I hN hi hx r (λ s' I' _=>h s' I') hf
def Inv.Cp(I:Inv X pins σ H s)(ho:s'.os=s.os)(u:Un (fS X.stack) ch H H' s.heap s'.heap)(ax:cU X.prog X.w H' s'.heap)(hg:AllBare s'.gens)
  (jh: ∀b∈ch,(b∈X.ex\/X.s₀.heap.objs.size<=b)/\b≠X.env.locals/\(∀x c,X.env.cells.lookup x=some c->c≠b)/\ ∀p∈X.pn++pins,p.1≠b):Inv X pins σ H' s':=by
 obtain⟨h',g',d',t',o'⟩:=s';have e:o'=s.os:=ho;subst e;exact I.call (g':=g') (t':=t') (d':=d') u ax hg jh
end
abbrev XK:=Value->Option Addr->Hp->Prop
abbrev St:=List (Option V)
abbrev VK:=V->Hp->Prop
abbrev TE:=St->Hp->VK->Prop
abbrev TT:=St->Hp->(Bool->Hp->Prop)->Prop
abbrev TA:=St->Hp->(List V->Hp->Prop)->Prop
structure Ends where
 nx:St->Hp->Prop
 rt:VK
 bk:St->Hp->Prop:=λ _ _=>False
 ct:St->Hp->Prop:=λ _ _=>False
abbrev TS:=Ends->St->Hp->Prop
def EP(X:Cx)(pins:List (Addr×Obj))(σ:St)(Q:VK)(u:Value)(s':Shared):Prop:=∃v H',Inv X pins σ H' s'/\RelV v u/\Q v H'
def TP(X:Cx)(pins:List (Addr×Obj))(σ:St)(Q:Bool->Hp->Prop)(b:Bool)(s':Shared):Prop:=∃H',Inv X pins σ H' s'/\Q b H'
def AP(X:Cx)(pins:List (Addr×Obj))(σ:St)(Q:List V->Hp->Prop)(us:List Value)(s':Shared):Prop:=∃vs H',Inv X pins σ H' s'/\Vals vs us/\Q vs H'
def SP(X:Cx)(pins:List (Addr×Obj))(D:Ends)(f:Flow)(s':Shared):Prop:=
 match f with
 | .next=>∃σ' H',Inv X pins σ' H' s'/\D.nx σ' H'
 | .brk=>∃σ' H',Inv X pins σ' H' s'/\D.bk σ' H'
 | .cont=>∃σ' H',Inv X pins σ' H' s'/\D.ct σ' H'
 | .ret u=>∃v σ' H',Inv X pins σ' H' s'/\RelV v u/\D.rt v H'
def PE(X:Cx)(e:Expr)(t:TE):Prop:=
 ∀(pins:List (Addr×Obj))(s:Shared)(σ:St)(H:Hp)(Q:VK),Inv X pins σ H s->t σ H Q->wpAny (model X.prog X.w) X.A (eval e X.env) (EP X pins σ Q) X.xe s
def PT(X:Cx)(e:Expr)(t:TT):Prop:=
 ∀(pins:List (Addr×Obj))(s:Shared)(σ:St)(H:Hp)(Q:Bool->Hp->Prop),Inv X pins σ H s->t σ H Q->wpAny (model X.prog X.w) X.A (isTrue e X.env (eval e X.env)) (TP X pins σ Q) X.xe s
def PW(X:Cx)(e:Expr)(t:TT):Prop:=
 ∀(whole:Sem Value)(pins:List (Addr×Obj))(s:Shared)(σ:St)(H:Hp)(Q:Bool->Hp->Prop),Inv X pins σ H s->t σ H Q->wpAny (model X.prog X.w) X.A (isTrue e X.env whole) (TP X pins σ Q) X.xe s
def PW.pt(h:PW X e t):PT X e t:=h _
def PA(X:Cx)(es:List Expr)(t:TA):Prop:=
 ∀(pos:Pos)(pins:List (Addr×Obj))(s:Shared)(σ:St)(H:Hp)(Q:List V->Hp->Prop),Inv X pins σ H s->t σ H Q->wpAny (model X.prog X.w) X.A (spliced (backTo pos (starEach es X.env))) (AP X pins σ Q) X.xe s
def PS(X:Cx)(st:Stmt)(t:TS):Prop:=
 ∀(pins:List (Addr×Obj))(s:Shared)(σ:St)(H:Hp)(D:Ends),Inv X pins σ H s->t D σ H->wpAny (model X.prog X.w) X.A (exec st X.env) (SP X pins D) X.xe s
def eX(X:Cx)(st:List Stmt)(t:TS):Prop:=
 ∀(pins:List (Addr×Obj))(s:Shared)(σ:St)(H:Hp)(D:Ends),Inv X pins σ H s->t D σ H->wpAny (model X.prog X.w) X.A (execs st X.env) (SP X pins D) X.xe s
def aF(h:wpAny M A t Q E s)(hQ: ∀a s,Q a s->Q' a s):wpAny M A t Q' E s:=iq h hQ λ _ _ x=>x
def EP.e{C:Prop}{X:Cx}{pins:List (Addr×Obj)}{σ:St}{Q:VK}{u:Value}{s:Shared}(h:EP X pins σ Q u s)(k: ∀v H,Inv X pins σ H s->RelV v u->Q v H->C):C:=h.elim λ v h=>h.elim λ H h=>k v H h.1 h.2.1 h.2.2
def TP.e{C:Prop}{X:Cx}{pins:List (Addr×Obj)}{σ:St}{Q:Bool->Hp->Prop}{u:Bool}{s:Shared}(h:TP X pins σ Q u s)(k: ∀H,Inv X pins σ H s->Q u H->C):C:=h.elim λ H h=>k H h.1 h.2
def AP.e{C:Prop}{X:Cx}{pins:List (Addr×Obj)}{σ:St}{Q:List V->Hp->Prop}{u:List Value}{s:Shared}(h:AP X pins σ Q u s)(k: ∀v H,Inv X pins σ H s->Vals v u->Q v H->C):C:=h.elim λ v h=>h.elim λ H h=>k v H h.1 h.2.1 h.2.2
end
section
section
variable{X:Cx}
def fH(i:Nat):TE:=λ σ H Q=>∃v,σ[i]?=some (some v)/\Q v H
def tC(v:V):TE:=λ _ H Q=>Q v H
def acf(hN:X.N[i]?=some x)(hv:wq X.env.scope x)(hd:(x==("__debug__" :Str))=false:=by decide)(l7:(x==("__classdict__" :Str))=false:=by decide):PE X (.Name x pos) (fH i):=by
 intro pins s σ H Q I h;obtain⟨v,e,h⟩:=h;obtain⟨m,hn,hl⟩:=I.loc;obtain⟨u,r,l⟩:=hl i x v hN e hv;have fin:EP X pins σ Q u s:=⟨v,H,I,r,h⟩;rcases l with⟨hk,hm⟩|⟨hk,c,hc,Cm⟩
 ·exact wpAny_Name (wpAny_loadName_local I.ok.kind hk hn hm fin) hd
 ·rcases hk with hk|hk
  ·exact wpAny_Name (wpAny_loadName_cell I.ok.kind hk hc Cm fin) hd
  ·exact wpAny_Name (wpAny_loadName_free I.ok.kind hk hc Cm fin l7) hd
def af{i j pos}:PE X (.Constant (.int i) j pos) (tC (.int i)):=λ _ _ _ H _ I h=>wpAny_Constant_int ⟨.int i,H,I.tok _,⟨_,rfl⟩,h⟩
def gY{b j pos}:PE X (.Constant (.bool b) j pos) (tC (.bl b)):=λ _ _ _ H _ I h=>Constant_bool ⟨.bl b,H,I,rfl,h⟩
def xV{j pos}:PE X (.Constant .none j pos) (tC .aG):=λ _ _ _ H _ I h=>Constant_none ⟨.aG,H,I,rfl,h⟩
def du{x j pos}:PE X (.Constant (.str x) j pos) (tC (.str x)):=λ _ _ _ H _ I h=>Calls.Constant_str ⟨.str x,H,I.tok _,⟨_,rfl⟩,h⟩
def Gl(X:Cx)(x:Str):Prop:=X.env.kindOf x=some .globalImplicit
def u0(I:Inv X pins σ H s)(hg:Gl X x)(hm:X.mg x=some u)(h:Q u s)
  (hd:(x==("__debug__" :Str))=false:=by decide):wpAny (model X.prog X.w) X.A (eval (.Name x pos) X.env) Q E s:=
 Calls.Name_function_global I.ok.kind hg (Calls.loadGlobal_global (by rw[I.ok.glob];exact I.mod.glob.keeps I.bk) hm h) hd
def rY(I:Inv X pins σ H s)(hg:Gl X x)(hm:X.mg x=none)(hv:bootBuiltins x=some u)(h:Q u s)
  (hn:x≠"__name__":=by decide)(hd:(x==("__debug__" :Str))=false:=by decide):wpAny (model X.prog X.w) X.A (eval (.Name x pos) X.env) Q E s:=by
 obtain⟨mb,h1,h2⟩:=I.mod.blt;exact Calls.Name_function_global I.ok.kind hg (Calls.loadGlobal_builtin (by rw[I.ok.glob];exact I.mod.glob.keeps I.bk) hm (by rw[I.ok.blt];exact h1.keeps I.bk) ((h2 x hn).trans hv) h) hd
def Ot(hg:Gl X x)(hm:X.mg x=some u)(r:RelV v u)(hd:(x==("__debug__" :Str))=false:=by decide):PE X (.Name x pos) (tC v):=
 λ _ _ _ H _ I h=>u0 I hg hm ⟨v,H,I,r,h⟩ hd
variable{a b:Expr}{ta tb:TE}{pos:Pos}
def PC(X:Cx)(op:CmpOp)(a b:Expr)(t:TE):Prop:=
 ∀(pins:List (Addr×Obj))(s:Shared)(σ:St)(H:Hp)(Q:VK),Inv X pins σ H s->t σ H Q->
  wpAny (model X.prog X.w) X.A (eval a X.env) (λ v s₁=>wpAny (model X.prog X.w) X.A (eval b X.env) (λ u s₂=>wpAny (model X.prog X.w) X.A (compareOp op v u) (EP X pins σ Q) X.xe s₂) X.xe s₁) X.xe s
def Zz(b:Expr)(h:op≠ .In)(h2:op≠ .NotIn):behindInMarks op b=false:=by
 have e1:(op==CmpOp.In)=false:=by cases op<;>first|rfl|exact absurd rfl h
 have e2:(op==CmpOp.NotIn)=false:=by cases op<;>first|rfl|exact absurd rfl h2
 cases b<;>simp[behindInMarks,e1,e2]
def Rp(ta:TE):TE:=λ σ H Q=>ta σ H λ x H1=>Q (.bl (decide (x= .aG))) H1
def PY(ta:TE):TE:=λ σ H Q=>ta σ H λ x H1=>Q (.bl (!decide (x= .aG))) H1
theorem RelV.Nn(r:RelV x v):(v==Value.none)=decide (x= .aG):=by
 cases x with
 |aG=>cases r;rfl
 |bl _=>cases r;rfl
 |int _=>obtain⟨t,rfl⟩:=r;rfl
 |str _=>obtain⟨t,rfl⟩:=r;rfl
 |j5 _=>obtain⟨t,rfl⟩:=r;rfl
 |zX _=>obtain⟨t,rfl⟩:=r;rfl
 |ref _=>cases r;rfl
 |ty _=>cases r;rfl
def Pd{j pos'}(ha:PE X a ta):PC X .Is a (.Constant .none j pos') (Rp ta):=by intro pins s σ H Q I h;refine aF (ha pins s σ H _ I h) λ v s1 z_=>z_.e λ x H1 I1 r1 q1=>?_;exact Constant_none (is_none_gen ⟨.bl _,H1,I1,by rw[r1.Nn];rfl,q1⟩)
def aaB{j pos'}(ha:PE X a ta):PC X .IsNot a (.Constant .none j pos') (PY ta):=by intro pins s σ H Q I h;refine aF (ha pins s σ H _ I h) λ v s1 z_=>z_.e λ x H1 I1 r1 q1=>?_;exact Constant_none (isnot_none_gen ⟨.bl _,H1,I1,by rw[r1.Nn];rfl,q1⟩)
def tB(t:TE):TT:=λ σ H Q=>t σ H λ x H1=>∃c,x= .bl c/\Q c H1
def vd{op:CmpOp}{t:TE}(h:PC X op a b t)(h1:behindInMarks op b=false:=by first|exact Zz _ (by decide) (by decide)|rfl):PT X (.Compare a [op] [b] pos) (tB t):=by intro pins s σ H Q I hw;refine wpAny_isTrue_Compare1 (aF (h pins s σ H _ I hw) λ v s1 h1=>aF h1 λ u s2 h2=>aF h2 λ c s3 z_=>z_.e λ x H1 I1 r1 q1=>?_) h1;obtain⟨d,rfl,q⟩:=q1;cases r1;exact rG ⟨H1,I1,q⟩
def gJ{e:Expr}{t:TE}(h:PE X e t)(he: ∀whole,isTrue e X.env whole=(do let v <- whole;standAt e.pos;holding [v] (truthy v)):=by intro _;rfl):PT X e (tB t):=by intro pins s σ H Q I hw;refine isTrue_plain (aF (h pins s σ H _ I hw) λ v s1 z_=>z_.e λ x H1 I1 r1 q1=>?_) (he _);obtain⟨d,rfl,q⟩:=q1;cases r1;exact rG ⟨H1,I1,q⟩
variable{tA C6:TT}{rest:List Expr}
def Rw(t u:TT):TT:=λ σ H Q=>t σ H λ c H1=>if c=true then u σ H1 Q else Q false H1
def SN(t u:TT):TT:=λ σ H Q=>t σ H λ c H1=>if c=true then Q true H1 else u σ H1 Q
def Ro(t:TT):TT:=λ σ H Q=>t σ H λ c H1=>Q (!c) H1
theorem uY(ha:PT X a tA):PW X (.BoolOp .And [a] pos) tA:=by
 intro wh pins s σ H Q I h;refine isTrue_and (aF (ha pins s σ H Q I h) λ c s1 e=>?_);cases c with
 |true=>exact isTrue_and_nil e
 |false=>exact e
theorem jv(ha:PT X a tA):PW X (.BoolOp .Or [a] pos) tA:=by
 intro wh pins s σ H Q I h;refine isTrue_or (aF (ha pins s σ H Q I h) λ c s1 e=>?_);cases c with
 |false=>exact isTrue_or_nil e
 |true=>exact e
theorem vc(ha:PT X a tA)(hb:PW X (.BoolOp .And (b::rest) pos) C6):PW X (.BoolOp .And (a::b::rest) pos) (Rw tA C6):=by
 intro wh pins s σ H Q I h;refine isTrue_and (aF (ha pins s σ H _ I h) λ c s1 z_=>z_.e λ H1 I1 q1=>?_);cases c with
 |true=>exact hb wh pins s1 σ H1 Q I1 q1
 |false=>exact⟨H1,I1,q1⟩
theorem gX(ha:PT X a tA)(hb:PW X (.BoolOp .Or (b::rest) pos) C6):PW X (.BoolOp .Or (a::b::rest) pos) (SN tA C6):=by
 intro wh pins s σ H Q I h;refine isTrue_or (aF (ha pins s σ H _ I h) λ c s1 z_=>z_.e λ H1 I1 q1=>?_);cases c with
 |true=>exact⟨H1,I1,q1⟩
 |false=>exact hb wh pins s1 σ H1 Q I1 q1
def iB(ha:PT X a tA):PT X (.UnaryOp .Not a pos) (Ro tA):=by intro pins s σ H Q I h;exact isTrue_not (ha pins s σ H (λ c H1=>Q (!c) H1) I h)
def P4(ta tb:TE):TE:=λ σ H Q=>ta σ H λ x H1=>∃c,x= .bl c/\if c=true then tb σ H1 Q else Q (.bl false) H1
def HG{op}(h:PE X a t):PE X (.BoolOp op [a] pos) t:=λ pins s σ H Q I hw=>BoolOp_one (h pins s σ H Q I hw)
theorem HI(ha:PE X a ta)(hb:PE X (.BoolOp .And (b::rest) pos) tb):PE X (.BoolOp .And (a::b::rest) pos) (P4 ta tb):=by
 intro pins s σ H Q I h;refine BoolOp_and (aF (ha pins s σ H _ I h) λ v s1 z_=>z_.e λ x H1 I1 r1 q1=>?_);obtain⟨c,rfl,q1⟩:=q1;cases r1;refine rG ?_;cases c with
 |true=>exact hb pins s1 σ H1 Q I1 q1
 |false=>exact⟨.bl false,H1,I1,rfl,q1⟩
def SO(t:TT)(ta tb:TE):TE:=λ σ H Q=>t σ H λ c H1=>if c=true then ta σ H1 Q else tb σ H1 Q
theorem iY{c:Expr}(hc:PT X c tA)(ha:PE X a ta)(hb:PE X b tb):PE X (.IfExp c a b pos) (SO tA ta tb):=by
 intro pins s σ H Q I h;refine wpAny_IfExp (aF (hc pins s σ H _ I h) λ d s1 z_=>z_.e λ H1 I1 q1=>?_);cases d with
 |true=>exact ha pins s1 σ H1 Q I1 q1
 |false=>exact hb pins s1 σ H1 Q I1 q1
end
end
section
def ah(K:W.Frag)(H:Hp)(a:Addr)(xs:List V):Prop:=
 Rd H a (.lst xs)\/
  ∃(o:Obj)(aw:Array Value)(n:Nat),K.lookup a=some o/\o.cls= .type "list" /\o.dict=none/\o.data= .seq aw n/\aw.size<=sizeLine/\Vals xs aw.toList
def aP(K:W.Frag)(H:Hp)(a:Addr)(xs:List V):Prop:=
 Rd H a (.tup xs)\/
  ∃(o:Obj)(aw:Array Value)(n:Nat),K.lookup a=some o/\o.cls= .type "tuple" /\o.data= .seq aw n/\aw.size<=sizeLine/\Vals xs aw.toList
noncomputable def afM:Value->Option V
 | .none=>some .aG
 | .bool b=>some (.bl b)
 | .int i _=>some (.int i)
 | .str x _=>some (.str x)
 | .bytes b _=>some (.j5 b)
 | .float b _=>some (.zX b)
 | .ref a=>some (.ref a)
 | .type n=>some (.ty n)
 |_=>none
theorem RelV.abs(r:RelV x u):afM u=some x:=by
 cases x with
 |aG=>cases r;rfl
 |bl _=>cases r;rfl
 |int _=>obtain⟨t,rfl⟩:=r;rfl
 |str _=>obtain⟨t,rfl⟩:=r;rfl
 |j5 _=>obtain⟨t,rfl⟩:=r;rfl
 |zX _=>obtain⟨t,rfl⟩:=r;rfl
 |ref _=>cases r;rfl
 |ty _=>cases r;rfl
def RelV.inj(r:RelV x u)(q:RelV y u):x=y:=dI (r.abs.symm.trans q.abs)
theorem Vals.inj: ∀{xs ys:List V}{us:List Value},Vals xs us->Vals ys us->xs=ys
 |_,_,_,.nil,.nil=>rfl
 |_,_,_,.cons r t,.cons r' t'=>by rw[r.inj r',Vals.inj t t']
section
variable{X:Cx}{pins:List (Addr×Obj)}{σ:St}{H:Hp}{s:Shared}{a:Addr}{xs ys:List V}
def ah.of{K:W.Frag}(h:H a=some (.lst xs)):ah K H a xs:= .inl (.inl h)
def aP.of{K:W.Frag}(h:H a=some (.tup xs)):aP K H a xs:= .inl (.inl h)
def Inv.list(I:Inv X pins σ H s)(h:ah X.K H a xs): ∃aw:List Value,Vals xs aw/\PlainL s.heap a aw.toArray/\xs.length<=sizeLine:=by
 rcases h with h|⟨o,aw,n,hk,hc,hd,hs,hz,r⟩
 ·obtain⟨z,aw,n,r,e⟩:=h.ok I.ax;exact⟨aw,r,⟨_,n,e,rfl,rfl,rfl⟩,z⟩
 ·refine⟨aw.toList,r,⟨o,n,I.gq a o hk,hc,hd,by simpa using hs⟩,?_⟩;have e:=r.length;simp only[lb]at e
  lia
def Inv.tuple(I:Inv X pins σ H s)(h:aP X.K H a xs): ∃aw:List Value,Vals xs aw/\IsTup s.heap a aw.toArray/\xs.length<=sizeLine:=by
 rcases h with h|⟨o,aw,n,hk,hc,hs,hz,r⟩
 ·obtain⟨z,aw,r,p⟩:=h.ok I.ax;exact⟨aw,r,p,z⟩
 ·refine⟨aw.toList,r,⟨o,I.gq a o hk,hc,n,by simpa using hs⟩,?_⟩;have e:=r.length;simp only[lb]at e
  lia
def Inv.GS(I:Inv X pins σ H s)(h:ah X.K H a xs)(h':ah X.K H a ys):xs=ys:=by
 obtain⟨aw,r,⟨o,n,e,_,_,d⟩,_⟩:=I.list h;obtain⟨its',r',⟨o',n',e',_,_,d'⟩,_⟩:=I.list h';rw[e]at e';cases e';rw[d]at d';injection d' with d1 _;have:aw=its':=by simpa using gh Array.toList d1
 subst this;exact r.inj r'
def Inv.Yi(I:Inv X pins σ H s)(h:aP X.K H a xs)(h':aP X.K H a ys):xs=ys:=by
 obtain⟨aw,r,⟨o,e,_,n,d⟩,_⟩:=I.tuple h;obtain⟨its',r',⟨o',e',_,n',d'⟩,_⟩:=I.tuple h';rw[e]at e';cases e';rw[d]at d';injection d' with d1 _;have:aw=its':=by simpa using gh Array.toList d1
 subst this;exact r.inj r'
end
noncomputable abbrev Cx.iF (X:Cx) (E:Value->Shared->Prop):Cx:={X with xe:=E}
noncomputable abbrev Cx.sX (X:Cx):Cx:=X.iF λ _ _=>False
theorem Cx.Ok.iF{X:Cx}(ok:X.Ok)(E:Value->Shared->Prop):(X.iF E).Ok:=
 ⟨ok.mod,ok.kind,ok.glob,ok.blt,ok.above,ok.inj,ok.has,ok.qV,ok.hd,ok.frames,ok.sS,ok.oX,ok.bs,ok.kR,ok.qm,ok.oE,ok.g_,ok.kQ⟩
def Cx.Ok.n0{X:Cx}{E:Value->Shared->Prop}(ok:(X.iF E).Ok):X.Ok:=
 ⟨ok.mod,ok.kind,ok.glob,ok.blt,ok.above,ok.inj,ok.has,ok.qV,ok.hd,ok.frames,ok.sS,ok.oX,ok.bs,ok.kR,ok.qm,ok.oE,ok.g_,ok.kQ⟩
section
variable{X:Cx}{pins:List (Addr×Obj)}{σ:St}{H:Hp}{s:Shared}{E:Value->Shared->Prop}
theorem Inv.iF(I:Inv X pins σ H s)(E:Value->Shared->Prop):Inv (X.iF E) pins σ H s:=⟨I.ok.iF E,I.os,I.bare,I.base,I.loc,I.cell,I.free,I.gN,I.pin,I.ax,I.len⟩
theorem Inv.n0(I:Inv (X.iF E) pins σ H s):Inv X pins σ H s:=⟨I.ok.n0,I.os,I.bare,I.base,I.loc,I.cell,I.free,I.gN,I.pin,I.ax,I.len⟩
theorem SP.n0(h:SP (X.iF E) pins D f s'):SP X pins D f s':=by
 cases f with
 |next=>obtain⟨σ',H',I,q⟩:=h;exact⟨σ',H',I.n0,q⟩
 |brk=>obtain⟨σ',H',I,q⟩:=h;exact⟨σ',H',I.n0,q⟩
 |cont=>obtain⟨σ',H',I,q⟩:=h;exact⟨σ',H',I.n0,q⟩
 |ret u=>obtain⟨v,σ',H',I,r,q⟩:=h;exact⟨v,σ',H',I.n0,r,q⟩
theorem eX.sX{st:List Stmt}{t:TS}(h:eX X.sX st t):eX X st t:=λ pins s σ H D I hw=>
 iq (h pins s σ H D (I.iF _) hw) (λ _ _ q=>q.n0) λ _ _ z=>False.elim z
end
section
variable{X:Cx}{st:Stmt}{rest:List Stmt}{t u:TS}{e:Expr}{te:TE}{pos:Pos}
def PZ:TS:=λ D σ H=>D.nx σ H
def iG(t u:TS):TS:=λ D σ H=>t {D with nx:=u D} σ H
def aM:eX X [] PZ:=λ _ _ σ H _ I h=>wZ ⟨σ,H,I,h⟩
theorem ag(h1:PS X st t)(h2:eX X rest u):eX X (st::rest) (iG t u):=by
 intro pins s σ H D I h;refine wpAny_execs_cons (aF (h1 pins s σ H {D with nx:=u D} I h) λ f s1 q=>?_);cases f with
 |next=>
  obtain⟨σ',H',I',q⟩:=q;exact h2 pins s1 σ' H' D I' q
 |ret v=>exact q
 |brk=>exact q
 |cont=>exact q
theorem ak(h1:PS X st t):eX X [st] t:=by
 intro pins s σ H D I h;refine wpAny_execs_cons (aF (h1 pins s σ H D I h) λ f s1 q=>?_);cases f with
 |next=>exact wZ q
 |ret v=>exact q
 |brk=>exact q
 |cont=>exact q
def Inv.quiet(I:Inv X pins σ H s):interactive X.env=false:=by simp[interactive,I.ok.kind]
def HS(te:TE):TS:=λ D σ H=>te σ H λ _ H1=>D.nx σ H1
def cB(he:PE X e te)(hs:swapsWith e none pos.line X.env=pure false:=by rfl):PS X (.Expr e pos) (HS te):=by intro pins s σ H D I h;exact wpAny_Expr_any (aF (he pins s σ H _ I h) λ v s1 z_=>z_.e λ x H1 I1 r1 q1=>⟨σ,H1,I1,q1⟩) I.quiet hs
def vA(te:TE):TS:=λ D σ H=>te σ H D.rt
def ay(he:PE X e te):PS X (.Return (some e) pos) (vA te):=by intro pins s σ H D I h;exact wpAny_Return_some (aF (he pins s σ H _ I h) λ v s1 z_=>z_.e λ x H1 I1 r1 q1=>⟨x,σ,H1,I1,r1,q1⟩)
def PV:TS:=λ D _ H=>D.rt .aG H
def Ol:PS X (.Return none pos) PV:=λ _ _ σ H _ I h=>wpAny_Return_none ⟨.aG,σ,H,I,rfl,h⟩
def yu(c:TT)(t u:TS):TS:=λ D σ H=>c σ H λ b H1=>if b=true then t D σ H1 else u D σ H1
theorem aI{c:Expr}{a b:List Stmt}{tc:TT}(hc:PT X c tc)(ha:eX X a t)(hb:eX X b u):PS X (.If c a b pos) (yu tc t u):=by
 intro pins s σ H D I h;refine wpAny_If (aF (hc pins s σ H _ I h) λ d s1 z_=>z_.e λ H1 I1 q1=>?_);cases d with
 |true=>exact ha pins s1 σ H1 D I1 q1
 |false=>exact hb pins s1 σ H1 D I1 q1
end
abbrev TG:=V->St->Hp->(St->Hp->Prop)->Prop
abbrev qW:=List V->St->Hp->(St->Hp->Prop)->Prop
def PG(X:Cx)(target:Expr)(t:TG):Prop:=
 ∀(pins:List (Addr×Obj))(s:Shared)(σ:St)(H:Hp)(v:V)(u:Value)(Q:St->Hp->Prop),Inv X pins σ H s->RelV v u->t v σ H Q->
  wpAny (model X.prog X.w) X.A (assign target X.env u) (λ _ s'=>∃σ' H',Inv X pins σ' H' s'/\Q σ' H') X.xe s
def wu(X:Cx)(ts:List Expr)(t:qW):Prop:=
 ∀(pins:List (Addr×Obj))(s:Shared)(σ:St)(H:Hp)(vs:List V)(us:List Value)(Q:St->Hp->Prop),Inv X pins σ H s->Vals vs us->t vs σ H Q->
  wpAny (model X.prog X.w) X.A (assignInOrder ((assignEach ts X.env).map (·.2)) us) (λ _ s'=>∃σ' H',Inv X pins σ' H' s'/\Q σ' H') X.xe s
abbrev Je:=V->V->V->Hp->(Hp->Prop)->Prop
def Sj(X:Cx)(t:Je):Prop:=
 ∀(pins:List (Addr×Obj))(s:Shared)(σ:St)(H:Hp)(o i v:V)(ov iv u:Value)(Q:Hp->Prop),Inv X pins σ H s->RelV o ov->RelV i iv->RelV v u->t o i v H Q->
  wpAny (model X.prog X.w) X.A (setItem ov iv u) (λ _ s'=>∃H',Inv X pins σ H' s'/\Q H') X.xe s
abbrev wt:=V->V->Hp->VK->Prop
def UY(X:Cx)(op:Operator)(t:wt):Prop:=
 ∀(pins:List (Addr×Obj))(s:Shared)(σ:St)(H:Hp)(x y:V)(v u:Value)(Q:VK),Inv X pins σ H s->RelV x v->RelV y u->t x y H Q->
  wpAny (model X.prog X.w) X.A (inplaceOp op v u) (EP X pins σ Q) X.xe s
section
variable{X:Cx}{pos:Pos}
def eJ(i:Nat):TG:=λ v σ H Q=>Q (σ.set i (some v)) H
def aav(hN:X.N.Nodup)(hi:X.N[i]?=some x)(hx:Loc X.env.scope x)(hf:X.fn x=true\/X.env.scope.names.lookup x=some .local:=by first|exact .inl rfl|exact .inr rfl|assumption):PG X (.Name x pos) (eJ i):=by intro pins s σ H v u Q I r h;exact wpAny_assign_Name (GA I hN hi hx r (λ s' I'=>⟨_,H,I',h⟩) hf)
def CY:qW:=λ vs σ H Q=>vs=[]/\Q σ H
def p_(t:TG)(u:qW):qW:=λ vs σ H Q=>∃v r,vs=v::r/\t v σ H λ σ' H'=>u r σ' H' Q
def mF:wu X [] CY:=by intro pins s σ H vs us Q I r h;obtain⟨e,h⟩:=h;subst e;cases r;exact assignInOrder_nil ⟨σ,H,I,h⟩
theorem dm(h1:PG X e t)(h2:wu X es u)
  (hs:(assignEach (e::es) X.env).map (·.2)=assign e X.env::(assignEach es X.env).map (·.2):=by rfl):wu X (e::es) (p_ t u):=by
 intro pins s σ H vs us Q I r h;obtain⟨v,vr,e1,h⟩:=h;subst e1;cases r with
 |cons r rr=>
  rw[hs];refine assignInOrder_cons (aF (h1 pins s σ H _ _ _ I r h) λ _ s1 ⟨σ1,H1,I1,q1⟩=>?_);exact h2 pins s1 σ1 H1 _ _ Q I1 rr q1
def yG(K:W.Frag)(n:Nat)(t:qW):TG:=λ v σ H Q=>∃a xs,v= .ref a/\aP K H a xs/\xs.length=n/\t xs σ H Q
def rS(hc:X.calm=true)(h:wu X es t)
  (hn:(assignEach es X.env).length=n:=by rfl)(eS:(assignEach es X.env).findIdx? (·.1)=none:=by rfl):PG X (.Tuple es k pos) (yG X.K n t):=by
 intro pins s σ H v u Q I r hw;obtain⟨a,xs,e1,hq,hl,hw⟩:=hw;subst e1;cases r;obtain⟨aw,rv,ht,hz⟩:=I.tuple hq;refine assign_Tuple_tuple (I.ok.hd hc) ht (by simp[hn,<- hl,rv.length]) eS λ h' hx=>?_;have I1:Inv X pins σ H {s with heap:=h'}:=I.kept (t':=s.toks) λ b o e=>hx b o (ek (cz e)) e;exact h pins _ σ H xs _ Q I1 (by simpa using rv) hw
def Sb(to ti:TE)(t:Je):TG:=λ v σ H Q=>to σ H λ o H1=>ti σ H1 λ i H2=>t o i v H2 λ H3=>Q σ H3
def ace{o i:Expr}{to ti:TE}{t:Je}(ho:PE X o to)(hi:PE X i ti)(hs:Sj X t)
  (ha: ∀v,assign (.Subscript o i pos) X.env v=(do
   let ov <- holding [v] (eval o X.env)
   let iv <- holding [v,ov] (eval i X.env)
   standAt pos
   holding [v,ov,iv] (setItem ov iv v)
   release [v,ov,iv] []):=by intro _;rfl):PG X (.Subscript o i pos) (Sb to ti t):=by
 intro pins s σ H v u Q I r h;rw[ha];refine aA (um (aF (ho pins s σ H _ I h) λ ov s1 z_=>z_.e λ x H1 I1 r1 q1=>?_));refine aA (um (aF (hi pins s1 σ H1 _ I1 q1) λ iv s2 z_=>z_.e λ y H2 I2 r2 q2=>?_));refine aA (wpAny_standAt (aA (um (aF (hs pins s2 σ H2 x y v ov iv u _ I2 r1 r2 r q2) λ _ s3 ⟨H3,I3,q3⟩=>?_))));exact wpAny_release ⟨σ,H3,I3,q3⟩
def lJ(te:TE)(g:TG):TS:=λ D σ H=>te σ H λ x H1=>g x σ H1 D.nx
def ab8{tg e:Expr}{te:TE}{g:TG}(he:PE X e te)(hg:PG X tg g)(hs:swapsWithSole [tg] e pos.line X.env=pure false:=by rfl)(hw:swappedStores [tg] e X.env=pure none:=by rfl)
  (h1:(assignEach [tg] X.env).map (·.2)=[assign tg X.env]:=by rfl):PS X (.Assign [tg] e pos) (lJ te g):=by
 intro pins s σ H D I h;refine wpAny_Assign_stores (aF (he pins s σ H _ I h) λ v s1 z_=>z_.e λ x H1 I1 r1 q1=>?_) hs hw;rw[h1];exact aF (hg pins s1 σ H1 x v _ I1 r1 q1) λ _ s2 q=>q
def ab6{i:Nat}{x:Str}{e:Expr}{te:TE}{pos':Pos}(hN:X.N.Nodup)(hi:X.N[i]?=some x)(hx:Loc X.env.scope x)(he:PE X e te)(hs:swapsWith e (some (.Name x pos')) pos.line X.env=pure false:=by rfl)(hf:X.fn x=true\/X.env.scope.names.lookup x=some .local:=by first|exact .inl rfl|exact .inr rfl|assumption):
  PS X (.Assign [.Name x pos'] e pos) (lJ te (eJ i)):=by
 intro pins s σ H D I h;refine wpAny_Assign_Name (aF (he pins s σ H _ I h) λ v s1 z_=>z_.e λ y H1 I1 r1 q1=>?_) hs;exact GA I1 hN hi hx r1 (λ s2 I2=>⟨_,H1,I2,q1⟩) hf
def CD(i:Nat)(te:TE)(ti:wt):TS:=λ D σ H=>∃x,σ[i]?=some (some x)/\te σ H λ y H1=>ti x y H1 λ z H2=>D.nx (σ.set i (some z)) H2
def ab7{i:Nat}{x:Str}{e:Expr}{te:TE}{op:Operator}{ti:wt}{pos':Pos}(hN:X.N.Nodup)(hi:X.N[i]?=some x)(hx:Loc X.env.scope x)(he:PE X e te)(ho:UY X op ti)(hf:X.fn x=true\/X.env.scope.names.lookup x=some .local:=by first|exact .inl rfl|exact .inr rfl|assumption):
  PS X (.AugAssign (.Name x pos') op e pos) (CD i te ti):=by
 intro pins s σ H D I h;obtain⟨v,e1,h⟩:=h;obtain⟨m,hn,hl⟩:=I.loc;have vis:wq X.env.scope x:=by rcases hx with k|k;exact .inl k;exact .inr (.inl k)
 obtain⟨u,r,l⟩:=hl i x v hi e1 vis;refine wpAny_AugAssign_Name ?_;have go:wpAny (model X.prog X.w) X.A (eval e X.env) (λ w s₂=>wpAny (model X.prog X.w) X.A (inplaceOp op u w) (λ r s₃=>wpAny (model X.prog X.w) X.A (storeName X.env x r) (λ _=>SP X pins D .next) X.xe s₃) X.xe s₂) X.xe s:=by refine aF (he pins s σ H _ I h) λ w s1 z_=>z_.e λ y H1 I1 r1 q1=>?_;refine aF (ho pins s1 σ H1 v y u w _ I1 r r1 q1) λ z s2 z_=>z_.e λ zv H2 I2 r2 q2=>?_;exact GA I2 hN hi hx r2 (λ s3 I3=>⟨_,H2,I3,q2⟩) hf
 rcases l with⟨hk,hm⟩|⟨hk,c,hc,Cm⟩
 ·exact wpAny_loadName_local I.ok.kind hk hn hm go
 ·rcases hk with hk|hk
  ·exact wpAny_loadName_cell I.ok.kind hk hc Cm go
  ·rcases hx with k|k
   ·have:X.env.scope.names.lookup x=some .free:=hk;rw[k]at this;cases this
   ·have:X.env.scope.names.lookup x=some .free:=hk;rw[k]at this;cases this
end
section
variable{X:Cx}{pos:Pos}
def BX(c:TT)(tb:TS):TS:=λ D σ H=>∃W:Nat->St->Hp->Prop,(∃m,W m σ H)/\ ∀m σ H,W m σ H->
 c σ H λ b H1=>if b=true then∃N:St->Hp->Prop,(∀σ' H',N σ' H'-> ∃m',m'<m/\W m' σ' H')/\tb {D with nx:=N,ct:=N,bk:=D.nx} σ H1 else D.nx σ H1
theorem uV{c:Expr}{body:List Stmt}{tc:TT}{tb:TS}(hp:PassesOwn (model X.prog X.w) X.A X.env X.xe)(hc:PT X c tc)(hb:eX X body tb):PS X (.While c body [] pos) (BX tc tb):=by
 intro pins s σ H D I h;obtain⟨W,⟨m0,w0⟩,turn⟩:=h;refine wpAny_While (codeAny_whileLoop (λ n s'=>∃σ' H',Inv X pins σ' H' s'/\W n σ' H') ?_ m0 ⟨σ,H,I,w0⟩);rintro n s1 ⟨σ1,H1,I1,w1⟩;refine rA hp (aF (hc pins s1 σ1 H1 _ I1 (turn n σ1 H1 w1)) λ b s2 z_=>z_.e λ H2 I2 q2=>?_);cases b with
 |true=>
  obtain⟨N,hN,q2⟩:=q2;rw[ao rfl];refine rA hp (aF (hb pins s2 σ1 H2 _ I2 q2) λ f s3 q3=>?_);cases f with
  |next=>
   obtain⟨σ3,H3,I3,n3⟩:=q3;obtain⟨m',hm,w3⟩:=hN σ3 H3 n3;exact⟨m',hm,σ3,H3,I3,w3⟩
  |cont=>
   obtain⟨σ3,H3,I3,n3⟩:=q3;obtain⟨m',hm,w3⟩:=hN σ3 H3 n3;exact⟨m',hm,σ3,H3,I3,w3⟩
  |brk=>exact q3
  |ret v=>exact q3
 |false=>
  rw[ai dj];exact wZ ⟨σ1,H2,I2,q2⟩
end
structure It where
 go:Nat->Hp->Prop
 mW:Nat->Hp->V->Hp->Prop
 stop:Nat->Hp->Prop
def hJ(X:Cx)(pins:List (Addr×Obj))(H:Hp)(b:Addr):Prop:=
 H b=none/\b≠X.env.locals/\b∉X.fs/\(b∈X.ex\/X.s₀.heap.objs.size<=b)/\(∀x c,X.env.cells.lookup x=some c->c≠b)/\ ∀p∈X.pn++pins,p.1≠b
def Inv.qA(I:Inv X pins σ H s)(hb:s.heap.objs.size<=b)(hn:H' b=none):hJ X pins H' b:=by
 refine⟨hn,kg (dJ I.lt hb),I.afa hb,.inr (bY I.sz hb),λ x c e z=>?_,λ p hp z=>?_⟩
 ·obtain⟨v,q⟩:=I.cell x c e;exact absurd (dJ q.lt (by rw[z];exact hb)) (k8 _)
 ·exact absurd (dJ (cz (I.pin p hp).1) (by rw[z];exact hb)) (k8 _)
structure Turn(P:Program)(w:World)(K:W.Frag)(tg:Expr)(J:It)(fp:List Addr)(it:Addr)(tn:Nat->Heap->Prop):Prop where
 mem:it∈fp
 obj: ∀i h,tn i h-> ∀b∈fp,∃o,h.get? b=some o/\ ∀v,o.data≠ .cell v
 keep: ∀i h h',tn i h->(∀b∈fp,∀o,h.get? b=some o->h'.get? b=some o)->tn i h'
 item: ∀(X:Cx),X.prog=P->X.w=w->X.K=K->X.calm=true-> ∀(i:Nat)(pins:List (Addr×Obj))(s:Shared)(σ:St)(H:Hp)(E:Value->Shared->Prop),Inv X pins σ H s->(∀b∈fp,hJ X pins H b)->tn i s.heap->J.go i H->
  wpAny (model P w) X.A (pyNext (.ref it)) (λ r s1=>∃u,r=some u/\
   wpAny (model P w) X.A (letOwnedTupleGo tg (.ref it) u) (λ _ s2=>∃x H',Inv X pins σ H' s2/\RelV x u/\J.mW i H x H'/\tn (i+1) s2.heap/\ ∀b∈fp,H' b=none) E s1) E s
 done: ∀(X:Cx),X.prog=P->X.w=w->X.K=K->X.calm=true-> ∀(i:Nat)(pins:List (Addr×Obj))(s:Shared)(σ:St)(H:Hp)(E:Value->Shared->Prop),Inv X pins σ H s->(∀b∈fp,hJ X pins H b)->tn i s.heap->J.stop i H->
  wpAny (model P w) X.A (pyNext (.ref it)) (λ r s1=>r=none/\Inv X pins σ H s1) E s
 self: ∀(A:Around)(i:Nat)(s:Shared)(Q:Value->Shared->Prop)(E:Value->Shared->Prop),tn i s.heap->Q (.ref it) s->wpAny (model P w) A (pyIter (.ref it)) Q E s
abbrev TI:=St->Hp->(It->Hp->Prop)->Prop
def KL(X:Cx)(pins:List (Addr×Obj))(σ:St)(tg:Expr)(R:It->Hp->Prop)(Dq:Value)(s2:Shared):Prop:=
 ∃(it:Addr)(fp:List Addr)(tn:Nat->Heap->Prop)(J:It)(H':Hp),Dq= .ref it/\Inv X pins σ H' s2/\Turn X.prog X.w X.K tg J fp it tn/\tn 0 s2.heap/\(∀b∈fp,hJ X pins H' b)/\R J H'
def PI(X:Cx)(tg iter:Expr)(wi:TI):Prop:=
 ∀(pins:List (Addr×Obj))(s:Shared)(σ:St)(H:Hp)(R:It->Hp->Prop),Inv X pins σ H s->wi σ H R->
  wpAny (model X.prog X.w) X.A (eval iter X.env) (λ v s1=>wpAny (model X.prog X.w) X.A (pyIter v) (KL X pins σ tg R) X.xe s1) X.xe s
def vm(ho:s.heap.get? it=some o)(hc:o.cls= .type n)(hd:o.data= .fields vs)
  (hn: ["enumerate","zip","dict_itemiterator","dict_reverseitemiterator","odict_iterator","itertools.zip_longest","itertools.pairwise"].contains n=false)(hQ:Q () s):wpAny M A (letOwnedTupleGo tg (.ref it) u) Q E s:=by
 unfold letOwnedTupleGo;cases tg<;>first
  |exact bc hQ
  |(cases u<;>first
    |exact bc hQ
    |(refine aA (wpAny_load ho ?_)
      rw[hc,hd];show wpAny M A (if(["enumerate","zip","dict_itemiterator","dict_reverseitemiterator","odict_iterator","itertools.zip_longest","itertools.pairwise"].contains n&&vs[0]?==some (rawInt _))=true then _ else _) Q E s;rw[ai (by intro h;rw[hn,Bool.false_and]at h;cases h)];exact bc hQ))
def jm(K:W.Frag)(a:Addr):It:=
 ⟨λ i H=>∃xs x,ah K H a xs/\xs[i]?=some x,λ i H x H'=>H'=H/\ ∀xs,ah K H a xs->xs[i]?=some x,λ i H=>∃xs,ah K H a xs/\xs.length<=i⟩
def qZ(K:W.Frag)(a:Addr):It:=
 ⟨λ i H=>∃xs x,aP K H a xs/\xs[i]?=some x,λ i H x H'=>H'=H/\ ∀xs,aP K H a xs->xs[i]?=some x,λ i H=>∃xs,aP K H a xs/\xs.length<=i⟩
def jI(lo:Int)(n:Nat):It:=⟨λ i _=>i<n,λ i H x H'=>H'=H/\x= .int (lo+i),λ i _=>n<=i⟩
def Yg{P:Program}{w:World}{K:W.Frag}{tg:Expr}(a it:Addr):Turn P w K tg (jm K a) [it] it (λ i h=>h.IsListIter it a i)where
 mem:=by simp
 obj:=λ i h st b hb=>by
  have e:b=it:=by simpa using hb
  subst e;obtain⟨o,e,c,d⟩:=st;exact⟨o,e,λ v z=>by rw[d]at z;cases z⟩
 keep:=λ i h h' st k=>st.at λ o e=>k it (by simp) o e
 item:=by intro X hP hw hK hc i pins s σ H E I hf st hg;subst hP hw hK;obtain⟨xs,x,hq,hx⟩:=hg;obtain⟨aw,rv,p,hz⟩:=I.list hq;obtain⟨u,hu,ru⟩:=rv.get hx;obtain⟨f0,f1,f2,f3,f4,f5⟩:=hf it (by simp);refine wpAny_pyNext_list_item st p.isList (x:=u) (by simpa using hu) λ h' hV sb=>?_;have I1:Inv X pins σ H {s with heap:=h'}:=I.turned (t':=s.toks) (λ b o hb e=>(sb.2 b hb).trans e) f0 f1 f3 f4 f5;obtain⟨o,e,c,d⟩:=id hV;exact⟨u,rfl,vm (s:={s with heap:=h'}) e c d (by decide) ⟨x,H,I1,ru,⟨rfl,λ ys hy=>by rw[I.GS hy hq];exact hx⟩,hV,λ b hb=>(hf b hb).1⟩⟩
 done:=by intro X hP hw hK hc i pins s σ H E I hf st hg;subst hP hw hK;obtain⟨xs,hq,hx⟩:=hg;obtain⟨aw,rv,p,hz⟩:=I.list hq;obtain⟨f0,f1,f2,f3,f4,f5⟩:=hf it (by simp);have hl:=rv.length;exact wpAny_pyNext_list_end (I.ok.hd hc) st p.isList (by simp;lia) λ h' eb=>⟨rfl,I.turned (t':=s.toks) (λ b o hb e=>eb b o hb e) f0 f1 f3 f4 f5⟩
 self:=λ _ _ _ _ _ st h=>wpAny_pyIter_listiter st h
def Xz{P:Program}{w:World}{K:W.Frag}{tg:Expr}(a it:Addr):Turn P w K tg (qZ K a) [it] it (λ i h=>h.IsTupleIter it a i)where
 mem:=by simp
 obj:=λ i h st b hb=>by
  have e:b=it:=by simpa using hb
  subst e;obtain⟨o,e,c,d⟩:=st;exact⟨o,e,λ v z=>by rw[d]at z;cases z⟩
 keep:=λ i h h' st k=>st.at λ o e=>k it (by simp) o e
 item:=by intro X hP hw hK hc i pins s σ H E I hf st hg;subst hP hw hK;obtain⟨xs,x,hq,hx⟩:=hg;obtain⟨aw,rv,p,hz⟩:=I.tuple hq;obtain⟨u,hu,ru⟩:=rv.get hx;obtain⟨f0,f1,f2,f3,f4,f5⟩:=hf it (by simp);refine wpAny_pyNext_tuple_item st (show s.heap.IsTuple a aw.toArray from p) (x:=u) (by simpa using hu) λ h' hV sb=>?_;have I1:Inv X pins σ H {s with heap:=h'}:=I.turned (t':=s.toks) (λ b o hb e=>(sb.2 b hb).trans e) f0 f1 f3 f4 f5;obtain⟨o,e,c,d⟩:=id hV;exact⟨u,rfl,vm (s:={s with heap:=h'}) e c d (by decide) ⟨x,H,I1,ru,⟨rfl,λ ys hy=>by rw[I.Yi hy hq];exact hx⟩,hV,λ b hb=>(hf b hb).1⟩⟩
 done:=by intro X hP hw hK hc i pins s σ H E I hf st hg;subst hP hw hK;obtain⟨xs,hq,hx⟩:=hg;obtain⟨aw,rv,p,hz⟩:=I.tuple hq;obtain⟨f0,f1,f2,f3,f4,f5⟩:=hf it (by simp);have hl:=rv.length;exact wpAny_pyNext_tuple_end (I.ok.hd hc) st (show s.heap.IsTuple a aw.toArray from p) (by simp;lia) λ h' eb=>⟨rfl,I.turned (t':=s.toks) (λ b o hb e=>eb b o hb e) f0 f1 f3 f4 f5⟩
 self:=λ _ _ _ _ _ st h=>wpAny_pyIter_tupleiter st h
def XA{P:Program}{w:World}{K:W.Frag}{tg:Expr}(it:Addr)(lo:Int)(n:Nat):Turn P w K tg (jI lo n) [it] it (λ i h=>IsRangeIter h it (lo+(i:Nat)*1) ((n:Int)-(i:Nat)) 1)where
 mem:=by simp
 obj:=λ i h st b hb=>by
  have e:b=it:=by simpa using hb
  subst e;exact⟨_,st,λ v z=>by have z':Data.fields _=Data.cell v:=z;cases z'⟩
 keep:=λ i h h' st k=>k it (by simp) _ st
 item:=by intro X hP hw hK hc i pins s σ H E I hf st hg;subst hP hw hK;obtain⟨f0,f1,f2,f3,f4,f5⟩:=hf it (by simp);have W:=Walks.range (prog:=X.prog) (w:=X.w) (I.ok.hd hc) it lo 1 n;refine W.item i s _ _ hg st λ v h' tk hv hV kk=>?_;obtain⟨t,rfl⟩:=hv;have I1:Inv X pins σ H {s with heap:=h',toks:=tk}:=I.turned (λ b o hb e=>kk b o (by simpa using hb) e) f0 f1 f3 f4 f5;refine⟨_,rfl,vm (s:={s with heap:=h',toks:=tk}) (n:="range_iterator") hV rfl rfl (by decide) ⟨.int (lo+i),H,I1,⟨t,?_⟩,⟨rfl,rfl⟩,hV,λ b hb=>(hf b hb).1⟩⟩;rw[Int.mul_one]
 done:=by intro X hP hw hK hc i pins s σ H E I hf st hg;subst hP hw hK;obtain⟨f0,f1,f2,f3,f4,f5⟩:=hf it (by simp);exact wpAny_pyNext_range_end (I.ok.hd hc) st (by have:n<=i:=hg;lia) λ h' eb=>⟨rfl,I.turned (t':=s.toks) (λ b o hb e=>eb b o hb e) f0 f1 f3 f4 f5⟩
 self:=λ _ _ _ _ _ st h=>wpAny_pyIter_rangeiter st h
end
section
section
variable{X:Cx}{tg:Expr}
def Ci(K:W.Frag)(tl:TE):TI:=λ σ H R=>tl σ H λ x H1=>∃a,x= .ref a/\(∃xs,ah K H1 a xs)/\R (jm K a) H1
def RR(K:W.Frag)(tl:TE):TI:=λ σ H R=>tl σ H λ x H1=>∃a,x= .ref a/\(∃xs,aP K H1 a xs)/\R (qZ K a) H1
def c_{l:Expr}{tl:TE}(hl:PE X l tl):PI X tg l (Ci X.K tl):=by
 intro pins s σ H R I h;refine aF (hl pins s σ H _ I h) λ v s1 z_=>z_.e λ x H1 I1 r1 q1=>?_;obtain⟨a,e,⟨xs,hq⟩,q⟩:=q1;subst e;cases r1;obtain⟨aw,rv,p,hz⟩:=I1.list hq;refine wpAny_pyIter_list p.isList ?_;refine⟨s1.heap.objs.size,[s1.heap.objs.size],_,_,H1,rfl,I1.kept (t':=s1.toks) λ b o e=>cp _ e,Yg a _,⟨_,fy _ rfl,rfl,rfl⟩,λ b hb=>?_,q⟩;have e:b=s1.heap.objs.size:=by simpa using hb
 subst e;exact I1.qA (aQ _) (I1.ax.fresh (aQ _))
def acd{l:Expr}{tl:TE}(hl:PE X l tl):PI X tg l (RR X.K tl):=by
 intro pins s σ H R I h;refine aF (hl pins s σ H _ I h) λ v s1 z_=>z_.e λ x H1 I1 r1 q1=>?_;obtain⟨a,e,⟨xs,hq⟩,q⟩:=q1;subst e;cases r1;obtain⟨aw,rv,p,hz⟩:=I1.tuple hq;refine wpAny_pyIter_tuple (show s1.heap.IsTuple a aw.toArray from p) ?_;refine⟨s1.heap.objs.size,[s1.heap.objs.size],_,_,H1,rfl,I1.kept (t':=s1.toks) λ b o e=>cp _ e,Xz a _,⟨_,fy _ rfl,rfl,rfl⟩,λ b hb=>?_,q⟩;have e:b=s1.heap.objs.size:=by simpa using hb
 subst e;exact I1.qA (aQ _) (I1.ax.fresh (aQ _))
def Zl{pins:List (Addr×Obj)}{σ:St}{H:Hp}{s:Shared}{R:It->Hp->Prop}{E:Value->Shared->Prop}{lo hi:Int}{t u v:Tok}{tk:Nat}(I:Inv X pins σ H s)(h1: -(2^62)<=lo)(h2:lo<2^62)(h3: -(2^62)<=hi)(h4:hi<2^62)
  (q:R (jI lo (hi-lo).toNat) H):wpAny (model X.prog X.w) X.A (pyIter (.ref s.heap.objs.size)) (KL X pins σ tg R) E {s with heap:=s.heap.push {cls:= .type "range",data:= .fields #[.int lo t,.int hi u,.int 1 v]},toks:=tk}:=by
 refine wpAny_pyIter_range (IsRange.new ..) (small_one h1 h2 h3 h4) ?_;have I1:Inv X pins σ H {s with heap:=s.heap.push {cls:= .type "range",data:= .fields #[.int lo t,.int hi u,.int 1 v]},toks:=tk}:=I.kept λ b o e=>cp _ e;refine⟨(s.heap.push {cls:= .type "range",data:= .fields #[.int lo t,.int hi u,.int 1 v]}).objs.size,[(s.heap.push {cls:= .type "range",data:= .fields #[.int lo t,.int hi u,.int 1 v]}).objs.size],_,_,H,rfl,
  I1.kept (t':=tk) λ b o e=>cp _ e,XA _ lo (hi-lo).toNat,?_,λ b hb=>?_,q⟩
 ·have e1:lo+((0:Nat):Int)*1=lo:=by simp
  have e2:(((hi-lo).toNat:Nat):Int)-((0:Nat):Int)=Builtin.Range.rangeSize lo hi 1:=by rw[rangeSize_one];split<;>lia
  show IsRangeIter _ _ (lo+((0:Nat):Int)*1) ((((hi-lo).toNat:Nat):Int)-((0:Nat):Int)) 1;rw[e1,e2];exact fy _ rfl
 ·have e:b=(s.heap.push {cls:= .type "range",data:= .fields #[.int lo t,.int hi u,.int 1 v]}).objs.size:=by simpa using hb
  subst e;exact I1.qA (aQ _) (I1.ax.fresh (aQ _))
def Ib(ta:TA):TI:=λ σ H R=>ta σ H λ vs H1=>∃j:Int,vs=[.int j]/\ -(2^62)<=j/\j<2^62/\R (jI 0 j.toNat) H1
theorem ko(hg:Gl X "range")(hm:X.mg "range" =none)(ha:PA X [a] ta)(hs:starEach [a] X.env=[(false,eval a X.env)]:=by rfl):PI X tg (.Call (.Name "range" p) [a] [] pos) (Ib ta):=by
 intro pins s σ H R I h;refine Call_ (rY I hg hm boot_range (uK (aF (ha pos pins s σ H _ I h) λ us s1 z_=>z_.e λ vs H1 I1 r1 q1=>?_) hs rfl));obtain⟨j,e,q1,q2,q⟩:=q1;subst e;cases r1 with
 |cons r rr=>
  cases rr;obtain⟨t,rfl⟩:=r;exact call_range_1 (Zl I1 (by lia) (by lia) q1 q2 (by simpa using q))
def vB(wi:TI)(g:TG)(tb:TS):TS:=λ D σ H=>wi σ H λ J H1=>∃W:Nat->Nat->St->Hp->Prop,(∃m,W 0 m σ H1)/\ ∀i m σ H,W i m σ H->
 (J.stop i H/\D.nx σ H)\/(J.go i H/\ ∃N:St->Hp->Prop,(∀σ' H',N σ' H'-> ∃m',m'<m/\W (i+1) m' σ' H')/\ ∀x H',J.mW i H x H'->g x σ H' λ σ2 H2=>tb {D with nx:=N,ct:=N,bk:=D.nx} σ2 H2)
noncomputable def ve (fp:List Addr) (h:Heap):List (Addr×Obj):=fp.filterMap λ b=>(h.get? b).map λ o=>(b,o)
def Bc(hb:b∈fp)(e:h.get? b=some o):(b,o)∈ve fp h:=uF.mpr ⟨b,hb,by rw[e];rfl⟩
theorem YB(hp:p∈ve fp h):p.1∈fp/\h.get? p.1=some p.2:=by
 obtain⟨b,hb,e⟩:=uF.mp hp;cases q:h.get? b with
 |none=>rw[q]at e;cases e
 |some o=>
  rw[q]at e;have e':(b,o)=p:=dI e;subst e';exact⟨hb,q⟩
def Inv.pinned(I:Inv X pins σ H s)(hf: ∀b∈fp,hJ X pins H b)(ho: ∀b∈fp,∃o,s.heap.get? b=some o/\ ∀v,o.data≠ .cell v):Inv X (pins++ve fp s.heap) σ H s:=
 I.Oo λ p hp=>(bJ.mp hp).elim (λ z=>I.pin p (gj _ z)) λ z=>by obtain⟨hb,e⟩:=YB z;obtain⟨f0,f1,f2,_⟩:=hf p.1 hb;obtain⟨o,e',d⟩:=ho p.1 hb;rw[e]at e';cases e';exact⟨e,f0,f1,f2,d⟩
def Inv.xH(I:Inv X (pins++pl) σ H s):Inv X pins σ H s:=I.Oo λ p hp=>I.pin p (gj _ (eZ _ hp))
def Pa(hp:PassesOwn (model X.prog X.w) X.A X.env X.xe)(hc:X.calm=true)(hi:PI X tg iter wi)(hg:PG X tg g)(hb:eX X body tb)
  (hs: ∀x,foldedSetIterable iter X.env x=pure x:=by intro _;rfl):PS X (.For tg iter body [] pos) (vB wi g tb):=by
 intro pins s σ H D I h;refine wpAny_For (aF (hi pins s σ H _ I h) λ v s1 h1=>aF h1 λ Dq s2 h2=>?_) hs;obtain⟨it,fp,tn,J,H2,e,I2,T,oK,f2,W,⟨m0,w0⟩,turn⟩:=h2;subst e;have stat: ∀{H':Hp},(∀b∈fp,H' b=none)-> ∀b∈fp,hJ X pins H' b:=λ hn b hb=>⟨hn b hb,(f2 b hb).2⟩;refine codeAny_forLoop_any (λ n s'=>∃i σ' H',Inv X pins σ' H' s'/\tn i s'.heap/\(∀b∈fp,H' b=none)/\W i n σ' H') ?_ m0 ⟨0,σ,H2,I2,oK,λ b hb=>(f2 b hb).1,w0⟩;rintro n s3 ⟨i,σ3,H3,I3,oJ,wg,w3⟩;rcases turn i n σ3 H3 w3 with⟨stop,qn⟩|⟨go,N,hN,step⟩
 ·refine rA hp (aF (T.done X rfl rfl rfl hc i pins s3 σ3 H3 X.xe I3 (stat wg) oJ stop) λ r s4 ⟨hr,I4⟩=>?_);subst hr;exact wZ ⟨σ3,H3,I4,qn⟩
 ·refine rA hp (aF (T.item X rfl rfl rfl hc i pins s3 σ3 H3 X.xe I3 (stat wg) oJ go) λ r s4 ⟨u,hr,h4⟩=>?_);subst hr;refine rA hp (aF h4 λ _ s5 ⟨x,H5,I5,r5,y5,oI,fr5⟩=>?_);have I5':=I5.pinned (stat fr5) (T.obj _ _ oI);refine rA hp (aF (hg _ s5 σ3 H5 x u _ I5' r5 (step x H5 y5)) λ _ s6 ⟨σ6,H6,I6,q6⟩=>?_);refine rA hp (aF (hb _ s6 σ6 H6 _ I6 q6) λ f s7 q7=>?_);have again: ∀{σ7:St}{H7:Hp},Inv X (pins++ve fp s5.heap) σ7 H7 s7->N σ7 H7-> ∃m,m<n/\ ∃i σ' H',Inv X pins σ' H' s7/\tn i s7.heap/\(∀b∈fp,H' b=none)/\W i m σ' H':=λ{σ7 H7}I7 n7=>by
   obtain⟨m',hm,w7⟩:=hN σ7 H7 n7;refine⟨m',hm,i+1,σ7,H7,I7.xH,T.keep _ _ _ oI λ b hb o e=>(I7.pin (b,o) (gj _ (gj _ (Bc hb e)))).1,λ b hb=>?_,w7⟩;obtain⟨o,e,d⟩:=T.obj _ _ oI b hb;exact(I7.pin (b,o) (gj _ (gj _ (Bc hb e)))).2.1
  cases f with
  |next=>obtain⟨σ7,H7,I7,n7⟩:=q7;exact again I7 n7
  |cont=>obtain⟨σ7,H7,I7,n7⟩:=q7;exact again I7 n7
  |brk=>obtain⟨σ7,H7,I7,q7⟩:=q7;exact⟨σ7,H7,I7.xH,q7⟩
  |ret v=>obtain⟨x7,σ7,H7,I7,r7,q7⟩:=q7;exact⟨x7,σ7,H7,I7.xH,r7,q7⟩
end
def Nu{K:W.Frag}{a:Addr}{xs:List V}{g:TG}{tb:TS}{D:Ends}{σ:St}{H:Hp}(Pv:Nat->St->Hp->Prop)(h0:Pv 0 σ H)(hl: ∀i σ H,i<=xs.length->Pv i σ H->ah K H a xs)
  (hs: ∀i x σ H,xs[i]?=some x->Pv i σ H->g x σ H λ σ2 H2=>tb {D with nx:=Pv (i+1),ct:=Pv (i+1),bk:=D.nx} σ2 H2)(hd: ∀σ H,Pv xs.length σ H->D.nx σ H):
  ∃W:Nat->Nat->St->Hp->Prop,(∃m,W 0 m σ H)/\ ∀i m σ H,W i m σ H->
   ((jm K a).stop i H/\D.nx σ H)\/((jm K a).go i H/\ ∃N:St->Hp->Prop,(∀σ' H',N σ' H'-> ∃m',m'<m/\W (i+1) m' σ' H')/\ ∀x H',(jm K a).mW i H x H'->g x σ H' λ σ2 H2=>tb {D with nx:=N,ct:=N,bk:=D.nx} σ2 H2):=by
 refine⟨λ i m σ H=>m=xs.length-i/\i<=xs.length/\Pv i σ H,⟨xs.length,by simp,cP _,h0⟩,?_⟩;rintro i m σ H ⟨rfl,hi,p⟩;have q:=hl i σ H hi p;by_cases cg:i<xs.length
 ·refine .inr ⟨⟨xs,xs[i],q,by simp[cg]⟩,Pv (i+1),λ σ' H' p'=>⟨xs.length-(i+1),by lia,rfl,cg,p'⟩,λ x H' y=>?_⟩;obtain⟨e,y⟩:=y;subst e;exact hs i x σ _ (y xs q) p
 ·have e:i=xs.length:=by lia
  subst e;exact .inl ⟨⟨xs,q,aQ _⟩,hd σ H p⟩
def YR{lo:Int}{n:Nat}{g:TG}{tb:TS}{D:Ends}{σ:St}{H:Hp}(Pv:Nat->St->Hp->Prop)(h0:Pv 0 σ H)
  (hs: ∀i σ H,i<n->Pv i σ H->g (.int (lo+i)) σ H λ σ2 H2=>tb {D with nx:=Pv (i+1),ct:=Pv (i+1),bk:=D.nx} σ2 H2)(hd: ∀σ H,Pv n σ H->D.nx σ H):
  ∃W:Nat->Nat->St->Hp->Prop,(∃m,W 0 m σ H)/\ ∀i m σ H,W i m σ H->
   ((jI lo n).stop i H/\D.nx σ H)\/((jI lo n).go i H/\ ∃N:St->Hp->Prop,(∀σ' H',N σ' H'-> ∃m',m'<m/\W (i+1) m' σ' H')/\ ∀x H',(jI lo n).mW i H x H'->g x σ H' λ σ2 H2=>tb {D with nx:=N,ct:=N,bk:=D.nx} σ2 H2):=by
 refine⟨λ i m σ H=>m=n-i/\i<=n/\Pv i σ H,⟨n,by simp,cP _,h0⟩,?_⟩;rintro i m σ H ⟨rfl,hi,p⟩;by_cases cg:i<n
 ·refine .inr ⟨cg,Pv (i+1),λ σ' H' p'=>⟨n-(i+1),by lia,rfl,cg,p'⟩,λ x H' y=>?_⟩;obtain⟨e,y⟩:=y;subst e y;exact hs i σ _ cg p
 ·have e:i=n:=by lia
  subst e;exact .inl ⟨aQ _,hd σ H p⟩
end
section
abbrev R2:=V->V->Hp->VK->Prop
def cZ(X:Cx)(f:Value->Value->Sem Value)(r:R2):Prop:=
 ∀(pins:List (Addr×Obj))(s:Shared)(σ:St)(H:Hp)(x y:V)(v u:Value)(Q:VK),Inv X pins σ H s->RelV x v->RelV y u->r x y H Q->
  wpAny (model X.prog X.w) X.A (f v u) (EP X pins σ Q) X.xe s
def D3(X:Cx)(f:Value->Sem Value)(r:V->Hp->VK->Prop):Prop:=
 ∀(pins:List (Addr×Obj))(s:Shared)(σ:St)(H:Hp)(x:V)(v:Value)(Q:VK),Inv X pins σ H s->RelV x v->r x H Q->
  wpAny (model X.prog X.w) X.A (f v) (EP X pins σ Q) X.xe s
def eP(X:Cx)(f:Value)(r:List V->Hp->VK->Prop):Prop:=
 ∀(pins:List (Addr×Obj))(s:Shared)(σ:St)(H:Hp)(xs:List V)(us:List Value)(Q:VK),Inv X pins σ H s->Vals xs us->r xs H Q->
  wpAny (model X.prog X.w) X.A (call f us) (EP X pins σ Q) X.xe s
def dA(r:R2)(ta tb:TE):TE:=λ σ H Q=>ta σ H λ x H1=>tb σ H1 λ y H2=>r x y H2 Q
def SK(r:V->Hp->VK->Prop)(ta:TE):TE:=λ σ H Q=>ta σ H λ x H1=>r x H1 Q
def rI(C:Int->Int->Prop)(g:Int->Int->V):R2:=λ x y H Q=>∃i j,x= .int i/\y= .int j/\C i j/\Q (g i j) H
def fO(g:Int->Int->V):R2:=λ x y H Q=>∃i j,x= .int i/\y= .int j/\Q (g i j) H
def rU(g:Int->V):V->Hp->VK->Prop:=λ x H Q=>∃i,x= .int i/\Q (g i) H
section
variable{X:Cx}{a b c:Expr}{ta tb tc:TE}{pos:Pos}
def Jc(ha:PE X a ta)(hb:PE X b tb){pins:List (Addr×Obj)}{s:Shared}{σ:St}{H:Hp}{R:V->V->Hp->Prop}(I:Inv X pins σ H s)
  (h:ta σ H λ x H1=>tb σ H1 λ y H2=>R x y H2){Q:Value->Shared->Prop}{f:Value->Value->Sem Value}
  (hf: ∀v u s2 x y H2,Inv X pins σ H2 s2->RelV x v->RelV y u->R x y H2->wpAny (model X.prog X.w) X.A (f v u) Q X.xe s2):
  wpAny (model X.prog X.w) X.A (eval a X.env) (λ v s₁=>wpAny (model X.prog X.w) X.A (eval b X.env) (λ u s₂=>wpAny (model X.prog X.w) X.A (f v u) Q X.xe s₂) X.xe s₁) X.xe s:=by
 refine aF (ha pins s σ H _ I h) λ v s1 z_=>z_.e λ x H1 I1 r1 q1=>?_;refine aF (hb pins s1 σ H1 _ I1 q1) λ u s2 z_=>z_.e λ y H2 I2 r2 q2=>?_;exact hf v u s2 x y H2 I2 r1 r2 q2
def aj{op:Operator}{r:R2}(ho:cZ X (binaryOp op) r)(ha:PE X a ta)(hb:PE X b tb):PE X (.BinOp a op b pos) (dA r ta tb):=by intro pins s σ H Q I h;exact wpAny_BinOp (Jc ha hb I h λ v u s2 x y H2 I2 rx ry q=>ho pins s2 σ H2 x y v u Q I2 rx ry q)
def fe(ho:D3 X (unaryOp op) r)(ha:PE X a ta):PE X (.UnaryOp op a pos) (SK r ta):=by intro pins s σ H Q I h;exact UnaryOp_ (aF (ha pins s σ H _ I h) λ v s1 z_=>z_.e λ x H1 I1 r1 q1=>ho pins s1 σ H1 x v Q I1 r1 q1)
def vM{f:Value->Value->Sem Value}{C:Int->Int->Prop}{g:Int->Int->Int}
  (rule: ∀(i j:Int)(t u:Tok)(s:Shared)(Q:Value->Shared->Prop)(E:Value->Shared->Prop),C i j->Q (.int (g i j) s.toks) {s with toks:=s.toks+1}->wpAny (model X.prog X.w) X.A (f (.int i t) (.int j u)) Q E s):
  cZ X f (rI C λ i j=> .int (g i j)):=by
 intro pins s σ H x y v u Q I rx ry h;obtain⟨i,j,rfl,rfl,hc,q⟩:=h;obtain⟨t,rfl⟩:=rx;obtain⟨t',rfl⟩:=ry;exact rule i j t t' s _ _ hc ⟨.int (g i j),H,I.tok _,⟨_,rfl⟩,q⟩
def yB{f:Value->Value->Sem Value}{g:Int->Int->Int}
  (rule: ∀(i j:Int)(t u:Tok)(s:Shared)(Q:Value->Shared->Prop)(E:Value->Shared->Prop),Q (.int (g i j) s.toks) {s with toks:=s.toks+1}->wpAny (model X.prog X.w) X.A (f (.int i t) (.int j u)) Q E s):
  cZ X f (fO λ i j=> .int (g i j)):=by
 intro pins s σ H x y v u Q I rx ry h;obtain⟨i,j,rfl,rfl,q⟩:=h;obtain⟨t,rfl⟩:=rx;obtain⟨t',rfl⟩:=ry;exact rule i j t t' s _ _ ⟨.int (g i j),H,I.tok _,⟨_,rfl⟩,q⟩
def CK{f:Value->Value->Sem Value}{g:Int->Int->Bool}
  (rule: ∀(i j:Int)(t u:Tok)(s:Shared)(Q:Value->Shared->Prop)(E:Value->Shared->Prop),Q (.bool (g i j)) s->wpAny (model X.prog X.w) X.A (f (.int i t) (.int j u)) Q E s):
  cZ X f (fO λ i j=> .bl (g i j)):=by
 intro pins s σ H x y v u Q I rx ry h;obtain⟨i,j,rfl,rfl,q⟩:=h;obtain⟨t,rfl⟩:=rx;obtain⟨t',rfl⟩:=ry;exact rule i j t t' s _ _ ⟨.bl (g i j),H,I,rfl,q⟩
def C2(i j:Int):Prop:=0<j/\j<1073741824
def Jm(i j:Int):Prop:=0<=j/\j<=1000000/\i.natAbs<2^64
def oF(i j:Int):Prop:=(-(2^64)<i/\i<2^64)\/(-(2^64)<j/\j<2^64)
def oF.ok(h:oF i j):IntMulOk i j:=by
 rcases h with⟨h1,h2⟩|⟨h1,h2⟩
 ·exact .of_left (intBits_le_64 h1 h2)
 ·exact .of_right (intBits_le_64 h1 h2)
def Xx(k:Nat):(0:Int)<=2^k:=by rw[two_pow_cast];exact nQ _
def aJ:cZ X (binaryOp .Add) (fO λ i j=> .int (i+j)):=yB λ _ _ _ _ _ _ _ q=>add_int q
def cJ:cZ X (binaryOp .Sub) (fO λ i j=> .int (i-j)):=yB λ _ _ _ _ _ _ _ q=>sub_int q
def aR:cZ X (binaryOp .Mult) (rI oF λ i j=> .int (i*j)):=vM λ _ _ _ _ _ _ _ hc q=>mul_int q hc.ok
def mG:cZ X (binaryOp .FloorDiv) (rI C2 λ i j=> .int (i/j)):=vM λ i j _ _ _ _ _ hc q=>by have h1:(0:Int)<j:=hc.1;have h2:j<1073741824:=hc.2;exact floordiv_int (by lia) (by rw[A4 i (by lia)];exact q) (.inl (Le (by lia)))
def HJ:cZ X (binaryOp .Mod) (rI (λ _ j=>0<j) λ i j=> .int (i%j)):=vM λ i j _ _ _ _ _ hc q=>by have h1:(0:Int)<j:=hc;exact mod_int' (by lia) (by rw[Int.fmod_eq_emod_of_nonneg i (by lia)];exact q)
def B1:cZ X (binaryOp .LShift) (rI Jm λ i j=> .int (i*2^j.toNat)):=vM λ _ _ _ _ _ _ _ hc q=>lshift_int_small hc.1 hc.2.1 hc.2.2 q
def aci:cZ X (binaryOp .RShift) (rI (λ _ j=>0<=j) λ i j=> .int (i/2^j.toNat)):=vM λ i j _ _ _ _ _ hc q=>
 rshift_int hc (by rw[A4 i (Xx _)];exact q)
def iC:cZ X (binaryOp .BitAnd) (fO λ i j=> .int (Builtin.bitAnd i j)):=yB λ _ _ _ _ _ _ _ q=>and_int q
def kx:cZ X (inplaceOp .Add) (fO λ i j=> .int (i+j)):=yB λ _ _ _ _ _ _ _ q=>iadd_int q
def Pn:cZ X (inplaceOp .BitOr) (fO λ i j=> .int (Builtin.bitOr i j)):=yB λ _ _ _ _ _ _ _ q=>ior_int q
def SH{f:Value->Sem Value}{g:Int->Int}
  (rule: ∀(i:Int)(t:Tok)(s:Shared)(Q:Value->Shared->Prop)(E:Value->Shared->Prop),Q (.int (g i) s.toks) {s with toks:=s.toks+1}->wpAny (model X.prog X.w) X.A (f (.int i t)) Q E s):
  D3 X f (rU λ i=> .int (g i)):=by
 intro pins s σ H x v Q I rx h;obtain⟨i,rfl,q⟩:=h;obtain⟨t,rfl⟩:=rx;exact rule i t s _ _ ⟨.int (g i),H,I.tok _,⟨_,rfl⟩,q⟩
def fL:D3 X (unaryOp .USub) (rU λ i=> .int (-i)):=SH λ _ _ _ _ _ q=>neg_int q
def OU:D3 X (unaryOp .Invert) (rU λ i=> .int (Builtin.bitNot i)):=SH λ _ _ _ _ _ q=>invert_int q
end
noncomputable def Rx:V->V->Bool
 | .aG,.aG=>true| .aG,.int _=>true| .int _,.aG=>true| .aG,.bl _=>true| .bl _,.aG=>true| .aG,.str _=>true| .str _,.aG=>true
 | .int _,.int _=>true| .bl _,.bl _=>true| .str _,.str _=>true| .j5 _,.j5 _=>true
 | .int _,.str _=>true| .str _,.int _=>true| .bl _,.str _=>true| .str _,.bl _=>true
 |_,_=>false
def Jv:R2:=λ x y H Q=>Rx x y=true/\Q (.bl (decide (x=y))) H
def Ju:R2:=λ x y H Q=>Rx x y=true/\Q (.bl (!decide (x=y))) H
def OL:decide (V.int i=V.int j)=(i==j):=by rw[ki];simp
def Pu:decide (V.bl i=V.bl j)=(i==j):=by rw[ki];simp
def OJ:decide (V.str i=V.str j)=(i==j):=by rw[ki];simp
def OM:decide (V.j5 i=V.j5 j)=(i.toList==j.toList):=by rw[ki];cases i;cases j;simp
section
variable{X:Cx}{a b c:Expr}{ta tb tc:TE}{pos:Pos}
def de(I:Inv X pins σ H s)(q:Q (.bl k) H)(e:k=k'):EP X pins σ Q (.bool k') s:=by subst e;exact⟨.bl k,H,I,rfl,q⟩
theorem dw:cZ X (compareOp .Eq) Jv:=by
 intro pins s σ H x y v u Q I rx ry h;obtain⟨hs,q⟩:=h;cases x with
 |aG=>
  cases rx;cases y with
  |aG=>cases ry;exact EqNone.eq_none_none (de I q (by simp))
  |bl j=>cases ry;exact EqNone.eq_none_bool (de I q (by simp))
  |int j=>obtain⟨t',rfl⟩:=ry;exact EqNone.eq_none_int (de I q (by simp))
  |str j=>obtain⟨t',rfl⟩:=ry;exact EqNone.eq_none_str (de I q (by simp))
  |_=>exact absurd (show false=true from hs) dj
 |bl i=>
  cases rx;cases y with
  |aG=>cases ry;exact EqNone.eq_bool_none (de I q (by simp))
  |bl j=>cases ry;exact eq_bool (de I q Pu)
  |str j=>obtain⟨t',rfl⟩:=ry;exact EqMixed.eq_bool_str (de I q (by simp))
  |_=>exact absurd (show false=true from hs) dj
 |int i=>
  obtain⟨t,rfl⟩:=rx;cases y with
  |aG=>cases ry;exact EqNone.eq_int_none (de I q (by simp))
  |int j=>obtain⟨t',rfl⟩:=ry;exact eq_int (de I q OL)
  |str j=>obtain⟨t',rfl⟩:=ry;exact EqMixed.eq_int_str (de I q (by simp))
  |_=>exact absurd (show false=true from hs) dj
 |str i=>
  obtain⟨t,rfl⟩:=rx;cases y with
  |aG=>cases ry;exact EqNone.eq_str_none (de I q (by simp))
  |bl j=>cases ry;exact EqMixed.eq_str_bool (de I q (by simp))
  |int j=>obtain⟨t',rfl⟩:=ry;exact EqMixed.eq_str_int (de I q (by simp))
  |str j=>obtain⟨t',rfl⟩:=ry;exact eq_str (de I q OJ)
  |_=>exact absurd (show false=true from hs) dj
 |j5 i=>
  obtain⟨t,rfl⟩:=rx;cases y with
  |j5 j=>obtain⟨t',rfl⟩:=ry;exact W.eq_bytes (de I q OM)
  |_=>exact absurd (show false=true from hs) dj
 |_=>cases y<;>exact absurd (show false=true from hs) dj
theorem gZ:cZ X (compareOp .NotEq) Ju:=by
 intro pins s σ H x y v u Q I rx ry h;obtain⟨hs,q⟩:=h;cases x with
 |aG=>
  cases rx;cases y with
  |aG=>cases ry;exact EqNone.ne_none_none (de I q (by simp))
  |bl j=>cases ry;exact EqNone.ne_none_bool (de I q (by simp))
  |int j=>obtain⟨t',rfl⟩:=ry;exact EqNone.ne_none_int (de I q (by simp))
  |str j=>obtain⟨t',rfl⟩:=ry;exact EqNone.ne_none_str (de I q (by simp))
  |_=>exact absurd (show false=true from hs) dj
 |bl i=>
  cases rx;cases y with
  |aG=>cases ry;exact EqNone.ne_bool_none (de I q (by simp))
  |bl j=>cases ry;exact ne_bool (de I q (gh not Pu))
  |str j=>obtain⟨t',rfl⟩:=ry;exact EqMixed.ne_bool_str (de I q (by simp))
  |_=>exact absurd (show false=true from hs) dj
 |int i=>
  obtain⟨t,rfl⟩:=rx;cases y with
  |aG=>cases ry;exact EqNone.ne_int_none (de I q (by simp))
  |int j=>obtain⟨t',rfl⟩:=ry;exact ne_int (de I q (gh not OL))
  |str j=>obtain⟨t',rfl⟩:=ry;exact EqMixed.ne_int_str (de I q (by simp))
  |_=>exact absurd (show false=true from hs) dj
 |str i=>
  obtain⟨t,rfl⟩:=rx;cases y with
  |aG=>cases ry;exact EqNone.ne_str_none (de I q (by simp))
  |bl j=>cases ry;exact EqMixed.ne_str_bool (de I q (by simp))
  |int j=>obtain⟨t',rfl⟩:=ry;exact EqMixed.ne_str_int (de I q (by simp))
  |str j=>obtain⟨t',rfl⟩:=ry;exact ne_str (de I q (gh not OJ))
  |_=>exact absurd (show false=true from hs) dj
 |j5 i=>
  obtain⟨t,rfl⟩:=rx;cases y with
  |j5 j=>obtain⟨t',rfl⟩:=ry;exact W.ne_bytes (de I q (gh not OM))
  |_=>exact absurd (show false=true from hs) dj
 |_=>cases y<;>exact absurd (show false=true from hs) dj
def cW:cZ X (compareOp .Lt) (fO λ i j=> .bl (decide (i<j))):=CK λ _ _ _ _ _ _ _ q=>lt_int q
def d9:cZ X (compareOp .LtE) (fO λ i j=> .bl (decide (i<=j))):=CK λ _ _ _ _ _ _ _ q=>le_int q
def dO:cZ X (compareOp .Gt) (fO λ i j=> .bl (decide (j<i))):=CK λ _ _ _ _ _ _ _ q=>gt_int q
def yk:cZ X (compareOp .GtE) (fO λ i j=> .bl (decide (j<=i))):=CK λ _ _ _ _ _ _ _ q=>ge_int q
def Pf(b:Expr)(h:op≠ .In:=by decide)(h2:op≠ .NotIn:=by decide):behindInMarks op b=false:=by
 have e1:(op==CmpOp.In)=false:=by cases op<;>first|rfl|exact absurd rfl h
 have e2:(op==CmpOp.NotIn)=false:=by cases op<;>first|rfl|exact absurd rfl h2
 cases b<;>simp[behindInMarks,e1,e2]
def aaA{op:CmpOp}{r:R2}(ho:cZ X (compareOp op) r)(ha:PE X a ta)(hb:PE X b tb)(hm:behindInMarks op b=false):PE X (.Compare a [op] [b] pos) (dA r ta tb):=by intro pins s σ H Q I h;exact wpAny_Compare1 (Jc ha hb I h λ v u s2 x y H2 I2 rx ry q=>ho pins s2 σ H2 x y v u Q I2 rx ry q) hm
def yb(t:TE):TT:=λ σ H Q=>t σ H λ x H'=>∃k,x= .bl k/\Q k H'
def aar(ho:cZ X (compareOp op) r)(ha:PE X a ta)(hb:PE X b tb)(hm:behindInMarks op b=false):PT X (.Compare a [op] [b] pos) (yb (dA r ta tb)):=by
 intro pins s σ H Q I h;refine wpAny_isTrue_Compare1 (aF (ha pins s σ H _ I h) λ v s1 z_=>z_.e λ x H1 I1 r1 q1=>aF (hb pins s1 σ H1 _ I1 q1) λ u s2 z_=>z_.e λ y H2 I2 r2 q2=>
  aF (ho pins s2 σ H2 x y v u _ I2 r1 r2 q2) λ c s3 z_=>z_.e λ z H3 I3 r3 ⟨k,e,q3⟩=>?_) hm
 subst e;cases r3;exact rG ⟨H3,I3,q3⟩
def Hs(r r':R2)(ta tb tc:TE):TE:=λ σ H Q=>ta σ H λ x H1=>tb σ H1 λ y H2=>r x y H2 λ z H3=>∃k,z= .bl k/\
 (if k=true then tc σ H3 λ w' H4=>r' y w' H4 Q else Q (.bl false) H3)
theorem Nl(ho:cZ X (compareOp op) r)(jF:cZ X (compareOp zb) r')(ha:PE X a ta)(hb:PE X b tb)(hc:PE X c tc)
  (hm:lastMarks [op,zb] [b,c]=false:=by with_unfolding_all rfl):PE X (.Compare a [op,zb] [b,c] pos) (Hs r r' ta tb tc):=by
 intro pins s σ H Q I h;refine Compare_chain (aF (ha pins s σ H _ I h) λ v s1 z_=>z_.e λ x H1 I1 r1 q1=>chain_link (aF (hb pins s1 σ H1 _ I1 q1) λ u s2 z_=>z_.e λ y H2 I2 r2 q2=>
  aF (ho pins s2 σ H2 x y v u _ I2 r1 r2 q2) λ d s3 z_=>z_.e λ z H3 I3 r3 ⟨k,e,q3⟩=>?_)) hm
 subst e;cases r3;refine rG ?_;cases k with
 |false=>exact ite_ff ⟨.bl false,H3,I3,rfl,q3⟩
 |true=>exact ite_tt (chain_last (aF (hc pins s3 σ H3 _ I3 q3) λ w' s4 z_=>z_.e λ z' H4 I4 r4 q4=>jF pins s4 σ H4 y z' u w' Q I4 r2 r4 q4))
theorem Bx(ho:cZ X (compareOp op) r)(jF:cZ X (compareOp zb) r')(ha:PE X a ta)(hb:PE X b tb)(hc:PE X c tc)
  (hm:lastMarks [op,zb] [b,c]=false:=by with_unfolding_all rfl):PT X (.Compare a [op,zb] [b,c] pos) (yb (Hs r r' ta tb tc)):=by
 intro pins s σ H Q I h;refine isTrue_chain (aF (ha pins s σ H _ I h) λ v s1 z_=>z_.e λ x H1 I1 r1 q1=>test_link (aF (hb pins s1 σ H1 _ I1 q1) λ u s2 z_=>z_.e λ y H2 I2 r2 q2=>
  aF (ho pins s2 σ H2 x y v u _ I2 r1 r2 q2) λ d s3 z_=>z_.e λ z H3 I3 r3 ⟨k,e,q3⟩=>?_)) hm
 subst e;cases r3;refine rG ?_;cases k with
 |false=>
  obtain⟨k',e',q'⟩:=q3;cases e';exact ite_ff ⟨H3,I3,q'⟩
 |true=>
  refine ite_tt (test_last (aF (hc pins s3 σ H3 _ I3 q3) λ w' s4 z_=>z_.e λ z' H4 I4 r4 q4=>aF (jF pins s4 σ H4 y z' u w' _ I4 r2 r4 q4) λ d' s5 z_=>z_.e λ z2 H5 I5 r5 z_=>?_));obtain⟨k2,e2,q5⟩:=z_;subst e2;cases r5;exact rG ⟨H5,I5,q5⟩
def B4:(sizeLine:Nat)<2^63:=by rw[aL];decide
theorem vals1(r:Vals [x] us): ∃u,us=[u]/\RelV x u:=by
 cases r with
 |cons r1 r2=>cases r2;exact⟨_,rfl,r1⟩
theorem vals2(r:Vals [x,y] us): ∃u w',us=[u,w']/\RelV x u/\RelV y w':=by
 cases r with
 |cons r1 r2=>
  cases r2 with
  |cons r3 r4=>cases r4;exact⟨_,_,rfl,r1,r3⟩
def Y0(hc:X.calm=true):eP X (.builtin "max") (λ xs H Q=>∃i j,xs=[.int i,.int j]/\Q (.int (if j>i then j else i)) H):=by
 intro pins s σ H xs us Q I r h;obtain⟨i,j,rfl,q⟩:=h;obtain⟨u,w',rfl,⟨t,rfl⟩,⟨t',rfl⟩⟩:=vals2 r;refine max_two_ints (I.ok.hd hc) λ h' tk k=>⟨_,H,I.kept k,?_,q⟩;by_cases hj:j>i
 ·rw[ao hj,ao hj];exact⟨_,rfl⟩
 ·rw[ai hj,ai hj];exact⟨_,rfl⟩
def YZ(hc:X.calm=true):eP X (.builtin "min") (λ xs H Q=>∃i j,xs=[.int i,.int j]/\Q (.int (if j<i then j else i)) H):=by
 intro pins s σ H xs us Q I r h;obtain⟨i,j,rfl,q⟩:=h;obtain⟨u,w',rfl,⟨t,rfl⟩,⟨t',rfl⟩⟩:=vals2 r;refine min_two_ints (I.ok.hd hc) λ h' tk k=>⟨_,H,I.kept k,?_,q⟩;by_cases hj:j<i
 ·rw[ao hj,ao hj];exact⟨_,rfl⟩
 ·rw[ai hj,ai hj];exact⟨_,rfl⟩
end
end
section
structure sI(h:Heap)(x dx C:Addr)(mA:Str->Option Value):Prop where
 obj:h.get? x=some (W.instObj C dx)
 ns:h.Ns1 dx mA
 ne:dx≠x
def YG{h:Heap}{dx:Addr}{mA:Str->Option Value}(n:h.Ns1 dx mA): ∃od,h.get? dx=some od/\ ∀name,W.lookIn name od=some (mA name):=by
 obtain⟨o,es,ep,ho,hd,hk,_,hm⟩:=n;refine⟨o,ho,λ name=>?_⟩;have e:=hm name;unfold nsFind findBy at e;rw[<- Array.find?_toList]at e;unfold W.lookIn;rw[hd];dsimp only;split
 ·rename_i y q;rw[q]at e;exact gh some e
 ·rename_i q;rw[q]at e;have a:es.toList.any (·.refKey)=false:=by
   rw[rF];intro y hy;obtain⟨z,t,jS⟩:=hk y (Fv.mp hy);simp[DictEntry.refKey,jS]
  have a': ¬es.toList.any (·.refKey)=true:=by rw[a];exact dj
  rw[ai a'];exact gh some e
def sI.look(I:sI h x dx C mA): ∃od,W.InstAt h x (W.instObj C dx) C (some od)/\ ∀name,W.lookIn name od=some (mA name):=
 let⟨od,ho,hl⟩:=YG I.ns
 ⟨od,⟨I.obj,rfl,rfl,ho⟩,hl⟩
section
variable{prog:Program}{w:World}{A:Around}{E:Value->Shared->Prop}{s:Shared}{K:W.Frag}{x dx C f:Addr}{mA:Str->Option Value}{name:Str}{v:Value}
def get_map(X:K.In s.heap)(I:sI s.heap x dx C mA)(hg:W.plainGet K C name=true)(hh:W.hasDictIn K C=true)
  (ha:W.findIn K (.ref C) name=some none)(hv:mA name=some v)(gr:W.handedIn v=true)(h:Q v {s with toks:=s.toks+1}):
  wpAny (model prog w) A (getAttr (.ref x) name expr) Q E s:=by
 obtain⟨od,J,hl⟩:=I.look;exact W.get_value X J (W.plainGet_of hg).1 (W.findObj_own hh ha rfl (by rw[hl,hv])) gr h
def ZN(X:K.In s.heap)(I:sI s.heap x dx C mA)(hg:W.plainGet K C name=true)
  (hf:W.findIn K (.ref C) name=some (some (.ref f)))(ht:W.isFn K (.ref f)=true)(hv:mA name=none)(h:Q (.ref f,[.ref x]) s):
  wpAny (model prog w) A (getMethod (.ref x) name pl) Q E s:=by
 obtain⟨od,J,hl⟩:=I.look;exact W.method_fn X J (W.plainGet_of hg).1 (W.plainGet_of hg).2 hf (pw.mp ht) (by show(W.lookIn name od).map (·.isSome)=some false;rw[hl,hv];rfl) h
def aab(X:K.In s.heap)(I:sI s.heap x dx C mA)
  (hs:W.findIn K (.ref C) "__setattr__" =some (some (.builtin "object.__setattr__")))(hp:W.plainOver K C=true)(ht:W.takerIn K C name=some none)(hh:W.hasDictIn K C=true)
  (hw:PySem.Within mA ns)(hsz:ns.length<=sizeLine)
  (h: ∀h',sI h' x dx C (λ y=>if y=name then some v else mA y)->Heap.SameBut dx s.heap h'->Q () {s with heap:=h',toks:=s.toks+2}):
  wpAny (model prog w) A (setAttr (.ref x) name v) Q E s:=by
 obtain⟨od,J,hl⟩:=I.look;refine W.set_plain X J hs (W.osa_open (s:={s with toks:=s.toks+1}) (r:=none) X J hp ht λ b=>?_);obtain⟨cd,hc,fq⟩:=W.any_some hh;have hx:s.heap.get? x=some ⟨.ref C,some dx,.plain, #[]⟩:=I.obj;refine aA (bc (aA (aA (wpAny_loadPart hx (aA (W.Looks.here (s:={s with toks:=s.toks+1}) (W.looks_clsIn X hc) ?_))))));rw[fq];refine bc (a:=some dx) (aA (bc (aA ?_)));refine wpAny_nsSet1 (s:={s with toks:=s.toks+1}) I.ns λ h' vZ jD=>?_;obtain⟨oD,esD,epD,hoD,hdD,hcD⟩:=vZ.count (Within.cons name v hw);refine aA (wpAny_lookBehind hoD (by rw[hdD];exact pastItsLine_dict (bY hcD (by rw[dX];lia))) ?_);exact bc (h _ ⟨(jD.2 _ (mq I.ne)).trans I.obj,vZ,I.ne⟩ jD)
def ZD(X:K.In s.heap)(hm:W.makesIn K C=true)
  (hi:W.findIn K (.ref C) "__init__" =some (some (.ref f)))(hf:W.typeIn K (.ref f)=some (.type "function"))
  (h:codeAny (model prog w) (A.under (.builtin "type.__call__" ⟨.ref C::vs,kw⟩)) (.call (.ref f) ⟨.ref (s.heap.objs.size+1)::vs,kw⟩) (W.InitBack (s.heap.objs.size+1) R)
   {s with heap:=(s.heap.push W.emptyDict).push (W.instObj C s.heap.objs.size)}):
  codeAny (model prog w) A (.call (.ref C) ⟨vs,kw⟩) R s:=by
 obtain⟨hh,g,d,t,os⟩:=s;exact W.make_core (W.makes_of X hm) (W.looks_findIn X hi) (λ self=>W.bind_fn X self hf) (.inl rfl) h
end
noncomputable def fh (f:Str) (v:V):List (Str×V)->List (Str×V)
 |[]=>[(f,v)]
 |(g,x)::r=>if g=f then(g,v)::r else(g,x)::fh f v r
theorem LJ(f g:Str)(v:V): ∀fs:List (Str×V),(fh f v fs).lookup g=if g=f then some v else fs.lookup g
 |[]=>by
  show List.lookup g [(f,v)]=_;by_cases h:g=f
  ·have hb:(g==f)=true:=pw.mpr h;simp only[List.lookup,hb,ao h]
  ·have hb:(g==f)=false:=xi.mpr h;simp only[List.lookup,hb,ai h]
 |(k,x)::r=>by
  have ih:=LJ f g v r;rw[show fh f v ((k,x)::r)=(if k=f then(k,v)::r else(k,x)::fh f v r)from rfl];by_cases hk:k=f
  ·rw[ao hk];by_cases h:g=k
   ·have hb:(g==k)=true:=pw.mpr h;simp only[List.lookup,hb,ao (h.trans hk)]
   ·have hb:(g==k)=false:=xi.mpr h;simp only[List.lookup,hb,ai (λ e:g=f=>h (e.trans hk.symm))]
  ·rw[ai hk];by_cases h:g=k
   ·have hb:(g==k)=true:=pw.mpr h;simp only[List.lookup,hb,ai (λ e:g=f=>hk (h.symm.trans e))]
   ·have hb:(g==k)=false:=xi.mpr h;simp only[List.lookup,hb];exact ih
theorem Gq(f:Str)(v:V): ∀fs:List (Str×V),f∈(fh f v fs).map (·.1)/\ ∀g,g∈fs.map (·.1)->g∈(fh f v fs).map (·.1)
 |[]=>⟨by simp[fh],λ g h=>by simp at h⟩
 |(k,x)::r=>by
  obtain⟨i1,i2⟩:=Gq f v r;rw[show fh f v ((k,x)::r)=(if k=f then(k,v)::r else(k,x)::fh f v r)from rfl];by_cases hk:k=f
  ·rw[ao hk];subst hk;exact⟨by simp,λ g h=>by simpa using h⟩
  ·rw[ai hk];refine⟨?_,λ g h=>?_⟩
   ·rw[cF];exact gi _ i1
   ·rw[cF]at h⊢;rcases bV.mp h with e|e
    ·exact bV.mpr (.inl e)
    ·exact gi _ (i2 g e)
theorem LK(f:Str)(v:V): ∀fs:List (Str×V),(fh f v fs).length<=fs.length+1
 |[]=>by simp[fh]
 |(k,x)::r=>by
  have ih:=LK f v r;rw[show fh f v ((k,x)::r)=(if k=f then(k,v)::r else(k,x)::fh f v r)from rfl];by_cases hk:k=f
  ·rw[ao hk,dX,dX];lia
  ·rw[ai hk,dX,dX];lia
theorem gm.some_of(r:gm (some v) o): ∃u,o=some u/\RelV v u:=by
 cases o with
 |none=>exact(show False from r).elim
 |some u=>exact⟨u,rfl,r⟩
theorem gm.none_of(r:gm none o):o=none:=by
 cases o with
 |none=>rfl
 |some u=>exact(show False from r).elim
theorem YO(r:RelV v u):W.handedIn u=true:=by
 cases v with
 |aG=>cases(show u=Value.none from r);rfl
 |bl b=>cases(show u=Value.bool b from r);rfl
 |int i=>obtain⟨t,e⟩:=(show∃t,u=Value.int i t from r);cases e;rfl
 |str x=>obtain⟨t,e⟩:=(show∃t,u=Value.str x t from r);cases e;rfl
 |j5 b=>obtain⟨t,e⟩:=(show∃t,u=Value.bytes b t from r);cases e;rfl
 |zX b=>obtain⟨t,e⟩:=(show∃t,u=Value.float b t from r);cases e;rfl
 |ref a=>cases(show u=Value.ref a from r);rfl
 |ty n=>cases(show u=Value.type n from r);rfl
section
variable{P:Program}{w:World}{H H':Hp}{h h':Heap}{a C dx:Addr}{fs fs':List (Str×V)}
def Hg(ax:cU P w H h)(e:H a=some (.ins C dx fs)): ∃mA,sI h a dx C mA/\(∀f,gm (fs.lookup f) (mA f))/\PySem.Within mA (fs.map (·.1))/\fs.length<=1000/\H dx=some (.own a):=by obtain⟨d,z,ne,ob,mA,n,r,q⟩:=(show dy P w H h a (.ins C dx fs)from ax a _ e);exact⟨mA,⟨ob,n,ne⟩,r,q,z,d⟩
end
structure gA(K:W.Frag)(C:Addr):Prop where
 pg:W.plainGet K C Str.empty=true
 hd:W.hasDictIn K C=true
 po:W.plainOver K C=true
 sa:W.findIn K (.ref C) "__setattr__" =some (some (.builtin "object.__setattr__"))
def gA.get{K:W.Frag}{C:Addr}(c:gA K C)(f:Str):W.plainGet K C f=true:=c.pg
def b9(K:W.Frag)(C:Addr)(f:Str):Prop:=W.findIn K (.ref C) f=some none
def b9.ac0{K:W.Frag}{C:Addr}{f:Str}(n:b9 K C f):W.takerIn K C f=some none:=by unfold W.takerIn;rw[show W.findIn K (.ref C) f=some none from n];rfl
structure Meth(K:W.Frag)(C:Addr)(m:Str)(f:Addr):Prop where
 at_:W.findIn K (.ref C) m=some (some (.ref f))
 fn:W.isFn K (.ref f)=true
 kp:W.keepIn K (.ref f)=true
section
variable{X:Cx}{pins:List (Addr×Obj)}{σ:St}{H:Hp}{s:Shared}{a C dx:Addr}{fs:List (Str×V)}{f:Str}{v:V}{A:Around}{E:Value->Shared->Prop}
def L0(I:Inv X pins σ H s)(e:H a=some (.ins C dx fs))(c:gA X.K C)(n:b9 X.K C f)(l:fs.lookup f=some v)
  (h: ∀u s',Inv X pins σ H s'->RelV v u->Q u s'):wpAny (model X.prog X.w) A (getAttr (.ref a) f b) Q E s:=by
 obtain⟨mA,O,r,_,_,_⟩:=Hg I.ax e;obtain⟨u,hu,ru⟩:=gm.some_of (v:=v) (o:=mA f) (by rw[<- l];exact r f);exact get_map I.gq O (c.get f) c.hd n hu (YO ru) (h u _ (I.tok _) ru)
def LZ(I:Inv X pins σ H s)(e:H a=some (.ins C dx fs))(c:gA X.K C)(k:Meth X.K C m g)(l:fs.lookup m=none)
  (h:Q (.ref g,[.ref a]) s):wpAny (model X.prog X.w) A (getMethod (.ref a) m pl) Q E s:=by
 obtain⟨mA,O,r,_,_,_⟩:=Hg I.ax e;have hn:mA m=none:=gm.none_of (by rw[<- l];exact r m);exact ZN I.gq O (c.get m) k.at_ k.fn hn h
def LR(I:Inv X pins σ H s)(e:H a=some (.ins C dx fs))(c:gA X.K C)(n:b9 X.K C f)(hl:fs.length<1000)(ry:RelV y u)
  (h: ∀s',Inv X pins σ (upd H a (.ins C dx (fh f y fs))) s'->Q () s'):wpAny (model X.prog X.w) A (setAttr (.ref a) f u) Q E s:=by
 obtain⟨mA,O,r,wi,_,ho⟩:=Hg I.ax e;have hz:(fs.map (·.1)).length<=sizeLine:=by rw[aV,aL];lia
 refine aab I.gq O c.sa c.po n.ac0 c.hd wi hz λ h' O' sb=>h _ ?_;have hd: ∃o,h'.get? dx=some o:=let⟨o,_,_,e',_⟩:=O'.ns;⟨o,e'⟩;refine I.write (x:=a) (e:=dx) (by rw[e];exact True.intro) (.inr ho) (λ b q hb z=>(sb.2 b hb).trans z) hd ?_;refine⟨by rw[bb O.ne];exact ho,?_,O.ne,O'.obj,_,O'.ns,λ g=>?_,λ g hg=>?_⟩
 ·have:=LK f y fs;lia
 ·show gm ((fh f y fs).lookup g) (if g=f then some u else mA g);rw[LJ];by_cases q:g=f
  ·rw[ao q,ao q];exact ry
  ·rw[ai q,ai q];exact r g
 ·by_cases q:g=f
  ·rw[q];exact(Gq f y fs).1
  ·refine(Gq f y fs).2 g (wi g λ z=>hg ?_);show(if g=f then some u else mA g)=none;rw[ai q];exact z
def Inv.made(I:Inv X pins σ H s):Inv X pins σ (upd (upd H s.heap.objs.size (.own (s.heap.objs.size+1))) (s.heap.objs.size+1) (.ins C s.heap.objs.size []))
  {s with heap:=(s.heap.push W.emptyDict).push (W.instObj C s.heap.objs.size)}:=by
 have e1:(s.heap.push W.emptyDict).get? s.heap.objs.size=some W.emptyDict:=fy s.heap rfl;have e2:((s.heap.push W.emptyDict).push (W.instObj C s.heap.objs.size)).get? (s.heap.objs.size+1)=some (W.instObj C s.heap.objs.size):=by
  have:=fy (s.heap.push W.emptyDict) (o:=W.instObj C s.heap.objs.size) rfl
  rwa [gB]at this
 have e3:(s.heap.push W.emptyDict).Ns s.heap.objs.size (λ _=>none):=⟨W.emptyDict, #[],_,e1,rfl,(λ e he=>absurd he (by simp)),λ _=>rfl⟩;have I1:=I.laid (a:=s.heap.objs.size) (o:= .own (s.heap.objs.size+1)) (h':=s.heap.push W.emptyDict) (t':=s.toks) (λ b u q=>cp _ q) (aQ _) ⟨_,e1⟩;refine I1.laid (a:=s.heap.objs.size+1) (o:= .ins C s.heap.objs.size []) (t':=s.toks) (λ b u q=>cp _ q) (nM (gB _ _)) ?_;have ne:s.heap.objs.size≠s.heap.objs.size+1:=ek (Ff _);refine⟨by rw[bb ne,br],cP _,ne,e2,λ _=>none,(Heap.Ns1.of_empty e3).at λ o q=>cp _ q,λ _=>True.intro,λ y hy=>absurd rfl hy⟩
def aa3(hb:attributeBase e f env (eval e env)=eval e env)
  (h:wpAny (model prog w) A (eval e env) (λ o s₁=>wpAny (model prog w) A (getAttr o f true) Q E s₁) E s):wpAny (model prog w) A (eval (.Attribute e f pos) env) Q E s:=
 Attribute_any_ h (by rw[arm_eval_Attribute,hb])
end
def afN(X:Cx)(op:Operator)(rd:V->V->Hp->VK->Prop):Prop:=
 ∀(pins:List (Addr×Obj))(s:Shared)(σ:St)(H:Hp)(x y:V)(u v:Value)(Q:VK),Inv X pins σ H s->RelV x u->RelV y v->rd x y H Q->wpAny (model X.prog X.w) X.A (inplaceOp op u v) (EP X pins σ Q) X.xe s
end
section
structure ck(k:Nat)(A:Around):Prop where
 hd:A.handled=none
 dp:A.depth+3*k+5<recursionLimit
 un:A.units+16*k+200<cLine
def ck.mono(r:ck k A)(h:j<=k):ck j A:=⟨r.hd,by have:=r.dp;lia,by have:=r.un;lia⟩
theorem ck.deeper(r:ck (k+1) A)(env:Env):ck k (A.deeper env):=
 ⟨r.hd,by have:=r.dp;show A.depth+1+3*k+5<_;lia,by have:=r.un;show A.units+3+16*k+200<_;lia⟩
def XX{A:Around}{C:Addr}{us:List Value}{kw:List (Str×Value)}:(A.under (.builtin "type.__call__" ⟨.ref C::us,kw⟩)).depth=A.depth+1:=by first|rfl|simp[Around.under,Code.weight,Code.isCreation,Code.isGuard,Code.isCaller,Code.frames,Code.isFrame,guardIds]
def XW{A:Around}{C:Addr}{us:List Value}{kw:List (Str×Value)}:(A.under (.builtin "type.__call__" ⟨.ref C::us,kw⟩)).units=A.units+1:=by first|rfl|simp[Around.under,Code.cUnits,Code.frames,Code.isFrame]
def ck.make(r:ck (k+1) A)(C:Addr)(us:List Value)(kw:List (Str×Value)):ck k (A.under (.builtin "type.__call__" ⟨.ref C::us,kw⟩)):=
 ⟨r.hd,by have:=r.dp;rw[XX];lia,by have:=r.un;rw[XW];lia⟩
theorem ck.depth(r:ck k A):A.depth<recursionLimit:=by have:=r.dp;lia
theorem ck.units(r:ck k A):A.units+64<cLine:=by have:=r.un;lia
def jc:TA:=λ _ H Q=>Q [] H
def i7(ta:TE)(tr:TA):TA:=λ σ H Q=>ta σ H λ x H1=>tr σ H1 λ xs H2=>Q (x::xs) H2
section
variable{X:Cx}{e:Expr}{es:List Expr}{te:TE}{t:TA}{pos:Pos}
def ae:PA X [] jc:=λ _ _ _ _ H Q I h=>AK ⟨[],H,I,.nil,h⟩
def aa(ha:PE X e te)(hr:PA X es t)(hs:starEach (e::es) X.env=(false,eval e X.env)::starEach es X.env:=by rfl):PA X (e::es) (i7 te t):=by intro pos pins s σ H Q I h;rw[hs];show wpAny _ _ (spliced ((false,eval e X.env)::backTo pos (starEach es X.env))) _ _ s;refine uB (aF (ha pins s σ H _ I h) λ u s1 z_=>z_.e λ x H1 I1 r1 q1=>?_);exact aF (hr pos pins s1 σ H1 _ I1 q1) λ us s2 z_=>z_.e λ xs H2 I2 r2 q2=>⟨x::xs,H2,I2,.cons r1 r2,q2⟩
def yt(t:TA):TE:=λ σ H Q=>t σ H λ xs H1=>xs.length<=sizeLine/\ ∀p,H1 p=none->Q (.ref p) (upd H1 p (.tup xs))
def sC(t:TA):TE:=λ σ H Q=>t σ H λ xs H1=>xs.length<=sizeLine/\ ∀p,H1 p=none->Q (.ref p) (upd H1 p (.lst xs))
def jw{x1}(h:PA X es t):PE X (.Tuple es x1 pos) (yt t):=by intro pins s σ H Q I hq;refine wpAny_Tuple_spliced (aF (h pos pins s σ H _ I hq) λ us s1 z_=>z_.e λ xs H1 I1 r ⟨z,q⟩=>⟨by rw[<- r.length];exact z,?_⟩);have hf:H1 s1.heap.objs.size=none:=I1.ax.fresh (aQ _);refine⟨.ref s1.heap.objs.size,upd H1 s1.heap.objs.size (.tup xs),I1.laid (t':=s1.toks) (λ b u e=>cp _ e) (aQ _) ?_,rfl,q _ hf⟩;exact⟨z,us,r,⟨_,fy _ rfl,rfl,_,rfl⟩⟩
def bo(h:PA X es t):PE X (.List es pos) (sC t):=by intro pins s σ H Q I hq;refine wpAny_List_spliced (aF (h pos pins s σ H _ I hq) λ us s1 z_=>z_.e λ xs H1 I1 r ⟨z,q⟩=>⟨by rw[<- r.length];exact z,?_⟩);have hf:H1 s1.heap.objs.size=none:=I1.ax.fresh (aQ _);refine⟨.ref s1.heap.objs.size,upd H1 s1.heap.objs.size (.lst xs),I1.laid (t':=s1.toks) (λ b u e=>cp _ e) (aQ _) ?_,rfl,q _ hf⟩;exact⟨z,us,0,r,fy _ rfl⟩
end
abbrev Sp:=List V->Hp->VK->XK->Prop
abbrev kW:=List Env->Hp->Shared->XK->Value->Shared->Prop
structure sJ(P:Program)(w:World)(K:W.Frag)(mg:Str->Option Value)(base:Heap)(A:Around)(outer:List Env)(s:Shared)(H:Hp):Prop where
 frames:A.frames=some outer
 mod:Mod K mg base
 bs: ∀b o,base.get? b=some o->s.heap.get? b=some o/\H b=none
 kR:base.objs.size<=s.heap.objs.size
 g_:s.heap.FunFrames base outer
 kQ: ∀b∈fS outer,H b=none
 ax:cU P w H s.heap
 bare:AllBare s.gens
def CE(outer:List Env)(P:Program)(w:World)(H:Hp)(s:Shared)(Q:VK)(u:Value)(s':Shared):Prop:=
 ∃v H',s'.os=s.os/\AllBare s'.gens/\Un (fS outer) [] H H' s.heap s'.heap/\cU P w H' s'.heap/\RelV v u/\Q v H'
def CR(CX:kW)(outer:List Env)(P:Program)(w:World)(H:Hp)(s:Shared)(Q:VK)(E:XK)(r:Result)(s':Shared):Prop:=
 match r with
 | .ok (.ret u)=>CE outer P w H s Q u s'
 | .ok _=>False
 | .error e=>CX outer H s E e s'
structure hR(P:Program)(w:World)(K:W.Frag)(mg:Str->Option Value)(base:Heap)(CX:kW)(k:Nat)(f:Addr)(fd:FuncData)(ps:List Str)(sp:Sp):Prop where
 len: ∀vs H Q E,sp vs H Q E->vs.length=ps.length
 run: ∀(A:Around)(outer:List Env)(s:Shared)(H:Hp)(args:Args)(us:List Value)(vs:List V)(Q:VK)(E:XK),ck k A->sJ P w K mg base A outer s H->BindsTo s fd args (ps.zip us)->Vals vs us->sp vs H Q E->
  codeAny (model P w) A (.call (.ref f) args) (CR CX outer P w H s Q E) s
theorem hR.mono{P:Program}{w:World}{K:W.Frag}{mg:Str->Option Value}{base:Heap}{CX:kW}{j k:Nat}{f:Addr}{fd:FuncData}{ps:List Str}{sp:Sp}(F:hR P w K mg base CX j f fd ps sp)(h:j<=k):
  hR P w K mg base CX k f fd ps sp:=⟨F.len,λ A outer s H args us vs Q E hr=>F.run A outer s H args us vs Q E (hr.mono h)⟩
def sJ.make{P:Program}{w:World}{K:W.Frag}{mg:Str->Option Value}{base:Heap}{A:Around}{outer:List Env}{s:Shared}{H:Hp}(e:sJ P w K mg base A outer s H)(C:Addr)(us:List Value)(kw:List (Str×Value)):
  sJ P w K mg base (A.under (.builtin "type.__call__" ⟨.ref C::us,kw⟩)) outer s H:=⟨by first|exact e.frames|(simpa [Around.under,Code.envs,Code.isFrame,pushEnvs]using e.frames),e.mod,e.bs,e.kR,e.g_,e.kQ,e.ax,e.bare⟩
section
variable{X:Cx}{pins:List (Addr×Obj)}{σ:St}{H:Hp}{s s':Shared}
def Inv.Sf(I:Inv X pins σ H s):sJ X.prog X.w X.K X.mg X.base X.A X.stack s H:=
 ⟨I.ok.frames,I.ok.mod,I.bs,bY I.ok.kR I.sz,I.stack,I.NX,I.ax,I.bare⟩
def Inv.after(I:Inv X pins σ H s)(h:CE X.stack X.prog X.w H s Q u s'):EP X pins σ Q u s':=by obtain⟨v,H',os,bare,un,ax,r,q⟩:=h;obtain⟨hh,g,d,t,os'⟩:=s';obtain rfl:os'=s.os:=os;exact⟨v,H',I.call (h':=hh) (g':=g) (d':=d) (t':=t) (ch:=[]) un ax bare (λ b z=>absurd z (by simp)),r,q⟩
end
def yd(sp:Sp)(ft:List V)(E:XK)(t:TA):TE:=λ σ H Q=>t σ H λ vs H1=>sp (vs++ft) H1 Q E
def B6(C:Addr)(m:Str)(sp:Sp)(ft:List V)(E:XK)(ta:TE)(t:TA):TE:=λ σ H Q=>ta σ H λ x H1=>∃a dx fs,x= .ref a/\H1 a=some (.ins C dx fs)/\fs.lookup m=none/\
 t σ H1 λ vs H2=>sp (x::(vs++ft)) H2 Q E
def yc(C:Addr)(sp:Sp)(ft:List V)(E:XK)(t:TA):TE:=λ σ H Q=>t σ H λ vs H1=>∀x dx,H1 x=none->H1 dx=none->dx≠x->
 sp (.ref x::(vs++ft)) (upd (upd H1 dx (.own x)) x (.ins C dx [])) (λ v H2=>v= .aG/\Q (.ref x) H2) E
def Binds(K:W.Frag)(fd:FuncData)(ps:List Str)(ds:List Value):Prop:=
 ∀(s:Shared)(us:List Value),K.In s.heap->(us++ds).length=ps.length->BindsTo s fd ⟨us,[]⟩ (ps.zip (us++ds))
def Binds.all{K:W.Frag}{fd:FuncData}{ps:List Str}(h: ∀us:List Value,us.length=ps.length->bindArgs fd ⟨us,[]⟩=pure (ps.zip us)):Binds K fd ps []:=λ s us _ hl=>by rw[cG]at hl⊢;exact .of_eq (h us hl)
def Passes(CX:kW)(X:Cx)(E:XK):Prop:=∀(pins:List (Addr×Obj))(σ:St)(H:Hp)(s:Shared)(e:Value)(s':Shared),Inv X pins σ H s->CX X.stack H s E e s'->X.xe e s'
section
variable{X:Cx}{CX:kW}{k:Nat}{f C:Addr}{fd:FuncData}{ps:List Str}{sp:Sp}{ft:List V}{ds:List Value}{E:XK}{x m:Str}{p pos apos:Pos}{e o:Expr}{es:List Expr}{ta:TE}{t:TA}
theorem HA(F:hR X.prog X.w X.K X.mg X.base CX k f fd ps sp)(hr:ck k X.A)(hb:Binds X.K fd ps ds)(hd:Vals ft ds)(hx:Passes CX X E)
  (I:Inv X pins σ H s)(r:Vals vs us)(h:sp (vs++ft) H Q E):wpAny (model X.prog X.w) X.A (call (.ref f) us) (EP X pins σ Q) X.xe s:=by
 have r2:Vals (vs++ft) (us++ds):=r.append hd;have hl:(us++ds).length=ps.length:=by rw[<- r2.length];exact F.len _ _ _ _ h
 refine wpAny_call (Ao (F.run X.A X.stack s H ⟨us,[]⟩ (us++ds) (vs++ft) Q E hr I.Sf (hb s us I.gq hl) r2 h) λ r s' hq=>?_);cases r with
 |error e=>exact hx pins σ H s e s' I hq
 |ok fl=>
  cases fl with
  |ret u=>exact I.after hq
  |next=>exact False.elim hq
  |brk=>exact False.elim hq
  |cont=>exact False.elim hq
def Ou(F:hR X.prog X.w X.K X.mg X.base CX k f fd ps sp)(hr:ck k X.A)(hg:Gl X x)(hm:X.mg x=some (.ref f))(hk:W.keepIn X.K (.ref f)=true)(hb:Binds X.K fd ps ds)(hd:Vals ft ds)(hx:Passes CX X E)
  (ha:PA X (e::es) t)(fR:(x==("__debug__" :Str))=false:=by decide)(he:starEach (e::es) X.env=(false,eval e X.env)::starEach es X.env:=by rfl)(bz:(backTo pos (starEach es X.env)).any (·.1)=false:=by rfl):
  PE X (.Call (.Name x p) (e::es) [] pos) (yd sp ft E t):=by
 intro pins s σ H Q I h;refine uA (u0 I hg hm ?_ fR);refine W.callWith_K (h₀:=X.base) I.ok.mod.oP hk (aF (ha pos pins s σ H _ I h) λ us s1 z_=>z_.e λ vs H1 I1 r q=>⟨I1.gq,?_⟩) he bz;exact HA F hr hb hd hx I1 r q
def aaw(he:PE X o ta)(c:gA X.K C)(hm:Meth X.K C m f)(F:hR X.prog X.w X.K X.mg X.base CX k f fd ps sp)(hr:ck k X.A)(hb:Binds X.K fd ps ds)(hd:Vals ft ds)(hx:Passes CX X E)(ha:PA X (e::es) t)
  (eS:starEach (e::es) X.env=(false,eval e X.env)::starEach es X.env:=by rfl)(bz:(backTo pos (starEach es X.env)).any (·.1)=false:=by rfl)
  (ht:eval (.Call (.Attribute o m apos) (e::es) [] pos) X.env=(do
   let ov <- eval o X.env
   standAt apos.atName
   let(f,first)<- holding [ov] (getMethod ov m pl)
   callWith pos f first (backTo pos (starEach (e::es) X.env)) (backToKw pos (keywordEach [] X.env))):=by rfl):
  PE X (.Call (.Attribute o m apos) (e::es) [] pos) (B6 C m sp ft E ta t):=by
 intro pins s σ H Q I h;refine W.methodCall_KW (pl:=pl) (aF (he pins s σ H _ I h) λ u s1 z_=>z_.e λ x H1 I1 rx z_=>?_) ht;obtain⟨a,dx,fs,ex,ea,l,q⟩:=z_;subst ex;obtain rfl:u=Value.ref a:=rx;refine LZ I1 ea c hm l ?_;refine W.callWith_K (first:=[.ref a]) (h₀:=X.base) I.ok.mod.oP hm.kp (aF (ha pos pins s1 σ H1 _ I1 q) λ us s2 z_=>z_.e λ vs H2 I2 r q2=>⟨I2.gq,?_⟩) eS bz;exact HA (us:= .ref a::us) (vs:= .ref a::vs) F hr hb hd hx I2 (.cons rfl r) q2
def Zt(he:PE X o ta)(c:gA X.K C)(hm:Meth X.K C m f)(F:hR X.prog X.w X.K X.mg X.base CX k f fd ps sp)(hr:ck k X.A)(hb:Binds X.K fd ps ds)(hd:Vals ft ds)(hx:Passes CX X E)
  (ht:eval (.Call (.Attribute o m apos) [] [] pos) X.env=(do
   let ov <- eval o X.env
   standAt apos.atName
   let(f,first)<- holding [ov] (getMethod ov m pl)
   callWith pos f first (backTo pos (starEach [] X.env)) (backToKw pos (keywordEach [] X.env))):=by rfl):
  PE X (.Call (.Attribute o m apos) [] [] pos) (B6 C m sp ft E ta jc):=by
 intro pins s σ H Q I h;refine W.methodCall_KW (pl:=pl) (aF (he pins s σ H _ I h) λ u s1 z_=>z_.e λ x H1 I1 rx z_=>?_) ht;obtain⟨a,dx,fs,ex,ea,l,q⟩:=z_;subst ex;obtain rfl:u=Value.ref a:=rx;refine LZ I1 ea c hm l ?_;exact W.callWith_K0 (first:=[.ref a]) I1.gq hm.kp (HA (us:=[.ref a]) (vs:=[.ref a]) F hr hb hd hx I1 (.cons rfl .nil) q)
structure Mk(K:W.Frag)(C f:Addr):Prop where
 makes:W.makesIn K C=true
 init:W.findIn K (.ref C) "__init__" =some (some (.ref f))
 fn:W.isFn K (.ref f)=true
 kp:W.keepIn K (.ref C)=true
theorem M7(M:Mk X.K C f)(F:hR X.prog X.w X.K X.mg X.base CX k f fd ps sp)(hr:ck (k+1) X.A)(hb:Binds X.K fd ps ds)(hd:Vals ft ds)
  (hx:Passes CX X E)(I:Inv X pins σ H s)(r:Vals vs us)
  (h: ∀x dx,H x=none->H dx=none->dx≠x->sp (.ref x::(vs++ft)) (upd (upd H dx (.own x)) x (.ins C dx [])) (λ v H2=>v= .aG/\Q (.ref x) H2) E):
  wpAny (model X.prog X.w) X.A (call (.ref C) us) (EP X pins σ Q) X.xe s:=by
 have hq:=h (s.heap.objs.size+1) s.heap.objs.size (I.ax.fresh (Nat.le_succ _)) (I.ax.fresh (aQ _)) (ek (Ff _));have I2:=Inv.made (C:=C) I;have r2:Vals (V.ref (s.heap.objs.size+1)::(vs++ft)) (Value.ref (s.heap.objs.size+1)::(us++ds)):= .cons rfl (r.append hd);have hl:(Value.ref (s.heap.objs.size+1)::us++ds).length=ps.length:=by have e:=r2.length;rw[F.len _ _ _ _ hq]at e;exact e.symm
 refine wpAny_call (ZD (f:=f) I.gq M.makes M.init (pw.mp M.fn) (Ao (F.run _ X.stack _ _ ⟨Value.ref (s.heap.objs.size+1)::us,[]⟩ (Value.ref (s.heap.objs.size+1)::(us++ds)) _ _ E (hr.make C us [])
  (I2.Sf.make C us []) (hb _ (Value.ref (s.heap.objs.size+1)::us) I2.gq hl) r2 hq) λ r s' oS=>?_))
 cases r with
 |error e=>exact hx pins σ _ _ e s' I2 oS
 |ok fl=>
  cases fl with
  |ret u=>
   obtain⟨v,H',I3,rv,ev,q3⟩:=I2.after oS;subst ev;exact⟨rv,⟨V.ref (s.heap.objs.size+1),H',I3,rfl,q3⟩⟩
  |next=>exact False.elim oS
  |brk=>exact False.elim oS
  |cont=>exact False.elim oS
def aax(M:Mk X.K C f)(F:hR X.prog X.w X.K X.mg X.base CX k f fd ps sp)(hr:ck (k+1) X.A)(hg:Gl X x)(hm:X.mg x=some (.ref C))(hb:Binds X.K fd ps ds)(hd:Vals ft ds)(hx:Passes CX X E)
  (ha:PA X (e::es) t)(fR:(x==("__debug__" :Str))=false:=by decide)(he:starEach (e::es) X.env=(false,eval e X.env)::starEach es X.env:=by rfl)(bz:(backTo pos (starEach es X.env)).any (·.1)=false:=by rfl):
  PE X (.Call (.Name x p) (e::es) [] pos) (yc C sp ft E t):=by
 intro pins s σ H Q I h;refine uA (u0 I hg hm ?_ fR);refine W.callWith_K (h₀:=X.base) I.ok.mod.oP M.kp (aF (ha pos pins s σ H _ I h) λ us s1 z_=>z_.e λ vs H1 I1 r q=>⟨I1.gq,?_⟩) he bz;exact M7 M F hr hb hd hx I1 r q
def Zu(M:Mk X.K C f)(F:hR X.prog X.w X.K X.mg X.base CX k f fd ps sp)(hr:ck (k+1) X.A)(hg:Gl X x)(hm:X.mg x=some (.ref C))(hb:Binds X.K fd ps ds)(hd:Vals ft ds)(hx:Passes CX X E)
  (fR:(x==("__debug__" :Str))=false:=by decide):PE X (.Call (.Name x p) [] [] pos) (yc C sp ft E jc):=by
 intro pins s σ H Q I h;refine uA (u0 I hg hm ?_ fR);exact W.callWith_K0 I.gq M.kp (M7 (us:=[]) M F hr hb hd hx I .nil h)
end
structure nZ(N P:List Str)(sc:Scope):Prop where
 kind:sc.kind= .function
 co:sc.isCoroutine=false
 gen:sc.isGenerator=false
 nd:N.Nodup
 pre:N.take P.length=P
 par: ∀x∈P,sc.names.lookup x=some .local\/sc.names.lookup x=some .cell
 acn: ∀y∈sc.names,y.2≠ .free
theorem MJ{kindOf:Str->Option NameKind}{x:Str}: ∀{binds:List (Str×Value)}{m:Str->Option Value},(∀v,(x,v)∉binds)->bindL kindOf binds m x=m x
 |[],_,_=>rfl
 |(n,v)::r,m,h=>by
  unfold bindL;rw[MJ λ w hw=>h w (gi _ hw)];split
  ·have:x≠n:=by rintro rfl;exact h v iT
   simp[this]
  ·rfl
theorem ML{kindOf:Str->Option NameKind}{x:Str}: ∀{binds:List (Str×Value)}{m:Str->Option Value},(∀v,(x,v)∉binds)->bindC kindOf binds m x=m x
 |[],_,_=>rfl
 |(n,v)::r,m,h=>by
  unfold bindC;rw[ML λ w hw=>h w (gi _ hw)];split
  ·rfl
  ·have:x≠n:=by rintro rfl;exact h v iT
   simp[this]
theorem MK{kindOf:Str->Option NameKind}{x:Str}{v:Value}: ∀{P:List Str}{vs:List Value}{i:Nat}{m:Str->Option Value},P.Nodup->P[i]?=some x->vs[i]?=some v->kindOf x=some .local->
  bindL kindOf (P.zip vs) m x=some v
 |[],_,_,_,_,h,_,_=>by simp at h
 |_::_,[],_,_,_,_,h,_=>by simp at h
 |p::P,w::vs,0,m,nd,h1,h2,hk=>by
  simp at h1 h2;subst h1;subst h2;show bindL kindOf ((p,w)::P.zip vs) m p=_;unfold bindL;rw[MJ λ v hv=>(kh.mp nd).1 (pB hv).1,ao hk];simp
 |p::P,w::vs,i+1,m,nd,h1,h2,hk=>by show bindL kindOf ((p,w)::P.zip vs) m x=_;unfold bindL;exact MK (i:=i) (kh.mp nd).2 (by simpa using h1) (by simpa using h2) hk
theorem MM{kindOf:Str->Option NameKind}{x:Str}{v:Value}: ∀{P:List Str}{vs:List Value}{i:Nat}{m:Str->Option Value},P.Nodup->P[i]?=some x->vs[i]?=some v->kindOf x≠some .local->
  bindC kindOf (P.zip vs) m x=some v
 |[],_,_,_,_,h,_,_=>by simp at h
 |_::_,[],_,_,_,_,h,_=>by simp at h
 |p::P,w::vs,0,m,nd,h1,h2,hk=>by
  simp at h1 h2;subst h1;subst h2;show bindC kindOf ((p,w)::P.zip vs) m p=_;unfold bindC;rw[ML λ v hv=>(kh.mp nd).1 (pB hv).1,ai hk];simp
 |p::P,w::vs,i+1,m,nd,h1,h2,hk=>by show bindC kindOf ((p,w)::P.zip vs) m x=_;unfold bindC;exact MM (i:=i) (kh.mp nd).2 (by simpa using h1) (by simpa using h2) hk
noncomputable def start (N:List Str) (vs:List V):St:=vs.map some++List.replicate (N.length-vs.length) none
noncomputable def fj (CX:kW) (P:Program) (w:World) (K:W.Frag) (mg:Str->Option Value) (base:Heap) (N:List Str) (qual:Str) (scope:Scope) (f:Addr) (cd:Value) (A:Around) (outer:List Env) (s:Shared) (H:Hp) (E:XK):Cx where
 prog:=P
 w:=w
 K:=K
 mg:=mg
 base:=base
 A:=A.deeper (envOfC qual scope s.heap.objs.size f cd)
 N:=N
 s₀:=s
 H₀:=H
 env:=envOfC qual scope s.heap.objs.size f cd
 outer:=outer
 stack:=envOfC qual scope s.heap.objs.size f cd::outer
 ex:=[]
 calm:=true
 fn:=λ _=>true
 pn:=[]
 xe:=λ e s'=>wpAny (model P w) (A.deeper (envOfC qual scope s.heap.objs.size f cd)) (leaving (envOfC qual scope s.heap.objs.size f cd) e) (λ _ Js=>CX outer H s E e Js) (λ e' Js=>CX outer H s E e' Js) s'
def NG{sc:Scope}{n:Nat}{x:Str}(h:sc.names.lookup x=some .cell): ∃c,(cellsFrom n sc.names []).lookup x=some c:=by have q:=W.cellsFrom_some sc.names n [] (.inl h);exact Ll.mp q
def YM{CX:kW}{P:Program}{w:World}{K:W.Frag}{mg:Str->Option Value}{base:Heap}{N ps:List Str}{qual:Str}{scope:Scope}{f:Addr}{cd:Value}{A:Around}{outer:List Env}{s s1:Shared}{H:Hp}{E:XK}{us:List Value}{vs:List V}
  (S:nZ N ps scope)(hd:A.handled=none)(e0:sJ P w K mg base A outer s H)(hl:vs.length=ps.length)(r:Vals vs us)
  (x:InCallC s s.heap.objs.size (bindL (envOfC qual scope s.heap.objs.size f cd).kindOf (ps.zip us) λ _=>none) (cellsFrom (s.heap.objs.size+1) scope.names []) (bindC (envOfC qual scope s.heap.objs.size f cd).kindOf (ps.zip us) λ _=>none) s1):
  Inv (fj CX P w K mg base N qual scope f cd A outer s H E) [] (start N vs) H s1:=by
 have bz:ps.length<=N.length:=by have:=gh List.length S.pre;rw[gC]at this;lia
 obtain⟨h1,tk,rfl,hk⟩:=x.done;have zg: ∀b:Addr,b∉(fj CX P w K mg base N qual scope f cd A outer s H E).ex:=λ b z=>absurd (show b∈([]:List Addr)from z) (by simp);refine⟨⟨e0.mod,S.kind,rfl,rfl,aQ _,λ y z c h1 h2=>?_,λ y hy=>?_,λ y c _ h=>?_,λ _=>hd,Around.frames_deeper e0.frames,.inr ⟨rfl,rfl⟩,λ b z=>absurd z (zg b),e0.bs,e0.kR,λ b _ _=>zg b,λ b z=>absurd z (zg b),e0.g_,e0.kQ⟩,
  rfl,e0.bare,Un.kept hk,⟨_,x.toInCall.ns,λ i y v h1 h2 h3=>?_⟩,λ y c h=>⟨_,x.cell y c h⟩,e0.ax.fresh (aQ _),λ y c h=>?_,λ p hp=>absurd (show p∈([]:List (Addr×Obj))from hp) (by simp),e0.ax.kept hk,?_⟩
 ·exact name_of_addr x.apart (iU h1) (iU h2)
 ·have hy:scope.names.lookup y=some .cell\/scope.names.lookup y=some .free:=hy;rcases hy with hy|hy
  ·exact NG hy
  ·exact absurd rfl (S.acn _ (iU hy))
 ·exact eh (x.above y c (iU h))
 ·have hi:i<vs.length:=by
   unfold start at h2;by_cases hi:i<vs.length
   ·exact hi
   ·rw[Lo (by simpa using hi)]at h2;rw[FE]at h2;split at h2<;>cases h2
  have ha:vs[i]?=some v:=by
   unfold start at h2;rw[Lm (by simpa using hi),fx]at h2;cases e:vs[i]? with
   |none=>rw[e]at h2;cases h2
   |some a=>rw[e]at h2;cases h2;rfl
  obtain⟨u,hu,rv⟩:=r.get ha;have hp:ps[i]?=some y:=by rw[<- S.pre,Lk (by lia)];exact h1
  have Tq:ps.Nodup:=by rw[<- S.pre];exact S.nd.sublist (List.take_sublist _ _)
  refine⟨u,rv,?_⟩;rcases S.par y (eG hp)with k|k
  ·exact .inl ⟨k,MK Tq hp hu k⟩
  ·obtain⟨c,e⟩:=NG (n:=s.heap.objs.size+1) k;refine .inr ⟨.inl k,c,e,?_⟩;have q:=x.cell y c e;rw[MM Tq hp hu (by show scope.names.lookup y≠_;rw[k];decide)]at q;exact q
 ·exact e0.ax.fresh (eh (x.above y c (iU h)))
 ·unfold start;show _=N.length;rw[bq,aV,eI]
  lia
theorem QA{CX:kW}{P:Program}{w:World}{K:W.Frag}{mg:Str->Option Value}{base:Heap}{k:Nat}{f:Addr}{name qual:Str}{params:Arguments}{body:List Stmt}{scope:Scope}{dV kV doc pm bp ct oc:Value}{an od:Option Addr}
  {iK:Array (Option Value)}{N ps:List Str}{sp:Sp}(lk:K.lookup f=some ⟨oc,od,.func (W.fnOf name qual params body scope dV kV doc pm an bp ct),iK⟩)(l7:W.codeIn K bp qual=true)(S:nZ N ps scope)
  (len: ∀vs H Q E,sp vs H Q E->vs.length=ps.length)
  (jb: ∀(A:Around)(outer:List Env)(s:Shared)(H:Hp)(vs:List V)(Q:VK)(E:XK),ck k (A.deeper (envOfC qual scope s.heap.objs.size f bp))->sp vs H Q E->
   ∃t,eX (fj CX P w K mg base N qual scope f bp A outer s H E) body t/\t {nx:=λ _ H'=>Q .aG H',rt:=Q} (start N vs) H):
  hR P w K mg base CX (k+1) f (W.fnOf name qual params body scope dV kV doc pm an bp ct) ps sp:=by
 refine⟨len,λ A outer s H args us vs Q E hr e0 hb r ie=>?_⟩;have hl:=len _ _ _ _ ie;have KX:K.In s.heap:=e0.mod.oP.keeps λ b o e=>(e0.bs b o e).1;have lim:s.heap.NoLimit:=e0.mod.nolimit.keeps λ b o e=>(e0.bs b o e).1;have aej: ∀y∈ps.zip us,scope.names.lookup y.1=some .local\/(scope.names.lookup y.1=some .cell/\((cellsFrom (s.heap.objs.size+1) scope.names []).lookup y.1).isSome=true):=λ⟨n,v⟩ hy=>by
  rcases S.par n (pB hy).1 with q|q
  ·exact .inl q
  ·exact .inr ⟨q,W.cellsFrom_some _ _ _ (.inl q)⟩
 refine codeAny_call_function hr.depth (KX _ _ lk) rfl S.co S.gen rfl (W.codeRec_of KX l7) (hb _ _ _ _ ?_);refine wpAny_newFunctionEnv_cells S.kind aej λ env he s1 x=>?_;subst he;refine⟨lim.keeps x.toInCall.keep,codeAny_func ?_⟩;obtain⟨t,ht,hq⟩:=jb A outer s H vs Q E (hr.deeper _) ie;have I:Inv (fj CX P w K mg base N qual scope f bp A outer s H E) [] (start N vs) H s1:=YM S hr.hd e0 hl r x;refine iq (ht [] s1 (start N vs) H _ I hq) (λ fl s' hs=>?_) λ e s' hs=>hs;have fin: ∀{σ':St}{H':Hp}{v:V}{u:Value},Inv (fj CX P w K mg base N qual scope f bp A outer s H E) [] σ' H' s'->RelV v u->Q v H'->CE outer P w H s Q u s':=
  λ{σ' H' v u}J rv q=>⟨v,H',J.os,J.bare,J.base,J.ax,rv,q⟩
 cases fl with
 |ret u=>
  obtain⟨v,σ',H',J,rv,q⟩:=hs;exact fin J rv q
 |next=>
  obtain⟨σ',H',J,q⟩:=hs;exact fin (v:=V.aG) (u:=Value.none) J rfl q
 |brk=>
  obtain⟨_,_,_,q⟩:=hs;exact False.elim q
 |cont=>
  obtain⟨_,_,_,q⟩:=hs;exact False.elim q
end
section
section
variable{X:Cx}{x:Str}{p pos:Pos}{e:Expr}{es:List Expr}{t:TA}{id T:String}{r:List V->Hp->VK->Prop}
def yS(r:List V->Hp->VK->Prop)(t:TA):TE:=λ σ H Q=>t σ H λ vs H1=>r vs H1 Q
def fV(hc:eP X (.builtin id) r)(hg:Gl X x)(hm:X.mg x=none)(hv:bootBuiltins x=some (.builtin id))(ha:PA X (e::es) t)(hn:x≠"__name__":=by decide)(fR:(x==("__debug__" :Str))=false:=by decide)
  (he:starEach (e::es) X.env=(false,eval e X.env)::starEach es X.env:=by rfl)(bz:(backTo pos (starEach es X.env)).any (·.1)=false:=by rfl):PE X (.Call (.Name x p) (e::es) [] pos) (yS r t):=by
 intro pins s σ H Q I h;refine uA (rY I hg hm hv ?_ hn fR);exact PyProof.Rows.callWith_builtin1 (aF (ha pos pins s σ H _ I h) λ us s1 z_=>z_.e λ vs H1 I1 r1 q1=>hc pins s1 σ H1 vs us Q I1 r1 q1) he bz
def xC(hc:eP X (.type T) r)(hg:Gl X x)(hm:X.mg x=none)(hv:bootBuiltins x=some (.type T))(ha:PA X (e::es) t)(hn:x≠"__name__":=by decide)(fR:(x==("__debug__" :Str))=false:=by decide)
  (he:starEach (e::es) X.env=(false,eval e X.env)::starEach es X.env:=by rfl)(bz:(backTo pos (starEach es X.env)).any (·.1)=false:=by rfl):PE X (.Call (.Name x p) (e::es) [] pos) (yS r t):=by
 intro pins s σ H Q I h;refine uA (rY I hg hm hv ?_ hn fR);exact uK (aF (ha pos pins s σ H _ I h) λ us s1 z_=>z_.e λ vs H1 I1 r1 q1=>hc pins s1 σ H1 vs us Q I1 r1 q1) he bz
end
end
end L2
namespace HT
open PySem PyProof.Rows
section
variable{prog:Program}{w:World}{A:Around}{E:Value->Shared->Prop}{s:Shared}
noncomputable def f_ (n d:Nat):Option Int->Nat
 |none=>d
 |some v=>if v<0 then(v+(n:Int)).toNat else min v.toNat n
def BF(n d k:Nat):f_ n d (some (k:Int))=min k n:=by show(if(k:Int)<0 then((k:Int)+(n:Int)).toNat else min (k:Int).toNat n)=min k n;rw[ai (by lia),jr]
end
end HT
namespace L2
open PySem PySem.Spec PyProof.Rows
section
abbrev TO:=St->Hp->(Option Int->Hp->Prop)->Prop
def PO(X:Cx)(e:Option Expr)(t:TO):Prop:=
 ∀(pins:List (Addr×Obj))(s:Shared)(σ:St)(H:Hp)(Q:Option Int->Hp->Prop),Inv X pins σ H s->t σ H Q->
  wpAny (model X.prog X.w) X.A (evalPart e X.env) (λ u s'=>∃o H',Inv X pins σ H' s'/\IsPart u o/\Q o H') X.xe s
def NR:TO:=λ _ H Q=>Q none H
def PX(t:TE):TO:=λ σ H Q=>t σ H λ x H1=>∃i,x= .int i/\Q (some i) H1
section
variable{X:Cx}{e:Expr}{te:TE}{lo hi:Option Expr}{tl th:TO}{pos p2:Pos}
def BH:PO X none NR:=by intro pins s σ H Q I h;rw[evalPart_none];exact bc ⟨none,H,I,.none,h⟩
def iz(h:PE X e te):PO X (some e) (PX te):=by intro pins s σ H Q I hw;rw[evalPart_some];refine aF (h pins s σ H _ I hw) λ u s1 z_=>z_.e λ x H1 I1 r1 q1=>?_;obtain⟨i,rfl,q⟩:=q1;obtain⟨t,rfl⟩:=r1;exact⟨some i,H1,I1,.int i t,q⟩
def UW(X:Cx)(r:V->Option Int->Option Int->Hp->VK->Prop):Prop:=
 ∀(pins:List (Addr×Obj))(s:Shared)(σ:St)(H:Hp)(x:V)(v vl vu:Value)(lo hi:Option Int)(sl:Addr)(Q:VK),Inv X pins σ H s->RelV x v->s.heap.IsSliceOf sl vl vu .none->IsPart vl lo->IsPart vu hi->r x lo hi H Q->
  ∃T id,typeLookup (.type T) "__getitem__" =pure (some (.builtin id))/\s.TypeIs v T/\wpAny (model X.prog X.w) X.A (getItem v (.ref sl)) (EP X pins σ Q) X.xe s
def SM(r:V->Option Int->Option Int->Hp->VK->Prop)(te:TE)(tl th:TO):TE:=λ σ H Q=>te σ H λ x H1=>tl σ H1 λ l H2=>th σ H2 λ u H3=>r x l u H3 Q
def mC(hr:UW X r)(he:PE X e te)(hl:PO X lo tl)(hu:PO X hi th):PE X (.Subscript e (.Slice lo hi none p2) pos) (SM r te tl th):=by intro pins s σ H Q I h;refine Subscript_ (aF (he pins s σ H _ I h) λ v s1 z_=>z_.e λ x H1 I1 r1 q1=>?_);refine wpAny_Slice (aF (hl pins s1 σ H1 _ I1 q1) λ vl s2 ⟨l,H2,I2,pl,q2⟩=>aF (hu pins s2 σ H2 _ I2 q2) λ vu s3 ⟨u,H3,I3,pu,q3⟩=>?_);rw[evalPart_none];refine bc ?_;have I4:Inv X pins σ H3 {s3 with heap:=s3.heap.push {cls:= .type "slice",data:= .fields #[vl,vu,.none]}}:=I3.kept (t':=s3.toks) λ b ob q=>cp _ q;obtain⟨T,id,hT,ht,hg⟩:=hr pins {s3 with heap:=s3.heap.push {cls:= .type "slice",data:= .fields #[vl,vu,.none]}} σ H3 x v vl vu l u s3.heap.objs.size Q I4 r1 (Heap.IsSliceOf.new ..) pl pu q3;show wpAny (model X.prog X.w) X.A (subscriptTail e (.Slice lo hi none p2) v (.ref s3.heap.objs.size)) (EP X pins σ Q) X.xe {s3 with heap:=s3.heap.push {cls:= .type "slice",data:= .fields #[vl,vu,.none]}};exact tail_any (ops:=[.ref s3.heap.objs.size,v]) ht hT hg (by with_unfolding_all rfl)
noncomputable def jT (xs:List V) (lo hi:Option Int):List V:=(xs.drop (HT.f_ xs.length 0 lo)).take (HT.f_ xs.length xs.length hi-HT.f_ xs.length 0 lo)
def Xu(xs:List V)(lo hi:Option Int):(jT xs lo hi).length<=xs.length:=by
 unfold jT;rw[gC,jq]
 lia
end
end
section
noncomputable def lV (n:Nat) (i:Int):Option Nat:=if 0<=i then(if i<n then some i.toNat else none)else if-(n:Int)<=i then some (i+n).toNat else none
noncomputable def eW {α:Type} (xs:List α) (i:Int):Option α:=(lV xs.length i).bind λ j=>xs[j]?
def OH(h:lV n i=some j):seqIndex? i n=some j/\j<n/\ -(n:Int)<=i/\i<n:=by
 unfold lV at h;by_cases h0:0<=i
 ·rw[ao h0]at h;by_cases h1:i<n
  ·rw[ao h1]at h;have e:i.toNat=j:=dI h;exact⟨by rw[seqIndex_of h0 h1,e],by lia,by lia,h1⟩
  ·rw[ai h1]at h;cases h
 ·rw[ai h0]at h;by_cases h1: -(n:Int)<=i
  ·rw[ao h1]at h;have e:(i+n).toNat=j:=dI h;exact⟨by rw[seqIndex_neg (by lia) h1,e],by lia,h1,by lia⟩
  ·rw[ai h1]at h;cases h
theorem OP(h:eW xs i=some v): ∃j,seqIndex? i xs.length=some j/\xs[j]?=some v/\j<xs.length/\ -(xs.length:Int)<=i/\i<xs.length:=by
 unfold eW at h;cases e:lV xs.length i with
 |none=>rw[e]at h;cases h
 |some j=>
  rw[e]at h;obtain⟨h1,h2,h3,h4⟩:=OH e;exact⟨j,h1,h,h2,h3,h4⟩
def aa4{α:Type}{xs:List α}{j:Nat}{v:α}(h:xs[j]?=some v):eW xs (j:Int)=some v:=by
 have hj:j<xs.length:=(bC.mp h).1;have e:lV xs.length (j:Int)=some j:=by unfold lV;rw[ao (by lia),ao (by lia)];simp
 unfold eW;rw[e];exact h
def Z1(xs:List α)(v:α):eW (xs++[v]) (-1)=some v:=by
 have hl:(xs++[v]).length=xs.length+1:=by simp
 have e:lV (xs++[v]).length (-1)=some xs.length:=by
  unfold lV;rw[hl,ai (by decide),ao (by lia)]
  congr 1
  lia
 unfold eW;rw[e];show(xs++[v])[xs.length]?=some v;simp
def xT(b:Expr):Prop:=∀o i,subscripted b false o i=operate [o,i] (getItem o i)
def KO(X:Cx)(r:R2):Prop:=
 ∀(value slice:Expr)(pins:List (Addr×Obj))(s:Shared)(σ:St)(H:Hp)(x y:V)(v u:Value)(Q:VK),Inv X pins σ H s->RelV x v->RelV y u->r x y H Q->
  subscripted slice false v u=operate [v,u] (getItem v u)->wpAny (model X.prog X.w) X.A (subscriptTail value slice v u) (EP X pins σ Q) X.xe s
def wx(X:Cx)(id:String)(r:V->List V->Hp->VK->Prop):Prop:=
 ∀(pins:List (Addr×Obj))(s:Shared)(σ:St)(H:Hp)(x:V)(xs:List V)(v:Value)(us:List Value)(Q:VK),Inv X pins σ H s->RelV x v->Vals xs us->r x xs H Q->
  wpAny (model X.prog X.w) X.A (call (.builtin id) (v::us)) (EP X pins σ Q) X.xe s
section
variable{X:Cx}{a b:Expr}{ta tb:TE}{pos:Pos}
def Ca{r:R2}(hr:KO X r)(ha:PE X a ta)(hb:PE X b tb)(hs:xT b):PE X (.Subscript a b pos) (dA r ta tb):=by intro pins s σ H Q I h;exact Subscript_ (Jc ha hb I h λ v u s2 x y H2 I2 rx ry q=>hr a b pins s2 σ H2 x y v u Q I2 rx ry q (hs _ _))
def yz(K:W.Frag):R2:=λ x y H Q=>∃p xs i v,x= .ref p/\y= .int i/\ah K H p xs/\eW xs i=some v/\Q v H
def CI(K:W.Frag):R2:=λ x y H Q=>∃p xs i v,x= .ref p/\y= .int i/\aP K H p xs/\eW xs i=some v/\Q v H
def OG:KO X (yz X.K):=by
 intro value slice pins s σ H x y v u Q I rx ry h hs;obtain⟨p,xs,i,z,rfl,rfl,hq,he,q⟩:=h;cases rx;obtain⟨t,rfl⟩:=ry;obtain⟨aw,r,pl,hz⟩:=I.list hq;obtain⟨j,h1,h2,h3,h4,h5⟩:=OP he;obtain⟨w,ew,jX⟩:=r.get h2;have hl:=r.length;have hn:=B4;have fin:EP X pins σ Q w s:=⟨z,H,I,jX,q⟩;by_cases h0:0<=i
 ·have hj:i.toNat=j:=by
   rw[seqIndex_of h0 h5]at h1;exact dI h1
  exact item_listR pl.isList h0 (by lia) (by rw[hj];simpa using ew) fin hs
 ·have hj:(i+(aw.toArray.size:Int)).toNat=j:=by
   rw[seqIndex_neg (by lia) h4]at h1;rw[dF,<- hl];exact dI h1
  exact subscriptTail_builtinR (x:=w) pl.isList.typeIs slot_list_getitem.lookup
   (wpAny_getItem_list_neg (Q:=λ r s'=>r=w/\EP X pins σ Q r s') pl.isList (by lia) (by rw[dF]<;>lia) (by lia) (by rw[hj];simpa using ew) ⟨rfl,fin⟩) hs
def Pk:KO X (CI X.K):=by
 intro value slice pins s σ H x y v u Q I rx ry h hs;obtain⟨p,xs,i,z,rfl,rfl,hq,he,q⟩:=h;cases rx;obtain⟨t,rfl⟩:=ry;obtain⟨aw,r,pl,hz⟩:=I.tuple hq;obtain⟨j,h1,h2,h3,h4,h5⟩:=OP he;obtain⟨w,ew,jX⟩:=r.get h2;have hl:=r.length;have hn:=B4;have fin:EP X pins σ Q w s:=⟨z,H,I,jX,q⟩;exact subscriptTail_builtinR (x:=w) pl.typeIs slot_tuple_getitem.lookup
  (getItem_tuple (j:=j) (Q:=λ r s'=>r=w/\EP X pins σ Q r s') pl (by lia) (by lia) (by rw[dF,<- hl];exact h1) (by simpa using ew) ⟨rfl,fin⟩) hs
def XU(aw:List Value)(n j:Nat)(u:Value):Obj.mapSeq (·.setIfInBounds j u) {cls:= .type "list",data:= .seq aw.toArray n}= {cls:= .type "list",data:= .seq (aw.set j u).toArray n}:=by simp[Obj.mapSeq]
theorem Inv.lst(I:Inv X pins σ H s)(h:H p=some (.lst xs)):
  ∃(aw:List Value)(n:Nat),Vals xs aw/\s.heap.get? p=some {cls:= .type "list",data:= .seq aw.toArray n}/\xs.length<=sizeLine:=by
 obtain⟨z,aw,n,r,e⟩:=I.ax p _ h;exact⟨aw,n,r,e,z⟩
def Inv.acq{pins:List (Addr×Obj)}{σ:St}{H:Hp}{s:Shared}{p:Addr}{xs ys:List V}{aw its':List Value}{n n':Nat}{f:Obj->Obj}(I:Inv X pins σ H s)(h:H p=some (.lst xs))
  (ho:s.heap.get? p=some {cls:= .type "list",data:= .seq aw.toArray n})(hf:f {cls:= .type "list",data:= .seq aw.toArray n}= {cls:= .type "list",data:= .seq its'.toArray n'})(r:Vals ys its')(hz:ys.length<=sizeLine)(t:Nat):
  Inv X pins σ (upd H p (.lst ys)) {s with heap:=s.heap.update p f,toks:=t}:=by
 have e:(s.heap.update p f).get? p=some {cls:= .type "list",data:= .seq its'.toArray n'}:=by rw[xo f ho (by rw[hf]<;>rfl),hf]
 refine I.write (x:=p) (e:=p) (by rw[h];trivial) (.inl rfl) (λ b u hb q=>(A1 _ _ (mq hb)).trans q) ⟨_,e⟩ ?_;exact⟨hz,its',n',r,e⟩
def Qq:V->V->V->Hp->(Hp->Prop)->Prop:=λ o i v H Q=>∃p xs k j,o= .ref p/\i= .int k/\H p=some (.lst xs)/\lV xs.length k=some j/\Q (upd H p (.lst (xs.set j v)))
def set_list:Sj X Qq:=by
 intro pins s σ H o i v ov iv u Q I ro ri rv h;obtain⟨p,xs,k,j,rfl,rfl,hp,hj,q⟩:=h;cases ro;obtain⟨t,rfl⟩:=ri;obtain⟨aw,n,r,ho,hz⟩:=I.lst hp;obtain⟨h1,h2,h3,h4⟩:=OH hj;have hl:=r.length;have hn:=B4;have I':Inv X pins σ (upd H p (.lst (xs.set j v))) {s with heap:=s.heap.update p (Obj.mapSeq (·.setIfInBounds j u))}:=
  I.acq hp ho (XU aw n j u) (r.set rv j) (by rw[wY];exact hz) s.toks
 by_cases h0:0<=k
 ·have hk:k.toNat=j:=by
   rw[seqIndex_of h0 h4]at h1;exact dI h1
  exact W.ki_setAt ho h0 (by lia) (by rw[dF,<- hl];exact h4) (by rw[hk];exact⟨_,I',q⟩)
 ·have hk:(k+(aw.toArray.size:Int)).toNat=j:=by
   rw[seqIndex_neg (by lia) h3]at h1;rw[dF,<- hl];exact dI h1
  exact W.ki_setBack ho (by lia) (by rw[dF,<- hl];exact h3) (by lia) (by rw[hk];exact⟨_,I',q⟩)
def WS(lo hi:Option Int)(n:Nat):(sliceBounds lo hi none n).1=((HT.f_ n 0 lo:Nat):Int)/\(sliceBounds lo hi none n).2.1=((HT.f_ n n hi:Nat):Int)/\(sliceBounds lo hi none n).2.2=1:=by
 refine⟨?_,?_,rfl⟩
 ·cases lo with
  |none=>simp[sliceBounds,HT.f_]
  |some i=>
   simp only[sliceBounds,HT.f_,Option.getD_none,show(1:Int)>0 by decide,jn];by_cases h:i<0
   ·simp only[h,jn]<;>lia
   ·simp only[h,jL]<;>lia
 ·cases hi with
  |none=>simp[sliceBounds,HT.f_]
  |some i=>
   simp only[sliceBounds,HT.f_,Option.getD_none,show(1:Int)>0 by decide,jn];by_cases h:i<0
   ·simp only[h,jn]<;>lia
   ·simp only[h,jL]<;>lia
def Ws(aw:List Value)(lo hi:Option Int):slicePick aw.toArray lo hi none=((aw.drop (HT.f_ aw.length 0 lo)).take (HT.f_ aw.length aw.length hi-HT.f_ aw.length 0 lo)).toArray:=by obtain⟨h1,h2,h3⟩:=WS lo hi aw.toArray.size;unfold slicePick;rw[h1,h2,h3];simp only[sliceRange_one,pick_run,dF]<;>rfl
def IG(K:W.Frag):V->Option Int->Option Int->Hp->VK->Prop:=λ x lo hi H Q=>∃a xs,x= .ref a/\ah K H a xs/\ ∀p,H p=none->Q (.ref p) (upd H p (.lst (jT xs lo hi)))
def mE:UW X (IG X.K):=by intro pins s σ H x v vl vu lo hi sl Q I rx hs pl pu h;obtain⟨a,xs,rfl,hx,q⟩:=h;cases rx;obtain⟨aw,r,ht,hz⟩:=I.list hx;have hlen:=r.length;refine⟨"list",_,slot_list_getitem.lookup,ht.isList.typeIs,?_⟩;refine wpAny_getItem_list_slice ht.isList hs pl pu .none (by simp) ?_ (by rw[dF]<;>lia);rw[Ws,<- hlen];refine⟨.ref s.heap.objs.size,_,I.laid (t':=s.toks) (o:= .lst (jT xs lo hi)) (λ b ob q=>cp _ q) (aQ _) ?_,rfl,q _ (I.ax.fresh (aQ _))⟩;exact⟨bY (Xu xs lo hi) hz,_,0,(r.drop (HT.f_ xs.length 0 lo)).take (HT.f_ xs.length xs.length hi-HT.f_ xs.length 0 lo),fy _ rfl⟩
def Xc:eP X (.builtin "len") (λ xs H Q=>∃p ys,xs=[.ref p]/\(ah X.K H p ys\/aP X.K H p ys)/\Q (.int ys.length) H):=by
 intro pins s σ H xs us Q I r h;obtain⟨p,ys,rfl,hq,q⟩:=h;obtain⟨u,rfl,rx⟩:=vals1 r;cases rx;have hn:=B4;rcases hq with hq|hq
 ·obtain⟨aw,r',pl,hz⟩:=I.list hq;have hlen:=r'.length;exact Calls.call_len_list pl.isList (by simp only[dF]<;>lia) ⟨.int ys.length,H,I.tok _,⟨s.toks+1,by rw[dF,hlen]⟩,q⟩
 ·obtain⟨aw,r',pl,hz⟩:=I.tuple hq;have hlen:=r'.length;exact len_tuple pl (by simp only[dF]<;>lia) ⟨.int ys.length,H,I.tok _,⟨s.toks+1,by rw[dF,hlen]⟩,q⟩
def Xb:eP X (.type "list") (λ xs H Q=>∃p ys,xs=[.ref p]/\(ah X.K H p ys\/aP X.K H p ys)/\ ∀l,H l=none->Q (.ref l) (upd H l (.lst ys))):=by
 intro pins s σ H xs us Q I r h;obtain⟨p,ys,rfl,hq,q⟩:=h;obtain⟨u,rfl,rx⟩:=vals1 r;cases rx;have fin: ∀(aw:List Value),Vals ys aw->ys.length<=sizeLine-> ∀(h':Heap)(c':Nat),(∀b o',s.heap.get? b=some o'->h'.get? b=some o')->
   h'.get? s.heap.objs.size=some {cls:= .type "list",dict:=none,data:= .seq aw.toArray c',slots:= #[]}->EP X pins σ Q (.ref s.heap.objs.size) {s with heap:=h'}:=λ aw r' hz h' c' kp e=>
  ⟨.ref s.heap.objs.size,_,I.laid (t':=s.toks) kp (aQ _) (show dy X.prog X.w _ h' _ (.lst ys)from⟨hz,aw,c',r',e⟩),rfl,q _ (I.ax.fresh (aQ _))⟩
 rcases hq with hq|hq
 ·obtain⟨aw,r',pl,hz⟩:=I.list hq;have hlen:=r'.length;obtain⟨o,ho,hc,n,hd⟩:=pl.isList;exact call_list_seq p (.inl rfl) ho hc hd (λ h' c' kp e=>fin aw r' hz h' c' kp e) (by simp only[dF]<;>lia)
 ·obtain⟨aw,r',pl,hz⟩:=I.tuple hq;have hlen:=r'.length;obtain⟨o,ho,hc,n,hd⟩:=pl;exact call_list_seq p (.inr rfl) ho hc hd (λ h' c' kp e=>fin aw r' hz h' c' kp e) (by simp only[dF]<;>lia)
def yQ(K:W.Frag)(T:String)(x:V)(H:Hp):Prop:=match x with
 | .str _=>T= "str"
 | .int _=>T= "int"
 | .ref p=>(T= "list" /\ ∃xs,ah K H p xs)\/(T= "tuple" /\ ∃o,K.lookup p=some o/\o.cls= .type "tuple" /\o.dict=none)\/
   (T= "dict" /\((∃kvs,H p=some (.dK kvs))\/ ∃kvs,H p=some (.dT kvs)))\/(T= "set" /\ ∃S n,H p=some (.set S n))
 |_=>False
theorem OV(I:Inv X pins σ H s)(r:RelV x v)(ty:yQ X.K T x H):
  s.TypeIs v T/\ ∀a,v= .ref a-> ∃ob,s.heap.get? a=some ob/\ob.dict=none:=by
 cases x with
 |str z=>
  obtain⟨t,rfl⟩:=r;cases(show T= "str"from ty);exact⟨typeIs_str s z t,λ _ e=>nomatch e⟩
 |int i=>
  obtain⟨t,rfl⟩:=r;cases(show T= "int"from ty);exact⟨typeIs_int s i t,λ _ e=>nomatch e⟩
 |ref p=>
  cases r;rcases ty with⟨rfl,xs,hq⟩|⟨rfl,o,hk,hc,hd⟩|⟨rfl,hk⟩|⟨rfl,S,n,hk⟩
  ·obtain⟨aw,_,pl,_⟩:=I.list hq;refine⟨pl.isList.typeIs,λ a e=>?_⟩;cases e;obtain⟨o,n,e,c,hd,_⟩:=pl;exact⟨o,e,hd⟩
  ·refine⟨⟨o,I.gq p o hk,hc⟩,λ a e=>?_⟩;cases e;exact⟨o,I.gq _ o hk,hd⟩
  ·have z: ∃o,s.heap.get? p=some o/\o.ExactDict:=by
    rcases hk with⟨kvs,hk⟩|⟨kvs,hk⟩
    ·obtain⟨_,_,_,_,o,_,_,e,ex,_⟩:=I.ax p _ hk;exact⟨o,e,ex⟩
    ·obtain⟨_,_,_,_,o,_,_,e,ex,_⟩:=I.ax p _ hk;exact⟨o,e,ex⟩
   obtain⟨o,e,ex⟩:=z;refine⟨⟨o,e,ex.1⟩,λ a e2=>?_⟩;cases e2;exact⟨o,e,ex.2.1⟩
  ·obtain⟨o,_,_,_,e,ex,_⟩:=I.ax p _ hk;refine⟨⟨o,e,ex.1⟩,λ a e2=>?_⟩;cases e2;exact⟨o,e,ex.2.1⟩
 |_=>exact False.elim ty
def Rv(K:W.Frag)(T:String)(r:V->List V->Hp->VK->Prop)(to:TE):TE:=λ σ H Q=>to σ H λ x H1=>yQ K T x H1/\r x [] H1 Q
def yT(K:W.Frag)(T:String)(r:V->List V->Hp->VK->Prop)(to:TE)(t:TA):TE:=λ σ H Q=>to σ H λ x H1=>yQ K T x H1/\t σ H1 λ xs H2=>r x xs H2 Q
variable{o e:Expr}{es:List Expr}{to:TE}{t:TA}{name:Str}{apos d_:Pos}{T id:String}{r:V->List V->Hp->VK->Prop}
def Pc(pa:PlainAttrs T)(slot:Slot T name id)(JU:typeOf (.builtin id)=pure (.type "method_descriptor"))(hm:wx X id r)(ho:PE X o to)
  (so:attributeBase o name X.env (eval o X.env)=eval o X.env:=by rfl)(sj:(apos.endLine==d_.line)=true:=by rfl):PE X (.Call (.Attribute o name apos) [] [] d_) (Rv X.K T r to):=by
 intro pins s σ H Q I h;refine wpAny_Call_method0_late so sj (aF (ho pins s σ H _ I h) λ v s1 z_=>z_.e λ x H1 I1 r1 z_=>?_);obtain⟨ty,q1⟩:=z_;obtain⟨h1,h2⟩:=OV I1 r1 ty;exact⟨T,id,pa,slot,JU,h1,h2,A0 rfl (PySem.evalArgs_none (hm pins s1 σ H1 x [] v [] Q I1 r1 .nil q1))⟩
def Cb(pa:PlainAttrs T)(slot:Slot T name id)(JU:typeOf (.builtin id)=pure (.type "method_descriptor"))(hm:wx X id r)(ho:PE X o to)(ha:PA X (e::es) t)
  (so:attributeBase o name X.env (eval o X.env)=eval o X.env:=by rfl)
  (yF:((backTo d_ (starEach (e::es) X.env)).all (λ x=> !x.1)&&(backToKw d_ (keywordEach [] X.env)).all (λ x=>x.1.isSome)
   &&decide ((e::es).length+([]:List Keyword).length+(if([]:List Keyword).isEmpty then 0 else 1)<30))=true:=by rfl)
  (sj:(apos.endLine==d_.line)=true:=by rfl) (hs:starEach (e::es) X.env=(false,eval e X.env)::starEach es X.env:=by rfl) (x8:(backTo d_ (starEach es X.env)).any (·.1)=false:=by rfl):
  PE X (.Call (.Attribute o name apos) (e::es) [] d_) (yT X.K T r to t):=by
 intro pins s σ H Q I h;refine wpAny_Call_method_late so yF sj rfl (aF (ho pins s σ H _ I h) λ v s1 z_=>z_.e λ x H1 I1 r1 z_=>?_);obtain⟨ty,q1⟩:=z_;obtain⟨h1,h2⟩:=OV I1 r1 ty;refine⟨T,id,pa,slot,JU,h1,h2,?_⟩;have hA:=ha d_ pins s1 σ H1 _ I1 q1;rw[hs]at hA⊢;refine A0 (by show(false||(backTo d_ (starEach es X.env)).any (·.1))=false;rw[x8]<;>rfl) (AY ?_);exact aF hA λ us s2 ⟨vs,H2,I2,r2,q2⟩=>hm pins s2 σ H2 x vs v us Q I2 r1 r2 q2
end
end
section
def D4(X:Cx)(id:String)(r:V->List V->Hp->VK->Prop):Prop:=
 ∀(pins:List (Addr×Obj))(s:Shared)(σ:St)(H:Hp)(x:V)(xs:List V)(v:Value)(us:List Value)(Q:VK),Inv X pins σ H s->RelV x v->Vals xs us->r x xs H Q->
  wpAny (model X.prog X.w) X.A (call (.builtin id) (v::us)) (EP X pins σ Q) X.xe s
theorem Vals.one: ∀{x:V}{us:List Value},Vals [x] us-> ∃u,us=[u]/\RelV x u
 |_,_,.cons r .nil=>⟨_,rfl,r⟩
theorem Vals.rep(h:Vals xs us): ∀k:Nat,Vals (List.replicate k xs).flatten (List.replicate k us).flatten
 |0=> .nil
 |k+1=>by rw[nR,nR,xb,xb];exact Vals.append h (Vals.rep h k)
theorem foldl_rep(aw:List Value): ∀(k:Nat)(acc:List Value),
  List.foldl (λ x1 x2=>x1++x2) acc.toArray (List.replicate k aw.toArray)=(acc++(List.replicate k aw).flatten).toArray
 |0,acc=>by simp
 |k+1,acc=>by
  have e:acc.toArray++aw.toArray=(acc++aw).toArray:=by simp
  have e2:(acc++aw)++(List.replicate k aw).flatten=acc++(List.replicate (k+1) aw).flatten:=by rw[nR,xb,gE]
  rw[<- e2,<- foldl_rep aw k (acc++aw),<- e,nR,gT]
section
variable{X:Cx}{pins:List (Addr×Obj)}{σ:St}{H:Hp}{s:Shared}{l b:Addr}{xs ys zs:List V}
def Inv.CL{aw its':List Value}{n:Nat}{f:Array Value->Array Value}{t':Nat}(I:Inv X pins σ H s)(hH:H l=some (.lst xs))
  (e:s.heap.get? l=some {cls:= .type "list",data:= .seq aw.toArray n})(hf:f aw.toArray=its'.toArray)(hv:Vals ys its')(hz:ys.length<=sizeLine):
  Inv X pins σ (upd H l (.lst ys)) {s with heap:=s.heap.update l (Obj.mapSeq f),toks:=t'}:=by
 have q:=IsL.update e f;rw[hf]at q;refine I.write (x:=l) (e:=l) (by rw[hH];exact trivial) (.inl rfl) (λ b' u hb hu=>(A1 s.heap (Obj.mapSeq f) (mq hb)).trans hu) ⟨_,q⟩ ?_;exact⟨hz,its',_,hv,q⟩
def Inv.RM(I:Inv X pins σ H s)(hv:Vals ys aw)(hz:ys.length<=sizeLine):
  Inv X pins σ (upd H s.heap.objs.size (.lst ys)) {s with heap:=s.heap.push {cls:= .type "list",data:= .seq aw.toArray},toks:=t'}:=
 I.laid (λ _ _ q=>cp _ q) (aQ _) ⟨hz,aw,0,hv,fy _ rfl⟩
theorem Inv.fresh(I:Inv X pins σ H s):H s.heap.objs.size=none:=I.ax.fresh (aQ _)
def Inv.qv(I:Inv X pins σ H s)(hH:H l=some (.lst xs)):xs.length<=sizeLine/\ ∃(aw:List Value)(n:Nat),Vals xs aw/\xs.length=aw.length/\s.heap.get? l=some {cls:= .type "list",data:= .seq aw.toArray n}:=by obtain⟨z,aw,n,r,e⟩:=I.ax l _ hH;exact⟨z,aw,n,r,r.length,e⟩
def GL(h:n<=sizeLine):Builtin.List.listTooLong n=false:=by unfold Builtin.List.listTooLong;exact cH (by lia)
end
section
variable{X:Cx}
def Hb:V->List V->Hp->VK->Prop:=λ x vs H Q=>∃l xs y,x= .ref l/\vs=[y]/\H l=some (.lst xs)/\xs.length<sizeLine/\Q .aG (upd H l (.lst (xs++[y])))
def YF:D4 X "list.append" Hb:=by
 intro pins s σ H x vs v us Q I rx rv h;obtain⟨l,xs,y,rfl,rfl,hH,hz,q⟩:=h;cases rx;obtain⟨u,rfl,ru⟩:=rv.one;obtain⟨z,aw,n,r,hl,e⟩:=I.qv hH;refine ug F.slot_list_append ⟨_,e,rfl⟩ F.entry_list_append (F.args_list_append_2 _ _) (list_append l aw.toArray n u (by rw[dF];lia)) ⟨e,?_⟩;refine⟨.aG,_,I.CL (its':=aw++[u]) hH e (by simp) (r.append (.cons ru .nil)) ?_,rfl,q⟩;rw[bq,Lb]
 lia
def Ha:V->List V->Hp->VK->Prop:=λ x vs H Q=>∃l b xs zs,x= .ref l/\vs=[.ref b]/\H l=some (.lst xs)/\H b=some (.lst zs)/\xs.length+zs.length<=sizeLine/\Q .aG (upd H l (.lst (xs++zs)))
def YE:D4 X "list.extend" Ha:=by
 intro pins s σ H x vs v us Q I rx rv h;obtain⟨l,b,xs,zs,rfl,rfl,hH,hB,hz,q⟩:=h;cases rx;obtain⟨u,rfl,ru⟩:=rv.one;cases ru;obtain⟨z,aw,n,r,hl,e⟩:=I.qv hH;obtain⟨z2,kI,n2,r2,kN,e2⟩:=I.qv hB;have hsz:aw.toArray.size+kI.toArray.size<=sizeLine:=by rw[dF,dF];lia
 have yn: ¬(!aw.toArray.isEmpty&&Builtin.List.listTooLong (aw.toArray.size+kI.toArray.size))=true:=by rw[GL hsz,Bool.and_false];exact dj
 refine ug AO ⟨_,e,rfl⟩ F.entry_list_extend (F.args_list_extend_2 _ _)
  (AutoSeq1.list_extend_list_list_0 l aw.toArray n b kI.toArray n2 yn (by rw[dF];lia) (by lia)) ⟨e,e2,?_⟩
 refine⟨.aG,_,I.CL (its':=aw++kI) hH e (by simp) (r.append r2) ?_,rfl,q⟩;rw[bq]
 lia
def RD:R2:=λ x y H Q=>∃l b xs zs,x= .ref l/\y= .ref b/\H l=some (.lst xs)/\H b=some (.lst zs)/\xs.length+zs.length<=sizeLine/\ ∀p,H p=none->Q (.ref p) (upd H p (.lst (xs++zs)))
def og:cZ X (binaryOp .Add) RD:=by
 intro pins s σ H x y v u Q I rx ry h;obtain⟨l,b,xs,zs,rfl,rfl,hH,hB,hz,q⟩:=h;cases rx;cases ry;obtain⟨z,aw,n,r,hl,e⟩:=I.qv hH;obtain⟨z2,kI,n2,r2,kN,e2⟩:=I.qv hB;refine P.add_list e e2 ?_ (by rw[dF,dF];lia);have ea:aw.toArray++kI.toArray=(aw++kI).toArray:=by simp
 rw[ea];exact⟨.ref _,_,I.RM (t':=s.toks) (r.append r2) (by rw[bq];lia),rfl,q _ I.fresh⟩
def RB:R2:=λ x y H Q=>∃l k xs,x= .ref l/\y= .int k/\H l=some (.lst xs)/\ -(2^63)<=k/\k<2^63/\xs.length*k.toNat<=sizeLine/\
 ∀p,H p=none->Q (.ref p) (upd H p (.lst (List.replicate k.toNat xs).flatten))
theorem len_rep(xs:List α)(k:Nat):(List.replicate k xs).flatten.length=k*xs.length:=by
 induction k with
 |zero=>simp
 |succ k ih=>rw[nR,xb,bq,ih,EZ,rg]
def rT:cZ X (binaryOp .Mult) RB:=by
 intro pins s σ H x y v u Q I rx ry h;obtain⟨l,k,xs,rfl,rfl,hH,h1,h2,hz,q⟩:=h;cases rx;obtain⟨t,rfl⟩:=ry;obtain⟨z,aw,n,r,hl,e⟩:=I.qv hH;have hlen:aw.toArray.size*k.toNat<=sizeLine:=by rw[dF,<- hl];exact hz
 have afA: ¬aw.toArray.size*k.toNat>(2^63-1)/8:=by
  have:(sizeLine:Nat)<=(2^63-1)/8:=by decide
  lia
 have afw: ¬(!Builtin.List.listFitsIndex k)=true:=by rw[fitsIndex_both h1 h2];exact dj
 have yn: ¬Builtin.List.listTooLong (aw.toArray.size*k.toNat)=true:=by rw[GL hlen];exact dj
 have afs:List.foldl (λ x1 x2=>x1++x2) #[] (List.replicate (if aw.toArray.isEmpty=true then 0 else k.toNat) aw.toArray)=(List.replicate k.toNat aw).flatten.toArray:=by
  have f0: ∀m:Nat,List.foldl (λ x1 x2=>x1++x2) #[] (List.replicate m aw.toArray)=(List.replicate m aw).flatten.toArray:=λ m=>by have:=foldl_rep aw m [];rw[Fc]at this;exact this
  rw[f0];cases aw with
  |nil=>simp
  |cons a r'=>rw[ai (by simp)]
 refine wpAny_binaryOp_repeat_ref (T:="list") (U:="int") (by decide) ⟨_,e,rfl⟩ (λ s'=>typeIs_int s' k t) noFill_list_mul F.fills_int_mul F.slot_int_rmul repeat_list F.slot_int_index.lookup
  (ug F.slot_int_rmul (typeIs_int s k t) F.entry_int_rmul (F.args_int_rmul_2 _ _) (int___rmul___int_list k t l aw.toArray n)
   ⟨e,rfl,⟨_,e,rfl⟩,ug F.slot_list_mul ⟨_,e,rfl⟩ F.entry_list_mul (F.args_list_mul_2 _ _) (AutoListH.list___mul___list_int_3 l aw.toArray n k t afw afA yn) ⟨e,?_⟩⟩)
 rw[afs];exact⟨.ref _,_,I.RM (t':=s.toks) (r.rep k.toNat) (by rw[len_rep,Nat.mul_comm];exact hz),rfl,q _ I.fresh⟩
end
end
section
theorem Vals.ints: ∀{ns:List Int}{us:List Value},Vals (ns.map V.int) us->IntsAre us ns
 |[],us,h=>by
  rw[uj]at h;cases h;exact IntsAre.nil
 |n::ns,us,h=>by
  rw[cF]at h;cases h with
  |cons r t=>
   obtain⟨k,rfl⟩:=r;exact IntsAre.cons n k (Vals.ints t)
theorem Lz: ∀{us:List Value}{ns:List Int},IntsAre us ns->Vals (ns.map V.int) us
 |_,_,.nil=>by rw[uj];exact Paired.nil
 |_,_,.cons n t h=>by rw[cF];exact Paired.cons (show RelV (V.int n) (Value.int n t)from⟨t,rfl⟩) (Lz h)
theorem Vals.yx(r:Vals [V.ref a] us):us=[Value.ref a]:=by
 cases r with
 |cons r t=>
  cases t;cases r;rfl
section
variable{prog:Program}{w:World}{A:Around}{E:Value->Shared->Prop}{s:Shared}{l:Addr}{aw:List Value}{ns:List Int}{Q:Value->Shared->Prop}
def aaa(hh:A.handled=none)(hl:s.heap.IsList l aw.toArray)(hi:IntsAre aw ns)
  (h: ∀h' tk t',(∀b o,s.heap.get? b=some o->h'.get? b=some o)->Q (.int ns.sum t') {s with heap:=h',toks:=tk}):wpAny (model prog w) A (call (.builtin "sum") [.ref l]) Q E s:=by
 obtain⟨xs,e⟩:=hi.allInts.items;have hn:numsOf (intItems xs).toList=ns:=by rw[<- e];exact hi.numsOf
 rw[nums_intItems]at hn;rw[e]at hl;refine sum_intListG hh hl λ h' tk t' hk=>?_;have:=h h' tk t' hk;rw[preSum_eq,fE (by simp),hn];exact this
def aaL(hh:A.handled=none)(hl:s.heap.IsList l aw.toArray)(hi:IntsAre aw ns)(bH:0<ns.length)
  (h: ∀h' tk M t',(∀b o,s.heap.get? b=some o->h'.get? b=some o)->M∈ns->(∀a,a∈ns->a<=M)->Q (.int M t') {s with heap:=h',toks:=tk}):wpAny (model prog w) A (call (.builtin "max") [.ref l]) Q E s:=by
 obtain⟨xs,e⟩:=hi.allInts.items;have hn:numsOf (intItems xs).toList=ns:=by rw[<- e];exact hi.numsOf
 rw[nums_intItems]at hn;subst hn;rw[e]at hl;have hsz:0<xs.size:=by simpa using bH
 refine max_intList hh hl hsz λ v h' tk hv hk=>?_;obtain⟨t,rfl⟩:=intItems_at hv;obtain⟨h1,h2⟩:=argBest_gt (numAt xs) (xs.size-1);refine h h' tk _ t hk ?_ λ a ha=>?_
 ·rw[numAt_eq];exact PySem.getD_mem (by rw[aV,lb];lia)
 ·obtain⟨j,hj,rfl⟩:=mem_getD ha;rw[aV,lb]at hj;rw[<- numAt_eq];exact h2 j (by lia)
def aaK(hh:A.handled=none)(hl:s.heap.IsList l aw.toArray)(hi:IntsAre aw ns)(bH:0<ns.length)
  (h: ∀h' tk M t',(∀b o,s.heap.get? b=some o->h'.get? b=some o)->M∈ns->(∀a,a∈ns->M<=a)->Q (.int M t') {s with heap:=h',toks:=tk}):wpAny (model prog w) A (call (.builtin "min") [.ref l]) Q E s:=by
 obtain⟨xs,e⟩:=hi.allInts.items;have hn:numsOf (intItems xs).toList=ns:=by rw[<- e];exact hi.numsOf
 rw[nums_intItems]at hn;subst hn;rw[e]at hl;have hsz:0<xs.size:=by simpa using bH
 refine min_intList hh hl hsz λ v h' tk hv hk=>?_;obtain⟨t,rfl⟩:=intItems_at hv;obtain⟨h1,h2⟩:=argBest_lt (numAt xs) (xs.size-1);refine h h' tk _ t hk ?_ λ a ha=>?_
 ·rw[numAt_eq];exact PySem.getD_mem (by rw[aV,lb];lia)
 ·obtain⟨j,hj,rfl⟩:=mem_getD ha;rw[aV,lb]at hj;rw[<- numAt_eq];exact h2 j (by lia)
end
section
variable{X:Cx}
def RA(K:W.Frag):List V->Hp->VK->Prop:=λ vs H Q=>∃(a:Addr)(ns:List Int),vs=[V.ref a]/\ah K H a (ns.map V.int)/\Q (.int ns.sum) H
def sF(K:W.Frag):List V->Hp->VK->Prop:=λ vs H Q=>∃(a:Addr)(ns:List Int),vs=[V.ref a]/\ah K H a (ns.map V.int)/\0<ns.length/\ ∀m,m∈ns->(∀y,y∈ns->y<=m)->Q (.int m) H
def sE(K:W.Frag):List V->Hp->VK->Prop:=λ vs H Q=>∃(a:Addr)(ns:List Int),vs=[V.ref a]/\ah K H a (ns.map V.int)/\0<ns.length/\ ∀m,m∈ns->(∀y,y∈ns->m<=y)->Q (.int m) H
def acQ(hc:X.calm=true):eP X (.builtin "sum") (RA X.K):=by intro pins s σ H vs us Q I r h;obtain⟨a,ns,rfl,hs,q⟩:=h;obtain⟨aw,rv,hl,_⟩:=I.list hs;rw[Vals.yx r];exact aaa (I.ok.hd hc) hl.isList rv.ints λ h' tk t' hk=>⟨.int _,H,I.kept hk,⟨_,rfl⟩,q⟩
def acS(hc:X.calm=true):eP X (.builtin "max") (sF X.K):=by intro pins s σ H vs us Q I r h;obtain⟨a,ns,rfl,hs,bH,q⟩:=h;obtain⟨aw,rv,hl,_⟩:=I.list hs;rw[Vals.yx r];exact aaL (I.ok.hd hc) hl.isList rv.ints bH λ h' tk m t' hk h1 h2=>⟨.int _,H,I.kept hk,⟨_,rfl⟩,q m h1 h2⟩
def acR(hc:X.calm=true):eP X (.builtin "min") (sE X.K):=by intro pins s σ H vs us Q I r h;obtain⟨a,ns,rfl,hs,bH,q⟩:=h;obtain⟨aw,rv,hl,_⟩:=I.list hs;rw[Vals.yx r];exact aaK (I.ok.hd hc) hl.isList rv.ints bH λ h' tk m t' hk h1 h2=>⟨.int _,H,I.kept hk,⟨_,rfl⟩,q m h1 h2⟩
end
end
section
abbrev PK(h:Heap)(c:Addr)(v:Option Value):Prop:=h.IsCell c v
noncomputable def aeF (scope sc:Scope):Scope:=
 {scope with names:=scope.names.map λ(n,k)=>if(k== .free&&sc.kind== .function&&sc.names.lookup n==some .cell)then(n,.cell)else(n,k)}
noncomputable def dZ (cells:List (Str×Addr)):List (Str×NameKind)->List (Str×Addr)->List (Str×Addr)
 |[],acc=>acc
 |(n,k)::r,acc=>if k== .free then dZ cells r ((n,(cells.lookup n).getD 0)::acc)else dZ cells r acc
theorem LG(env:Env)(f:Str×NameKind->List (Str×Addr)->Sem (ForInStep (List (Str×Addr))))
  (hf: ∀n k c,f (n,k) c=if k== .free then(do let a <- cellOf env n;pure (.yield ((n,a)::c)))else pure (.yield c)):
  ∀(names:List (Str×NameKind))(acc:List (Str×Addr)),(∀y∈names,y.2= .free-> ∃c,env.cells.lookup y.1=some c)->forIn names acc f=pure (dZ env.cells names acc)
 |[],acc,_=>by rw[List.forIn_nil];rfl
 |(n,k)::r,acc,h=>by
  rw[List.forIn_cons,hf];have ih:=λ acc=>LG env f hf r acc λ y hy=>h y (gi _ hy);unfold dZ;by_cases hk:(k==NameKind.free)=true
  ·rw[ao hk,ao hk];obtain⟨c,hc⟩:=h (n,k) iT (by simpa using hk);have e:cellOf env n=pure c:=by unfold cellOf;rw[hc]
   rw[e];have e2:(env.cells.lookup n).getD 0=c:=by rw[hc];rfl
   rw[e2];exact ih _
  ·rw[ai hk,ai hk];exact ih _
def L5(h: ∀y∈scope.names,y.2= .free-> ∃c,env.cells.lookup y.1=some c):closureFor scope env=pure (dZ env.cells scope.names []):=by simp only[closureFor];rw[LG env _ (λ n k c=>rfl) scope.names [] h];rfl
theorem mem_lookup: ∀{l:List (Str×α)}{n:Str}{c:α},(n,c)∈l-> ∃c',l.lookup n=some c'
 |(k,v)::r,n,c,h=>by
  rw[rE];cases hb:n==k with
  |true=>exact⟨_,rfl⟩
  |false=>
   rcases bV.mp h with e|h
   ·cases e;simp at hb
   ·exact mem_lookup h
theorem A_: ∀{names:List (Str×NameKind)}{acc:List (Str×Addr)}{n:Str}{c:Addr},(n,c)∈dZ cells names acc->(n,c)∈acc\/((n,.free)∈names/\c=(cells.lookup n).getD 0)
 |[],_,_,_,h=> .inl h
 |(m,k)::r,acc,n,c,h=>by
  unfold dZ at h;split at h
  ·rename_i hk;have hk:k= .free:=by simpa using hk
   rcases A_ h with h|⟨h1,h2⟩
   ·rcases bV.mp h with e|h
    ·cases e;exact .inr ⟨hk▸iT,rfl⟩
    ·exact .inl h
   ·exact .inr ⟨gi _ h1,h2⟩
  ·rcases A_ h with h|⟨h1,h2⟩
   ·exact .inl h
   ·exact .inr ⟨gi _ h1,h2⟩
theorem F8: ∀{names:List (Str×NameKind)}{acc:List (Str×Addr)}{p:Str×Addr},p∈acc->p∈dZ cells names acc
 |[],_,_,h=>h
 |(m,k)::r,acc,p,h=>by
  unfold dZ;split
  ·exact F8 (gi _ h)
  ·exact F8 h
theorem F7: ∀{names:List (Str×NameKind)}{acc:List (Str×Addr)}{n:Str},(n,.free)∈names->(n,(cells.lookup n).getD 0)∈dZ cells names acc
 |(m,k)::r,acc,n,h=>by
  unfold dZ;rcases bV.mp h with e|h
  ·cases e;exact F8 iT
  ·split
   ·exact F7 h
   ·exact F7 h
theorem xF: ∀{names:List (Str×NameKind)}{h:Heap}{acc:List (Str×Addr)}{x:Str}{c:Addr},(x,c)∈cellsFrom h.objs.size names acc->
  (x,c)∈acc\/((x,.cell)∈names/\h.objs.size<=c/\PK (pushCells h names) c none)
 |[],_,_,_,_,h=> .inl h
 |(n,k)::r,h,acc,x,c,hm=>by
  unfold cellsFrom at hm;unfold pushCells;split at hm
  ·rename_i hk;rw[ao hk];have hk:k= .cell:=by simpa using hk
   rw[<- gB h {cls:= .type "cell",data:= .cell none}]at hm;rcases xF hm with hm|⟨h1,h2,h3⟩
   ·rcases bV.mp hm with e|hm
    ·cases e;exact .inr ⟨hk▸iT,aQ _,_,wX r _ _ _ (fy _ rfl),rfl⟩
    ·exact .inl hm
   ·rw[gB]at h2;exact .inr ⟨gi _ h1,AJ h2,h3⟩
  ·rename_i hk;rw[ai hk];rcases xF hm with hm|⟨h1,h2,h3⟩
   ·exact .inl hm
   ·exact .inr ⟨gi _ h1,h2,h3⟩
theorem Bp: ∀{names:List (Str×NameKind)}{n:Nat}{acc:List (Str×Addr)}{p:Str×Addr},p∈acc->p∈cellsFrom n names acc
 |[],_,_,_,h=>h
 |(m,k)::r,n,acc,p,h=>by
  unfold cellsFrom;split
  ·exact Bp (gi _ h)
  ·exact Bp h
theorem Gy: ∀{names:List (Str×NameKind)}{n:Nat}{acc:List (Str×Addr)}{x:Str},(x,.cell)∈names-> ∃c,(x,c)∈cellsFrom n names acc
 |(m,k)::r,n,acc,x,h=>by
  unfold cellsFrom;rcases bV.mp h with e|h
  ·cases e;exact⟨n,Bp iT⟩
  ·split
   ·exact Gy h
   ·exact Gy h
theorem Gx: ∀{names:List (Str×NameKind)}{h:Heap}{acc:List (Str×Addr)}{x y:Str}{c:Addr},(∀p∈acc,p.2<h.objs.size)->(∀x y c,(x,c)∈acc->(y,c)∈acc->x=y)->
  (x,c)∈cellsFrom h.objs.size names acc->(y,c)∈cellsFrom h.objs.size names acc->x=y
 |[],_,_,_,_,_,_,hi,h1,h2=>hi _ _ _ h1 h2
 |(n,k)::r,h,acc,x,y,c,hl,hi,h1,h2=>by
  unfold cellsFrom at h1 h2;split at h1
  ·rename_i hk;rw[ao hk]at h2;rw[<- gB h {cls:= .type "cell",data:= .cell none}]at h1 h2;refine Gx (h:=h.push _) (λ p hp=>?_) (λ x y c a b=>?_) h1 h2
   ·rw[gB];rcases bV.mp hp with rfl|hp
    ·exact Ff _
    ·exact w_ (hl p hp)
   ·rcases bV.mp a with e|a<;>rcases bV.mp b with e'|b
    ·cases e;cases e';rfl
    ·cases e;exact absurd (hl _ b) (k8 _)
    ·cases e';exact absurd (hl _ a) (k8 _)
    ·exact hi _ _ _ a b
  ·rename_i hk;rw[ai hk]at h2;exact Gx hl hi h1 h2
def LI{M:Model}{A:Around}{E:Value->Shared->Prop}{s:Shared}{scope:Scope}{globals:Addr}{closure:List (Str×Addr)}{qual:Str}{func:Option Addr}{code:Value}{around:Env}{builtins:Addr}{Q:Env->Shared->Prop}
  (h:Q (newEnv scope s.heap.objs.size globals (cellsFrom (s.heap.objs.size+1) scope.names closure) qual func code (some around) builtins)
   {s with heap:=pushCells (s.heap.push {cls:= .type "dict",data:= .dict #[]}) scope.names}):
  wpAny M A (newFunctionEnv scope globals closure [] qual func code (some around) builtins) Q E s:=by
 simp only[newFunctionEnv,Option.isSome_some,jn];refine aA (wpAny_alloc ?_);refine aA (wpAny_layCells _ (λ n k c=>rfl) scope.names closure _ _ ?_);rw[show({s with heap:=s.heap.push {cls:= .type "dict",data:= .dict #[]}}:Shared).heap.objs.size=s.heap.objs.size+1 from gB ..];rw[List.forIn_nil];exact aA (bc (bc h))
theorem F0{sc:Scope}: ∀{names:List (Str×NameKind)}{x:Str}{k:NameKind},
  (names.map λ(n,k)=>if(k==NameKind.free&&sc.kind== .function&&sc.names.lookup n==some .cell)then(n,NameKind.cell)else(n,k)).lookup x=some k->
  ∃k',names.lookup x=some k'/\(k=k'\/(k'= .free/\k= .cell))
 |[],_,_,h=>by simp at h
 |(n,k₀)::r,x,k,h=>by
  have ih:= @F0 sc r x k;have h':List.lookup x ((if(k₀==NameKind.free&&sc.kind== .function&&sc.names.lookup n==some .cell)=true then(n,NameKind.cell)else(n,k₀))::(r.map _))=some k:=h;cases hx:x==n with
  |true=>
   simp only[rE,hx];by_cases hc:(k₀==NameKind.free&&sc.kind== .function&&sc.names.lookup n==some .cell)=true
   ·rw[ao hc]at h';simp only[rE,hx]at h';cases h';simp only[cI,pw]at hc;exact⟨k₀,rfl,.inr ⟨hc.1.1,rfl⟩⟩
   ·rw[ai hc]at h';simp only[rE,hx]at h';cases h';exact⟨_,rfl,.inl rfl⟩
  |false=>
   simp only[rE,hx];by_cases hc:(k₀==NameKind.free&&sc.kind== .function&&sc.names.lookup n==some .cell)=true
   ·rw[ao hc]at h';simp only[rE,hx]at h';exact ih h'
   ·rw[ai hc]at h';simp only[rE,hx]at h';exact ih h'
structure qk(N:List Str)(sc scope:Scope)(own:List (Str×Nat)):Prop where
 kind:scope.kind= .function
 uniq: ∀y∈scope.names,scope.names.lookup y.1=some y.2
 ix: ∀p∈own,N[p.2]?=some p.1
 free: ∀y∈scope.names,y.2= .free->sc.names.lookup y.1=some .cell\/sc.names.lookup y.1=some .free
 own: ∀y∈scope.names,y.2= .local\/y.2= .cell->y.1∈own.map (·.1)\/y.1∉N
noncomputable def wipe (σ:St):List Nat->St
 |[]=>σ
 |v::vs=>(wipe σ vs).set v none
theorem A7(σ:St): ∀vs:List Nat,(wipe σ vs).length=σ.length
 |[]=>rfl
 |v::vs=>by unfold wipe;rw[wY,A7 σ vs]
theorem Bd: ∀{vs:List Nat},(wipe σ vs)[i]?=some (some x)->σ[i]?=some (some x)/\i∉vs
 |[],h=>⟨h,by simp⟩
 |v::vs,h=>by
  unfold wipe at h;by_cases hi:v=i
  ·subst hi;by_cases hv:v<(wipe σ vs).length
   ·rw[FA hv]at h;cases h
   ·rw[La (by simpa using hv)]at h;cases h
  ·rw[Fw hi]at h;obtain⟨h1,h2⟩:=Bd h;exact⟨h1,by simp only[bV,not_or];exact⟨λ e=>hi e.symm,h2⟩⟩
noncomputable abbrev Cx.cy (X:Cx) (s:Shared) (H:Hp) (scope:Scope) (dg:Env) (fp:List Addr):Cx:={X with s₀:=s,H₀:=H,env:=dg,outer:=X.stack,ex:=fp,fn:=λ x=>scope.names.lookup x==some .cell,pn:=[],xe:=λ _ _=>False}
section
variable{X:Cx}{pins:List (Addr×Obj)}{σ:St}{H:Hp}{s:Shared}
def LO{scope:Scope}{own:List (Str×Nat)}{fp:List Addr}(I:Inv X pins σ H s)(ok:qk X.N X.env.scope scope own)(hN:X.N.Nodup)(wb: ∀b∈fp,hJ X pins H b/\b<s.heap.objs.size):
  Inv (X.cy s H scope (compEnvC scope (cellsFrom (s.heap.objs.size+1) scope.names (dZ X.env.cells scope.names [])) s.heap.objs.size X.env) fp) [] (wipe σ (own.map (·.2))) H {s with heap:=pushCells (s.heap.push {cls:= .type "dict",data:= .dict #[]}) scope.names}:=by
 have p9: ∀y∈scope.names,y.2= .free-> ∃c,X.env.cells.lookup y.1=some c:=λ y hy e=>by
  rcases ok.free y hy e with k|k
  ·exact I.ok.has _ (.inl k)
  ·exact I.ok.has _ (.inr k)
 generalize yo:compEnvC scope (cellsFrom (s.heap.objs.size+1) scope.names (dZ X.env.cells scope.names [])) s.heap.objs.size X.env=dg;have kp: ∀b o,s.heap.get? b=some o->(pushCells (s.heap.push {cls:= .type "dict",data:= .dict #[]}) scope.names).get? b=some o:=λ b o e=>wX _ _ _ _ (cp _ e);have hL:dg.locals=s.heap.objs.size:=by rw[<- yo];rfl
 have gR:dg.cells=cellsFrom (s.heap.objs.size+1) scope.names (dZ X.env.cells scope.names []):=by rw[<- yo];rfl
 have JV:dg.scope=aeF scope X.env.scope:=by rw[<- yo];rfl
 rw[<- gB s.heap {cls:= .type "dict",data:= .dict #[]}]at gR;have cm: ∀{y c},(y,c)∈dZ X.env.cells scope.names []->X.env.cells.lookup y=some c/\c<s.heap.objs.size:=λ{y c}hm=>by
  rcases A_ hm with hm|⟨h1,rfl⟩
  ·cases hm
  ·obtain⟨c,hc⟩:=p9 _ h1 rfl;rw[hc];obtain⟨w,z⟩:=I.cell _ _ hc;exact⟨rfl,z.lt⟩
 have mem: ∀{y c},dg.cells.lookup y=some c->(X.env.cells.lookup y=some c/\c<s.heap.objs.size)\/(s.heap.objs.size+1<=c/\PK (pushCells (s.heap.push {cls:= .type "dict",data:= .dict #[]}) scope.names) c none):=λ{y c}e=>by
  rw[gR]at e;rcases xF (iU e)with hm|⟨_,h2,h3⟩
  ·exact .inl (cm hm)
  ·rw[gB]at h2;exact .inr ⟨h2,h3⟩
 have look: ∀{y},scope.names.lookup y=some .free-> ∃c,dg.cells.lookup y=some c/\X.env.cells.lookup y=some c:=λ{y}hl=>by
  have hy:(y,NameKind.free)∈scope.names:=iU hl;obtain⟨c',e'⟩:=mem_lookup (Bp (names:=scope.names) (n:=(s.heap.push {cls:= .type "dict",data:= .dict #[]}).objs.size) (F7 (cells:=X.env.cells) (acc:=[]) hy));rw[<- gR]at e';refine⟨c',e',?_⟩;rw[gR]at e';rcases xF (iU e')with hm|⟨h1,_,_⟩
  ·exact(cm hm).1
  ·have:=ok.uniq _ h1;rw[hl]at this;cases this
 have okB:(X.cy s H scope dg fp).Ok:=by
  refine⟨I.ok.mod,by show dg.scope.kind=_;rw[JV];exact ok.kind,by show dg.globals=_;rw[<- yo];exact I.ok.glob,by show dg.builtins=_;rw[<- yo];exact I.ok.blt,by show s.heap.objs.size<=dg.locals;rw[hL];exact aQ _,
   λ y z c e1 e2=>?_,λ y hy=>?_,λ y c z e=>?_,I.ok.hd,I.ok.frames,.inl rfl,λ b hb=>⟨?_,λ y c e z=>?_⟩,I.bs,bY I.ok.kR I.sz,λ b o e hb=>?_,λ b hb z=>?_,I.stack,I.NX⟩
  ·have e1:dg.cells.lookup y=some c:=e1;have e2:dg.cells.lookup z=some c:=e2;rw[gR]at e1 e2;refine Gx (λ p hp=>?_) (λ y z c a b=>I.ok.inj y z c (cm a).1 (cm b).1) (iU e1) (iU e2);rw[gB];exact w_ (cm (y:=p.1) (c:=p.2) hp).2
  ·show∃c,dg.cells.lookup y=some c;have key: ∀k,dg.kindOf y=some k->(k= .cell\/k= .free)-> ∃c,dg.cells.lookup y=some c:=λ k hk zN=>by
    unfold Env.kindOf at hk;rw[JV]at hk;obtain⟨k',e,r⟩:=F0 hk;have:k'= .cell\/k'= .free:=by
     rcases r with rfl|⟨rfl,_⟩
     ·exact zN
     ·exact .inr rfl
    rcases this with rfl|rfl
    ·obtain⟨c,hm⟩:=Gy (n:=(s.heap.push {cls:= .type "dict",data:= .dict #[]}).objs.size) (acc:=dZ X.env.cells scope.names []) (iU e);obtain⟨c',e'⟩:=mem_lookup hm;exact⟨c',by rw[gR];exact e'⟩
    ·obtain⟨c,h1,_⟩:=look e;exact⟨c,h1⟩
   rcases hy with hy|hy
   ·exact key _ hy (.inl rfl)
   ·exact key _ hy (.inr rfl)
  ·have z:(scope.names.lookup y==some NameKind.cell)=true:=z;have z:scope.names.lookup y=some .cell:=by simpa using z
   have e:dg.cells.lookup y=some c:=e;rw[gR]at e;rcases xF (iU e)with hm|⟨_,h2,_⟩
   ·rcases A_ hm with hm|⟨h1,_⟩
    ·cases hm
    ·have q:=ok.uniq _ h1;rw[z]at q;cases q
   ·rw[gB]at h2;exact AJ h2
  ·show b≠dg.locals;rw[hL];exact ek (wb b hb).2
  ·have e:dg.cells.lookup y=some c:=e;rcases mem e with⟨h1,_⟩|⟨h1,_⟩
   ·exact(wb b hb).1.2.2.2.2.1 y c h1 z
   ·have h2:s.heap.objs.size+1<=b:=by rw[<- z];exact h1
    exact absurd (dJ (wb b hb).2 (AJ h2)) (k8 _)
  ·rcases(wb b hb).1.2.2.2.1 with z|z
   ·exact I.ok.qm b o e z
   ·exact absurd (dJ (cz e) (bY I.ok.kR z)) (k8 _)
  ·rcases bV.mp (I.xU b z)with z|z
   ·exact(wb b hb).1.2.1 z
   ·exact(wb b hb).1.2.2.1 z
 refine⟨okB,rfl,I.bare,Un.kept kp,⟨λ _=>none,?_,λ i y av e1 e2 e3=>?_⟩,λ y c e=>?_,?_,λ y c e=>?_,λ p hp=>?_,I.ax.kept kp,by rw[A7];exact I.len⟩
 ·show Heap.Ns _ dg.locals _;rw[hL];exact Heap.Ns.keeps (Heap.Ns.new ..) λ b o e=>wX _ _ _ _ e
 ·obtain⟨e2,bH⟩:=Bd e2;have iN:scope.names.lookup y=some .free/\(dg.kindOf y=some .cell\/dg.kindOf y=some .free):=by
   have key: ∀k,dg.scope.names.lookup y=some k->k= .local\/k= .cell\/k= .free->scope.names.lookup y=some .free/\(dg.kindOf y=some .cell\/dg.kindOf y=some .free):=λ k hk zN=>by
    have zM:=hk;rw[JV]at hk;obtain⟨k',e,r⟩:=F0 hk;have no: ¬(k'= .local\/k'= .cell):=λ hh=>by
     rcases ok.own _ (iU e) hh with e'|e'
     ·obtain⟨p,hp,DG⟩:=bF.mp e';have e3:=ok.ix p hp;have:p.1=y:=DG;rw[this]at e3;exact bH (bF.mpr ⟨p,hp,GN hN e3 e1⟩)
     ·exact e' (eG e1)
    rcases r with rfl|⟨rfl,rfl⟩
    ·rcases zN with rfl|rfl|rfl
     ·exact absurd (.inl rfl) no
     ·exact absurd (.inr rfl) no
     ·exact⟨e,.inr zM⟩
    ·exact⟨e,.inl zM⟩
   have e3:wq dg.scope y:=e3;rcases e3 with e3|e3|e3
   ·exact key _ e3 (.inl rfl)
   ·exact key _ e3 (.inr (.inl rfl))
   ·exact key _ e3 (.inr (.inr rfl))
  obtain⟨m,hn,hl⟩:=I.loc;have afk:wq X.env.scope y:=(ok.free _ (iU iN.1) rfl).elim (λ k=> .inr (.inl k)) (λ k=> .inr (.inr k));obtain⟨w,r,q⟩:=hl i y av e1 e2 afk;refine⟨w,r,.inr ⟨iN.2,?_⟩⟩;obtain⟨c,h1,h2⟩:=look iN.1;rcases q with⟨k,_⟩|⟨_,c',e',z⟩
  ·have k:X.env.scope.names.lookup y=some .local:=k;rcases ok.free _ (iU iN.1) rfl with k'|k'<;>rw[show X.env.scope.names.lookup y=_ from k']at k<;>cases k
  ·rw[h2]at e';cases e';exact⟨c,h1,z.keeps kp⟩
 ·have e:dg.cells.lookup y=some c:=e;rcases mem e with⟨h1,_⟩|⟨_,z⟩
  ·obtain⟨w,z⟩:=I.cell y c h1;exact⟨w,z.keeps kp⟩
  ·exact⟨_,z⟩
 ·show H dg.locals=none;rw[hL];exact I.ax.fresh (aQ _)
 ·have e:dg.cells.lookup y=some c:=e;rcases mem e with⟨h1,_⟩|⟨h1,_⟩
  ·exact I.gN y c h1
  ·exact I.ax.fresh (AJ h1)
 ·exact absurd (show p∈([]:List (Addr×Obj))++[]from hp) (by simp)
def PH(I:Inv X pins σ H s)(hD:H D=some (.lst xs))(hz:xs.length<sizeLine)(r:RelV y v)
  (h: ∀s',Inv X pins σ (upd H D (.lst (xs++[y]))) s'->Q .none s'):wpAny (model X.prog X.w) X.A (call (.builtin "list.append") [.ref D,v]) Q E s:=by
 obtain⟨TC,aw,n,ri,e⟩:=I.ax D _ hD;have hl:=ri.length;refine append_at (hsz:=by rw[dF];lia) e λ h' sb jF=>?_;refine h {s with heap:=h'} (I.write (t':=s.toks) (by rw[hD];trivial) (.inl rfl) (λ b u hb q=>(sb.2 b hb).trans q) ⟨_,jF⟩ ⟨by rw[bq];exact hz,aw++[v],n+1,ri.append (.cons r .nil),?_⟩);rw[jF];simp
def qX(X:Cx)(ifs:List Expr)(t:TT):Prop:=
 ∀(pins:List (Addr×Obj))(s:Shared)(σ:St)(H:Hp)(Q:Bool->Hp->Prop),Inv X pins σ H s->t σ H Q->
  wpAny (model X.prog X.w) X.A (forIn ifs true λ c r=>if r=true then do let ok <- isTrue c X.env (eval c X.env);pure (ForInStep.yield ok)else pure (ForInStep.yield r)) (TP X pins σ Q) X.xe s
def vz:TT:=λ _ H Q=>Q true H
def gH:qX X [] vz:=λ _ _ _ H _ I h=>wpAny_tests_nil ⟨H,I,h⟩
def Oj(h:PT X c t):qX X [c] t:=λ pins s σ H Q I hw=>wpAny_tests_one (h pins s σ H Q I hw)
end
def lI(h:wpAny M A t Q (λ _ _=>False) s)(hQ: ∀a s,Q a s->Q' a s):wpAny M A t Q' E s:=iq h hQ λ _ _ z=>False.elim z
theorem LF(I:Nat->Shared->Prop)
  (turn: ∀n s,I n s->wpAny (model prog w) A (pyNext it) (λ r s₁=>match r with
   |none=>R (.ok .next) s₁
   |some v=>wpAny (model prog w) A (letOwnedTupleGo target it v) (λ _ SU=>wpAny (model prog w) A (assign target env v) (λ _ s₂=>
     wpAny (model prog w) A (forIn ifs true λ c r=>if r=true then do let ok <- isTrue c env (eval c env);pure (ForInStep.yield ok)else pure (ForInStep.yield r)) (λ ok s₃=>
      if ok=true then wpAny (model prog w) A (eval elt env) (λ x s₄=>
       wpAny (model prog w) A (call (.builtin "list.append") [acc,x]) (λ _ s₅=>∃m,m<n/\I m s₅) (notedBy (model prog w) A env λ e s'=>R (.error e) s') s₄) (notedBy (model prog w) A env λ e s'=>R (.error e) s') s₃
      else∃m,m<n/\I m s₃) (notedBy (model prog w) A env λ e s'=>R (.error e) s') s₂) (notedBy (model prog w) A env λ e s'=>R (.error e) s') SU) (notedBy (model prog w) A env λ e s'=>R (.error e) s') s₁) (notedBy (model prog w) A env λ e s'=>R (.error e) s') s)
  (n:Nat) (h:I n s):
  codeAny (model prog w) A (.compLoop (.ListComp elt [⟨target,iter,ifs,0⟩] scope pos) 0 it acc env) R s:=by
 refine codeAny_loop rfl I (λ n s hI=>?_) n h;show wpAny _ A ((compTurn (.ListComp elt [⟨target,iter,ifs,0⟩] scope pos) 0 it acc env).onRaise (λ x=>do noteFrame x env;theTreesLotGoes x)) _ _ s;refine wpAny_noted ?_;rw[compTurn_list];refine aA (wpAny_standAt (aA (iq (turn n s hI) (λ r s₁ h₁=>?_) λ _ _ h'=>h')));cases r with
 |none=>exact bc h₁
 |some v=>
  refine aA (iq h₁ (λ _ SU h₁'=>?_) λ _ _ h'=>h');refine aA (iq h₁' (λ _ s₂ h₂=>aA (iq h₂ (λ ok s₃ h₃=>?_) λ _ _ h'=>h')) λ _ _ h'=>h');cases ok with
  |false=>exact bc ⟨rfl,h₃⟩
  |true=>
   exact aA (aA (iq h₃ (λ x s₄ h₄=>aA (iq h₄ (λ _ s₅ h₅=>bc (bc ⟨rfl,h₅⟩)) λ _ _ h'=>h')) λ _ _ h'=>h'))
section
variable{X:Cx}
def sQ(wi:TI)(g:TG)(tt:TT)(te:TE)(vs:List Nat):TE:=λ σ H Q=>wi σ H λ J H1=>∀D,H1 D=none-> ∃W:Nat->Nat->Hp->Prop,(∃m,W 0 m (upd H1 D (.lst [])))/\ ∀i m H,W i m H->
 (J.stop i H/\Q (.ref D) H)\/(J.go i H/\ ∃Nx:Hp->Prop,(∀H',Nx H'-> ∃m',m'<m/\W (i+1) m' H')/\ ∀x H',J.mW i H x H'->g x (wipe σ vs) H' λ σ2 H2=>wipe σ2 vs=wipe σ vs/\tt σ2 H2 λ b H3=>
  if b=true then te σ2 H3 λ y H4=>∃acc,H4 D=some (.lst acc)/\acc.length<sizeLine/\Nx (upd H4 D (.lst (acc++[y])))else Nx H3)
def OF{pins:List (Addr×Obj)}{s:Shared}{σ:St}{H:Hp}{Q:VK}{elt tg iter:Expr}{ifs:List Expr}{scope:Scope}{own:List (Str×Nat)}{pos pos':Pos}{wi:TI}{g:TG}{tt:TT}{te:TE}{use:Option (Value->Sem Unit)}{Qf:Value->Shared->Prop}
  (hc:X.calm=true)(hN:X.N.Nodup)(I:Inv X pins σ H s)(hi:PI X tg iter wi)(ok:qk X.N X.env.scope scope own)
  (hg: ∀(s:Shared)(H:Hp)(C:Addr)(cl:List (Str×Addr))(fp:List Addr),PG (X.cy s H scope (compEnvC scope cl C X.env) fp) tg g)(ht: ∀(s:Shared)(H:Hp)(C:Addr)(cl:List (Str×Addr))(fp:List Addr),qX (X.cy s H scope (compEnvC scope cl C X.env) fp) ifs tt)
  (he: ∀(s:Shared)(H:Hp)(C:Addr)(cl:List (Str×Addr))(fp:List Addr),PE (X.cy s H scope (compEnvC scope cl C X.env) fp) elt te)(hs: ∀x,foldedSetIterable iter X.env x=pure x)
  (h:sQ wi g tt te (own.map (·.2)) σ H Q)
  (Ko: ∀D C s' m H',Inv X pins σ H' s'->Q (.ref D) H'->s'.heap.Ns C m->hJ X pins H' C->compPost (model X.prog X.w) X.A X.xe use Qf (.ref D) C (.ok .next) s'):
  wpAny (model X.prog X.w) X.A (comprehension (.ListComp elt [⟨tg,iter,ifs,0⟩] scope pos) scope X.env pos' (newList []) false (eval iter X.env) use) Qf X.xe s:=by
 have p9: ∀y∈scope.names,y.2= .free-> ∃c,X.env.cells.lookup y.1=some c:=λ y hy e=>by
  rcases ok.free y hy e with k|k
  ·exact I.ok.has _ (.inl k)
  ·exact I.ok.has _ (.inr k)
 refine wpAny_comprehension_free (use:=use) rfl hs (L5 p9) ok.kind (λ y hy e=>by rw[ok.uniq y hy,e])
  (aF (hi pins s σ H _ I h) λ xv s1 hx=>aF hx λ Dq s2 h2=>?_)
 obtain⟨it,fp,tn,J,H2,e,I2,T,oK,f2,q⟩:=h2;subst e;refine uy (LI ?_) (by show 0<=sizeLine;decide);generalize hD:s2.heap.objs.size=D;have Kr:H2 D=none:=I2.ax.fresh (nM hD);obtain⟨W,⟨m0,w0⟩,turn⟩:=q D Kr;generalize oR:({s2 with heap:=s2.heap.push {cls:= .type "list",data:= .seq ([]:List Value).toArray}}:Shared)=s3;have I3:Inv X pins σ (upd H2 D (.lst [])) s3:=by rw[<- oR];refine I2.laid (t':=s2.toks) (λ b o e=>cp _ e) (nM hD) ⟨cP _,[],0,.nil,?_⟩;rw[<- hD];exact fy _ rfl
 have h3:s3.heap=s2.heap.push {cls:= .type "list",data:= .seq ([]:List Value).toArray}:=by rw[<- oR]
 have sz: ∀b∈fp,b<s2.heap.objs.size:=λ b hb=>by obtain⟨o,e,_⟩:=T.obj _ _ oK b hb;exact cz e
 have f3: ∀b∈fp,hJ X pins (upd H2 D (.lst [])) b/\b<s3.heap.objs.size:=λ b hb=>by have cg:=sz b hb;refine⟨⟨?_,(f2 b hb).2⟩,by rw[h3,gB];exact w_ cg⟩;rw[bb (by rw[<- hD];exact ek cg)];exact(f2 b hb).1
 have oJ:tn 0 s3.heap:=T.keep _ _ _ oK λ b _ o e=>by rw[h3];exact cp _ e
 have I4:=LO I3 ok hN f3;have pg:=hg s3 (upd H2 D (.lst [])) s3.heap.objs.size (cellsFrom (s3.heap.objs.size+1) scope.names (dZ X.env.cells scope.names [])) fp;have pt:=ht s3 (upd H2 D (.lst [])) s3.heap.objs.size (cellsFrom (s3.heap.objs.size+1) scope.names (dZ X.env.cells scope.names [])) fp;have pe:=he s3 (upd H2 D (.lst [])) s3.heap.objs.size (cellsFrom (s3.heap.objs.size+1) scope.names (dZ X.env.cells scope.names [])) fp;show codeAny _ _ (.compStart (.ListComp elt [⟨tg,iter,ifs,0⟩] scope pos) 0 (.ref it) (.ref D) (compEnvC scope (cellsFrom (s3.heap.objs.size+1) scope.names (dZ X.env.cells scope.names [])) s3.heap.objs.size X.env)) (compPost (model X.prog X.w) X.A X.xe use Qf (.ref D) s3.heap.objs.size) {s3 with heap:=pushCells (s3.heap.push {cls:= .type "dict",data:= .dict #[]}) scope.names};have zi: ∀b∈fp,(upd H2 D (.lst [])) b=none:=λ b hb=>(f3 b hb).1.1;generalize DS:compEnvC scope (cellsFrom (s3.heap.objs.size+1) scope.names (dZ X.env.cells scope.names [])) s3.heap.objs.size X.env=ce at I4 pg pt pe⊢;have cL:ce.locals=s3.heap.objs.size:=by subst DS;rfl
 generalize hH3:upd H2 D (.lst [])=H3 at I3 I4 pg pt pe w0 zi f3;generalize JY:({s3 with heap:=pushCells (s3.heap.push {cls:= .type "dict",data:= .dict #[]}) scope.names}:Shared)=s4 at I4⊢;have yV:tn 0 s4.heap:=T.keep _ _ _ oJ λ b _ o e=>by rw[<- JY];exact wX _ _ _ _ (cp _ e)
 have stat: ∀{σ':St}{H':Hp}{s':Shared},Inv (X.cy s3 H3 scope ce fp) [] σ' H' s'->(∀b∈fp,H' b=none)-> ∀b∈fp,hJ (X.cy s3 H3 scope ce fp) [] H' b:=λ{σ' H' s'}I' hn b hb=>
  ⟨hn b hb,(I'.ok.oX b hb).1,I'.ok.oE b hb,.inl hb,λ x c e=>(I'.ok.oX b hb).2 x c e,λ p hp=>absurd (show p∈([]:List (Addr×Obj))++[]from hp) (by simp)⟩
 have loop:codeAny (model X.prog X.w) X.A (.compLoop (.ListComp elt [⟨tg,iter,ifs,0⟩] scope pos) 0 (.ref it) (.ref D) ce) (compPost (model X.prog X.w) X.A X.xe use Qf (.ref D) s3.heap.objs.size) s4:=by
  refine LF (λ n s'=>∃i H',Inv (X.cy s3 H3 scope ce fp) [] (wipe σ (own.map (·.2))) H' s'/\tn i s'.heap/\(∀b∈fp,H' b=none)/\W i n H') ?_ m0 ⟨0,H3,I4,yV,zi,w0⟩;rintro n s5 ⟨i,H5,I5,oI,n5,w5⟩;rcases turn i n H5 w5 with⟨stop,qq⟩|⟨go,Nx,Kq,step⟩
  ·have td:=T.done (X.cy s3 H3 scope ce fp) rfl rfl rfl hc i [] s5 _ H5 (λ _ _=>False) I5 (stat I5 n5) oI stop;refine lI td λ r s6 ⟨hr,I6⟩=>?_;subst hr;have I7:Inv X pins σ H5 s6:=I3.Cp (ch:=fp) I6.os I6.base I6.ax I6.bare λ b hb=>⟨(f3 b hb).1.2.2.2.1,(f3 b hb).1.2.1,(f3 b hb).1.2.2.2.2.1,(f3 b hb).1.2.2.2.2.2⟩;have nC:H5 s3.heap.objs.size=none:=by
    have z:H5 ce.locals=none:=I6.free;rw[cL]at z;exact z
   obtain⟨m,hn,_⟩:=I6.loc;have hn:s6.heap.Ns ce.locals m:=hn;rw[cL]at hn;exact Ko D s3.heap.objs.size s6 m H5 I7 qq hn (I3.qA (aQ _) nC)
  ·have ti:=T.item (X.cy s3 H3 scope ce fp) rfl rfl rfl hc i [] s5 _ H5 (λ _ _=>False) I5 (stat I5 n5) oI go;refine lI ti λ r s6 ⟨u,hr,h6⟩=>?_;subst hr;refine lI h6 λ _ s7 ⟨x,H7,I7,r7,y7,sT,n7⟩=>?_;have KP:=I7.pinned (stat I7 n7) (T.obj _ _ sT);refine lI (pg _ s7 _ H7 x u _ KP r7 (step x H7 y7)) λ _ s8 ⟨σ8,H8,I8,zG,q8⟩=>?_;refine lI (pt _ s8 σ8 H8 _ I8 q8) λ b s9 ⟨H9,I9,q9⟩=>?_;have fin: ∀{s':Shared}{H':Hp},Inv (X.cy s3 H3 scope ce fp) ([]++ve fp s7.heap) σ8 H' s'->Nx H'-> ∃m,m<n/\ ∃i H',Inv (X.cy s3 H3 scope ce fp) [] (wipe σ (own.map (·.2))) H' s'/\tn i s'.heap/\(∀b∈fp,H' b=none)/\W i m H':=λ{s' H'}I' nx=>by
    obtain⟨m',hm,w'⟩:=Kq H' nx;have yA: ∀b∈fp,∀o,s7.heap.get? b=some o->s'.heap.get? b=some o/\H' b=none:=λ b hb o e=>
     let z:=I'.pin (b,o) (gj _ (gj _ (Bc hb e)))
     ⟨z.1,z.2.1⟩
    have hl:(wipe σ (own.map (·.2))).length=σ8.length:=by rw[<- zG,A7]
    refine⟨m',hm,i+1,H',(I'.xH (pins:=[])).weak hl (λ j v e=>?_),T.keep _ _ _ sT λ b hb o e=>(yA b hb o e).1,λ b hb=>?_,w'⟩
    ·rw[<- zG]at e;exact(Bd e).1
    ·obtain⟨o,e,_⟩:=T.obj _ _ sT b hb;exact(yA b hb o e).2
   cases b with
   |false=>
    simp only[mw,jL]at q9⊢;exact fin I9 q9
   |true=>
    simp only[jn]at q9⊢;refine lI (pe _ s9 σ8 H9 _ I9 q9) λ z yY ⟨yv,wA,wy,Jw,acc,IW,IJ,nx⟩=>?_;exact PH (X:=X.cy s3 H3 scope ce fp) wy IW IJ Jw λ jW KQ=>fin KQ nx
 exact codeAny_compStart_list loop (T.self X.A 0 _ _ _ yV loop)
def i9(hc:X.calm=true)(hN:X.N.Nodup)(hi:PI X tg iter wi)(ok:qk X.N X.env.scope scope own)
  (hg: ∀(s:Shared)(H:Hp)(C:Addr)(cl:List (Str×Addr))(fp:List Addr),PG (X.cy s H scope (compEnvC scope cl C X.env) fp) tg g)(ht: ∀(s:Shared)(H:Hp)(C:Addr)(cl:List (Str×Addr))(fp:List Addr),qX (X.cy s H scope (compEnvC scope cl C X.env) fp) ifs tt)
  (he: ∀(s:Shared)(H:Hp)(C:Addr)(cl:List (Str×Addr))(fp:List Addr),PE (X.cy s H scope (compEnvC scope cl C X.env) fp) elt te)(hs: ∀x,foldedSetIterable iter X.env x=pure x:=by intro _;rfl):
  PE X (.ListComp elt [⟨tg,iter,ifs,0⟩] scope pos) (sQ wi g tt te (own.map (·.2))):=by
 intro pins s σ H Q I h;rw[eval_ListComp];refine OF hc hN I hi ok hg ht he hs h λ D C s' m H' I' q hn f=>⟨m,hn,λ h'' sb=>?_⟩;obtain⟨f0,f1,f2,f3,f4,f5⟩:=f;exact⟨.ref D,H',I'.turned (t':=s'.toks) (λ b o hb e=>(sb.2 b hb).trans e) f0 f1 f3 f4 f5,rfl,q⟩
def Nf(hc:X.calm=true)(hN:X.N.Nodup)(hy:X.N[i]?=some y)(TH:X.env.scope.names.lookup y=some .local)
  (dB:swapsWith (.ListComp elt [⟨tg,iter,ifs,0⟩] scope pos) (some (.Name y py)) aeD.line X.env=pure true)(hi:PI X tg iter wi)(ok:qk X.N X.env.scope scope own)
  (hg: ∀(s:Shared)(H:Hp)(C:Addr)(cl:List (Str×Addr))(fp:List Addr),PG (X.cy s H scope (compEnvC scope cl C X.env) fp) tg g)(ht: ∀(s:Shared)(H:Hp)(C:Addr)(cl:List (Str×Addr))(fp:List Addr),qX (X.cy s H scope (compEnvC scope cl C X.env) fp) ifs tt)
  (he: ∀(s:Shared)(H:Hp)(C:Addr)(cl:List (Str×Addr))(fp:List Addr),PE (X.cy s H scope (compEnvC scope cl C X.env) fp) elt te)(hs: ∀x,foldedSetIterable iter X.env x=pure x:=by intro _;rfl):
  PS X (.Assign [.Name y py] (.ListComp elt [⟨tg,iter,ifs,0⟩] scope pos) aeD) (lJ (sQ wi g tt te (own.map (·.2))) (eJ i)):=by
 intro pins s σ H D I h;rw[exec_Assign_Name_used _ _ _ _ dB];refine aA (wpAny_standAt (aA ?_));show wpAny _ X.A (do let _ <- comprehension (.ListComp elt [⟨tg,iter,ifs,0⟩] scope pos) scope X.env (firstIterPos [⟨tg,iter,ifs,0⟩] pos) (newList []) false (eval iter X.env) (some (assign (.Name y py) X.env))) _ _ s;have h:sQ wi g tt te (own.map (·.2)) σ H (λ x H1=>eJ i x σ H1 D.nx):=h;refine aA (aF (OF (Qf:=λ _ s'=>SP X pins D .next s') hc hN I hi ok hg ht he hs h λ L C s' m H' I' q hn f=>?_) λ _ s' hq=>bc (bc hq));show wpAny _ _ (assign (.Name y py) X.env (.ref L)) _ _ _;refine wpAny_assign_Name (Mh (v:=V.ref L) I' hN hy (.inl TH) rfl (λ s2 I2 ⟨a,sb,ha⟩=>?_) (.inr TH));obtain⟨f0,f1,f2,f3,f4,f5⟩:=f;have haC:C≠a:=by
  rcases ha with z|z
  ·rw[z];exact f1
  ·exact λ e=>f4 y a z e.symm
 refine⟨m,hn.sameBut sb haC,λ h3 sb3=>?_⟩;exact⟨_,H',I2.turned (t':=s2.toks) (λ b o hb e=>(sb3.2 b hb).trans e) f0 f1 f3 f4 f5,q⟩
def NT(hk:env.scope.kind= .function)(hy:env.scope.names.lookup y=some .local)(hl:(py.line==pos.line)=true)
  (ha:(scope.names.any λ(n,k)=>n==y&&(k== .local||k== .cell))=false):swapsWith (.ListComp elt gs scope pos) (some (.Name y py)) l env=pure true:=by
 have ky:env.kindOf y=some .local:=hy;have hb:env.blockKind= .function:=by unfold Env.blockKind;rw[hk];rfl
 unfold swapsWith;simp only[hb,ky,ha,Expr.pos,hl];rfl
end
def ZE{lo:Int}{n:Nat}{g:TG}{tt:TT}{te:TE}{vs:List Nat}{σ:St}{H1:Hp}{D:Addr}{Qd:Hp->Prop}(Pv:Nat->Hp->Prop)(h0:Pv 0 (upd H1 D (.lst [])))
  (hs: ∀i H,i<n->Pv i H->g (.int (lo+i)) (wipe σ vs) H λ σ2 H2=>wipe σ2 vs=wipe σ vs/\tt σ2 H2 λ b H3=>
   if b=true then te σ2 H3 λ y H4=>∃acc,H4 D=some (.lst acc)/\acc.length<sizeLine/\Pv (i+1) (upd H4 D (.lst (acc++[y])))else Pv (i+1) H3) (hd: ∀H,Pv n H->Qd H):
  ∃W:Nat->Nat->Hp->Prop,(∃m,W 0 m (upd H1 D (.lst [])))/\ ∀i m H,W i m H->
   ((jI lo n).stop i H/\Qd H)\/((jI lo n).go i H/\ ∃Nx:Hp->Prop,(∀H',Nx H'-> ∃m',m'<m/\W (i+1) m' H')/\ ∀x H',(jI lo n).mW i H x H'->g x (wipe σ vs) H' λ σ2 H2=>wipe σ2 vs=wipe σ vs/\tt σ2 H2 λ b H3=>
    if b=true then te σ2 H3 λ y H4=>∃acc,H4 D=some (.lst acc)/\acc.length<sizeLine/\Nx (upd H4 D (.lst (acc++[y])))else Nx H3):=by
 refine⟨λ i m H=>m=n-i/\i<=n/\Pv i H,⟨n,by simp,cP _,h0⟩,?_⟩;rintro i m H ⟨rfl,hi,p⟩;by_cases cg:i<n
 ·refine .inr ⟨cg,Pv (i+1),λ H' p'=>⟨n-(i+1),by lia,rfl,cg,p'⟩,λ x H' y=>?_⟩;obtain⟨e,y⟩:=y;subst e y;exact hs i _ cg p
 ·have e:i=n:=by lia
  subst e;exact .inl ⟨aQ _,hd H p⟩
def aaM{K:W.Frag}{a:Addr}{xs:List V}{g:TG}{tt:TT}{te:TE}{vs:List Nat}{σ:St}{H1:Hp}{D:Addr}{Qd:Hp->Prop}(Pv:Nat->Hp->Prop)(h0:Pv 0 (upd H1 D (.lst [])))(hl: ∀i H,i<=xs.length->Pv i H->ah K H a xs)
  (hs: ∀i x H,xs[i]?=some x->Pv i H->g x (wipe σ vs) H λ σ2 H2=>wipe σ2 vs=wipe σ vs/\tt σ2 H2 λ b H3=>
   if b=true then te σ2 H3 λ y H4=>∃acc,H4 D=some (.lst acc)/\acc.length<sizeLine/\Pv (i+1) (upd H4 D (.lst (acc++[y])))else Pv (i+1) H3) (hd: ∀H,Pv xs.length H->Qd H):
  ∃W:Nat->Nat->Hp->Prop,(∃m,W 0 m (upd H1 D (.lst [])))/\ ∀i m H,W i m H->
   ((jm K a).stop i H/\Qd H)\/((jm K a).go i H/\ ∃Nx:Hp->Prop,(∀H',Nx H'-> ∃m',m'<m/\W (i+1) m' H')/\ ∀x H',(jm K a).mW i H x H'->g x (wipe σ vs) H' λ σ2 H2=>wipe σ2 vs=wipe σ vs/\tt σ2 H2 λ b H3=>
    if b=true then te σ2 H3 λ y H4=>∃acc,H4 D=some (.lst acc)/\acc.length<sizeLine/\Nx (upd H4 D (.lst (acc++[y])))else Nx H3):=by
 refine⟨λ i m H=>m=xs.length-i/\i<=xs.length/\Pv i H,⟨xs.length,by simp,cP _,h0⟩,?_⟩;rintro i m H ⟨rfl,hi,p⟩;have q:=hl i H hi p;by_cases cg:i<xs.length
 ·refine .inr ⟨⟨xs,xs[i],q,by simp[cg]⟩,Pv (i+1),λ H' p'=>⟨xs.length-(i+1),by lia,rfl,cg,p'⟩,λ x H' y=>?_⟩;obtain⟨e,y⟩:=y;subst e;exact hs i x _ (y xs q) p
 ·have e:i=xs.length:=by lia
  subst e;exact .inl ⟨⟨xs,q,aQ _⟩,hd H p⟩
def acs{K:W.Frag}{a:Addr}{xs:List V}{g:TG}{tt:TT}{te:TE}{vs:List Nat}{σ:St}{H1:Hp}{D:Addr}{Qd:Hp->Prop}(Pv:Nat->Hp->Prop)(h0:Pv 0 (upd H1 D (.lst [])))(hl: ∀i H,i<=xs.length->Pv i H->aP K H a xs)
  (hs: ∀i x H,xs[i]?=some x->Pv i H->g x (wipe σ vs) H λ σ2 H2=>wipe σ2 vs=wipe σ vs/\tt σ2 H2 λ b H3=>
   if b=true then te σ2 H3 λ y H4=>∃acc,H4 D=some (.lst acc)/\acc.length<sizeLine/\Pv (i+1) (upd H4 D (.lst (acc++[y])))else Pv (i+1) H3) (hd: ∀H,Pv xs.length H->Qd H):
  ∃W:Nat->Nat->Hp->Prop,(∃m,W 0 m (upd H1 D (.lst [])))/\ ∀i m H,W i m H->
   ((qZ K a).stop i H/\Qd H)\/((qZ K a).go i H/\ ∃Nx:Hp->Prop,(∀H',Nx H'-> ∃m',m'<m/\W (i+1) m' H')/\ ∀x H',(qZ K a).mW i H x H'->g x (wipe σ vs) H' λ σ2 H2=>wipe σ2 vs=wipe σ vs/\tt σ2 H2 λ b H3=>
    if b=true then te σ2 H3 λ y H4=>∃acc,H4 D=some (.lst acc)/\acc.length<sizeLine/\Nx (upd H4 D (.lst (acc++[y])))else Nx H3):=by
 refine⟨λ i m H=>m=xs.length-i/\i<=xs.length/\Pv i H,⟨xs.length,by simp,cP _,h0⟩,?_⟩;rintro i m H ⟨rfl,hi,p⟩;have q:=hl i H hi p;by_cases cg:i<xs.length
 ·refine .inr ⟨⟨xs,xs[i],q,by simp[cg]⟩,Pv (i+1),λ H' p'=>⟨xs.length-(i+1),by lia,rfl,cg,p'⟩,λ x H' y=>?_⟩;obtain⟨e,y⟩:=y;subst e;exact hs i x _ (y xs q) p
 ·have e:i=xs.length:=by lia
  subst e;exact .inl ⟨⟨xs,q,aQ _⟩,hd H p⟩
noncomputable def Jb (N:List Str) (sc scope:Scope) (own:List (Str×Nat)):Bool:=
 (match scope.kind with| .function=>true|_=>false)&&(scope.names.all λ y=>decide (scope.names.lookup y.1=some y.2))&&(own.all λ p=>decide (N[p.2]?=some p.1))&&
  (scope.names.all λ y=>match y.2 with
   | .free=>(match sc.names.lookup y.1 with|some .cell=>true|some .free=>true|_=>false)
   | .local=>decide (y.1∈own.map (·.1))||decide (y.1∉N)
   | .cell=>decide (y.1∈own.map (·.1))||decide (y.1∉N)
   |_=>true)
def ZX(h:Jb N sc scope own=true):qk N sc scope own:=by
 unfold Jb at h;simp only[cI,uw,AI]at h;obtain⟨⟨⟨h1,h2⟩,h3⟩,h4⟩:=h;refine⟨?_,h2,h3,λ y hy e=>?_,λ y hy e=>?_⟩
 ·split at h1
  ·assumption
  ·cases h1
 ·have q:=h4 y hy;simp only[e]at q;split at q<;>first|exact .inl (by assumption)|exact .inr (by assumption)|cases q
 ·have q:=h4 y hy;rcases e with e|e<;>(simp only[e,Fb,AI]at q;exact q)
end
section
end
end L2
namespace L2
open PySem PySem.Spec PyProof.Rows
section
section
variable{κ:Type}[DecidableEq κ]
noncomputable def aE (kvs:List (κ×V)) (k:κ):Option V:=(kvs.find? λ kv=>decide (kv.1=k)).map (·.2)
noncomputable def putK (kvs:List (κ×V)) (k:κ) (v:V):List (κ×V):=
 if(kvs.any λ kv=>decide (kv.1=k))=true then kvs.map (λ kv=>if kv.1=k then(kv.1,v)else kv)else kvs++[(k,v)]
noncomputable def kF (kvs:List (κ×V)) (k:κ):List (κ×V):=kvs.filter λ kv=>decide (kv.1≠k)
def lq{p:κ×V}{r:List (κ×V)}{k:κ}(e:p.1=k):aE (p::r) k=some p.2:=by simp[aE,rm,e]
def lr{p:κ×V}{r:List (κ×V)}{k:κ}(e: ¬p.1=k):aE (p::r) k=aE r k:=by simp[aE,rm,e]
theorem mB(k:κ): ∀kvs:List (κ×V),(kvs.any λ kv=>decide (kv.1=k))=(aE kvs k).isSome
 |[]=>rfl
 |p::r=>by
  rw[E2];by_cases e:p.1=k
  ·simp only[lq e,cQ e,Bool.true_or,Option.isSome_some]
  ·rw[lr e,cH e,Bool.false_or];exact mB k r
theorem MQ(k j:κ)(y:V): ∀kvs:List (κ×V),aE (kvs.map λ kv=>if kv.1=k then(kv.1,y)else kv) j=(aE kvs j).map λ x=>if j=k then y else x
 |[]=>rfl
 |p::r=>by
  have ih:=MQ k j y r;rw[cF];by_cases h:p.1=k
  ·rw[ao h];by_cases e:p.1=j
   ·rw[lq (p:=(p.1,y)) e,lq e,Ay,ao (e.symm.trans h)]
   ·rw[lr (p:=(p.1,y)) e,lr e,ih]
  ·rw[ai h];by_cases e:p.1=j
   ·rw[lq (p:=p) e,lq e,Ay,ai (λ z=>h (e.trans z))]
   ·rw[lr (p:=p) e,lr e,ih]
theorem Mf(k j:κ)(y:V): ∀kvs:List (κ×V),aE kvs k=none->aE (kvs++[(k,y)]) j=if j=k then some y else aE kvs j
 |[],_=>by
  by_cases e:k=j
  ·rw[ao e.symm];exact lq (p:=(k,y)) e
  ·rw[ai (λ z=>e z.symm)];exact lr (p:=(k,y)) e
 |p::r,hn=>by
  rw[fU];have hk: ¬p.1=k:=λ z=>by rw[lq z]at hn;cases hn
  rw[lr hk]at hn;have ih:=Mf k j y r hn;by_cases e:p.1=j
  ·rw[lq e,lq e,ai (λ z=>hk (e.trans z))]
  ·rw[lr e,lr e,ih]
def iw(kvs:List (κ×V))(k j:κ)(y:V):aE (putK kvs k y) j=if j=k then some y else aE kvs j:=by
 unfold putK;by_cases a:(kvs.any λ kv=>decide (kv.1=k))=true
 ·rw[ao a,MQ];rw[mB]at a;by_cases e:j=k
  ·obtain⟨x,hx⟩:=Ll.mp a;rw[ao e,e,hx,Ay,ao rfl]
  ·rw[ai e];cases aE kvs j with
   |none=>rfl
   |some x=>rw[Ay,ai e]
 ·rw[ai a];refine Mf k j y kvs ?_;rw[mB]at a;cases q:aE kvs k with
  |none=>rfl
  |some x=>rw[q]at a;exact(a rfl).elim
def nW(kvs:List (κ×V))(k:κ)(v:V):(putK kvs k v).length<=kvs.length+1:=by
 unfold putK;split
 ·rw[aV];lia
 ·rw[bq,dX,List.length_nil];lia
def Nd{kvs:List (κ×V)}{k:κ}(v:V)(h:aE kvs k=none):putK kvs k v=kvs++[(k,v)]:=by unfold putK;rw[mB,h];exact ai (by decide)
theorem gm.uT(r:gm o u):o.isSome=u.isSome:=by
 cases o with
 |none=>cases u with
  |none=>rfl
  |some _=>exact(show False from r).elim
 |some _=>cases u with
  |none=>exact(show False from r).elim
  |some _=>rfl
theorem gm.getD(r:gm o u)(rd:RelV d d'):RelV (o.getD d) (u.getD d'):=by
 cases o with
 |none=>cases u with
  |none=>exact rd
  |some _=>exact(show False from r).elim
 |some _=>cases u with
  |none=>exact(show False from r).elim
  |some _=>exact r
theorem KV.val{kvs:List (κ×V)}{vs:List (κ×Value)}(r:KV kvs vs)(k:κ):gm (aE kvs k) (valueAt vs k):=by
 unfold KV at r
 induction r with
 |nil=>exact True.intro
 | @cons p q ps qs h t ih=>
  obtain⟨h1,h2⟩:=h;by_cases e:p.1=k
  ·have e':q.1=k:=h1.symm.trans e;have b:valueAt (q::qs) k=some q.2:=by simp[valueAt,rm,e']
   rw[lq e,b];exact h2
  ·have e': ¬q.1=k:=λ z=>e (h1.trans z);have b:valueAt (q::qs) k=valueAt qs k:=by simp[valueAt,rm,e']
   rw[lr e,b];exact ih
theorem KV.any(r:KV kvs vs)(k:κ):(kvs.any λ kv=>decide (kv.1=k))=vs.any λ kv=>decide (kv.1=k):=by
 unfold KV at r
 induction r with
 |nil=>rfl
 |cons h t ih=>rw[E2,E2,ih,h.1]
theorem KV.IE(r:KV kvs vs)(k:κ)(ry:RelV y u):
  KV (kvs.map λ kv=>if kv.1=k then(kv.1,y)else kv) (vs.map λ kv=>if kv.1=k then(kv.1,u)else kv):=by
 unfold KV at r⊢
 induction r with
 |nil=>exact .nil
 | @cons p q ps qs h t ih=>
  rw[cF,cF];refine .cons ?_ ih;obtain⟨h1,h2⟩:=h;by_cases e:p.1=k
  ·rw[ao e,ao (h1.symm.trans e)];exact⟨h1,ry⟩
  ·rw[ai e,ai (λ z=>e (h1.trans z))];exact⟨h1,h2⟩
def KV.put(r:KV kvs vs)(k:κ)(ry:RelV y u):KV (putK kvs k y) (stored vs k u):=by
 unfold putK stored;rw[r.any k];by_cases e:(vs.any λ kv=>decide (kv.1=k))=true
 ·rw[ao e,ao e];exact r.IE k ry
 ·rw[ai e,ai e];exact eY r ⟨rfl,ry⟩
theorem KV.length(r:KV kvs vs):kvs.length=vs.length:=bw r
end
theorem mR(r:RelV (kV k) u):(eN P w).is k u=true:=by
 cases k with
 |inl i=>obtain⟨t,e⟩:=(show∃t,u=Value.int i t from r);subst e;exact Xs P w i t
 |inr x=>obtain⟨t,e⟩:=(show∃t,u=Value.str x t from r);subst e;exact Xq P w x t
theorem Mw: ∀{ks:List Key}{us:List Value},Vals (ks.map kV) us->ItemsAre (eN P w) ks us
 |[],_,r=>by rw[uj]at r;cases r;exact .nil
 |k::ks,_,r=>by
  rw[cF]at r;cases r with
  |cons h t=>exact .cons (mR h) (Mw t)
abbrev KT(H:Hp):List (List Key×V)->List (List Key×Addr×Value)->Prop:=Paired λ p q=>p.1=q.1/\H q.2.1=some (.tup (p.1.map kV))/\RelV p.2 q.2.2
theorem KT.val{H:Hp}{kvs:List (List Key×V)}{xs:List (List Key×Addr×Value)}(r:KT H kvs xs)(k:List Key):gm (aE kvs k) ((atKey xs k).map (·.2)):=by
 induction r with
 |nil=>exact True.intro
 | @cons p q ps qs h t ih=>
  obtain⟨h1,_,h2⟩:=h;by_cases e:p.1=k
  ·have e':q.1=k:=h1.symm.trans e;have b:atKey (q::qs) k=some q.2:=by simp[atKey,rm,e']
   rw[lq e,b];exact h2
  ·have e': ¬q.1=k:=λ z=>e (h1.trans z);have b:atKey (q::qs) k=atKey qs k:=by simp[atKey,rm,e']
   rw[lr e,b];exact ih
theorem KT.IE(r:KT H kvs xs)(k:List Key)(ry:RelV y u):
  KT H (kvs.map λ kv=>if kv.1=k then(kv.1,y)else kv) (xs.map (putAt k u)):=by
 induction r with
 |nil=>exact .nil
 | @cons p q ps qs h t ih=>
  rw[cF,cF];refine .cons ?_ ih;obtain⟨h1,h2,h3⟩:=h;unfold putAt;by_cases e:p.1=k
  ·rw[ao e,ao (h1.symm.trans e)];exact⟨h1,h2,ry⟩
  ·rw[ai e,ai (λ z=>e (h1.trans z))];exact⟨h1,h2,h3⟩
def KT.put(r:KT H kvs xs)(k:List Key)(hb:H b=some (.tup (k.map kV)))(ry:RelV y u):
  KT H (putK kvs k y) (storedH xs k b u):=by
 have e:(kvs.any λ kv=>decide (kv.1=k))=(atKey xs k).isSome:=by rw[mB,(r.val k).uT,Fi]
 unfold putK storedH;rw[e];by_cases q:(atKey xs k).isSome=true
 ·rw[ao q,ao q];exact r.IE k ry
 ·rw[ai q,ai q];exact eY r ⟨rfl,hb,ry⟩
def KT.keeps(r:KT H kvs xs)(ht: ∀b ys,H b=some (.tup ys)->H' b=some (.tup ys)):KT H' kvs xs:=
 Paired.a8 r λ _ _ z=>⟨z.1,ht _ _ z.2.1,z.2.2⟩
section
variable{P:Program}{w:World}{H:Hp}{h:Heap}{a:Addr}
def Qh(ok:cU P w H h)(e:Rd H a u):dy P w H h a u:=e.ok ok
def qf(ok:cU P w H h)(e:Rd H a (.dK kvs)):kvs.length<=sizeLine/\(a==sysModules)=false/\ ∃vs,KV kvs vs/\h.DictOf (eN P w) a vs:=
 show dy P w H h a (.dK kvs)from Qh ok e
def Co(ok:cU P w H h)(e:H a=some (.dK kvs)):kvs.length<=sizeLine/\(a==sysModules)=false/\ ∃vs,KV kvs vs/\h.DictOf (eN P w) a vs:=qf ok (.inl e)
def vg(ok:cU P w H h)(e:H a=some (.tup (ks.map kV))):(tupleKind (eN P w)).is h ks a:=by obtain⟨_,aw,r,o,h1,h2,n,h3⟩:=(show dy P w H h a (.tup (ks.map kV))from ok a _ e);exact⟨o,aw.toArray,n,h1,h2,h3,by simpa using Mw r⟩
def sv(ok:cU P w H h)(e:Rd H a (.dT kvs)):kvs.length<=sizeLine/\(a==sysModules)=false/\
  ∃xs,KT H kvs xs/\h.DictOfH (tupleKind (eN P w)) a xs:=by
 obtain⟨z,y,xs,r,o,es,ep,h1,h2,h3,h4,h5⟩:=(show dy P w H h a (.dT kvs)from Qh ok e);refine⟨z,y,xs,r,o,es,ep,h1,h2,h3,h4,λ x hx=>?_,h5⟩;have all: ∀{l:List (List Key×V)}{m:List (List Key×Addr×Value)},KT H l m-> ∀x∈m,(tupleKind (eN P w)).is h x.1 x.2.1:=by
  intro l m q
  induction q with
  |nil=>intro x hx;exact nomatch hx
  | @cons p q ps qs hq t ih=>
   intro x hx;rcases bV.mp hx with e|hx
   ·subst e;exact vg ok (by rw[<- hq.1];exact hq.2.1)
   ·exact ih x hx
 exact all r x hx
def aer(ok:cU P w H h)(e:H a=some (.dT kvs)):kvs.length<=sizeLine/\(a==sysModules)=false/\
  ∃xs,KT H kvs xs/\h.DictOfH (tupleKind (eN P w)) a xs:=sv ok (.inl e)
end
def gn(H:Hp)(a:Addr)(y:V)(r:Option V):Prop:=
 (∃kvs k,Rd H a (.dK kvs)/\y=kV k/\r=aE kvs k)\/ ∃kvs k b,Rd H a (.dT kvs)/\y= .ref b/\H b=some (.tup (k.map kV))/\r=aE kvs k
def sL(H:Hp)(a:Addr)(y v:V)(H':Hp):Prop:=
 (∃kvs k,H a=some (.dK kvs)/\y=kV k/\kvs.length<sizeLine/\H'=upd H a (.dK (putK kvs k v)))\/
 ∃kvs k b,H a=some (.dT kvs)/\y= .ref b/\H b=some (.tup (k.map kV))/\kvs.length<sizeLine/\H'=upd H a (.dT (putK kvs k v))
theorem gn.k{H:Hp}{a:Addr}{kvs:List (Key×V)}{k:Key}(e:H a=some (.dK kvs)):gn H a (kV k) (aE kvs k):= .inl ⟨kvs,k,.inl e,rfl,rfl⟩
theorem sL.k{H:Hp}{a:Addr}{kvs:List (Key×V)}{k:Key}{v:V}(e:H a=some (.dK kvs))(hl:kvs.length<sizeLine):sL H a (kV k) v (upd H a (.dK (putK kvs k v))):= .inl ⟨kvs,k,e,rfl,hl,rfl⟩
section
variable{X:Cx}{pins:List (Addr×Obj)}{σ:St}{H:Hp}{s:Shared}{a:Addr}{y v:V}{u r:Value}{o:Option V}{A:Around}{E:Value->Shared->Prop}
def Inv.big(I:Inv X pins σ H s):sysModules<s.heap.objs.size:=by have h:mainGlobals<s.heap.objs.size:=(I.mod.glob.keeps I.bk).lt;exact EY (by decide) h
def YU(hu:A.units+1<cLine)(I:Inv X pins σ H s)(g:gn H a y (some v))(ry:RelV y u)(h: ∀w' s',Inv X pins σ H s'->RelV v w'->Q w' s'):
  wpAny (model X.prog X.w) A (getItem (.ref a) u) Q E s:=by
 rcases g with⟨kvs,k,e,ey,l⟩|⟨kvs,k,b,e,ey,eb,l⟩
 ·subst ey;obtain⟨z,hd,vs,rel,dd⟩:=qf I.ax e;obtain⟨w',hw,jX⟩:=gm.some_of (v:=v) (o:=valueAt vs k) (by rw[l];exact rel.val k);exact wpAny_getItem_of (mR ry) dd.mapOf hw (h w' _ (I.tok _) jX)
 ·subst ey;cases(show u=Value.ref b from ry);obtain⟨z,hd,xs,rel,dd⟩:=sv I.ax e;obtain⟨w',hw,jX⟩:=gm.some_of (v:=v) (o:=(atKey xs k).map (·.2)) (by rw[l];exact rel.val k);obtain⟨p,hp,jf⟩:=js.mp hw;refine wpAny_getItem_heap (xh hu) (vg I.ax eb) dd hp ?_;rw[jf];exact h w' _ (I.tok _) jX
def afK(hu:A.units+1<cLine)(I:Inv X pins σ H s)(g:gn H a y o)(ry:RelV y u)(h: ∀s',Inv X pins σ H s'->Q (.bool o.isSome) s'):
  wpAny (model X.prog X.w) A (compareOp .In u (.ref a)) Q E s:=by
 rcases g with⟨kvs,k,e,ey,l⟩|⟨kvs,k,b,e,ey,eb,l⟩
 ·subst ey;obtain⟨z,hd,vs,rel,dd⟩:=qf I.ax e;refine wpAny_in_of (mR ry) hd dd.mapOf ?_;rw[<-(rel.val k).uT,<- l];exact h _ (I.tok _)
 ·subst ey;cases(show u=Value.ref b from ry);obtain⟨z,hd,xs,rel,dd⟩:=sv I.ax e;refine wpAny_in_heap (xh hu) (vg I.ax eb) hd dd ?_;have q:=(rel.val k).uT;rw[Fi]at q;rw[<- q,<- l];exact h _ (I.tok _)
def aaV(hu:A.units+1<cLine)(I:Inv X pins σ H s)(g:gn H a y o)(ry:RelV y u)(h: ∀s',Inv X pins σ H s'->Q (.bool (!o.isSome)) s'):
  wpAny (model X.prog X.w) A (compareOp .NotIn u (.ref a)) Q E s:=by
 rcases g with⟨kvs,k,e,ey,l⟩|⟨kvs,k,b,e,ey,eb,l⟩
 ·subst ey;obtain⟨z,hd,vs,rel,dd⟩:=qf I.ax e;refine wpAny_notIn_of (mR ry) hd dd.mapOf ?_;rw[<-(rel.val k).uT,<- l];exact h _ (I.tok _)
 ·subst ey;cases(show u=Value.ref b from ry);obtain⟨z,hd,xs,rel,dd⟩:=sv I.ax e;refine wpAny_notIn_heap (xh hu) (vg I.ax eb) hd dd ?_;have q:=(rel.val k).uT;rw[Fi]at q;rw[<- q,<- l];exact h _ (I.tok _)
def BQ(I:Inv X pins σ H s)(mu:qY (H a))(hs:Heap.SameBut a s.heap h')(he: ∃q,h'.get? a=some q)(new:dy X.prog X.w (upd H a ob) h' a ob):
  Inv X pins σ (upd H a ob) {s with heap:=h',toks:=t'}:=
 I.write (x:=a) (e:=a) mu (.inl rfl) (λ b q hb z=>(hs.2 b hb).trans z) he new
def HP(z:kvs.length<=sizeLine)(hd:(a==sysModules)=false)(rel:KV kvs vs)(dd:h'.DictOf (eN P w) a vs):
  dy P w H' h' a (.dK kvs):=⟨z,hd,vs,rel,dd⟩
def YT(hu:A.units+1<cLine)(I:Inv X pins σ H s)(g:sL H a y v H')(ry:RelV y u)(rv:RelV v r)(h: ∀s',Inv X pins σ H' s'->Q () s'):
  wpAny (model X.prog X.w) A (setItem (.ref a) u r) Q E s:=by
 rcases g with⟨kvs,k,e,ey,l,eH⟩|⟨kvs,k,b,e,ey,eb,l,eH⟩
 ·subst ey eH;obtain⟨z,hd,vs,rel,dd⟩:=Co I.ax e;have hz:vs.length<=sizeLine:=by rw[<- rel.length];exact z
  have hl:(putK kvs k v).length<=sizeLine:=by have:=nW kvs k v;lia
  refine wpAny_setItem_pairs (hsz:=hz) (mR ry) dd λ h' nB hs=>h _ ?_;have he: ∃q,h'.get? a=some q:=let⟨q,_,_,hq,_⟩:=nB;⟨q,hq⟩;exact BQ I (by rw[e];exact True.intro) hs he (HP hl hd (rel.put k rv) nB)
 ·subst ey eH;cases(show u=Value.ref b from ry);obtain⟨z,hd,xs,rel,dd⟩:=aer I.ax e;have hz:xs.length<=sizeLine:=by rw[<- bw rel];exact z
  have hl:(putK kvs k v).length<=sizeLine:=by have:=nW kvs k v;lia
  refine wpAny_setItem_heap (hsz:=hz) (xh hu) (vg I.ax eb) dd λ h' nB hs=>h _ ?_;obtain⟨q,es,ep,hq,h2,h3,h4,_,h5⟩:=nB;refine BQ I (by rw[e];exact True.intro) hs ⟨q,hq⟩ ⟨hl,hd,_,(rel.put k eb rv).keeps λ c ys ec=>?_,q,es,ep,hq,h2,h3,h4,h5⟩;rw[bb (aea ec e (λ z=>nomatch z))];exact ec
end
section
variable{X:Cx}{pins:List (Addr×Obj)}{σ:St}{H:Hp}{s:Shared}{a:Addr}{kvs:List (Key×V)}{k:Key}{u:Value}{A:Around}{E:Value->Shared->Prop}
def aes(I:Inv X pins σ H s)(e:Rd H a (.dK kvs))(h: ∀t s',Inv X pins σ H s'->Q (.int kvs.length t) s'):wpAny (model X.prog X.w) A (call (.builtin "len") [.ref a]) Q E s:=by obtain⟨z,hd,vs,rel,dd⟩:=qf I.ax e;refine call_len_dict hd dd (by rw[<- rel.length];rw[aL]at z;lia) ?_;rw[<- rel.length];exact h _ _ (I.tok _)
end
def Jh(i:Expr):Prop:=∀ov iv,subscripted i false ov iv=operate [ov,iv] (getItem ov iv)
def NW{prog:Program}{w:World}{A:Around}{E:Value->Shared->Prop}{s:Shared}{env:Env}{value slice:Expr}{pos:Pos}{T id:String}{Q:Value->Shared->Prop}
  (hl:typeLookup (.type T) "__getitem__" =pure (some (.builtin id)))(hs:Jh slice)
  (h:wpAny (model prog w) A (eval value env) (λ o s₁=>wpAny (model prog w) A (eval slice env) (λ i s₂=>s₂.TypeIs o T/\wpAny (model prog w) A (getItem o i) Q E s₂) E s₁) E s):
  wpAny (model prog w) A (eval (.Subscript value slice pos) env) Q E s:=by
 refine Subscript_ (iq h (λ o s₁ h₁=>iq h₁ (λ i s₂ h₂=>?_) λ _ _ x=>x) λ _ _ x=>x);obtain⟨hT,h₂⟩:=h₂;unfold subscriptTail;refine aA ?_;rw[getitemInPython_of_ne hT.not_modules];refine aA (wpAny_specialOf hT hl ?_);have fin:wpAny (model prog w) A (subscripted slice false o i) (λ r s₃=>wpAny (model prog w) A (letTemporaryGo value o r>>=λ _=>pure r) Q E s₃) E s₂:=by rw[hs o i];exact wpAny_operating (iq h₂ (λ r s₃ h₃=>aA (wpAny_letTemporaryGo (bc h₃))) λ _ _ x=>x)
 first
  |exact bc (aA fin)
  |exact aA (bc (aA fin))
  |exact aA fin
def Xt(I:Inv X pins σ H s)(g:gn H a y o):s.TypeIs (.ref a) "dict":=by
 rcases g with⟨kvs,k,e,_,_⟩|⟨kvs,k,b,e,_,_,_⟩
 ·obtain⟨_,_,vs,_,dd⟩:=qf I.ax e;exact dd.typeIs
 ·obtain⟨_,_,xs,_,dd⟩:=sv I.ax e;exact dd.typeIs
def P2(td ty:TE):TE:=λ σ H Q=>td σ H λ x H1=>ty σ H1 λ y H2=>∃a v,x= .ref a/\gn H2 a y (some v)/\Q v H2
def Ru(ty td:TE):TE:=λ σ H Q=>ty σ H λ y H1=>td σ H1 λ x H2=>∃a o,x= .ref a/\gn H2 a y o/\Q (.bl o.isSome) H2
def NS(ty td:TE):TE:=λ σ H Q=>ty σ H λ y H1=>td σ H1 λ x H2=>∃a o,x= .ref a/\gn H2 a y o/\Q (.bl (!o.isSome)) H2
def yh(td ty tv:TE):TS:=λ D σ H=>tv σ H λ v H1=>td σ H1 λ x H2=>ty σ H2 λ y H3=>∃a H4,x= .ref a/\sL H3 a y v H4/\D.nx σ H4
section
variable{X:Cx}{o i e value:Expr}{pos pos' vy:Pos}{td ty tv:TE}
def gk(hu:X.A.units+1<cLine)(ho:PE X o td)(hi:PE X i ty)(hs:Jh i):PE X (.Subscript o i pos) (P2 td ty):=by intro pins s σ H Q I h;refine NW F.slot_dict_getitem.lookup hs (aF (ho pins s σ H _ I h) λ u s1 z_=>z_.e λ x H1 I1 rx q1=>aF (hi pins s1 σ H1 _ I1 q1) λ iv s2 z_=>z_.e λ y H2 I2 ry z_=>?_);obtain⟨a,v,ex,g,q2⟩:=z_;subst ex;obtain rfl:u=Value.ref a:=rx;exact⟨Xt I2 g,YU hu I2 g ry λ w' s3 I3 jX=>⟨v,H2,I3,jX,q2⟩⟩
def acg(hu:X.A.units+1<cLine)(hi:PE X i ty)(ho:PE X o td):PC X .In i o (Ru ty td):=by intro pins s σ H Q I h;refine aF (hi pins s σ H _ I h) λ iv s1 z_=>z_.e λ y H1 I1 ry q1=>aF (ho pins s1 σ H1 _ I1 q1) λ u s2 z_=>z_.e λ x H2 I2 rx z_=>?_;obtain⟨a,ov,ex,g,q2⟩:=z_;subst ex;obtain rfl:u=Value.ref a:=rx;exact afK hu I2 g ry λ s3 I3=>⟨.bl ov.isSome,H2,I3,rfl,q2⟩
def Yy(hu:X.A.units+1<cLine)(hi:PE X i ty)(ho:PE X o td):PC X .NotIn i o (NS ty td):=by intro pins s σ H Q I h;refine aF (hi pins s σ H _ I h) λ iv s1 z_=>z_.e λ y H1 I1 ry q1=>aF (ho pins s1 σ H1 _ I1 q1) λ u s2 z_=>z_.e λ x H2 I2 rx z_=>?_;obtain⟨a,ov,ex,g,q2⟩:=z_;subst ex;obtain rfl:u=Value.ref a:=rx;exact aaV hu I2 g ry λ s3 I3=>⟨.bl (!ov.isSome),H2,I3,rfl,q2⟩
def uZ(hu:X.A.units+1<cLine)(ho:PE X o td)(hi:PE X i ty)(hv:PE X value tv)(hs:swapsWith value (some (.Subscript o i pos')) pos.line X.env=pure false):
  PS X (.Assign [.Subscript o i pos'] value pos) (yh td ty tv):=by
 intro pins s σ H D I h;refine wpAny_Assign_Subscript (aF (hv pins s σ H _ I h) λ r s1 z_=>z_.e λ v H1 I1 rv q1=>aF (ho pins s1 σ H1 _ I1 q1) λ u s2 z_=>z_.e λ x H2 I2 rx q2=>aF (hi pins s2 σ H2 _ I2 q2) λ iv s3 z_=>z_.e λ y H3 I3 ry z_=>?_) hs;obtain⟨a,H4,ex,g,q3⟩:=z_;subst ex;obtain rfl:u=Value.ref a:=rx;exact YT hu I3 g ry rv λ s4 I4=>⟨σ,H4,I4,q3⟩
end
def NB(h:Heap)(hb:sysModules<h.objs.size):dy P w H (h.push {cls:= .type "dict",data:= .dict #[]}) h.objs.size (.dK []):=
 ⟨cP _,xi.mpr (mq (ek hb)),[],.nil,Heap.DictOf.new h⟩
def OX:TE:=λ _ H Q=>∀p,H p=none->Q (.ref p) (upd H p (.dK []))
section
variable{X:Cx}{pos:Pos}
def pL:PE X (.Dict [] [] pos) OX:=λ pins s σ H Q I h=>
 wpAny_Dict_empty ⟨.ref s.heap.objs.size,_,I.laid (a:=s.heap.objs.size) (o:= .dK []) (t':=s.toks) (λ _ _ q=>cp _ q) (aQ _) (NB s.heap I.big),rfl,h _ (I.ax.fresh (aQ _))⟩
end
def Hr:List (TE×TE)->St->Hp->(List (V×V)->Hp->Prop)->Prop
 |[],_,H,Q=>Q [] H
 |(tk,tv)::r,σ,H,Q=>tk σ H λ x H1=>tv σ H1 λ y H2=>Hr r σ H2 λ ps H3=>Q ((x,y)::ps) H3
abbrev VV:List (V×V)->List (Value×Value)->Prop:=Paired λ p q=>RelV p.1 q.1/\RelV p.2 q.2
def Ab(X:Cx)(pos:Pos)(keys:List (Option Expr))(values:List Expr)(sO:List (TE×TE)):Prop:=
 ∀(pins:List (Addr×Obj))(s:Shared)(σ:St)(H:Hp)(Q:List (V×V)->Hp->Prop),Inv X pins σ H s->Hr sO σ H Q->
  wpAny (model X.prog X.w) X.A (evalPairs (pairTrees keys values X.env pos)) (λ vs s'=>∃ps H',Inv X pins σ H' s'/\VV ps vs/\Q ps H') X.xe s
def aat:Ab X pos [] [] []:=λ pins s σ H Q I h=>pairTrees_nil_walk ⟨[],H,I,.nil,h⟩
def Zr(hk:PE X k tk)(hv:PE X v tv)(hr:Ab X pos ks vs sO):
  Ab X pos (some k::ks) (v::vs) ((tk,tv)::sO):=λ pins s σ H Q I h=>
 pairTrees_cons_walk (aF (hk pins s σ H _ I h) λ u s1 z_=>z_.e λ x H1 I1 rx q1=>aF (hv pins s1 σ H1 _ I1 q1) λ w2 s2 z_=>z_.e λ y H2 I2 ry q2=>
  aF (hr pins s2 σ H2 _ I2 q2) λ ws s3 ⟨ps,H3,I3,rel,q3⟩=>⟨(x,y)::ps,H3,I3,.cons ⟨rx,ry⟩ rel,q3⟩)
noncomputable def xY (kvs more:List (Key×V)):List (Key×V):=more.foldl (λ acc kv=>putK acc kv.1 kv.2) kvs
theorem KV.merge: ∀{more:List (Key×V)}{rs:List (Key×Value)}{kvs:List (Key×V)}{vs:List (Key×Value)},KV more rs->KV kvs vs->KV (xY kvs more) (merged vs rs):=by
 intro more rs kvs vs r;unfold KV at r
 induction r generalizing kvs vs with
 |nil=>intro q;exact q
 | @cons p q ps qs h t ih=>
  intro r0;have e:KV (putK kvs p.1 p.2) (stored vs q.1 q.2):=by have:=r0.put p.1 h.2;rw[<- h.1];exact this
  exact ih e
theorem K5: ∀(more kvs:List (Key×V)),(xY kvs more).length<=kvs.length+more.length
 |[],kvs=>by show kvs.length<=kvs.length+0;lia
 |p::r,kvs=>by have h1:=K5 r (putK kvs p.1 p.2);have h2:=nW kvs p.1 p.2;show(xY (putK kvs p.1 p.2) r).length<=_;rw[dX];lia
theorem L8: ∀{kvs:List (Key×V)}{ws:List (Value×Value)},VV (kvs.map λ kv=>(kV kv.1,kv.2)) ws-> ∃rs,Carries (eN P w) ws rs/\KV kvs rs
 |[],_,r=>by rw[uj]at r;cases r;exact⟨[],True.intro,.nil⟩
 |p::kvs,_,r=>by
  rw[cF]at r;cases r with
  | @cons a b as bs h t=>
   obtain⟨rs,c,q⟩:=L8 (P:=P) (w:=w) t;obtain⟨b1,b2⟩:=b;exact⟨(p.1,b2)::rs,⟨mR h.1,rfl,c⟩,.cons ⟨rfl,h.2⟩ q⟩
def P1(sO:List (TE×TE)):TE:=λ σ H Q=>∀p,H p=none->Hr sO σ (upd H p (.dK [])) λ ps H2=>H2 p=some (.dK [])/\ ∃kvs:List (Key×V),ps=kvs.map (λ kv=>(kV kv.1,kv.2))/\kvs.length<=15/\Q (.ref p) (upd H2 p (.dK (xY [] kvs)))
def aaz(h:Ab X pos keys values sO)(jz:keys.all (·.isSome)=true)(hl:keys.length=values.length)(h0:keys≠ [])
  (h15:keys.length<=15):PE X (.Dict keys values pos) (P1 sO):=by
 intro pins s σ H Q I q;have hn:=I.ax.fresh (aQ s.heap.objs.size);have I1:=I.laid (a:=s.heap.objs.size) (o:= .dK []) (h':=s.heap.push {cls:= .type "dict",data:= .dict #[]}) (t':=s.toks) (λ _ _ q=>cp _ q) (aQ _) (NB s.heap I.big);refine wpAny_Dict_walk (knd:=eN X.prog X.w) jz hl h0 h15 (aF (h pins _ σ _ _ I1 (q _ hn)) λ ws s2 ⟨ps,H2,I2,rel,e,kvs,ep,lk,q2⟩=>?_);subst ep;obtain⟨rs,c,rk⟩:=L8 (P:=X.prog) (w:=X.w) rel;obtain⟨z,hd,vs0,r0,dd⟩:=Co I2.ax e;cases r0;refine⟨rs,c,dd,λ h' nB hs=>⟨.ref s.heap.objs.size,_,?_,rfl,q2⟩⟩;have hz:(xY [] kvs).length<=sizeLine:=by have h1:=K5 kvs [];rw[List.length_nil]at h1;rw[aL];lia
 have he: ∃q,h'.get? s.heap.objs.size=some q:=let⟨q,_,_,hq,_⟩:=nB;⟨q,hq⟩;exact BQ I2 (by rw[e];exact True.intro) hs he (HP hz hd (rk.merge .nil) nB)
structure M2(X:Cx)(o:Expr)(m:Str)(apos:Pos)(e f:Expr)(d_:Pos):Prop where
 base:attributeBase o m X.env (eval o X.env)=eval o X.env
 UI:((backTo d_ (starEach [e,f] X.env)).all (λ x=> !x.1)&&(backToKw d_ (keywordEach [] X.env)).all (λ x=>x.1.isSome)
  &&decide (([e,f]:List Expr).length+([]:List Keyword).length+(if([]:List Keyword).isEmpty then 0 else 1)<30))=true
 line:(apos.endLine==d_.line)=true
 trees:backTo d_ (starEach [e,f] X.env)=[(false,eval e X.env),(false,eval f X.env)]
def D6(H:Hp)(a:Addr):Prop:=(∃kvs,Rd H a (.dK kvs))\/ ∃kvs,Rd H a (.dT kvs)
def Pm(I:Inv X pins σ H s)(d:D6 H a):
  s.TypeIs (.ref a) "dict" /\(∀b,Value.ref a= .ref b-> ∃ob,s.heap.get? b=some ob/\ob.dict=none)/\(a==sysModules)=false:=by
 rcases d with⟨kvs,e⟩|⟨kvs,e⟩
 ·obtain⟨_,hd,vs,_,dd⟩:=qf I.ax e;refine⟨dd.typeIs,λ b q=>?_,hd⟩;cases q;obtain⟨ob,_,_,h1,h2,_⟩:=dd;exact⟨ob,h1,h2.2.1⟩
 ·obtain⟨_,hd,xs,_,dd⟩:=sv I.ax e;refine⟨dd.typeIs,λ b q=>?_,hd⟩;cases q;obtain⟨ob,_,_,h1,h2,_⟩:=dd;exact⟨ob,h1,h2.2.1⟩
section
variable{X:Cx}{pins:List (Addr×Obj)}{σ:St}{H:Hp}{s:Shared}{a:Addr}{y d:V}{u r:Value}{o:Option V}{A:Around}{E:Value->Shared->Prop}
def acP(hu:A.units+1<cLine)(I:Inv X pins σ H s)(g:gn H a y o)(ry:RelV y u)(rd:RelV d r)(h: ∀w' s',Inv X pins σ H s'->RelV (o.getD d) w'->Q w' s'):
  wpAny (model X.prog X.w) A (call (.builtin "dict.get") [.ref a,u,r]) Q E s:=by
 rcases g with⟨kvs,k,e,ey,l⟩|⟨kvs,k,b,e,ey,eb,l⟩
 ·subst ey;obtain⟨z,hd,vs,rel,dd⟩:=qf I.ax e;refine call_meetsIn E_ dd.typeIs F.entry_dict_get (F.args_dict_get_3 _ _ _) (meets_dict_get_default (eN X.prog X.w) a (mR ry) hd r) ⟨_,dd.mapOf,h _ _ (I.tok _) ?_⟩;rw[l];exact(rel.val k).getD rd
 ·subst ey;cases(show u=Value.ref b from ry);obtain⟨z,hd,xs,rel,dd⟩:=sv I.ax e;refine call_meetsIn E_ dd.typeIs F.entry_dict_get (F.args_dict_get_3 _ _ _) (meetsH_dict_get_default (tupleKind (eN X.prog X.w)) a b hd r) ⟨xh hu,k,xs,vg I.ax eb,dd,h _ _ (I.tok _) ?_⟩;rw[l];exact(rel.val k).getD rd
end
def OY(td ty tx:TE):TE:=λ σ H Q=>td σ H λ x H1=>∃a,x= .ref a/\D6 H1 a/\ty σ H1 λ y H2=>tx σ H2 λ z H3=>∃o,gn H3 a y o/\Q (o.getD z) H3
section
variable{X:Cx}{o e f:Expr}{apos d_:Pos}{td ty tx:TE}
def xJ(hu:X.A.units+1<cLine)(ho:PE X o td)(he:PE X e ty)(hf:PE X f tx)(m:M2 X o "get" apos e f d_):PE X (.Call (.Attribute o "get" apos) [e,f] [] d_) (OY td ty tx):=by
 intro pins s σ H Q I h;refine wpAny_Call_method m.base m.UI m.line F.plainAttrs_dict E_ F.type_dict_get (aF (ho pins s σ H _ I h) λ u s1 z_=>z_.e λ x H1 I1 rx z_=>?_);obtain⟨a,ex,d,q1⟩:=z_;subst ex;obtain rfl:u=Value.ref a:=rx;obtain⟨t1,t2,_⟩:=Pm I1 d;refine⟨t1,t2,?_⟩;rw[m.trees];refine A0 rfl (AY (uB (aF (he pins s1 σ H1 _ I1 q1) λ iv s2 z_=>z_.e λ y H2 I2 ry q2=>
  uB (aF (hf pins s2 σ H2 _ I2 q2) λ fv s3 z_=>z_.e λ z H3 I3 rz ⟨ov,g,q3⟩=>AK ?_))))
 exact acP hu I3 g ry rz λ w' s4 I4 jX=>⟨_,H3,I4,jX,q3⟩
end
end
section
end
end L2
namespace L2
open PySem PySem.Spec PyProof.Rows
section
section
variable{X:Cx}{pins:List (Addr×Obj)}{σ:St}{H:Hp}{s:Shared}{h':Heap}
def Inv.Z8{t':Nat}{ch:List Addr}(I:Inv X pins σ H s)(k: ∀b o,b∉ch->s.heap.get? b=some o->h'.get? b=some o)(hf: ∀b∈ch,hJ X pins H b):Inv X pins σ H {s with heap:=h',toks:=t'}:=by
 have qK: ∀b u,H b=some u->b∉ch:=λ b u e z=>by have q:=(hf b z).1;rw[q]at e;cases e
 refine I.step (g':=s.gens) (d':=s.drawn) (ch:=ch) (λ b hb=>⟨(hf b hb).2.2.2.1,(hf b hb).2.1,(hf b hb).2.2.2.2.1,(hf b hb).2.2.2.2.2⟩) (λ b o _ _ hc e _=>k b o hc e) (λ b o _ _ hc e _=>⟨o.slots,k b o hc e⟩)
  (λ _ _ _ _ n=>n) (λ b o hc e=>⟨o,k b o hc e⟩) (λ _ _ e=>e) (λ _ _ _ e=>e) (λ b ps e=>⟨#[],by rw[e];simp⟩) (λ m hm=>?_) (λ b u e=>?_) I.bare
 ·obtain⟨o,es,ep,ho,r⟩:=hm;exact⟨o,es,ep,k _ o (λ z=>(hf _ z).2.1 rfl) ho,r⟩
 ·refine(I.ax b u e).lL (λ c v hc q=>k c v ?_ q) (λ _ q=>q) λ _ _ q=>q;rcases hc with z|z
  ·rw[z];exact qK b u e
  ·exact qK c _ z
def Inv.Ye{t':Nat}{ch:List Addr}{T:Addr}{ob:HO}(I:Inv X pins σ H s)(k: ∀b o,b∉ch->s.heap.get? b=some o->h'.get? b=some o)(hf: ∀b∈ch,hJ X pins H b)(hT:s.heap.objs.size<=T)
  (new:dy X.prog X.w (upd H T ob) h' T ob):Inv X pins σ (upd H T ob) {s with heap:=h',toks:=t'}:=by
 have hn:H T=none:=I.ax.fresh hT;have qK: ∀b u,H b=some u->b∉ch:=λ b u e z=>by have q:=(hf b z).1;rw[q]at e;cases e
 refine I.step (g':=s.gens) (d':=s.drawn) (ch:=ch) (λ b hb=>⟨(hf b hb).2.2.2.1,(hf b hb).2.1,(hf b hb).2.2.2.2.1,(hf b hb).2.2.2.2.2⟩) (λ b o _ _ hc e _=>k b o hc e) (λ b o _ _ hc e _=>⟨o.slots,k b o hc e⟩)
  (λ b o _ e n=>?_) (λ b o hc e=>⟨o,k b o hc e⟩) (λ b xs e=>?_) (λ b o u e=>?_) (λ b ps e=>⟨#[],?_⟩) (λ m hm=>?_) (λ b u e=>?_) I.bare
 ·rw[bb (ek (dJ (cz e) hT))];exact n
 ·rw[bb (cC e hn)];exact e
 ·rw[bb (cC e hn)];exact e
 ·rw[bb (cC e hn),e];simp
 ·obtain⟨o,es,ep,ho,r⟩:=hm;exact⟨o,es,ep,k _ o (λ z=>(hf _ z).2.1 rfl) ho,r⟩
 ·by_cases hb:b=T
  ·subst hb;rw[br]at e;cases e;exact new
  ·rw[bb hb]at e;refine(I.ax b u e).lL (λ c v hc q=>k c v ?_ q) (λ c q=>by rw[bb (cC q hn)];exact q) λ c xs q=>by rw[bb (cC q hn)];exact q
   rcases hc with z|z
   ·rw[z];exact qK b u e
   ·exact qK c _ z
def Inv.lock(I:Inv X pins σ H s)(h:H d=some u)(mu:qY (some u)): ∃od,Inv X pins σ (upd H d (.bM od u)) s:=by
 have x:=I.ax d u h;have ex: ∃od,s.heap.get? d=some od:=by
  cases u with
  |lst xs=>obtain⟨_,_,_,_,e⟩:=x;exact⟨_,e⟩
  |dK kvs=>obtain⟨_,_,_,_,o,_,_,e,_⟩:=x;exact⟨o,e⟩
  |dT kvs=>obtain⟨_,_,_,_,o,_,_,e,_⟩:=x;exact⟨o,e⟩
  |set S n=>obtain⟨o,_,_,_,e,_⟩:=x;exact⟨o,e⟩
  |ins C dx fs=>obtain⟨_,_,_,e,_⟩:=x;exact⟨_,e⟩
  |ext φ=>obtain⟨_,⟨_,e⟩,_⟩:=x;exact⟨_,e⟩
  |_=>exact False.elim mu
 obtain⟨od,e⟩:=ex;have new:dy X.prog X.w (upd H d (.bM od u)) s.heap d (.bM od u):=by
  refine⟨e,x.lL (λ b v _ q=>q) (λ b q=>?_) λ b xs q=>?_⟩
  ·rw[bb (λ z=>by rw[z,h]at q;cases q;exact mu)];exact q
  ·rw[bb (λ z=>by rw[z,h]at q;cases q;exact mu)];exact q
 exact⟨od,I.write (x:=d) (e:=d) (t':=s.toks) (h':=s.heap) (by rw[h];exact mu) (.inl rfl) (λ b v _ q=>q) ⟨od,e⟩ new⟩
def Inv.Ce(I:Inv X pins σ H s)(h:H d=some u)(mu:qY (some u)): ∀o' u',X.H₀ d≠some (.bM o' u'):=λ o' u' e=>by have q:=I.base.kJ d o' u' e;rw[h]at q;cases q;exact mu
def Inv.unlock(I:Inv X pins σ H s)(h:H d=some (.bM od u))(hn: ∀o' u',X.H₀ d≠some (.bM o' u')):Inv X pins σ (upd H d u) s:=by
 have vQ: ∀b o,H b=some o->(∀o' u',o≠ .bM o' u')->b≠d:=λ b o e bH z=>by rw[z,h]at e;cases e;exact bH _ _ rfl
 have neN: ∀b,H b=none->b≠d:=λ b e z=>by rw[z,h]at e;cases e
 refine⟨I.ok,I.os,I.bare,⟨I.base.keep,I.base.slot,λ b o e n hx=>?_,I.base.there,λ b xs e=>?_,λ b o x e=>?_,λ b ps e=>?_⟩,I.loc,I.cell,?_,λ x c e=>?_,λ p hp=>?_,λ b o e=>?_,I.len⟩
 ·rw[bb (neN b (I.base.free b o e n hx))];exact I.base.free b o e n hx
 ·have q:=I.base.mT b xs e;rw[bb (vQ b _ q (λ _ _ z=>nomatch z))];exact q
 ·have q:=I.base.kJ b o x e;rw[bb (λ z=>by rw[z]at e;exact hn _ _ e)];exact q
 ·obtain⟨m,q⟩:=I.base.mU b ps e;exact⟨m,by rw[bb (vQ b _ q (λ _ _ z=>nomatch z))];exact q⟩
 ·rw[bb (neN _ I.free)];exact I.free
 ·rw[bb (neN c (I.gN x c e))];exact I.gN x c e
 ·obtain⟨e,n,r⟩:=I.pin p hp;exact⟨e,by rw[bb (neN _ n)];exact n,r⟩
 ·by_cases hb:b=d
  ·rw[hb,br]at e;cases e;rw[hb];obtain⟨_,x⟩:=I.ax d _ h;exact x.lL (λ c v _ q=>q) (λ c q=>by rw[bb (vQ c _ q (λ _ _ z=>nomatch z))];exact q) λ c xs q=>by rw[bb (vQ c _ q (λ _ _ z=>nomatch z))];exact q
  ·rw[bb hb]at e;exact(I.ax b o e).lL (λ c v _ q=>q) (λ c q=>by rw[bb (vQ c _ q (λ _ _ z=>nomatch z))];exact q) λ c xs q=>by rw[bb (vQ c _ q (λ _ _ z=>nomatch z))];exact q
end
def B7(t:TS):TS:=λ D σ H=>∃d u,H d=some u/\qY (some u)/\ ∀od,t ⟨λ σ' H'=>H' d=some (.bM od u)/\D.nx σ' (upd H' d u),λ v H'=>H' d=some (.bM od u)/\D.rt v (upd H' d u),λ σ' H'=>H' d=some (.bM od u)/\D.bk σ' (upd H' d u),λ σ' H'=>H' d=some (.bM od u)/\D.ct σ' (upd H' d u)⟩ σ (upd H d (.bM od u))
section
variable{X:Cx}
theorem aas{st:Stmt}{t:TS}(h:PS X st t):PS X st (B7 t):=by
 intro pins s σ H D I hw;obtain⟨d,u,hd,mu,hw⟩:=hw;obtain⟨od,I1⟩:=I.lock hd mu;refine aF (h pins s σ _ _ I1 (hw od)) λ f s1 q=>?_;cases f with
 |next=>obtain⟨σ',H',I2,e,q⟩:=q;exact⟨σ',_,I2.unlock e (I.Ce hd mu),q⟩
 |brk=>obtain⟨σ',H',I2,e,q⟩:=q;exact⟨σ',_,I2.unlock e (I.Ce hd mu),q⟩
 |cont=>obtain⟨σ',H',I2,e,q⟩:=q;exact⟨σ',_,I2.unlock e (I.Ce hd mu),q⟩
 |ret v=>obtain⟨x,σ',H',I2,r,e,q⟩:=q;exact⟨x,σ',_,I2.unlock e (I.Ce hd mu),r,q⟩
def HF(I:Inv X pins σ H s)(o:Obj)
  (T:Turn X.prog X.w X.K tg J [s.heap.objs.size] s.heap.objs.size tn)(st:tn 0 (s.heap.push o))(q:R J H):KL X pins σ tg R (.ref s.heap.objs.size) {s with heap:=s.heap.push o,toks:=tk}:=by
 refine⟨s.heap.objs.size,[s.heap.objs.size],tn,J,H,rfl,I.kept λ b ob e=>cp _ e,T,st,λ b hb=>?_,q⟩;have e:b=s.heap.objs.size:=by simpa using hb
 subst e;exact I.qA (aQ _) (I.ax.fresh (aQ _))
end
def Ad(lo c:Int)(n:Nat):It:=⟨λ i _=>i<n,λ i H x H'=>H'=H/\x= .int (lo+(i:Nat)*c),λ i _=>n<=i⟩
def Xi{P:Program}{w:World}{K:W.Frag}{tg:Expr}(it:Addr)(lo c:Int)(n:Nat):Turn P w K tg (Ad lo c n) [it] it (λ i h=>IsRangeIter h it (lo+(i:Nat)*c) ((n:Int)-(i:Nat)) c)where
 mem:=by simp
 obj:=λ i h st b hb=>by
  have e:b=it:=by simpa using hb
  subst e;exact⟨_,st,λ v z=>nomatch z⟩
 keep:=λ i h h' st k=>k it (by simp) _ st
 item:=by intro X hP hw hK hc i pins s σ H E I hf st hg;subst hP hw hK;obtain⟨f0,f1,f2,f3,f4,f5⟩:=hf it (by simp);have W:=Walks.range (prog:=X.prog) (w:=X.w) (I.ok.hd hc) it lo c n;refine W.item i s _ _ hg st λ v h' tk hv hV kk=>?_;obtain⟨t,rfl⟩:=hv;have I1:Inv X pins σ H {s with heap:=h',toks:=tk}:=I.turned (λ b o hb e=>kk b o (by simpa using hb) e) f0 f1 f3 f4 f5;exact⟨_,rfl,vm (s:={s with heap:=h',toks:=tk}) (n:="range_iterator") hV rfl rfl (by decide) ⟨.int (lo+(i:Nat)*c),H,I1,⟨t,rfl⟩,⟨rfl,rfl⟩,hV,λ b hb=>(hf b hb).1⟩⟩
 done:=by intro X hP hw hK hc i pins s σ H E I hf st hg;subst hP hw hK;obtain⟨f0,f1,f2,f3,f4,f5⟩:=hf it (by simp);exact wpAny_pyNext_range_end (I.ok.hd hc) st (by have:n<=i:=hg;lia) λ h' eb=>⟨rfl,I.turned (t':=s.toks) (λ b o hb e=>eb b o hb e) f0 f1 f3 f4 f5⟩
 self:=λ A i s Q E st h=>wpAny_pyIter_rangeiter st h
def UX(i j c:Int)(n:Nat):Prop:=c≠0/\c.natAbs<1073741824/\Builtin.Range.small i j c=true/\Builtin.Range.rangeSize i j c=n
def Qw(ta:TA):TI:=λ σ H R=>ta σ H λ vs H1=>∃(i j c:Int)(n:Nat),vs=[.int i,.int j,.int c]/\UX i j c n/\R (Ad i c n) H1
section
variable{X:Cx}{tg:Expr}
theorem Yx(hg:Gl X "range")(hm:X.mg "range" =none)(ha:PA X [a,b,c] ta)
  (hs:starEach [a,b,c] X.env=(false,eval a X.env)::starEach [b,c] X.env:=by rfl)(bz:(backTo pos (starEach [b,c] X.env)).any (·.1)=false:=by rfl):
  PI X tg (.Call (.Name "range" p) [a,b,c] [] pos) (Qw ta):=by
 intro pins s σ H R I h;refine Call_ (rY I hg hm boot_range (uK (aF (ha pos pins s σ H _ I h) λ us s1 z_=>z_.e λ vs H1 I1 r1 q1=>?_) hs bz));obtain⟨i,j,k,n,e,⟨c0,c1,c2,c3⟩,q⟩:=q1;subst e;cases r1 with
 |cons r rr=>
  cases rr with
  |cons r' rr=>
   cases rr with
   |cons r'' rr=>
    cases rr;obtain⟨t,rfl⟩:=r;obtain⟨t',rfl⟩:=r';obtain⟨t'',rfl⟩:=r'';refine call_range_3 c0 ?_ (.inl (Le c1));refine wpAny_pyIter_range (IsRange.new ..) c2 ?_;have I2:Inv X pins σ H1 {s1 with heap:=s1.heap.push {cls:= .type "range",data:= .fields #[.int i t,.int j t',.int k t'']}}:=I1.kept (t':=s1.toks) λ b o e=>cp _ e;refine HF (tk:=s1.toks) I2 _ (Xi _ i k n) ?_ q;have e1:i+((0:Nat):Int)*k=i:=by simp
    have e2:(n:Int)-((0:Nat):Int)=Builtin.Range.rangeSize i j k:=by rw[c3];simp
    show IsRangeIter _ _ (i+((0:Nat):Int)*k) ((n:Int)-((0:Nat):Int)) k;rw[e1,e2];exact fy _ rfl
end
section
variable{prog:Program}{w:World}{A:Around}{E:Value->Shared->Prop}{s:Shared}
def Mv(hd:(d==sysModules)=false)(ho:s.heap.get? d=some o)(hc:o.ExactDict)(R_:o.data= .dict es ep)
  (hQ:Q (.ref s.heap.objs.size) {s with heap:=s.heap.push {cls:= .type "dict_keyiterator",data:= .fields #[.ref d,.int 0 0,.int es.size 0,.int ep 0]}}):
  wpAny (model prog w) A (pyIter (.ref d)) Q E s:=by
 have hT:s.TypeIs (.ref d) "dict":=⟨o,ho,hc.1⟩;refine wpAny_pyIter_slot hT F.slot_dict_iter (w9 F.slot_dict_iter hT F.entry_dict_iter ?_ (F.args_dict_iter_1 _));unfold Builtin.«dict.__iter__»;refine aA ?_;unfold Builtin.Dict.dictSlotNone;refine aA (wpAny_notOrdered_dict hT ?_);show wpAny _ _ (pure (Value.ref d)) _ _ s;refine bc ?_;show wpAny _ _ (Builtin.Dict.showsAll d>>=_) _ _ s;unfold Builtin.Dict.showsAll;rw[ai (by rw[hd];exact dj)];refine aA (bc ?_);refine aA (Fh ho R_ ?_);refine aA (E9 ho R_ ?_);refine aA (uy (bc ⟨_,rfl,"dict_keyiterator",_,⟨_,fy _ rfl,rfl⟩,uL.lookup,?_⟩));simpa [rawInt]using hQ
def WH(hit:s.heap.IsKeyIter it d i n ep)(lY:s.heap.get? d=some od)(zS:od.data= .dict es ep)
  (hsz:es.size=n)(hx:es[i]?=some en)(hQ: ∀h',h'.IsKeyIter it d (i+1) n ep->Heap.SameBut it s.heap h'->Q (some en.key) {s with heap:=h'}):wpAny (model prog w) A (pyNext (.ref it)) Q E s:=by
 obtain⟨o,ho,hc,hd⟩:=id hit;unfold pyNext;refine aA (wpAny_attempt (FD (name:=Str.ofString "__next__") hit.typeIs uL
  (w9 uL hit.typeIs Lx ?_ (Ly _))))
 refine aA (bc ?_);refine aA ?_;refine aA ?_
 first|refine aA (A6 hit.typeIs (bc ?_))|refine aA (A3 hit.typeIs (bc ?_))
 refine aA (wpAny_fieldsOf ho hd ?_);have IS:Builtin.Dict_items.ownsTuple "dict_keyiterator" =false:=by decide
 simp only[IS,mw,jL];show wpAny _ _ (if(Value.ref d==Value.none)=true then _ else _) _ _ s;rw[ai (show¬((Value.ref d==Value.none)=true)from dj)];refine aA (bc ?_);refine aA (Fh lY zS ?_);rw[ai (by rw[hsz];simp)];refine aA (bc ?_);refine aA (E9 lY zS ?_);rw[ai (by simp)];refine bc ?_;obtain⟨aft,Kh⟩:=xx.mp hx;simp only[show¬((i:Int)<0)from by lia,jL,jr,Array.getElem?_eq_getElem aft];refine aA ?_
 first|refine aA (A6 hit.typeIs (bc ?_))|refine aA (A3 hit.typeIs (bc ?_))
 refine aA (wpAny_isOneOf_keyiter hit.typeIs ?_);show wpAny _ _ (setField (.ref it) 1 (rawInt ((i:Int)+1))>>=_) _ _ s;refine aA (Ar ho hd (by simp) ?_);have R9:(s.heap.update it (Obj.mapFields (·.setIfInBounds 1 (rawInt ((i:Int)+1))))).IsKeyIter it d (i+1) n ep:=
  ⟨_,xo _ ho (Obj.isFreed_of_fields (AN hd _)),(Obj.cls_mapFields ..).trans hc,by rw[AN hd];simp[rawInt]⟩
 refine aA (um ?_);refine aA (wpAny_isOneOf_keyiter (s:={s with heap:=s.heap.update it (Obj.mapFields (·.setIfInBounds 1 (rawInt ((i:Int)+1))))}) R9.typeIs ?_);show wpAny _ _ (pure es[i].key) _ _ _;rw[Kh];exact bc (bc ⟨_,rfl,bc (hQ _ R9 (AS ..))⟩)
def LA(hh:A.handled=none)(hit:s.heap.IsKeyIter it d i n ep)(lY:s.heap.get? d=some od)(zS:od.data= .dict es ep)
  (hsz:es.size=n)(hge:n<=i)(hQ: ∀h',Heap.ExtBut it s.heap h'->Q none {s with heap:=h'}):wpAny (model prog w) A (pyNext (.ref it)) Q E s:=by
 obtain⟨o,ho,hc,hd⟩:=id hit;unfold pyNext;refine aA (wpAny_attempt (FD (name:=Str.ofString "__next__") hit.typeIs uL
  (w9 uL hit.typeIs Lx ?_ (Ly _))))
 refine aA (bc ?_);refine aA ?_;refine aA ?_
 first|refine aA (A6 hit.typeIs (bc ?_))|refine aA (A3 hit.typeIs (bc ?_))
 refine aA (wpAny_fieldsOf ho hd ?_);have IS:Builtin.Dict_items.ownsTuple "dict_keyiterator" =false:=by decide
 simp only[IS,mw,jL];show wpAny _ _ (if(Value.ref d==Value.none)=true then _ else _) _ _ s;rw[ai (show¬((Value.ref d==Value.none)=true)from dj)];refine aA (bc ?_);refine aA (Fh lY zS ?_);rw[ai (by rw[hsz];simp)];refine aA (bc ?_);refine aA (E9 lY zS ?_);rw[ai (by simp)];refine bc ?_;have afv:es.size<=i:=by rw[hsz];exact hge
 simp only[show¬((i:Int)<0)from by lia,jL,jr,Array.getElem?_eq_none afv];refine aA ?_
 first|refine aA (A6 hit.typeIs (bc ?_))|refine aA (A3 hit.typeIs (bc ?_))
 show wpAny _ _ (setField (.ref it) 0 .none>>=_) _ _ s;refine aA (Ar ho hd (by simp) ?_);show wpAny _ _ (newExc (.type "StopIteration") []>>=_) _ _ _;refine aA ?_;simp only[newExc,newTuple];refine aA (uy ?_ (by size_fits));refine aA (m:=firstArgMember _ _) (wpAny_of_eq (a:=Value.none) (by first|rfl|(simp only[firstArgMember];rfl)) ?_);refine uy ?_ (by size_fits);simp only[raiseNew];refine aA (wpAny_handled ?_);rw[show A.in1.handled=none from hh];refine aA (bc (wpAny_throw ?_));refine aA (wpAny_isInstance (T:="StopIteration") (b:=true) ⟨_,fy _ rfl,rfl⟩ isSubtype_stop ?_);exact bc (hQ _ (((AS ..).extBut.push _).push _))
end
theorem acv{κ:Type}{kvs:List (κ×V)}{vs:List (κ×Value)}(h:KV kvs vs): ∀{i:Nat}{k:κ}{v:V},kvs[i]?=some (k,v)-> ∃u,vs[i]?=some (k,u)/\RelV v u:=by
 unfold KV at h
 induction h with
 |nil=>intro i k v e;simp at e
 | @cons a b l₁ l₂ r t ih=>
  intro i k v e;cases i with
  |zero=>
   simp only[FC,Option.some.injEq]at e;subst e;refine⟨b.2,?_,r.2⟩;simp only[FC];exact gh some (Prod.ext r.1.symm rfl)
  |succ j=>
   simp only[Lh]at e⊢;exact ih e
theorem XM{α β:Type}{G:α->β->Prop}{l₁:List α}{l₂:List β}(h:Paired G l₁ l₂): ∀{i:Nat}{a:α},l₁[i]?=some a-> ∃b,l₂[i]?=some b/\G a b:=by
 induction h with
 |nil=>intro i a e;simp at e
 | @cons a b l₁ l₂ r t ih=>
  intro i a' e;cases i with
  |zero=>
   simp only[FC,Option.some.injEq]at e;subst e;exact⟨b,rfl,r⟩
  |succ j=>
   simp only[Lh]at e⊢;exact ih e
def Zj(h:mQ k u=true):RelV (kV k) u:=by
 rcases lj h with⟨i,t,rfl,rfl⟩|⟨x,t,rfl,rfl⟩
 ·exact⟨t,rfl⟩
 ·exact⟨t,rfl⟩
section
variable{X:Cx}{pins:List (Addr×Obj)}{σ:St}{H:Hp}{s:Shared}{d:Addr}{o:Obj}
def Inv.IZ(I:Inv X pins σ H s)(h:H d=some (.bM o (.dK kvs))):
  (d==sysModules)=false/\s.heap.get? d=some o/\o.ExactDict/\ ∃(es:Array DictEntry)(ep:Nat)(vs:List (Key×Value)),o.data= .dict es ep/\es.size=kvs.length/\KV kvs vs/\s.heap.DictAt (eN X.prog X.w) d vs ep:=by
 obtain⟨hd,z,hs,vs,kv,o',es,ep,ho,hx,dR,r⟩:=I.ax d _ h;rw[hd]at ho;cases ho;refine⟨hs,hd,hx,es,ep,vs,dR,?_,kv,o,es,hd,hx,dR,r⟩;have l1:=r.2.1.length;have l2:kvs.length=vs.length:=bw kv;rw[lb]at l1
 lia
def Inv.IY{kvs:List (List Key×V)}(I:Inv X pins σ H s)(h:H d=some (.bM o (.dT kvs))):
  (d==sysModules)=false/\s.heap.get? d=some o/\o.ExactDict/\ ∃(es:Array DictEntry)(ep:Nat),o.data= .dict es ep/\es.size=kvs.length/\
   ∀(i:Nat)(k:List Key)(v:V),kvs[i]?=some (k,v)-> ∃(en:DictEntry)(q:Addr),es[i]?=some en/\en.key= .ref q/\H q=some (.tup (k.map kV)):=by
 obtain⟨hd,z,hs,xs,pr,o',es,ep,ho,hx,dR,he,_⟩:=I.ax d _ h;rw[hd]at ho;cases ho;refine⟨hs,hd,hx,es,ep,dR,?_,λ i k v e=>?_⟩
 ·have l1:es.size=xs.length:=size_of_entries he;have l2:kvs.length=xs.length:=bw pr
  lia
 ·obtain⟨b,hb,e1,e2,_⟩:=XM pr e;have q:=entry_at he i;rw[hb]at q;exact⟨_,b.2.1,q,rfl,e2⟩
end
def Ac(d:Addr)(o:Obj)(kvs:List (Key×V)):It:=
 ⟨λ i H=>H d=some (.bM o (.dK kvs))/\i<kvs.length,λ i H x H'=>H'=H/\ ∃k v,kvs[i]?=some (k,v)/\x=kV k,λ i H=>H d=some (.bM o (.dK kvs))/\kvs.length<=i⟩
def Jl(d:Addr)(o:Obj)(kvs:List (List Key×V)):It:=
 ⟨λ i H=>H d=some (.bM o (.dT kvs))/\i<kvs.length,λ i H x H'=>H'=H/\ ∃(k:List Key)(v:V)(q:Addr),kvs[i]?=some (k,v)/\x= .ref q/\H q=some (.tup (k.map kV)),λ i H=>H d=some (.bM o (.dT kvs))/\kvs.length<=i⟩
def BP{o:Obj}{es l9:Array DictEntry}{ep l_:Nat}(h:o.data= .dict es ep)(h':o.data= .dict l9 l_):l9=es/\l_=ep:=by rw[h]at h';cases h';exact⟨rfl,rfl⟩
section
variable{P:Program}{w:World}{K:W.Frag}{tg:Expr}{d:Addr}{o:Obj}{es:Array DictEntry}{ep:Nat}
def Yh{kvs:List (Key×V)}(it:Addr)(lY:o.data= .dict es ep):Turn P w K tg (Ac d o kvs) [it] it (λ i h=>h.IsKeyIter it d i kvs.length ep)where
 mem:=by simp
 obj:=λ i h st b hb=>by
  have e:b=it:=by simpa using hb
  subst e;obtain⟨oi,e,c,dd⟩:=st;exact⟨oi,e,λ v z=>by rw[dd]at z;cases z⟩
 keep:=λ i h h' st k=>st.at λ oi e=>k it (by simp) oi e
 item:=by intro X hP hw hK hc i pins s σ H E I hf st hg;subst hP hw hK;obtain⟨hd,hi⟩:=hg;obtain⟨f0,f1,f2,f3,f4,f5⟩:=hf it (by simp);obtain⟨hs,nh,hx,l9,l_,vs,dR,hsz,kv,hm⟩:=I.IZ hd;obtain⟨rfl,rfl⟩:=BP lY dR;obtain⟨⟨k,v⟩,gb⟩: ∃p,kvs[i]?=some p:=⟨kvs[i],bI hi⟩;obtain⟨u,hu,ru⟩:=acv kv gb;have hl:kvs.length=vs.length:=bw kv;rw[hl]at st;refine wpAny_pyNext_dict_item st hm hu λ key h' jS hV sb=>?_;have I1:Inv X pins σ H {s with heap:=h'}:=I.turned (t':=s.toks) (λ b ob hb e=>(sb.2 b hb).trans e) f0 f1 f3 f4 f5;obtain⟨oi,e,c,dd⟩:=id hV;refine⟨key,rfl,vm (s:={s with heap:=h'}) e c dd (by decide) ⟨kV k,H,I1,Zj (show mQ k key=true from jS),⟨rfl,k,v,gb,rfl⟩,?_,λ b hb=>(hf b hb).1⟩⟩;show h'.IsKeyIter it d (i+1) kvs.length _;rw[hl];exact hV
 done:=by intro X hP hw hK hc i pins s σ H E I hf st hg;subst hP hw hK;obtain⟨hd,hi⟩:=hg;obtain⟨f0,f1,f2,f3,f4,f5⟩:=hf it (by simp);obtain⟨hs,nh,hx,l9,l_,vs,dR,hsz,kv,hm⟩:=I.IZ hd;obtain⟨rfl,rfl⟩:=BP lY dR;exact LA (I.ok.hd hc) st nh dR hsz hi λ h' eb=>⟨rfl,I.turned (t':=s.toks) (λ b ob hb e=>eb b ob hb e) f0 f1 f3 f4 f5⟩
 self:=λ A i s Q E st h=>wpAny_pyIter_keyiter st h
def XB{kvs:List (List Key×V)}(it:Addr)(lY:o.data= .dict es ep):Turn P w K tg (Jl d o kvs) [it] it (λ i h=>h.IsKeyIter it d i kvs.length ep)where
 mem:=by simp
 obj:=λ i h st b hb=>by
  have e:b=it:=by simpa using hb
  subst e;obtain⟨oi,e,c,dd⟩:=st;exact⟨oi,e,λ v z=>by rw[dd]at z;cases z⟩
 keep:=λ i h h' st k=>st.at λ oi e=>k it (by simp) oi e
 item:=by intro X hP hw hK hc i pins s σ H E I hf st hg;subst hP hw hK;obtain⟨hd,hi⟩:=hg;obtain⟨f0,f1,f2,f3,f4,f5⟩:=hf it (by simp);obtain⟨hs,nh,hx,l9,l_,dR,hsz,ent⟩:=I.IY hd;obtain⟨rfl,rfl⟩:=BP lY dR;obtain⟨⟨k,v⟩,gb⟩: ∃p,kvs[i]?=some p:=⟨kvs[i],bI hi⟩;obtain⟨en,q,Kh,jS,hq⟩:=ent i k v gb;refine WH st nh dR hsz Kh λ h' hV sb=>?_;have I1:Inv X pins σ H {s with heap:=h'}:=I.turned (t':=s.toks) (λ b ob hb e=>(sb.2 b hb).trans e) f0 f1 f3 f4 f5;obtain⟨oi,e,c,dd⟩:=id hV;exact⟨en.key,rfl,vm (s:={s with heap:=h'}) e c dd (by decide) ⟨.ref q,H,I1,jS,⟨rfl,k,v,q,gb,rfl,hq⟩,hV,λ b hb=>(hf b hb).1⟩⟩
 done:=by intro X hP hw hK hc i pins s σ H E I hf st hg;subst hP hw hK;obtain⟨hd,hi⟩:=hg;obtain⟨f0,f1,f2,f3,f4,f5⟩:=hf it (by simp);obtain⟨hs,nh,hx,l9,l_,dR,hsz,ent⟩:=I.IY hd;obtain⟨rfl,rfl⟩:=BP lY dR;exact LA (I.ok.hd hc) st nh dR hsz hi λ h' eb=>⟨rfl,I.turned (t':=s.toks) (λ b ob hb e=>eb b ob hb e) f0 f1 f3 f4 f5⟩
 self:=λ A i s Q E st h=>by refine wpAny_pyIter_slot st.typeIs Lr (w9 Lr st.typeIs F.entry_dict_keyiterator_iter ?_ (F.args_dict_keyiterator_iter_1 _));show wpAny _ _ (ret (.ref it)) _ _ s;exact bc ⟨_,rfl,"dict_keyiterator",_,st.typeIs,uL.lookup,h⟩
end
def Qx(td:TE):TI:=λ σ H R=>td σ H λ x H1=>∃d o,x= .ref d/\((∃kvs,H1 d=some (.bM o (.dK kvs))/\R (Ac d o kvs) H1)\/ ∃kvs,H1 d=some (.bM o (.dT kvs))/\R (Jl d o kvs) H1)
section
variable{X:Cx}{tg e:Expr}{td:TE}{apos d_:Pos}
def aau(he:PE X e td):PI X tg e (Qx td):=by
 intro pins s σ H R I h;refine aF (he pins s σ H _ I h) λ u s1 z_=>z_.e λ x H1 I1 rx z_=>?_;obtain⟨d,o,ex,q⟩:=z_;subst ex;obtain rfl:u=Value.ref d:=rx;rcases q with⟨kvs,hd,q⟩|⟨kvs,hd,q⟩
 ·obtain⟨hs,nh,hx,es,ep,vs,dR,hsz,kv,hm⟩:=I1.IZ hd;refine Mv hs nh hx dR (HF (tk:=s1.toks) I1 _ (Yh _ dR) ⟨_,fy _ rfl,rfl,?_⟩ q);rw[hsz]<;>rfl
 ·obtain⟨hs,nh,hx,es,ep,dR,hsz,ent⟩:=I1.IY hd;refine Mv hs nh hx dR (HF (tk:=s1.toks) I1 _ (XB _ dR) ⟨_,fy _ rfl,rfl,?_⟩ q);rw[hsz]<;>rfl
end
def Y5:bootBuiltins "zip" =some (.type "zip"):=by decide+kernel
end
end L2
section
namespace Sz
open PySem PyProof.Rows
def ZY(hx:0<=x)(hy:0<=y):Builtin.bitOr x y=((x.toNat|||y.toNat:Nat):Int):=by
 have e:=nat_or_add_and x.toNat y.toNat;rw[bitOr_and,bitAnd_pp hx hy]
 lia
end Sz
end
section
namespace TL
open PySem PySem.Builtin PySem.Builtin.Str PySem.StrLaws
end TL
end
namespace L2
open PySem PySem.Spec PyProof.Rows
section
end
section
end
end L2
namespace U4
open PySem PySem.W PySem.Calls PyProof.Rows
theorem V6: ∀(ns:List Int)(vs:List Value),WellAll P h vs (ns.map WData.int)->IntsAre vs ns:=by
 intro ns
 induction ns with
 |nil=>
  intro vs w;rw[uj]at w;cases w;exact .nil
 |cons n ns ih=>
  intro vs w;rw[cF]at w;cases w with
  |cons a b=>
   cases a;exact .cons _ _ (ih _ b)
end U4
namespace L2
open PySem PySem.Spec PyProof.Rows
section
theorem Md: ∀{vs:List Value}{ns:List Int},IntsAre vs ns->Vals (ns.map V.int) vs
 |_,_,.nil=> .nil
 |_,_,.cons n t h=> .cons ⟨t,rfl⟩ (Md h)
def Jg(H:Hp):Prop:=∀b,H b=none\/ ∃o xs,H b=some (.bM o (.lst xs))
end
section
end
end L2
namespace L2
open PySem PySem.Spec PyProof.Rows
section
noncomputable def inClass (s:Stmt) (j:Nat):Stmt:=match s with
 | .ClassDef _ _ _ body _ _ _ _ _ _ _=>body.getD j (.Pass ⟨0,0,0,0⟩)
 |_=> .Pass ⟨0,0,0,0⟩
noncomputable def u5 (s:Stmt):Arguments:=match s with
 | .FunctionDef _ a _ _ _ _ _ _ _ _=>a
 |_=>{posonlyargs:=[],args:=[],vararg:=none,kwonlyargs:=[],kw_defaults:=[],kwarg:=none,defaults:=[]}
noncomputable def jP (s:Stmt):List Stmt:=match s with
 | .FunctionDef _ _ b _ _ _ _ _ _ _=>b
 |_=>[]
noncomputable def dN (s:Stmt):Scope:=match s with
 | .FunctionDef _ _ _ _ _ _ sc _ _ _=>sc
 |_=>{kind:= .function,names:=[],isGenerator:=false,isCoroutine:=false}
abbrev rf:kW:=λ _ _ _ _ _ _=>False
abbrev E0:XK:=λ _ _ _=>False
def H_:Passes rf X E0:=λ _ _ _ _ _ _ _ h=>h.elim
structure jJ(K:W.Frag)(x qual:Str)(st:Stmt)(f:Addr)(fd:FuncData):Prop where
 ex: ∃(oc:Value)(od:Option Addr)(kV doc pm:Value)(an:Option Addr)(bp ct:Value)(iK:Array (Option Value)),
  fd=W.fnOf x qual (u5 st) (jP st) (dN st) .none kV doc pm an bp ct/\K.lookup f=some ⟨oc,od,.func fd,iK⟩/\W.codeIn K bp qual=true
 kp:W.keepIn K (.ref f)=true
section
variable{P:Program}{w:World}{K:W.Frag}{mg:Str->Option Value}{base:Heap}
def jJ.ok{x qual:Str}{st:Stmt}{f:Addr}{fd:FuncData}{N ps:List Str}{k:Nat}{sp:Sp}(F:jJ K x qual st f fd)(S:nZ N ps (dN st))(len: ∀vs H Q E,sp vs H Q E->vs.length=ps.length)
  (jb: ∀(bp:Value)(A:Around)(outer:List Env)(s:Shared)(H:Hp)(vs:List V)(Q:VK)(E:XK),ck k (A.deeper (envOfC qual (dN st) s.heap.objs.size f bp))->sp vs H Q E->
   ∃t,eX (fj rf P w K mg base N qual (dN st) f bp A outer s H E).sX (jP st) t/\t {nx:=λ _ H'=>Q .aG H',rt:=Q} (start N vs) H):hR P w K mg base rf (k+1) f fd ps sp:=by
 obtain⟨oc,od,kV,doc,pm,an,bp,ct,iK,rfl,lk,l7⟩:=F.ex;refine QA lk l7 S len λ A outer s H vs Q E hr ie=>?_;obtain⟨t,h,q⟩:=jb bp A outer s H vs Q E hr ie;exact⟨t,h.sX,q⟩
def jJ.binds{x qual:Str}{st:Stmt}{f:Addr}{fd:FuncData}{ps:List Str}(F:jJ K x qual st f fd)
  (h: ∀(kV doc pm:Value)(an:Option Addr)(bp ct:Value)(us:List Value),us.length=ps.length->bindArgs (W.fnOf x qual (u5 st) (jP st) (dN st) .none kV doc pm an bp ct) ⟨us,[]⟩=pure (ps.zip us)):Binds K fd ps []:=by
 obtain⟨oc,od,kV,doc,pm,an,bp,ct,iK,rfl,lk,l7⟩:=F.ex;exact .all (h kV doc pm an bp ct)
def Pp{x qual:Str}{st:Stmt}{f:Addr}{oc:Value}{od an:Option Addr}{iK:Array (Option Value)}{kV doc pm bp ct:Value}(l:K.lookup f=some ⟨oc,od,.func (W.fnOf x qual (u5 st) (jP st) (dN st) .none kV doc pm an bp ct),iK⟩)
  (c:W.codeIn K bp qual=true)(k:W.keepIn K (.ref f)=true):jJ K x qual st f (W.fnOf x qual (u5 st) (jP st) (dN st) .none kV doc pm an bp ct):=⟨⟨oc,od,kV,doc,pm,an,bp,ct,iK,rfl,l,c⟩,k⟩
end
def cR(hr:ck k A):A.units+1<cLine:=nP (Nat.add_le_add_left (by decide:1<=64) _) hr.units
section
variable{X:Cx}
def pv(i:Nat)(hN:X.N[i]?=some x:=by rfl)(hv:wq X.env.scope x:=by first|exact Or.inl rfl|exact Or.inr (Or.inl rfl)|exact Or.inr (Or.inr rfl))(hd:(x==("__debug__" :Str))=false:=by decide)
  (l7:(x==("__classdict__" :Str))=false:=by decide):PE X (.Name x pos) (fH i):=acf hN hv hd l7
def Y1:eP X (.builtin "len") (λ xs H Q=>∃a kvs,xs=[V.ref a]/\H a=some (.dK kvs)/\Q (.int kvs.length) H):=by intro pins s σ H xs us Q I r h;obtain⟨a,kvs,rfl,ha,q⟩:=h;obtain⟨u,rfl,ru⟩:=vals1 r;cases ru;exact aes I (.inl ha) λ t s' I'=>⟨.int kvs.length,H,I',⟨t,rfl⟩,q⟩
end
def qz{A B:Prop}(h:B):if false=true then A else B:=by rw[ai dj];exact h
def qw{A B:Prop}(h:A):if true=true then A else B:=by rw[ao rfl];exact h
def aq(H H':Hp):Prop:=∀b o,H b=some o->H' b=some o
def aq.refl(H:Hp):aq H H:=λ _ _ h=>h
def aq.trans(a:aq H H1)(b:aq H1 H2):aq H H2:=λ c o h=>b c o (a c o h)
theorem aq.free(e:aq H H')(h:H' l=Option.none):H l=Option.none:=by
 cases q:H l with
 |none=>rfl
 |some o=>
  rw[e l o q]at h;cases h
def aq.seq{K:W.Frag}{H H':Hp}{a:Addr}{xs:List V}(e:aq H H')(h:ah K H a xs):ah K H' a xs:=by
 rcases h with(h|⟨o,h⟩)|h
 ·exact .inl (.inl (e _ _ h))
 ·exact .inl (.inr ⟨o,e _ _ h⟩)
 ·exact .inr h
section
variable{κ:Type}[DecidableEq κ]
def Y_{kvs:List (κ×V)}{k:κ}(h:aE kvs k=none): ¬k∈kvs.map (·.1):=by intro m;obtain⟨p,hp,e⟩:=bF.mp m;have q:(kvs.any λ kv=>decide (kv.1=k))=true:=uv.mpr ⟨p,hp,cQ e⟩;rw[mB,h]at q;exact absurd q (by simp)
def Z3{kvs:List (κ×V)}{k:κ}{v:V}(h:aE kvs k=some v):k∈kvs.map (·.1):=by
 have q:(kvs.any λ kv=>decide (kv.1=k))=true:=by
  rw[mB,h]
  all_goals rfl
 obtain⟨p,hp,e⟩:=uv.mp q;exact bF.mpr ⟨p,hp,dY e⟩
theorem Ox: ∀{l:List κ}{k:κ},l.Nodup-> ¬k∈l->(l++[k]).Nodup
 |[],k,_,_=>by simp
 |a::r,k,h,hk=>by
  obtain⟨h1,h2⟩:=kh.mp h;show(a::(r++[k])).Nodup;refine kh.mpr ⟨λ m=>?_,Ox h2 λ m=>hk (bV.mpr (Or.inr m))⟩;rcases bJ.mp m with q|q
  ·exact h1 q
  ·exact hk (bV.mpr (Or.inl (xg.mp q).symm))
def Oy{kvs:List (κ×V)}{k:κ}(v:V)(hn:(kvs.map (·.1)).Nodup)(h:aE kvs k=none):((putK kvs k v).map (·.1)).Nodup:=by rw[Nd v h,fw];exact Ox hn (Y_ h)
def MC{p:κ×V}{r:List (κ×V)}{k:κ}(e:p.1=k):kF (p::r) k=kF r k:=by unfold kF;rw[rD,ai (by simp[e])]
def Gs{p:κ×V}{r:List (κ×V)}{k:κ}(e: ¬p.1=k):kF (p::r) k=p::kF r k:=by unfold kF;rw[rD,ao (by simp[e])]
theorem NA: ∀{kvs:List (κ×V)}{k:κ},¬k∈kvs.map (·.1)->kF kvs k=kvs
 |[],_,_=>rfl
 |p::r,k,h=>by
  have h': ¬k∈r.map (·.1):=λ m=>by obtain⟨q,hq,e⟩:=bF.mp m;exact h (bF.mpr ⟨q,bV.mpr (Or.inr hq),e⟩)
  rw[Gs λ e=>h (bF.mpr ⟨p,bV.mpr (Or.inl rfl),e⟩),NA h']
def MD{kvs:List (κ×V)}{k:κ}{p:κ×V}(h:p∈kF kvs k):p∈kvs:=(uu.mp h).1
theorem GP: ∀{kvs:List (κ×V)}{k:κ},(kvs.map (·.1)).Nodup->((kF kvs k).map (·.1)).Nodup
 |[],_,_=>List.nodup_nil
 |p::r,k,h=>by
  have h:(p.1::r.map (·.1)).Nodup:=h;obtain⟨h1,h2⟩:=kh.mp h;by_cases e:p.1=k
  ·rw[MC e];exact GP h2
  ·rw[Gs e];show(p.1::(kF r k).map (·.1)).Nodup;refine kh.mpr ⟨λ m=>h1 ?_,GP h2⟩;obtain⟨q,hq,eq⟩:=bF.mp m;exact bF.mpr ⟨q,MD hq,eq⟩
theorem ME: ∀{kvs:List (κ×V)}{k:κ},(kvs.map (·.1)).Nodup->k∈kvs.map (·.1)->(kF kvs k).length+1=kvs.length
 |[],_,_,m=>by simp at m
 |p::r,k,h,m=>by
  have h:(p.1::r.map (·.1)).Nodup:=h;have m:k=p.1\/k∈r.map (·.1):=bV.mp m;obtain⟨h1,h2⟩:=kh.mp h;by_cases e:p.1=k
  ·subst e;rw[MC rfl,NA h1]
   all_goals rfl
  ·have m':k∈r.map (·.1):=m.resolve_left λ z=>e z.symm;have q:=ME h2 m';rw[Gs e,dX,dX]
   lia
end
def at_of{xs:List V}{z:Int}{j:Nat}{v:V}(e:z=(j:Int))(h:xs[j]?=some v):eW xs z=some v:=by rw[e];exact aa4 h
def aq.made(nx:H x=Option.none)(nd:H dx=Option.none)(k: ∀b o,(upd (upd H dx (.own x)) x (.ins C dx [])) b=some o->b≠x->H1 b=some o):aq H H1:=λ b o e=>
 k b o (by rw[bb (cC e nx),bb (cC e nd)];exact e) (cC e nx)
end
end L2
end
namespace Mx
open Aa
section
open Kg15
theorem uO: ∀l:List Nat,rising l=true↔∀(i x y:Nat),l[i]?=some x->l[i+1]?=some y->x<y
 |[]=>by
  constructor
  ·intro _ i x y h;simp at h
  ·intro _;rfl
 |[a]=>by
  constructor
  ·intro _ i x y h k;simp at k
  ·intro _;rfl
 |a::b::r=>by
  have ih:=uO (b::r);constructor
  ·intro h i x y hx hy;have h':(decide (a<b)&&rising (b::r))=true:=h;rw[cI]at h';cases i with
   |zero=>
    simp at hx hy;subst hx;subst hy;exact dY h'.1
   |succ i=>exact(ih.mp h'.2) i x y (by simpa using hx) (by simpa using hy)
  ·intro h;show(decide (a<b)&&rising (b::r))=true;rw[cI];exact⟨cQ (h 0 a b rfl rfl),ih.mpr λ i x y hx hy=>h (i+1) x y (by simpa using hx) (by simpa using hy)⟩
theorem K3: ∀l:List Nat,notFalling l=true↔∀(i x y:Nat),l[i]?=some x->l[i+1]?=some y->x<=y
 |[]=>by
  constructor
  ·intro _ i x y h;simp at h
  ·intro _;rfl
 |[a]=>by
  constructor
  ·intro _ i x y h k;simp at k
  ·intro _;rfl
 |a::b::r=>by
  have ih:=K3 (b::r);constructor
  ·intro h i x y hx hy;have h':(decide (a<=b)&&notFalling (b::r))=true:=h;rw[cI]at h';cases i with
   |zero=>
    simp at hx hy;subst hx;subst hy;exact dY h'.1
   |succ i=>exact(ih.mp h'.2) i x y (by simpa using hx) (by simpa using hy)
  ·intro h;show(decide (a<=b)&&notFalling (b::r))=true;rw[cI];exact⟨cQ (h 0 a b rfl rfl),ih.mpr λ i x y hx hy=>h (i+1) x y (by simpa using hx) (by simpa using hy)⟩
def kX:((List.range n).map f)[i]?=some x↔i<n/\f i=x:=by
 rw[fx];by_cases h:i<n
 ·rw[List.getElem?_range h];simp[h]
 ·rw[La (by simpa using Nat.le_of_not_lt h)];simp[h]
def XE:rising ((List.range n).map f)=true↔∀i,i+1<n->f i<f (i+1):=by
 rw[uO];constructor
 ·intro h i hi;exact h i _ _ (kX.mpr ⟨by exact eh ‹_›,rfl⟩) (kX.mpr ⟨hi,rfl⟩)
 ·intro h i x y hx hy;obtain⟨_,rfl⟩:=kX.mp hx;obtain⟨hi,rfl⟩:=kX.mp hy;exact h i hi
def ZH:((List.range n).map f).getLast?=some x↔0<n/\f (n-1)=x:=by
 rw[xw,kX,aV,iS];constructor
 ·intro⟨h1,h2⟩;exact⟨by lia,h2⟩
 ·intro⟨h1,h2⟩;exact⟨by lia,h2⟩
def all_range:(List.range n).all p=true↔∀k,k<n->p k=true:=by rw[uw];simp
def L1: ∀{n k:Nat},k<n->p k=true->(∀j,j<k->p j=false)->(List.range n).find? p=some k:=by intro n k hk hp hj;rw[List.find?_range_eq_some];refine⟨hp,by simpa using hk,λ j hj'=>?_⟩;rw[hj j hj'];rfl
def V7(h: ∀j,j<n->p j=false):(List.range n).find? p=none:=by rw[AM];intro x hx;rw[h x (by simpa using hx)];exact dj
noncomputable def uR (m:Bytes):Bool:=
 let n:=u16 m 6/2
 let ends:=(List.range n).map λ(k:Nat)=>u16 m (14+2*k)
 rising ends&&(ends.getLast?==some 0xFFFF&&((List.range n).all λ(k:Nat)=>decide (u16 m (16+2*n+2*k)<=u16 m (14+2*k))))
structure MN(m:Bytes):Prop where
 up: ∀i,i+1<u16 m 6/2->u16 m (14+2*i)<u16 m (14+2*(i+1))
 pos:0<u16 m 6/2
 last:u16 m (14+2*(u16 m 6/2-1))=65535
 begin: ∀k,k<u16 m 6/2->u16 m (16+2*(u16 m 6/2)+2*k)<=u16 m (14+2*k)
def wJ:uR m=true↔MN m:=by
 unfold uR;dsimp only;rw[cI,cI,XE,pw,ZH,all_range];constructor
 ·intro⟨h1,⟨h2,h3⟩,h4⟩;exact⟨h1,h2,h3,λ k hk=>dY (h4 k hk)⟩
 ·intro⟨h1,h2,h3,h4⟩;exact⟨h1,⟨h2,h3⟩,λ k hk=>cQ (h4 k hk)⟩
noncomputable def iZ (m:Bytes):Bool:=decide (16<=m.length)&&(u16 m 6%2==0&&(decide (0<u16 m 6/2)&&(decide (16+8*(u16 m 6/2)<=m.length)&&uR m)))
structure u6(m:Bytes):Prop where
 len:16<=m.length
 afH:u16 m 6%2=0
 pos:0<u16 m 6/2
 all:16+8*(u16 m 6/2)<=m.length
 st:MN m
def FY:iZ m=true↔u6 m:=by
 unfold iZ;rw[cI,cI,cI,cI,gF,gF,gF,pw,wJ];constructor
 ·intro⟨h1,h2,h3,h4,h5⟩;exact⟨h1,h2,h3,h4,h5⟩
 ·intro⟨h1,h2,h3,h4,h5⟩;exact⟨h1,h2,h3,h4,h5⟩
def ZA(m:Bytes):mapOk m=(u16 m 0==4&&(u16 m 2==m.length&&iZ m)):=by unfold mapOk iZ uR;dsimp only;cases decide (16<=m.length)<;>cases(u16 m 0==4)<;>cases(u16 m 2==m.length)<;>rfl
noncomputable def r9 (c:Bytes):Option Nat:=((List.range (u16 c 2)).find? λ(k:Nat)=>u16 c (4+8*k)==0||(u16 c (4+8*k)==3&&u16 c (6+8*k)==1)).map λ k=>u32 c (8+8*k)
noncomputable def tableOf (c:Bytes):Bytes:=match r9 c with
 |none=>[]
 |some o=>if c.length<o+4\/u16 c o≠4 then []else if c.length<o+u16 c (o+2)then []else part c o (u16 c (o+2))
noncomputable def kf (c:Bytes):Bool:= !decide (c.length<4\/u16 c 0≠0\/c.length<4+8*u16 c 2)
def Ov(h:i<n):u8 (part c o n) i=u8 c (o+i):=by unfold u8 part;rw[jt,jt,Lk h,List.getElem?_drop]
def Nm(h:i+1<n):u16 (part c o n) i=u16 c (o+i):=by unfold u16;rw[Ov (by exact eh ‹_›),Ov h];rfl
def Zw(h:o+n<=c.length):(part c o n).length=n:=by unfold part;rw[gC,jq];exact rj (Nat.le_sub_of_add_le' h)
def A8:iZ []=false:=rfl
def ZC(c:Bytes):mapOf c=if kf c=true/\iZ (tableOf c)=true then some (tableOf c)else none:=by
 unfold mapOf kf;by_cases h:c.length<4\/u16 c 0≠0\/c.length<4+8*u16 c 2
 ·rw[ao h,cQ h,ai (by simp)]
 ·rw[ai h,cH h];cases e:(List.range (u16 c 2)).find? λ(k:Nat)=>u16 c (4+8*k)==0||(u16 c (4+8*k)==3&&u16 c (6+8*k)==1)with
  |none=>
   have t:tableOf c=[]:=by unfold tableOf r9;rw[e];rfl
   rw[t,A8];simp
  |some k=>
   have t:tableOf c=if c.length<u32 c (8+8*k)+4\/u16 c (u32 c (8+8*k))≠4 then []else if c.length<u32 c (8+8*k)+u16 c (u32 c (8+8*k)+2)then []else part c (u32 c (8+8*k)) (u16 c (u32 c (8+8*k)+2)):=by unfold tableOf r9;rw[e];rfl
   dsimp only;by_cases h1:c.length<u32 c (8+8*k)+4
   ·rw[ao (Or.inl h1)]at t;rw[ao (Or.inl h1),t,A8];simp
   ·by_cases h2:c.length<u32 c (8+8*k)+u16 c (u32 c (8+8*k)+2)
    ·rw[ao h2]at t;have t':tableOf c=[]:=by rw[t];split<;>rfl
     rw[ao (Or.inr h2),t',A8];simp
    ·rw[ai (by simp_all),ZA];rw[ai h2]at t;have hl:=Zw (c:=c) (o:=u32 c (8+8*k)) (n:=u16 c (u32 c (8+8*k)+2)) (by simp_all);by_cases h16:16<=u16 c (u32 c (8+8*k)+2)
     ·have e0:u16 (part c (u32 c (8+8*k)) (u16 c (u32 c (8+8*k)+2))) 0=u16 c (u32 c (8+8*k)):=Nm (by lia);have e2:u16 (part c (u32 c (8+8*k)) (u16 c (u32 c (8+8*k)+2))) 2=u16 c (u32 c (8+8*k)+2):=Nm (by lia);rw[e0,e2,hl];by_cases h4:u16 c (u32 c (8+8*k))=4
      ·rw[ai (by simp_all)]at t;rw[t];simp[h4]
      ·rw[ao (Or.inr h4)]at t;rw[t,A8];simp[h4]
     ·have no:iZ (part c (u32 c (8+8*k)) (u16 c (u32 c (8+8*k)+2)))=false:=by
       unfold iZ;rw[hl,cH h16];rfl
      have no':iZ (tableOf c)=false:=by
       rw[t];split
       ·rfl
       ·exact no
      rw[no,no'];simp
noncomputable def numOf (m:Bytes) (c:Nat):Nat:=match(List.range (u16 m 6/2)).find? λ(k:Nat)=>decide (c<=u16 m (14+2*k))with
 |none=>0
 |some k=>if c<u16 m (16+2*(u16 m 6/2)+2*k)then 0 else if u16 m (16+6*(u16 m 6/2)+2*k)=0 then(c+u16 m (16+4*(u16 m 6/2)+2*k))%65536 else
   if m.length<16+6*(u16 m 6/2)+2*k+u16 m (16+6*(u16 m 6/2)+2*k)+2*(c-u16 m (16+2*(u16 m 6/2)+2*k))+2\/u16 m (16+6*(u16 m 6/2)+2*k+u16 m (16+6*(u16 m 6/2)+2*k)+2*(c-u16 m (16+2*(u16 m 6/2)+2*k)))=0 then 0
   else(u16 m (16+6*(u16 m 6/2)+2*k+u16 m (16+6*(u16 m 6/2)+2*k)+2*(c-u16 m (16+2*(u16 m 6/2)+2*k)))+u16 m (16+4*(u16 m 6/2)+2*k))%65536
def LY(f:Font)(c:Nat):f.glyphOf c=if 65535<c then 0 else if f.glyphs<=numOf f.map c then 0 else numOf f.map c:=by
 unfold Font.glyphOf numOf;dsimp only;by_cases h:65535<c
 ·rw[ao h,ao h]
 ·rw[ai h,ai h];generalize(List.range (u16 f.map 6/2)).find? (λ(k:Nat)=>decide (c<=u16 f.map (14+2*k)))=o;cases o with
  |none=>simp
  |some k=>rfl
end
section
open Kg15
noncomputable def lu (b:Bytes):Bool:=decide (12<=b.length/\u32 b 0=0x10000/\12+16*u16 b 4<=b.length)
noncomputable def iy (l:List (Nat×Nat×Nat)) (n:Nat):Bool:=rising (l.map λ t=>t.1)&& !l.any λ t=>decide (n<t.2.1+t.2.2)
def FL:iy l n=true↔(∀k t u,l[k]?=some t->l[k+1]?=some u->t.1<u.1)/\ ∀t∈l,t.2.1+t.2.2<=n:=by
 unfold iy;rw[cI,uO,Bool.not_eq_true',rF];constructor
 ·rintro⟨h1,h2⟩;refine⟨λ k t u ht hu=>h1 k _ _ (by rw[fx,ht];rfl) (by rw[fx,hu];rfl),λ t ht=>?_⟩;have:=h2 t ht;simp at this;trivial
 ·rintro⟨h1,h2⟩;refine⟨λ k x y hx hy=>?_,λ t ht=>?_⟩
  ·rw[fx,js]at hx hy;obtain⟨t,ht,rfl⟩:=hx;obtain⟨u,hu,rfl⟩:=hy;exact h1 k t u ht hu
  ·have:=h2 t ht;simp;trivial
theorem G_{l:List (Nat×Nat×Nat)}(h: ∀k t u,l[k]?=some t->l[k+1]?=some u->t.1<u.1): ∀(d i:Nat)(t u:Nat×Nat×Nat),l[i]?=some t->l[i+d+1]?=some u->t.1<u.1
 |0,i,t,u,ht,hu=>h i t u ht hu
 |d+1,i,t,u,ht,hu=>by have cg:=(bC.mp hu).1;have hm:l[i+d+1]?=some l[i+d+1]:=bI (by lia);have h1:=G_ h d i t _ ht hm;have h2:=h (i+d+1) _ u hm hu;exact EY ‹_› ‹_›
structure iI where
 cmap:Bytes
 glyf:Bytes
 head:Bytes
 hhea:Bytes
 hmtx:Bytes
 loca:Bytes
 maxp:Bytes
noncomputable def mM (t:Bytes):Bool:=decide (54<=t.length/\u32 t 12=0x5F0F3CF5/\16<=u16 t 18/\u16 t 18<=16384/\u16 t 50<=1)
noncomputable def mJ (t:Bytes):Bool:=decide (6<=t.length/\0<u16 t 4)
noncomputable def pK (T:iI):Bool:=decide (36<=T.hhea.length/\0<u16 T.hhea 34/\u16 T.hhea 34<=u16 T.maxp 4/\4*u16 T.hhea 34+2*(u16 T.maxp 4-u16 T.hhea 34)<=T.hmtx.length)
noncomputable def dq (T:iI):List Nat:=if u16 T.head 50=0 then(if 2*(u16 T.maxp 4+1)<=T.loca.length then(List.range (u16 T.maxp 4+1)).map λ(k:Nat)=>2*u16 T.loca (2*k)else [])
 else(if 4*(u16 T.maxp 4+1)<=T.loca.length then(List.range (u16 T.maxp 4+1)).map λ(k:Nat)=>u32 T.loca (4*k)else [])
noncomputable def placesOk (l:List Nat) (n:Nat):Bool:=decide (l≠ [])&&(notFalling l&&decide (l.getLastD 0<=n))
noncomputable def oj (c:Bytes):Bool:=kf c&&iZ (tableOf c)
noncomputable def sr (T:iI):Font:=⟨u16 T.head 18,[i16 T.head 36,i16 T.head 38,i16 T.head 40,i16 T.head 42],u16 T.maxp 4,u16 T.hhea 34,T.hmtx,dq T,T.glyf,tableOf T.cmap⟩
def aep(h:lu b=false):fontOf b= .error 1:=by have:=of_decide_eq_false h;exact ao (by lia)
def aeo(h:lu b=true)(h2:iy (directory b) b.length=false):fontOf b= .error 2:=by
 have:=dY h;refine(ai (by simp_all)).trans (ao ?_);unfold iy at h2;rw[Fy]at h2;rcases h2 with z|z
 ·exact .inl z
 ·exact .inr (by simpa using z)
def Og(h2:iy l n=true): ¬(rising (l.map λ t=>t.1)=false\/l.any (λ t=>decide (n<t.2.1+t.2.2))=true):=by
 unfold iy at h2;rw[cI]at h2;rintro(z|z)
 ·rw[h2.1]at z;cases z
 ·rw[z]at h2;cases h2.2
noncomputable def pO (b:Bytes):Option iI:=(table b "cmap").bind λ c=>(table b "glyf").bind λ g=>(table b "head").bind λ h=>(table b "hhea").bind λ i=>(table b "hmtx").bind λ j=>(table b "loca").bind λ k=>(table b "maxp").bind λ l=>some ⟨c,g,h,i,j,k,l⟩
def pT{o:Option α}{f:α->Option β}(h:o.bind f=some y): ∃a,o=some a/\f a=some y:=uJ.mp h
theorem i5{o:Option α}{f:α->Option β}(h:o.bind f=none):o=none\/ ∃a,o=some a/\f a=none:=by
 cases o with
 |none=>exact .inl rfl
 |some a=>exact .inr ⟨a,rfl,h⟩
def Gk{C:Prop}(h:pO b=some T)(k:table b "cmap" =some T.cmap->table b "glyf" =some T.glyf->table b "head" =some T.head->table b "hhea" =some T.hhea->table b "hmtx" =some T.hmtx->table b "loca" =some T.loca->table b "maxp" =some T.maxp->C):C:=by obtain⟨_,e1,h⟩:=pT h;obtain⟨_,e2,h⟩:=pT h;obtain⟨_,e3,h⟩:=pT h;obtain⟨_,e4,h⟩:=pT h;obtain⟨_,e5,h⟩:=pT h;obtain⟨_,e6,h⟩:=pT h;obtain⟨_,e7,h⟩:=pT h;cases h;exact k e1 e2 e3 e4 e5 e6 e7
def aen(h:lu b=true)(h2:iy (directory b) b.length=true)(h3:pO b=none):fontOf b= .error 3:=by
 have:=dY h;refine(ai (by simp_all)).trans ((ai (Og h2)).trans ?_)
 ·obtain e|⟨_,e1,h⟩:=i5 h3
  ·simp only[e]
  obtain e|⟨_,e2,h⟩:=i5 h
  ·simp only[e1,e]
  obtain e|⟨_,e3,h⟩:=i5 h
  ·simp only[e1,e2,e]
  obtain e|⟨_,e4,h⟩:=i5 h
  ·simp only[e1,e2,e3,e]
  obtain e|⟨_,e5,h⟩:=i5 h
  ·simp only[e1,e2,e3,e4,e]
  obtain e|⟨_,e6,h⟩:=i5 h
  ·simp only[e1,e2,e3,e4,e5,e]
  obtain e|⟨_,e7,h⟩:=i5 h
  ·simp only[e1,e2,e3,e4,e5,e6,e]
  cases h
def Cg{p q:Prop}[Decidable p] [Decidable q]{a x y:α}(h:p↔q)(e: ¬q->x=y):(if p then a else x)=if q then a else y:=by
 by_cases c:q
 ·rw[ao c,ao (h.mpr c)]
 ·rw[ai c,ai (λ z=>c (h.mp z)),e c]
def ab_{q n m k:Nat}{f:Nat->Nat}:(n<q\/notFalling ((List.range (k+1)).map f)=false\/m<((List.range (k+1)).map f).getLastD 0)↔placesOk (if q<=n then(List.range (k+1)).map f else []) m=false:=by
 unfold placesOk;rw[Fy,Fy,uI,uI,wL];by_cases h:q<=n
 ·rw[ao h];exact⟨λ z=> .inr (z.resolve_left (Nat.not_lt.mpr h)),λ z=> .inr (z.resolve_left λ z=>z (by simp))⟩
 ·rw[ai h];exact⟨λ _=> .inl (by simp),λ _=> .inl (wL.mp h)⟩
theorem ad0(h:u16 T.head 50<=1):dq T=if(if(u16 T.head 50==1)=true then 4 else 2)*(u16 T.maxp 4+1)<=T.loca.length then(List.range (u16 T.maxp 4+1)).map λ(k:Nat)=>if(u16 T.head 50==1)=true then u32 T.loca (4*k)else 2*u16 T.loca (2*k)else []:=by
 unfold dq
 match u16 T.head 50,h with
 |0,_=>rfl
 |1,_=>rfl
def ab9{M:List Nat}{q n:Nat}(h: ¬placesOk (if q<=n then M else []) m=false):(if q<=n then M else [])=M:=by
 by_cases c:q<=n
 ·exact ao c
 ·rw[ai c]at h;exact absurd rfl h
def ZO(h:lu b=true)(h2:iy (directory b) b.length=true)(h3:pO b=some T):
  fontOf b=if mM T.head=false then .error 4 else if mJ T.maxp=false then .error 5 else if pK T=false then .error 6 else if placesOk (dq T) T.glyf.length=false then .error 7 else if oj T.cmap=false then .error 8 else .ok (sr T):=by
 have:=dY h;refine(ai (by simp_all)).trans ((ai (Og h2)).trans ?_)
 ·refine Gk h3 λ e1 e2 e3 e4 e5 e6 e7=>?_;simp only[e1,e2,e3,e4,e5,e6,e7];refine Cg (by rw[mM,uI];lia) λ c1=>Cg (by rw[mJ,uI];lia) λ _=>Cg (by rw[pK,uI];lia) λ _=>?_;have l:=ad0 (dY (show mM T.head=true by simpa using c1)).2.2.2.2;refine Cg (by rw[l];exact ab_) λ c4=>?_;rw[l]at c4;rw[ZC,oj,sr,l.trans (ab9 c4)];by_cases c5:kf T.cmap=true/\iZ (tableOf T.cmap)=true
  ·rw[ao c5,c5.1,c5.2];rfl
  ·rw[ai c5,ao (AH.mpr λ z=>c5 ((cI _ _).mp z))]
def Zk{l:List (Nat×Nat×Nat)}(h: ∀k t u,l[k]?=some t->l[k+1]?=some u->t.1<u.1){i j:Nat}{t u:Nat×Nat×Nat}(ht:l[i]?=some t)(hu:l[j]?=some u)(e:t.1=u.1):i=j:=by
 apply my;intro hn;by_cases c:i<j
 ·have:=G_ h (j-i-1) i t u ht (by rw[show i+(j-i-1)+1=j by grind];exact hu)
  simp_all
 ·have:=G_ h (i-j-1) j u t hu (by rw[show j+(i-j-1)+1=i by grind];exact ht)
  simp_all
def aaD(b:Bytes)(i n:Nat):(part b i n).length<=b.length:=by unfold part;rw[gC,jq];exact bY (Nat.min_le_right ..) (Nat.sub_le ..)
def Mg(h:table b s=some t):t.length<=b.length:=by unfold table at h;rw[js]at h;obtain⟨r,_,rfl⟩:=h;exact aaD _ _ _
def Ym(h:table b s=some x): ∃(j:Nat)(t:Nat×Nat×Nat),(directory b)[j]?=some t/\t.1=tag s/\x=part b t.2.1 t.2.2:=by unfold table at h;rw[js]at h;obtain⟨t,h1,h2⟩:=h;obtain⟨j,hj⟩:=K_.mp (FH h1);exact⟨j,t,hj,by have:=E8 h1;simpa using this,h2.symm⟩
def XC(h:table b s=none): ∀t∈directory b,t.1≠tag s:=by unfold table at h;rw[AZ,AM]at h;intro t ht;simpa using h t ht
theorem Bi [DecidableEq α]: ∀(l m:List α),l.Nodup->(∀x∈l,x∈m)->l.length<=m.length
 |[],m,_,_=>cP _
 |a::l,m,nd,h=>by
  rw[kh]at nd;have h1:=Bi l (m.erase a) nd.2 λ x hx=>(List.mem_erase_of_ne λ z=>nd.1 (by rw[<- z];exact hx)).mpr (h x (gi _ hx));have h2:=List.length_erase_of_mem (h a (iT ..));have h3:=List.length_pos_of_mem (h a (iT ..));rw[dX]
  lia
def PU:tag "cmap" =0x636D6170/\tag "glyf" =0x676C7966/\tag "head" =0x68656164/\tag "hhea" =0x68686561/\tag "hmtx" =0x686D7478/\tag "loca" =0x6C6F6361/\tag "maxp" =0x6D617870:=by decide
end
section
open Kg15
noncomputable def r_ (f:Font) (k:Nat) (o:Option Outline) (p:Part):Option Outline:=o.bind λ o=>(f.outline k p.glyph).bind λ q=>
 if 4096<count (o++q.map λ c=>c.map p.move)\/far (o++q.map λ c=>c.map p.move)=true then none else some (o++q.map λ c=>c.map p.move)
noncomputable def gL (f:Font) (k:Nat) (o:Option Outline) (p:Part):Option Outline:=o.bind λ o=>(f.outline k p.glyph).bind λ q=>
 if 4096<count (o++q.map λ c=>c.map p.move)then none else some (o++q.map λ c=>c.map p.move)
def rB(f:Font)(k g:Nat):f.outline (k+1) g=if f.glyphs<=g then none else if f.data g=[]then some []else if(f.data g).length<10 then none else if 0<=i16 (f.data g) 0 then(simple (f.data g) (i16 (f.data g) 0).toNat).bind λ o=>if far o=true then none else some o
  else if i16 (f.data g) 0≠ -1 then none else(partsOf (f.data g) ((f.data g).length+1) 10).bind λ l=>l.foldl (r_ f k) (some []):=rfl
theorem Bm(f:Font)(k:Nat): ∀l:List Part,l.foldl (r_ f k) none=none
 |[]=>rfl
 |p::r=>by rw[gT];exact Bm f k r
theorem iX(f:Font)(k:Nat): ∀l:List Part,l.foldl (gL f k) none=none
 |[]=>rfl
 |p::r=>by rw[gT];exact iX f k r
def aaP(a b:Outline):far (a++b)=(far a||far b):=by unfold far;rw[List.any_append]
section
variable{f:Font}{k:Nat}{o q:Outline}{p:Part}
def Zc(h:f.outline k p.glyph=none):r_ f k (some o) p=none:=by unfold r_;rw[mr,h];rfl
def rO(h:f.outline k p.glyph=none):gL f k (some o) p=none:=by unfold gL;rw[mr,h];rfl
def Yp(h:f.outline k p.glyph=some q):r_ f k (some o) p=if 4096<count (o++q.map λ c=>c.map p.move)\/far (o++q.map λ c=>c.map p.move)=true then none else some (o++q.map λ c=>c.map p.move):=by unfold r_;rw[mr,h];rfl
def rK(h:f.outline k p.glyph=some q):gL f k (some o) p=if 4096<count (o++q.map λ c=>c.map p.move)then none else some (o++q.map λ c=>c.map p.move):=by unfold gL;rw[mr,h];rfl
end
theorem MA(f:Font)(k:Nat): ∀(l:List Part)(o:Outline),far o=true->(l.foldl (gL f k) (some o)).bind (λ o=>if far o=true then none else some o)=none
 |[],o,h=>by show(if far o=true then none else some o)=none;rw[ao h]
 |p::r,o,h=>by
  rw[gT];cases hq:f.outline k p.glyph with
  |none=>rw[rO hq,iX];rfl
  |some q=>
   rw[rK hq];split
   ·rw[iX];rfl
   ·exact MA f k r _ (by rw[aaP,h];rfl)
theorem BA(f:Font)(k:Nat): ∀(l:List Part)(o:Outline),far o=false->l.foldl (r_ f k) (some o)=(l.foldl (gL f k) (some o)).bind λ o=>if far o=true then none else some o
 |[],o,h=>by
  show some o=if far o=true then none else some o;rw[h];rfl
 |p::r,o,h=>by
  rw[gT,gT];cases hq:f.outline k p.glyph with
  |none=>rw[Zc hq,rO hq,Bm,iX];rfl
  |some q=>
   rw[Yp hq,rK hq];by_cases hc:4096<count (o++q.map λ c=>c.map p.move)
   ·rw[ao (.inl hc),ao hc,Bm,iX];rfl
   ·rw[ai hc];by_cases hf:far (o++q.map λ c=>c.map p.move)=true
    ·rw[ao (.inr hf),Bm,MA f k r _ hf]
    ·rw[ai (by intro z;exact z.elim hc hf)];exact BA f k r _ (by simpa using hf)
def Told(f:Font)(g:Nat)(o:Outline)(L:Nat):Prop:=(∀k,L<=k->f.outline k g=some o)/\ ∀k,k<L->f.outline k g=none
def Told.le(t:Told f g o L)(h:f.outline n g=some o'):L<=n/\o'=o:=by
 by_cases hl:L<=n
 ·have:=t.1 n hl;rw[h]at this;exact⟨hl,dI this⟩
 ·have:=t.2 n (by simp_all);rw[h]at this;cases this
def ym{C p:Prop}[Decidable p]{a b y:Option Outline}(h:(if p then a else b)=y)(k1:p->a=y->C)(k2:b=y->C):C:=by
 by_cases c:p
 ·rw[ao c]at h;exact k1 c h
 ·rw[ai c]at h;exact k2 h
def RF{C:Prop}{f:Font}(h:f.outline (k+1) g=some o)(e:o=[]->C)(s:simple (f.data g) (i16 (f.data g) 0).toNat=some o->far o=false->C)(q: ∀l:List Part,l.foldl (gL f k) (some [])=some o->far o=false->C):C:=by
 have key: ∀x:Option Outline,(x.bind λ o=>if far o=true then none else some o)=some o->x=some o/\far o=false:=λ x hx=>by
  rw[uJ]at hx;obtain⟨y,rfl,hy⟩:=hx;split at hy
  ·cases hy
  ·cases hy;simp_all
 have no:(none:Option Outline)=some o->C:=λ z=>nomatch z;refine ym ((rB f k g).symm.trans h) (λ _=>no) λ h=>ym h (λ _ z=>e (dI z).symm) λ h=>ym h (λ _=>no) λ h=>ym h (λ _ z=>s (key _ z).1 (key _ z).2) λ h=>ym h (λ _=>no) λ h=>?_;rw[uJ]at h;obtain⟨l,_,h⟩:=h;rw[BA f k l [] rfl]at h;exact q l (key _ h).1 (key _ h).2
theorem Ow(f:Font): ∀k g o,f.outline k g=some o->far o=false
 |0,g,o,h=>nomatch (show none=some o from h)
 |k+1,g,o,h=>RF h (λ e=>e▸rfl) (λ _ z=>z) λ _ _ z=>z
inductive j8(f:Font):List Part->Nat->Nat->Prop
 |nil (a:Nat):j8 f [] a a
 |cons {p:Part} {r:List Part} {o:Outline} {a Lp L:Nat}:Told f p.glyph o Lp->j8 f r (max a (Lp+1)) L->j8 f (p::r) a L
theorem j8.le(h:j8 f l a L):a<=L:=by
 induction h with
 |nil a=>exact aQ _
 |cons _ _ ih=>lia
theorem j8.all(h:j8 f l a L): ∀p∈l,∃o Lp,Told f p.glyph o Lp/\Lp+1<=L:=by
 induction h with
 |nil a=>intro p hp;cases hp
 |cons t r ih=>
  intro p hp;rcases bV.mp hp with rfl|hp
  ·have:=r.le;exact⟨_,_,t,by lia⟩
  ·exact ih p hp
theorem j8.some(h:j8 f l a L):L=a\/ ∃p∈l,∃o Lp,Told f p.glyph o Lp/\L=Lp+1:=by
 induction h with
 |nil a=>exact .inl rfl
 | @cons p r o a Lp L t _ ih=>
  rcases ih with e|⟨q,hq,x⟩
  ·by_cases hm:a<=Lp+1
   ·exact .inr ⟨p,.head _,o,Lp,t,by simp_all⟩
   ·exact .inl (by grind)
  ·exact .inr ⟨q,.tail _ hq,x⟩
theorem LC(f:Font)(k k':Nat): ∀(l:List Part)(o:Outline),(∀p∈l,∃q,f.outline k p.glyph=some q/\f.outline k' p.glyph=some q)->l.foldl (gL f k) (some o)=l.foldl (gL f k') (some o)
 |[],o,_=>rfl
 |p::r,o,h=>by
  obtain⟨q,h1,h2⟩:=h p (.head _);rw[gT,gT,rK h1,rK h2];split
  ·rw[iX,iX]
  ·exact LC f k k' r _ λ p hp=>h p (.tail _ hp)
theorem Hk(f:Font)(k:Nat): ∀(l:List Part)(o:Option Outline),(∃p∈l,f.outline k p.glyph=none)->l.foldl (gL f k) o=none
 |[],o,⟨_,hp,_⟩=>by cases hp
 |p::r,none,_=>by rw[iX]
 |p::r,some o,⟨x,hx,e⟩=>by
  rw[gT];rcases bV.mp hx with rfl|hx
  ·rw[rO e,iX]
  ·cases hq:f.outline k p.glyph with
   |none=>rw[rO hq,iX]
   |some q=>rw[rK hq];exact Hk f k r _ ⟨x,hx,e⟩
def ite_no [Decidable p](ha:a≠some x)(hb:b≠some x):(if p then a else b)≠some x:=by
 by_cases h:p
 ·rw[ao h];exact ha
 ·rw[ai h];exact hb
def acp{α:Type}{o:Option (List α)}{p:α}:o.map (λ l=>p::l)≠some []:=by cases o<;>simp
theorem XI{b:Bytes}: ∀(k i:Nat),partsOf b k i≠some []
 |0,i=>λ h=>nomatch (show none=some []from h)
 |k+1,i=>ite_no (by simp) (ite_no (by simp) (ite_no acp (by simp)))
def Yl(hg: ¬f.glyphs<=g)(h0:f.data g≠ [])(h1: ¬(f.data g).length<10)(h2:i16 (f.data g) 0= -1)(hp:partsOf (f.data g) ((f.data g).length+1) 10=some l)
  (hf:l.foldl (gL f n) (some [])=some o)(hL:j8 f l 1 L)(hn:L<=n+1)(iH:far o=false):Told f g o L:=by
 have un: ∀k,f.outline (k+1) g=(l.foldl (gL f k) (some [])).bind λ o=>if far o=true then none else some o:=by intro k;rw[rB,ai hg,ai h0,ai h1,ai (by simp_all),ai (by lia),hp,mr,BA f k l [] rfl]
 have bH:l≠ []:=λ z=>XI _ _ (z▸hp);have hL1:=hL.le;constructor
 ·intro k hk;obtain⟨k',rfl⟩: ∃k',k=k'+1:=⟨k-1,by lia⟩;rw[un,LC f k' n l [] λ p hp=>?_,hf,mr,iH]
  ·rfl
  ·obtain⟨q,Lp,t,hl⟩:=hL.all p hp;exact⟨q,t.1 _ (by lia),t.1 _ (by lia)⟩
 ·intro k hk;cases k with
  |zero=>rfl
  |succ k=>
   rw[un];rcases hL.some with e|⟨p,hp,q,Lp,t,e⟩
   ·simp_all
   ·rw[Hk f k l _ ⟨p,hp,t.2 k (by simp_all)⟩];rfl
def Gz(h: ∀k,f.outline (k+1) g=some o):Told f g o 1:=
 ⟨λ k hk=>by obtain⟨k',rfl⟩: ∃k',k=k'+1:=⟨k-1,by simp_all⟩;exact h k',λ k hk=>by rw[show k=0 by simp_all];rfl⟩
end
section
open Kg15
def count_cons(l:List Pt)(o:Outline):count (l::o)=l.length+count o:=by unfold count;rw[cF,kZ]
def Bo(a b:Outline):count (a++b)=count a+count b:=by unfold count;rw[fw,E7]
theorem LN: ∀es k l,rising es=true->(∀e,es.head?=some e->k<=e)->l.length=(if es=[]then 0 else es.getLastD 0+1-k)->(∀c∈contours k es l,c≠ [])/\count (contours k es l)=l.length
 |[],k,l,_,_,hl=>by
  rw[ao rfl]at hl;rw[contours,hl];exact⟨λ c hc=>(by cases hc),rfl⟩
 |e::r,k,l,hr,hk,hl=>by
  have DL:=hk e rfl;rw[ai (by simp)]at hl;have Cj:e<=(e::r).getLastD 0:=by
   rw[uO]at hr;have key: ∀(i x:Nat),(e::r)[i]?=some x->e<=x:=by
    intro i
    induction i with
    |zero=>intro x hx;simp at hx;simp_all
    |succ i ih=>
     intro x hx;have hi:i<(e::r).length:=by have:=(bC.mp hx).1;exact eh ‹_›
     have h1:=ih _ (bI hi);have h2:=hr i _ _ (bI hi) hx;exact eh (nP h1 h2)
   refine key r.length _ ?_;rw[pF,xw];simp
  have J5:rising r=true:=by
   cases r with
   |nil=>rfl
   |cons a r=>have h':(decide (e<a)&&rising (a::r))=true:=hr;rw[cI]at h';exact h'.2
  rw[contours];have hd:(l.drop (e+1-k)).length=(if r=[]then 0 else r.getLastD 0+1-(e+1)):=by
   rw[jq,hl];cases r with
   |nil=>exact EX _
   |cons a r=>exact Nat.sub_sub_sub_cancel_right (mv DL)
  have ih:=LN r (e+1) (l.drop (e+1-k)) J5 (λ a ha=>by
   cases r with
   |nil=>cases ha
   |cons b r=>
    have h':(decide (e<b)&&rising (b::r))=true:=hr;rw[cI]at h';have:=dY h'.1;simp at ha;exact Nat.lt_of_lt_of_eq ‹_› ‹_›) hd
  have hle:e+1-k<=l.length:=by rw[hl];exact Nat.sub_le_sub_right (Nat.succ_le_succ Cj) k
  have ht:(l.take (e+1-k)).length=e+1-k:=by rw[gC,rj hle]
  constructor
  ·intro c hc;rcases bV.mp hc with rfl|hc
   ·intro z;rw[z]at ht;exact ek (Nat.sub_pos_of_lt (AG DL)) ht
   ·exact ih.1 c hc
  ·rw[count_cons,ih.2,ht,jq,Nat.add_sub_cancel' hle]
def Mz(b:Bytes)(k n i:Nat):flags b (k+1) (n+1) i=if b.length<i+1 then none else
  if(u8 b i).testBit 3=true then(if b.length<i+2\/n<u8 b (i+1)then none else(flags b k (n-u8 b (i+1)) (i+2)).map λ x=>(List.replicate (u8 b (i+1)+1) (u8 b i)++x.1,x.2))
   else(flags b k n (i+1)).map λ x=>(u8 b i::x.1,x.2):=rfl
theorem BB(b:Bytes): ∀(k n i:Nat)(fl:List Nat)(j:Nat),flags b k n i=some (fl,j)->fl.length=n
 |0,n,i,fl,j,h=>nomatch (show none=some _ from h)
 |k+1,0,i,fl,j,h=>by
  cases(show some ([],i)=some (fl,j)from h);rfl
 |k+1,n+1,i,fl,j,h=>by
  rw[Mz]at h;split at h
  ·cases h
  ·split at h
   ·split at h
    ·cases h
    ·rename_i hx;rw[js]at h;obtain⟨x,h3,h4⟩:=h;cases h4;have:=BB b k _ _ _ _ h3;rw[bq,eI,this]
     grind
   ·rw[js]at h;obtain⟨x,h3,h4⟩:=h;cases h4;have:=BB b k _ _ _ _ h3;simp[this]
theorem xO(b:Bytes)(sh sa:Nat): ∀(fl:List Nat)(z:Int)(i:Nat)(zs:List Int)(j:Nat),along b sh sa fl z i=some (zs,j)->zs.length=fl.length
 |[],z,i,zs,j,h=>by
  cases(show some ([],i)=some (zs,j)from h);rfl
 |f::r,z,i,zs,j,h=>by replace h:=uJ.mp h;obtain⟨s,_,h2⟩:=h;rw[js]at h2;obtain⟨x,h3,h4⟩:=h2;cases h4;have:=xO b sh sa r _ _ _ _ h3;simp[this]
def Small(o:Outline):Prop:=(∀c∈o,c≠ [])/\count o<=4096
theorem Small.len(h:Small o):o.length<=count o:=by
 replace h:=h.1
 induction o with
 |nil=>exact aQ _
 |cons l r ih=>
  have h1:l.length≠0:=λ z=>h l (.head _) (km.mp z);have:=ih λ c hc=>h c (.tail _ hc);rw[count_cons,dX]
  lia
def WR(h:simple b n=some o):Small o:=by
 unfold simple at h;split at h
 ·cases h;exact⟨λ c hc=>(by cases hc),cP _⟩
 ·split at h
  ·cases h
  ·dsimp only at h;split at h
   ·cases h
   ·rename_i Uj _ dQ;rw[not_or,not_or]at dQ;rw[uJ]at h;obtain⟨⟨fl,j⟩,hf,h⟩:=h;rw[uJ]at h;obtain⟨⟨xs,j2⟩,hx,h⟩:=h;rw[js]at h;obtain⟨⟨ys,j3⟩,hy,h⟩:=h;have l1:=BB b _ _ _ _ _ hf;have l2:xs.length=fl.length:=xO b _ _ _ _ _ _ _ hx;have l3:ys.length=fl.length:=xO b _ _ _ _ _ _ _ hy;have bH:((List.range n).map λ(k:Nat)=>u16 b (10+2*k))≠ []:=by
     intro z;have:=gh List.length z;rw[aV,iS]at this;exact Uj this
    have q:=LN ((List.range n).map λ(k:Nat)=>u16 b (10+2*k)) 0 ((fl.zip (xs.zip ys)).map λ p=>⟨p.2.1,p.2.2,p.1.testBit 0⟩) (by simpa using dQ.1) (λ e _=>cP _) (by
     rw[ai bH,aV,rh,rh]
     simp_all)
    rw[<- h];refine⟨q.1,?_⟩;show count (contours 0 _ _)<=4096;rw[q.2,aV,rh]
    simp_all
def F_{o:Outline}{p:Part}(h:Small o):(∀c∈o.map (λ c=>c.map p.move),c≠ [])/\count (o.map λ c=>c.map p.move)=count o:=by
 constructor
 ·intro c hc;obtain⟨d,hd,rfl⟩:=bF.mp hc;intro z;exact h.1 d hd (by simpa using z)
 ·unfold count;rw[jo]
  congr 1
  apply k_;intro a _;simp
theorem LQ(f:Font)(k:Nat)(hs: ∀g o,f.outline k g=some o->Small o): ∀(l:List Part)(o r:Outline),Small o->l.foldl (gL f k) (some o)=some r->Small r
 |[],o,r,h,e=>by cases e;exact h
 |p::l,o,r,h,e=>by
  rw[gT]at e;cases hq:f.outline k p.glyph with
  |none=>rw[rO hq,iX]at e;cases e
  |some q=>
   rw[rK hq]at e;split at e
   ·rw[iX]at e;cases e
   ·rename_i hc;refine LQ f k hs l _ r ⟨λ c we=>?_,by simp_all⟩ e;rcases bJ.mp we with z|z
    ·exact h.1 c z
    ·exact(F_ (hs _ _ hq)).1 c z
theorem Ah(f:Font): ∀k g o,f.outline k g=some o->Small o
 |0,g,o,h=>nomatch (show none=some o from h)
 |k+1,g,o,h=>
  have em:Small []:=⟨λ c hc=>(by cases hc),cP _⟩
  RF h (λ e=>e▸em) (λ z _=>WR z) λ l z _=>LQ f k (Ah f k) l [] o em z
end
section
open Kg15 Kg15Neutral
def ja(h:whole32 x=true):i32 (unsigned 32 x)=x:=by
 unfold whole32 at h;simp at h;unfold i32 unsigned;by_cases c:0<=x
 ·have e:x%((2^32:Nat):Int)=x:=Int.emod_eq_of_lt c (by lia);rw[e];split<;>lia
 ·have e:x%((2^32:Nat):Int)=x+4294967296:=by lia
  rw[e];split<;>grind
def NI{n:Nat}(h:n<=1000000):whole32 (n:Int)=true:=by
 unfold whole32;simp
 lia
def L4(h:h32 r=n)(hl:lo<=n/\n<=hi):counted lo hi k r=(some ((r.drop 1).take (k*n.toNat)),r.drop (1+k*n.toNat)):=by subst h;unfold counted;dsimp only;rw[ao hl]
def Qz(h:whole32 x=true):h32 (unsigned 32 x::r)=x:=ja h
def bytesOf(r:List Int):List UInt8:=r.map λ(z:Int)=>UInt8.ofNat z.toNat
def kz(r:List Int):List Nat:=r.map Int.toNat
def ac5(s:Abs):step s (PyKg15.whole [[0]])=(none,[0]):=rfl
def ac4(h:asked1 (PyKg15.whole [[1],r])=true)(hl:r.length<=30000):step s (PyKg15.whole [[1],r])=((does s (.load (some (bytesOf r)))).1,(does s (.load (some (bytesOf r)))).2.value::(does s (.load (some (bytesOf r)))).2.out):=by
 have ee:callOf (numbers (PyKg15.whole [[1],r]))= .load (some (bytesOf r)):=by show callOf (1::(unsigned 32 (r.length:Int)::(r.map Int.toNat++[])))=_;show Call.load (bytes (counted 0 524288 1 (unsigned 32 (r.length:Int)::(r.map Int.toNat++[]))).1)=_;rw[L4 (Qz (NI (by exact bY ‹_› (by decide)))) (by lia)];simp only[uH,ur,cG];rw[fE (by simp)];unfold bytes bytesOf;simp
 show(let x:=does s (callOf (numbers (PyKg15.whole [[1],r])));(x.1,x.2.value::x.2.out))=_;rw[ee]
def Ya(h:asked1 (PyKg15.whole [[1],r])=true): ∀z∈r,0<=z/\z<256:=by have h:(whole32 (r.length:Int)&&(r.all (λ(z:Int)=>natural z 8)&&long r (r.length:Int) 0 524288))=true:=h;simp only[cI,uw]at h;intro z hz;have:=h.2.1 z hz;unfold natural at this;simp at this;assumption
def Qa:step s (PyKg15.whole [[2,x]])=((does s (.glyph x.toNat)).1,(does s (.glyph x.toNat)).2.value::(does s (.glyph x.toNat)).2.out):=rfl
def P_(h:whole32 x=true):step s (PyKg15.whole [[3,x]])=((does s (.metrics x)).1,(does s (.metrics x)).2.value::(does s (.metrics x)).2.out):=by
 have ee:callOf (numbers (PyKg15.whole [[3,x]]))= .metrics x:=by show Call.metrics (i32 (unsigned 32 x))=_;rw[ja h]
 show(let y:=does s (callOf (numbers (PyKg15.whole [[3,x]])));(y.1,y.2.value::y.2.out))=_;rw[ee]
def P9(h:whole32 x=true)(h2:whole32 y=true):step s (PyKg15.whole [[4,x,y]])=((does s (.outline x y)).1,(does s (.outline x y)).2.value::(does s (.outline x y)).2.out):=by
 have ee:callOf (numbers (PyKg15.whole [[4,x,y]]))= .outline x y:=by show Call.outline (i32 (unsigned 32 x)) (i32 (unsigned 32 y))=_;rw[ja h,ja h2]
 show(let z:=does s (callOf (numbers (PyKg15.whole [[4,x,y]])));(z.1,z.2.value::z.2.out))=_;rw[ee]
def P8(h:asked1 (PyKg15.whole [[5,a,b,c,d,e,f]])=true):step s (PyKg15.whole [[5,a,b,c,d,e,f]])=((does s (.draw a b c d e f)).1,(does s (.draw a b c d e f)).2.value::(does s (.draw a b c d e f)).2.out):=by
 have h:(whole32 a&&whole32 b&&whole32 c&&whole32 d&&whole32 e&&whole32 f)=true:=h;simp only[cI]at h;obtain⟨⟨⟨⟨⟨h1,h2⟩,h3⟩,h4⟩,h5⟩,h6⟩:=h;have ee:callOf (numbers (PyKg15.whole [[5,a,b,c,d,e,f]]))= .draw a b c d e f:=by show Call.draw (i32 (unsigned 32 a)) (i32 (unsigned 32 b)) (i32 (unsigned 32 c)) (i32 (unsigned 32 d)) (i32 (unsigned 32 e)) (i32 (unsigned 32 f))=_;rw[ja h1,ja h2,ja h3,ja h4,ja h5,ja h6]
 show(let z:=does s (callOf (numbers (PyKg15.whole [[5,a,b,c,d,e,f]])));(z.1,z.2.value::z.2.out))=_;rw[ee]
def PF(h:asked1 (PyKg15.whole [[6,a,b,c,d,e],r])=true):r.length<=256/\(∀z∈r,0<=z/\z<4294967296)/\whole32 a=true/\whole32 b=true/\whole32 c=true/\whole32 d=true/\whole32 e=true:=by
 have h:(whole32 (r.length:Int)&&(r.all (λ(z:Int)=>natural z 32)&&long r (r.length:Int) 0 256)&&whole32 a&&whole32 b&&whole32 c&&whole32 d&&whole32 e)=true:=h;simp only[cI,uw]at h;obtain⟨⟨⟨⟨⟨⟨h1,h2,h3⟩,h4⟩,h5⟩,h6⟩,h7⟩,h8⟩:=h;refine⟨?_,λ z hz=>?_,h4,h5,h6,h7,h8⟩
 ·unfold long at h3;simp at h3;rcases h3 with z|z
  ·exact wO.mp ‹_›
  ·rw[z];simp
 ·have:=h2 z hz;unfold natural at this;simp at this;assumption
def P7(h:asked1 (PyKg15.whole [[6,a,b,c,d,e],r])=true):step s (PyKg15.whole [[6,a,b,c,d,e],r])=((does s (.text (some (kz r)) a b c d e)).1,(does s (.text (some (kz r)) a b c d e)).2.value::(does s (.text (some (kz r)) a b c d e)).2.out):=by
 obtain⟨hl,_,h1,h2,h3,h4,h5⟩:=PF h;have ee:callOf (numbers (PyKg15.whole [[6,a,b,c,d,e],r]))= .text (some (kz r)) a b c d e:=by
  have ec:counted 0 256 1 (unsigned 32 (r.length:Int)::(r.map Int.toNat++[unsigned 32 a,unsigned 32 b,unsigned 32 c,unsigned 32 d,unsigned 32 e]))=(some (kz r),[unsigned 32 a,unsigned 32 b,unsigned 32 c,unsigned 32 d,unsigned 32 e]):=by rw[L4 (Qz (NI (by exact bY ‹_› (by decide)))) (by lia)];simp only[uH,ur,Nat.one_mul,jr];rw[Lw (by simp),fE (by simp)];rw[rg 1,uH,Lu (by simp),pE (by simp)];rfl
  show(let x:=counted 0 256 1 (unsigned 32 (r.length:Int)::(r.map Int.toNat++[unsigned 32 a,unsigned 32 b,unsigned 32 c,unsigned 32 d,unsigned 32 e]));Call.text x.1 (h32 x.2) (h32 (x.2.drop 1)) (h32 (x.2.drop 2)) (h32 (x.2.drop 3)) (h32 (x.2.drop 4)))=_;rw[ec];show Call.text (some (kz r)) (i32 (unsigned 32 a)) (i32 (unsigned 32 b)) (i32 (unsigned 32 c)) (i32 (unsigned 32 d)) (i32 (unsigned 32 e))=_;rw[ja h1,ja h2,ja h3,ja h4,ja h5]
 show(let z:=does s (callOf (numbers (PyKg15.whole [[6,a,b,c,d,e],r])));(z.1,z.2.value::z.2.out))=_;rw[ee]
end
def NC(p:Nat):Nat:=[0,0,1,1,2,6,5].getD p 0
def HR(p:Nat):Bool:=[false,true,false,false,false,false,true].getD p false
structure RC(c:List (List Int))(p:Nat)(nums row:List Int):Prop where
 le:p<=6
 len:nums.length=NC p
 no:HR p=false->row=[]/\c=[(p:Int)::nums]
 yes:HR p=true->c=[(p:Int)::nums,row]
def aeu(hs:PyKg15.shape p=some (n,0))(h:PyFlat.call PyKg15.shape (p::r)=some (c,t)): ∃nums,nums.length=n/\r=nums++t/\c=[p::nums]:=by
 unfold PyFlat.call at h;dsimp only at h;rw[hs]at h;dsimp only at h;split at h
 ·cases h
 ·unfold PyFlat.rows at h;dsimp only at h;cases h;exact⟨r.take n,by rw[gC];simp_all,(nS n r).symm,rfl⟩
def aet(hs:PyKg15.shape p=some (n,1))(h:PyFlat.call PyKg15.shape (p::r)=some (c,t)): ∃nums row,nums.length=n/\r=nums++(row.length:Int)::(row++t)/\c=[p::nums,row]:=by
 unfold PyFlat.call at h;dsimp only at h;rw[hs]at h;dsimp only at h;split at h
 ·cases h
 ·unfold PyFlat.rows at h;cases e:r.drop n with
  |nil=>rw[e]at h;simp[PyFlat.row]at h
  |cons m q=>
   rw[e]at h;dsimp only[PyFlat.row]at h;by_cases hm:0<=m/\m.toNat<=q.length
   ·rw[ao hm]at h;dsimp only at h;unfold PyFlat.rows at h;dsimp only at h;cases h;refine⟨r.take n,q.take m.toNat,by rw[gC];lia,?_,rfl⟩;rw[nS,gC,rj hm.2,show((m.toNat:Nat):Int)=m by lia,<- e,nS]
   ·rw[ai hm]at h;simp at h
theorem ZW{C:Prop}(h:PyFlat.call PyKg15.shape l=some (c,t))(k: ∀(p:Nat)(nums row:List Int),RC c p nums row->l=(p:Int)::(nums++if HR p=true then(row.length:Int)::(row++t)else t)->C):C:=by
 cases l with
 |nil=>exact nomatch (show none=some (c,t)from h)
 |cons p r=>
  have sh:PyKg15.shape p≠none:=by intro z;unfold PyFlat.call at h;dsimp only at h;rw[z]at h;cases h
  have key: ∀(q:Nat),p=(q:Int)->q<=6->PyKg15.shape p=some (NC q,if HR q=true then 1 else 0)->C:=by
   intro q hq DE hs;cases hr:HR q with
   |false=>
    rw[hr]at hs;obtain⟨nums,h1,h2,h3⟩:=aeu hs h;exact k q nums [] ⟨DE,h1,λ _=>⟨rfl,by rw[h3,hq]⟩,λ z=>by rw[hr]at z;cases z⟩ (by rw[hr,ai (by simp),h2,hq])
   |true=>
    rw[hr]at hs;obtain⟨nums,row,h1,h2,h3⟩:=aet hs h;exact k q nums row ⟨DE,h1,λ z=>by(rw[hr]at z;cases z),λ _=>by rw[h3,hq]⟩ (by rw[hr,ao rfl,h2,hq])
  by_cases c0:p=0
  ·exact key 0 c0 (by decide) (by rw[c0];rfl)
  by_cases c1:p=1
  ·exact key 1 c1 (by decide) (by rw[c1];rfl)
  by_cases c2:p=2
  ·exact key 2 c2 (by decide) (by rw[c2];rfl)
  by_cases c3:p=3
  ·exact key 3 c3 (by decide) (by rw[c3];rfl)
  by_cases c4:p=4
  ·exact key 4 c4 (by decide) (by rw[c4];rfl)
  by_cases c5:p=5
  ·exact key 5 c5 (by decide) (by rw[c5];rfl)
  by_cases c6:p=6
  ·exact key 6 c6 (by decide) (by rw[c6];rfl)
  ·exact absurd (by unfold PyKg15.shape;simp[c0,c1,c2,c3,c4,c5,c6]) sh
theorem aa0{C:Prop}(h:PyFlat.calls s (f+1) (p::r)=some cs)(k: ∀c t x,PyFlat.call s (p::r)=some (c,t)->PyFlat.calls s f t=some x->cs=c::x->C):C:=by
 unfold PyFlat.calls at h;cases e:PyFlat.call s (p::r)with
 |none=>rw[e]at h;cases h
 |some ct=>
  obtain⟨c,t⟩:=ct;rw[e]at h;dsimp only at h;cases e2:PyFlat.calls s f t with
  |none=>rw[e2]at h;cases h
  |some x=>
   rw[e2]at h;cases h;exact k c t x e e2 rfl
theorem YY(bH:l≠ [])(h:PyFlat.calls PyKg15.shape f l=some cs): ∃(p:Nat)(nums row t:List Int)(c:List (List Int))(f':Nat)(UO:List (List (List Int))),RC c p nums row/\l=(p:Int)::(nums++if HR p=true then(row.length:Int)::(row++t)else t)/\cs=c::UO/\PyFlat.calls PyKg15.shape f' t=some UO:=by
 cases l with
 |nil=>exact absurd rfl bH
 |cons p r=>
  cases f with
  |zero=>exact nomatch (show none=some cs from h)
  |succ f=>exact aa0 h λ c t x e e2 e3=>ZW e λ p' nums row h1 h2=>⟨p',nums,row,t,c,f,x,h1,h2,e3,e2⟩
section
open Kg15Neutral
def after(s:S)(cs:List Call):S:=cs.foldl (λ s c=>(step s c).1) s
theorem XF(a b:List Call): ∀s:S,PyFlat.played step s (a++b)=PyFlat.played step s a++PyFlat.played step (after s a) b:=by
 induction a with
 |nil=>intro s;rfl
 |cons c a ih=>intro s;show _::PyFlat.played step _ (a++b)=_::(PyFlat.played step _ a++_);rw[ih];rfl
theorem Yj(a b:List Call): ∀s:S,total s (a++b)=total s a+total (after s a) b:=by
 induction a with
 |nil=>intro s;simp[total,after]
 |cons c a ih=>
  intro s;show(step s c).2.length+total (step s c).1 (a++b)=(step s c).2.length+total (step s c).1 a+total (after s (c::a)) b;rw[ih];show _+(_+total (after (step s c).1 a) b)=_+_+total (after (step s c).1 a) b
  lia
theorem Bt(a:List Call): ∀s:S,(PyFlat.told (PyFlat.played step s a)).length=total s a+a.length:=by
 induction a with
 |nil=>intro s;rfl
 |cons c a ih=>
  intro s;show(PyFlat.told ((step s c).2::PyFlat.played step (step s c).1 a)).length=(step s c).2.length+total (step s c).1 a+(a.length+1);unfold PyFlat.told at ih⊢;rw[ux,bq,ih,dX]
  lia
def Zb(a b:List (List Int)):PyFlat.told (a++b)=PyFlat.told a++PyFlat.told b:=by unfold PyFlat.told;rw[rH]
def Yk{W:List Call}{i:Nat}{c:Call}(h:W[i]?=some c)(s:S):PyFlat.told (PyFlat.played step s (W.take (i+1)))=PyFlat.told (PyFlat.played step s (W.take i))++(((step (after s (W.take i)) c).2.length:Int)::(step (after s (W.take i)) c).2)/\after s (W.take (i+1))=(step (after s (W.take i)) c).1:=by
 have e:W.take (i+1)=W.take i++[c]:=by rw[cA,h];rfl
 constructor
 ·rw[e,XF,Zb]
  congr 1
  show PyFlat.told [(step (after s (W.take i)) c).2]=_;unfold PyFlat.told;simp
 ·rw[e];unfold after;rw[AF];rfl
theorem Y6(h:PyKg15.answers_asked l=true): ∃cs,PyFlat.calls PyKg15.shape l.length l=some cs/\(cs.map PyKg15.whole).length<=100/\(∀c∈cs,asked1 (PyKg15.whole c)=true)/\total start (cs.map PyKg15.whole)<=1000000/\PyKg15.answers l=PyFlat.told (PyFlat.played step start (cs.map PyKg15.whole)):=by
 unfold PyKg15.answers_asked PyKg15.calls at h;cases e:PyFlat.calls PyKg15.shape l.length l with
 |none=>rw[e]at h;cases h
 |some cs=>
  rw[e]at h;dsimp only at h;rw[cI]at h;have h2:asked (cs.map PyKg15.whole)=true:=h.2;unfold asked at h2;rw[cI,cI,cI,uw,gF,gF,gF]at h2;refine⟨cs,rfl,h2.2.1,λ c hc=>h2.2.2.1 _ (bF.mpr ⟨c,hc,rfl⟩),h2.2.2.2,?_⟩;unfold PyKg15.answers PyKg15.calls;rw[e]
end
section
open Kg15
noncomputable def cur (p q e:Pt) (k:Int):Corner:=(p.x*(8-k)*(8-k)+2*q.x*(8-k)*k+e.x*k*k,p.y*(8-k)*(8-k)+2*q.y*(8-k)*k+e.y*k*k)
noncomputable def fm (p:Pt):Corner:=(64*p.x,64*p.y)
def Ja(p q e:Pt):cur p q e 0=fm p:=by unfold cur fm;ext<;>simp<;>simp+arith
def afL(p q e:Pt):cur p q e 8=fm e:=by unfold cur fm;ext<;>simp<;>lia
noncomputable def mH (p q e:Pt):List Corner:=(List.range 8).map λ(k:Nat)=>cur p q e ((k:Int)+1)
def Gu(p q e:Pt):curve p q e=(List.range 8).map λ(k:Nat)=>cur p q e (k:Int):=rfl
def ZT(p q e:Pt):fm p::mH p q e=curve p q e++[fm e]:=by rw[Gu,<- Ja p q e,<- afL p q e];rfl
noncomputable def iu:Pt->List Pt->List Corner
 |_,[]=>[]
 |p,q::r=>if q.on=true then fm q::iu q r else(match r with
  |e::s=>mH p q e++iu e s
  |[]=>[])
def iD:List Pt->Prop
 |[]=>True
 |q::r=>if q.on=true then iD r else(match r with
  |_::s=>iD s
  |[]=>False)
def pJ(h:q.on=true):pieces (p::q::r)=fm p::pieces (q::r):=by cases r<;>simp[pieces,h,fm]
def rJ(h: ¬q.on=true):pieces (p::q::e::s)=curve p q e++pieces (e::s):=by simp[pieces,h]
def GZ(h:q.on=true):iu p (q::r)=fm q::iu q r:=by cases r<;>simp[iu,h]
def Gv(h: ¬q.on=true):iu p (q::e::s)=mH p q e++iu e s:=by simp[iu,h]
def uP:(a::b::r).getLastD x=(b::r).getLastD y:=by rw[pF,pF,List.getLast?_cons_cons,List.getLast?_cons];rfl
theorem FX: ∀n p r,r.length<=n->iD r->fm p::iu p r=pieces (p::r)++[fm ((p::r).getLastD p)]
 |_,p,[],_,_=>by simp[iu,pieces]
 |0,p,q::r,h,_=>absurd h (by simp)
 |n+1,p,q::r,h,ok=>by
  by_cases hq:q.on=true
  ·rw[GZ hq,pJ hq,FX n q r (by simpa using h) (by cases r<;>simp[iD,hq]at ok⊢;exact ok)];rw[uP (y:=q)];rfl
  ·cases r with
   |nil=>simp[iD,hq]at ok
   |cons e s=>
    replace ok:iD s:=by simpa [iD,hq]using ok
    rw[Gv hq,rJ hq,<- fU,ZT,gE,gE];have:=FX n e s (by simp at h;exact eh ‹_›) ok;rw[K9,this];rw[uP (y:=q),uP (y:=e)]
theorem Bb: ∀(n:Nat)(X:List Pt)(e:Pt)(Y:List Pt),X.length<=n->X≠ []->e.on=true->pieces (X++e::Y)=pieces (X++[e])++pieces (e::Y)
 |_,[],e,Y,_,h,_=>absurd rfl h
 |_,[p],e,Y,_,_,he=>by
  show pieces (p::e::Y)=pieces [p,e]++pieces (e::Y);rw[pJ he,pJ he];simp[pieces]
 |0,p::q::X,e,Y,h,_,_=>absurd h (by simp)
 |n+1,p::q::X,e,Y,h,_,he=>by
  show pieces (p::q::(X++e::Y))=pieces (p::q::(X++[e]))++pieces (e::Y);by_cases hq:q.on=true
  ·rw[pJ hq,pJ hq,<- fU,<- fU,Bb n (q::X) e Y (by simpa using h) (by simp) he];rfl
  ·cases X with
   |nil=>
    show pieces (p::q::e::Y)=pieces (p::q::e::[])++pieces (e::Y);rw[rJ hq,rJ hq];simp[pieces]
   |cons f X=>
    show pieces (p::q::f::(X++e::Y))=pieces (p::q::f::(X++[e]))++pieces (e::Y);rw[rJ hq,rJ hq,<- fU,<- fU,Bb n (f::X) e Y (by simp at h⊢;exact eh ‹_›) (by simp) he,gE]
noncomputable def dbl (p:Pt):Pt:=⟨2*p.x,2*p.y,p.on⟩
noncomputable def fN (p q:Pt):List Pt:=if p.on=false/\q.on=false then [⟨p.x+q.x,p.y+q.y,true⟩]else []
noncomputable def ring:Pt->List Pt->List Pt
 |_,[]=>[]
 |b,p::r=>fN b p++dbl p::ring p r
theorem Bg: ∀b A p,ring b (A++[p])=ring b A++(fN (A.getLastD b) p++[dbl p])
 |b,[],p=>by simp[ring]
 |b,a::A,p=>by
  rw[fU,ring,ring,Bg a A p];have e:(a::A).getLastD b=A.getLastD a:=by
   cases A with
   |nil=>rfl
   |cons c A=>rw[uP (y:=a)]
  rw[e];simp
noncomputable def closed (n:List Pt):List Pt:=match n with
 |[]=>[]
 |a::r=>if a.on=false then(a::r).getLastD a::(a::r)else(a::r)++[a]
noncomputable def mz (l:List Pt):List Pt:=closed (ring (l.getLastD ⟨0,0,true⟩) l)
theorem Bv: ∀b l,l.length<=(ring b l).length/\(ring b l).length<=2*l.length
 |b,[]=>⟨aQ _,aQ _⟩
 |b,p::r=>by
  have ih:=Bv p r;rw[ring];have:(fN b p).length<=1:=by unfold fN;split<;>simp
  simp
  lia
noncomputable def placesOf (l:List Pt):List Corner:=match mz l with
 |[]=>[]
 |a::r=>fm a::iu a r
def si:List Pt->Prop
 |a::b::r=>¬(a.on=false/\b.on=false)/\si (b::r)
 |_=>True
theorem LV: ∀(b:Pt)(l:List Pt),si (dbl b::ring b l)
 |b,[]=>trivial
 |b,p::r=>by
  rw[ring];have ih:=LV p r;unfold fN;split
  ·exact⟨λ z=>(by cases z.2),λ z=>(by cases z.1),ih⟩
  ·rename_i h;exact⟨h,ih⟩
theorem GO: ∀(A:List Pt)(x:Pt),x.on=true->si A->si (A++[x])
 |[],_,_,_=>trivial
 |[a],x,h,_=>⟨λ z=>(by rw[h]at z;cases z.2),trivial⟩
 |a::b::A,x,h,h2=>⟨h2.1,GO (b::A) x h h2.2⟩
theorem Cd: ∀n a r,r.length<=n->si (a::r)->(∃x A,a::r=A++[x]/\x.on=true)->iD r
 |_,_,[],_,_,_=>trivial
 |0,_,q::r,h,_,_=>absurd h (by simp)
 |n+1,a,q::r,h,h2,⟨x,A,e0,hx⟩=>by
  have hl: ∃x A,q::r=A++[x]/\x.on=true:=by
   cases A with
   |nil=>simp at e0
   |cons y A=>simp at e0;exact⟨x,A,e0.2,hx⟩
  clear e0;by_cases hq:q.on=true
  ·have:=Cd n q r (by simpa using h) h2.2 hl;cases r with
   |nil=>simp[iD,hq]
   |cons e s=>unfold iD;rw[ao hq];exact this
  ·cases r with
   |nil=>
    obtain⟨x,A,e,hx⟩:=hl;cases A with
    |nil=>simp at e;rw[e]at hq;exact absurd hx hq
    |cons y A=>simp at e
   |cons e s=>
    unfold iD;rw[ai hq];obtain⟨x,A,e2,hx⟩:=hl;cases A with
    |nil=>simp at e2
    |cons y A=>simp at e2;exact Cd n e s (by simp at h;lia) h2.2.2 ⟨x,A,e2.2,hx⟩
def ZJ:(a::r).getLastD x=(a::r).getLastD y:=by rw[pF,pF,List.getLast?_cons];rfl
theorem Ma(z:Pt): ∀(p:Pt)(r:List Pt),((p::r).zip (r++[z])).flatMap (λ x=>dbl x.1::fN x.1 x.2)=dbl p::(ring p r++fN ((p::r).getLastD p) z)
 |p,[]=>by show dbl p::(fN p z++[])=dbl p::([]++fN p z);rw[cG,Fc]
 |p,q::r=>by rw[fU,uz,ux,Ma z q r,ring,uP (y:=q)];simp
def Y9(a:Pt)(r:List Pt):whole (a::r)=(dbl a::ring a r)++fN ((a::r).getLastD a) a:=by have:=Ma a a r;rw[fU,<- this];rfl
theorem Mn: ∀(a:Pt)(r:List Pt),∃Y,dbl a::ring a r=Y++[dbl ((a::r).getLastD a)]
 |a,[]=>⟨[],rfl⟩
 |a,p::r=>by obtain⟨Y,h⟩:=Mn p r;rw[ring,h,uP (y:=p)];exact⟨dbl a::(fN a p++Y),by simp⟩
def MG(a:Pt)(r:List Pt): ∃s X,s.on=true/\mz (a::r)=s::(X++[s])/\si (s::(X++[s]))/\(s::X=whole (a::r)\/whole (a::r)=X++[s]):=by
 have hW:=LV a r;have ew:=Y9 a r;unfold mz;rw[ring,ZJ (y:=a)];generalize hz:(a::r).getLastD a=z at ew⊢;by_cases h:z.on=false/\a.on=false
 ·have hm:fN z a=[⟨z.x+a.x,z.y+a.y,true⟩]:=by unfold fN;rw[ao h]
  rw[hm]at ew⊢;refine⟨⟨z.x+a.x,z.y+a.y,true⟩,dbl a::ring a r,rfl,rfl,?_,.inr ew⟩;exact⟨λ y=>(by cases y.1),GO _ _ rfl hW⟩
 ·have hm:fN z a=[]:=by unfold fN;rw[ai h]
  rw[hm]at ew⊢;rw[cG]at ew;rw[Fc];by_cases ha:a.on=true
  ·refine⟨dbl a,ring a r,ha,?_,GO _ (dbl a) ha hW,.inl ew.symm⟩;unfold closed;dsimp only;rw[ai (by show¬a.on=false;rw[ha];simp)];rfl
  ·have TB:z.on=true:=by
    cases e:z.on with
    |true=>rfl
    |false=>exact absurd ⟨e,by simpa using ha⟩ h
   obtain⟨Y,hY⟩:=Mn a r;rw[hz]at hY;refine⟨dbl z,Y,TB,?_,?_,.inr (by rw[ew,hY])⟩
   ·unfold closed;dsimp only;rw[ao (show(dbl a).on=false from(by simpa using ha:a.on=false)),hY];simp
   ·rw[<- hY];exact⟨λ y=>(by have:z.on=false:=y.1;rw[TB]at this;cases this),hW⟩
theorem YX(h:l≠ []): ∃s X,mz l=s::(X++[s])/\iD (X++[s]):=by
 cases l with
 |nil=>exact absurd rfl h
 |cons a r=>
  obtain⟨s,X,h1,h2,h3,_⟩:=MG a r;exact⟨s,X,h2,Cd _ s (X++[s]) (aQ _) h3 ⟨s,s::X,rfl,h1⟩⟩
def L6:(mz l).length<=2*l.length+1:=by
 have h:=(Bv (l.getLastD ⟨0,0,true⟩) l).2;unfold mz closed;split
 ·simp
 ·rename_i e;rw[e]at h;split<;>simp at h⊢<;>trivial
noncomputable def jH {α:Type} (c:List α):List (α×α):=c.zip (c.drop 1++c.take 1)
noncomputable def pairs {α:Type} (c:List α):List (α×α):=c.zip (c.drop 1)
def Bn{α:Type}{a:α}{r:List α}:jH (a::r)=pairs (a::r++[a]):=by
 unfold jH pairs;simp only[uH,ur,List.take_succ_cons,List.take_zero,fU];have: ∀(x:α)(r:List α),(x::r).zip (r++[a])=(x::(r++[a])).zip (r++[a]):=by
  intro x r
  induction r generalizing x with
  |nil=>rfl
  |cons b r ih=>simp only[fU,uz];rw[ih b]
 exact this a r
theorem Bh: ∀(A:List α)(x:α)(B:List α),pairs (A++x::B)=pairs (A++[x])++pairs (x::B)
 |[],x,B=>by simp[pairs]
 |[a],x,B=>by simp[pairs]
 |a::b::A,x,B=>by have:=Bh (b::A) x B;unfold pairs at this⊢;simp only[fU,uH,ur,uz]at this⊢;rw[this]
theorem ZQ(A B:List α):List.Perm (jH (A++B)) (jH (B++A)):=by
 cases A with
 |nil=>simp
 |cons a A=>
  cases B with
  |nil=>simp
  |cons b B=>
   have e1:jH (a::A++b::B)=pairs (a::A++[b])++pairs (b::B++[a]):=by have:=Bh (a::A) b (B++[a]);rw[fU,Bn];simpa using this
   have e2:jH (b::B++a::A)=pairs (b::B++[a])++pairs (a::A++[b]):=by have:=Bh (b::B) a (A++[b]);rw[fU,Bn];simpa using this
   rw[e1,e2];exact List.perm_append_comm
end
structure Vw where
 U:Nat
 S:Nat
 w:Nat
 h:Nat
 x0:Int
 y0:Int
structure Vw.Ok(v:Vw):Prop where
 u1:16<=v.U
 u2:v.U<=16384
 s1:1<=v.S
 s2:v.S<=256
 w1:1<=v.w
 w2:v.w<=256
 h1:1<=v.h
 h2:v.h<=256
 x1: -4096<=v.x0
 x2:v.x0<=4096
 y1: -4096<=v.y0
 y2:v.y0<=4096
noncomputable def Vw.M (v:Vw):Int:=16*v.U
noncomputable def Vw.D (v:Vw):Int:=32*v.U
noncomputable def Vw.at (v:Vw) (r:Int):Int:=v.M+v.D*r
noncomputable def Vw.left (v:Vw):Int:=128*v.U*v.x0
noncomputable def Vw.top (v:Vw):Int:=128*v.U*v.y0
noncomputable def vC (v:Vw) (y:Int):Nat:=(min (max ((y+v.M)/v.D) 0) (4*v.h)).toNat
def Zi(v:Vw)(y:Int):((vC v y:Nat):Int)=min (max ((y+v.M)/v.D) 0) (4*v.h):=Int.toNat_of_nonneg (Int.le_min.mpr ⟨Int.le_max_right ..,by lia⟩)
def BG(v:Vw)(y:Int):vC v y<=4*v.h:=Am.mpr (Int.min_le_right ..)
def Bu(k:v.Ok)(h:r<4*v.h):vC v y<=r↔y<v.at r:=by
 have hD:0<v.D:=by unfold Vw.D;have:=k.u1;lia
 have:(y+v.M)/v.D<=r↔y<v.at r:=by rw[<- Fq,Fz hD];unfold Vw.at Vw.M Vw.D;rw[Int.add_mul];rw[ui (r:Int)];simp+arith only
 rw[<- this,vC,Am];exact⟨λ z=>Ak.mp λ x=>Ak.mpr z (Int.lt_min.mpr ⟨Int.lt_of_lt_of_le x (Int.le_max_left ..),by lia⟩),λ z=>uh (Int.min_le_left ..) (Int.max_le.mpr ⟨z,nQ _⟩)⟩
noncomputable def bK (v:Vw) (z:Int):Int:=(z+v.M-1)/v.D
def BC(k:v.Ok):bK v z<=c↔z<=v.at c:=by
 have hD:0<v.D:=by unfold Vw.D;have:=k.u1;lia
 unfold bK;rw[<- Fq,Fz hD];unfold Vw.at Vw.M Vw.D;rw[Int.add_mul,ui c]
 lia
noncomputable def dG (v:Vw) (b e:Int):Nat:=if bK v e<=bK v b\/bK v e<=0\/4*(v.w:Int)<=bK v b then 0 else 2^(min (bK v e) (4*v.w)).toNat-2^(max (bK v b) 0).toNat
def Xg(h:f<=l):(2^l-2^f).testBit c=(decide (f<=c)&&decide (c<l)):=by
 have e:2^l-2^f=(2^(l-f)-1)*2^f:=by rw[Nat.sub_mul,Nat.one_mul,<- Nat.pow_add,Fp h]
 rw[e,Nat.testBit_mul_two_pow,Nat.testBit_two_pow_sub_one];by_cases h1:f<=c
 ·simp[h1];exact Nat.sub_lt_sub_iff_right h1
 ·simp[h1]
def Gh(k:v.Ok):(dG v b e).testBit c=true↔c<4*v.w/\b<=v.at c/\v.at c<e:=by
 have h1:=BC k (z:=b) (c:=c);have h2:=BC k (z:=e) (c:=c);rw[<- h1,show v.at c<e↔¬(bK v e<=c) by rw[h2];simp];unfold dG;split
 ·rename_i q;simp only[AD,mw,false_iff];rintro⟨h3,h4,h5⟩;rcases q with q|q|q
  ·exact h5 (uh q h4)
  ·exact h5 (uh q (nQ _))
  ·lia
 ·rename_i q;obtain⟨q1,q⟩:=not_or.mp q;obtain⟨q2,q3⟩:=not_or.mp q;rw[Xg (Int.toNat_le_toNat (Int.max_le.mpr ⟨Int.le_min.mpr ⟨by lia,by lia⟩,Int.le_min.mpr ⟨by lia,by lia⟩⟩)),cI,gF,gF,Am,Int.lt_toNat,Int.max_le,Int.lt_min];exact⟨λ⟨⟨x,_⟩,y,z⟩=>⟨by lia,x,Int.not_le.mpr y⟩,λ⟨x,y,z⟩=>⟨⟨y,nQ _⟩,Int.not_le.mp z,by lia⟩⟩
def YW:dG v b e<2^(4*v.w):=by
 unfold dG;split
 ·exact wW _
 ·have:(2:Nat)^(min (bK v e) (4*v.w)).toNat<=2^(4*v.w):=AX (by decide) (Am.mpr (Int.min_le_right ..));have h2:0<(2:Nat)^(max (bK v b) 0).toNat:=wW _;exact dJ (Nat.sub_lt (wW _) h2) this
section
open Kg15
structure Ln where
 b:Int
 s:Int
 d:Int
 e:Nat
noncomputable def Ln.cr (l:Ln) (r:Int):Int:=(l.b+l.s*r)/l.d
structure Pl where
 x:Int
 y:Int
 r:Nat
structure Sw where
 up:List (Nat×Ln)
 down:List (Nat×Ln)
 left:List (Nat×Nat×Int)
noncomputable def cw (v:Vw) (u l:Pl):Ln:=⟨u.x*(l.y-u.y)+(l.x-u.x)*(v.M-u.y)+(l.y-u.y)-1,(l.x-u.x)*v.D,l.y-u.y,l.r⟩
noncomputable def fM (v:Vw) (N F:Int) (S:Sw) (p q:Pl):Sw:=if p.r<q.r then
  (if F<(cw v p q).cr p.r/\F<(cw v p q).cr ((q.r:Int)-1)then S else if(cw v p q).cr p.r<=N/\(cw v p q).cr ((q.r:Int)-1)<=N then{S with left:=S.left++[(p.r,q.r, -1)]}else{S with down:=S.down++[(p.r,cw v p q)]})
 else(if F<(cw v q p).cr q.r/\F<(cw v q p).cr ((p.r:Int)-1)then S else if(cw v q p).cr q.r<=N/\(cw v q p).cr ((p.r:Int)-1)<=N then{S with left:=S.left++[(q.r,p.r,1)]}else{S with up:=S.up++[(q.r,cw v q p)]})
noncomputable def jU (r:Nat) (x:Int) (l:Nat×Ln):Int:=if l.1<=r/\r<l.2.e/\l.2.cr r<=x then 1 else 0
noncomputable def i_ (r:Nat) (t:Nat×Nat×Int):Int:=if t.1<=r/\r<t.2.1 then t.2.2 else 0
noncomputable def val (S:Sw) (r:Nat) (x:Int):Int:=(S.up.map (jU r x)).sum-(S.down.map (jU r x)).sum+(S.left.map (i_ r)).sum
noncomputable def eC (v:Vw) (p q:Pl) (r:Nat) (x:Int):Int:=if q.r<=r/\r<p.r/\(cw v q p).cr r<=x then 1 else if p.r<=r/\r<q.r/\(cw v p q).cr r<=x then-1 else 0
def aaY{l:Ln}(h:0<l.d){a r b:Int}(h1:a<=r)(h2:r<=b):(l.cr a<=l.cr r/\l.cr r<=l.cr b)\/(l.cr b<=l.cr r/\l.cr r<=l.cr a):=by
 unfold Ln.cr;rcases Int.le_total 0 l.s with hs|hs
 ·left;exact⟨AB h (AR (pG h1 hs) _),AB h (AR (pG h2 hs) _)⟩
 ·right;exact⟨AB h (AR (Ls hs h2) _),AB h (AR (Ls hs h1) _)⟩
def Ia{p:Prop}[Decidable p]{S T:Sw}{z:Int}(h:p->val S r x=z)(h2: ¬p->val T r x=z):val (if p then S else T) r x=z:=by
 by_cases c:p
 ·rw[ao c];exact h c
 ·rw[ai c];exact h2 c
def PM{S:Sw}:val {S with left:=S.left++[t]} r x=val S r x+i_ r t:=by unfold val;simp;lia
def acZ{S:Sw}:val {S with down:=S.down++[t]} r x=val S r x+ -1*jU r x t:=by unfold val;simp;lia
def acY{S:Sw}:val {S with up:=S.up++[t]} r x=val S r x+1*jU r x t:=by unfold val;simp;lia
def PN{l:Ln}{a:Nat}{s N F:Int}{S U W:Sw}(hx:N<=x)(hF:x<=F)(hd:0<l.d)(hU:val U r x=val S r x+i_ r (a,l.e,s))(hW:val W r x=val S r x+s*jU r x (a,l)):val (if F<l.cr a/\F<l.cr ((l.e:Int)-1)then S else if l.cr a<=N/\l.cr ((l.e:Int)-1)<=N then U else W) r x=val S r x+if a<=r/\r<l.e/\l.cr r<=x then s else 0:=by
 have hm:a<=r->r<l.e->_:=λ h h2=>aaY hd (a:=a) (r:=r) (b:=(l.e:Int)-1) (by lia) (by lia);refine Ia (λ c=>?_) λ _=>Ia (λ c=>?_) λ _=>?_
 ·rw[ai (λ z=>by have:=hm z.1 z.2.1;omega),wN]
 ·rw[hU,i_];refine gh (val S r x+ ·) ?_;by_cases c3:a<=r/\r<l.e
  ·rw[ao c3,ao ⟨c3.1,c3.2,by have:=hm c3.1 c3.2;omega⟩]
  ·rw[ai c3,ai (λ z=>c3 ⟨z.1,z.2.1⟩)]
 ·rw[hW,jU];split<;>simp
def val_add{v:Vw}{N F:Int}{S:Sw}{p q:Pl}{r:Nat}{x:Int}(hx:N<=x)(hF:x<=F)(bH:p.r≠q.r)(h1:p.r<q.r->p.y<q.y)(h2:q.r<p.r->q.y<p.y):val (fM v N F S p q) r x=val S r x+eC v p q r x:=by
 unfold fM eC;refine Ia (λ hf=>?_) λ hf=>?_
 ·rw[ai (c:=q.r<=r/\_) (by lia)];exact PN (l:=cw v p q) hx hF (Int.sub_pos_of_lt (h1 hf)) PM acZ
 ·rw[ai (c:=p.r<=r/\_) (by lia)];exact PN (l:=cw v q p) hx hF (Int.sub_pos_of_lt (h2 (by lia))) PM acY
noncomputable def bg (v:Vw) (c:Corner):Pl:=⟨v.S*c.1,v.top-v.S*c.2,vC v (v.top-v.S*c.2)⟩
noncomputable def lO (size:Nat) (x y:Int) (pq:Corner×Corner):Int:=
 if pq.1.2*size<=y/\y<pq.2.2*size/\0<(pq.2.1*size-pq.1.1*size)*(y-pq.1.2*size)-(x-pq.1.1*size)*(pq.2.2*size-pq.1.2*size)then 1
 else if pq.2.2*size<=y/\y<pq.1.2*size/\(pq.2.1*size-pq.1.1*size)*(y-pq.1.2*size)-(x-pq.1.1*size)*(pq.2.2*size-pq.1.2*size)<0 then-1 else 0
theorem Nv(f:α->Int)(g:Int->α->Int)(h: ∀n a,g n a=n+f a): ∀(l:List α)(n:Int),l.foldl g n=n+(l.map f).sum
 |[],n=>by simp
 |a::r,n=>by rw[gT,h,Nv f g h r];simp;lia
def FK(size:Nat)(c:List Corner)(x y:Int):windings size c x y=((jH c).map (lO size x y)).sum:=by
 unfold windings jH;rw[Nv (lO size x y)]
 ·lia
 ·intro n a;unfold lO;dsimp only;split
  ·rfl
  ·split
   ·rfl
   ·simp
noncomputable def kP (r:Nat) (p:Pl):Int:=if p.r<=r then 1 else 0
def Py(h:u.y<l.y):(cw v u l).cr r<=x↔u.x*(l.y-u.y)+(l.x-u.x)*(v.at r-u.y)<=x*(l.y-u.y):=by
 have hd:0<l.y-u.y:=by simp_all
 unfold Ln.cr cw;dsimp only;rw[<- Fq,Fz hd];unfold Vw.at;have e1:(x+1)*(l.y-u.y)=x*(l.y-u.y)+(l.y-u.y):=by grind
 have e2:(l.x-u.x)*(v.M+v.D*r-u.y)=(l.x-u.x)*(v.M-u.y)+(l.x-u.x)*v.D*r:=by grind
 rw[e1,e2];simp+arith only
def acI{a b c d e f a1 a2 a3 b1 b2 b3:Prop}[Decidable (a1/\b2/\e)] [Decidable (b1/\a2/\f)] [Decidable b] [Decidable a] [Decidable (b/\a3/\c)] [Decidable (a/\b3/\d)](ha:(a2↔a)/\(a1↔¬a)/\(a3↔¬a))(hb:(b2↔b)/\(b1↔¬b)/\(b3↔¬b))(h1: ¬a->b->(c↔¬e))(h2:a-> ¬b->(d↔¬f)):(if a1/\b2/\e then(1:Int)else if b1/\a2/\f then-1 else 0)=(if b then 1 else 0)-(if a then 1 else 0)-(if b/\a3/\c then 1 else if a/\b3/\d then-1 else 0):=by
 by_cases a<;>by_cases b<;>simp_all
 ·by_cases f<;>simp_all
 ·by_cases e<;>simp_all
def aaR(k:v.Ok)(hr:r<4*v.h):lO v.S x (v.top-v.at r) (p,q)=kP r (bg v q)-kP r (bg v p)-eC v (bg v p) (bg v q) r x:=by
 have hp:(bg v p).r<=r↔(bg v p).y<v.at r:=Bu k hr;have hq:(bg v q).r<=r↔(bg v q).y<v.at r:=Bu k hr;have ep:p.2*(v.S:Int)=v.top-(bg v p).y:=by show _=v.top-(v.top-v.S*p.2);rw[ui];lia
 have eq:q.2*(v.S:Int)=v.top-(bg v q).y:=by show _=v.top-(v.top-v.S*q.2);rw[ui];lia
 have UM:p.1*(v.S:Int)=(bg v p).x:=ui _ _;have UL:q.1*(v.S:Int)=(bg v q).x:=ui _ _;unfold lO eC kP;dsimp only;rw[ep,eq,UM,UL];clear ep eq UM UL;generalize bg v p=P at*;generalize bg v q=Q at*;have i: ∀R:Pl,(R.r<=r↔R.y<v.at r)->(v.top-v.at r<v.top-R.y↔R.r<=r)/\(v.top-R.y<=v.top-v.at r↔¬R.r<=r)/\(r<R.r↔¬R.r<=r):=λ R h=>⟨by rw[h];lia,by rw[h];lia,wL.symm⟩;refine acI (i P hp) (i Q hq) (λ h1 h2=>(Py (by lia)).trans ?_) λ h1 h2=>(Py (by lia)).trans ?_
 ·rw[show(Q.x-P.x)*(v.top-v.at r-(v.top-P.y))-(x-P.x)*(v.top-Q.y-(v.top-P.y))=(Q.x*(P.y-Q.y)+(P.x-Q.x)*(v.at r-Q.y))-x*(P.y-Q.y) by grind]
  lia
 ·rw[show(Q.x-P.x)*(v.top-v.at r-(v.top-P.y))-(x-P.x)*(v.top-Q.y-(v.top-P.y))=x*(Q.y-P.y)-(P.x*(Q.y-P.y)+(Q.x-P.x)*(v.at r-P.y)) by grind]
  lia
end
section
open Kg15
theorem Yw(s:Pt): ∀(X:List Pt),si (s::(X++[s]))->s.on=true-> ∃c,pieces (s::(X++[s]))=fm s::c
 |[],_,h=>⟨_,pJ h⟩
 |q::X,h,hs=>by
  by_cases hq:q.on=true
  ·exact⟨_,pJ hq⟩
  ·cases hX:X++[s]with
   |nil=>simp at hX
   |cons e Y=>
    show∃c,pieces (s::q::(X++[s]))=fm s::c;rw[hX,rJ hq,Gu,<- Ja s q e];exact⟨_,rfl⟩
theorem WQ(hs:s.on=true)(h:W=X++[s]):turned W=s::X\/ ∃A b B,X=A++b::B/\b.on=true/\turned W=b::(B++s::A):=by
 unfold turned;cases e:W.findIdx? λ p=>p.on with
 |none=>
  exfalso;have:=List.findIdx?_eq_none_iff.mp e s (by rw[h];simp);rw[hs]at this;cases this
 |some k=>
  dsimp only;obtain⟨hk,Ub,_⟩:=List.findIdx?_eq_some_iff_getElem.mp e;subst h;rw[bq,Lb]at hk;by_cases DM:k=X.length
  ·left;subst DM;simp
  ·right;have Ke:k<X.length:=by lia
   refine⟨X.take k,X[k],X.drop (k+1),?_,?_,?_⟩
   ·rw[<- xq Ke,nS]
   ·rw[List.getElem_append_left Ke]at Ub;exact Ub
   ·rw[Lu (by exact eh ‹_›),Lw (by lia),xq Ke,gE,fU];rfl
theorem L7(h:l≠ []):(∃s c,placesOf l=fm s::(c++[fm s]))/\List.Perm (pairs (placesOf l)) (jH (polygon l)):=by
 cases l with
 |nil=>exact absurd rfl h
 |cons a r=>
  obtain⟨s,X,hs,gR,Ue,hw⟩:=MG a r;have ax:=Cd _ s (X++[s]) (aQ _) Ue ⟨s,s::X,rfl,hs⟩;obtain⟨c,hc⟩:=Yw s X Ue hs;have bz:placesOf (a::r)=fm s::(c++[fm s]):=by
   unfold placesOf;rw[gR];dsimp only;rw[FX _ s (X++[s]) (aQ _) ax,hc];have:(s::(X++[s])).getLastD s=s:=by rw[<- fU,AW]
   rw[this];rfl
  refine⟨⟨s,c,bz⟩,?_⟩;have e1:pairs (placesOf (a::r))=jH (pieces (s::(X++[s]))):=by rw[bz,hc,Bn];rfl
  rw[e1];have same:turned (whole (a::r))=s::X->List.Perm (jH (pieces (s::(X++[s])))) (jH (polygon (a::r))):=λ e=>by unfold polygon;rw[e]
  rcases hw with hw|hw
  ·refine same ?_;unfold turned;rw[<- hw,List.findIdx?_cons,hs];simp
  ·rcases WQ hs hw with e|⟨A,b,B,hX,hb,e⟩
   ·exact same e
   ·have e2:polygon (a::r)=pieces (b::B++[s])++pieces (s::A++[b]):=by
     unfold polygon;rw[e];dsimp only;have:=Bb _ (b::B) s (A++[b]) (aQ _) (by simp) hs;rw[show b::(B++s::A++[b])=b::B++s::(A++[b]) by simp,this];rfl
    have e3:pieces (s::(X++[s]))=pieces (s::A++[b])++pieces (b::B++[s]):=by rw[hX];have:=Bb _ (s::A) b (B++[s]) (aQ _) (by simp) hb;rw[show s::(A++b::B++[s])=s::A++b::(B++[s]) by simp,this];rfl
    rw[e2,e3];exact ZQ _ _
noncomputable def lC (v:Vw) (N F:Int) (S:Sw) (pq:Corner×Corner):Sw:=if(bg v pq.1).r≠(bg v pq.2).r then fM v N F S (bg v pq.1) (bg v pq.2)else S
noncomputable def gG (v:Vw) (N F:Int) (S:Sw) (places:List Corner):Sw:=(pairs places).foldl (lC v N F) S
def pW(k:v.Ok)(h:(bg v p).r<(bg v q).r):(bg v p).y<(bg v q).y:=by
 have h1:(bg v q).r<=4*v.h:=BG v _;have hp:(bg v p).r<=(bg v p).r↔(bg v p).y<v.at (bg v p).r:=Bu k (by exact bY ‹_› ‹_›);have hq:(bg v q).r<=(bg v p).r↔(bg v q).y<v.at (bg v p).r:=Bu k (by lia);have h2:=hp.mp (aQ _);have h3: ¬(bg v q).y<v.at (bg v p).r:=λ z=>by have:=hq.mpr z;lia
 lia
theorem Me(k:v.Ok)(hx:N<=x)(hF:x<=F): ∀(l:List (Corner×Corner))(S:Sw),val (l.foldl (lC v N F) S) r x=val S r x+(l.map λ pq=>eC v (bg v pq.1) (bg v pq.2) r x).sum
 |[],S=>by simp
 |pq::l,S=>by
  rw[gT,Me k hx hF l];have:val (lC v N F S pq) r x=val S r x+eC v (bg v pq.1) (bg v pq.2) r x:=by
   unfold lC;split
   ·rename_i c;exact val_add hx hF c (λ h=>pW k h) (λ h=>pW k h)
   ·rename_i c;unfold eC;rw[ai (by lia),ai (by lia)];simp
  rw[this];simp
  lia
theorem P5(r:Nat): ∀(a:Corner)(c:List Corner)(b:Corner),((pairs (a::(c++[b]))).map λ pq=>kP r (bg v pq.2)-kP r (bg v pq.1)).sum=kP r (bg v b)-kP r (bg v a)
 |a,[],b=>by simp[pairs]
 |a,d::c,b=>by
  have ih:=P5 (v:=v) r d c b;show((pairs (a::d::(c++[b]))).map _).sum=_;have:pairs (a::d::(c++[b]))=(a,d)::pairs (d::(c++[b])):=rfl;rw[this,cF,kZ,ih];dsimp only
  lia
theorem NV(f g h:α->Int)(e: ∀a,f a=g a-h a): ∀l:List α,(l.map f).sum=(l.map g).sum-(l.map h).sum
 |[]=>rfl
 |a::r=>by simp[NV f g h e r,e a];lia
theorem Zs{l m:List Int}(h:l.Perm m):l.sum=m.sum:=by
 induction h with
 |nil=>rfl
 |cons a _ ih=>simp[ih]
 |swap a b l=>simp;lia
 |trans _ _ i1 i2=>rw[i1,i2]
def Xh{v:Vw}(k:v.Ok){N F:Int}{S:Sw}{l:List Pt}{r:Nat}{x:Int}(hl:l≠ [])(hr:r<4*v.h)(hx:N<=x)(hF:x<=F):
  val (gG v N F S (placesOf l)) r x=val S r x-windings v.S (polygon l) x (v.top-v.at r):=by
 obtain⟨⟨s,c,hc⟩,hp⟩:=L7 hl;unfold gG;rw[Me k hx hF,FK,<- Zs (hp.map (lO v.S x (v.top-v.at r)))];have:=NV (lO v.S x (v.top-v.at r)) (λ pq:Corner×Corner=>kP r (bg v pq.2)-kP r (bg v pq.1)) (λ pq=>eC v (bg v pq.1) (bg v pq.2) r x) (λ a=>aaR k hr) (pairs (placesOf l));rw[this];rw[hc,P5];simp
end
noncomputable def cnt (x:Int) (l:List Int):Nat:=l.countP λ a=>decide (a<=x)
def Pre(x:Int)(l:List Int):Prop:=l.Pairwise λ a b=>b<=x->a<=x
noncomputable def lo (u d:Int):Int:=if u<d then u else d
noncomputable def hi (u d:Int):Int:=if u<d then d else u
noncomputable def gI (st:List (Int×Int)×Int×Int) (ud:Int×Int):List (Int×Int)×Int×Int:=
 if st.2.2<lo ud.1 ud.2 then(if st.2.1<st.2.2 then st.1++[(st.2.1,st.2.2)]else st.1,lo ud.1 ud.2,hi ud.1 ud.2)else(st.1,st.2.1,hi ud.1 ud.2)
noncomputable def mP (st:List (Int×Int)×Int×Int):List (Int×Int):=if st.2.1<st.2.2 then st.1++[(st.2.1,st.2.2)]else st.1
noncomputable def mD (ups downs:List Int) (N:Int):List (Int×Int):=mP ((ups.zip downs).foldl gI ([],N,N))
def In(x:Int)(sp:List (Int×Int)):Prop:=∃s∈sp,s.1<=x/\x<s.2
def Row(x:Int)(sp:List (Int×Int)):Prop:=sp.Pairwise λ s t=>(t.1<=x->s.1<=x)/\(x<s.2->x<t.2)
def J4(x:Int)(st:List (Int×Int)×Int×Int):Prop:=Row x st.1/\ ∀s∈st.1,(st.2.1<=x->s.1<=x)/\(x<s.2->x<st.2.2)
def nG(x:Int)(st:List (Int×Int)×Int×Int):Prop:=In x st.1\/(st.2.1<=x/\x<st.2.2)
def OR:In x (sp++[(b,e)])↔In x sp\/(b<=x/\x<e):=by
 unfold In;constructor
 ·rintro⟨s,hs,h⟩;rcases bJ.mp hs with z|z
  ·exact .inl ⟨s,z,h⟩
  ·simp at z;subst z;exact .inr h
 ·rintro(⟨s,hs,h⟩|h)
  ·exact⟨s,eZ _ hs,h⟩
  ·exact⟨(b,e),by simp,h⟩
def M5:In x (mP st)↔nG x st:=by
 unfold mP nG;split
 ·exact OR
 ·constructor
  ·exact .inl
  ·rintro(h|h)
   ·exact h
   ·lia
def M8(h:Row x sp)(k: ∀s∈sp,(b<=x->s.1<=x)/\(x<s.2->x<e)):Row x (sp++[(b,e)]):=by unfold Row;rw[AV];refine⟨h,by simp,λ s hs t ht=>?_⟩;simp at ht;subst ht;exact k s hs
def Ys(h:J4 x st):Row x (mP st):=by
 unfold mP;split
 ·exact M8 h.1 h.2
 ·exact h.1
theorem G7: ∀(l:List (Int×Int))(st:List (Int×Int)×Int×Int),(l.Pairwise λ p q=>(lo q.1 q.2<=x->lo p.1 p.2<=x)/\(x<hi p.1 p.2->x<hi q.1 q.2))->(∀p∈l,x<st.2.2->x<hi p.1 p.2)->(∀p∈l,lo p.1 p.2<=x->st.2.1<=x)->J4 x st->
  (nG x (l.foldl gI st)↔nG x st\/ ∃p∈l,lo p.1 p.2<=x/\x<hi p.1 p.2)/\J4 x (l.foldl gI st)
 |[],st,_,_,_,h4=>⟨by simp,h4⟩
 |p::l,(sp,b,e),hp,h2,h3,h4=>by
  rw[gT];rw[xf]at hp;have g2:x<e->x<hi p.1 p.2:=h2 p (.head _);have g3:lo p.1 p.2<=x->b<=x:=h3 p (.head _);have k2:=λ q hq=>(hp.1 q hq).2;have k3:=λ q hq=>(hp.1 q hq).1;by_cases c:e<lo p.1 p.2
  ·have es:gI (sp,b,e) p=(if b<e then sp++[(b,e)]else sp,lo p.1 p.2,hi p.1 p.2):=by unfold gI;rw[ao c]
   rw[es];have hj:J4 x (if b<e then sp++[(b,e)]else sp,lo p.1 p.2,hi p.1 p.2):=by
    have old: ∀s∈sp,(lo p.1 p.2<=x->s.1<=x)/\(x<s.2->x<hi p.1 p.2):=λ s hs=>⟨λ z=>(h4.2 s hs).1 (g3 z),λ z=>g2 ((h4.2 s hs).2 z)⟩;split
    ·refine⟨M8 h4.1 h4.2,λ s hs=>?_⟩;rcases bJ.mp hs with z|z
     ·exact old s z
     ·simp at z;subst z;exact⟨g3,g2⟩
    ·exact⟨h4.1,old⟩
   obtain⟨i1,i2⟩:=G7 l _ hp.2 k2 k3 hj;refine⟨i1.trans ?_,i2⟩;have:nG x (if b<e then sp++[(b,e)]else sp,lo p.1 p.2,hi p.1 p.2)↔nG x (sp,b,e)\/(lo p.1 p.2<=x/\x<hi p.1 p.2):=by have:=M5 (x:=x) (st:=(sp,b,e));unfold mP at this;dsimp only at this;rw[<- this];unfold nG;exact Iff.rfl
   rw[this];simp[or_assoc]
  ·have es:gI (sp,b,e) p=(sp,b,hi p.1 p.2):=by unfold gI;rw[ai c]
   rw[es];have hj:J4 x (sp,b,hi p.1 p.2):=⟨h4.1,λ s hs=>⟨(h4.2 s hs).1,λ z=>g2 ((h4.2 s hs).2 z)⟩⟩;obtain⟨i1,i2⟩:=G7 l (sp,b,hi p.1 p.2) hp.2 k2 (λ q hq=>h3 q (.tail _ hq)) hj;refine⟨i1.trans ?_,i2⟩;have:nG x (sp,b,hi p.1 p.2)↔nG x (sp,b,e)\/(lo p.1 p.2<=x/\x<hi p.1 p.2):=by
    unfold nG;dsimp only;constructor
    ·rintro(z|⟨z1,z2⟩)
     ·exact .inl (.inl z)
     ·by_cases y:x<e
      ·exact .inl (.inr ⟨z1,y⟩)
      ·exact .inr ⟨by lia,z2⟩
    ·rintro((z|⟨z1,z2⟩)|⟨z1,z2⟩)
     ·exact .inl z
     ·exact .inr ⟨z1,g2 z2⟩
     ·exact .inr ⟨g3 z1,z2⟩
   rw[this];simp[or_assoc]
theorem MO: ∀(us ds:List Int),Pre x us->Pre x ds->(us.zip ds).Pairwise λ p q=>(lo q.1 q.2<=x->lo p.1 p.2<=x)/\(x<hi p.1 p.2->x<hi q.1 q.2)
 |[],_,_,_=>by simp
 |_::_,[],_,_=>by simp
 |u::us,d::ds,hu,hd=>by
  unfold Pre at hu hd;rw[xf]at hu hd;rw[uz,xf];refine⟨λ q hq=>?_,MO us ds hu.2 hd.2⟩;have h1:=hu.1 q.1 (pB hq).1;have h2:=hd.1 q.2 (pB hq).2;unfold lo hi;constructor
  ·intro z;split at z<;>split<;>lia
  ·intro z;split at z<;>split<;>lia
def cnt_cons(x a:Int)(l:List Int):cnt x (a::l)=cnt x l+if a<=x then 1 else 0:=by unfold cnt;rw[List.countP_cons];simp
def BD(h: ∀b∈l,b<=x->a<=x)(ha: ¬a<=x):cnt x l=0:=by unfold cnt;rw[List.countP_eq_zero];intro b hb z;exact ha (h b hb (dY z))
theorem Mr: ∀us ds,us.length=ds.length->Pre x us->Pre x ds->((∃p∈us.zip ds,lo p.1 p.2<=x/\x<hi p.1 p.2)↔cnt x us≠cnt x ds)
 |[],[],_,_,_=>by simp
 |[],_::_,h,_,_=>by cases h
 |_::_,[],h,_,_=>by cases h
 |u::us,d::ds,h,hu,hd=>by
  unfold Pre at hu hd;rw[xf]at hu hd;have ih:=Mr us ds (by simpa using h) hu.2 hd.2;rw[cnt_cons,cnt_cons,uz];have ex:(∃p∈(u,d)::us.zip ds,lo p.1 p.2<=x/\x<hi p.1 p.2)↔(lo u d<=x/\x<hi u d)\/ ∃p∈us.zip ds,lo p.1 p.2<=x/\x<hi p.1 p.2:=by simp
  rw[ex];by_cases c1:u<=x<;>by_cases c2:d<=x
  ·rw[ao c1,ao c2,ih];unfold lo hi;constructor
   ·rintro(z|z)
    ·exfalso;revert z;split<;>simp_all
    ·simp_all
   ·intro z;exact .inr (by simp_all)
  ·have:=BD hd.1 c2;rw[ao c1,ai c2,this];refine⟨λ _=>by lia,λ _=> .inl ?_⟩;unfold lo hi;constructor<;>split<;>(and_intros<;>first|assumption|lia)
  ·have:=BD hu.1 c1;rw[ai c1,ao c2,this];refine⟨λ _=>by lia,λ _=> .inl ?_⟩;unfold lo hi;constructor<;>split<;>lia
  ·have e1:=BD hd.1 c2;have e2:=BD hu.1 c1;rw[ai c1,ai c2,e1,e2];rw[e1,e2]at ih;constructor
   ·rintro(⟨z,_⟩|z)
    ·exfalso;revert z;unfold lo;split<;>trivial
    ·exact ih.mp z
   ·intro z;exact absurd rfl z
def Zd(hN:N<=x)(hl:us.length=ds.length)(hu:Pre x us)(hd:Pre x ds):(In x (mD us ds N)↔cnt x us≠cnt x ds)/\Row x (mD us ds N):=by
 obtain⟨h1,h2⟩:=G7 (us.zip ds) ([],N,N) (MO us ds hu hd) (λ _ _ z=>absurd z (by show¬x<N;exact Ak.mpr ‹_›)) (λ _ _ _=>hN) ⟨List.Pairwise.nil,λ _ z=>(by cases z)⟩;refine⟨?_,Ys h2⟩;unfold mD;rw[M5,h1,<- Mr us ds hl hu hd];constructor
 ·rintro((⟨s,hs,_⟩|⟨z1,z2⟩)|z)
  ·cases hs
  ·exfalso;dsimp only at z1 z2;lia
  ·exact z
 ·exact .inr
def BU(x:Int)(a b:List Int):cnt x (a++b)=cnt x a+cnt x b:=by unfold cnt;rw[List.countP_append]
def NF(h:a.Perm b):cnt x a=cnt x b:=by unfold cnt;exact h.countP_eq _
theorem Gi(h:n<=x): ∀k:Nat,cnt x (List.replicate k n)=k
 |0=>rfl
 |k+1=>by rw[nR,cnt_cons,Gi h k,ao h]
theorem Gj(h:x<n): ∀k:Nat,cnt x (List.replicate k n)=0
 |0=>rfl
 |k+1=>by rw[nR,cnt_cons,Gj h k,ai (by simp_all)]
def LU(h:l.Pairwise (·<= ·)):Pre x l:=h.imp λ a b=>by exact uh ‹_› ‹_›
def Ni(h:n<=x)(k:Nat)(p:Pre x l):Pre x (List.replicate k n++l):=by unfold Pre;rw[AV];refine⟨Lg.mpr (.inr λ z=>z),p,λ a ha b _ _=>?_⟩;rw[Lj ha];exact h
def Mp(h:x<n)(k:Nat)(p:Pre x l):Pre x (l++List.replicate k n):=by unfold Pre;rw[AV];refine⟨p,Lg.mpr (.inr λ z=>z),λ a _ b hb z=>?_⟩;rw[Lj hb]at z;exact absurd z (by exact Int.not_le.mpr ‹_›)
noncomputable def met (r:Nat) (l:List (Nat×Ln)):List Ln:=(l.filter λ t=>decide (t.1<=r/\r<t.2.e)).map (·.2)
noncomputable def eO (S:Sw) (r:Nat):Int:=(S.left.map (i_ r)).sum
theorem Ho: ∀l:List (Nat×Ln),((cnt x ((met r l).map λ n=>n.cr r):Nat):Int)=(l.map (jU r x)).sum
 |[]=>rfl
 |t::l=>by
  have ih:=Ho (r:=r) (x:=x) l;unfold met at ih⊢;rw[rD,cF,kZ,<- ih];by_cases c:t.1<=r/\r<t.2.e
  ·rw[ao (cQ c),cF,cF,cnt_cons];unfold jU;by_cases c2:t.2.cr r<=x
   ·rw[ao c2,ao ⟨c.1,c.2,c2⟩];ac_rfl
   ·rw[ai c2,ai (λ z=>c2 z.2.2)];simp+arith only
  ·rw[ai (by rw[gF];exact c)];unfold jU;rw[ai (λ z=>c ⟨z.1,z.2.1⟩)];simp+arith only
noncomputable def e_ (F:Int) (a b:List Int):List Int:=a++List.replicate (b.length-a.length) (F+1)
def Ny(F:Int)(a b:List Int):(e_ F a b).length=(e_ F b a).length:=by unfold e_;simp;rw[rg,Nat.sub_add_eq_max,rg,Nat.sub_add_eq_max,Nat.max_comm]
def acr{a b:Nat}{L A B V:Int}(e1:(a:Int)=A)(e2:(b:Int)=B)(e3:V=A-B+L):L.toNat+a+0≠(-L).toNat+b+0↔V≠0:=by
 have:=Int.toNat_sub_toNat_neg L;generalize L.toNat=t at*;generalize(-L).toNat=u at*
 lia
def Yv(hN:N<=x)(hF:x<=F)(pu:us.Perm ((met r S.up).map λ n=>n.cr r))(su:us.Pairwise (·<= ·))(pd:ds.Perm ((met r S.down).map λ n=>n.cr r))(sd:ds.Pairwise (·<= ·)):
  (In x (mD (e_ F (List.replicate (eO S r).toNat N++us) (List.replicate (-eO S r).toNat N++ds)) (e_ F (List.replicate (-eO S r).toNat N++ds) (List.replicate (eO S r).toNat N++us)) N)↔val S r x≠0)/\
   Row x (mD (e_ F (List.replicate (eO S r).toNat N++us) (List.replicate (-eO S r).toNat N++ds)) (e_ F (List.replicate (-eO S r).toNat N++ds) (List.replicate (eO S r).toNat N++us)) N):=by
 have h:=Zd (x:=x) (N:=N) hN (Ny F (List.replicate (eO S r).toNat N++us) (List.replicate (-eO S r).toNat N++ds))
  (Mp (by lia) _ (Ni hN _ (LU su))) (Mp (by lia) _ (Ni hN _ (LU sd)))
 refine⟨h.1.trans ?_,h.2⟩;unfold e_;rw[BU,BU,BU,BU,Gj (n:=F+1) (by lia),Gj (n:=F+1) (by lia),Gi hN,Gi hN,NF pu,NF pd];have e1:=Ho (r:=r) (x:=x) S.up;have e2:=Ho (r:=r) (x:=x) S.down;have e3:val S r x=(S.up.map (jU r x)).sum-(S.down.map (jU r x)).sum+eO S r:=rfl;exact acr e1 e2 e3
theorem filter_or{α:Type}{p q o:α->Bool}(h: ∀a,o a=(p a||q a))(n: ∀a,¬(p a=true/\q a=true)): ∀l:List α,List.Perm (l.filter p++l.filter q) (l.filter o)
 |[]=> .nil
 |a::l=>by
  have ih:=filter_or h n l;rw[rD,rD,rD];cases hp:p a<;>cases hq:q a<;>have:=h a<;>rw[hp,hq]at this<;>simp only[this,jn,jL,Bool.false_or,Bool.true_or,Bool.or_false,Bool.or_true,Bool.or_self,mw]
  ·exact ih
  ·exact(List.perm_middle).trans (.cons _ ih)
  ·exact .cons _ ih
  ·exact absurd ⟨hp,hq⟩ (n a)
noncomputable def begun (r:Nat) (l:List (Nat×Ln)):List Ln:=(l.filter λ t=>decide (t.1=r)).map (·.2)
def Nq{r:Nat}{l:List (Nat×Ln)}(hl: ∀t∈l,t.1<t.2.e){A:List Ln}(hA:A.Perm ((l.filter λ t=>decide (t.1<r/\r<=t.2.e)).map (·.2))):List.Perm ((A.filter λ n=>decide (r<n.e))++begun r l) (met r l):=by
 have h1:=hA.filter λ n=>decide (r<n.e);refine(h1.append_right _).trans ?_;unfold begun met;rw[List.filter_map,<- fw,List.filter_filter];refine List.Perm.map _ ?_;have e:l.filter (λ t=>decide (t.1<=r/\r<t.2.e))=l.filter (λ t=>((decide (r<t.2.e)&&decide (t.1<r/\r<=t.2.e))||decide (t.1=r))):=by apply List.filter_congr;intro t ht;have:=hl t ht;rw[ki];simp;exact⟨λ h=>(Nat.lt_or_eq_of_le h.1).imp (λ g=>⟨h.2,g,eh h.2⟩) id,λ z=>z.elim (λ h=>⟨eh h.2.1,h.1⟩) λ e=>⟨nM e,e▸this⟩⟩
 rw[e];exact filter_or (λ _=>rfl) (λ a=>by simp;exact λ _ h _=>ek h) l
def Nr:met r l=(l.filter λ t=>decide (t.1<r+1/\r+1<=t.2.e)).map (·.2):=by
 unfold met
 congr 1
 apply List.filter_congr;intro t _;rw[ki];simp
 lia
def filter_none{r:Nat}{A:List Ln}(h: ∀n∈A,r<=n.e)(k: ∀n∈A,n.e≠r):A.filter (λ n=>decide (r<n.e))=A:=by rw[List.filter_eq_self];intro n hn;have:=h n hn;have:=k n hn;rw[gF];exact Nat.lt_of_le_of_ne ‹_› (mq ‹_›)
noncomputable def gW (S:Sw) (r:Nat):Int:=(S.left.map λ t=>(if t.1=r then t.2.2 else 0)-(if t.2.1=r then t.2.2 else 0)).sum
def l1{a b r:Nat}{w:Int}(h:a<b):(if a<=r/\r<b then w else 0)=(if a<r/\r<=b then w else 0)+((if a=r then w else 0)-(if b=r then w else 0)):=by
 rcases Nat.lt_trichotomy a r with c|c|c
 ·rw[ai (ek c)];rcases Nat.lt_trichotomy b r with d|d|d
  ·rw[ai (λ z=>Nat.lt_asymm d z.2),ai (λ z=>wL.mpr d z.2),ai (ek d)];rfl
  ·rw[ai (λ z=>kg z.2 d),ao ⟨c,nM d.symm⟩,ao d];lia
  ·rw[ao ⟨eh c,d⟩,ao ⟨c,eh d⟩,ai (kg d)];simp
 ·rw[ao ⟨nM c,c▸h⟩,ai (λ z=>ek z.1 c),ao c,ai (c▸kg h)];simp
 ·rw[ai (λ z=>wL.mpr c z.1),ai (λ z=>Nat.lt_asymm c z.1),ai (kg c),ai (kg (EY c h))];rfl
theorem YH(l:List (Nat×Nat×Int))(h: ∀t∈l,t.1<t.2.1):(l.map (i_ r)).sum=(l.map λ t=>if t.1<r/\r<=t.2.1 then t.2.2 else 0).sum+(l.map λ t=>(if t.1=r then t.2.2 else 0)-(if t.2.1=r then t.2.2 else 0)).sum:=by
 induction l with
 |nil=>rfl
 |cons t l ih=>
  have h1:=h t (.head _);simp only[cF,kZ];rw[ih λ t ht=>h t (.tail _ ht)];rw[show i_ r t=_ from l1 h1];simp+arith only
def ac2{A X r s:Nat}(h:X<=A)(h2:s<=r):2*A+r-(2*X+s)=2*(A-X)+(r-s):=by obtain⟨d,rfl⟩:=Lf h;obtain⟨e,rfl⟩:=Lf h2;rw[A2,A2,Nat.mul_add];exact Nat.sub_eq_of_eq_add (by ac_rfl)
def P6{a x:Nat}(h:x<=a)(h2:x%2<=a%2):(a-x)%2=a%2-x%2/\(a-x)/2=a/2-x/2:=by have e:=ac2 (Nat.div_le_div_right (c:=2) h) h2;rw[wV,wV]at e;have l:a%2-x%2<2:=nP (Nat.sub_le ..) (Nat.mod_lt _ (by decide));rw[e,Nat.mul_add_mod,Nat.mul_add_div (by decide),Nat.mod_eq_of_lt l,Nat.div_eq_of_lt l];exact⟨rfl,rfl⟩
def Ih(a b:Nat):(a&&&b)%2=a%2&&&b%2:=Nat.and_mod_two_pow (n:=1)
theorem FZ: ∀(n a b c:Nat),a<=n->(a-(a&&&b)).testBit c=(a.testBit c&& !b.testBit c)
 |0,a,b,c,h=>by
  rw[Nat.le_zero.mp h];simp
 |n+1,a,b,c,h=>by
  by_cases ha:a=0
  ·subst ha;simp
  obtain⟨e1,e2⟩:=P6 (a:=a) (x:=a&&&b) wU (by rw[Ih];exact wU);cases c with
  |zero=>
   rw[w8,w8,w8,e1,Ih];rcases FI a with x|x<;>rcases FI b with y|y<;>rw[x,y]<;>rfl
  |succ c=>
   rw[w6,w6,w6,e2,Nat.and_div_two];exact FZ n _ _ c (Fg (dJ (Nat.div_lt_self (Fn ha) (by decide)) h))
theorem OD: ∀n k,k<=n->0<k-> ∃t,k-(k&&&(k-1))=2^t/\k.testBit t=true/\ ∀c,c<t->k.testBit c=false
 |0,k,h,h0=>absurd h0 (Nat.not_lt.mpr h)
 |n+1,k,h,h0=>by
  have h2:(k&&&(k-1))/2=k/2&&&(k-1)/2:=Nat.and_div_two;have h3:=Ih k (k-1);obtain⟨d1,d2⟩:=P6 (a:=k) (x:=k&&&(k-1)) wU (by rw[h3];exact wU);rw[<- wV (k-(k&&&(k-1))) 2,d1,d2,h2,h3];rcases FI k with hk|hk
  ·have q:=wV k 2;rw[hk]at q;have z:0<k/2:=Fn λ z=>by rw[z]at q;exact ek h0 q
   have e:(k-1)/2=k/2-1:=by obtain⟨m,e⟩:=Nat.exists_eq_succ_of_ne_zero (kg z);rw[e]at q⊢;rw[<- q];exact Nat.mul_add_div (by decide) m 1
   obtain⟨t,e1,e2,e3⟩:=OD n (k/2) (Fg (dJ (Nat.div_lt_self h0 (by decide)) h)) z;rw[e,e1,hk,Nat.zero_and];refine⟨t+1,Nat.mul_comm ..,by rw[w6];exact e2,λ c hc=>?_⟩;cases c with
   |zero=>rw[w8,hk];rfl
   |succ c=>rw[w6];exact e3 c (Nat.lt_of_succ_lt_succ hc)
  ·have q:=wV k 2;rw[hk]at q;rw[show k-1=2*(k/2)from(gh (·-1) q).symm,Nat.mul_div_cancel_left _ (by decide),Nat.mul_mod_right,hk,Nat.and_self,EX];exact⟨0,rfl,by rw[w8,hk];rfl,λ c hc=>absurd hc (Ax _)⟩
def ZK(h:0<k)(hc:k.testBit c=true):c<=k.log2:=by apply my;intro hn;have:k<2^c:=(Nat.log2_lt (by exact kg ‹_›)).mp (by simp_all);rw[Ld this]at hc;cases hc
noncomputable def Cr (v:Vw) (sh:Int) (m:Nat) (s:Int×Int):Nat:=m|||dG v (s.1+sh) (s.2+sh)
def Y7(k:v.Ok):(Cr v sh m s).testBit c=true↔m.testBit c=true\/(c<4*v.w/\s.1<=v.at c-sh/\v.at c-sh<s.2):=by
 unfold Cr;rw[E4,Fb,Gh k];constructor
 ·rintro(h|⟨h1,h2,h3⟩)
  ·exact .inl h
  ·exact .inr ⟨h1,by lia,by lia⟩
 ·rintro(h|⟨h1,h2,h3⟩)
  ·exact .inl h
  ·exact .inr ⟨h1,by lia,by lia⟩
def BV{v:Vw}(k:v.Ok){c d:Nat}(h:c<=d):v.at c<=v.at d:=by
 have hD:0<=v.D:=by unfold Vw.D;exact nQ _
 unfold Vw.at;have:=pG (show(c:Int)<=d by simp_all) hD
 simp_all
noncomputable def four (n:Nat):Nat:=(if n.testBit 0 then 1 else 0)+(if n.testBit 1 then 1 else 0)+(if n.testBit 2 then 1 else 0)+(if n.testBit 3 then 1 else 0)
def XZ: ∀n,n<16-> [0,1,1,2,1,2,2,3,1,2,2,3,2,3,3,4][n]?=some (four n):=by decide
def BO(m k:Nat):four (m/2^(4*k)%16)=(if m.testBit (4*k)then 1 else 0)+(if m.testBit (4*k+1)then 1 else 0)+(if m.testBit (4*k+2)then 1 else 0)+(if m.testBit (4*k+3)then 1 else 0):=by
 have h: ∀i,i<4->(m/2^(4*k)%16).testBit i=m.testBit (4*k+i):=by
  intro i hi;rw[show(16:Nat)=2^4 from rfl,Nat.testBit_mod_two_pow,Nat.testBit_div_two_pow,cQ hi,Bool.true_and]
  congr 1
  exact rg _ _
 unfold four;rw[h 0 (by decide),h 1 (by decide),h 2 (by decide),h 3 (by decide)];rfl
section
open Kg15
def X2{size:Nat}{x y:Int}{p q:Corner}(hp:p.1*size<=x)(hq:q.1*size<=x):lO size x y (p,q)=0:=by
 unfold lO;dsimp only;generalize p.1*(size:Int)=px at*;generalize q.1*(size:Int)=qx at*;generalize p.2*(size:Int)=py at*;generalize q.2*(size:Int)=qy at*;have e1:(qx-px)*(y-py)-(x-px)*(qy-py)= -((x-qx)*(y-py))-(x-px)*(qy-y):=by grind
 rw[ai,ai]
 ·rintro⟨h1,h2,h3⟩;have a1:0<=(x-qx)*(py-y):=uq (by simp_all) (by lia);have a2:0<=(x-px)*(y-qy):=uq (by lia) (by lia);have e2:(x-qx)*(y-py)= -((x-qx)*(py-y)):=by grind
  have e3:(x-px)*(qy-y)= -((x-px)*(y-qy)):=by grind
  rw[e1,e2,e3]at h3
  lia
 ·rintro⟨h1,h2,h3⟩;have a1:0<=(x-qx)*(y-py):=uq (by lia) (by lia);have a2:0<=(x-px)*(qy-y):=uq (by lia) (by lia);rw[e1]at h3;omega
noncomputable def yP (size:Nat) (y:Int) (p:Corner):Int:=if p.2*size<=y then 1 else 0
def YS{size:Nat}{x y:Int}{p q:Corner}(hp:x<p.1*size)(hq:x<q.1*size):lO size x y (p,q)=yP size y p-yP size y q:=by
 unfold lO yP;dsimp only;generalize p.1*(size:Int)=px at*;generalize q.1*(size:Int)=qx at*;generalize p.2*(size:Int)=py at*;generalize q.2*(size:Int)=qy at*;have e1:(qx-px)*(y-py)-(x-px)*(qy-py)=(qx-x)*(y-py)+(px-x)*(qy-y):=by grind
 rw[e1];by_cases h1:py<=y
 ·by_cases h2:qy<=y
  ·rw[ai (by lia),ai (by lia),ao h1,ao h2];rfl
  ·have a1:0<=(qx-x)*(y-py):=uq (by lia) (by lia);have a2:0<(px-x)*(qy-y):=Int.mul_pos (by simp_all) (by simp_all);rw[ao ⟨h1,by simp_all,by omega⟩,ao h1,ai h2];rfl
 ·by_cases h2:qy<=y
  ·have a1:0<(qx-x)*(py-y):=Int.mul_pos (by lia) (by lia);have a2:0<=(px-x)*(y-qy):=uq (by lia) (by lia);have e2:(qx-x)*(y-py)= -((qx-x)*(py-y)):=by grind
   have e3:(px-x)*(qy-y)= -((px-x)*(y-qy)):=by grind
   rw[ai (by lia),ao ⟨h2,by lia,by rw[e2,e3];lia⟩,ai h1,ao h2];rfl
  ·rw[ai (by lia),ai (by lia),ai h1,ai h2];rfl
theorem Rm(u:Corner->Int): ∀(a:Corner)(c:List Corner)(b:Corner),((pairs (a::(c++[b]))).map λ pq=>u pq.1-u pq.2).sum=u a-u b
 |a,[],b=>by simp[pairs]
 |a,c::r,b=>by
  have:=Rm u c r b;unfold pairs at this⊢;simp only[fU,uH,ur,uz,cF,kZ]at this⊢
  lia
def xS(h:pq∈jH c):pq.1∈c/\pq.2∈c:=by
 obtain⟨h1,h2⟩:=pB (a:=pq.1) (b:=pq.2) h;refine⟨h1,?_⟩;rcases bJ.mp h2 with z|z
 ·exact xk z
 ·exact xj z
theorem Be{α:Type}{f g:α->Int}: ∀{l:List α},(∀a∈l,f a=g a)->(l.map f).sum=(l.map g).sum
 |[],_=>rfl
 |a::r,h=>by simp[h a (by simp),Be (l:=r) λ b hb=>h b (by simp[hb])]
theorem Xw{size:Nat}{x y:Int}{c:List Corner}(h: ∀p∈c,p.1*size<=x):windings size c x y=0:=by
 rw[FK,Be (g:=λ _=>0) λ pq jE=>X2 (h _ (xS jE).1) (h _ (xS jE).2)];generalize jH c=l
 induction l with
 |nil=>rfl
 |cons a r ih=>simp at ih⊢;exact ih
theorem Yb{size:Nat}{x y:Int}{c:List Corner}(h: ∀p∈c,x<p.1*size):windings size c x y=0:=by
 rw[FK,Be (g:=λ pq=>yP size y pq.1-yP size y pq.2) λ pq jE=>YS (h _ (xS jE).1) (h _ (xS jE).2)];cases c with
 |nil=>rfl
 |cons a r=>
  rw[Bn,fU,Rm]
  lia
def ip(a b c d:Int)(p:Int×Int):Prop:=a<=p.1/\p.1<=b/\c<=p.2/\p.2<=d
def Sg{a j k:Int}(e:j+k=8):2*a*j*j+2*(2*a)*j*k+2*a*k*k=128*a:=by
 rw[show k=8-j by lia]
 grind
def mm{a x j:Int}(h:a<=x)(hj:0<=j):a*j<=x*j:=FJ h hj
def m2{a x:Int}(h:a<=x):2*a<=2*x:=pG h (by decide)
def Pw{a x y z j k:Int}(hj:0<=j)(hk:0<=k)(e:j+k=8)(hx:2*a<=x)(hy:2*a<=y)(hz:2*a<=z):128*a<=x*j*j+2*y*j*k+z*k*k:=
 Sg e▸uo (uo (mm (mm hx hj) hj) (mm (mm (m2 hy) hj) hk)) (mm (mm hz hk) hk)
def Px{a x y z j k:Int}(hj:0<=j)(hk:0<=k)(e:j+k=8)(hx:x<=2*a)(hy:y<=2*a)(hz:z<=2*a):x*j*j+2*y*j*k+z*k*k<=128*a:=
 Sg e▸uo (uo (mm (mm hx hj) hj) (mm (mm (m2 hy) hj) hk)) (mm (mm hz hk) hk)
def aaW{a b c d:Int}{p q e:Pt}(hp:ip (2*a) (2*b) (2*c) (2*d) (p.x,p.y))(hq:ip (2*a) (2*b) (2*c) (2*d) (q.x,q.y))(he:ip (2*a) (2*b) (2*c) (2*d) (e.x,e.y)){k:Nat}(hk:k<8):ip (128*a) (128*b) (128*c) (128*d) (cur p q e k):=by
 have j0:0<=8-(k:Int):=by lia
 have k0:=nQ k;have e8:8-(k:Int)+k=8:=Int.sub_add_cancel ..;exact⟨Pw j0 k0 e8 hp.1 hq.1 he.1,Px j0 k0 e8 hp.2.1 hq.2.1 he.2.1,Pw j0 k0 e8 hp.2.2.1 hq.2.2.1 he.2.2.1,Px j0 k0 e8 hp.2.2.2 hq.2.2.2 he.2.2.2⟩
def a2{a x y:Int}(h:a<=x)(h2:a<=y):2*a<=x+y:=by rw[Int.two_mul];exact uo h h2
def b2{a x y:Int}(h:x<=a)(h2:y<=a):x+y<=2*a:=by rw[Int.two_mul];exact uo h h2
theorem Gb{a b c d:Int}: ∀(n:Nat)(L:List Pt),L.length<=n->(∀p∈L,ip (2*a) (2*b) (2*c) (2*d) (p.x,p.y))-> ∀q∈pieces L,ip (128*a) (128*b) (128*c) (128*d) q
 |_,[],_,_,q,h=>by simp[pieces]at h
 |_,[p],_,_,q,h=>by simp[pieces]at h
 |0,_::_::_,h,_,_,_=>absurd h (by simp)
 |n+1,p::q::r,hn,hB,z,hz=>by
  by_cases hq:q.on=true
  ·rw[pJ hq]at hz;rcases bV.mp hz with e|e
   ·have:=hB p (by simp);subst e;have k: ∀x y:Int,2*x<=y->128*x<=64*y:=by lia
    have l: ∀x y:Int,y<=2*x->64*y<=128*x:=by lia
    exact⟨k _ _ this.1,l _ _ this.2.1,k _ _ this.2.2.1,l _ _ this.2.2.2⟩
   ·exact Gb n (q::r) (by simp at hn⊢;trivial) (λ p' kL=>hB p' (by simp at kL⊢;right;exact kL)) z e
  ·cases r with
   |nil=>simp[pieces,hq]at hz
   |cons e s=>
    rw[rJ hq]at hz;rcases bJ.mp hz with y|y
    ·rw[Gu,bF]at y;obtain⟨k,hk,rfl⟩:=y;exact aaW (hB p (by simp)) (hB q (by simp)) (hB e (by simp)) (As.mp hk)
    ·exact Gb n (e::s) (by simp at hn⊢;exact eh ‹_›) (λ p' kL=>hB p' (by simp at kL⊢;right;right;exact kL)) z y
def Yc(h: ∀p∈l,ip a b c d (p.x,p.y)): ∀p∈whole l,ip (2*a) (2*b) (2*c) (2*d) (p.x,p.y):=by
 intro p hp;unfold whole at hp;rw[List.mem_flatMap]at hp;obtain⟨⟨q,q'⟩,hq,jE⟩:=hp;obtain⟨m1,m2⟩:=pB hq;have c1:=h q m1;have c2:=h q' (by
  rcases bJ.mp m2 with z|z
  ·exact xk z
  ·exact xj z)
 rcases bV.mp jE with rfl|e
 ·exact⟨Mx.m2 c1.1,Mx.m2 c1.2.1,Mx.m2 c1.2.2.1,Mx.m2 c1.2.2.2⟩
 ·split at e
  ·rcases xg.mp e with rfl;exact⟨a2 c1.1 c2.1,b2 c1.2.1 c2.2.1,a2 c1.2.2.1 c2.2.2.1,b2 c1.2.2.2 c2.2.2.2⟩
  ·cases e
def Xy(h:p∈turned l):p∈l:=by
 unfold turned at h;split at h
 ·rcases bJ.mp h with z|z
  ·exact xk z
  ·exact xj z
 ·exact h
def Nj(h: ∀p∈l,ip a b c d (p.x,p.y)): ∀q∈polygon l,ip (128*a) (128*b) (128*c) (128*d) q:=by
 intro q hq;unfold polygon at hq;split at hq
 ·cases hq
 ·rename_i p r e;have hm: ∀p'∈turned (whole l),ip (2*a) (2*b) (2*c) (2*d) (p'.x,p'.y):=λ p' kL=>Yc h p' (Xy kL);rw[e]at hm;refine Gb _ _ (aQ _) (λ p' kL=>hm p' ?_) q hq;simp at kL⊢;rcases kL with z|z|z
  ·exact .inl z
  ·exact .inr z
  ·exact .inl z
theorem Mq: ∀a l,l≠ []->q∈a::l-> ∃pq∈pairs (a::l),q=pq.1\/q=pq.2
 |a,[],h,_=>absurd rfl h
 |a,b::r,_,h=>by
  have e:pairs (a::b::r)=(a,b)::pairs (b::r):=by simp[pairs]
  rw[e];rcases bV.mp h with z|z
  ·exact⟨(a,b),by simp,.inl z⟩
  ·by_cases hr:r=[]
   ·subst hr;simp at z;exact⟨(a,b),by simp,.inr z⟩
   ·obtain⟨pq,h1,h2⟩:=Mq b r hr z;exact⟨pq,by simp[h1],h2⟩
def Xj(hl:l≠ [])(h:q∈placesOf l):q∈polygon l:=by
 obtain⟨⟨s,c,hc⟩,hp⟩:=L7 hl;rw[hc]at h;obtain⟨pq,h1,h2⟩:=Mq (fm s) (c++[fm s]) (by simp) h;rw[<- hc]at h1;have h3:=xS (hp.mem_iff.mp h1);rcases h2 with z|z
 ·rw[z];exact h3.1
 ·rw[z];exact h3.2
theorem Gw: ∀(n:Nat)(p:Pt)(r:List Pt),r.length<=n->(iu p r).length<=8*r.length
 |_,p,[],_=>by simp[iu]
 |0,_,_::_,h=>absurd h (by simp)
 |n+1,p,q::r,h=>by
  by_cases hq:q.on=true
  ·rw[GZ hq];have:=Gw n q r (by simp at h;trivial);simp
   lia
  ·cases r with
   |nil=>simp[iu,hq]
   |cons e s=>
    rw[Gv hq];have:=Gw n e s (by simp at h;exact eh ‹_›);simp[mH]
    lia
def places_len(l:List Pt):(placesOf l).length<=1+16*l.length:=by
 have h:=L6 (l:=l);unfold placesOf;split
 ·simp
 ·rename_i p r e;rw[e]at h;have:=Gw _ p r (aQ _);simp at h⊢
  lia
end
section
open Kg15
def jA(v:Vw)(g:Int×List (List Corner))(r c:Nat):Prop:=(g.2.map λ p=>windings v.S p (v.at c-(v.left+128*v.S*g.1)) (v.top-v.at r)).sum≠0
def X5{v:Vw}{g:Int×List (List Corner)}{i j a b:Nat}:covers v.U v.S g.1 g.2 ((i:Int)-v.x0) ((j:Int)-v.y0) a b=true↔jA v g (4*j+b) (4*i+a):=by
 unfold covers jA;dsimp only;have e1:(8*((i:Int)-v.x0)+2*(a:Int)+1)*v.U*16-g.1*128*v.S=v.at ((4*i+a:Nat):Int)-(v.left+128*v.S*g.1):=by
  unfold Vw.at Vw.left Vw.M Vw.D;rw[Int.natCast_add,Aw]
  grind
 have e2: -((8*((j:Int)-v.y0)+2*(b:Int)+1)*v.U*16)=v.top-v.at ((4*j+b:Nat):Int):=by
  unfold Vw.at Vw.top Vw.M Vw.D;rw[Int.natCast_add,Aw]
  grind
 rw[e1,e2];simp
def acC(f:Nat->Nat->Bool):(((List.range 4).flatMap λ(b:Nat)=>(List.range 4).map λ(a:Nat)=>f b a).filter (·==true)).length=
  ((if f 0 0 then 1 else 0)+(if f 0 1 then 1 else 0)+(if f 0 2 then 1 else 0)+(if f 0 3 then 1 else 0))+((if f 1 0 then 1 else 0)+(if f 1 1 then 1 else 0)+(if f 1 2 then 1 else 0)+(if f 1 3 then 1 else 0))+
  ((if f 2 0 then 1 else 0)+(if f 2 1 then 1 else 0)+(if f 2 2 then 1 else 0)+(if f 2 3 then 1 else 0))+((if f 3 0 then 1 else 0)+(if f 3 1 then 1 else 0)+(if f 3 2 then 1 else 0)+(if f 3 3 then 1 else 0)):=by
 rw[<- List.countP_eq_length_filter];show List.countP _ [f 0 0,f 0 1,f 0 2,f 0 3,f 1 0,f 1 1,f 1 2,f 1 3,f 2 0,f 2 1,f 2 2,f 2 3,f 3 0,f 3 1,f 3 2,f 3 3]=_;simp only[List.countP_cons,List.countP_nil,beq_true]
 lia
noncomputable def yj (m:Nat->Nat) (j i:Nat):Nat:=four (m (4*j)/2^(4*i)%16)+four (m (4*j+1)/2^(4*i)%16)+four (m (4*j+2)/2^(4*i)%16)+four (m (4*j+3)/2^(4*i)%16)
def aca:yj m j i=(((List.range 4).flatMap λ(b:Nat)=>(List.range 4).map λ(a:Nat)=>(m (4*j+b)).testBit (4*i+a)).filter (·==true)).length:=by rw[acC λ b a=>(m (4*j+b)).testBit (4*i+a),yj,BO,BO,BO,BO];rfl
def acb{v:Vw}{gs:List (Int×List (List Corner))}{m:Nat->Nat}(h: ∀r c,r<4*v.h->c<4*v.w->((m r).testBit c=true↔∃g∈gs,jA v g r c)):
  ((List.range v.h).flatMap λ j=>(List.range v.w).map λ i=>yj m j i)=picture v.U v.S v.w v.h v.x0 v.y0 gs:=by
 unfold picture;rw[AA,AA]
 congr 1
 apply k_;intro j hj;apply k_;intro i hi;rw[As]at hj hi;rw[aca,AA,AA];refine gh (λ l:List (List Bool)=>(l.flatten.filter (·==true)).length) (k_ λ b hb=>k_ λ a ha=>?_);rw[As]at ha hb;rw[ki,h _ _ (by lia) (by lia),uv];exact exists_congr λ g=>E6 λ _=>X5.symm
noncomputable def i6 (v:Vw) (N F:Int) (S:Sw) (o:Outline):Sw:=o.foldl (λ S l=>gG v N F S (placesOf l)) S
theorem NL{v:Vw}(k:v.Ok){N F:Int}{r:Nat}{x:Int}(hr:r<4*v.h)(hx:N<=x)(hF:x<=F): ∀(o:Outline)(S:Sw),(∀l∈o,l≠ [])->val (i6 v N F S o) r x=val S r x-((o.map polygon).map λ p=>windings v.S p x (v.top-v.at r)).sum
 |[],S,_=>by simp[i6]
 |l::o,S,h=>by
  have e:i6 v N F S (l::o)=i6 v N F (gG v N F S (placesOf l)) o:=rfl;rw[e,NL k hr hx hF o _ λ l' h'=>h l' (by simp[h']),Xh k (h l (by simp)) hr hx hF];simp only[cF,kZ]
  lia
theorem rN{α:Type}{f:α->Int}: ∀{l:List α},(∀a∈l,f a=0)->(l.map f).sum=0
 |[],_=>rfl
 |a::r,h=>by simp[h a (by simp),rN (l:=r) λ b hb=>h b (by simp[hb])]
def NK{S:Sw}{r lo hi:Nat}{x:Int}(h1: ∀t∈S.up++S.down,lo<=t.1/\t.2.e<=hi)(h2: ∀t∈S.left,lo<=t.1/\t.2.1<=hi)(h:r<lo\/hi<=r):val S r x=0:=by
 unfold val;rw[rN (l:=S.up),rN (l:=S.down),rN (l:=S.left)]
 ·rfl
 ·intro t ht;have:=h2 t ht;unfold i_;exact ai (by lia)
 ·intro t ht;have:=h1 t (gj _ ht);unfold jU;exact ai (by lia)
 ·intro t ht;have:=h1 t (eZ _ ht);unfold jU;exact ai (by lia)
def oq(S:Sw)(B:Nat):Prop:=(∀t∈S.up++S.down,t.2.e<=B)/\ ∀t∈S.left,t.2.1<=B
def ZP{v:Vw}{N F:Int}{S:Sw}{p q:Pl}{B:Nat}(h:oq S B)(hp:p.r<=B)(hq:q.r<=B):oq (fM v N F S p q) B:=by
 obtain⟨h1,h2⟩:=h;unfold fM;split
 ·split
  ·exact⟨h1,h2⟩
  ·split
   ·refine⟨h1,λ t ht=>?_⟩;rcases bJ.mp ht with z|z
    ·exact h2 t z
    ·simp at z;subst z;exact hq
   ·refine⟨λ t ht=>?_,h2⟩;simp only[<- gE]at ht;rcases bJ.mp ht with z|z
    ·exact h1 t z
    ·simp at z;subst z;exact hq
 ·split
  ·exact⟨h1,h2⟩
  ·split
   ·refine⟨h1,λ t ht=>?_⟩;rcases bJ.mp ht with z|z
    ·exact h2 t z
    ·simp at z;subst z;exact hp
   ·refine⟨λ t ht=>?_,h2⟩;rcases bJ.mp ht with z|z
    ·rcases bJ.mp z with y|y
     ·exact h1 t (eZ _ y)
     ·simp at y;subst y;exact hp
    ·exact h1 t (gj _ z)
theorem L3{v:Vw}{N F:Int}: ∀(l:List (Corner×Corner))(S:Sw),oq S (4*v.h)->oq (l.foldl (lC v N F) S) (4*v.h)
 |[],_,h=>h
 |pq::l,S,h=>by
  rw[gT];refine L3 l _ ?_;unfold lC;split
  ·exact ZP h (BG _ _) (BG _ _)
  ·exact h
theorem Nz{v:Vw}{N F:Int}: ∀(o:Outline)(S:Sw),oq S (4*v.h)->oq (i6 v N F S o) (4*v.h)
 |[],_,h=>h
 |l::o,S,h=>Nz o _ (L3 _ S h)
end
section
open Kg15
def OI(h:far o=false)(hl:l∈o)(hp:p∈l): -16777216<=p.x/\p.x<16777216/\ -16777216<=p.y/\p.y<16777216:=by unfold far at h;rw[rF]at h;have h1:=h l hl;rw[Fe,rF]at h1;have h2:=h1 p hp;simp at h2;trivial
def Np{v:Vw}{sp:List (Int×Int)}{sh x0 x1:Int}{m m' k0 n c:Nat}(h:m'.testBit c=true↔m.testBit c=true\/(c<4*v.w/\In (v.at c-sh) ((sp.drop k0).take n)))(h0: ∀s∈sp.take k0,s.2<=x0)(h1: ∀s∈(sp.drop k0).drop n,x1<s.1)
  (hm:c<4*v.w->In (v.at c-sh) sp->m.testBit c=false->x0<=v.at c-sh/\v.at c-sh<=x1):m'.testBit c=true↔m.testBit c=true\/(c<4*v.w/\In (v.at c-sh) sp):=by
 rw[h];constructor
 ·rintro(z|⟨z1,s,z2,z3⟩)
  ·exact .inl z
  ·exact .inr ⟨z1,s,xk (xj z2),z3⟩
 ·rintro(z|⟨z1,z2⟩)
  ·exact .inl z
  ·cases e:m.testBit c with
   |true=>exact .inl rfl
   |false=>
    right;refine⟨z1,?_⟩;obtain⟨a1,a2⟩:=hm z1 z2 e;obtain⟨s,s1,s2,s3⟩:=z2;rw[<- nS k0 sp]at s1;rcases bJ.mp s1 with y|y
    ·have:=h0 s y;lia
    ·rw[<- nS n (sp.drop k0)]at y;rcases bJ.mp y with y|y
     ·exact⟨s,y,s2,s3⟩
     ·have:=h1 s y;lia
def Zg(h:Row x (a::r))(m:s∈a::r)(l:s.1<=x):a.1<=x:=by
 rcases bV.mp m with z|z
 ·rw[<- z];exact l
 ·exact((xf.mp h).1 s z).1 l
def Zf(h:Row x (r++[b]))(m:s∈r++[b])(l:x<s.2):x<b.2:=by
 rcases bJ.mp m with z|z
 ·exact((AV.mp h).2.2 s z b (by simp)).2 l
 ·simp at z;rw[<- z];exact l
def aaO(k:v.Ok)(ha:sp[0]?=some a)(hb:sp[sp.length-1]?=some b)(hc:c<4*v.w)(row:Row (v.at c-sh) sp)(DN:In (v.at c-sh) sp):(dG v (a.1+sh) (b.2+sh)).testBit c=true:=by
 obtain⟨s,s1,s2,s3⟩:=DN;rw[Gh k];have h1:a.1<=v.at c-sh:=by
  cases sp with
  |nil=>cases s1
  |cons x r=>
   simp at ha;subst ha;exact Zg row s1 s2
 have h2:v.at c-sh<b.2:=by
  rcases List.eq_nil_or_concat sp with e|⟨r,x,e⟩
  ·rw[e]at s1;cases s1
  ·rw[List.concat_eq_append]at e;subst e;simp at hb;subst hb;exact Zf row s1 s3
 exact⟨hc,by lia,by lia⟩
def X9(row:Row x sp)(hs:sp[m]?=some s)(h:s.2<=x): ∀t∈sp.take (m+1),t.2<=x:=by
 intro t ht;obtain⟨hm,e⟩:=bC.mp hs;obtain⟨i,hi,e2⟩:=AU.mp ht;rw[gC]at hi;rw[List.getElem_take]at e2;by_cases c:i=m
 ·subst c;rw[<- e2,e];exact h
 ·have:=(FG.mp row i m (by grind) hm (by lia)).2;rw[e,e2]at this;apply my;intro hn;have:=this (by simp_all)
  lia
def X_(row:Row x sp)(hs:sp[m]?=some s)(h:x<s.2): ∀t∈sp.drop m,x<t.2:=by
 intro t ht;obtain⟨hm,e⟩:=bC.mp hs;obtain⟨i,hi,e2⟩:=AU.mp ht;rw[jq]at hi;rw[List.getElem_drop]at e2;by_cases c:i=0
 ·subst c;rw[<- e2];rw[show sp[m+0]=s from e];exact h
 ·have:=(FG.mp row m (m+i) hm (by grind) (by lia)).2;rw[e,e2]at this;exact this h
def behind(row:Row x sp)(hs:sp[m]?=some s)(h:x<s.1): ∀t∈sp.drop m,x<t.1:=by
 intro t ht;obtain⟨hm,e⟩:=bC.mp hs;obtain⟨i,hi,e2⟩:=AU.mp ht;rw[jq]at hi;rw[List.getElem_drop]at e2;by_cases c:i=0
 ·subst c;rw[<- e2];rw[show sp[m+0]=s from e];exact h
 ·have:=(FG.mp row m (m+i) hm (by lia) (by lia)).1;rw[e,e2]at this;apply my;intro hn;have:=this (by simp_all)
  lia
def Zh(h:Row x sp)(n:Nat):Row x (sp.drop n):=List.Pairwise.sublist (List.drop_sublist n sp) h
def aa6{x:Int}{sp:List (Int×Int)}{i:Nat}{s:Int×Int}(h:sp[i]?=some s):In x (sp.take (i+1))↔In x (sp.take i)\/(s.1<=x/\x<s.2):=by rw[cA,h];show In x (sp.take i++[s])↔_;exact OR (b:=s.1) (e:=s.2)
def Z2(r:Nat)(x:Int):val ⟨[],[],[]⟩ r x=0:=rfl
def aaZ{v:Vw}(k:v.Ok){N F pos:Int}{o:Outline}{r c:Nat}(hr:r<4*v.h)(h1:N<=v.at c-(v.left+128*v.S*pos))(h2:v.at c-(v.left+128*v.S*pos)<=F)(hn: ∀l∈o,l≠ []):val (i6 v N F ⟨[],[],[]⟩ o) r (v.at c-(v.left+128*v.S*pos))≠0↔jA v (pos,o.map polygon) r c:=by rw[NL k hr h1 h2 o _ hn,Z2];unfold jA;dsimp only;simp
def YV{v:Vw}{mn mx pos:Int}{o:Outline}{r c:Nat}(hb: ∀l∈o,∀p∈l,ip mn mx (-16777216) 16777216 (p.x,p.y))(h:jA v (pos,o.map polygon) r c):128*v.S*mn+(v.left+128*v.S*pos)<=v.at c/\v.at c<128*v.S*mx+(v.left+128*v.S*pos):=by
 have bx: ∀l∈o,∀q∈polygon l,128*mn<=q.1/\q.1<=128*mx:=λ l hl q hq=>by have:=Nj (hb l hl) q hq;unfold ip at this;exact⟨this.1,this.2.1⟩
 unfold jA at h;dsimp only at h;generalize v.left+128*v.S*pos=sh at*;constructor
 ·apply my;intro hn;apply h;rw[jo];refine rN λ l hl=>Yb λ q hq=>?_;have h1:=(bx l hl q hq).1;have h2:128*mn*(v.S:Int)<=q.1*v.S:=FJ h1 (by simp);have h3:128*mn*(v.S:Int)=128*v.S*mn:=by grind
  lia
 ·apply my;intro hn;apply h;rw[jo];refine rN λ l hl=>Xw λ q hq=>?_;have h1:=(bx l hl q hq).2;have h2:q.1*(v.S:Int)<=128*mx*v.S:=FJ h1 (by lia);have h3:128*mx*(v.S:Int)=128*v.S*mx:=by grind
  lia
def Xp(hf:far o=false)(hl:l∈o)(bH:l≠ [])(hq:q∈placesOf l): -1099511627776<q.1/\q.1<1099511627776/\ -1099511627776<q.2/\q.2<1099511627776:=by have:=Nj (a:= -16777216) (b:=16777216) (c:= -16777216) (d:=16777216) (λ p hp=>by have:=OI hf hl hp;unfold ip;dsimp only;grind) q (Xj bH hq);unfold ip at this;omega
theorem Ga: ∀(o:Outline),(∀l∈o,l≠ [])->(o.map λ l=>(placesOf l).length).sum<=17*count o
 |[],_=>by simp[count]
 |l::o,h=>by
  have h1:=Ga o λ l' h'=>h l' (by simp[h']);have h2:=places_len l;have h3:0<l.length:=uG.mpr (h l (by simp));rw[cF,kZ,count_cons]
  lia
end
section
open Kg15
def line(f:Font):Int->List Nat->List (Int×Nat)
 |_,[]=>[]
 |aY,c::r=>(aY,f.glyphOf c)::line f (aY+f.advance (f.glyphOf c)) r
def vh(f:Font):Int->List Nat->Int
 |aY,[]=>aY
 |aY,c::r=>vh f (aY+f.advance (f.glyphOf c)) r
theorem Mt(f:Font)(c:Nat): ∀(l:List Nat)(aY:Int),line f aY (l++[c])=line f aY l++[(vh f aY l,f.glyphOf c)]
 |[],aY=>rfl
 |d::l,aY=>by show _::line f _ (l++[c])=_::(line f _ l++_);rw[Mt f c l];rfl
theorem LM(f:Font)(c:Nat): ∀(l:List Nat)(aY:Int),vh f aY (l++[c])=vh f aY l+f.advance (f.glyphOf c)
 |[],aY=>rfl
 |d::l,aY=>LM f c l _
theorem M6: ∀{l:List Nat}{aY:Int},Kg15.set f aY l=none-> ∃pg∈line f aY l,f.outline 8 pg.2=none
 |[],aY,h=>nomatch (show some _=none from h)
 |c::r,aY,h=>by
  rcases i5 h with e|⟨o,_,h⟩
  ·exact⟨(aY,f.glyphOf c),iT ..,e⟩
  ·obtain⟨pg,h1,h2⟩:=M6 (AZ.mp h);exact⟨pg,gi _ h1,h2⟩
def ac6{C:Prop}{f:Font}(h:Kg15.set f aY (c::r)=some x)(k: ∀o y,f.outline 8 (f.glyphOf c)=some o->Kg15.set f (aY+f.advance (f.glyphOf c)) r=some y->x=((aY,o.map polygon)::y.1,y.2)->C):C:=by obtain⟨o,e,h⟩:=pT h;obtain⟨y,e2,h⟩:=js.mp h;exact k o y e e2 h.symm
theorem GJ: ∀{l:List Nat}{aY:Int},Kg15.set f aY l=some (gs,z)->z=vh f aY l/\(∀pg∈line f aY l,f.outline 8 pg.2≠none)/\
  ∀x,x∈gs↔∃pg∈line f aY l,∃o,f.outline 8 pg.2=some o/\x=(pg.1,o.map polygon)
 |[],aY,h=>by
  cases(show some ([],aY)=some (gs,z)from h);exact⟨rfl,λ _ z=>(by cases z),λ x=>⟨λ z=>(by cases z),λ⟨_,z,_⟩=>(by cases z)⟩⟩
 |c::r,aY,h=>by
  refine ac6 h λ o y e h1 h2=>?_
  ·cases h2;have a:=GJ h1;refine⟨a.1,λ pg J8=>?_,λ x=>?_⟩
   ·rcases bV.mp J8 with y|y
    ·rw[y,e];simp
    ·exact a.2.1 pg y
   ·rw[bV,a.2.2];constructor
    ·rintro(y|⟨pg,y1,y2⟩)
     ·exact⟨(aY,f.glyphOf c),iT ..,o,e,y⟩
     ·exact⟨pg,gi _ y1,y2⟩
    ·rintro⟨pg,y1,o',y2,y3⟩;rcases bV.mp y1 with y|y
     ·subst y;rw[e]at y2;cases y2;exact .inl y3
     ·exact .inr ⟨pg,y,o',y2,y3⟩
def Placed(ps:List (Nat×List Int))(l:List (Int×Nat)):Prop:=∀aY g,(∃gp∈ps,gp.1=g/\aY∈gp.2)↔(aY,g)∈l
def sH(f:Font)(v:Vw)(ps:List (Nat×List Int))(r c:Nat):Prop:=∃gp∈ps,∃aY∈gp.2,∃o,f.outline 8 gp.1=some o/\jA v (aY,o.map polygon) r c
def XG{f:Font}{v:Vw}{ps:List (Nat×List Int)}{l:List (Int×Nat)}{gs:List (Int×List (List Corner))}(h:Placed ps l)(hg: ∀x,x∈gs↔∃pg∈l,∃o,f.outline 8 pg.2=some o/\x=(pg.1,o.map polygon)){r c:Nat}:sH f v ps r c↔∃g∈gs,jA v g r c:=by
 constructor
 ·rintro⟨gp,h1,aY,h2,o,h3,h4⟩;exact⟨_,(hg _).mpr ⟨(aY,gp.1),(h aY gp.1).mp ⟨gp,h1,rfl,h2⟩,o,h3,rfl⟩,h4⟩
 ·rintro⟨g,h1,h2⟩;obtain⟨pg,h3,o,h4,rfl⟩:=(hg _).mp h1;obtain⟨gp,h5,h6,h7⟩:=(h pg.1 pg.2).mpr h3;exact⟨gp,h5,pg.1,h7,o,by rw[h6];exact h4,h2⟩
end
end Mx
namespace L2.Rd
open PySem PySem.Spec PyProof.Rows Mx Kg15 Aa
section
variable{P:Program}{w:World}{K:W.Frag}{mg:Str->Option Value}{Ba:Heap}
inductive wC{A B:Type}(P:A->B->Prop):Prop
 |mk (a:A) (b:B) (p:P a b):wC P
inductive o8{A B C:Type}(P:A->B->C->Prop):Prop
 |mk (a:A) (b:B) (c:C) (p:P a b c):o8 P
inductive D8{A B C D:Type}(P:A->B->C->D->Prop):Prop
 |mk (a:A) (b:B) (c:C) (d:D) (p:P a b c d):D8 P
inductive kU{A B C D E:Type}(P:A->B->C->D->E->Prop):Prop
 |mk (a:A) (b:B) (c:C) (d:D) (e:E) (p:P a b c d e):kU P
inductive KS{A B C D E F:Type}(P:A->B->C->D->E->F->Prop):Prop
 |mk (a:A) (b:B) (c:C) (d:D) (e:E) (f:F) (p:P a b c d e f):KS P
inductive tS{A B C D E F G:Type}(P:A->B->C->D->E->F->G->Prop):Prop
 |mk (a:A) (b:B) (c:C) (d:D) (e:E) (f:F) (g:G) (p:P a b c d e f g):tS P
inductive KR{A B C D E F G H I:Type}(P:A->B->C->D->E->F->G->H->I->Prop):Prop
 |mk (a:A) (b:B) (c:C) (d:D) (e:E) (f:F) (g:G) (h:H) (i:I) (p:P a b c d e f g h i):KR P
inductive mf(A B C:Prop):Prop
 |mk:A->B->C->mf A B C
inductive wG(A B C D:Prop):Prop
 |mk:A->B->C->D->wG A B C D
inductive me(A B C D E:Prop):Prop
 |mk:A->B->C->D->E->me A B C D E
inductive Ag(A B C D E F:Prop):Prop
 |mk:A->B->C->D->E->F->Ag A B C D E F
inductive wF(A B C D E F G:Prop):Prop
 |mk:A->B->C->D->E->F->G->wF A B C D E F G
inductive o_(A B C D E F G H:Prop):Prop
 |mk:A->B->C->D->E->F->G->H->o_ A B C D E F G H
inductive D9(A B C D E F G H I:Prop):Prop
 |mk:A->B->C->D->E->F->G->H->I->D9 A B C D E F G H I
inductive SD(A B C D E F G H I J:Prop):Prop
 |mk:A->B->C->D->E->F->G->H->I->J->SD A B C D E F G H I J
inductive SA(A B C D E F G H I J K:Prop):Prop
 |mk:A->B->C->D->E->F->G->H->I->J->K->SA A B C D E F G H I J K
def Kn(P:Program)(w:World)(K:W.Frag)(mg:Str->Option Value)(Ba:Heap)(x:Str)(ps:List Str)(k:Nat)(sp:Sp):Prop:=
 ∃(f:Addr)(fd:FuncData),hR P w K mg Ba rf k f fd ps sp/\Binds K fd ps []/\W.keepIn K (.ref f)=true/\mg x=some (.ref f)
def Df(K:W.Frag)(mg:Str->Option Value)(x:Str)(st:Stmt)(ps:List Str):Prop:=
 ∃(f:Addr)(fd:FuncData),jJ K x x st f fd/\Binds K fd ps []/\mg x=some (.ref f)
theorem Df.ok{x:Str}{st:Stmt}{ps:List Str}{k:Nat}{sp:Sp}(F:Df K mg x st ps)(N:List Str)
  (jb: ∀{f:Addr}{bp:Value}{A:Around}{outer:List Env}{s:Shared}{vs:List V}(H:Hp)(Q:VK)(E:XK),ck k (A.deeper (envOfC x (dN st) s.heap.objs.size f bp))->sp vs H Q E->N.Nodup->
   ∃t,eX (fj rf P w K mg Ba N x (dN st) f bp A outer s H E).sX (jP st) t/\t (Ends.mk (λ _ H'=>Q .aG H') Q (λ _ _=>False) (λ _ _=>False)) (start N vs) H) (S:nZ N ps (dN st):=by walk_at "sc") (len: ∀vs H Q E,sp vs H Q E->vs.length=ps.length:=by walk_at "ln"):Kn P w K mg Ba x ps (k+1) sp:=by
 obtain⟨f,fd,F,b,m⟩:=F;exact⟨f,fd,F.ok S len (λ bp A outer s H vs Q E hr h=>jb H Q E hr h S.nd),b,F.kp,m⟩
def tK(sp:Sp)(t:TA):TE:=λ σ H Q=>t σ H λ vs H1=>sp vs H1 Q E0
section
variable{X:Cx}{k:Nat}{ps:List Str}{sp:Sp}{x:Str}{p pos:Pos}{e:Expr}{es:List Expr}{t:TA}
def pk{kk:Nat}(h:Kn X.prog X.w X.K X.mg X.base x ps k sp)(hr:ck kk X.A)(ha:PA X (e::es) t)(hk:k<=kk:=by first|decide|lia)(hg:Gl X x:=by exact rfl)(fR:(x==("__debug__" :Str))=false:=by decide)
  (he:starEach (e::es) X.env=(false,eval e X.env)::starEach es X.env:=by rfl)(bz:(backTo pos (starEach es X.env)).any (·.1)=false:=by rfl):PE X (.Call (.Name x p) (e::es) [] pos) (tK sp t):=by
 obtain⟨f,fd,F,b,kp,m⟩:=h;have q:PE X (.Call (.Name x p) (e::es) [] pos) (yd sp [] E0 t):=Ou F (hr.mono hk) hg m kp b .nil H_ ha fR he bz;have e1:yd sp [] E0 t=tK sp t:=by funext σ H Q;show(t σ H λ vs H1=>sp (vs++[]) H1 Q E0)=(t σ H λ vs H1=>sp vs H1 Q E0);simp only[cG]
 rw[<- e1];exact q
def aX{i:Int}(hm: ∃t,X.mg x=some (.int i t))(hg:Gl X x:=by exact rfl)(hd:(x==("__debug__" :Str))=false:=by decide):PE X (.Name x pos) (tC (.int i)):=by obtain⟨t,hm⟩:=hm;exact Ot hg hm ⟨t,rfl⟩ hd
def vL{a:Addr}(hm:X.mg x=some (.ref a))(hg:Gl X x:=by exact rfl)(hd:(x==("__debug__" :Str))=false:=by decide):PE X (.Name x pos) (tC (.ref a)):=Ot hg hm rfl hd
def sG(K:W.Frag):List V->Hp->VK->Prop:=λ xs H Q=>∃p ys,xs=[.ref p]/\(ah K H p ys\/aP K H p ys)/\Q (.int ys.length) H
def bZ:eP X (.builtin "len") (sG X.K):=Xc
def adY:List V->Hp->VK->Prop:=λ xs H Q=>∃a kvs,xs=[V.ref a]/\H a=some (.dK kvs)/\Q (.int kvs.length) H
def aaI:eP X (.builtin "len") adY:=Y1
def sE:List V->Hp->VK->Prop:=λ xs H Q=>∃i j,xs=[.int i,.int j]/\Q (.int (if j<i then j else i)) H
def BK(hc:X.calm=true):eP X (.builtin "min") sE:=YZ hc
def sF:List V->Hp->VK->Prop:=λ xs H Q=>∃i j,xs=[.int i,.int j]/\Q (.int (if i<j then j else i)) H
end
section
variable{X:Cx}{x:Str}{p p' pos apos:Pos}{a b e:Expr}{es:List Expr}{te ta tb:TE}{t:TA}{r:R2}
def au(i:Nat)(hN:X.N.Nodup)(he:PE X e te)(hi:X.N[i]?=some x:=by exact rfl)(hx:Loc X.env.scope x:=by first|exact Or.inl rfl|exact Or.inr rfl)(hs:swapsWith e (some (.Name x p)) pos.line X.env=pure false:=by rfl)(hf:X.fn x=true\/X.env.scope.names.lookup x=some .local:=by first|exact .inl rfl|exact .inr rfl|assumption):PS X (.Assign [.Name x p] e pos) (lJ te (eJ i)):=ab6 hN hi hx he hs hf
def jQ{op:Operator}{ti:wt}(i:Nat)(hN:X.N.Nodup)(he:PE X e te)(ho:UY X op ti)(hi:X.N[i]?=some x:=by exact rfl)(hx:Loc X.env.scope x:=by first|exact Or.inl rfl|exact Or.inr rfl)(hf:X.fn x=true\/X.env.scope.names.lookup x=some .local:=by first|exact .inl rfl|exact .inr rfl|assumption):PS X (.AugAssign (.Name x p) op e pos) (CD i te ti):=ab7 hN hi hx he ho hf
def aT(i:Nat)(hN:X.N.Nodup)(hi:X.N[i]?=some x:=by exact rfl)(hx:Loc X.env.scope x:=by first|exact Or.inl rfl|exact Or.inr rfl)(hf:X.fn x=true\/X.env.scope.names.lookup x=some .local:=by first|exact .inl rfl|exact .inr rfl|assumption):PG X (.Name x pos) (eJ i):=aav hN hi hx hf
def bO(ha:PE X a ta)(hb:PE X b tb)(hs:xT b:=by exact λ _ _=>rfl):PE X (.Subscript a b pos) (dA (yz X.K) ta tb):=Ca OG ha hb hs
def bB(ha:PE X a ta)(hb:PE X b tb)(hs:xT b:=by exact λ _ _=>rfl):PE X (.Subscript a b pos) (dA (CI X.K) ta tb):=Ca Pk ha hb hs
def ad1(K:W.Frag)(ha:PE X a ta)(hb:PE X b tb)(hK:X.K=K:=by exact rfl)(hs:xT b:=by exact λ _ _=>rfl):PE X (.Subscript a b pos) (dA (yz K) ta tb):=hK▸Ca OG ha hb hs
def sg(K:W.Frag)(ha:PE X a ta)(hb:PE X b tb)(hK:X.K=K:=by exact rfl)(hs:xT b:=by exact λ _ _=>rfl):PE X (.Subscript a b pos) (dA (CI K) ta tb):=hK▸Ca Pk ha hb hs
def oM{op:CmpOp}(ho:cZ X (compareOp op) r)(ha:PE X a ta)(hb:PE X b tb)(hm:behindInMarks op b=false:=by exact Pf _):PE X (.Compare a [op] [b] pos) (dA r ta tb):=aaA ho ha hb hm
def aB{op:CmpOp}(ho:cZ X (compareOp op) r)(ha:PE X a ta)(hb:PE X b tb)(hm:behindInMarks op b=false:=by exact Pf _):PT X (.Compare a [op] [b] pos) (yb (dA r ta tb)):=aar ho ha hb hm
def bX{r:List V->Hp->VK->Prop}(hc:eP X (.builtin "len") r)(hm:X.mg "len" =none)(ha:PA X (e::es) t)(hg:Gl X "len":=by exact rfl)(he:starEach (e::es) X.env=(false,eval e X.env)::starEach es X.env:=by rfl)(bz:(backTo pos (starEach es X.env)).any (·.1)=false:=by rfl):PE X (.Call (.Name "len" p) (e::es) [] pos) (yS r t):=fV hc hg hm boot_len ha (by decide) (by decide) he bz
def gU(ho:PE X a ta)(ha:PA X (e::es) t)(so:attributeBase a "append" X.env (eval a X.env)=eval a X.env:=by rfl)
  (yF:((backTo pos (starEach (e::es) X.env)).all (λ x=> !x.1)&&(backToKw pos (keywordEach [] X.env)).all (λ x=>x.1.isSome)
   &&decide ((e::es).length+([]:List Keyword).length+(if([]:List Keyword).isEmpty then 0 else 1)<30))=true:=by rfl)
  (sj:(apos.endLine==pos.line)=true:=by rfl) (hs:starEach (e::es) X.env=(false,eval e X.env)::starEach es X.env:=by rfl) (x8:(backTo pos (starEach es X.env)).any (·.1)=false:=by rfl):PE X (.Call (.Attribute a "append" apos) (e::es) [] pos) (yT X.K "list" Hb ta t):=Cb AE F.slot_list_append F.type_list_append YF ho ha so yF sj hs x8
def nX(ho:PE X a ta)(ha:PA X (e::es) t)(so:attributeBase a "extend" X.env (eval a X.env)=eval a X.env:=by rfl)
  (yF:((backTo pos (starEach (e::es) X.env)).all (λ x=> !x.1)&&(backToKw pos (keywordEach [] X.env)).all (λ x=>x.1.isSome)
   &&decide ((e::es).length+([]:List Keyword).length+(if([]:List Keyword).isEmpty then 0 else 1)<30))=true:=by rfl)
  (sj:(apos.endLine==pos.line)=true:=by rfl) (hs:starEach (e::es) X.env=(false,eval e X.env)::starEach es X.env:=by rfl) (x8:(backTo pos (starEach es X.env)).any (·.1)=false:=by rfl):PE X (.Call (.Attribute a "extend" apos) (e::es) [] pos) (yT X.K "list" Ha ta t):=Cb AE AO F.type_list_extend YE ho ha so yF sj hs x8
def sU{tg iter:Expr}{body:List Stmt}{wi:TI}{g:TG}{tb:TS}(hp:PassesOwn (model X.prog X.w) X.A X.env X.xe)(hi:PI X tg iter wi)(hg:PG X tg g)(hb:eX X body tb)(hc:X.calm=true:=by exact rfl)(hs: ∀x,foldedSetIterable iter X.env x=pure x:=by intro _;rfl):PS X (.For tg iter body [] pos) (vB wi g tb):=Pa hp hc hi hg hb hs
def fJ{tg iter:Expr}{body:List Stmt}{wi:TI}{g:TG}{tb:TS}(hi:PI X tg iter wi)(hg:PG X tg g)(hb:eX X body tb)(hp:PassesOwn (model X.prog X.w) X.A X.env X.xe:=by exact wR)(hc:X.calm=true:=by exact rfl)(hs: ∀x,foldedSetIterable iter X.env x=pure x:=by intro _;rfl):PS X (.For tg iter body [] pos) (vB wi g tb):=Pa hp hc hi hg hb hs
end
section
variable{yR:TS}{σ:St}{H:Hp}{Q:VK}{K:W.Frag}{ta tb tc:TE}{T U:TT}{r r':R2}{i j:Nat}{v x y:V}{D:Ends}{nx bk ct:St->Hp->Prop}{rt:VK}{QB:Bool->Hp->Prop}{t u:TS}{tA tR:TA}{QL:List V->Hp->Prop}
def ac_(h:σ[i]?=some (some v))(q:Q v H):fH i σ H Q:=⟨v,h,q⟩
def r_c(q:Q v H):tC v σ H Q:=q
def aeO(q:ta σ H λ x H1=>tb σ H1 λ y H2=>r x y H2 Q):dA r ta tb σ H Q:=q
def aeJ{r:V->Hp->VK->Prop}(q:ta σ H λ x H1=>r x H1 Q):SK r ta σ H Q:=q
def r_U{g:Int->V}{a:Int}(q:Q (g a) H):rU g (.int a) H Q:=⟨a,rfl,q⟩
def IF{g:Int->Int->V}{a b:Int}(q:Q (g a b) H):fO g (.int a) (.int b) H Q:=⟨a,b,rfl,rfl,q⟩
def adn{g:Int->Int->V}{a b:Int}(c:oF a b)(q:Q (g a b) H):rI oF g (.int a) (.int b) H Q:=⟨a,b,rfl,rfl,c,q⟩
def adN{g:Int->Int->V}{a b:Int}(c:0<b/\b<1073741824)(q:Q (g a b) H):rI C2 g (.int a) (.int b) H Q:=⟨a,b,rfl,rfl,c,q⟩
def adp{g:Int->Int->V}{a b:Int}(c:0<b)(q:Q (g a b) H):rI (λ _ j=>0<j) g (.int a) (.int b) H Q:=⟨a,b,rfl,rfl,c,q⟩
def Pr(a b:Int):decide (V.int a=V.int b)=decide (a=b):=by
 by_cases h:a=b
 ·subst h;simp
 ·have: ¬V.int a=V.int b:=λ e=>h (V.int.inj e);simp[h]
def Ql{a b:Int}(q:Q (.bl (decide (a=b))) H):Jv (.int a) (.int b) H Q:=⟨rfl,by rw[Pr];exact q⟩
def Qk{a b:Int}(q:Q (.bl (!decide (a=b))) H):Ju (.int a) (.int b) H Q:=⟨rfl,by rw[Pr];exact q⟩
def abe(q:ta σ H λ x H'=>∃k,x= .bl k/\QB k H'):yb ta σ H QB:=q
def aeL(q:ta σ H λ x H'=>∃k,x= .bl k/\QB k H'):L2.tB ta σ H QB:=q
def aeW{c:Bool}{R:Bool->Prop}(q:R c): ∃k,V.bl c= .bl k/\R k:=⟨c,rfl,q⟩
def adX(q:T σ H λ c H1=>if c=true then U σ H1 QB else QB false H1):Rw T U σ H QB:=q
def aeN(q:T σ H λ c H1=>if c=true then QB true H1 else U σ H1 QB):SN T U σ H QB:=q
def adk(q:T σ H λ c H1=>QB (!c) H1):Ro T σ H QB:=q
def ab3(q:ta σ H λ x H1=>∃c,x= .bl c/\if c=true then tb σ H1 Q else Q (.bl false) H1):P4 ta tb σ H Q:=q
def adE(q:T σ H λ c H1=>if c=true then ta σ H1 Q else tb σ H1 Q):SO T ta tb σ H Q:=q
def aao(q:ta σ H λ x H1=>tb σ H1 λ y H2=>r x y H2 λ z H3=>∃k,z= .bl k/\(if k=true then tc σ H3 λ w' H4=>r' y w' H4 Q else Q (.bl false) H3)):Hs r r' ta tb tc σ H Q:=q
def Qj(q:QL [] H):jc σ H QL:=q
def abX(q:ta σ H λ x H1=>tA σ H1 λ xs H2=>QL (x::xs) H2):i7 ta tA σ H QL:=q
def aeX{r:List V->Hp->VK->Prop}(q:tA σ H λ vs H1=>r vs H1 Q):yS r tA σ H Q:=q
def aeK{sp:Sp}(q:tA σ H λ vs H1=>sp vs H1 Q E0):tK sp tA σ H Q:=q
def B9{p:Addr}{ys:List V}(h:ah K H p ys)(q:Q (.int ys.length) H):sG K [.ref p] H Q:=⟨p,ys,rfl,.inl h,q⟩
def ads{a b:Int}(q:Q (.int (if b<a then b else a)) H):sE [.int a,.int b] H Q:=⟨a,b,rfl,q⟩
def adA(q:ta σ H λ x H1=>Q (.bl (decide (x= .aG))) H1):Rp ta σ H Q:=q
def abt(q:ta σ H λ x H1=>Q (.bl (!decide (x= .aG))) H1):PY ta σ H Q:=q
def adh(q:ta σ H rt):vA ta (Ends.mk nx rt bk ct) σ H:=q
def abp(q:rt .aG H):PV (Ends.mk nx rt bk ct) σ H:=q
def abu(q:nx σ H):PZ (Ends.mk nx rt bk ct) σ H:=q
def abi(q:ta σ H λ x H1=>u (Ends.mk nx rt bk ct) (σ.set i (some x)) H1):iG (lJ ta (eJ i)) u (Ends.mk nx rt bk ct) σ H:=q
def abj(q:T σ H λ b H1=>if b=true then t (Ends.mk (u (Ends.mk nx rt bk ct)) rt bk ct) σ H1 else yR (Ends.mk (u (Ends.mk nx rt bk ct)) rt bk ct) σ H1):iG (yu T t yR) u (Ends.mk nx rt bk ct) σ H:=q
def aeV(q:T σ H λ b H1=>if b=true then t (Ends.mk nx rt bk ct) σ H1 else u (Ends.mk nx rt bk ct) σ H1):yu T t u (Ends.mk nx rt bk ct) σ H:=q
def abl(q:ta σ H λ _ H1=>u (Ends.mk nx rt bk ct) σ H1):iG (HS ta) u (Ends.mk nx rt bk ct) σ H:=q
def abS(q:ta σ H λ _ H1=>nx σ H1):HS ta (Ends.mk nx rt bk ct) σ H:=q
def abk{wi:TI}{g:TG}{tb:TS}(q:vB wi g tb (Ends.mk (u (Ends.mk nx rt bk ct)) rt bk ct) σ H):iG (vB wi g tb) u (Ends.mk nx rt bk ct) σ H:=q
def abh{c:TT}{tb:TS}(q:BX c tb (Ends.mk (u (Ends.mk nx rt bk ct)) rt bk ct) σ H):iG (BX c tb) u (Ends.mk nx rt bk ct) σ H:=q
def adx{p:Prop}[Decidable p]{A B:Prop}(h1:p->A)(h2: ¬p->B):if decide p=true then A else B:=by
 by_cases h:p
 ·rw[ao (cQ h)];exact h1 h
 ·rw[ai (by rw[cH h];exact dj)];exact h2 h
def abI{p:Prop}[Decidable p]{A B:Prop}(h1: ¬p->A)(h2:p->B):if(!decide p)=true then A else B:=by
 by_cases h:p
 ·rw[cQ h];exact qz (h2 h)
 ·rw[cH h];exact qw (h1 h)
theorem abK{b:Bool}{A B:Prop}(h1:b=true->A)(h2:b=false->B):if b=true then A else B:=by
 cases b with
 |true=>exact qw (h1 rfl)
 |false=>exact qz (h2 rfl)
def ady{A B:Prop}(h:A):if true=true then A else B:=qw h
def adz{A B:Prop}(h:B):if false=true then A else B:=qz h
def abM{A B:Prop}(h:A):if(!false)=true then A else B:=qw h
def abL{A B:Prop}(h:B):if(!true)=true then A else B:=qz h
def qi{a b:Int}(k:Q (.int a) H)(e:b=a):Q (.int b) H:=by rw[e];exact k
def qb{a b:Bool}(k:Q (.bl a) H)(e:b=a):Q (.bl b) H:=by rw[e];exact k
end
section
variable{σ:St}{H H':Hp}{Q:VK}{K:W.Frag}{A B:Prop}{ta:TE}{tA:TA}{a p:Addr}{xs:List V}{o:HO}{m:List UInt8}
def aeR{i:Int}(h:B):if decide (V.int i=V.aG)=true then A else B:=by rw[cH (λ e=>by cases e)];exact qz h
def aeP(h:B):if decide (V.ref a=V.aG)=true then A else B:=by rw[cH (λ e=>by cases e)];exact qz h
def aeQ(h:A):if decide (V.aG=V.aG)=true then A else B:=by rw[cQ rfl];exact qw h
def adl(h:A):if(!decide (V.ref a=V.aG))=true then A else B:=by rw[cH (λ e=>by cases e)];exact qw h
def adm(h:B):if(!decide (V.aG=V.aG))=true then A else B:=by rw[cQ rfl];exact qz h
def eM(h:H p=none)(o:HO):aq H (upd H p o):=λ b u q=>by rw[bb (cC q h)];exact q
def yM(Q:VK)(xs:List V)(H:Hp):Prop:=xs.length<=sizeLine/\ ∀p,H p=none->Q (.ref p) (upd H p (.lst xs))
def adu(q:tA σ H λ xs H1=>yM Q xs H1):sC tA σ H Q:=q
def abv(l:xs.length<=1000)(q: ∀p,H p=none->Q (.ref p) (upd H p (.lst xs))):yM Q xs H:=⟨bY l (by decide),q⟩
def Ji(Q:VK)(xs:List V)(H:Hp):Prop:=xs.length<=sizeLine/\ ∀p,H p=none->Q (.ref p) (upd H p (.tup xs))
def ada(q:tA σ H λ xs H1=>Ji Q xs H1):yt tA σ H Q:=q
def aeM{r:V->Option Int->Option Int->Hp->VK->Prop}{tl th:TO}(q:ta σ H λ x H1=>tl σ H1 λ l H2=>th σ H2 λ u H3=>r x l u H3 Q):SM r ta tl th σ H Q:=q
def abr{R:Option Int->Hp->Prop}(q:ta σ H λ x H1=>∃i,x= .int i/\R (some i) H1):PX ta σ H R:=q
def Zp{R:Option Int->Hp->Prop}(q:R none H):NR σ H R:=q
def adJ{i:Int}{R:Int->Prop}(q:R i): ∃j,V.int i= .int j/\R j:=⟨i,rfl,q⟩
end
section
variable{yR:TS}{σ:St}{H:Hp}{Q:VK}{K:W.Frag}{ta tb:TE}{T U:TT}{r:R2}{i:Nat}{v x y:V}{nx bk ct:St->Hp->Prop}{rt:VK}{QB:Bool->Hp->Prop}{t u:TS}{tA:TA}{xs:List V}{a b:Int}{k:Bool}{g:Int->Int->V}
def Ev(ta:TE)(σ:St)(H:Hp)(v:V):Prop:=∀Q:VK,Q v H->ta σ H Q
def j9(tA:TA)(σ:St)(H:Hp)(xs:List V):Prop:=∀Q:List V->Hp->Prop,Q xs H->tA σ H Q
def KU(T:TT)(σ:St)(H:Hp)(k:Bool):Prop:=∀Q:Bool->Hp->Prop,Q k H->T σ H Q
def acE(h:σ[i]?=some (some v)):Ev (fH i) σ H v:=λ _ q=>⟨v,h,q⟩
def afI:Ev (tC v) σ H v:=λ _ q=>q
def aeq(h:Ev ta σ H (.int a))(l:Ev tb σ H (.int b)):Ev (dA (fO g) ta tb) σ H (g a b):=λ _ q=>h _ (l _ (IF q))
def acH(h:Ev ta σ H (.int a))(l:Ev tb σ H (.int b)):Ev (dA Jv ta tb) σ H (.bl (decide (a=b))):=λ _ q=>h _ (l _ (Ql q))
def acF(h:Ev ta σ H (.int a))(l:Ev tb σ H (.int b)):Ev (dA Ju ta tb) σ H (.bl (!decide (a=b))):=λ _ q=>h _ (l _ (Qk q))
def acJ:j9 jc σ H []:=λ _ q=>q
def aaS(h:Ev ta σ H x)(l:j9 tA σ H xs):j9 (i7 ta tA) σ H (x::xs):=λ _ q=>h _ (l _ q)
def aaQ(h:Ev ta σ H (.bl k)):KU (yb ta) σ H k:=λ _ q=>h _ ⟨k,rfl,q⟩
def adj(h:Ev ta σ H x)(l:Ev tb σ H y)(q:r x y H Q):dA r ta tb σ H Q:=h _ (l _ q)
def adi(h:Ev ta σ H x)(q:tb σ H λ y H2=>r x y H2 Q):dA r ta tb σ H Q:=h _ q
def adf{sp:Sp}(h:j9 tA σ H xs)(q:sp xs H Q E0):tK sp tA σ H Q:=h _ q
def adT{r:List V->Hp->VK->Prop}(h:j9 tA σ H xs)(q:r xs H Q):yS r tA σ H Q:=h _ q
def aby(h:j9 tA σ H xs)(q:yM Q xs H):sC tA σ H Q:=h _ q
def abc(h:j9 tA σ H xs)(q:Ji Q xs H):yt tA σ H Q:=h _ q
def abq(h:Ev ta σ H x)(q:rt x H):vA ta (Ends.mk nx rt bk ct) σ H:=h _ q
def aac(h:Ev ta σ H x)(q:u (Ends.mk nx rt bk ct) (σ.set i (some x)) H):iG (lJ ta (eJ i)) u (Ends.mk nx rt bk ct) σ H:=h _ q
def abg(h:Ev ta σ H x)(q:nx (σ.set i (some x)) H):lJ ta (eJ i) (Ends.mk nx rt bk ct) σ H:=h _ q
def aae(h:KU T σ H k)(q:if k=true then t (Ends.mk (u (Ends.mk nx rt bk ct)) rt bk ct) σ H else yR (Ends.mk (u (Ends.mk nx rt bk ct)) rt bk ct) σ H):iG (yu T t yR) u (Ends.mk nx rt bk ct) σ H:=h _ q
def adF(h:KU T σ H k)(q:if k=true then t (Ends.mk nx rt bk ct) σ H else u (Ends.mk nx rt bk ct) σ H):yu T t u (Ends.mk nx rt bk ct) σ H:=h _ q
end
def dH{t:TS}{D:Ends}{σ σ':St}{H:Hp}(e:σ=σ')(q:t D σ' H):t D σ H:=by subst e;exact q
def ae9{n:Nat}:(n:Int)=((n:Nat):Int):=rfl
def ae8{n:Nat}:(OfNat.ofNat n:Int)=((OfNat.ofNat n:Nat):Int):=rfl
def acm{a b:Int}{i j:Nat}(h:a=(i:Int))(k:b=(j:Int)):a+b=((i+j:Nat):Int):=by simp_all
def acj{a b:Int}{i j:Nat}(h:a=(i:Int))(k:b=(j:Int)):a*b=((i*j:Nat):Int):=by subst h;subst k;exact(Aw i j).symm
def ack{a b:Int}{i j:Nat}(h:a=(i:Int))(k:b=(j:Int)):a/b=((i/j:Nat):Int):=by subst h;subst k;exact(Int.natCast_ediv i j).symm
section
variable{σ:St}{H:Hp}{K:W.Frag}{c:TT}{tb:TS}{nx bk ct:St->Hp->Prop}{rt:VK}{Wn:Nat->St->Hp->Prop}{m n s:Nat}{g:TG}{wi:TI}{tA:TA}{tl:TE}{R:It->Hp->Prop}{a:Addr}{xs:List V}
def WN(Wn:Nat->St->Hp->Prop)(m:Nat)(tb:TS)(nx:St->Hp->Prop)(rt:VK)(σ:St)(H:Hp):Prop:=∃N:St->Hp->Prop,(∀σ' H',N σ' H'-> ∃m',m'<m/\Wn m' σ' H')/\tb (Ends.mk N rt nx N) σ H
def uX(Wn:Nat->St->Hp->Prop)(h0: ∃m,Wn m σ H)(hs: ∀m σ H,Wn m σ H->c σ H λ b H1=>if b=true then WN Wn m tb nx rt σ H1 else nx σ H1):BX c tb (Ends.mk nx rt bk ct) σ H:=⟨Wn,h0,hs⟩
def aeI(q:tb (Ends.mk (λ σ' H'=>∃m',m'<m/\Wn m' σ' H') rt nx (λ σ' H'=>∃m',m'<m/\Wn m' σ' H')) σ H):WN Wn m tb nx rt σ H:=⟨_,λ _ _ h=>h,q⟩
def FR(J:It)(g:TG)(tb:TS)(nx:St->Hp->Prop)(rt:VK)(σ:St)(H:Hp):Prop:=∃Wn:Nat->Nat->St->Hp->Prop,(∃m,Wn 0 m σ H)/\ ∀i m σ H,Wn i m σ H->
 (J.stop i H/\nx σ H)\/(J.go i H/\ ∃N:St->Hp->Prop,(∀σ' H',N σ' H'-> ∃m',m'<m/\Wn (i+1) m' σ' H')/\ ∀x H',J.mW i H x H'->g x σ H' λ σ2 H2=>tb (Ends.mk N rt nx N) σ2 H2)
def adH(q:wi σ H λ J H1=>FR J g tb nx rt σ H1):vB wi g tb (Ends.mk nx rt bk ct) σ H:=q
def Jf(R:It->Hp->Prop)(vs:List V)(H1:Hp):Prop:=∃j:Int,vs=[.int j]/\ -(2^62)<=j/\j<2^62/\R (jI 0 j.toNat) H1
def abo(q:tA σ H λ vs H1=>Jf R vs H1):Ib tA σ H R:=q
def aah{z:Int}(e:z=(n:Int))(l:n<4611686018427387904)(q:R (jI 0 n) H):Jf R [.int z] H:=⟨z,rfl,by simp_all,by lia,by subst e;rw[jr];exact q⟩
def KN(K:W.Frag)(R:It->Hp->Prop)(x:V)(H1:Hp):Prop:=∃a,x= .ref a/\(∃xs,ah K H1 a xs)/\R (jm K a) H1
def aeU(q:tl σ H λ x H1=>KN K R x H1):Ci K tl σ H R:=q
def adD{x:V}(e:Ev tl σ H x)(q:KN K R x H):Ci K tl σ H R:=e _ q
def aai{vs:List V}(e:j9 tA σ H vs)(q:Jf R vs H):Ib tA σ H R:=e _ q
def adC(h:ah K H a xs)(q:R (jm K a) H):KN K R (.ref a) H:=⟨a,rfl,⟨xs,h⟩,q⟩
def f1(Pv:Nat->St->Hp->Prop)(h0:Pv 0 σ H)(hs: ∀i σ H,i<n->Pv i σ H->tb (Ends.mk (Pv (i+1)) rt nx (Pv (i+1))) (σ.set s (some (.int (i:Int)))) H)(hd: ∀σ H,Pv n σ H->nx σ H):FR (jI 0 n) (eJ s) tb nx rt σ H:=
 YR (D:=Ends.mk nx rt (λ _ _=>False) (λ _ _=>False)) (g:=eJ s) (tb:=tb) Pv h0 (λ i σ H hi p=>by have z:=hs i σ H hi p;rw[show(0:Int)+(i:Int)=(i:Int) by lia];exact z) hd
def fl(Pv:Nat->St->Hp->Prop)(h0:Pv 0 σ H)(hl: ∀i σ H,i<=xs.length->Pv i σ H->ah K H a xs)
  (hs: ∀i x σ H,xs[i]?=some x->Pv i σ H->tb (Ends.mk (Pv (i+1)) rt nx (Pv (i+1))) (σ.set s (some x)) H)(hd: ∀σ H,Pv xs.length σ H->nx σ H):FR (jm K a) (eJ s) tb nx rt σ H:=
 Nu (D:=Ends.mk nx rt (λ _ _=>False) (λ _ _=>False)) (g:=eJ s) (tb:=tb) Pv h0 hl hs hd
def zY(Pv:Nat->St->Hp->Prop)(h0:Pv 0 σ H)(hl: ∀i σ H,i<=xs.length->Pv i σ H->ah K H a xs)
  (hs: ∀i x σ H,xs[i]?=some x->Pv i σ H->g x σ H λ σ2 H2=>tb (Ends.mk (Pv (i+1)) rt nx (Pv (i+1))) σ2 H2)(hd: ∀σ H,Pv xs.length σ H->nx σ H):FR (jm K a) g tb nx rt σ H:=
 Nu (D:=Ends.mk nx rt (λ _ _=>False) (λ _ _=>False)) (g:=g) (tb:=tb) Pv h0 hl hs hd
end
noncomputable def bs (b:List UInt8):List V:=b.map λ c=>V.int (c.toNat:Int)
def HQ(b:List UInt8):(bs b).length=b.length:=aV _
def aev{b:List UInt8}{i:Int}{n:Nat}(e:i=(n:Int))(h:n<b.length):eW (bs b) i=some (.int (Kg15.u8 b n:Nat)):=by refine at_of e ?_;unfold bs Kg15.u8;rw[fx,bI h,jt,bI h];rfl
def adv{H:Hp}{Q:VK}{K:W.Frag}{p:Addr}{b:List UInt8}{i:Int}{n:Nat}(h:ah K H p (bs b))(e:i=(n:Int))(hn:n<b.length)(q:Q (.int (Kg15.u8 b n:Nat)) H):yz K (.ref p) (.int i) H Q:=
 ⟨p,bs b,i,_,rfl,rfl,h,aev e hn,q⟩
def abC{H:Hp}{Q:VK}{K:W.Frag}{p:Addr}{b:List UInt8}(h:ah K H p (bs b))(q:Q (.int (b.length:Nat)) H):sG K [.ref p] H Q:=B9 h (by rw[HQ];exact q)
def ND{m:List UInt8}{i j:Int}{o e:Nat}(ei:i=o)(ej:j=e)(h1:o<=e)(h2:e<=m.length):jT (bs m) (some i) (some j)=bs (Kg15.part m o (e-o)):=by
 subst ei;subst ej;have e1:HT.f_ (bs m).length 0 (some (o:Int))=o:=by
  simp only[HT.f_,HQ];rw[ai (by simp)]
  lia
 have e2:HT.f_ (bs m).length (bs m).length (some (e:Int))=e:=by
  simp only[HT.f_,HQ];rw[ai (by lia)]
  simp_all
 unfold jT;rw[e1,e2];unfold bs Kg15.part;rw[E1,Ap]
def Qi{H:Hp}{Q:VK}{K:W.Frag}{a:Addr}{m:List UInt8}{i j:Int}{o e:Nat}(h:ah K H a (bs m))(ei:i=o)(ej:j=e)(h1:o<=e)(h2:e<=m.length)
  (q: ∀p,H p=none->Q (.ref p) (upd H p (.lst (bs (Kg15.part m o (e-o)))))):IG K (.ref a) (some i) (some j) H Q:=⟨a,bs m,rfl,h,by rw[ND ei ej h1 h2];exact q⟩
def PR(b:List UInt8)(i:Nat):Kg15.u8 b i<256:=UInt8.toNat_lt _
def rR(b:List UInt8)(i:Nat):u16 b i<65536:=by
 have h1:=PR b i;have h2:=PR b (i+1);unfold u16
 lia
end
local macro_rules|`(tactic|walk_at "sc")=>`(tactic|exact ⟨rfl,rfl,rfl,by decide +kernel,rfl,by decide +kernel,by decide +kernel⟩)
local macro_rules|`(tactic|walk_at "ln")=>`(tactic|(intro _ _ _ _ h;first|(cases h;subst_vars;rfl)|(cases h.2;subst_vars;rfl)))
local macro_rules|`(tactic|walk_at "s")=>`(tactic|first
 |assumption
 |exact ah.of br
 |((with_reducible refine' afW ?a ?b);(case b=>assumption);(case a=>walk_at "s"))
 |(refine' aq.seq ?a ?b;(case a=>assumption);(case b=>walk_at "s")))
local macro_rules|`(tactic|walk_at "z")=>`(tactic|first
 |(with_reducible first|exact ae9|exact ae8)
 |((with_reducible first|refine' acm ?a ?b|refine' acj ?a ?b|refine' ack ?a ?b|refine' af3 ?a ?b);(case a|b=>walk_at "z")))
local macro_rules|`(tactic|walk_at "1")=>`(tactic|first
 |((with_reducible refine' ac_ ?h ?_);(case h=>exact rfl))
 |(with_reducible first|refine r_c ?_|refine aeO ?_|refine IF ?_|refine abe ?_|refine aeL ?_|refine aeW ?_|refine abX ?_|refine Qj ?_|refine aeK ?_|refine aeX ?_|refine adh ?_|refine abi ?_|refine abj ?_|refine aeV ?_|refine Ql ?_|refine Qk ?_|refine adX ?_|refine aeN ?_|refine adk ?_|refine ab3 ?_|refine af8 ?_|refine afZ ?_|refine adE ?_|refine aao ?_|refine aeJ ?_|refine r_U ?_|refine adA ?_|refine abt ?_|refine abu ?_|refine af7 ?_|refine abl ?_|refine abS ?_|refine abk ?_|refine abh ?_|refine ady ?_|refine adz ?_|refine abL ?_|refine abM ?_|refine ads ?_|refine abp ?_|refine aeR ?_|refine aeP ?_|refine aeQ ?_|refine af9 ?_|refine adl ?_|refine adm ?_|refine adu ?_|refine ada ?_|refine aeM ?_|refine abr ?_|refine Zp ?_|refine adJ ?_|refine adH ?_|refine aeI ?_|refine abo ?_|refine afY ?_|refine aeU ?_)
 |((with_reducible refine adn ?c ?_);(case c=>first|exact Or.inr ⟨by lia,by lia⟩|exact Or.inl ⟨by lia,by lia⟩))
 |((with_reducible refine adN ?c ?_);(case c=>exact ⟨by lia,by lia⟩))
 |((with_reducible refine adp ?c ?_);(case c=>lia))
 |((with_reducible refine' adv ?a ?b ?c ?_);(case a=>walk_at "s");(case b=>walk_at "z");(case c=>lia))
 |((with_reducible refine' abC ?a ?_);(case a=>walk_at "s"))
 |((with_reducible refine' aah ?a ?b ?_);(case a=>walk_at "z");(case b=>lia))
 |((with_reducible refine' adC ?a ?_);(case a=>walk_at "s"))
 |walk_at "u")
local macro_rules|`(tactic|symm)=>`(tactic|repeat walk_at "1")
local macro_rules|`(tactic|walk_at "if")=>`(tactic|first
 |(with_reducible refine adx ?_ ?_)|(with_reducible refine abI ?_ ?_)|(with_reducible refine abK ?_ ?_))
local macro_rules|`(tactic|nofun)=>`(tactic|repeat' (first|walk_at "1"|(walk_at "if" <;> intro _)))
local macro_rules|`(tactic|walk_at "e")=>`(tactic|first
 |((with_reducible refine' acE ?h);(case h=>exact rfl))
 |(with_reducible first|exact afI|exact acJ)
 |((with_reducible first|refine' aeq ?a ?b|refine' acH ?a ?b|refine' acF ?a ?b|refine' aaS ?a ?b);(case a|b=>walk_at "e"))
 |((with_reducible first|refine' aaQ ?a|refine' agp ?a);(case a=>walk_at "e")))
local macro_rules|`(tactic|walk_at "1")=>`(tactic|first
 |((with_reducible refine' adj ?a ?b ?_);(case a|b=>walk_at "e"))
 |((with_reducible first|refine' adf ?a ?_|refine' adT ?a ?_|refine' aby ?a ?_|refine' abc ?a ?_|refine' abq ?a ?_|refine' aac ?a ?_|refine' abg ?a ?_|refine' aae ?a ?_|refine' adF ?a ?_|refine' adD ?a ?_|refine' aai ?a ?_|refine' afT ?a ?_|refine' adi ?a ?_);(case a=>walk_at "e")))
section
variable{P:Program}{w:World}{K:W.Frag}{mg:Str->Option Value}{Ba:Heap}
section
noncomputable def top (i:Nat):Stmt:=PySem.Challenge.pw_shapefile_s01_answers.main.body.getD i (.Pass ⟨0,0,0,0⟩)
structure aK(mg:Str->Option Value):Prop where
 bS:mg "len" =none
 vi:mg "list" =none
 qj:mg "max" =none
 qh:mg "min" =none
 ju:mg "range" =none
 ZZ:mg "sorted" =none
 aew:mg "sum" =none
 Ig:mg "zip" =none
 MI: ∃t,mg "ENDS_AT" =some (.int (14) t)
 K2: ∃t,mg "LAST_CHARACTER" =some (.int (65535) t)
 ET: ∃t,mg "HEADER_SIZE" =some (.int (12) t)
 K6: ∃t,mg "RECORD_SIZE" =some (.int (16) t)
 WO: ∃t,mg "CONTOURS_AT" =some (.int (10) t)
 K7: ∃t,mg "MOST_POINTS" =some (.int (4096) t)
 X8: ∃t,mg "ON_CURVE" =some (.int (1) t)
 WL: ∃t,mg "X_IN_A_BYTE" =some (.int (2) t)
 WK: ∃t,mg "Y_IN_A_BYTE" =some (.int (4) t)
 Xd: ∃t,mg "TOLD_AGAIN" =some (.int (8) t)
 Wj: ∃t,mg "X_UP_OR_SAME" =some (.int (16) t)
 Wi: ∃t,mg "Y_UP_OR_SAME" =some (.int (32) t)
 X7: ∃t,mg "PARTS_AT" =some (.int (10) t)
 Wk: ∃t,mg "WIDE_OFFSETS" =some (.int (1) t)
 U7: ∃t,mg "OFFSETS_ARE_MEASURES" =some (.int (2) t)
 Xe: ∃t,mg "ONE_NUMBER" =some (.int (8) t)
 K1: ∃t,mg "ANOTHER_FOLLOWS" =some (.int (32) t)
 WM: ∃t,mg "TWO_NUMBERS" =some (.int (64) t)
 Wl: ∃t,mg "FOUR_NUMBERS" =some (.int (128) t)
 Vg: ∃t,mg "OFFSETS_ARE_SCALED" =some (.int (2048) t)
 Cq: ∃t,mg "ONE" =some (.int (16384) t)
 Pz: ∃t,mg "HALF" =some (.int (8192) t)
 Xv: ∃t,mg "HEAD_SIZE" =some (.int (10) t)
 L9: ∃t,mg "COMPOSED" =some (.int (-1) t)
 K8: ∃t,mg "MOST_LEVELS" =some (.int (8) t)
 NH: ∃t,mg "LOWEST" =some (.int (-16777216) t)
 MH: ∃t,mg "HIGHEST" =some (.int (16777215) t)
 Vx: ∃t,mg "LINES_OF_A_CURVE" =some (.int (8) t)
 Bq: ∃t,mg "SAMPLES" =some (.int (4) t)
 aa2: ∃t,mg "BEGIN" =some (.int (0) t)
 acU: ∃t,mg "LOAD" =some (.int (1) t)
 aa1: ∃t,mg "GLYPH" =some (.int (2) t)
 Y4: ∃t,mg "METRICS" =some (.int (3) t)
 Y2: ∃t,mg "OUTLINE" =some (.int (4) t)
 acV: ∃t,mg "DRAW" =some (.int (5) t)
 Y3: ∃t,mg "NO_FONT" =some (.int (-9) t)
 wI: ∃t,mg "NOT_IN_RANGE" =some (.int (-8) t)
 Vv: ∃t,mg "TOO_MANY_NUMBERS" =some (.int (-7) t)
 Va: ∃t,mg "GLYPH_NOT_WELL_TOLD" =some (.int (-1) t)
 Xf: ∃t,mg "MOST_BYTES" =some (.int (524288) t)
 VG: ∃t,mg "MOST_OF_PICTURE" =some (.int (256) t)
 K0: ∃t,mg "FARTHEST_ORIGIN" =some (.int (4096) t)
 VH: ∃t,mg "MOST_CHARACTERS" =some (.int (256) t)
inductive Hu(K:W.Frag)(vs:List V)(H:Hp)(Q:VK)(E:XK):Prop
 |mk (a:Addr) (b:List UInt8) (i:Nat):vs=[.ref a,.int i]->ah K H a (bs b)->i+1<b.length->Q (.int (u16 b i:Nat)) H->Hu K vs H Q E
variable(P w K mg Ba)in
abbrev fG:=Kn P w K mg Ba "unsigned16" ["row","at"] 1 (Hu K)
inductive Hv(K:W.Frag)(vs:List V)(H:Hp)(Q:VK)(E:XK):Prop
 |mk (a:Addr) (b:List UInt8) (i:Nat):vs=[.ref a,.int i]->ah K H a (bs b)->i+1<b.length->Q (.int (i16 b i)) H->Hv K vs H Q E
variable(P w K mg Ba)in
abbrev vq:=Kn P w K mg Ba "signed16" ["row","at"] 2 (Hv K)
inductive Ht(K:W.Frag)(vs:List V)(H:Hp)(Q:VK)(E:XK):Prop
 |mk (a:Addr) (b:List UInt8) (i:Nat):vs=[.ref a,.int i]->ah K H a (bs b)->i+3<b.length->Q (.int (u32 b i:Nat)) H->Ht K vs H Q E
variable(P w K mg Ba)in
abbrev vp:=Kn P w K mg Ba "unsigned32" ["row","at"] 2 (Ht K)
section
variable{P:Program}{w:World}{K:W.Frag}{mg:Str->Option Value}{Ba:Heap}{H:Hp}{Q:VK}{E:XK}{a:Addr}{b:List UInt8}{z:Int}{i:Nat}
def NO(h:ah K H a (bs b))(e:z=(i:Int))(l:i+1<b.length)(q:Q (.int (u16 b i:Nat)) H):Hu K [.ref a,.int z] H Q E:=⟨a,b,i,by rw[e],h,l,q⟩
def G3(h:ah K H a (bs b))(e:z=(i:Int))(l:i+1<b.length)(q:Q (.int (i16 b i)) H):Hv K [.ref a,.int z] H Q E:=⟨a,b,i,by rw[e],h,l,q⟩
def NM(h:ah K H a (bs b))(e:z=(i:Int))(l:i+3<b.length)(q:Q (.int (u32 b i:Nat)) H):Ht K [.ref a,.int z] H Q E:=⟨a,b,i,by rw[e],h,l,q⟩
end
local macro_rules|`(tactic|walk_at "u")=>`(tactic|((first|with_reducible refine' NO ?a ?b ?c ?_|with_reducible refine' G3 ?a ?b ?c ?_|with_reducible refine' NM ?a ?b ?c ?_);(case a=>walk_at "s");(case b=>walk_at "z");(case c=>lia)))
def Wu(d:Df K mg "unsigned16" (top 1) ["row","at"]):fG P w K mg Ba:=by refine d.ok ["row","at"] λ H Q E hr h nN=>?_;obtain⟨a,b,i,rfl,hb,hi,k⟩:=h;refine⟨_,(ak (ay (aj aJ (aj aR (bO (pv 0) (pv 1)) af) (bO (pv 0) (aj aJ (pv 1) af))))),?_⟩;symm;refine qi k ?_;unfold u16;simp+arith
def Xl(d:Df K mg "signed16" (top 2) ["row","at"])(aS:fG P w K mg Ba):vq P w K mg Ba:=by
 refine d.ok ["row","at","number"] λ H Q E hr h nN=>?_;obtain⟨a,b,i,rfl,hb,hi,k⟩:=h;refine⟨_,(ag (au 2 nN (pk aS hr (aa (pv 0) (aa (pv 1) ae)))) (ak (ay (iY (aB yk (pv 2) af) (aj cJ (pv 2) af) (pv 2))))),?_⟩;symm;walk_at "if"
 ·intro c;symm;refine qi k ?_;unfold i16 signed;rw[ai (by lia)];rfl
 ·intro c;symm;refine qi k ?_;unfold i16 signed;rw[ao (by lia)]
def Wt(d:Df K mg "unsigned32" (top 3) ["row","at"])(aS:fG P w K mg Ba):vp P w K mg Ba:=by refine d.ok ["row","at"] λ H Q E hr h nN=>?_;obtain⟨a,b,i,rfl,hb,hi,k⟩:=h;refine⟨_,(ak (ay (aj aJ (aj aR (pk aS hr (aa (pv 0) (aa (pv 1) ae))) af) (pk aS hr (aa (pv 0) (aa (aj aJ (pv 1) af) ae)))))),?_⟩;symm;refine qi k ?_;unfold u32;simp+arith
end
def o6(B:Heap)(l:List Env)(e:Addr)(cls:Value)(h:Heap):Prop:=
 B.StaysIn h/\B.get? e=none/\h.FunFrames B l/\ ∃a0 fl,h.TracedAtW B e cls a0 fl
section
variable{M:Model}{A:Around}{E:Value->Shared->Prop}{s:Shared}{B:Heap}{env:Env}{outer l:List Env}{L e:Addr}{cls:Value}{Q:Unit->Shared->Prop}
def Gr(iN:A.frames=some (env::outer))(hf:env.frame=some L)(x:o6 B (env::outer) e cls s.heap)
  (hQ: ∀h' a0,B.StaysIn h'->h'.FunFrames B (env::outer)->h'.TracedAtW B e cls a0 (rawInt L)->s.heap.UpToSlots h'->Q () {s with heap:=h'}):wpAny M A (noteFrame (.ref e) env) Q E s:=by
 obtain⟨f1,f2,f3,a0,fl,f4⟩:=x;by_cases zQ:fl=rawInt L
 ·subst zQ;exact wpAny_noteFrame_againW hf f4 (hQ _ a0 f1 f3 f4 (.refl _))
 ·obtain⟨ox,us,T,oT,ts,q1,⟨q2,q3⟩,q4,q5,q6,q7,q8,q9,Dd⟩:=f4;subst q2;have z3:3<ts.size:=(xx.mp Dd).1;have far: ∀b,b≠T->(s.heap.update T (Obj.mapFields λ v=>v.setIfInBounds 3 Value.none)).get? b=s.heap.get? b:=λ b nb=>A1 _ _ nb.symm;have plain: ∀b o,s.heap.get? b=some o->(∀vs,o.data≠ .fields vs)->b≠T:=λ b o q n z=>by subst z;rw[q8]at q;cases q;exact n ts q9
  unfold noteFrame;simp only[hf];refine aA (pz q1 q4 q5 ?_);rw[ao (by simp:(Value.ref T != Value.none)=true)];refine aA (pz q8 q9 Dd ?_);rw[ai λ z=>zQ (eq_of_beq z)];refine aA (Ar q8 q9 z3 ?_);refine wpAny_entryW (a0:=a0) iN (f3.of_keeps λ b o q n=>⟨o,(far b (plain b o q n)).trans q,rfl⟩) hf ((far e q7.symm).trans q1) (λ b o q=>(far b λ z=>by rw[z,q6]at q;cases q).trans (f1 b o q)) f2 q4 (xx.mp q5).1 q3 λ h' ⟨x1,x2,x3,x4⟩=>hQ h' a0 x1 x2 x3 λ b o q n=>x4 b o ((far b (plain b o q n)).trans q) n
def Gf(x:o6 B l e cls s.heap)(hQ: ∀h',o6 B l e cls h'->s.heap.UpToSlots h'->Q () {s with heap:=h'}):wpAny M A (setFlight (.ref e) none) Q E s:=by obtain⟨f1,f2,f3,a0,fl,f4⟩:=x;exact wpAny_setFlight_noneW f1 f3 f4 λ h' k1 k2 k3 k4=>hQ h' ⟨k1,f2,k2,a0,_,k3⟩ λ b o hb hn=>⟨o.slots,k4 b o hb hn⟩
def X1(iN:A.frames=some (env::outer))(hf:env.frame=some L)(x:o6 B (env::outer) e cls s.heap)
  (hQ: ∀h',o6 B outer e cls h'->s.heap.UpToSlots h'->Q () {s with heap:=h'}):wpAny M A (leaving env (.ref e)) Q E s:=by
 unfold leaving;refine aA (Gr iN hf x λ h1 a0 g1 g2 g3 g4=>?_);refine Gf (s:={s with heap:=h1}) ⟨g1,x.2.1,g2,a0,_,g3⟩ λ h' fl ups=>hQ h' ⟨fl.1,fl.2.1,?_,fl.2.2.2⟩ (g4.trans ups);obtain⟨_,_,k⟩:=fl.2.2.1;exact k
end
theorem dy.ex{P:Program}{w:World}{H:Hp}{h:Heap}{a:Addr}{o:HO}(x:dy P w H h a o): ∃ob,h.get? a=some ob:=by
 cases o with
 |lst xs=>obtain⟨_,_,_,_,e⟩:=x;exact⟨_,e⟩
 |tup xs=>obtain⟨_,_,_,p⟩:=x;obtain⟨_,e,_⟩:=p;exact⟨_,e⟩
 |dK kvs=>obtain⟨_,_,_,_,o,_,_,e,_⟩:=x;exact⟨_,e⟩
 |dT kvs=>obtain⟨_,_,_,_,o,_,_,e,_⟩:=x;exact⟨_,e⟩
 |set S n=>obtain⟨o,_,_,_,e,_⟩:=x;exact⟨_,e⟩
 |ins C dx fs=>obtain⟨_,_,_,e,_⟩:=x;exact⟨_,e⟩
 |own y=>exact x
 |xd fs=>obtain⟨_,⟨_,_,_,e,_⟩,_⟩:=x;exact⟨_,e⟩
 |C9 lo hi=>obtain⟨_,_,_,e⟩:=x;exact⟨_,e⟩
 |bM ob u=>exact⟨_,x.1⟩
 |qF ps=>exact⟨_,x⟩
 |met f y=>exact⟨_,x⟩
 |ext φ=>exact x.2.1
def Hl{X:Cx}{pins:List (Addr×Obj)}{σ:St}{H':Hp}{s':Shared}{h' B:Heap}(hex:X.ex=[])(I:Inv X pins σ H' s')(ups:s'.heap.UpToSlots h')(st:B.StaysIn h')
  (hB: ∀b o,s'.heap.get? b=some o->(X.s₀.heap.get? b≠none\/H' b≠none)->b∉fS X.stack->B.get? b=some o):
  Un X.fs [] X.H₀ H' X.s₀.heap h'/\cU X.prog X.w H' h'/\ ∀b o,h'.get? b=some o->(X.s₀.heap.get? b≠none\/H' b≠none)->b∉X.fs->B.get? b=some o:=by
 have old: ∀b,X.s₀.heap.get? b≠none->b≠X.env.locals:=λ b e z=>by
  cases q:X.s₀.heap.get? b with
  |none=>exact e q
  |some o=>
   have h1:=cz q;have h2:=I.ok.above;rw[z]at h1;exact absurd (dJ h1 h2) (k8 _)
 have Tg: ∀b,(X.s₀.heap.get? b≠none\/H' b≠none)->b∉X.fs->b∉fS X.stack:=λ b h1 h2 h3=>by
  rcases bV.mp (I.xU b h3)with z|z
  ·rcases h1 with h1|h1
   ·exact old b h1 z
   ·exact h1 (by rw[z];exact I.free)
  ·exact h2 z
 have kp: ∀b o,s'.heap.get? b=some o->(X.s₀.heap.get? b≠none\/H' b≠none)->b∉X.fs->h'.get? b=some o:=λ b o e h1 h2=>st _ _ (hB b o e h1 (Tg b h1 h2));have nx: ∀b,b∉X.ex:=λ b=>by rw[hex];simp
 have fsH: ∀b,b∈X.fs->H' b=none:=λ b hb=>by obtain⟨_,o,ho,_⟩:=I.ok.g_.mem hb;exact I.base.free b o ho (I.ok.kQ b hb) (nx b)
 have slot: ∀b o,X.s₀.heap.get? b=some o->X.H₀ b=none->b∈X.fs-> ∃sl,h'.get? b=some {o with slots:=sl}:=λ b o e n f=>by obtain⟨sl,e1⟩:=I.base.slot b o e n f (nx b);obtain⟨_,o2,e2,nf⟩:=I.ok.g_.mem f;rw[e]at e2;cases e2;obtain⟨sl2,e3⟩:=ups b _ e1 nf;exact⟨sl2,e3⟩
 refine⟨⟨λ b o e n f _=>kp b o (I.base.keep b o e n f (nx b)) (.inl (by rw[e];simp)) f,λ b o e n f _=>slot b o e n f,λ b o e n _=>I.base.free b o e n (nx b),λ b o e _=>?_,I.base.mT,I.base.kJ,I.base.mU⟩,λ b u e=>?_,λ b o e h1 h2=>?_⟩
 ·by_cases f:b∈X.fs
  ·obtain⟨sl,q⟩:=slot b o e (I.ok.kQ b f) f;exact⟨_,q⟩
  ·obtain⟨o',q⟩:=I.base.there b o e (nx b);exact⟨o',kp b o' q (.inl (by rw[e];simp)) f⟩
 ·refine(I.ax b u e).lL (λ c v hc q=>?_) (λ _ q=>q) λ _ _ q=>q;have hn:H' c≠none:=by
   rcases hc with z|z
   ·rw[z,e];simp
   ·rw[z];simp
  exact kp c v q (.inr hn) λ f=>hn (fsH c f)
 ·have ex: ∃o1,s'.heap.get? b=some o1:=by
   rcases h1 with h1|h1
   ·cases q:X.s₀.heap.get? b with
    |none=>exact absurd q h1
    |some o0=>exact I.base.there b o0 q (nx b)
   ·cases q:H' b with
    |none=>exact absurd q h1
    |some u=>exact dy.ex (I.ax b u q)
  obtain⟨o1,e1⟩:=ex;have:=kp b o1 e1 h1 h2;rw[e]at this;cases this;exact hB b o e1 h1 (Tg b h1 h2)
def fT(P:Program)(w:World)(C:Addr):kW:=λ outer H s E e s'=>∃(a:Addr)(B:Heap)(H':Hp),e= .ref a/\s'.os=s.os/\AllBare s'.gens/\Un (fS outer) [] H H' s.heap s'.heap/\cU P w H' s'.heap/\o6 B outer a (.ref C) s'.heap/\
 (∀b o,s'.heap.get? b=some o->(s.heap.get? b≠none\/H' b≠none)->b∉fS outer->B.get? b=some o)/\E (.ref C) none H'
def Xr(C:Addr)(X:Cx)(E:XK):Prop:=∀(pins:List (Addr×Obj))(σ:St)(H:Hp)(s:Shared)(B:Heap)(a:Addr),Inv X pins σ H s->o6 B X.stack a (.ref C) s.heap->
 (∀b o,s.heap.get? b=some o->(X.s₀.heap.get? b≠none/\b∉X.ex\/H b≠none\/b∈(X.pn++pins).map (·.1))->b∉fS X.stack->B.get? b=some o)->E (.ref C) none H->X.xe (.ref a) s
def Xm(C:Addr)(X:Cx)(E:XK):Prop:=∀(pins:List (Addr×Obj))(σ:St)(H:Hp)(s:Shared)(h':Heap)(e:Addr)(vs:List Value),Inv X pins σ H s->Heap.MadeExcOf s.heap h' e (.ref C) vs->E (.ref C) none H->X.xe (.ref e) {s with heap:=h'}
def Xr.pass{C:Addr}{X:Cx}{E:XK}(h:Xr C X E):Passes (fT X.prog X.w C) X E:=by
 intro pins σ H s e s' I q;obtain⟨a,B,H',rfl,os,bare,un,ax,fl,hB,q⟩:=q;refine h pins σ H' s' B a (I.Cp (ch:=[]) os un ax bare λ b z=>absurd z (by simp)) fl (λ b o e h1 h2=>hB b o e ?_ h2) q;rcases h1 with h1|h1|h1
 ·cases q:X.s₀.heap.get? b with
  |none=>exact absurd q h1.1
  |some o0=>
   obtain⟨o1,e1⟩:=I.base.there b o0 q h1.2;exact .inl (by rw[e1];simp)
 ·exact .inr h1
 ·obtain⟨p,hp,rfl⟩:=bF.mp h1;exact .inl (by rw[(I.pin p hp).1];simp)
section
variable{P:Program}{w:World}{K:W.Frag}{mg:Str->Option Value}{Ba:Heap}{C:Addr}{N:List Str}{qual:Str}{scope:Scope}{f:Addr}{cd:Value}{A:Around}{outer:List Env}{s:Shared}{H:Hp}{E:XK}
def b_:Xr C (fj (fT P w C) P w K mg Ba N qual scope f cd A outer s H E) E:=by intro pins σ H1 s1 B a I fl hB q;show wpAny _ _ (leaving _ (.ref a)) _ _ s1;refine X1 I.ok.frames rfl fl λ h' tN ups=>?_;obtain⟨u2,IT,tM⟩:=Hl (X:=fj (fT P w C) P w K mg Ba N qual scope f cd A outer s H E) rfl I ups tN.1 λ b o e h n=>hB b o e (h.elim (λ z=> .inl ⟨z,by simp[fj]⟩) λ z=> .inr (.inl z)) n;exact⟨a,B,H1,rfl,I.os,I.bare,u2,IT,tN,tM,q⟩
def kC:Xm C (fj (fT P w C) P w K mg Ba N qual scope f cd A outer s H E) E:=by
 intro pins σ H1 s1 h2 e vs I hx q;have I2:=I.kept (t':=s1.toks) hx.keeps;show wpAny _ _ (leaving _ (.ref e)) _ _ _;refine wpAny_leaves_madeW («base»:=W.hideAll s1.heap (fS (fj (fT P w C) P w K mg Ba N qual scope f cd A outer s H E).stack)) (h:=s1.heap) I.ok.frames rfl (λ b o e=>pA _ e) (W.funFrames_hide I.stack λ env he b hb=>uF.mpr ⟨env,he,hb⟩) hx λ h' t fl tup fresh ups=>?_;have key:=Hl (X:=fj (fT P w C) P w K mg Ba N qual scope f cd A outer s H E) rfl I2 ups fl.1 λ b o e h n=>?_
 ·obtain⟨u2,IT,tM⟩:=key;exact⟨e,_,H1,rfl,I2.os,I2.bare,u2,IT,⟨fl.1,fl.2.1,fl.2.2.1,_,_,fl.2.2.2⟩,tM,q⟩
 ·have ex: ∃o1,s1.heap.get? b=some o1:=by
   rcases h with h1|h1
   ·cases q:(fj (fT P w C) P w K mg Ba N qual scope f cd A outer s H E).s₀.heap.get? b with
    |none=>exact absurd q h1
    |some o0=>exact I.base.there b o0 q (by simp[fj])
   ·cases q:H1 b with
    |none=>exact absurd q h1
    |some u=>exact dy.ex (I.ax b u q)
  obtain⟨o1,e1⟩:=ex;have e2:=hx.keeps b o1 e1;have e':h2.get? b=some o:=e;rw[e']at e2;cases e2;exact W.hideAll_get _ e1 n
def n_:PassesOwn (model P w) (fj (fT P w C) P w K mg Ba N qual scope f cd A outer s H E).A (fj (fT P w C) P w K mg Ba N qual scope f cd A outer s H E).env (fj (fT P w C) P w K mg Ba N qual scope f cd A outer s H E).xe:=PassesOwn.leaving
end
structure C1(K:W.Frag)(mg:Str->Option Value)(x:Str)(C:Addr):Prop where
 at_: ∀(h:Heap),K.In h->OwnCls x C [.type "ValueError",.type "Exception",.type "BaseException",.type "object"] "ValueError.__new__" mg h
def OW(E:Hp->Prop)(t:TA):TS:=λ _ σ H=>t σ H λ vs H1=>vs.length<=1000/\E H1
def kq{X:Cx}{C:Addr}{E:XK}{x:Str}{e:Expr}{es:List Expr}{t:TA}{np d_ pos:Pos}(hc:X.calm=true)(xm:Xm C X E)(xc:C1 X.K X.mg x C)(hg:Gl X x)(ha:PA X (e::es) t)
  (he:starEach (e::es) X.env=(false,eval e X.env)::starEach es X.env:=by rfl)(bz:(backTo d_ (starEach es X.env)).any (·.1)=false:=by rfl)(fR:(x==("__debug__" :Str))=false:=by decide):
  PS X (.Raise (some (.Call (.Name x np) (e::es) [] d_)) none pos) (OW (λ H=>E (.ref C) none H) t):=by
 intro pins s σ H D I h;obtain⟨tl,NN,nm,q,bs,hdct,sn,sub,ab,col,dd,k0,k1,k2,k3,k5,mN,hC,hN,Ug,TT⟩:=(xc.at_ X.base I.ok.mod.oP).obj;refine wpAny_Raise_call_subT (C:=C) (nm:=nm) (q:=q) (N:=NN) (bs:=bs) (bm:=tl) (hdct:=hdct) (sn:=sn) (sub:=sub) (ab:=ab) (col:=col) (dd:=dd) (k0:=k0) (k1:=k1) (k2:=k2) (k3:=k3) (k5:=k5)
  F.excBase_ValueError (mN:=mN) (TT.hasType F.excBase_ValueError.hasBase) (I.ok.hd hc) (by rw[he];show(false||(backTo d_ (starEach es X.env)).any (·.1))=false;rw[bz];rfl) Ug ?_
 refine u0 I hg (xc.at_ X.base I.ok.mod.oP).bound ⟨rfl,?_⟩ fR;have hp:=ha d_ pins s σ H _ I h;rw[he]at hp⊢;refine AY (aF hp λ us s1 ⟨vs,H1,I1,r,z,q⟩=>?_);exact⟨rfl,by show us.length<=sizeLine;rw[<- r.length];exact bY z (by decide),I1.bk _ _ hC,hN.keeps I1.bk,TT.keeps I1.bk,λ h' e mk=>xm pins σ H1 s1 h' e us I1 mk q⟩
def cn(P:Program)(w:World)(K:W.Frag)(mg:Str->Option Value)(Ba:Heap)(C:Addr)(x:Str)(ps:List Str)(k:Nat)(sp:Sp):Prop:=
 ∃(f:Addr)(fd:FuncData),hR P w K mg Ba (fT P w C) k f fd ps sp/\Binds K fd ps []/\W.keepIn K (.ref f)=true/\mg x=some (.ref f)
def Km(P:Program)(w:World)(K:W.Frag)(mg:Str->Option Value)(Ba:Heap)(CX:kW)(Cl:Addr)(m:Str)(ps:List Str)(k:Nat)(sp:Sp):Prop:=
 ∃(f:Addr)(fd:FuncData),hR P w K mg Ba CX k f fd ps sp/\Binds K fd ps []/\Meth K Cl m f
def q_(K:W.Frag)(Cl:Addr)(m qual:Str)(st:Stmt)(ps:List Str):Prop:=∃(f:Addr)(fd:FuncData),jJ K m qual st f fd/\Binds K fd ps []/\Meth K Cl m f
def nI(K:W.Frag)(mg:Str->Option Value)(x:Str)(Cl:Addr)(qual:Str)(st:Stmt)(ps:List Str):Prop:=∃(f:Addr)(fd:FuncData),jJ K "__init__" qual st f fd/\Binds K fd ps []/\Mk K Cl f/\mg x=some (.ref Cl)
def nF(P:Program)(w:World)(K:W.Frag)(mg:Str->Option Value)(Ba:Heap)(x:Str)(Cl:Addr)(ps:List Str)(k:Nat)(sp:Sp):Prop:=
 ∃(f:Addr)(fd:FuncData),hR P w K mg Ba rf k f fd ps sp/\Binds K fd ps []/\Mk K Cl f/\mg x=some (.ref Cl)
section
variable{P:Program}{w:World}{K:W.Frag}{mg:Str->Option Value}{Ba:Heap}{C Cl:Addr}
def jJ.ef{x qual:Str}{st:Stmt}{f:Addr}{fd:FuncData}{N ps:List Str}{k:Nat}{sp:Sp}(F:jJ K x qual st f fd)(S:nZ N ps (dN st))(len: ∀vs H Q E,sp vs H Q E->vs.length=ps.length)
  (jb: ∀(bp:Value)(A:Around)(outer:List Env)(s:Shared)(H:Hp)(vs:List V)(Q:VK)(E:XK),ck k (A.deeper (envOfC qual (dN st) s.heap.objs.size f bp))->sp vs H Q E->
   ∃t,eX (fj (fT P w C) P w K mg Ba N qual (dN st) f bp A outer s H E) (jP st) t/\t {nx:=λ _ H'=>Q .aG H',rt:=Q} (start N vs) H):hR P w K mg Ba (fT P w C) (k+1) f fd ps sp:=by
 obtain⟨oc,od,kV,doc,pm,an,bp,ct,iK,rfl,lk,l7⟩:=F.ex;exact QA lk l7 S len λ A outer s H vs Q E hr ie=>jb bp A outer s H vs Q E hr ie
theorem Df.ef{x:Str}{st:Stmt}{ps:List Str}{k:Nat}{sp:Sp}(F:Df K mg x st ps)(N:List Str)
  (jb: ∀{f:Addr}{bp:Value}{A:Around}{outer:List Env}{s:Shared}{vs:List V}(H:Hp)(Q:VK)(E:XK),ck k (A.deeper (envOfC x (dN st) s.heap.objs.size f bp))->sp vs H Q E->N.Nodup->
   ∃t,eX (fj (fT P w C) P w K mg Ba N x (dN st) f bp A outer s H E) (jP st) t/\t (Ends.mk (λ _ H'=>Q .aG H') Q (λ _ _=>False) (λ _ _=>False)) (start N vs) H) (S:nZ N ps (dN st):=by walk_at "sc") (len: ∀vs H Q E,sp vs H Q E->vs.length=ps.length:=by walk_at "ln"):cn P w K mg Ba C x ps (k+1) sp:=by
 obtain⟨f,fd,F,b,m⟩:=F;exact⟨f,fd,jJ.ef F S len (λ bp A outer s H vs Q E hr h=>jb H Q E hr h S.nd),b,F.kp,m⟩
theorem q_.ef{m qual:Str}{st:Stmt}{ps:List Str}{k:Nat}{sp:Sp}(F:q_ K Cl m qual st ps)(N:List Str)
  (jb: ∀{f:Addr}{bp:Value}{A:Around}{outer:List Env}{s:Shared}{vs:List V}(H:Hp)(Q:VK)(E:XK),ck k (A.deeper (envOfC qual (dN st) s.heap.objs.size f bp))->sp vs H Q E->N.Nodup->
   ∃t,eX (fj (fT P w C) P w K mg Ba N qual (dN st) f bp A outer s H E) (jP st) t/\t (Ends.mk (λ _ H'=>Q .aG H') Q (λ _ _=>False) (λ _ _=>False)) (start N vs) H) (S:nZ N ps (dN st):=by walk_at "sc") (len: ∀vs H Q E,sp vs H Q E->vs.length=ps.length:=by walk_at "ln"):Km P w K mg Ba (fT P w C) Cl m ps (k+1) sp:=by
 obtain⟨f,fd,F,b,m⟩:=F;exact⟨f,fd,jJ.ef F S len (λ bp A outer s H vs Q E hr h=>jb H Q E hr h S.nd),b,m⟩
theorem nI.ok{x qual:Str}{st:Stmt}{ps:List Str}{k:Nat}{sp:Sp}(F:nI K mg x Cl qual st ps)(N:List Str)
  (jb: ∀{f:Addr}{bp:Value}{A:Around}{outer:List Env}{s:Shared}{vs:List V}(H:Hp)(Q:VK)(E:XK),ck k (A.deeper (envOfC qual (dN st) s.heap.objs.size f bp))->sp vs H Q E->N.Nodup->
   ∃t,eX (fj rf P w K mg Ba N qual (dN st) f bp A outer s H E).sX (jP st) t/\t (Ends.mk (λ _ H'=>Q .aG H') Q (λ _ _=>False) (λ _ _=>False)) (start N vs) H) (S:nZ N ps (dN st):=by walk_at "sc") (len: ∀vs H Q E,sp vs H Q E->vs.length=ps.length:=by walk_at "ln"):nF P w K mg Ba x Cl ps (k+1) sp:=by
 obtain⟨f,fd,F,b,m⟩:=F;exact⟨f,fd,F.ok S len (λ bp A outer s H vs Q E hr h=>jb H Q E hr h S.nd),b,m⟩
end
def C5(sp:Sp)(E:XK)(t:TA):TE:=λ σ H Q=>t σ H λ vs H1=>sp vs H1 Q E
def sP(Cl:Addr)(m:Str)(sp:Sp)(E:XK)(ta:TE)(t:TA):TE:=λ σ H Q=>ta σ H λ x H1=>∃a dx fs,x= .ref a/\H1 a=some (.ins Cl dx fs)/\fs.lookup m=none/\t σ H1 λ vs H2=>sp (x::vs) H2 Q E
def vF(Cl:Addr)(sp:Sp)(t:TA):TE:=λ σ H Q=>t σ H λ vs H1=>∀x dx,H1 x=none->H1 dx=none->dx≠x->sp (.ref x::vs) (upd (upd H1 dx (.own x)) x (.ins Cl dx [])) (λ v H2=>v= .aG/\Q (.ref x) H2) E0
section
variable{X:Cx}{k:Nat}{ps:List Str}{sp:Sp}{x m:Str}{p pos apos:Pos}{e o:Expr}{es:List Expr}{t:TA}{ta:TE}{C Cl:Addr}{E:XK}{CX:kW}
def fP{kk:Nat}(h:cn X.prog X.w X.K X.mg X.base C x ps k sp)(hx:Xr C X E)(hr:ck kk X.A)(ha:PA X (e::es) t)(hk:k<=kk:=by first|decide|lia)(hg:Gl X x:=by exact rfl)(fR:(x==("__debug__" :Str))=false:=by decide)
  (he:starEach (e::es) X.env=(false,eval e X.env)::starEach es X.env:=by rfl)(bz:(backTo pos (starEach es X.env)).any (·.1)=false:=by rfl):PE X (.Call (.Name x p) (e::es) [] pos) (C5 sp E t):=by
 obtain⟨f,fd,F,b,kp,m⟩:=h;have q:PE X (.Call (.Name x p) (e::es) [] pos) (yd sp [] E t):=Ou F (hr.mono hk) hg m kp b .nil hx.pass ha fR he bz;have e1:yd sp [] E t=C5 sp E t:=by funext σ H Q;show(t σ H λ vs H1=>sp (vs++[]) H1 Q E)=(t σ H λ vs H1=>sp vs H1 Q E);simp only[cG]
 rw[<- e1];exact q
def De{pl:Sem Bool}{kk:Nat}(h:Km X.prog X.w X.K X.mg X.base CX Cl m ps k sp)(hx:Passes CX X E)(c:gA X.K Cl)(hr:ck kk X.A)(ho:PE X o ta)(ha:PA X (e::es) t)(hk:k<=kk:=by first|decide|lia)
  (eS:starEach (e::es) X.env=(false,eval e X.env)::starEach es X.env:=by rfl)(bz:(backTo pos (starEach es X.env)).any (·.1)=false:=by rfl)
  (ht:eval (.Call (.Attribute o m apos) (e::es) [] pos) X.env=(do
   let ov <- eval o X.env
   standAt apos.atName
   let(f,first)<- holding [ov] (getMethod ov m pl)
   callWith pos f first (backTo pos (starEach (e::es) X.env)) (backToKw pos (keywordEach [] X.env))):=by rfl):PE X (.Call (.Attribute o m apos) (e::es) [] pos) (sP Cl m sp E ta t):=by
 obtain⟨f,fd,F,b,mt⟩:=h;have q:=aaw (pl:=pl) (apos:=apos) (pos:=pos) ho c mt F (hr.mono hk) b .nil hx ha eS bz ht;have e1:B6 Cl m sp [] E ta t=sP Cl m sp E ta t:=by unfold B6 sP;simp only[cG]
 rw[<- e1];exact q
def jd{pl:Sem Bool}{kk:Nat}(h:Km X.prog X.w X.K X.mg X.base CX Cl m ps k sp)(hx:Passes CX X E)(c:gA X.K Cl)(hr:ck kk X.A)(ho:PE X o ta)(hk:k<=kk:=by first|decide|lia)
  (ht:eval (.Call (.Attribute o m apos) [] [] pos) X.env=(do
   let ov <- eval o X.env
   standAt apos.atName
   let(f,first)<- holding [ov] (getMethod ov m pl)
   callWith pos f first (backTo pos (starEach [] X.env)) (backToKw pos (keywordEach [] X.env))):=by rfl):PE X (.Call (.Attribute o m apos) [] [] pos) (sP Cl m sp E ta jc):=by
 obtain⟨f,fd,F,b,mt⟩:=h;exact Zt (pl:=pl) (apos:=apos) (pos:=pos) ho c mt F (hr.mono hk) b .nil hx ht
def mY{kk:Nat}(h:nF X.prog X.w X.K X.mg X.base x Cl ps k sp)(hr:ck kk X.A)(ha:PA X (e::es) t)(hk:k+1<=kk:=by first|decide|lia)(hg:Gl X x:=by exact rfl)(fR:(x==("__debug__" :Str))=false:=by decide)
  (he:starEach (e::es) X.env=(false,eval e X.env)::starEach es X.env:=by rfl)(bz:(backTo pos (starEach es X.env)).any (·.1)=false:=by rfl):PE X (.Call (.Name x p) (e::es) [] pos) (vF Cl sp t):=by
 obtain⟨f,fd,F,b,M,m⟩:=h;have q:PE X (.Call (.Name x p) (e::es) [] pos) (yc Cl sp [] E0 t):=aax M F (hr.mono hk) hg m b .nil H_ ha fR he bz;have e1:yc Cl sp [] E0 t=vF Cl sp t:=by unfold yc vF;simp only[cG]
 rw[<- e1];exact q
def ae1{kk:Nat}(h:nF X.prog X.w X.K X.mg X.base x Cl ps k sp)(hr:ck kk X.A)(hk:k+1<=kk:=by first|decide|lia)(hg:Gl X x:=by exact rfl)(fR:(x==("__debug__" :Str))=false:=by decide):PE X (.Call (.Name x p) [] [] pos) (vF Cl sp jc):=by obtain⟨f,fd,F,b,M,m⟩:=h;exact Zu M F (hr.mono hk) hg m b .nil H_ fR
end
def Look.slots{env:Env}{h h':Heap}{m:Str->Option Value}{x:Str}{u:Value}(l:Look env h m x u)(ups:h.UpToSlots h'):Look env h' m x u:=by
 rcases l with l|⟨k,c,e,o,ho,hd⟩
 ·exact .inl l
 ·obtain⟨sl,e2⟩:=ups c o ho λ vs z=>by rw[hd]at z;cases z
  exact .inr ⟨k,c,e,_,e2,hd⟩
def Inv.Kw{X:Cx}{pins:List (Addr×Obj)}{σ:St}{H:Hp}{s:Shared}{h' B:Heap}(hex:X.ex=[])(I:Inv X pins σ H s)(ups:s.heap.UpToSlots h')(st:B.StaysIn h')
  (hB: ∀b o,s.heap.get? b=some o->(X.s₀.heap.get? b≠none/\b∉X.ex\/H b≠none\/b∈(X.pn++pins).map (·.1))->b∉fS X.stack->B.get? b=some o):Inv X pins σ H {s with heap:=h'}:=by
 have nx: ∀b,b∉X.ex:=λ b=>by rw[hex];simp
 obtain⟨un,ax,_⟩:=Hl hex I ups st λ b o e h n=>hB b o e (h.elim (λ z=> .inl ⟨z,nx b⟩) λ z=> .inr (.inl z)) n;obtain⟨m,hn,hl⟩:=I.loc;refine⟨I.ok,I.os,I.bare,by rw[hex];exact un,⟨m,ups.ns hn,λ i x v h1 h2 h3=>?_⟩,λ x c e=>?_,I.free,I.gN,λ p hp=>?_,ax,I.len⟩
 ·obtain⟨u,r,l⟩:=hl i x v h1 h2 h3;exact⟨u,r,Look.slots l ups⟩
 ·obtain⟨v,o,ho,hd⟩:=I.cell x c e;obtain⟨sl,e2⟩:=ups c o ho λ vs z=>by rw[hd]at z;cases z
  exact⟨v,_,e2,hd⟩
 ·obtain⟨h1,h2,h3,h4,h5⟩:=I.pin p hp;refine⟨st _ _ (hB _ _ h1 (.inr (.inr (bF.mpr ⟨p,hp,rfl⟩))) λ z=>?_),h2,h3,h4,h5⟩;exact(bV.mp (I.xU _ z)).elim h3 h4
def Rn(n:Nat)(t:XK->TS)(u:TS):TS:=λ D σ H=>t (λ _ _ H'=>u D (List.replicate n none) H') D σ H
abbrev Cx.CC(X:Cx)(pn:List (Addr×Obj))(Ex:Value->Shared->Prop):Cx:={X with pn:=pn,xe:=Ex}
abbrev Cx.CB(X:Cx)(pn:List (Addr×Obj))(A':Around):Cx:={X with A:=A',calm:=false,pn:=pn,xe:=λ _ _=>False}
def ab5{X:Cx}{C:Addr}{x:Str}{body HU:List Stmt}{b0:Stmt}{t:XK->TS}{u:TS}{np oA pos:Pos}(hxe:X.xe=λ _ _=>False)(hex:X.ex=[])(eS:X.stack=X.env::X.outer)(iN:X.env.frame=some X.env.locals)
  (xc:C1 X.K X.mg x C)(hg:Gl X x)(hb: ∀(pn:List (Addr×Obj))(Ex:Value->Shared->Prop)(E:XK),Xr C (Cx.CC X pn Ex) E->eX (Cx.CC X pn Ex) body (t E))
  (hs: ∀(pn:List (Addr×Obj))(A':Around),eX (Cx.CB X pn A') (b0::HU) u)(fR:(x==("__debug__" :Str))=false:=by decide):
  PS X (.Try body [.ExceptHandler (some (.Name x np)) none (b0::HU) oA] [] [] pos) (Rn X.N.length t u):=by
 intro pins s σ H D I h;refine wpAny_Try_except ?_;have back: ∀{Y:Cx}{f:Flow}{s':Shared},(∀{σ' H'},Inv Y [] σ' H' s'->Inv X pins σ' H' s')->SP Y [] D f s'->SP X pins D f s':=λ{Y f s'}k q=>by
  cases f with
  |next=>obtain⟨σ',H',I,q⟩:=q;exact⟨σ',H',k I,q⟩
  |brk=>obtain⟨σ',H',I,q⟩:=q;exact⟨σ',H',k I,q⟩
  |cont=>obtain⟨σ',H',I,q⟩:=q;exact⟨σ',H',k I,q⟩
  |ret u=>obtain⟨v,σ',H',I,r,q⟩:=q;exact⟨v,σ',H',k I,r,q⟩
 have P:=hb (X.pn++pins) (λ e s₁=>wpAny (model X.prog X.w) X.A (noteFrame e X.env) (λ _ s₂=>wpAny (model X.prog X.w) X.A (setFlight e none) (λ _ s₃=>wpAny (model X.prog X.w) X.A (handleBy e X.env [.ExceptHandler (some (.Name x np)) none (b0::HU) oA]) (SP X pins D) X.xe s₃) X.xe s₂) X.xe s₁) (λ _ _ H'=>u D (List.replicate X.N.length none) H') ?_ [] s σ H D ?_ h
 ·refine iq P (λ f s1 q=>?_) λ e s1 q=>q;have q':SP X pins D f s1:=back (Y:=Cx.CC X (X.pn++pins) _) (λ{σ' H'}J=>⟨⟨J.ok.mod,J.ok.kind,J.ok.glob,J.ok.blt,J.ok.above,J.ok.inj,J.ok.has,J.ok.qV,J.ok.hd,J.ok.frames,J.ok.sS,J.ok.oX,J.ok.bs,J.ok.kR,J.ok.qm,J.ok.oE,J.ok.g_,J.ok.kQ⟩,J.os,J.bare,J.base,J.loc,J.cell,J.free,J.gN,λ p hp=>J.pin p (show p∈(X.pn++pins)++[] by rw[cG];exact hp),J.ax,J.len⟩) q;cases f with
  |next=>exact wZ q'
  |brk=>exact q'
  |cont=>exact q'
  |ret u=>exact q'
 ·intro HZ σ' H' s' B a J fl hB q;show wpAny (model X.prog X.w) X.A (noteFrame (.ref a) X.env) _ _ s';have tN:o6 B (X.env::X.outer) a (.ref C) s'.heap:=by rw[<- eS];exact fl
  have I0:X.A.frames=some (X.env::X.outer):=by rw[<- eS];exact J.ok.frames
  refine Gr I0 iN tN λ h1 a0 g1 g2 g3 g4=>?_;refine Gf (s:={s' with heap:=h1}) ⟨g1,tN.2.1,g2,a0,_,g3⟩ λ h2 Kx aeA=>?_;have toS: ∀(h3:Heap),B.StaysIn h3->s'.heap.UpToSlots h3->Inv (Cx.CB X (X.pn++pins) (X.A.mark (some (.ref a)))) [] (List.replicate X.N.length none) H' {s' with heap:=h3}:=λ h3 st ups=>by
   have J3:=Inv.Kw (X:=Cx.CC X (X.pn++pins) _) hex J ups st hB;have J4:=J3.weak (σ':=List.replicate X.N.length none) (by rw[eI];exact J3.len.symm) (λ i v e=>by rw[FE]at e;split at e<;>cases e)
   exact⟨⟨J4.ok.mod,J4.ok.kind,J4.ok.glob,J4.ok.blt,J4.ok.above,J4.ok.inj,J4.ok.has,J4.ok.qV,λ z=>(by cases z),J4.ok.frames,J4.ok.sS,J4.ok.oX,J4.ok.bs,J4.ok.kR,J4.ok.qm,J4.ok.oE,J4.ok.g_,J4.ok.kQ⟩,J4.os,J4.bare,J4.base,J4.loc,J4.cell,J4.free,J4.gN,λ p hp=>J4.pin p (by rw[cG]at hp;exact eZ _ hp),J4.ax,J4.len⟩
  have SG:=g4.trans aeA;have S2:=toS h2 Kx.1 SG;obtain⟨tl,NN,nm,qn,bs,hdct,sn,sub,ab,col,dd,k0,k1,k2,k3,k5,mN,hC,hN,Ug,TT⟩:=(xc.at_ X.base I.ok.mod.oP).obj;refine wpAny_handleBy_cons (codeAny_handlers_test (u0 (X:=Cx.CB X (X.pn++pins) (X.A.mark (some (.ref a)))) S2 hg (xc.at_ X.base I.ok.mod.oP).bound ?_ fR)) (by intro z;cases z);obtain⟨a1,fl1,tr⟩:=Kx.2.2.2;obtain⟨ob,J_,afq⟩:=tr.there;refine wpAny_excMatches_sub_self (S2.bk _ _ hC) J_ afq (TT.hasType (by rfl)) (codeAny_handlers_suite ?_);refine Gf (s:={s' with heap:=h2}) Kx λ h3 fl3 aez=>?_;have S3:=toS h3 fl3.1 (SG.trans aez);refine iq (hs (X.pn++pins) (X.A.mark (some (.ref a))) [] {s' with heap:=h3} _ H' D S3 q) (λ f s4 q4=>?_) λ _ _ z=>z.elim;exact back (Y:=Cx.CB X (X.pn++pins) (X.A.mark (some (.ref a)))) (λ{σ' H'}J=>⟨I.ok,J.os,J.bare,J.base,J.loc,J.cell,J.free,J.gN,λ p hp=>J.pin p (show p∈(X.pn++pins)++[] by rw[cG];exact hp),J.ax,J.len⟩) q4
 ·exact⟨⟨I.ok.mod,I.ok.kind,I.ok.glob,I.ok.blt,I.ok.above,I.ok.inj,I.ok.has,I.ok.qV,I.ok.hd,I.ok.frames,I.ok.sS,I.ok.oX,I.ok.bs,I.ok.kR,I.ok.qm,I.ok.oE,I.ok.g_,I.ok.kQ⟩,I.os,I.bare,I.base,I.loc,I.cell,I.free,I.gN,λ p hp=>I.pin p (by rw[cG]at hp;exact hp),I.ax,I.len⟩
def YC{v:Value}{e1 e2:Env}(h:e1.frame=e2.frame):noteFrame v e1=noteFrame v e2:=by unfold noteFrame PySem.frameOf;rw[h]
theorem LL{h B Ba:Heap}: ∀{l:List Env},h.FunFrames Ba l->(∀b∈fS l,B.get? b=none)->h.FunFrames B l
 |[],_,_=>trivial
 |env::r,⟨hk,⟨L,o,hf,hn,ho,hd⟩,hr⟩,k=>⟨hk,⟨L,o,hf,k L (uF.mpr ⟨env,.head _,hf⟩),ho,hd⟩,LL hr λ b hb=>by obtain⟨e2,h2,h3⟩:=uF.mp hb;exact k b (uF.mpr ⟨e2,.tail _ h2,h3⟩)⟩
section
variable{X:Cx}
def acW{Cc:Addr}{E:XK}(hx:Xr Cc X E)(hex:X.ex=[])(eS:X.stack=X.env::X.outer)(iN:X.env.frame=some X.env.locals){pins:List (Addr×Obj)}{σ:St}{H3:Hp}{s3:Shared}(I3:Inv X pins σ H3 s3){scope:Scope}{ce:Env}{fp:List Addr}
  {use:Option (Value->Sem Unit)}{Qf:Value->Shared->Prop}{D:Value}(cf:ce.frame=X.env.frame)(cL:ce.locals=s3.heap.objs.size)(f3: ∀b∈fp,hJ X pins H3 b/\b<s3.heap.objs.size):
  Xr Cc ((X.cy s3 H3 scope ce fp).iF (notedBy (model X.prog X.w) X.A ce λ e s'=>compPost (model X.prog X.w) X.A X.xe use Qf D s3.heap.objs.size (.error e) s')) E:=by
 intro HZ σ' H' s' B a J fl hB q;show wpAny (model X.prog X.w) X.A (noteFrame (.ref a) ce) _ _ s';rw[YC cf];have tN:o6 B (X.env::X.outer) a (.ref Cc) s'.heap:=by rw[<- eS];exact fl
 have I0:X.A.frames=some (X.env::X.outer):=by rw[<- eS];exact I3.ok.frames
 have I7:Inv X pins σ H' s':=I3.Cp (ch:=fp) J.os J.base J.ax J.bare λ b hb=>⟨(f3 b hb).1.2.2.2.1,(f3 b hb).1.2.1,(f3 b hb).1.2.2.2.2.1,(f3 b hb).1.2.2.2.2.2⟩;have nC:H' s3.heap.objs.size=none:=by have z:H' ce.locals=none:=J.free;rw[cL]at z;exact z
 have fC:hJ X pins H' s3.heap.objs.size:=I3.qA (aQ _) nC;obtain⟨m,hn,_⟩:=J.loc;have hn:s'.heap.Ns s3.heap.objs.size m:=by rw[<- cL];exact hn
 have need: ∀b,(X.s₀.heap.get? b≠none/\b∉X.ex\/H' b≠none\/b∈(X.pn++pins).map (·.1))->b≠s3.heap.objs.size/\((s3.heap.get? b≠none/\b∉fp)\/H' b≠none):=λ b h=>by
  rcases h with⟨h1,h2⟩|h|h
  ·cases q:X.s₀.heap.get? b with
   |none=>exact absurd q h1
   |some o0=>
    obtain⟨o1,e1⟩:=I3.base.there b o0 q h2;refine⟨ek (cz e1),.inl ⟨by rw[e1];simp,λ z=>?_⟩⟩;rcases(f3 b z).1.2.2.2.1 with z|z
    ·exact h2 z
    ·exact absurd (dJ (cz q) z) (k8 _)
  ·exact⟨λ z=>h (by rw[z];exact nC),.inr h⟩
  ·obtain⟨p,hp,rfl⟩:=bF.mp h;have e1:=(I3.pin p hp).1;exact⟨ek (cz e1),.inl ⟨by rw[e1];simp,λ z=>(f3 _ z).1.2.2.2.2.2 p hp rfl⟩⟩
 have UC: ∀b o,s'.heap.get? b=some o->(X.s₀.heap.get? b≠none/\b∉X.ex\/H' b≠none\/b∈(X.pn++pins).map (·.1))->b∉fS X.stack->B.get? b=some o:=λ b o e h n=>by obtain⟨_,h2⟩:=need b h;exact hB b o e (h2.elim (λ z=> .inl z) λ z=> .inr (.inl z)) n
 refine Gr I0 iN tN λ h1 a0 g1 g2 g3 g4=>?_;have I8:=Inv.Kw hex I7 g4 g1 UC;refine⟨m,g4.ns hn,λ h2 sb ev _=>?_⟩;have yX: ∀b,b≠s3.heap.objs.size->h2.get? b=h1.get? b:=λ b hb=>sb.2 b hb;have I9:=I8.turned (t':=s'.toks) (h':=h2) (λ b o hb e=>(yX b hb).trans e) fC.1 fC.2.1 fC.2.2.2.1 fC.2.2.2.2.1 fC.2.2.2.2.2;obtain⟨o0,es,ep,Ui,vZ,_⟩:=g4.ns hn;obtain⟨ox,us,T,oT,ts,q1,q2,q4,q5,q6,q7,q8,q9,Dd⟩:=g3;have aC:a≠s3.heap.objs.size:=λ z=>by rw[z,Ui]at q1;cases q1;rw[vZ]at q4;cases q4
 have tC:T≠s3.heap.objs.size:=λ z=>by rw[z,Ui]at q8;cases q8;rw[vZ]at q9;cases q9
 have r1:=(yX a aC).trans q1;have r8:=(yX T tC).trans q8;have z3:3<ts.size:=(xx.mp Dd).1;show wpAny _ _ (PySem.passOn _ (.ref a) ev:Sem Value) _ _ _;unfold PySem.passOn;refine aA (pz r1 q4 q5 ?_);rw[ai (by simp: ¬((Value.ref T==Value.none)=true))];have done: ∀wj:Value,X.xe (.ref a) {s' with heap:=h2.update T (Obj.mapFields λ v=>v.setIfInBounds 3 wj)}:=λ wj=>by
  have far: ∀b,b≠T->(h2.update T (Obj.mapFields λ v=>v.setIfInBounds 3 wj)).get? b=h2.get? b:=λ b nb=>A1 _ _ nb.symm;have upT:h2.UpToSlots (h2.update T (Obj.mapFields λ v=>v.setIfInBounds 3 wj)):=λ b o e n=>⟨o.slots,(far b λ z=>by rw[z,r8]at e;cases e;exact n ts q9).trans e⟩;have oK:(W.hideAll B [s3.heap.objs.size]).StaysIn h2:=λ b o e=>by
   have hb:b≠s3.heap.objs.size:=λ z=>by rw[W.hideAll_none _ (by rw[z];simp)]at e;cases e
   exact(yX b hb).trans (g1 b o (pA _ e))
  have oJ:(W.hideAll B [s3.heap.objs.size]).StaysIn (h2.update T (Obj.mapFields λ v=>v.setIfInBounds 3 wj)):=λ b o e=>(far b λ z=>by have:=pA _ e;rw[z,q6]at this;cases this).trans (oK b o e)
  have tM: ∀b o,h2.get? b=some o->(X.s₀.heap.get? b≠none/\b∉X.ex\/H' b≠none\/b∈(X.pn++pins).map (·.1))->b∉fS X.stack->(W.hideAll B [s3.heap.objs.size]).get? b=some o:=λ b o e h n=>by
   obtain⟨hb,Ku⟩:=need b h;have ex: ∃o1,s'.heap.get? b=some o1:=by
    rcases Ku with⟨z,z2⟩|z
    ·cases q:s3.heap.get? b with
     |none=>exact absurd q z
     |some o0=>exact J.base.there b o0 q z2
    ·cases q:H' b with
     |none=>exact absurd q z
     |some u=>exact dy.ex (J.ax b u q)
   obtain⟨o1,e1⟩:=ex;have e2:=UC b o1 e1 h n;have e3:=g1 b o1 e2;rw[yX b hb,e3]at e;cases e;exact W.hideAll_get _ e2 (by simpa using hb)
  have wy:=Inv.Kw hex I9 upT oJ tM;refine hx pins σ H' _ (W.hideAll B [s3.heap.objs.size]) a wy ⟨oJ,?_,?_,?_⟩ (λ b o e h n=>?_) q
  ·cases z:(W.hideAll B [s3.heap.objs.size]).get? a with
   |none=>rfl
   |some o=>have:=pA _ z;rw[fl.2.1]at this;cases this
  ·refine LL wy.stack λ b hb=>?_;cases z:(W.hideAll B [s3.heap.objs.size]).get? b with
   |none=>rfl
   |some o=>
    have z1:=pA _ z;rw[(fl.2.2.1.mem hb).1]at z1;cases z1
  ·refine⟨a0,wj,ox,us,T,_,_,(far a (mq q7)).trans r1,q2,q4,q5,?_,q7,xo _ r8 (Obj.isFreed_of_fields (AN q9 _)),AN q9 _,by simp[z3]⟩;cases z:(W.hideAll B [s3.heap.objs.size]).get? T with
   |none=>rfl
   |some o=>have:=pA _ z;rw[q6]at this;cases this
  ·have ne:b≠T:=λ z=>by
    have e1:=tM T _ r8 (by rw[<- z];exact h) (by rw[<- z];exact n);have e2:=pA _ e1;rw[q6]at e2;cases e2
   exact tM b o ((far b ne).symm.trans e) h n
 unfold setFlight;refine aA (aA (pz r1 q4 q5 ?_));rw[ao (by simp:(Value.ref T != Value.none)=true)];exact Ar r8 q9 z3 (wpAny_throw (done _))
def ZG{pins:List (Addr×Obj)}{s:Shared}{σ:St}{H:Hp}{Q:VK}{elt tg iter:Expr}{ifs:List Expr}{scope:Scope}{own:List (Str×Nat)}{pos pos':Pos}{wi:TI}{g:TG}{tt:TT}{te:TE}{use:Option (Value->Sem Unit)}{Qf:Value->Shared->Prop}{Cc:Addr}{E:XK}(Jn:Xr Cc X E)(hex:X.ex=[])(eS:X.stack=X.env::X.outer)(iN:X.env.frame=some X.env.locals)
  (hc:X.calm=true)(hN:X.N.Nodup)(I:Inv X pins σ H s)(hi:PI X tg iter wi)(ok:qk X.N X.env.scope scope own)
  (hg: ∀(s:Shared)(H:Hp)(C:Addr)(cl:List (Str×Addr))(fp:List Addr),PG (X.cy s H scope (compEnvC scope cl C X.env) fp) tg g)(ht: ∀(s:Shared)(H:Hp)(C:Addr)(cl:List (Str×Addr))(fp:List Addr),qX (X.cy s H scope (compEnvC scope cl C X.env) fp) ifs tt)
  (he: ∀(s:Shared)(H:Hp)(C:Addr)(cl:List (Str×Addr))(fp:List Addr)(Ex:Value->Shared->Prop),Xr Cc ((X.cy s H scope (compEnvC scope cl C X.env) fp).iF Ex) E->PE ((X.cy s H scope (compEnvC scope cl C X.env) fp).iF Ex) elt te)(hs: ∀x,foldedSetIterable iter X.env x=pure x)
  (h:sQ wi g tt te (own.map (·.2)) σ H Q)
  (Ko: ∀D C s' m H',Inv X pins σ H' s'->Q (.ref D) H'->s'.heap.Ns C m->hJ X pins H' C->compPost (model X.prog X.w) X.A X.xe use Qf (.ref D) C (.ok .next) s'):
  wpAny (model X.prog X.w) X.A (comprehension (.ListComp elt [⟨tg,iter,ifs,0⟩] scope pos) scope X.env pos' (newList []) false (eval iter X.env) use) Qf X.xe s:=by
 have p9: ∀y∈scope.names,y.2= .free-> ∃c,X.env.cells.lookup y.1=some c:=λ y hy e=>by
  rcases ok.free y hy e with k|k
  ·exact I.ok.has _ (.inl k)
  ·exact I.ok.has _ (.inr k)
 refine wpAny_comprehension_free (use:=use) rfl hs (L5 p9) ok.kind (λ y hy e=>by rw[ok.uniq y hy,e])
  (aF (hi pins s σ H _ I h) λ xv s1 hx=>aF hx λ Dq s2 h2=>?_)
 obtain⟨it,fp,tn,J,H2,e,I2,T,oK,f2,q⟩:=h2;subst e;refine uy (LI ?_) (by show 0<=sizeLine;decide);generalize hD:s2.heap.objs.size=D;have Kr:H2 D=none:=I2.ax.fresh (nM hD);obtain⟨Wn,⟨m0,w0⟩,turn⟩:=q D Kr;generalize oR:({s2 with heap:=s2.heap.push {cls:= .type "list",data:= .seq ([]:List Value).toArray}}:Shared)=s3;have I3:Inv X pins σ (upd H2 D (.lst [])) s3:=by rw[<- oR];refine I2.laid (t':=s2.toks) (λ b o e=>cp _ e) (nM hD) ⟨cP _,[],0,.nil,?_⟩;rw[<- hD];exact fy _ rfl
 have h3:s3.heap=s2.heap.push {cls:= .type "list",data:= .seq ([]:List Value).toArray}:=by rw[<- oR]
 have sz: ∀b∈fp,b<s2.heap.objs.size:=λ b hb=>by obtain⟨o,e,_⟩:=T.obj _ _ oK b hb;exact cz e
 have f3: ∀b∈fp,hJ X pins (upd H2 D (.lst [])) b/\b<s3.heap.objs.size:=λ b hb=>by have cg:=sz b hb;refine⟨⟨?_,(f2 b hb).2⟩,by rw[h3,gB];exact w_ cg⟩;rw[bb (by rw[<- hD];exact ek cg)];exact(f2 b hb).1
 have oJ:tn 0 s3.heap:=T.keep _ _ _ oK λ b _ o e=>by rw[h3];exact cp _ e
 have I4:=LO I3 ok hN f3;have pg:=hg s3 (upd H2 D (.lst [])) s3.heap.objs.size (cellsFrom (s3.heap.objs.size+1) scope.names (dZ X.env.cells scope.names [])) fp;have pt:=ht s3 (upd H2 D (.lst [])) s3.heap.objs.size (cellsFrom (s3.heap.objs.size+1) scope.names (dZ X.env.cells scope.names [])) fp;have pe:=he s3 (upd H2 D (.lst [])) s3.heap.objs.size (cellsFrom (s3.heap.objs.size+1) scope.names (dZ X.env.cells scope.names [])) fp;show codeAny _ _ (.compStart (.ListComp elt [⟨tg,iter,ifs,0⟩] scope pos) 0 (.ref it) (.ref D) (compEnvC scope (cellsFrom (s3.heap.objs.size+1) scope.names (dZ X.env.cells scope.names [])) s3.heap.objs.size X.env)) (compPost (model X.prog X.w) X.A X.xe use Qf (.ref D) s3.heap.objs.size) {s3 with heap:=pushCells (s3.heap.push {cls:= .type "dict",data:= .dict #[]}) scope.names};have zi: ∀b∈fp,(upd H2 D (.lst [])) b=none:=λ b hb=>(f3 b hb).1.1;generalize DS:compEnvC scope (cellsFrom (s3.heap.objs.size+1) scope.names (dZ X.env.cells scope.names [])) s3.heap.objs.size X.env=ce at I4 pg pt pe⊢;have cL:ce.locals=s3.heap.objs.size:=by subst DS;rfl
 generalize hH3:upd H2 D (.lst [])=H3 at I3 I4 pg pt pe w0 zi f3;generalize JY:({s3 with heap:=pushCells (s3.heap.push {cls:= .type "dict",data:= .dict #[]}) scope.names}:Shared)=s4 at I4⊢;have yV:tn 0 s4.heap:=T.keep _ _ _ oJ λ b _ o e=>by rw[<- JY];exact wX _ _ _ _ (cp _ e)
 have stat: ∀{σ':St}{H':Hp}{s':Shared},Inv (X.cy s3 H3 scope ce fp) [] σ' H' s'->(∀b∈fp,H' b=none)-> ∀b∈fp,hJ (X.cy s3 H3 scope ce fp) [] H' b:=λ{σ' H' s'}I' hn b hb=>
  ⟨hn b hb,(I'.ok.oX b hb).1,I'.ok.oE b hb,.inl hb,λ x c e=>(I'.ok.oX b hb).2 x c e,λ p hp=>absurd (show p∈([]:List (Addr×Obj))++[]from hp) (by simp)⟩
 have xr:=acW (use:=use) (Qf:=Qf) (D:= .ref D) (scope:=scope) (ce:=ce) (fp:=fp) Jn hex eS iN I3 (by subst DS;rfl) cL f3;have loop:codeAny (model X.prog X.w) X.A (.compLoop (.ListComp elt [⟨tg,iter,ifs,0⟩] scope pos) 0 (.ref it) (.ref D) ce) (compPost (model X.prog X.w) X.A X.xe use Qf (.ref D) s3.heap.objs.size) s4:=by
  refine LF (λ n s'=>∃i H',Inv (X.cy s3 H3 scope ce fp) [] (wipe σ (own.map (·.2))) H' s'/\tn i s'.heap/\(∀b∈fp,H' b=none)/\Wn i n H') ?_ m0 ⟨0,H3,I4,yV,zi,w0⟩;rintro n s5 ⟨i,H5,I5,oI,n5,w5⟩;rcases turn i n H5 w5 with⟨stop,qq⟩|⟨go,Nx,Kq,step⟩
  ·have td:=T.done (X.cy s3 H3 scope ce fp) rfl rfl rfl hc i [] s5 _ H5 (λ _ _=>False) I5 (stat I5 n5) oI stop;refine lI td λ r s6 ⟨hr,I6⟩=>?_;subst hr;have I7:Inv X pins σ H5 s6:=I3.Cp (ch:=fp) I6.os I6.base I6.ax I6.bare λ b hb=>⟨(f3 b hb).1.2.2.2.1,(f3 b hb).1.2.1,(f3 b hb).1.2.2.2.2.1,(f3 b hb).1.2.2.2.2.2⟩;have nC:H5 s3.heap.objs.size=none:=by
    have z:H5 ce.locals=none:=I6.free;rw[cL]at z;exact z
   obtain⟨m,hn,_⟩:=I6.loc;have hn:s6.heap.Ns ce.locals m:=hn;rw[cL]at hn;exact Ko D s3.heap.objs.size s6 m H5 I7 qq hn (I3.qA (aQ _) nC)
  ·have ti:=T.item (X.cy s3 H3 scope ce fp) rfl rfl rfl hc i [] s5 _ H5 (λ _ _=>False) I5 (stat I5 n5) oI go;refine lI ti λ r s6 ⟨u,hr,h6⟩=>?_;subst hr;refine lI h6 λ _ s7 ⟨x,H7,I7,r7,y7,sT,n7⟩=>?_;have KP:=I7.pinned (stat I7 n7) (T.obj _ _ sT);refine lI (pg _ s7 _ H7 x u _ KP r7 (step x H7 y7)) λ _ s8 ⟨σ8,H8,I8,zG,q8⟩=>?_;refine lI (pt _ s8 σ8 H8 _ I8 q8) λ b s9 ⟨H9,I9,q9⟩=>?_;have fin: ∀{s':Shared}{H':Hp},Inv (X.cy s3 H3 scope ce fp) ([]++ve fp s7.heap) σ8 H' s'->Nx H'-> ∃m,m<n/\ ∃i H',Inv (X.cy s3 H3 scope ce fp) [] (wipe σ (own.map (·.2))) H' s'/\tn i s'.heap/\(∀b∈fp,H' b=none)/\Wn i m H':=λ{s' H'}I' nx=>by
    obtain⟨m',hm,w'⟩:=Kq H' nx;have yA: ∀b∈fp,∀o,s7.heap.get? b=some o->s'.heap.get? b=some o/\H' b=none:=λ b hb o e=>
     let z:=I'.pin (b,o) (gj _ (gj _ (Bc hb e)))
     ⟨z.1,z.2.1⟩
    have hl:(wipe σ (own.map (·.2))).length=σ8.length:=by rw[<- zG,A7]
    refine⟨m',hm,i+1,H',(I'.xH (pins:=[])).weak hl (λ j v e=>?_),T.keep _ _ _ sT λ b hb o e=>(yA b hb o e).1,λ b hb=>?_,w'⟩
    ·rw[<- zG]at e;exact(Bd e).1
    ·obtain⟨o,e,_⟩:=T.obj _ _ sT b hb;exact(yA b hb o e).2
   cases b with
   |false=>
    simp only[mw,jL]at q9⊢;exact fin I9 q9
   |true=>
    simp only[jn]at q9⊢;refine iq (pe _ xr _ s9 σ8 H9 _ (I9.iF _) q9) (λ z yY ⟨yv,wA,wy,Jw,acc,IW,IJ,nx⟩=>?_) λ e s' h=>h;exact PH (X:=X.cy s3 H3 scope ce fp) wy.n0 IW IJ Jw λ jW KQ=>fin KQ nx
 exact codeAny_compStart_list loop (T.self X.A 0 _ _ _ yV loop)
def HH{Cc:Addr}{E:XK}(Jn:Xr Cc X E)(hex:X.ex=[])(eS:X.stack=X.env::X.outer)(iN:X.env.frame=some X.env.locals){elt tg iter:Expr}{ifs:List Expr}{scope:Scope}{own:List (Str×Nat)}{pos:Pos}{wi:TI}{g:TG}{tt:TT}{te:TE}(hc:X.calm=true)(hN:X.N.Nodup)(hi:PI X tg iter wi)(ok:qk X.N X.env.scope scope own)
  (hg: ∀(s:Shared)(H:Hp)(C:Addr)(cl:List (Str×Addr))(fp:List Addr),PG (X.cy s H scope (compEnvC scope cl C X.env) fp) tg g)(ht: ∀(s:Shared)(H:Hp)(C:Addr)(cl:List (Str×Addr))(fp:List Addr),qX (X.cy s H scope (compEnvC scope cl C X.env) fp) ifs tt)
  (he: ∀(s:Shared)(H:Hp)(C:Addr)(cl:List (Str×Addr))(fp:List Addr)(Ex:Value->Shared->Prop),Xr Cc ((X.cy s H scope (compEnvC scope cl C X.env) fp).iF Ex) E->PE ((X.cy s H scope (compEnvC scope cl C X.env) fp).iF Ex) elt te)(hs: ∀x,foldedSetIterable iter X.env x=pure x:=by intro _;rfl):
  PE X (.ListComp elt [⟨tg,iter,ifs,0⟩] scope pos) (sQ wi g tt te (own.map (·.2))):=by
 intro pins s σ H Q I h;rw[eval_ListComp];refine ZG Jn hex eS iN hc hN I hi ok hg ht he hs h λ D C s' m H' I' q hn f=>⟨m,hn,λ h'' sb=>?_⟩;obtain⟨f0,f1,f2,f3,f4,f5⟩:=f;exact⟨.ref D,H',I'.turned (t':=s'.toks) (λ b o hb e=>(sb.2 b hb).trans e) f0 f1 f3 f4 f5,rfl,q⟩
end
def bh(l:Addr)(H H1:Hp):Prop:=∀b o,H b=some o->b≠l->H1 b=some o
def az(S:Addr->Prop)(H H1:Hp):Prop:=∀b o,H b=some o-> ¬S b->H1 b=some o
section
variable{H H0 H1 H2:Hp}{a l p:Addr}{o:HO}{K:W.Frag}{xs:List V}{S T:Addr->Prop}
theorem bh.upd(o:HO):bh l H (upd H l o):=λ b u e n=>by rw[bb n];exact e
def bh.same(h:bh l H H1)(s:aq H0 H)(n:H0 l=none):aq H0 H1:=λ b u e=>h b u (s b u e) (cC e n)
def az.refl:az S H H:=λ _ _ e _=>e
def az.trans(a:az S H H1)(b:az S H1 H2):az S H H2:=λ c u e n=>b c u (a c u e n) n
def az.of(s:aq H H1):az S H H1:=λ b u e _=>s b u e
def az.same(a:az S H H1)(s:aq H0 H)(n: ∀b,S b->H0 b=none):aq H0 H1:=λ b u e=>a b u (s b u e) λ z=>by rw[n b z]at e;cases e
def aeG{u:HO}(a1:az S H H1)(n: ¬S a)(r:Rd H a u):Rd H1 a u:=by
 rcases r with r|⟨ob,r⟩
 ·exact .inl (a1 _ _ r n)
 ·exact .inr ⟨ob,a1 _ _ r n⟩
end
def oy(o:HO):Prop:=(∀xs,o≠ .lst xs)/\(∀xs,o≠ .tup xs)/\ ∀ob u,o≠ .bM ob u
theorem oy.ins{C dx:Addr}{fs:List (Str×V)}:oy (.ins C dx fs):=⟨λ _ z=>(by cases z),λ _ z=>(by cases z),λ _ _ z=>(by cases z)⟩
theorem oy.dK{kvs:List (Key×V)}:oy (.dK kvs):=⟨λ _ z=>(by cases z),λ _ z=>(by cases z),λ _ _ z=>(by cases z)⟩
section
variable{H H1:Hp}{a l:Addr}{o:HO}{K:W.Frag}{xs:List V}
def ac9(n:oy o)(h:H l=some o)(r:Rd H a (.lst xs)):a≠l:=λ z=>by
 subst z;rcases r with r|⟨ob,r⟩
 ·rw[h]at r;cases r;exact n.1 _ rfl
 ·rw[h]at r;cases r;exact n.2.2 _ _ rfl
def bh.rd{u:HO}(b:bh l H H1)(n:a≠l)(r:Rd H a u):Rd H1 a u:=aeG (S:=λ x=>x=l) (λ c u e m=>b c u e m) n r
def bh.sD(b:bh l H H1)(n:oy o)(h:H l=some o)(q:ah K H a xs):ah K H1 a xs:=by
 rcases q with q|q
 ·exact .inl (b.rd (ac9 n h q) q)
 ·exact .inr q
end
section
variable{H H1 H2:Hp}{a l:Addr}{o:HO}{K:W.Frag}{xs:List V}{S:Addr->Prop}
def az.step(x:az S H H1)(b:bh l H1 H2)(m:S l\/H l=none):az S H H2:=λ c u e n=>b c u (x c u e n) λ z=>by
 subst z;rcases m with m|m
 ·exact n m
 ·rw[m]at e;cases e
def az.add(x:az S H H1)(s:aq H1 H2):az S H H2:=λ c u e n=>s c u (x c u e n)
theorem az.sD(x:az (λ b=>b=l) H H1)(n:oy o)(h:H l=some o)(q:ah K H a xs):ah K H1 a xs:=bh.sD (λ c u e m=>x c u e m) n h q
theorem az.none(x:az S H H1)(n:H1 a=none)(m: ¬S a):H a=none:=by
 cases q:H a with
 |none=>rfl
 |some u=>rw[x a u q m]at n;cases n
end
def B8(C:Addr)(ta:TE)(f:Str):TE:=λ σ H Q=>ta σ H λ x H1=>∃a dx fs v,x= .ref a/\H1 a=some (.ins C dx fs)/\fs.lookup f=some v/\Q v H1
def Sv(C:Addr)(f:Str)(x:V)(H:Hp)(Q:VK):Prop:=∃a dx fs v,x= .ref a/\H a=some (.ins C dx fs)/\fs.lookup f=some v/\Q v H
def yg(C:Addr)(ta tv:TE)(f:Str):TS:=λ D σ H=>tv σ H λ y H1=>ta σ H1 λ x H2=>∃a dx fs,x= .ref a/\H2 a=some (.ins C dx fs)/\fs.length<1000/\D.nx σ (upd H2 a (.ins C dx (fh f y fs)))
def Qg(C:Addr)(ta tv:TE)(rd:V->V->Hp->VK->Prop)(f:Str):TS:=λ D σ H=>ta σ H λ x H1=>∃a dx fs v,x= .ref a/\H1 a=some (.ins C dx fs)/\fs.lookup f=some v/\
 tv σ H1 λ y H2=>rd v y H2 λ z H3=>∃cO fs',H3 a=some (.ins C cO fs')/\fs'.length<1000/\D.nx σ (upd H3 a (.ins C cO (fh f z fs')))
def lP(C:Addr)(f:Str)(y x:V)(H:Hp)(nx:Hp->Prop):Prop:=∃a dx fs,x= .ref a/\H a=some (.ins C dx fs)/\fs.length<1000/\nx (upd H a (.ins C dx (fh f y fs)))
section
variable{X:Cx}{o e value:Expr}{f:Str}{pos pos' vy:Pos}{ta tv:TE}{C:Addr}
def aH(c:gA X.K C)(n:b9 X.K C f)(he:PE X e ta)(hb:attributeBase e f X.env (eval e X.env)=eval e X.env:=by rfl):PE X (.Attribute e f pos) (B8 C ta f):=by intro pins s σ H Q I h;refine aa3 hb (aF (he pins s σ H _ I h) λ u s1 z_=>z_.e λ x H1 I1 rx z_=>?_);obtain⟨a,dx,fs,v,ex,ea,l,q⟩:=z_;subst ex;obtain rfl:u=Value.ref a:=rx;exact L0 I1 ea c n l λ u' s2 I2 ru=>⟨v,H1,I2,ru,q⟩
def cj(c:gA X.K C)(n:b9 X.K C f)(ha:PE X o ta)(hv:PE X value tv)(hs:swapsWith value (some (.Attribute o f pos')) pos.line X.env=pure false:=by rfl):PS X (.Assign [.Attribute o f pos'] value pos) (yg C ta tv f):=by intro pins s σ H D I h;refine plainObj_wpAny_Assign_Attribute (aF (hv pins s σ H _ I h) λ u s1 z_=>z_.e λ y H1 I1 ry q=>aF (ha pins s1 σ H1 _ I1 q) λ ov s2 z_=>z_.e λ x H2 I2 rx z_=>?_) hs;obtain⟨a,dx,fs,ex,ea,l,q2⟩:=z_;subst ex;obtain rfl:ov=Value.ref a:=rx;exact LR I2 ea c n l ry λ s3 I3=>⟨σ,_,I3,q2⟩
def ab4{op:Operator}{rd:V->V->Hp->VK->Prop}(c:gA X.K C)(n:b9 X.K C f)(ha:PE X o ta)(hv:PE X value tv)(hop:afN X op rd):PS X (.AugAssign (.Attribute o f vy) op value pos) (Qg C ta tv rd f):=by intro pins s σ H D I h;refine wpAny_AugAssign_AttributeAny (aF (ha pins s σ H _ I h) λ ov s1 z_=>z_.e λ x H1 I1 rx z_=>?_);obtain⟨a,dx,fs,v,ex,ea,l,q⟩:=z_;subst ex;obtain rfl:ov=Value.ref a:=rx;refine L0 I1 ea c n l λ u s2 I2 ru=>aF (hv pins s2 σ H1 _ I2 q) λ w3 s3 z_=>z_.e λ y H2 I3 ry q3=>aF (hop pins s3 σ H2 v y u w3 _ I3 ru ry q3) λ w4 s4 z_=>z_.e λ z H3 I4 rz z_=>?_;obtain⟨cO,fs',ea',l',q4⟩:=z_;exact LR I4 ea' c n l' rz λ s5 I5=>⟨σ,_,I5,q4⟩
end
section
variable{σ:St}{H:Hp}{Q:VK}{K:W.Frag}{C a dx p l:Addr}{fs:List (Str×V)}{f:Str}{v y:V}{ta tv:TE}{tA:TA}{u:TS}{nx bk ct:St->Hp->Prop}{rt:VK}{xs:List V}
def adI(q:ta σ H λ x H1=>Sv C f x H1 Q):B8 C ta f σ H Q:=q
def HD(h:H a=some (.ins C dx fs))(l:fs.lookup f=some v)(q:Q v H):Sv C f (.ref a) H Q:=⟨a,dx,fs,v,rfl,h,l,q⟩
def acG(e:Ev ta σ H (.ref a))(h:H a=some (.ins C dx fs))(l:fs.lookup f=some v):Ev (B8 C ta f) σ H v:=λ _ q=>e _ (HD h l q)
def abQ(e:Ev ta σ H (.ref a))(h:H a=some (.ins C dx fs))(l:fs.lookup f=some v)(q:Q v H):B8 C ta f σ H Q:=e _ (HD h l q)
def abO(q:tv σ H λ y H1=>ta σ H1 λ x H2=>lP C f y x H2 (nx σ)):yg C ta tv f (Ends.mk nx rt bk ct) σ H:=q
def Oi(q:tv σ H λ y H1=>ta σ H1 λ x H2=>lP C f y x H2 (u (Ends.mk nx rt bk ct) σ)):iG (yg C ta tv f) u (Ends.mk nx rt bk ct) σ H:=q
def aaj{x:V}(e:Ev tv σ H y)(l:Ev ta σ H x)(q:lP C f y x H (nx σ)):yg C ta tv f (Ends.mk nx rt bk ct) σ H:=e _ (l _ q)
def Zm{x:V}(e:Ev tv σ H y)(l:Ev ta σ H x)(q:lP C f y x H (u (Ends.mk nx rt bk ct) σ)):iG (yg C ta tv f) u (Ends.mk nx rt bk ct) σ H:=e _ (l _ q)
def cb{N:Hp->Prop}{fs':List (Str×V)}(h:H a=some (.ins C dx fs))(e:fh f y fs=fs')(l:fs.length<1000)(q: ∀H1,H1 a=some (.ins C dx fs')->bh a H H1->N H1):lP C f y (.ref a) H N:=⟨a,dx,fs,rfl,h,l,by rw[e];exact q _ br (bh.upd _)⟩
def lz{xs:List V}(h:xs.length<=1000):xs.length<=sizeLine:=bY h (by decide)
def aZ(l:xs.length<=sizeLine)(q: ∀p H1,H p=none->H1 p=some (.lst xs)->aq H H1->Q (.ref p) H1):yM Q xs H:=⟨l,λ p hp=>q p _ hp br (eM hp _)⟩
def fW(l:xs.length<=sizeLine)(q: ∀p H1,H p=none->H1 p=some (.tup xs)->aq H H1->Q (.ref p) H1):Ji Q xs H:=⟨l,λ p hp=>q p _ hp br (eM hp _)⟩
def U3(K:W.Frag)(T:String)(r:V->List V->Hp->VK->Prop)(t:TA)(σ:St)(x:V)(H:Hp)(Q:VK):Prop:=yQ K T x H/\t σ H λ xs H2=>r x xs H2 Q
def aeY{T:String}{r:V->List V->Hp->VK->Prop}{to:TE}(q:to σ H λ x H1=>U3 K T r tA σ x H1 Q):yT K T r to tA σ H Q:=q
def Qp{r:V->List V->Hp->VK->Prop}(h:H l=some (.lst xs))(q:tA σ H λ vs H2=>r (.ref l) vs H2 Q):U3 K "list" r tA σ (.ref l) H Q:=⟨.inl ⟨rfl,_,ah.of h⟩,q⟩
def adU{r:V->List V->Hp->VK->Prop}{to:TE}{vs:List V}(e:Ev to σ H (.ref l))(h:H l=some (.lst xs))(z:j9 tA σ H vs)(q:r (.ref l) vs H Q):yT K "list" r to tA σ H Q:=e _ (Qp h (z _ q))
def d8(h:H l=some (.lst xs))(z:xs.length<sizeLine)(q: ∀H1,H1 l=some (.lst (xs++[y]))->bh l H H1->Q .aG H1):Hb (.ref l) [y] H Q:=⟨l,xs,y,rfl,rfl,h,z,q _ br (bh.upd _)⟩
def jy{b:Addr}{zs:List V}(h:H l=some (.lst xs))(hb:H b=some (.lst zs))(z:xs.length+zs.length<=sizeLine)(q: ∀H1,H1 l=some (.lst (xs++zs))->bh l H H1->Q .aG H1):Ha (.ref l) [.ref b] H Q:=
 ⟨l,b,xs,zs,rfl,rfl,h,hb,z,q _ br (bh.upd _)⟩
def ow{b:Addr}{zs:List V}(h:H l=some (.lst xs))(hb:H b=some (.lst zs))(z:xs.length+zs.length<=sizeLine)(q: ∀p H1,H p=none->H1 p=some (.lst (xs++zs))->aq H H1->Q (.ref p) H1):RD (.ref l) (.ref b) H Q:=
 ⟨l,b,xs,zs,rfl,rfl,h,hb,z,λ p hp=>q p _ hp br (eM hp _)⟩
def kE{k:Nat}{z:Int}{x:V}(h:H l=some (.lst [x]))(e:z=(k:Int))(z2:k<=1000000)(q: ∀p H1,H p=none->H1 p=some (.lst (List.replicate k x))->aq H H1->Q (.ref p) H1):RB (.ref l) (.int z) H Q:=by
 refine⟨l,z,[x],rfl,rfl,h,by simp_all,by lia,?_,λ p hp=>?_⟩
 ·rw[show z.toNat=k by simp_all];show 1*k<=sizeLine;rw[aL]
  lia
 ·have e2:(List.replicate z.toNat [x]).flatten=List.replicate k x:=by
   rw[show z.toNat=k by lia];clear z2 e q h hp
   induction k with
   |zero=>rfl
   |succ k ih=>rw[nR,xb,ih,nR];rfl
  rw[e2];exact q p _ hp br (eM hp _)
def pV{i j:Option Int}(h:ah K H a xs)(q: ∀p H1,H p=none->H1 p=some (.lst (jT xs i j))->aq H H1->Q (.ref p) H1):IG K (.ref a) i j H Q:=⟨a,xs,rfl,h,λ p hp=>q p _ hp br (eM hp _)⟩
def pP(q: ∀p H1,H p=none->H1 p=some (.dK [])->aq H H1->Q (.ref p) H1):OX σ H Q:=λ p hp=>q p _ hp br (eM hp _)
def Ae(x y:V)(H:Hp)(Q:VK):Prop:=∃a v,x= .ref a/\gn H a y (some v)/\Q v H
def aan{td ty:TE}{x:V}(e:Ev td σ H x)(l:Ev ty σ H y)(q:Ae x y H Q):P2 td ty σ H Q:=e _ (l _ q)
def Qm{kvs:List (Key×V)}{k:Key}(h:H a=some (.dK kvs))(e:aE kvs k=some v)(q:Q v H):Ae (.ref a) (kV k) H Q:=⟨a,v,rfl,by rw[<- e];exact gn.k h,q⟩
def Qo{kvs:List (Key×V)}{k:Int}(h:H a=some (.dK kvs))(e:aE kvs (.inl k)=some v)(q:Q v H):Ae (.ref a) (.int k) H Q:=Qm (k:= .inl k) h e q
def Qn{kvs:List (Key×V)}{k:Str}(h:H a=some (.dK kvs))(e:aE kvs (.inr k)=some v)(q:Q v H):Ae (.ref a) (.str k) H Q:=Qm (k:= .inr k) h e q
end
def vw(P:Program)(w:World)(K:W.Frag)(a:Addr)(kvs:List (Key×V)):Prop:=kvs.length<=1000/\ ∀h:Heap,K.In h->(a==sysModules)=false/\ ∃vs,KV kvs vs/\h.DictOf (eN P w) a vs
def KY(a:Addr)(kvs:List (Key×V))(x y:V)(H:Hp)(Q:VK):Prop:=∃k v,x= .ref a/\y=kV k/\aE kvs k=some v/\Q v H
def KW(a:Addr)(kvs:List (Key×V))(x y:V)(H:Hp)(Q:VK):Prop:=∃k,x= .ref a/\y=kV k/\Q (.bl (aE kvs k).isSome) H
def Rr(a:Addr)(kvs:List (Key×V))(td ty:TE):TE:=λ σ H Q=>td σ H λ x H1=>ty σ H1 λ y H2=>KY a kvs x y H2 Q
def Rq(a:Addr)(kvs:List (Key×V))(ty td:TE):TE:=λ σ H Q=>ty σ H λ y H1=>td σ H1 λ x H2=>KW a kvs x y H2 Q
def Qr(a:Addr)(kvs:List (Key×V)):List V->Hp->VK->Prop:=λ xs H Q=>xs=[V.ref a]/\Q (.int kvs.length) H
section
variable{X:Cx}{a:Addr}{kvs:List (Key×V)}{x:Str}{i o:Expr}{td ty:TE}{p pos:Pos}
def aaT{s:Shared}(D:vw X.prog X.w X.K a kvs)(k:X.K.In s.heap):s.TypeIs (.ref a) "dict":=by obtain⟨_,vs,_,dd⟩:=D.2 _ k;exact dd.typeIs
def Zv(D:vw X.prog X.w X.K a kvs)(ho:PE X o td)(hi:PE X i ty)(hs:Jh i):PE X (.Subscript o i pos) (Rr a kvs td ty):=by intro pins s σ H Q I h;refine NW F.slot_dict_getitem.lookup hs (aF (ho pins s σ H _ I h) λ u s1 z_=>z_.e λ x H1 I1 rx q1=>aF (hi pins s1 σ H1 _ I1 q1) λ iv s2 z_=>z_.e λ y H2 I2 ry z_=>?_);obtain⟨k,v,ex,ey,l,q2⟩:=z_;subst ex ey;obtain rfl:u=Value.ref a:=rx;refine⟨aaT D I2.gq,?_⟩;obtain⟨hd,vs,rel,dd⟩:=D.2 _ I2.gq;obtain⟨w',hw,jX⟩:=gm.some_of (v:=v) (o:=valueAt vs k) (by rw[<- l];exact rel.val k);exact wpAny_getItem_of (mR ry) dd.mapOf hw ⟨v,H2,I2.tok _,jX,q2⟩
def aaC(D:vw X.prog X.w X.K a kvs)(hi:PE X i ty)(ho:PE X o td):PC X .In i o (Rq a kvs ty td):=by intro pins s σ H Q I h;refine aF (hi pins s σ H _ I h) λ iv s1 z_=>z_.e λ y H1 I1 ry q1=>aF (ho pins s1 σ H1 _ I1 q1) λ u s2 z_=>z_.e λ x H2 I2 rx z_=>?_;obtain⟨k,ex,ey,q2⟩:=z_;subst ex ey;obtain rfl:u=Value.ref a:=rx;obtain⟨hd,vs,rel,dd⟩:=D.2 _ I2.gq;refine wpAny_in_of (mR ry) hd dd.mapOf ?_;rw[<-(rel.val k).uT];exact⟨.bl (aE kvs k).isSome,H2,I2.tok _,rfl,q2⟩
def aaH(D:vw X.prog X.w X.K a kvs):eP X (.builtin "len") (Qr a kvs):=by intro pins s σ H xs us Q I r h;obtain⟨rfl,q⟩:=h;obtain⟨u,rfl,ru⟩:=vals1 r;cases ru;obtain⟨hd,vs,rel,dd⟩:=D.2 _ I.gq;have z:=D.1;refine call_len_dict hd dd (by rw[<- rel.length];lia) ?_;rw[<- rel.length];exact⟨.int kvs.length,H,I.tok _,⟨_,rfl⟩,q⟩
end
section
variable{σ:St}{H:Hp}{Q:VK}{a:Addr}{kvs:List (Key×V)}{td ty:TE}{k:Int}{v:V}
def adQ(q:td σ H λ x H1=>ty σ H1 λ y H2=>KY a kvs x y H2 Q):Rr a kvs td ty σ H Q:=q
def abW(e:aE kvs (.inl k)=some v)(q:Q v H):KY a kvs (.ref a) (.int k) H Q:=⟨.inl k,v,rfl,rfl,e,q⟩
def adP(q:ty σ H λ y H1=>td σ H1 λ x H2=>KW a kvs x y H2 Q):Rq a kvs ty td σ H Q:=q
def abV(q:Q (.bl (aE kvs (.inl k)).isSome) H):KW a kvs (.ref a) (.int k) H Q:=⟨.inl k,rfl,rfl,q⟩
def abB(q:Q (.int kvs.length) H):Qr a kvs [.ref a] H Q:=⟨rfl,q⟩
end
noncomputable def nV (l:List Nat):List V:=l.map λ(e:Nat)=>V.int (e:Int)
def cV(l:List Nat):(nV l).length=l.length:=aV _
def xR(l:List Nat)(e:Nat):nV (l++[e])=nV l++[V.int (e:Int)]:=by unfold nV;rw[fw];rfl
def vf(l m:List Nat):nV (l++m)=nV l++nV m:=by unfold nV;rw[fw]
theorem lE{l:List Nat}{i:Nat}{x:V}:(nV l)[i]?=some x↔∃n,l[i]?=some n/\x= .int (n:Int):=by
 unfold nV;rw[fx];cases l[i]? with
 |none=>simp
 |some n=>simp[eq_comm]
noncomputable def rV (l:List Addr):List V:=l.map V.ref
def a_(l:List Addr):(rV l).length=l.length:=aV _
def fF(l:List Addr)(e:Addr):rV (l++[e])=rV l++[V.ref e]:=by unfold rV;rw[fw];rfl
def B0(l m:List Addr):rV (l++m)=rV l++rV m:=by unfold rV;rw[fw]
theorem dc{l:List Addr}{i:Nat}{x:V}:(rV l)[i]?=some x↔∃n,l[i]?=some n/\x= .ref n:=by
 unfold rV;rw[fx];cases l[i]? with
 |none=>simp
 |some n=>simp[eq_comm]
noncomputable def iV (l:List Int):List V:=l.map V.int
def bG(l:List Int):(iV l).length=l.length:=aV _
def BN(l:List Int)(e:Int):iV (l++[e])=iV l++[V.int e]:=by unfold iV;rw[fw];rfl
def gK(l m:List Int):iV (l++m)=iV l++iV m:=by unfold iV;rw[fw]
theorem mK{l:List Int}{i:Nat}{x:V}:(iV l)[i]?=some x↔∃n,l[i]?=some n/\x= .int n:=by
 unfold iV;rw[fx];cases l[i]? with
 |none=>simp
 |some n=>simp[eq_comm]
section
variable{H:Hp}{Q:VK}{K:W.Frag}{p:Addr}
def abE{l:List Nat}(h:ah K H p (nV l))(q:Q (.int (l.length:Nat)) H):sG K [.ref p] H Q:=B9 h (by rw[cV];exact q)
def abD{l:List Addr}(h:ah K H p (rV l))(q:Q (.int (l.length:Nat)) H):sG K [.ref p] H Q:=B9 h (by rw[a_];exact q)
def abF{l:List Int}(h:ah K H p (iV l))(q:Q (.int (l.length:Nat)) H):sG K [.ref p] H Q:=B9 h (by rw[bG];exact q)
end
def wx(Cl:Addr)(m:Str)(sp:Sp)(E:XK)(t:TA)(σ:St)(x:V)(H:Hp)(Q:VK):Prop:=∃a dx fs,x= .ref a/\H a=some (.ins Cl dx fs)/\fs.lookup m=none/\t σ H λ vs H2=>sp (x::vs) H2 Q E
def oZ(Cl:Addr)(sp:Sp)(vs:List V)(H:Hp)(Q:VK):Prop:=∀x dx,H x=none->H dx=none->dx≠x->sp (.ref x::vs) (upd (upd H dx (.own x)) x (.ins Cl dx [])) (λ v H2=>v= .aG/\Q (.ref x) H2) E0
def RaR(E:Hp->Prop)(vs:List V)(H:Hp):Prop:=vs.length<=1000/\E H
def C3(i:Nat)(te:TE)(ti:wt)(σ:St)(H:Hp)(nx:St->Hp->Prop):Prop:=∃x,σ[i]?=some (some x)/\te σ H λ y H1=>ti x y H1 λ z H2=>nx (σ.set i (some z)) H2
section
variable{σ:St}{H:Hp}{Q:VK}{C a dx Cl:Addr}{fs:List (Str×V)}{m:Str}{v y:V}{ta te:TE}{tA:TA}{u:TS}{nx bk ct:St->Hp->Prop}{rt:VK}{sp:Sp}{E:XK}{EH:Hp->Prop}{i:Nat}{ti:wt}{vs:List V}
def ade(q:tA σ H λ vs H1=>sp vs H1 Q E):C5 sp E tA σ H Q:=q
def Rz(q:ta σ H λ x H1=>wx Cl m sp E tA σ x H1 Q):sP Cl m sp E ta tA σ H Q:=q
def HY(h:H a=some (.ins Cl dx fs))(l:fs.lookup m=none)(q:tA σ H λ vs H2=>sp (.ref a::vs) H2 Q E):wx Cl m sp E tA σ (.ref a) H Q:=⟨a,dx,fs,rfl,h,l,q⟩
def aeS(q:tA σ H λ vs H1=>oZ Cl sp vs H1 Q):vF Cl sp tA σ H Q:=q
def Na(q:EH H):RaR EH [v] H:=⟨by show 1<=1000;decide,q⟩
def abm(q:C3 i te ti σ H (u (Ends.mk nx rt bk ct))):iG (CD i te ti) u (Ends.mk nx rt bk ct) σ H:=q
def adW(q:C3 i te ti σ H nx):CD i te ti (Ends.mk nx rt bk ct) σ H:=q
def abZ(h:σ[i]?=some (some v))(q:te σ H λ y H1=>ti v y H1 λ z H2=>nx (σ.set i (some z)) H2):C3 i te ti σ H nx:=⟨v,h,q⟩
def abd{xs:List V}(e:j9 tA σ H xs)(q:sp xs H Q E):C5 sp E tA σ H Q:=e _ q
def ado{xs:List V}(e:Ev ta σ H (.ref a))(h:H a=some (.ins Cl dx fs))(l:fs.lookup m=none)(z:j9 tA σ H xs)(q:sp (.ref a::xs) H Q E):sP Cl m sp E ta tA σ H Q:=e _ (HY h l (z _ q))
def adq{xs:List V}(e:j9 tA σ H xs)(q:oZ Cl sp xs H Q):vF Cl sp tA σ H Q:=e _ q
def Zo{D:Ends}(e:j9 tA σ H [v])(q:EH H):OW EH tA D σ H:=e _ (Na q)
def ab0{g:Int->Int->V}{x y:Int}(h:σ[i]?=some (some (.int x)))(e:Ev te σ H (.int y))(q:nx (σ.set i (some (g x y))) H):C3 i te (fO g) σ H nx:=⟨_,h,e _ (IF q)⟩
end
structure Cs where
 Font:Addr
 NotWellTold:Addr
 Reader:Addr
 Part:Addr
 Outline:Addr
 View:Addr
 Sweep:Addr
 Holder:Addr
 NEEDED_TABLES:Addr
 BITS_OF_FOUR:Addr
 NUMBERS_OF_CALL:Addr
 CALL_HAS_ROW:Addr
structure aW(P:Program)(w:World)(K:W.Frag)(mg:Str->Option Value)(c:Cs):Prop where
 nd:([c.Font,c.NotWellTold,c.Reader,c.Part,c.Outline,c.View,c.Sweep,c.Holder]:List Addr).Nodup
 af6:mg "Font" =some (.ref c.Font)
 e9:gA K c.Font
 Hd:b9 K c.Font "units"
 Ai:b9 K c.Font "glyph_count"
 wH:b9 K c.Font "metric_count"
 B3:b9 K c.Font "hmtx"
 GQ:b9 K c.Font "places"
 Ph:b9 K c.Font "glyf"
 LB:b9 K c.Font "characters"
 afO:mg "NotWellTold" =some (.ref c.NotWellTold)
 jK:C1 K mg "NotWellTold" c.NotWellTold
 afQ:mg "Reader" =some (.ref c.Reader)
 dM:gA K c.Reader
 xX:b9 K c.Reader "data"
 II:b9 K c.Reader "at"
 af5:mg "Part" =some (.ref c.Part)
 lB:gA K c.Part
 He:b9 K c.Part "glyph"
 xD:b9 K c.Part "factors"
 Gp:b9 K c.Part "offsets"
 afP:mg "Outline" =some (.ref c.Outline)
 pI:gA K c.Outline
 xB:b9 K c.Outline "contours"
 GR:b9 K c.Outline "levels"
 af4:mg "View" =some (.ref c.View)
 cD:gA K c.View
 xW:b9 K c.View "size"
 Oz:b9 K c.View "width"
 xE:b9 K c.View "columns"
 B2:b9 K c.View "rows"
 rP:b9 K c.View "margin"
 rL:b9 K c.View "spacing"
 Pg:b9 K c.View "left"
 Qu:b9 K c.View "top"
 afV:mg "Sweep" =some (.ref c.Sweep)
 bE:gA K c.Sweep
 uS:b9 K c.Sweep "nearest"
 xA:b9 K c.Sweep "farthest"
 Bz:b9 K c.Sweep "rising"
 Bj:b9 K c.Sweep "falling"
 BJ:b9 K c.Sweep "ended"
 rC:b9 K c.Sweep "risen_left"
 xp:b9 K c.Sweep "rising_now"
 wK:b9 K c.Sweep "falling_now"
 t8:b9 K c.Sweep "risen_left_now"
 afR:mg "Holder" =some (.ref c.Holder)
 rM:gA K c.Holder
 rW:b9 K c.Holder "font"
 EA:mg "NEEDED_TABLES" =some (.ref c.NEEDED_TABLES)
 Ez:vw P w K c.NEEDED_TABLES [(.inl 1668112752,.str "cmap"),(.inl 1735162214,.str "glyf"),(.inl 1751474532,.str "head"),(.inl 1751672161,.str "hhea"),(.inl 1752003704,.str "hmtx"),(.inl 1819239265,.str "loca"),(.inl 1835104368,.str "maxp")]
 Wq:mg "BITS_OF_FOUR" =some (.ref c.BITS_OF_FOUR)
 V9: ∀H:Hp,aP K H c.BITS_OF_FOUR [.int 0,.int 1,.int 1,.int 2,.int 1,.int 2,.int 2,.int 3,.int 1,.int 2,.int 2,.int 3,.int 2,.int 3,.int 3,.int 4]
 VI:mg "NUMBERS_OF_CALL" =some (.ref c.NUMBERS_OF_CALL)
 Vy: ∀H:Hp,aP K H c.NUMBERS_OF_CALL [.int 0,.int 0,.int 1,.int 1,.int 2,.int 6,.int 5]
 Wo:mg "CALL_HAS_ROW" =some (.ref c.CALL_HAS_ROW)
 V8: ∀H:Hp,aP K H c.CALL_HAS_ROW [.bl false,.bl true,.bl false,.bl false,.bl false,.bl false,.bl true]
variable{c:Cs}
section
variable{α β γ:Type}{F G:α->β->Prop}
theorem Paired.app: ∀{l1 m1:List α}{l2 m2:List β},Paired F l1 l2->Paired F m1 m2->Paired F (l1++m1) (l2++m2)
 |_,_,_,_,.nil,b=>b
 |_,_,_,_,.cons r t,b=> .cons r (Paired.app t b)
theorem Paired.KA: ∀(n:Nat){l1:List α}{l2:List β},Paired F l1 l2->Paired F (l1.drop n) (l2.drop n)
 |0,_,_,h=>h
 |_+1,_,_,.nil=> .nil
 |n+1,_,_,.cons _ t=>Paired.KA n t
theorem Paired.SJ: ∀(n:Nat){l1:List α}{l2:List β},Paired F l1 l2->Paired F (l1.take n) (l2.take n)
 |0,_,_,_=> .nil
 |_+1,_,_,.nil=> .nil
 |n+1,_,_,.cons r t=> .cons r (Paired.SJ n t)
theorem Paired.at: ∀{l1:List α}{l2:List β}{i:Nat}{x:α},Paired F l1 l2->l1[i]?=some x-> ∃y,l2[i]?=some y/\F x y
 |_,_,_,_,.nil,h=>by simp at h
 |_,_,0,_,.cons r _,h=>by simp at h;subst h;exact⟨_,rfl,r⟩
 |_,_,i+1,_,.cons _ t,h=>by simp at h;obtain⟨y,h1,h2⟩:=Paired.at t h;exact⟨y,by simpa using h1,h2⟩
theorem Paired.at': ∀{l1:List α}{l2:List β}{i:Nat}{y:β},Paired F l1 l2->l2[i]?=some y-> ∃x,l1[i]?=some x/\F x y
 |_,_,_,_,.nil,h=>by simp at h
 |_,_,0,_,.cons r _,h=>by simp at h;subst h;exact⟨_,rfl,r⟩
 |_,_,i+1,_,.cons _ t,h=>by simp at h;obtain⟨y,h1,h2⟩:=Paired.at' t h;exact⟨y,by simpa using h1,h2⟩
end
structure dC(H H':Hp):Prop where
 l: ∀b xs,H b=some (.lst xs)->H' b=some (.lst xs)
 t: ∀b xs,H b=some (.tup xs)->H' b=some (.tup xs)
section
variable{H H1 H2 H':Hp}{a r p:Addr}{o:HO}{l:List Pt}
def dC.of(s:aq H H'):dC H H':=⟨λ b _ e=>s b _ e,λ b _ e=>s b _ e⟩
def cS(H:Hp)(p:Addr)(q:Pt):Prop:=H p=some (.tup [.int q.x,.int q.y,.int (if q.on=true then 1 else 0)])
def fI(H:Hp)(a:Addr)(l:List Pt):Prop:=∃ps,H a=some (.lst (rV ps))/\Paired (cS H) ps l
def kG(H:Hp)(r:Addr)(o:Kg15.Outline):Prop:=∃cs,H r=some (.lst (rV cs))/\Paired (fI H) cs o
def cS.mono(s:dC H H'){q:Pt}(h:cS H p q):cS H' p q:=s.t _ _ h
theorem fI.mono(s:dC H H')(h:fI H a l):fI H' a l:=by obtain⟨ps,h1,h2⟩:=h;exact⟨ps,s.l _ _ h1,Paired.a8 h2 λ _ _ z=>z.mono s⟩
theorem kG.mono(s:dC H H'){o:Kg15.Outline}(h:kG H r o):kG H' r o:=by obtain⟨ps,h1,h2⟩:=h;exact⟨ps,s.l _ _ h1,Paired.a8 h2 λ _ _ z=>z.mono s⟩
def cS.but{xs:List V}(b:bh r H H')(h:H r=some (.lst xs)){q:Pt}(e:cS H p q):cS H' p q:=b _ _ e λ z=>by subst z;have e':H p=some _:=e;rw[h]at e';cases e'
theorem fI.but{xs:List V}(b:bh r H H')(h:H r=some (.lst xs))(n:a≠r)(e:fI H a l):fI H' a l:=by obtain⟨ps,h1,h2⟩:=e;exact⟨ps,b _ _ h1 n,Paired.a8 h2 λ _ _ z=>z.but b h⟩
def kB(H0 H:Hp)(r:Addr)(o:Kg15.Outline):Prop:=∃cs,H0 r=none/\H r=some (.lst (rV cs))/\Paired (λ a l=>H0 a=none/\fI H a l) cs o
def iE(A:Addr->Prop)(H:Hp)(r:Addr)(o:Kg15.Outline):Prop:=∃cs,¬A r/\H r=some (.lst (rV cs))/\Paired (λ a l=>¬A a/\fI H a l) cs o
def kB.av{A:Addr->Prop}{H0:Hp}{o:Kg15.Outline}(h:kB H0 H r o)(n: ∀a,A a->H0 a≠none):iE A H r o:=by obtain⟨cs,h1,h2,h3⟩:=h;exact⟨cs,λ z=>n _ z h1,h2,Paired.a8 h3 λ _ _ z=>⟨λ y=>n _ y z.1,z.2⟩⟩
def iE.at{A:Addr->Prop}{o:Kg15.Outline}(h:iE A H r o):kG H r o:=by obtain⟨cs,_,h2,h3⟩:=h;exact⟨cs,h2,Paired.a8 h3 λ _ _ z=>z.2⟩
def kB.at{H0:Hp}{o:Kg15.Outline}(h:kB H0 H r o):kG H r o:=by obtain⟨cs,_,h2,h3⟩:=h;exact⟨cs,h2,Paired.a8 h3 λ _ _ z=>z.2⟩
def kB.back{H0:Hp}{o:Kg15.Outline}(h:kB H1 H r o)(s:aq H0 H1):kB H0 H r o:=by obtain⟨cs,h1,h2,h3⟩:=h;exact⟨cs,s.free h1,h2,Paired.a8 h3 λ _ _ z=>⟨s.free z.1,z.2⟩⟩
def kB.on{H0:Hp}{o:Kg15.Outline}(h:kB H0 H r o)(s:aq H H1):kB H0 H1 r o:=by obtain⟨cs,h1,h2,h3⟩:=h;exact⟨cs,h1,s _ _ h2,Paired.a8 h3 λ _ _ z=>⟨z.1,z.2.mono (dC.of s)⟩⟩
theorem iE.mono{A:Addr->Prop}{o:Kg15.Outline}(h:iE A H r o)(s:dC H H1):iE A H1 r o:=by obtain⟨cs,h1,h2,h3⟩:=h;exact⟨cs,h1,s.l _ _ h2,Paired.a8 h3 λ _ _ z=>⟨z.1,z.2.mono s⟩⟩
def iE.weak{A A':Addr->Prop}{o:Kg15.Outline}(h:iE A H r o)(s: ∀a,A' a->A a):iE A' H r o:=by obtain⟨cs,h1,h2,h3⟩:=h;exact⟨cs,λ z=>h1 (s _ z),h2,Paired.a8 h3 λ _ _ z=>⟨λ y=>z.1 (s _ y),z.2⟩⟩
def iE.plus{A:Addr->Prop}{o:Kg15.Outline}(h:iE A H r o)(n:H p=none):iE (λ a=>A a\/a=p) H r o:=by obtain⟨cs,h1,h2,h3⟩:=h;refine⟨cs,λ z=>z.elim h1 λ e=>(by rw[e,n]at h2;cases h2),h2,Paired.a8 h3 λ _ _ z=>⟨λ y=>y.elim z.1 λ e=>?_,z.2⟩⟩;obtain⟨ps,h4,_⟩:=z.2;rw[e,n]at h4;cases h4
theorem iE.but{A:Addr->Prop}{o:Kg15.Outline}{xs:List V}(h:iE A H r o)(b:bh p H H1)(hp:H p=some (.lst xs))(ha:A p):iE A H1 r o:=by obtain⟨cs,h1,h2,h3⟩:=h;exact⟨cs,h1,b _ _ h2 λ z=>h1 (z▸ha),Paired.a8 h3 λ _ _ z=>⟨z.1,z.2.but b hp λ y=>z.1 (y▸ha)⟩⟩
def Hn{xs:List V}{i j:Int}{m n:Nat}(ei:i=(m:Int))(ej:j=(n:Int))(h:m<=n):jT xs (some i) (some j)=(xs.drop m).take (n-m):=by
 subst ei;subst ej;unfold jT;rw[HT.BF,HT.BF];by_cases h1:m<=xs.length
 ·rw[rj h1];by_cases h2:n<=xs.length
  ·rw[rj h2]
  ·rw[Fd (by lia),fE (by rw[jq];simp),fE (by rw[jq];grind)]
 ·rw[pE (by lia),pE (by lia)];simp
end
def nE(J:It)(g:TG)(tt:TT)(te:TE)(vs:List Nat)(σ:St)(H1:Hp)(Q:VK):Prop:=∀D,H1 D=none-> ∃Wn:Nat->Nat->Hp->Prop,(∃m,Wn 0 m (upd H1 D (.lst [])))/\ ∀i m H,Wn i m H->
 (J.stop i H/\Q (.ref D) H)\/(J.go i H/\ ∃Nx:Hp->Prop,(∀H',Nx H'-> ∃m',m'<m/\Wn (i+1) m' H')/\ ∀x H',J.mW i H x H'->g x (wipe σ vs) H' λ σ2 H2=>wipe σ2 vs=wipe σ vs/\tt σ2 H2 λ b H3=>
  if b=true then te σ2 H3 λ y H4=>∃acc,H4 D=some (.lst acc)/\acc.length<sizeLine/\Nx (upd H4 D (.lst (acc++[y])))else Nx H3)
def vx(D:Addr)(N:Hp->Prop):VK:=λ y H4=>∃acc,H4 D=some (.lst acc)/\acc.length<sizeLine/\N (upd H4 D (.lst (acc++[y])))
def sA(D:Addr)(tt:TT)(te:TE)(vs:List Nat)(σ:St)(N:Hp->Prop):St->Hp->Prop:=λ σ2 H2=>wipe σ2 vs=wipe σ vs/\tt σ2 H2 λ b H3=>if b=true then te σ2 H3 (vx D N)else N H3
section
variable{σ σ2:St}{H:Hp}{Q:VK}{K:W.Frag}{wi:TI}{g:TG}{tt:TT}{te ta:TE}{vs:List Nat}{a D:Addr}{xs acc:List V}{y v:V}{N:Hp->Prop}{tA:TA}
def aeT(q:wi σ H λ J H1=>nE J g tt te vs σ H1 Q):sQ wi g tt te vs σ H Q:=q
def gM(h:H D=some (.lst acc))(z:acc.length<sizeLine)(q: ∀H5,H5 D=some (.lst (acc++[y]))->bh D H H5->N H5):vx D N y H:=⟨acc,h,z,q _ br (bh.upd _)⟩
def iA(e:wipe σ2 vs=wipe σ vs)(q:te σ2 H (vx D N)):sA D vz te vs σ N σ2 H:=⟨e,qw (A:=te σ2 H (vx D N)) (B:=N H) q⟩
def zy{lo:Int}{n:Nat}(q: ∀D,H D=none-> ∃Pv:Nat->Hp->Prop,(∀H1,H1 D=some (.lst [])->aq H H1->Pv 0 H1)/\(∀(i:Nat)H',i<n->Pv i H'->g (.int (lo+i)) (wipe σ vs) H' (sA D tt te vs σ (Pv (i+1))))/\ ∀H',Pv n H'->Q (.ref D) H'):nE (jI lo n) g tt te vs σ H Q:=by intro D hD;obtain⟨Pv,h0,hs,hd⟩:=q D hD;exact ZE Pv (h0 _ br (eM hD _)) hs hd
def m6(q: ∀D,H D=none-> ∃Pv:Nat->Hp->Prop,(∀H1,H1 D=some (.lst [])->aq H H1->Pv 0 H1)/\(∀(i:Nat)H',i<=xs.length->Pv i H'->ah K H' a xs)/\(∀(i:Nat)x H',xs[i]?=some x->Pv i H'->g x (wipe σ vs) H' (sA D tt te vs σ (Pv (i+1))))/\ ∀H',Pv xs.length H'->Q (.ref D) H'):nE (jm K a) g tt te vs σ H Q:=by intro D hD;obtain⟨Pv,h0,hl,hs,hd⟩:=q D hD;exact aaM Pv (h0 _ br (eM hD _)) hl hs hd
def lcT(q: ∀D,H D=none-> ∃Pv:Nat->Hp->Prop,(∀H1,H1 D=some (.lst [])->aq H H1->Pv 0 H1)/\(∀(i:Nat)H',i<=xs.length->Pv i H'->aP K H' a xs)/\(∀(i:Nat)x H',xs[i]?=some x->Pv i H'->g x (wipe σ vs) H' (sA D tt te vs σ (Pv (i+1))))/\ ∀H',Pv xs.length H'->Q (.ref D) H'):nE (qZ K a) g tt te vs σ H Q:=by intro D hD;obtain⟨Pv,h0,hl,hs,hd⟩:=q D hD;exact acs Pv (h0 _ br (eM hD _)) hl hs hd
def fX{N:List Str}{sc scope:Scope}(own:List (Str×Nat))(h:Jb N sc scope own=true:=by kernel_rfl):qk N sc scope own:=ZX h
section
variable{X:Cx}{K:W.Frag}{es:List Expr}{k n:Nat}{t:qW}{pos:Pos}
def BI(hK:X.K=K)(hc:X.calm=true)(h:wu X es t)(hn:(assignEach es X.env).length=n:=by rfl)(eS:(assignEach es X.env).findIdx? (·.1)=none:=by rfl):PG X (.Tuple es k pos) (yG K n t):=by subst hK;exact rS hc h hn eS
def Nk{tg l:Expr}{tl:TE}(hK:X.K=K)(hl:PE X l tl):PI X tg l (Ci K tl):=by subst hK;exact c_ hl
def BR(hK:X.K=K)(hc:X.calm=true):eP X (.builtin "min") (L2.sE K):=by subst hK;exact acR hc
def BS(hK:X.K=K)(hc:X.calm=true):eP X (.builtin "max") (L2.sF K):=by subst hK;exact acS hc
def aaG(hK:X.K=K):eP X (.builtin "len") (sG K):=by subst hK;exact bZ
end
variable{R:St->Hp->Prop}{t:TG}{u:qW}{n i:Nat}
def df(q:R (σ.set i (some v)) H):eJ i v σ H R:=q
def vb(q:R σ H):CY [] σ H R:=⟨rfl,q⟩
def gV(q:t v σ H λ σ' H'=>u xs σ' H' R):p_ t u (v::xs) σ H R:=⟨v,xs,rfl,q⟩
def mI{u:qW}(h:aP K H a xs)(l:xs.length=n)(q:u xs σ H R):yG K n u (.ref a) σ H R:=⟨a,xs,rfl,h,l,q⟩
def ab1{ta:TE}{g:TG}{u:TS}{nx bk ct:St->Hp->Prop}{rt:VK}(q:ta σ H λ x H1=>g x σ H1 (u (Ends.mk nx rt bk ct))):iG (lJ ta g) u (Ends.mk nx rt bk ct) σ H:=q
def ab2{ta:TE}{g:TG}{nx bk ct:St->Hp->Prop}{rt:VK}(q:ta σ H λ x H1=>g x σ H1 nx):lJ ta g (Ends.mk nx rt bk ct) σ H:=q
def aap{ta:TE}{g:TG}{u:TS}{nx bk ct:St->Hp->Prop}{rt:VK}(e:Ev ta σ H v)(q:g v σ H (u (Ends.mk nx rt bk ct))):iG (lJ ta g) u (Ends.mk nx rt bk ct) σ H:=e _ q
def aaq{ta:TE}{g:TG}{nx bk ct:St->Hp->Prop}{rt:VK}(e:Ev ta σ H v)(q:g v σ H nx):lJ ta g (Ends.mk nx rt bk ct) σ H:=e _ q
def UU(K:W.Frag)(R:It->Hp->Prop)(x:V)(H1:Hp):Prop:=∃a,x= .ref a/\(∃xs,aP K H1 a xs)/\R (qZ K a) H1
def adw{tl:TE}{R:It->Hp->Prop}(q:tl σ H λ x H1=>UU K R x H1):RR K tl σ H R:=q
def abH{R:It->Hp->Prop}(h:aP K H a xs)(q:R (qZ K a) H):UU K R (.ref a) H:=⟨a,rfl,⟨xs,h⟩,q⟩
def B_{p:Addr}{i:Int}(h:aP K H p xs)(e:eW xs i=some v)(q:Q v H):CI K (.ref p) (.int i) H Q:=⟨p,xs,i,v,rfl,rfl,h,e,q⟩
def bW{p:Addr}{i:Int}(h:ah K H p xs)(e:eW xs i=some v)(q:Q v H):yz K (.ref p) (.int i) H Q:=⟨p,xs,i,v,rfl,rfl,h,e,q⟩
end
def XT(l:Addr)(items:Array Value)(n:Nat)(b:Addr)(dd:Option Addr)(sl:Array (Option Value))(xZ:Array Value)(n2:Nat)(h0: ¬(!items.isEmpty&&Builtin.List.listTooLong (items.size+xZ.size))=true)(h1:items.size<=sizeLine)(h2:items.size+xZ.size<=sizeLine+1):
  Meets (Builtin.«list.extend» ⟨[.ref l,.ref b],[]⟩) (λ _ R s=>s.heap.get? l=some {cls:= .type "list",dict:=none,data:= .seq items n,slots:= #[]}/\s.heap.get? b=some {cls:= .type "tuple",dict:=dd,data:= .seq xZ n2,slots:=sl}/\
   R (.ok (.ret Value.none)) {s with heap:=s.heap.update l (Obj.mapSeq λ x=>x++xZ),toks:=s.toks}):=
 .of_wp λ prog w A R s h=>by
  obtain⟨hp,g,d,tk,os⟩:=s;obtain⟨hl,hb,h⟩:=h;have f1:=AutoSeq1.idx_int;have f2:=AutoSeq1.sub_tuple_tuple;have f3:=AutoSeq1.sub_list_list;have f4:=AutoSeq1.sub_tuple_list;have f5:=AutoSeq1.sub_list_tuple;have hz:(items++xZ).size<=sizeLine+1:=by rw[Array.size_append];exact h2
  wp_walk using(wpAny_updateSeq hl rfl (hz:=h1) (_hz':=hz)),wpAny_loadPart' hl,wpAny_loadPart' hb
  exact⟨_,rfl,h⟩
section
variable{X:Cx}
def Qs(K:W.Frag):V->List V->Hp->VK->Prop:=λ x vs H Q=>∃l b xs zs,x= .ref l/\vs=[.ref b]/\H l=some (.lst xs)/\H b=some (.tup zs)/\xs.length+zs.length<=sizeLine/\Q .aG (upd H l (.lst (xs++zs)))
def aaJ:D4 X "list.extend" (Qs X.K):=by
 intro pins s σ H x vs v us Q I rx rv h;obtain⟨l,b,xs,zs,rfl,rfl,hH,hB,hz,q⟩:=h;cases rx;obtain⟨u,rfl,ru⟩:=rv.one;cases ru;obtain⟨z,aw,n,r,hl,e⟩:=I.qv hH;obtain⟨z2,kI,r2,ob,e2,oc,n2,od⟩:=I.ax b _ hB;obtain⟨cl,dd,dt,sl⟩:=ob;dsimp only at oc od;subst oc od;have kN:=r2.length;have hsz:aw.toArray.size+kI.toArray.size<=sizeLine:=by rw[dF,dF];simp_all
 have yn: ¬(!aw.toArray.isEmpty&&Builtin.List.listTooLong (aw.toArray.size+kI.toArray.size))=true:=by rw[GL hsz,Bool.and_false];exact dj
 refine ug AO ⟨_,e,rfl⟩ F.entry_list_extend (F.args_list_extend_2 _ _) (XT l aw.toArray n b dd sl kI.toArray n2 yn (by rw[dF];simp_all) (by exact mv ‹_›)) ⟨e,e2,?_⟩;refine⟨.aG,_,I.CL (its':=aw++kI) hH e (by simp) (r.append r2) ?_,rfl,q⟩;rw[bq];trivial
def abR{K:W.Frag}{H:Hp}{Q:VK}{l b:Addr}{xs zs:List V}(h:H l=some (.lst xs))(hb:H b=some (.tup zs))(z:xs.length+zs.length<=sizeLine)(q: ∀H1,H1 l=some (.lst (xs++zs))->bh l H H1->Q .aG H1):Qs K (.ref l) [.ref b] H Q:=
 ⟨l,b,xs,zs,rfl,rfl,h,hb,z,q _ br (bh.upd _)⟩
def aaX{K:W.Frag}(hK:X.K=K)(hc:X.calm=true):eP X (.builtin "sum") (RA K):=by subst hK;exact acQ hc
def BL(hc:X.calm=true):eP X (.builtin "max") L2.Rd.sF:=Y0 hc
end
section
variable{σ:St}{H:Hp}{Q:VK}{K:W.Frag}{a l:Addr}{kvs:List (Key×V)}{k:Int}{v:V}{td ty tv:TE}{nx bk ct:St->Hp->Prop}{rt:VK}{u:TS}
def adt{i j:Int}(q:Q (.int (if i<j then j else i)) H):L2.Rd.sF [.int i,.int j] H Q:=⟨i,j,rfl,q⟩
def U1(y x:V)(H:Hp)(Q:VK):Prop:=∃a o,x= .ref a/\gn H a y o/\Q (.bl (!o.isSome)) H
def U2(y x:V)(H:Hp)(Q:VK):Prop:=∃a o,x= .ref a/\gn H a y o/\Q (.bl o.isSome) H
def Zq(q:ty σ H λ y H1=>td σ H1 λ x H2=>U1 y x H2 Q):NS ty td σ H Q:=q
def adO(q:ty σ H λ y H1=>td σ H1 λ x H2=>U2 y x H2 Q):Ru ty td σ H Q:=q
def adM(h:H a=some (.dK kvs))(q:Q (.bl (!(aE kvs (.inl k)).isSome)) H):U1 (.int k) (.ref a) H Q:=⟨a,_,rfl,gn.k (k:=Sum.inl k) h,q⟩
def abU(h:H a=some (.dK kvs))(q:Q (.bl (aE kvs (.inl k)).isSome) H):U2 (.int k) (.ref a) H Q:=⟨a,_,rfl,gn.k (k:=Sum.inl k) h,q⟩
def wD(v x y:V)(H:Hp)(N:Hp->Prop):Prop:=∃a H4,x= .ref a/\sL H a y v H4/\N H4
def abT(q:tv σ H λ v H1=>td σ H1 λ x H2=>ty σ H2 λ y H3=>wD v x y H3 (nx σ)):yh td ty tv (Ends.mk nx rt bk ct) σ H:=q
def aaf(q:tv σ H λ v H1=>td σ H1 λ x H2=>ty σ H2 λ y H3=>wD v x y H3 (u (Ends.mk nx rt bk ct) σ)):iG (yh td ty tv) u (Ends.mk nx rt bk ct) σ H:=q
def aal{x y:V}(e:Ev tv σ H v)(l:Ev td σ H x)(z:Ev ty σ H y)(q:wD v x y H (nx σ)):yh td ty tv (Ends.mk nx rt bk ct) σ H:=e _ (l _ (z _ q))
def Zn{x y:V}(e:Ev tv σ H v)(l:Ev td σ H x)(z:Ev ty σ H y)(q:wD v x y H (u (Ends.mk nx rt bk ct) σ)):iG (yh td ty tv) u (Ends.mk nx rt bk ct) σ H:=e _ (l _ (z _ q))
def lF{N:Hp->Prop}(h:H a=some (.dK kvs))(z:kvs.length<sizeLine)(q: ∀H1,H1 a=some (.dK (putK kvs (.inl k) v))->bh a H H1->N H1):wD v (.ref a) (.int k) H N:=⟨a,_,rfl,sL.k (k:=Sum.inl k) h z,q _ br (bh.upd _)⟩
end
theorem jO: ∀(n:Nat)(kvs:List (Key×V)),(kvs.map (·.1)).Nodup->(∀kv∈kvs,∃g:Nat,g<n/\kv.1= .inl (g:Int))->kvs.length<=n
 |0,kvs,_,h=>by
  cases kvs with
  |nil=>exact aQ _
  |cons k r=>obtain⟨g,hg,_⟩:=h k (.head _);simp_all
 |n+1,kvs,nd,h=>by
  by_cases hm:(.inl (n:Int):Key)∈kvs.map (·.1)
  ·have h1:=jO n (kF kvs (.inl (n:Int))) (GP nd) λ kv hk=>by
    obtain⟨g,hg,e⟩:=h kv (MD hk);refine⟨g,?_,e⟩;have h2:=dY (uu.mp hk).2;have:g≠n:=λ z=>by subst z;exact h2 e
    lia
   have h2:=ME nd hm
   lia
  ·have h1:=jO n kvs nd λ kv hk=>by
    obtain⟨g,hg,e⟩:=h kv hk;refine⟨g,?_,e⟩;have:g≠n:=λ z=>by subst z;exact hm (bF.mpr ⟨kv,hk,e⟩)
    lia
   exact mv ‹_›
def Af(K:W.Frag)(mg:Str->Option Value)(x y:Str)(st:Stmt)(ps:List Str):Prop:=
 ∃(f:Addr)(fd:FuncData),jJ K x x st f fd/\Binds K fd ps []/\mg y=some (.ref f)
theorem Af.ok{x y:Str}{st:Stmt}{ps:List Str}{k:Nat}{sp:Sp}(F:Af K mg x y st ps)(N:List Str)
  (jb: ∀{f:Addr}{bp:Value}{A:Around}{outer:List Env}{s:Shared}{vs:List V}(H:Hp)(Q:VK)(E:XK),ck k (A.deeper (envOfC x (dN st) s.heap.objs.size f bp))->sp vs H Q E->N.Nodup->
   ∃t,eX (fj rf P w K mg Ba N x (dN st) f bp A outer s H E).sX (jP st) t/\t (Ends.mk (λ _ H'=>Q .aG H') Q (λ _ _=>False) (λ _ _=>False)) (start N vs) H) (S:nZ N ps (dN st):=by walk_at "sc") (len: ∀vs H Q E,sp vs H Q E->vs.length=ps.length:=by walk_at "ln"):Kn P w K mg Ba y ps (k+1) sp:=by
 obtain⟨f,fd,F,b,m⟩:=F;exact⟨f,fd,F.ok S len (λ bp A outer s H vs Q E hr h=>jb H Q E hr h S.nd),b,F.kp,m⟩
section
variable{X:Cx}
def Nc:V->List V->Hp->VK->Prop:=λ x vs H Q=>∃l xs y,x= .ref l/\vs=[.int 0,y]/\H l=some (.lst xs)/\xs.length<sizeLine/\Q .aG (upd H l (.lst (y::xs)))
theorem YD:D4 X "list.insert" Nc:=by
 intro pins s σ H x vs v us Q I rx rv h;obtain⟨l,xs,y,rfl,rfl,hH,hz,q⟩:=h;cases rx;cases rv with
 |cons r0 rv=>
  cases rv with
  |cons ru rv=>
  cases rv;rename_i u;obtain⟨t,rfl⟩:=r0;obtain⟨z,aw,n,r,hl,e⟩:=I.qv hH;refine ug F.slot_list_insert ⟨_,e,rfl⟩ F.entry_list_insert (F.args_list_insert_3 _ _ _) (AutoSeq1.list_insert_list_int_val_1 l aw.toArray n 0 t u (by decide) (by rw[dF];simp_all)) ⟨e,?_⟩;refine⟨.aG,_,I.CL (its':=u::aw) hH e (by simp) (.cons ru r) ?_,rfl,q⟩;rw[dX];trivial
def adB{H:Hp}{Q:VK}{l:Addr}{xs:List V}{y:V}(h:H l=some (.lst xs))(z:xs.length<sizeLine)(q: ∀H1,H1 l=some (.lst (y::xs))->bh l H H1->Q .aG H1):Nc (.ref l) [.int 0,y] H Q:=⟨l,xs,y,rfl,rfl,h,z,q _ br (bh.upd _)⟩
end
section
variable{prog:Program}{w:World}{K:Type}[DecidableEq K]{knd:KeyKind prog w K}{A:Around}{E:Value->Shared->Prop}{s:Shared}
def acX{kvs:List (K×Value)}{k:K}(h:valueAt kvs k=none): ¬(kvs.any λ kv=>decide (kv.1=k))=true:=by intro z;obtain⟨kv,h1,h2⟩:=uv.mp z;unfold valueAt at h;rw[AZ,AM]at h;exact h kv h1 h2
theorem ac7{d:Addr}{kvs:List (K×Value)}{k:K}{key dflt:Value}{Q:Value->Shared->Prop}(jS:knd.is k key=true)(hm:s.heap.DictOf knd d kvs)(hsz:kvs.length<=sizeLine)
  (h1: ∀v,valueAt kvs k=some v->Q v {s with toks:=s.toks+1})(h2:valueAt kvs k=none-> ∀h',h'.DictOf knd d (stored kvs k dflt)->Heap.SameBut d s.heap h'->Q dflt {s with heap:=h',toks:=s.toks+1}):
  wpAny (model prog w) A (dictSetDefault d key dflt) Q E s:=by
 obtain⟨o,es,ep,ho,hc,dR,Uo,lX,cX⟩:=id hm;have Ut:es.size<=sizeLine:=by rw[<- lb,lX.length];exact hsz
 cases hv:valueAt kvs k with
 |some v=>exact wpAny_dictSetDefault_of (hz:=λ o' l9 l_ g1 g2=>by rw[ho]at g1;cases g1;rw[dR]at g2;cases g2;exact Ut) jS hm.mapOf h1 λ hn=>absurd (hn.symm.trans hv) (by simp)
 |none=>
  have IV:=acX hv;have hi:es.findIdx? (λ e=>knd.is k e.key)=none:=by
   cases e:es.findIdx? (λ e=>knd.is k e.key)with
   |none=>rfl
   |some i=>
    exfalso;have e':es.toList.findIdx? (λ e=>knd.is k e.key)=some i:=by rw[<- e];obtain⟨l⟩:=es;simp
    obtain⟨q,_,_,q2⟩:=lX.at e';rw[hv]at q2;cases q2
  unfold dictSetDefault;refine um (aA (knd.pyHash jS (aA (wpAny_dictFind_of (s:={s with toks:=s.toks+1}) jS ho dR Uo ?_))));rw[hi];refine aA (wpAny_rule (aA (wpAny_updateDictKeys (hz:=Ut) (s:={s with toks:=s.toks+1}) ho dR (bc (h2 hv _ ⟨_,_,ep+1,xo _ ho (Obj.isFreed_of_dict (Obj.data_mapDictKeys dR _)),hc.mapDictKeys _,Obj.data_mapDictKeys dR _,Uo.push jS _,?_,?_⟩ (AS ..))))))
  ·rw[stored,ai IV];have q:=lX.append jS (knd.hash k) dflt;obtain⟨l⟩:=es;simpa using q
  ·rw[stored,ai IV,fw,List.nodup_append];refine⟨cX,by simp,λ a ha b hb e=>?_⟩;simp only[cF,uj,xg]at hb;subst hb e;obtain⟨kv,g1,g2⟩:=bF.mp ha;exact IV (uv.mpr ⟨kv,g1,cQ g2⟩)
def Ze{d:Addr}{k:K}{key:Value}(jS:knd.is k key=true)(hd:(d==sysModules)=false)(dflt:Value):
  MeetsIn prog w (Builtin.«dict.setdefault» ⟨[.ref d,key,dflt],[]⟩) (λ _ R s=>∃kvs,s.heap.DictOf knd d kvs/\kvs.length<=sizeLine/\(∀v,valueAt kvs k=some v->R (.ok (.ret v)) {s with toks:=s.toks+1})/\
   (valueAt kvs k=none-> ∀h',h'.DictOf knd d (stored kvs k dflt)->Heap.SameBut d s.heap h'->R (.ok (.ret dflt)) {s with heap:=h',toks:=s.toks+1})):=
 .of_wp λ A R s ⟨kvs,hm,hz,h1,h2⟩=>by unfold Builtin.«dict.setdefault» Builtin.Dict.keyAndDefault;refine aA (aA (wpAny_notOrdered_dict hm.typeIs ?_));show wpAny _ _ (pure (d,key,some dflt)) _ _ s;refine bc (?_:wpAny _ _ (if(d==sysModules)=true then _ else(dictSetDefault d key dflt>>=_)) _ _ s);rw[ai (by rw[hd];exact dj)];exact aA (ac7 jS hm hz (λ v hv=>bc ⟨v,rfl,h1 v hv⟩) λ hn h' g1 g2=>bc ⟨dflt,rfl,h2 hn h' g1 g2⟩)
end
def KJ(a:Addr)(y z:V)(H:Hp)(Q:VK):Prop:=∃kvs k,H a=some (.dK kvs)/\kvs.length<sizeLine/\y=kV k/\(∀v,aE kvs k=some v->Q v H)/\(aE kvs k=none->Q z (upd H a (.dK (putK kvs k z))))
def Rt(td ty tx:TE):TE:=λ σ H Q=>td σ H λ x H1=>∃a,x= .ref a/\D6 H1 a/\ty σ H1 λ y H2=>tx σ H2 λ z H3=>KJ a y z H3 Q
section
variable{X:Cx}{o e f:Expr}{apos d_:Pos}{td ty tx:TE}
def Pb(ho:PE X o td)(he:PE X e ty)(hf:PE X f tx)(m:M2 X o "setdefault" apos e f d_):PE X (.Call (.Attribute o "setdefault" apos) [e,f] [] d_) (Rt td ty tx):=by
 intro pins s σ H Q I h;refine wpAny_Call_method m.base m.UI m.line F.plainAttrs_dict F.slot_dict_setdefault F.type_dict_setdefault (aF (ho pins s σ H _ I h) λ u s1 z_=>z_.e λ x H1 I1 rx z_=>?_);obtain⟨a,ex,d,q1⟩:=z_;subst ex;obtain rfl:u=Value.ref a:=rx;obtain⟨t1,t2,_⟩:=Pm I1 d;refine⟨t1,t2,?_⟩;rw[m.trees];refine A0 rfl (AY (uB (aF (he pins s1 σ H1 _ I1 q1) λ iv s2 z_=>z_.e λ y H2 I2 ry q2=>
  uB (aF (hf pins s2 σ H2 _ I2 q2) λ fv s3 z_=>z_.e λ z H3 I3 rz ⟨kvs,k,ea,hz,ey,q3,q4⟩=>AK ?_))))
 subst ey;obtain⟨z0,hd,vs,rel,dd⟩:=Co I3.ax ea;have JO:vs.length<=sizeLine:=by rw[<- rel.length];trivial
 refine call_meetsIn F.slot_dict_setdefault dd.typeIs F.entry_dict_setdefault (F.args_dict_setdefault_3 _ _ _) (Ze (knd:=eN X.prog X.w) (mR ry) hd fv) ⟨vs,dd,JO,λ v hv=>?_,λ hn h' nB hs=>?_⟩
 ·obtain⟨v',gr,rv'⟩: ∃v',aE kvs k=some v'/\RelV v' v:=by
   have:=rel.val k;rw[hv]at this;cases e:aE kvs k with
   |none=>rw[e]at this;cases this
   |some v'=>rw[e]at this;exact⟨v',rfl,by first|exact this|(cases this;assumption)⟩
  exact⟨v',H3,I3.tok _,rv',q3 v' gr⟩
 ·have qP:aE kvs k=none:=by
   have:=rel.val k;rw[hn]at this;cases e:aE kvs k with
   |none=>rfl
   |some v'=>rw[e]at this;cases this
  have hq: ∃q,h'.get? a=some q:=let⟨q,_,_,hq,_⟩:=nB;⟨q,hq⟩;refine⟨z,_,BQ I3 (by rw[ea];exact True.intro) hs hq (HP ?_ hd (rel.put k rz) nB),rz,q4 qP⟩;have:=nW kvs k z;exact bY ‹_› ‹_›
end
section
variable{X:Cx}
def Rj(_ j:Int):Prop:=0<j/\j<2^64
def GK:cZ X (binaryOp .FloorDiv) (rI Rj λ i j=> .int (i/j)):=vM λ i j _ _ _ _ _ hc q=>by
 obtain⟨h1,h2⟩:0<j/\j<2^64:=hc;refine floordiv_int (by lia) (by rw[A4 i (by exact EW ‹_›)];exact q) (.inl (PyProof.noPylong_of_log2 ?_));have h3:j.natAbs<2^64:=by grind
 have h4:j.natAbs.log2<64:=(Nat.log2_lt (by grind)).mpr h3;exact bY ‹_› (by decide)
def O9{H:Hp}{Q:VK}{g:Int->Int->V}{a b:Int}(c:0<b/\b<2^64)(q:Q (g a b) H):rI Rj g (.int a) (.int b) H Q:=⟨a,b,rfl,rfl,c,q⟩
def Nb(K:W.Frag):List V->Hp->VK->Prop:=λ vs H Q=>∃(a:Addr)(ns:List Int),vs=[V.ref a]/\ah K H a (ns.map V.int)/\
 ∀(qJ:List Int)(p:Addr),qJ.Perm ns->qJ.Pairwise (·<= ·)->H p=none->Q (.ref p) (upd H p (.lst (qJ.map V.int)))
def X4:eP X (.builtin "sorted") (Nb X.K):=by
 intro pins s σ H vs us Q I r h;obtain⟨a,ns,rfl,hs,q⟩:=h;obtain⟨aw,rv,hl,hz⟩:=I.list hs;rw[Vals.yx r];have hi:=rv.ints;have TC:aw.length<=sizeLine:=by rw[<- rv.length];exact hz
 refine sorted_intsAny hl.isList hi TC λ out qJ h1 h2 h3=>?_;obtain⟨ep,oV⟩:=sortedAll_at s.heap aw out;have hlen:(qJ.map V.int).length<=sizeLine:=by rw[aV,h2.length_eq,<- aV (f:=V.int)];exact hz
 exact⟨.ref _,upd H (s.heap.objs.size+1) (.lst (qJ.map V.int)),I.laid (t':=s.toks) (λ _ _=>sortedAll_old) (Nat.le_succ _) ⟨hlen,out.toList,ep,Lz h1,oV⟩,rfl,q qJ _ h2 h3 (I.ax.fresh (Nat.le_succ _))⟩
def X3{K:W.Frag}(hK:X.K=K):eP X (.builtin "sorted") (Nb K):=by subst hK;exact X4
def HE:List V->Hp->VK->Prop:=λ vs H Q=>∃(a:Addr)(kvs:List (Key×V)),vs=[V.ref a]/\H a=some (.dK kvs)/\ ∀p,H p=none->Q (.ref p) (upd H p (.lst (kvs.map λ kv=>kV kv.1)))
theorem G2: ∀{xs:List V}{us:List Value},xs.length=us.length->(∀(j:Nat)(x:V)(u:Value),xs[j]?=some x->us[j]?=some u->RelV x u)->Vals xs us
 |[],[],_,_=> .nil
 |[],_::_,h,_=>by cases h
 |_::_,[],h,_=>by cases h
 |x::xs,u::us,h,k=> .cons (k 0 x u rfl rfl) (G2 (by simpa using h) λ j y v h1 h2=>k (j+1) y v (by simpa using h1) (by simpa using h2))
def xN(hc:X.calm=true):eP X (.type "list") HE:=by
 intro pins s σ H vs us Q I r h;obtain⟨a,kvs,rfl,ha,q⟩:=h;obtain⟨z,hd,ws,rel,o,es,ep,dd⟩:=Co I.ax ha;rw[Vals.yx r];have hz:ws.length<=sizeLine:=by rw[<- rel.length];exact z
 refine W.kdl_call (W.kdl_dict (knd:=eN X.prog X.w) (kvs:=ws) (ep:=ep) hd) (I.ok.hd hc) ⟨o,es,dd⟩ hz λ h' tk Jd c' hk hD vE=>?_;refine⟨.ref _,upd H s.heap.objs.size (.lst (kvs.map λ kv=>kV kv.1)),I.laid (t':=tk) hk (aQ _) ⟨by rw[aV];exact z,Jd.toList,c',?_,by rw[Array.toArray_toList];exact hD⟩,rfl,q _ (I.ax.fresh (aQ _))⟩;refine G2 (by rw[aV];exact(rel.length.trans vE.1.symm).trans lb.symm) λ j x u h1 h2=>?_;obtain⟨k,y,g1,g2⟩:=vE.2 j u (by rw[<- Fx];exact h2);rw[fx,js]at h1;obtain⟨kv,h3,rfl⟩:=h1;obtain⟨q,h4,h5,_⟩:=Paired.at rel h3;rw[g1]at h4;cases h4;rw[h5];rcases lj (show mQ k u=true from g2)with⟨i,t,e1,e2⟩|⟨i,t,e1,e2⟩
 ·subst e1 e2;exact⟨t,rfl⟩
 ·subst e1 e2;exact⟨t,rfl⟩
def P0(ta:TA):TE:=λ σ H Q=>ta σ H λ vs H1=>∃i j:Int,vs=[.int i,.int j]/\(-(2^62)<=i/\i<2^62/\ -(2^62)<=j/\j<2^62)/\(j-i).toNat<=2^24/\
 ∀p,H1 p=none->Q (.ref p) (upd H1 p (.lst ((List.range (j-i).toNat).map λ(k:Nat)=>V.int (i+k))))
theorem aay{a b:Expr}{ta:TA}{p p2 pos ae0:Pos}(hc:X.calm=true)(hg2:Gl X "list")(hm2:X.mg "list" =none)(hg:Gl X "range")(hm:X.mg "range" =none)(ha:PA X [a,b] ta)
  (hs:starEach [a,b] X.env=[(false,eval a X.env),(false,eval b X.env)]:=by rfl)(jD:starEach [b] X.env=[(false,eval b X.env)]:=by rfl)
  (he:starEach [.Call (.Name "range" p) [a,b] [] pos] X.env=(false,eval (.Call (.Name "range" p) [a,b] [] pos) X.env)::starEach [] X.env:=by rfl):
  PE X (.Call (.Name "list" p2) [.Call (.Name "range" p) [a,b] [] pos] [] ae0) (P0 ta):=by
 intro pins s σ H Q I h;refine uA (rY I hg2 hm2 boot_list (uK ?_ he) (by decide) (by decide));rw[he];refine uB (Call_ (rY I hg hm boot_range (uK (aF (ha pos pins s σ H _ I h) λ us s1 z_=>z_.e λ vs H1 I1 r1 q1=>?_) (by rw[hs,jD]) (by rw[jD];rfl))));obtain⟨i,j,e,⟨b1,b2,b3,b4⟩,hn,q⟩:=q1;subst e;cases r1 with
 |cons r rr=>
  cases rr with
  |cons r' rr=>
   cases rr;obtain⟨t,rfl⟩:=r;obtain⟨t',rfl⟩:=r';refine call_range_2 (AK (call_list_range (n:=(j-i).toNat) (I1.ok.hd hc) (IsRange.new ..) (small_one b1 b2 b3 b4) (by rw[rangeSize_one];split<;>lia) hn λ h' tk Jd c' hk hD vE=>?_));have wa: ∀b o,s1.heap.get? b=some o->h'.get? b=some o:=λ b o e=>hk b o (cp _ e);refine⟨.ref _,upd H1 _ (.lst ((List.range (j-i).toNat).map λ(k:Nat)=>V.int (i+k))),I1.laid (t':=tk) wa (by show _<=(s1.heap.push _).objs.size;exact eh (by first|exact Heap.WT .. |simp[Heap.push])) ⟨?_,Jd.toList,c',?_,by rw[Array.toArray_toList];exact hD⟩,rfl,q _ (I1.ax.fresh (by first|exact eh (Heap.WT ..)|simp[Heap.push]))⟩
   ·rw[aV,iS,aL];exact hn
   ·refine G2 (by rw[aV,iS,lb,vE.1]) λ n x u h1 h2=>?_;obtain⟨t3,rfl⟩:=vE.2 n u (by rw[<- Fx];exact h2);rw[fx,js]at h1;obtain⟨m,h3,rfl⟩:=h1;obtain⟨h4,h5⟩:=bC.mp h3;rw[List.getElem_range]at h5;subst h5;exact⟨t3,by rw[Int.mul_one]⟩
def Qt:V->List V->Hp->VK->Prop:=λ x vs H Q=>∃i:Int,x= .int i/\vs=[]/\Q (.int (Builtin.Int.intBits i)) H
def OA:L2.wx X "int.bit_length" Qt:=by intro pins s σ H x vs v us Q I rx rv h;obtain⟨i,rfl,rfl,q⟩:=h;obtain⟨t,rfl⟩:=rx;cases rv;exact call_int_bit_length ⟨.int _,H,I.tok _,⟨_,rfl⟩,q⟩
end
theorem My: ∀{ns:List Int}{vs:List Value},Vals (ns.map V.int) vs->IntsAre vs ns
 |[],_,r=>by cases r;exact .nil
 |n::ns,_,r=>by
  cases r with
  |cons r1 r2=>
   obtain⟨t,rfl⟩:=r1;exact .cons n t (My r2)
theorem LS{cl:Str->Option Addr}{h:Heap}: ∀{vs:List Value}{ns:List Int},IntsAre vs ns->W.ReadsAllW [] cl h vs (ns.map W.WData.int) []
 |_,_,.nil=> .nil
 |_,_,.cons n t r=> .cons (as:=[]) (bs:=[]) (.int n t) (LS r)
theorem Yq{P:Program}{w:World}{K:W.Frag}{mg mb:Str->Option Value}{k:Nat}{fa a:Addr}{y x:Str}{sp:Sp}{s₁:Shared}{vs:List Value}{ns out:List Int}
  (KX:K.In s₁.heap)(iL:s₁.heap.Ns mainGlobals mg)(hb:s₁.heap.Ns builtinsNs mb)(hbb: ∀x:Str,x≠"__name__" ->mb x=bootBuiltins x)(afu:s₁.heap.NoLimit)(hg:s₁.gens= #[])
  (ha:s₁.heap.get? a=some {cls:= .type "list",data:= .seq vs.toArray})(hi:IntsAre vs ns)(hl:ns.length<=sizeLine)(hr:ck k callerA)
  (hfa:mg y=some (.ref fa))(F: ∀Ba:Heap,K.In Ba->Ba.Ns mainGlobals mg->Kn P w K mg Ba y [x] k sp)
  (ie: ∀H:Hp,Jg H->ah K H a (ns.map V.int)->sp [.ref a] H (λ v H'=>∃r,v= .ref r/\H' r=some (.lst (out.map V.int))) E0):
  codeAny (model P w) callerA (.call (.ref fa) ⟨[.ref a],[]⟩) (λ res s'=>(∃(r:Addr)(us:List Value)(n:Nat),res= .ok (.ret (.ref r))/\s'.heap.get? r=some {cls:= .type "list",data:= .seq us.toArray n}/\IntsAre us out)/\OldK s₁.heap s'.heap/\s'.os=s₁.os/\AllBare s'.gens) s₁:=by
 have rv:=Md hi;have afc:=hi.length;have core: ∀H:Hp,Jg H->ah K H a (ns.map V.int)->cU P w H s₁.heap->(∀b,H b≠none->b=a)->(H a≠none->K.lookup a=none)->
   codeAny (model P w) callerA (.call (.ref fa) ⟨[.ref a],[]⟩) (λ res s'=>(∃(r:Addr)(us:List Value)(n:Nat),res= .ok (.ret (.ref r))/\s'.heap.get? r=some {cls:= .type "list",data:= .seq us.toArray n}/\IntsAre us out)/\OldK s₁.heap s'.heap/\s'.os=s₁.os/\AllBare s'.gens) s₁:=by
  intro H hO hS ax hA hK;have OO: ∀{b:Addr}{o:Obj},s₁.heap.get? b=some o->H b=none->(oB s₁.heap H).get? b=some o:=λ e n=>ZL e n;have zg: ∀{b:Addr}{o:Obj}{es:Array DictEntry}{ep:Nat},s₁.heap.get? b=some o->o.data= .dict es ep->H b=none:=λ{b o es ep}e d=>by
   cases q:H b with
   |none=>rfl
   |some u=>
    have e':b=a:=hA b (by rw[q];simp);subst e';rw[ha]at e;cases e;have d':Data.seq vs.toArray _=Data.dict es ep:=d;cases d'
  have Dh: ∀{b:Addr}{m:Str->Option Value},s₁.heap.Ns b m->(oB s₁.heap H).Ns b m:=λ{b m}⟨o,es,ep,e,d,r⟩=>⟨o,es,ep,OO e (zg e d),d,r⟩;have UB:K.In (oB s₁.heap H):=λ b o e=>OO (KX b o e) (by
   cases q:H b with
   |none=>rfl
   |some u=>
    have e':b=a:=hA b (by rw[q];simp);subst e';rw[hK (by rw[q];simp)]at e;cases e)
  have hM:Mod K mg (oB s₁.heap H):=⟨UB,Dh iL,⟨mb,Dh hb,hbb⟩,let⟨mc,h1,h2⟩:=afu;⟨mc,Dh h1,h2⟩⟩;have e0:sJ P w K mg (oB s₁.heap H) callerA [] s₁ H:=⟨rfl,hM,λ b o e=>aaF e,nM (YN _ _),trivial,λ b hb=>absurd (show b∈([]:List Addr)from hb) (by simp),ax,.of_eq hg⟩;obtain⟨f,fd,Fo,B,_,m⟩:=F _ UB (Dh iL);obtain rfl:fa=f:=by rw[hfa]at m;cases m;rfl
  refine Ao (Fo.run callerA [] s₁ H ⟨[.ref a],[]⟩ [.ref a] [.ref a] _ _ hr e0 (B s₁ [.ref a] KX rfl) (.cons rfl .nil) (ie H hO hS)) λ r s' h=>?_;cases r with
  |error e=>exact False.elim h
  |ok fl=>
   cases fl with
   |next=>exact False.elim h
   |brk=>exact False.elim h
   |cont=>exact False.elim h
   |ret u=>
    obtain⟨v,H',os,bare,un,yD,r',q⟩:=h;obtain⟨ra,rfl,m8⟩:=q;obtain rfl:u=Value.ref ra:=r';obtain⟨_,aw,n,rvs,oC⟩:=yD ra _ m8;refine⟨⟨ra,aw,n,rfl,oC,My rvs⟩,OldK.of_keep λ b o e=>?_,os,bare⟩;cases q:H b with
    |none=>exact un.keep b o e q (by intro z;exact absurd (show b∈([]:List Addr)from z) (by simp)) (by simp)
    |some u=>
     rcases hO b with z|⟨ob,xs,z⟩
     ·rw[q]at z;cases z
     ·have z2:=un.kJ b ob _ z;obtain⟨e1,_⟩:=ax b _ z;obtain⟨e2,_⟩:=yD b _ z2;rw[e]at e1;cases e1;exact e2
 cases hk:K.lookup a with
 |some o=>
  have e:=KX a o hk;rw[ha]at e;cases e;refine core (λ _=>none) (λ _=> .inl rfl) (.inr ⟨_,vs.toArray,_,hk,rfl,rfl,rfl,by rw[dF,afc];exact hl,by simpa using rv⟩) (λ b u z=>by have z':(none:Option HO)=some u:=z;cases z') (λ b z=>absurd rfl z) λ z=>absurd rfl z
 |none=>
  refine core (λ b=>if b=a then some (.bM {cls:= .type "list",data:= .seq vs.toArray} (.lst (ns.map V.int)))else none) (λ b=>?_) (.inl (.inr ⟨{cls:= .type "list",data:= .seq vs.toArray},ao rfl⟩)) (λ b u z=>?_) (λ b z=>?_) λ _=>hk
  ·by_cases hb:b=a
   ·exact .inr ⟨_,_,ao hb⟩
   ·exact .inl (ai hb)
  ·by_cases hb:b=a
   ·have z':=(ao hb).symm.trans z;cases z';subst hb;exact⟨ha,by rw[aV];exact hl,vs,_,rv,ha⟩
   ·have z':=(ai hb).symm.trans z;cases z'
  ·by_cases hb:b=a
   ·exact hb
   ·exact absurd (ai hb) z
theorem Yd{r:W.OpenSpec}{k:Nat}{lo hi:Int}{q:Program}{loose:List Str}{XP:(Str->Option Value)->Heap->Prop}{YP:World->Heap->Prop}{d:DefRec}{K:Params->W.Frag}{sp:World->Sp}{x:Str}{g:List Int->List Int}
  (afm: ∀as,r.pre as=true-> ∃ns:List Int,as=[.list (ns.map W.WData.int)]/\ns.length<=sizeLine/\(∀n∈ns,lo<=n/\n<=hi)/\r.pre [.list (ns.map W.WData.int)]=true/\r.post as (.list ((g ns).map W.WData.int))=true)
  (hdf:d.params.defaults=[])(hr:ck k callerA)(hY: ∀(w:World)(h:Heap),YP w h->(K w.params).In h)
  (F: ∀(w:World)(mg:Str->Option Value)(h:Heap),(K w.params).In h->h.Ns mainGlobals mg-> ∀Ba:Heap,Kn r.prog w (K w.params) mg Ba d.name [x] k (sp w))
  (ie: ∀(w:World)(H:Hp)(a:Addr)(ns:List Int),r.pre [.list (ns.map W.WData.int)]=true->(∀n∈ns,lo<=n/\n<=hi)->Jg H->ah (K w.params) H a (ns.map V.int)->sp w [.ref a] H (λ v H'=>∃r,v= .ref r/\H' r=some (.lst ((g ns).map V.int))) E0):
  W.WalkOS q loose XP YP r d [] (λ f vs=>PySem.call f vs):=by
 intro w s₀ s₁ mg mb G Y fa o pm cd doc dV kV ho hd l7 hD Kd hg args vals as hp agl hrd hwl hlo;obtain rfl:dV= .none:=W.Dflts.none hD hdf;obtain rfl:kV= .none:=W.Dflts.noKw hD;obtain⟨ns,rfl,hlen,hint,kL,aeh⟩:=afm args hp;have KX:=hY w _ Y;cases hwl with
 |cons w1 w2=>
  cases w2;cases w1 with
  |list J_ jz=>
   refine W.enter_call (Ao (Yq (out:=g ns) KX G.T.g G.T.b G.T.builtins G.T.nolimit hg J_ (U4.V6 ns _ jz) hlen hr Kd (λ Ba _ _=>F w mg _ KX G.T.g Ba) (λ H hO hS=>ie w H _ ns kL hint hO hS)) λ res s' hq=>?_);obtain⟨⟨ra,us,n,rfl,oC,hints⟩,h2,h3,h4⟩:=hq;exact⟨.inl ⟨.ref ra,.list ((g ns).map W.WData.int),[ra],rfl,λ _=>rfl,.list oC rfl rfl (show W.ReadsAllW [] (classAt s₀.heap) s'.heap us.toArray.toList ((g ns).map W.WData.int) [] by simpa using LS hints),aeh,λ h=>absurd h dj⟩,h2,h3,h4⟩
def yr(x qual:Str)(st:Stmt)(ps:List Str):Prop:=∀(kV doc pm:Value)(an:Option Addr)(bp ct:Value)(us:List Value),us.length=ps.length->bindArgs (W.fnOf x qual (u5 st) (jP st) (dN st) .none kV doc pm an bp ct) ⟨us,[]⟩=pure (ps.zip us)
def wB(K:W.Frag)(x qual:Str)(st:Stmt)(f:Addr):Prop:=KR λ(oc:Value)(od an:Option Addr)(iK:Array (Option Value))(kV doc pm bp ct:Value)=>mf (K.lookup f=some ⟨oc,od,.func (W.fnOf x qual (u5 st) (jP st) (dN st) .none kV doc pm an bp ct),iK⟩) (W.codeIn K bp qual=true) (W.keepIn K (.ref f)=true)
section
variable{K:W.Frag}{h:Heap}{mg:Str->Option Value}{x y m qual:Str}{st:Stmt}{ps:List Str}{f C:Addr}
theorem bL{P:List Value->Prop}{n:Nat}(h: ∀a(us:List Value),us.length=n->P (a::us)): ∀us:List Value,us.length=n+1->P us
 |a::us,e=>h a us (EV e)
theorem bN{P:List Value->Prop}(h:P []): ∀us:List Value,us.length=0->P us
 |[],_=>h
def wB.fn(k:wB K x qual st f)(b:yr x qual st ps): ∃fd,jJ K x qual st f fd/\Binds K fd ps []:=by obtain⟨oc,od,an,iK,kV,doc,pm,bp,ct,l,c,kp⟩:=k;exact⟨_,Pp l c kp,(Pp l c kp).binds b⟩
def aN(X:K.In h)(G:h.Ns mainGlobals mg)(a:W.nsIn K mainGlobals x=some (some (.ref f)))(k:wB K x x st f:=by exact⟨_,_,_,_,_,_,_,_,_,rfl,rfl,rfl⟩)(b:yr x x st ps:=by walk_at "bd"):Df K mg x st ps:=by obtain⟨fd,F,B⟩:=k.fn b;exact⟨f,fd,F,B,W.mg_of X G a⟩
def Pq(X:K.In h)(G:h.Ns mainGlobals mg)(a:W.nsIn K mainGlobals y=some (some (.ref f)))(k:wB K x x st f:=by exact⟨_,_,_,_,_,_,_,_,_,rfl,rfl,rfl⟩)(b:yr x x st ps:=by walk_at "bd"):Af K mg x y st ps:=by obtain⟨fd,F,B⟩:=k.fn b;exact⟨f,fd,F,B,W.mg_of X G a⟩
def x_(a:W.findIn K (.ref C) m=some (some (.ref f)))(i:W.isFn K (.ref f)=true:=by exact rfl)(k:wB K m qual st f:=by exact⟨_,_,_,_,_,_,_,_,_,rfl,rfl,rfl⟩)(b:yr m qual st ps:=by walk_at "bd"):q_ K C m qual st ps:=by obtain⟨fd,F,B⟩:=k.fn b;exact⟨f,fd,F,B,a,i,F.kp⟩
def rZ(X:K.In h)(G:h.Ns mainGlobals mg)(aC:W.nsIn K mainGlobals x=some (some (.ref C)))(a:W.findIn K (.ref C) "__init__" =some (some (.ref f)))(mk:W.makesIn K C=true:=by exact rfl)(kc:W.keepIn K (.ref C)=true:=by exact rfl)(i:W.isFn K (.ref f)=true:=by exact rfl)(k:wB K "__init__" qual st f:=by exact⟨_,_,_,_,_,_,_,_,_,rfl,rfl,rfl⟩)(b:yr "__init__" qual st ps:=by walk_at "bd"):nI K mg x C qual st ps:=by obtain⟨fd,F,B⟩:=k.fn b;exact⟨f,fd,F,B,⟨mk,a,i,kc⟩,W.mg_of X G aC⟩
def aem{i:Int}{t:Tok}(X:K.In h)(G:h.Ns mainGlobals mg)(a:W.nsIn K mainGlobals x=some (some (.int i t))): ∃t,mg x=some (.int i t):=⟨t,W.mg_of X G a⟩
noncomputable def ac3 (es:List DictEntry):Bool:=es.all λ e=>match e.key with| .str _ _=>true|_=>false
def acD{nm q:Str}{N:Addr}{bs sub:List Value}{hdct ab:Bool}{sn:List Str}{col:Option Bool}{dd od:Option Addr}{k0 k1 k2 k3 k5:Option Value}{oc:Value}{es:Array DictEntry}{ep:Nat}{iK:Array (Option Value)}(X:K.In h)(G:h.Ns mainGlobals mg)(a:W.nsIn K mainGlobals x=some (some (.ref C)))
  (l:K.lookup C=some (excClassObj nm q C N bs [.type "ValueError",.type "Exception",.type "BaseException",.type "object"] hdct sn sub ab col dd k0 k1 k2 k3 k5 "ValueError.__new__"))(ln:K.lookup N=some ⟨oc,od,.dict es ep,iK⟩)(sk:ac3 es.toList=true)(ni:W.nsIn K N "__init__" =some none):C1 K mg x C:=by
 refine⟨λ h' X'=>⟨W.mg_of X G a,_,N,nm,q,bs,hdct,sn,sub,ab,col,dd,k0,k1,k2,k3,k5,nsFind es,X' _ _ l,⟨_,es,ep,X' _ _ ln,rfl,λ e he=>?_,λ _=>rfl⟩,?_,.base⟩⟩
 ·have z:=uw.mp sk e (Fv.mpr he);revert z;cases e.key<;>intro z<;>first|exact⟨_,_,rfl⟩|cases z
 ·unfold W.nsIn at ni;rw[ln]at ni;show Option.map (λ x=>x.val) (Array.find? (λ e=>e.key.isStr "__init__") es)=none;rw[<- Array.find?_toList];cases e:es.toList.find? (λ e=>e.key.isStr "__init__")with
  |none=>rfl
  |some y=>simp only[e]at ni;cases ni
def yO(w:World):List (Key×V)->List DictEntry->Prop
 |[],[]=>True
 |(k,v)::r,e::es=>mQ k e.key=true/\e.hash=RQ w k/\RelV v e.val/\yO w r es
 |_,_=>False
theorem yO.all{P:Program}{w:World}: ∀{kvs:List (Key×V)}{es:List DictEntry},yO w kvs es-> ∃vs,KV kvs vs/\Pairs (eN P w) es vs/\vs.map (·.1)=kvs.map (·.1)/\ ∀e∈es,∃k,(eN P w).is k e.key=true/\e.hash=(eN P w).hash k
 |[],[],_=>⟨[],.nil,.nil,rfl,λ e he=>absurd he (by simp)⟩
 |(k,v)::r,e::es,⟨a,b,c,d⟩=>by
  obtain⟨vs,x1,x2,x3,x4⟩:=yO.all (P:=P) d;refine⟨(k,e.val)::vs,.cons ⟨rfl,c⟩ x1,.cons a rfl x2,by rw[cF,cF,x3],λ e' he=>?_⟩;rcases bV.mp he with rfl|he
  ·exact⟨k,a,b⟩
  ·exact x4 e' he
 |[],_::_,h=>h.elim
 |_::_,[],h=>h.elim
def aaU{P:Program}{w:World}{a:Addr}{kvs:List (Key×V)}{es:Array DictEntry}{ep:Nat}(l:K.lookup a=some ⟨.type "dict",none,.dict es ep, #[]⟩)(ne:(a==sysModules)=false)(hn:kvs.length<=1000)(nd:(kvs.map (·.1)).Nodup)(r:yO w kvs es.toList):vw P w K a kvs:=by obtain⟨vs,x1,x2,x3,x4⟩:=r.all (P:=P);exact⟨hn,λ h X=>⟨ne,vs,x1,_,es,ep,X _ _ l,⟨rfl,rfl,rfl⟩,rfl,λ e he=>x4 e (Fv.mpr he),x2,by rw[x3];exact nd⟩⟩
def Hq{a:Addr}{xs:List V}{od:Option Addr}{aw:Array Value}{n:Nat}{iK:Array (Option Value)}(l:K.lookup a=some ⟨.type "tuple",od,.seq aw n,iK⟩)(z:aw.size<=1000)(r:Vals xs aw.toList): ∀H:Hp,aP K H a xs:=λ H=>
 .inr ⟨_,aw,n,l,rfl,rfl,bY z (by decide),r⟩
end
section
local macro_rules|`(tactic|walk_at "ne")=>`(tactic|first|lia|(intro (z : (_ : Nat) = _);lia))
abbrev TN(h:Heap)(t:Addr)(a:Array Value):Prop:=h.get? t=some {cls:= .type "tuple",data:= .seq a}
noncomputable def refs:Nat->Nat->List Value
 |_,0=>[]
 |n,m+1=> .ref n::refs (n+1) m
theorem M9: ∀n m,(refs n m).length=m
 |_,0=>rfl
 |n,m+1=>by rw[refs,dX,M9]
theorem M_: ∀n m,refs n m++[.ref (n+m)]=refs n (m+1)
 |_,0=>rfl
 |n,m+1=>by rw[refs,fU,show n+(m+1)=n+1+m by lia,M_ (n+1) m];rfl
def D5(h:Heap)(n:Nat)(ls:List Nat)(i:Nat):Prop:=∀j l,ls[j]?=some l->h.IsListIter (n+j) l i
def D7(n:Nat)(ls:List Nat)(g h:Heap):Prop:=∀c o,(c<n\/n+ls.length+2<c\/c=n+ls.length)->g.get? c=some o->h.get? c=some o
structure ZS(n:Nat)(ls:List Nat)(i:Nat)(h:Heap):Prop where
 z:IsZip h (n+ls.length+2) (n+ls.length) (n+ls.length+1) .none
 t:TN h (n+ls.length) (refs n ls.length).toArray
 o: ∃v,v.size=ls.length/\TN h (n+ls.length+1) v
 j:D5 h n ls i
structure ZI(n:Nat)(ls:List Nat)(i:Nat)(f:Nat->Option Value)(h:Heap)(k:Nat)(g:Heap)(y:Array Value):Prop where
 z:IsZip g (n+ls.length+2) (n+ls.length) (n+ls.length+1) .ellipsis
 o:TN g (n+ls.length+1) y
 sz:y.size=ls.length
 v: ∀j,j<k->y[j]?=f j
 a: ∀j l,j<k->ls[j]?=some l->g.IsListIter (n+j) l (i+1)
 kp: ∀c o,c≠n+ls.length+2->c≠n+ls.length+1->(c<n\/n+k<=c)->h.get? c=some o->g.get? c=some o
 os:g.objs.size=h.objs.size
section
variable{prog:Program}{w:World}{A:Around}{E:Value->Shared->Prop}{s:Shared}{n i:Nat}{ls:List Nat}{f:Nat->Option Value}
def Y8{Q:Value->Shared->Prop}(m0:0<ls.length)(m1:ls.length<=4)(b: ∀l∈ls,l<n)(Z:ZS n ls i s.heap)(hl: ∀j l,ls[j]?=some l-> ∃a,s.heap.IsList l a/\a[i]?=f j)
  (hE: ∀j,j<ls.length->f j=none->A.handled=none/\ ∀h' e,D7 n ls s.heap h'->(∃o,h'.get? e=some o/\o.cls= .type "StopIteration")->E (.ref e) {s with heap:=h'})
  (hQ: ∀(x:Array Value)h',x.size=ls.length->(∀j,j<ls.length->x[j]?=f j)->IsZip h' (n+ls.length+2) (n+ls.length) (n+ls.length+1) (rawInt s.heap.objs.size)->TN h' (n+ls.length+1) x->D5 h' n ls (i+1)->TN h' s.heap.objs.size x->D7 n ls s.heap h'->Q (.ref s.heap.objs.size) {s with heap:=h'}):
  wpAny (model prog w) A (Builtin.«zip.__next__» ⟨[.ref (n+ls.length+2)],[]⟩) (λ fin s'=>∃v,fin= .done (.ret v)/\Q v s') E s:=by
 obtain⟨hz,ht,⟨v,hv,ho⟩,j⟩:=Z;show wpAny _ _ (field (.ref (n+ls.length+2)) 2>>=_) _ _ _;refine aA (pz hz rfl (x:= .bool false) rfl ?_);show wpAny _ _ (field (.ref (n+ls.length+2)) 3>>=_) _ _ _;refine aA (pz hz rfl (x:= .ref (n+ls.length)) rfl ?_);refine aA (wpAny_seqItems ht rfl ?_);have ne:(refs n ls.length).toArray.isEmpty=false:=by
  rw[List.isEmpty_toArray];cases e:ls.length with
  |zero=>simp_all
  |succ k=>rfl
 simp only[ne,mw,jL];show wpAny _ _ (Builtin.SmallTypes.ownedTupleIsFree (.ref (n+ls.length+2))>>=_) _ _ _;refine aA ?_;unfold Builtin.SmallTypes.ownedTupleIsFree;refine aA (pz hz rfl (x:= .none) rfl (bc ?_));simp only[jn];refine aA (wpAny_rule (aA (pz hz rfl (x:= .ref (n+ls.length+1)) rfl (aA (AL hz (by simp) λ g0 z0 b0=>?_)))));refine aA (wpAny_forIn_list _ (λ rest b s'=>b=⟨none,⟨⟩⟩/\ ∃k r g y,k+r=ls.length/\rest=(refs (n+k) r).zipIdx k/\s'= {s with heap:=g}/\ZI n ls i f s.heap k g y) _ ?_ ?_ _ _ ⟨rfl,0,ls.length,g0,v,EU _,rfl,rfl,z0,b0.extBut _ _ (by walk_at "ne") ho,hv,λ j h=>absurd h (Ax _),λ j _ h=>absurd h (Ax _),λ c o q _ _ e=>b0.extBut _ _ q e,b0.1⟩)
 ·rintro x rest _ _ ⟨rfl,k,r,g,y,hk,hr,rfl,Z⟩;cases r with
  |zero=>cases hr
  |succ r=>
   injection hr with hx hr;subst hx hr;have kl:k<ls.length:=by lia
   have el:ls[k]?=some ls[k]:=bI kl;obtain⟨a,la,fa⟩:=hl k _ el;have lt:=b _ (eG el);have p:g.IsListIter (n+k) ls[k] i:=(j k _ el).at λ o e=>Z.kp _ o (by lia) (by lia) (by simp) e;have q:g.IsList ls[k] a:=la.at λ o e=>Z.kp _ o (by show(ls[k]:Nat)≠_;lia) (by show(ls[k]:Nat)≠_;lia) (.inl lt) e;refine aA (wpAny_onRaise ?_);show wpAny _ _ (Builtin.SmallTypes.nextOf (.ref (n+k))>>=_) _ _ _;cases hf:f k with
   |none=>
    obtain⟨hh,hE⟩:=hE k kl hf;refine aA (wpAny_nextOf_list_end hh p q (fa.trans hf) λ u2 ex b2 ⟨oe,lZ,vX⟩=>?_);have w2:=b2 _ _ (by walk_at "ne") Z.z;have ne:ex≠n+ls.length+2:=λ x=>by subst x;rw[w2]at lZ;cases lZ;simp at vX
    exact AL w2 (by simp) λ u3 _ b3=>hE u3 ex (λ c o q e=>b3.extBut _ _ (by walk_at "ne") (b2 _ _ (by walk_at "ne") (Z.kp c o (by walk_at "ne") (by walk_at "ne") (by lia) e))) ⟨oe,b3.extBut _ _ ne lZ,vX⟩
   |some x=>
    refine aA (wpAny_nextOf_list_item p q (fa.trans hf) λ g1 i0 b1=>bc ?_);have t0:TN g1 (n+ls.length+1) y:=b1.extBut _ _ (by walk_at "ne") Z.o;have sy:y.size<=sizeLine:=by rw[Z.sz,aL];exact bY ‹_› (by decide)
    refine aA (wpAny_seqItems t0 rfl (aA (wpAny_updateSeq t0 rfl ?_ sy (by rw[Li];exact mv ‹_›))));refine aA (wpAny_letGo (bc ⟨rfl,k+1,r,_,y.setIfInBounds k x,by lia,rfl,rfl,?_⟩));have c0:=AS g1 (n+ls.length+1) (Obj.mapSeq (·.setIfInBounds k x));refine⟨c0.extBut _ _ (by walk_at "ne") (b1.extBut _ _ (by walk_at "ne") Z.z),(xo _ t0 rfl).trans (by simp[Obj.mapSeq]),by rw[Li,Z.sz],λ j hj=>?_,λ j l hj e=>?_,λ c o q1 q2 q3 e=>c0.extBut _ _ q2 (b1.extBut _ _ (by walk_at "ne") (Z.kp c o q1 q2 (by lia) e)),by rw[c0.1,b1.1,Z.os]⟩
    ·rw[Array.getElem?_setIfInBounds];by_cases e:k=j
     ·subst e;rw[ao rfl,ao (by rw[Z.sz];exact kl),hf]
     ·rw[ai e,Z.v j (by lia)]
    ·by_cases e':j=k
     ·subst e';rw[el]at e;cases e;exact i0.extBut c0.extBut (by walk_at "ne")
     ·have:=(bC.mp e).1;exact((Z.a j l (by lia) e).extBut b1.extBut (by walk_at "ne")).extBut c0.extBut (by walk_at "ne")
 ·rintro _ _ ⟨rfl,k,r,g,y,hk,hr,rfl,Z⟩;cases r with
  |succ r=>cases hr
  |zero=>
   have hk:k=ls.length:=hk;subst hk;refine aA (wpAny_seqItems Z.o rfl (aA (wpAny_newTuple ?_ (by show y.size<=_;rw[Z.sz,aL];lia))));have zl:(n+ls.length+2)<g.objs.size:=cz Z.z;show wpAny _ _ (Builtin.SmallTypes.ownedTupleHandOut (.ref (n+ls.length+2)) (.ref g.objs.size)>>=_) _ _ _;refine aA ?_;unfold Builtin.SmallTypes.ownedTupleHandOut;refine aA (AL (cp _ Z.z) (by simp) λ u7 z7 b7=>?_);refine AL z7 (by simp) λ u8 z8 b8=>?_;have up: ∀c o,c≠(n+ls.length+2)->g.get? c=some o->u8.get? c=some o:=λ c o q e=>b8.extBut _ _ q (b7.extBut _ _ q (cp _ e));have nw:TN u8 g.objs.size y:=b8.extBut _ _ (by walk_at "ne") (b7.extBut _ _ (by walk_at "ne") (fy _ rfl));replace z8:IsZip u8 (n+ls.length+2) (n+ls.length) (n+ls.length+1) (rawInt g.objs.size):=z8;refine bc ⟨_,rfl,?_⟩;show Q (.ref g.objs.size) _;rw[Z.os]at z8 nw⊢;refine hQ y u8 Z.sz Z.v z8 (up _ _ (by walk_at "ne") Z.o) (λ j l e=>?_) nw λ c o q e=>up c o (by walk_at "ne") (Z.kp c o (by walk_at "ne") (by walk_at "ne") (by lia) e);have:=(bC.mp e).1;exact(Z.a j l this e).at λ o e=>up _ o (by walk_at "ne") e
def OS{Q:Option Value->Shared->Prop}(m0:0<ls.length)(m1:ls.length<=4)(b: ∀l∈ls,l<n)(Z:ZS n ls i s.heap)(hl: ∀j l,ls[j]?=some l-> ∃a,s.heap.IsList l a/\a[i]?=f j)
  (hE: ∀j,j<ls.length->f j=none->A.handled=none/\ ∀h',D7 n ls s.heap h'->Q none {s with heap:=h'})
  (hQ: ∀(x:Array Value)h',x.size=ls.length->(∀j,j<ls.length->x[j]?=f j)->IsZip h' (n+ls.length+2) (n+ls.length) (n+ls.length+1) (rawInt s.heap.objs.size)->TN h' (n+ls.length+1) x->D5 h' n ls (i+1)->TN h' s.heap.objs.size x->D7 n ls s.heap h'->Q (some (.ref s.heap.objs.size)) {s with heap:=h'}):
  wpAny (model prog w) A (pyNext (.ref (n+ls.length+2))) Q E s:=by
 have hT:s.TypeIs (.ref (n+ls.length+2)) "zip":=⟨_,Z.z,rfl⟩;unfold pyNext;exact aA (wpAny_attempt (FD (name:=Str.ofString "__next__") hT F.slot_zip_next (w9 F.slot_zip_next hT F.entry_zip_next (Y8 m0 m1 b Z hl (λ j hj e=>⟨(hE j hj e).1,λ h1 e' hk ⟨o,lZ,hc⟩=>aA (wpAny_isInstance (T:="StopIteration") (b:=true) ⟨o,lZ,hc⟩ isSubtype_stop (bc ((hE j hj e).2 _ hk)))⟩) λ x h1 a0 a1 a2 a3 a4 a5 a6=>bc (hQ x h1 a0 a1 a2 a3 a4 a5 a6)) (F.args_zip_next_1 _))))
def WI{Q:List Value->Shared->Prop}(m1:ls.length<=4)(hl: ∀l∈ls,∃a,s.heap.IsList l a)
  (h: ∀g,g.objs.size=s.heap.objs.size+ls.length->D5 g s.heap.objs.size ls 0->(∀c o,s.heap.get? c=some o->g.get? c=some o)->Q (refs s.heap.objs.size ls.length) {s with heap:=g}):wpAny (model prog w) A (Builtin.SmallTypes.iterAll (ls.map .ref)) Q E s:=by
 unfold Builtin.SmallTypes.iterAll;refine aA (wpAny_forIn_list _ (λ rest b s'=>∃k g,b=(refs s.heap.objs.size k).toArray/\k<=ls.length/\rest=(ls.drop k).map .ref/\s'= {s with heap:=g}/\g.objs.size=s.heap.objs.size+k/\(∀j l,j<k->ls[j]?=some l->g.IsListIter (s.heap.objs.size+j) l 0)/\(∀c o,s.heap.get? c=some o->g.get? c=some o)) _ ?_ ?_ _ _ ⟨0,s.heap,rfl,cP _,rfl,rfl,rfl,λ j _ h=>absurd h (Ax _),λ _ _ e=>e⟩)
 ·rintro x rest _ _ ⟨k,g,rfl,hk,hr,rfl,sz,it,kp⟩;have kl:k<ls.length:=by
   rcases Nat.lt_or_ge k ls.length with q|q
   ·exact q
   ·rw[pE q]at hr;cases hr
  rw[xq kl]at hr;injection hr with hx hr;subst hx hr;obtain⟨a,la⟩:=hl _ (List.getElem_mem kl);refine aA (um (wpAny_pyIter_list (la.at λ o e=>kp _ o e) (bc ?_)));refine⟨k+1,_,?_,kl,rfl,rfl,by rw[gB];show g.objs.size+1=_;simp+arith only[*],λ j l hj e=>?_,λ c o e=>cp _ (kp c o e)⟩
  ·show(refs _ k).toArray.push (.ref g.objs.size)=_;rw[List.push_toArray,sz,M_]
  ·by_cases e':j=k
   ·subst e';rw[bI kl]at e;cases e;rw[<- sz];exact⟨_,fy _ rfl,rfl,rfl⟩
   ·exact(it j l (by lia) e).at λ o e=>cp _ e
 ·rintro _ _ ⟨k,g,rfl,hk,hr,rfl,sz,it,kp⟩;have:k=ls.length:=by
   rcases Nat.lt_or_ge k ls.length with q|q
   ·rw[xq q]at hr;cases hr
   ·exact Nat.le_antisymm ‹_› ‹_›
  subst this;exact bc (h g sz (λ j l e=>it j l (bC.mp e).1 e) kp)
end
def Wr(as:List Value):checkTypeCall "zip" ⟨as,[]⟩=pure ():=by kernel_rfl
theorem W9: ∀as:List Value,0<as.length->as.length<=4->checkBuiltinCall "zip.__new__" ⟨.type "zip"::as,[]⟩=pure ()
 |[_],_,_|[_,_],_,_|[_,_,_],_,_|[_,_,_,_],_,_=>by kernel_rfl
 |[],h,_=>absurd h (by decide)
 |_::_::_::_::_::_,_,h=>by simp at h
def Wm(o:Value)(as:List Value):argsOk "object.__init__" ⟨o::as,[]⟩:=by unfold argsOk;rw[signature?_of (id:="object.__init__") (n:=['_', '_', 't', 'i', 'n', 'i', '_', '_']) (o:=['t', 'c', 'e', 'j', 'b', 'o']) (by kernel_rfl) F.owner_object];kernel_rfl
def XS(ls:List Nat)(m1:ls.length<=4):Meets (Builtin.«zip.__new__» ⟨.type "zip"::ls.map .ref,[]⟩) (λ _ R s=>(∀l∈ls,∃a,s.heap.IsList l a)/\ ∀g,ZS s.heap.objs.size ls 0 g->(∀c o,s.heap.get? c=some o->g.get? c=some o)->R (.ok (.ret (.ref (s.heap.objs.size+ls.length+2)))) {s with heap:=g}):=
 .of_wp λ prog w A R s h=>by
  obtain⟨hp,g,d,tk,os⟩:=s;obtain⟨hl,h⟩:=h;have agg:=sub_zip
  wp_walk using WI (s:=⟨hp,g,d,tk,os⟩) m1 hl
  intro g0 sz it kp;have rl:=M9 hp.objs.size ls.length;refine aA (wpAny_newTuple ?_ (by rw[rl,aL];lia));refine aA (wpAny_newTuple ?_ (by rw[aV,rl,aL];lia));refine aA ?_;show wpAny _ _ (newObj (.type "zip") (.fields #[.none,.bool false,.bool false,_,_])) _ _ _;refine uy (bc ⟨_,rfl,?_⟩);simp only[gB,sz];have g1:=fy g0 (o:={cls:= .type "tuple",data:= .seq (refs hp.objs.size ls.length).toArray}) rfl;have g2:=fy (g0.push {cls:= .type "tuple",data:= .seq (refs hp.objs.size ls.length).toArray}) (o:={cls:= .type "tuple",data:= .seq ((refs hp.objs.size ls.length).map λ _=>Value.none).toArray}) rfl;rw[sz]at g1;rw[gB,sz]at g2;refine h _ ⟨?_,cp _ (cp _ g1),⟨_,by rw[dF,aV,rl],cp _ g2⟩,λ j l e=>(it j l e).at λ o q=>cp _ (cp _ (cp _ q))⟩ λ c o q=>cp _ (cp _ (cp _ (kp c o q)));have g3:=λ o=>fy ((g0.push {cls:= .type "tuple",data:= .seq (refs hp.objs.size ls.length).toArray}).push {cls:= .type "tuple",data:= .seq ((refs hp.objs.size ls.length).map λ _=>Value.none).toArray}) (o:={cls:= .type "zip",data:= .fields o}) rfl;rw[gB,gB,sz]at g3;exact g3 _
def o4(K:W.Frag)(ls:List Nat):It:=
 ⟨λ i H=>∀l∈ls,∃(X:List V)(x:V),ah K H l X/\X[i]?=some x,
  λ i H v H'=>∃(T:Addr)(xs:List V),v= .ref T/\H T=none/\H'=upd H T (.tup xs)/\xs.length=ls.length/\ ∀(j:Nat)x,xs[j]?=some x-> ∀l,ls[j]?=some l-> ∀Y,ah K H l Y->Y[i]?=some x,
  λ i H=>(∀l∈ls,∃X,ah K H l X)/\ ∃l∈ls,∃X,ah K H l X/\X.length<=i⟩
theorem NJ: ∀{us:List Value}(P:Nat->V->Prop),(∀j u,us[j]?=some u-> ∃x,RelV x u/\P j x)-> ∃xs,Vals xs us/\ ∀j x,xs[j]?=some x->P j x
 |[],_,_=>⟨[],.nil,λ j x e=>by cases e⟩
 |u::us,P,h=>by
  obtain⟨x,r,p⟩:=h 0 u rfl;obtain⟨xs,rs,ps⟩:=NJ (us:=us) (λ j=>P (j+1)) λ j u e=>h (j+1) u e;refine⟨x::xs,.cons r rs,λ j y e=>?_⟩;cases j with
  |zero=>cases e;exact p
  |succ j=>exact ps j y e
def Yf{P:Program}{w:World}{K:W.Frag}{elts:List Expr}{kk:Nat}{vy:Pos}{n:Nat}{ls:List Nat}(m0:0<ls.length)(m1:ls.length<=4)(b: ∀l∈ls,l<n):
  Turn P w K (.Tuple elts kk vy) (o4 K ls) (List.range' n (ls.length+3)) (n+ls.length+2) (ZS n ls)where
 mem:=pC.mpr ⟨by lia,by exact aQ _⟩
 obj:=λ i h st(c:Nat)hc=>by
  obtain⟨h1,h2⟩:=pC.mp hc;by_cases e:c=n+ls.length+2
  ·subst e;exact⟨_,st.z,λ v q=>nomatch q⟩
  by_cases e:c=n+ls.length
  ·subst e;exact⟨_,st.t,λ v q=>nomatch q⟩
  by_cases e:c=n+ls.length+1
  ·obtain⟨v,_,q⟩:=st.o;subst e;exact⟨_,q,λ v q=>nomatch q⟩
  obtain⟨o,q,_,d⟩:=st.j (c-n) _ (bI (by grind));rw[show n+(c-n)=c by simp_all]at q;exact⟨o,q,λ v q=>by rw[d]at q;cases q⟩
 keep:=λ i h h' st k=>by
  have m: ∀c,n<=c->c<n+(ls.length+3)->c∈List.range' n (ls.length+3):=λ c a b=>pC.mpr ⟨a,b⟩;obtain⟨v,q,e⟩:=st.o;refine⟨k _ (m _ (by lia) (by lia)) _ st.z,k _ (m _ (by simp) (by simp)) _ st.t,⟨v,q,k _ (m _ (by lia) (by simp+arith)) _ e⟩,λ j l e=>(st.j j l e).at λ o q=>k _ (m _ (by simp) ?_) o q⟩;have:=(bC.mp e).1
  lia
 item:=by
  intro X hP hw hK hc i pins s σ H E I hf st hg;subst hP hw hK;have key: ∀j:Nat,∃u:Option Value,∀l,ls[j]?=some l->(∃a,s.heap.IsList l a/\a[i]?=u)/\ ∃x y,u=some y/\RelV x y/\ ∀Y,ah X.K H l Y->Y[i]?=some x:=λ j=>by
   cases hl:ls[j]? with
   |none=>exact⟨none,λ l e=>nomatch e⟩
   |some l=>
    obtain⟨Y,x,sq,a⟩:=hg l (eG hl);obtain⟨aw,rv,p,_⟩:=I.list sq;obtain⟨u,hu,ru⟩:=rv.get a;refine⟨some u,λ l' e=>?_⟩;cases e;exact⟨⟨_,p.isList,by simpa using hu⟩,x,u,rfl,ru,λ Y' hY=>by rw[I.GS hY sq];exact a⟩
  have zl:n+ls.length+2<s.heap.objs.size:=cz st.z;refine OS (f:=λ j=>(key j).choose) m0 m1 b st (λ j l e=>((key j).choose_spec l e).1) (λ j hj e=>?_) λ ar h1 sz hx w0 w1 fi wT kp=>?_
  ·obtain⟨_,x,y,e2,_⟩:=(key j).choose_spec _ (bI hj);exact nomatch e2.symm.trans e
  refine⟨_,rfl,wpAny_letOwnedTupleGo_zip (s:={s with heap:=h1}) w0 λ h2 w2 sb=>?_⟩;obtain⟨xs,rs,ps⟩:=NJ (us:=ar.toList) (λ j x=>∀l,ls[j]?=some l-> ∀Y,ah X.K H l Y->Y[i]?=some x) λ j u e=>by rw[Fx]at e;have hj:j<ls.length:=sz▸(xx.mp e).1;obtain⟨_,x,y,e2,r,q⟩:=(key j).choose_spec _ (bI hj);rw[hx j hj]at e;cases e2.symm.trans e;exact⟨x,r,λ l e=>by rw[bI hj]at e;cases e;exact q⟩
  have xl:xs.length=ls.length:=rs.length.trans (by rw[lb,sz]);have wT2:TN h2 s.heap.objs.size ar:=(sb.2 _ (kg zl)).trans wT;have new:dy X.prog X.w (upd H s.heap.objs.size (.tup xs)) h2 s.heap.objs.size (.tup xs):=⟨by show xs.length<=_;rw[xl,aL];lia,ar.toList,rs,⟨_,wT2,rfl,_,rfl⟩⟩;have far: ∀(c:Nat),c∉List.range' n (ls.length+3)->c<n\/n+ls.length+2<c\/c=n+ls.length:=λ c hb=>by
   rw[pC]at hb
   lia
  have I1:Inv X pins σ (upd H s.heap.objs.size (.tup xs)) {s with heap:=h2}:=I.Ye (t':=s.toks) (ch:=List.range' n (ls.length+3)) (λ c o hb q=>(sb.2 c (λ q1=>hb (by rw[q1];exact pC.mpr ⟨by lia,by lia⟩))).trans (kp c o (far c hb) q)) hf (aQ _) new;refine⟨.ref s.heap.objs.size,_,I1,rfl,⟨_,xs,rfl,I.ax.fresh (aQ _),rfl,xl,ps⟩,⟨w2,(sb.2 _ (by walk_at "ne")).trans (kp _ _ (by simp) st.t),⟨ar,sz,(sb.2 _ (by walk_at "ne")).trans w1⟩,λ j l e=>(fi j l e).at λ o q=>(sb.2 _ ?_).trans q⟩,λ c DQ=>?_⟩
  ·have:=(bC.mp e).1;walk_at "ne"
  ·have:=(pC.mp DQ).2;rw[bb (by walk_at "ne")];exact(hf c DQ).1
 done:=by
  intro X hP hw hK hc i pins s σ H E I hf st hg;subst hP hw hK;obtain⟨hg,l0,zL,X0,sq0,he⟩:=hg;have key: ∀j:Nat,∃u:Option Value,∀l,ls[j]?=some l->(∃a,s.heap.IsList l a/\a[i]?=u)/\(l=l0->u=none):=λ j=>by
   cases hl:ls[j]? with
   |none=>exact⟨none,λ l e=>nomatch e⟩
   |some l=>
    obtain⟨Y,sq⟩:=hg l (eG hl);obtain⟨aw,rv,p,_⟩:=I.list sq;refine⟨aw.toArray[i]?,λ l' e=>?_⟩;cases e;refine⟨⟨_,p.isList,rfl⟩,λ e=>?_⟩;subst e;rw[<- I.GS sq sq0]at he;have:=rv.length;simp
    simp_all
  have far: ∀(c:Nat),c∉List.range' n (ls.length+3)->c<n\/n+ls.length+2<c\/c=n+ls.length:=λ c hb=>by
   rw[pC]at hb
   lia
  refine OS (f:=λ j=>(key j).choose) m0 m1 b st (λ j l e=>((key j).choose_spec l e).1) (λ j hj e=>⟨I.ok.hd hc,λ h1 kp=>⟨rfl,I.Z8 (t':=s.toks) (ch:=List.range' n (ls.length+3)) (λ c o hb q=>kp c o (far c hb) q) hf⟩⟩) λ ar h1 sz hx _ _ _ _ _=>?_;obtain⟨j,hj,e⟩:=List.getElem_of_mem zL;have:=((key j).choose_spec _ (bI hj)).2 e;rw[<- hx j hj,Array.getElem?_eq_none_iff]at this
  lia
 self:=λ A i s Q E st h=>wpAny_pyIter_zip st.z h
def z9(K:W.Frag)(R:It->Hp->Prop)(us:List V)(H:Hp):Prop:=∃ls:List Nat,us=ls.map .ref/\0<ls.length/\ls.length<=4/\(∀l∈ls,∃X,ah K H l X)/\R (o4 K ls) H
def Tz(K:W.Frag)(ta:TA):TI:=λ σ H R=>ta σ H (z9 K R)
theorem Mc: ∀{ls:List Nat}{us:List Value},Vals (ls.map .ref) us->us=ls.map .ref
 |[],_,.nil=>rfl
 |l::ls,_,.cons r rs=>by cases r;rw[Mc rs];rfl
def Hc{X:Cx}{w0:Expr}{r:List Expr}{ta:TA}{p pos vy:Pos}{elts:List Expr}{kk:Nat}(hg:Gl X "zip")(hm:X.mg "zip" =none)(ha:PA X (w0::r) ta)
  (hs:starEach (w0::r) X.env=(false,eval w0 X.env)::starEach r X.env:=by rfl)(bz:(backTo pos (starEach r X.env)).any (·.1)=false:=by rfl):
  PI X (.Tuple elts kk vy) (.Call (.Name "zip" p) (w0::r) [] pos) (Tz X.K ta):=by
 intro pins s σ H R I h;refine Call_ (rY I hg hm Y5 (uK (aF (ha pos pins s σ H _ I h) λ us s1 z_=>z_.e λ vs H1 I1 r1 q1=>?_) hs bz));obtain⟨ls,rfl,m0,m1,sq,q⟩:=q1;rw[Mc r1];have il: ∀l∈ls,∃a,s1.heap.IsList l a/\l<s1.heap.objs.size:=λ l e=>by obtain⟨Y,sq⟩:=sq l e;obtain⟨aw,_,p,_⟩:=I1.list sq;exact⟨_,p.isList,p.lt⟩
 refine callType_new F.called_zip (by decide) (Wr _) (W9 _ (by rw[aV];exact m0) (by rw[aV];exact m1)) (λ obj=>Wm obj _) F.entry_zip_new (XS ls m1) ⟨λ l e=>let⟨a,b,_⟩:=il l e;⟨a,b⟩,λ h1 Z hk=>?_⟩;refine⟨⟨_,Z.z,rfl⟩,wpAny_pyIter_zip Z.z ?_⟩;have I2:Inv X pins σ H1 {s1 with heap:=h1}:=I1.kept (t':=s1.toks) hk;refine⟨_,_,_,_,H1,rfl,I2,Yf m0 m1 λ l e=>(il l e).choose_spec.2,Z,λ c DQ=>?_,q⟩;have hle:=(pC.mp DQ).1;exact I1.qA hle (I1.ax.fresh hle)
end
theorem CM{us:List V}(h:us.length=n+1): ∃a t,us=a::t/\t.length=n:=by
 cases us with
 |nil=>cases h
 |cons a t=>exact⟨a,t,rfl,EV h⟩
def RO{us:List V}(h:us.length=2): ∃a b,us=[a,b]:=by obtain⟨a,t,rfl,g⟩:=CM h;obtain⟨b,u,rfl,f⟩:=CM g;rw[km.mp f];exact⟨a,b,rfl⟩
def RN{us:List V}(h:us.length=3): ∃a b c,us=[a,b,c]:=by obtain⟨a,t,rfl,g⟩:=CM h;obtain⟨b,c,rfl⟩:=RO g;exact⟨a,b,c,rfl⟩
def afd{us:List V}(h:us.length=4): ∃a b c d,us=[a,b,c,d]:=by obtain⟨a,t,rfl,g⟩:=CM h;obtain⟨b,c,d,rfl⟩:=RN g;exact⟨a,b,c,d,rfl⟩
section
variable{σ:St}{H:Hp}{Q:VK}{K:W.Frag}{g:TG}{tt:TT}{te:TE}{vs:List Nat}{a b c d:Addr}{xs ys zs ws:List V}{R:It->Hp->Prop}{tA:TA}{tb:TS}{nx:St->Hp->Prop}{rt:VK}
def ny{α:Type}{p:α->Prop}: ∀x∈([]:List α),p x:=λ _ h=>nomatch h
def dW{α:Type}{p:α->Prop}{a:α}{l:List α}(h:p a)(t: ∀x∈l,p x): ∀x∈a::l,p x:=List.forall_mem_cons.mpr ⟨h,t⟩
def aeH(q:tA σ H λ vs H1=>z9 K R vs H1):Tz K tA σ H R:=q
def z2v(h0:ah K H a xs)(h1:ah K H b ys)(q:R (o4 K [a,b]) H):z9 K R [.ref a,.ref b] H:=⟨[a,b],rfl,by simp,by simp,(dW ⟨_,h0⟩ (dW ⟨_,h1⟩ ny)),q⟩
def z3v(h0:ah K H a xs)(h1:ah K H b ys)(h2:ah K H c zs)(q:R (o4 K [a,b,c]) H):z9 K R [.ref a,.ref b,.ref c] H:=⟨[a,b,c],rfl,by simp,by simp,(dW ⟨_,h0⟩ (dW ⟨_,h1⟩ (dW ⟨_,h2⟩ ny))),q⟩
def z4v(h0:ah K H a xs)(h1:ah K H b ys)(h2:ah K H c zs)(h3:ah K H d ws)(q:R (o4 K [a,b,c,d]) H):z9 K R [.ref a,.ref b,.ref c,.ref d] H:=⟨[a,b,c,d],rfl,by simp,by simp,(dW ⟨_,h0⟩ (dW ⟨_,h1⟩ (dW ⟨_,h2⟩ (dW ⟨_,h3⟩ ny)))),q⟩
def afg{n:Nat}(l0:xs.length=n)(l1:ys.length=n)(l2:zs.length=n)(q: ∀D,H D=none-> ∃Pv:Nat->Hp->Prop,(∀H1,H1 D=some (.lst [])->aq H H1->Pv 0 H1)/\(∀(i:Nat)H',i<=n->Pv i H'->ah K H' a xs/\ah K H' b ys/\ah K H' c zs)/\
  (∀(i:Nat)x y z H',xs[i]?=some x->ys[i]?=some y->zs[i]?=some z->Pv i H'-> ∀T H2,H' T=none->H2 T=some (.tup [x,y,z])->aq H' H2->g (.ref T) (wipe σ vs) H2 (sA D tt te vs σ (Pv (i+1))))/\ ∀H',Pv n H'->Q (.ref D) H'):nE (o4 K [a,b,c]) g tt te vs σ H Q:=by
 intro D hD;obtain⟨Pv,h0,hl,hs,hd⟩:=q D hD;refine⟨λ i m H=>m=n-i/\i<=n/\Pv i H,⟨n,by simp,cP _,h0 _ br (eM hD _)⟩,?_⟩;rintro i m H ⟨rfl,hi,p⟩;obtain⟨q0,q1,q2⟩:=hl i H hi p;by_cases cg:i<n
 ·have e0:xs[i]?=some xs[i]:=bI (by lia);have e1:ys[i]?=some ys[i]:=bI (by lia);have e2:zs[i]?=some zs[i]:=bI (by lia);refine .inr ⟨(dW ⟨_,_,q0,e0⟩ (dW ⟨_,_,q1,e1⟩ (dW ⟨_,_,q2,e2⟩ ny))),Pv (i+1),λ H' p'=>⟨n-(i+1),by lia,rfl,cg,p'⟩,λ x H' y=>?_⟩;obtain⟨T,us,rfl,hT,rfl,hl,hy⟩:=y;obtain⟨x0,x1,x2,rfl⟩:=RN hl;exact hs i x0 x1 x2 H (hy 0 _ rfl _ rfl _ q0) (hy 1 _ rfl _ rfl _ q1) (hy 2 _ rfl _ rfl _ q2) p T _ hT br (eM hT _)
 ·have e:i=n:=by lia
  subst e;exact .inl ⟨⟨(dW ⟨_,q0⟩ (dW ⟨_,q1⟩ (dW ⟨_,q2⟩ ny))),_,.head _,_,q0,by simp_all⟩,hd H p⟩
def aff{n:Nat}(l0:xs.length=n)(l1:ys.length=n)(l2:zs.length=n)(l3:ws.length=n)(q: ∀D,H D=none-> ∃Pv:Nat->Hp->Prop,(∀H1,H1 D=some (.lst [])->aq H H1->Pv 0 H1)/\(∀(i:Nat)H',i<=n->Pv i H'->ah K H' a xs/\ah K H' b ys/\ah K H' c zs/\ah K H' d ws)/\
  (∀(i:Nat)x y z u H',xs[i]?=some x->ys[i]?=some y->zs[i]?=some z->ws[i]?=some u->Pv i H'-> ∀T H2,H' T=none->H2 T=some (.tup [x,y,z,u])->aq H' H2->g (.ref T) (wipe σ vs) H2 (sA D tt te vs σ (Pv (i+1))))/\ ∀H',Pv n H'->Q (.ref D) H'):nE (o4 K [a,b,c,d]) g tt te vs σ H Q:=by
 intro D hD;obtain⟨Pv,h0,hl,hs,hd⟩:=q D hD;refine⟨λ i m H=>m=n-i/\i<=n/\Pv i H,⟨n,by simp,cP _,h0 _ br (eM hD _)⟩,?_⟩;rintro i m H ⟨rfl,hi,p⟩;obtain⟨q0,q1,q2,q3⟩:=hl i H hi p;by_cases cg:i<n
 ·have e0:xs[i]?=some xs[i]:=bI (by lia);have e1:ys[i]?=some ys[i]:=bI (by lia);have e2:zs[i]?=some zs[i]:=bI (by lia);have e3:ws[i]?=some ws[i]:=bI (by lia);refine .inr ⟨(dW ⟨_,_,q0,e0⟩ (dW ⟨_,_,q1,e1⟩ (dW ⟨_,_,q2,e2⟩ (dW ⟨_,_,q3,e3⟩ ny)))),Pv (i+1),λ H' p'=>⟨n-(i+1),by lia,rfl,cg,p'⟩,λ x H' y=>?_⟩;obtain⟨T,us,rfl,hT,rfl,hl,hy⟩:=y;obtain⟨x0,x1,x2,x3,rfl⟩:=afd hl;exact hs i x0 x1 x2 x3 H (hy 0 _ rfl _ rfl _ q0) (hy 1 _ rfl _ rfl _ q1) (hy 2 _ rfl _ rfl _ q2) (hy 3 _ rfl _ rfl _ q3) p T _ hT br (eM hT _)
 ·have e:i=n:=by lia
  subst e;exact .inl ⟨⟨(dW ⟨_,q0⟩ (dW ⟨_,q1⟩ (dW ⟨_,q2⟩ (dW ⟨_,q3⟩ ny)))),_,.head _,_,q0,by lia⟩,hd H p⟩
def fz{n:Nat}(l0:xs.length=n)(l1:ys.length=n)(Pv:Nat->St->Hp->Prop)(h0:Pv 0 σ H)(hl: ∀i σ H,i<=n->Pv i σ H->ah K H a xs/\ah K H b ys)
  (hs: ∀i x y σ H,xs[i]?=some x->ys[i]?=some y->Pv i σ H-> ∀T H2,H T=none->H2 T=some (.tup [x,y])->aq H H2->g (.ref T) σ H2 λ σ2 H2=>tb (Ends.mk (Pv (i+1)) rt nx (Pv (i+1))) σ2 H2)(hd: ∀σ H,Pv n σ H->nx σ H):FR (o4 K [a,b]) g tb nx rt σ H:=by
 refine⟨λ i m σ H=>m=n-i/\i<=n/\Pv i σ H,⟨n,by simp,cP _,h0⟩,?_⟩;rintro i m σ H ⟨rfl,hi,p⟩;obtain⟨q0,q1⟩:=hl i σ H hi p;by_cases cg:i<n
 ·have e0:xs[i]?=some xs[i]:=bI (by lia);have e1:ys[i]?=some ys[i]:=bI (by lia);refine .inr ⟨(dW ⟨_,_,q0,e0⟩ (dW ⟨_,_,q1,e1⟩ ny)),Pv (i+1),λ σ' H' p'=>⟨n-(i+1),by lia,rfl,cg,p'⟩,λ x H' y=>?_⟩;obtain⟨T,us,rfl,hT,rfl,hl,hy⟩:=y;obtain⟨x0,x1,rfl⟩:=RO hl;exact hs i x0 x1 σ H (hy 0 _ rfl _ rfl _ q0) (hy 1 _ rfl _ rfl _ q1) p T _ hT br (eM hT _)
 ·have e:i=n:=by lia
  subst e;exact .inl ⟨⟨(dW ⟨_,q0⟩ (dW ⟨_,q1⟩ ny)),_,.head _,_,q0,by lia⟩,hd σ H p⟩
end
end
inductive xy(K:W.Frag)(vs:List V)(H:Hp)(Q:VK)(E:XK):Prop
 |mk (a:Addr) (l:List Int):vs=[.ref a]->ah K H a (iV l)->l.length<=30000->PyKg15.answers_asked l=true->(∀r H',H' r=some (.lst (iV (PyKg15.answers l)))->Q (.ref r) H')->xy K vs H Q E
def Go(p:World×(Str->Option Value)×Heap×Heap):Prop:=(hd.heap_1 p.1.params).In p.2.2.1->p.2.2.1.Ns mainGlobals p.2.1->Kn PySem.Challenge.rw_shapefile_s01_answers.prog p.1 (hd.heap_1 p.1.params) p.2.1 p.2.2.2 "answers" ["calls"] 79 (xy (hd.heap_1 p.1.params))
theorem ael:Nonempty (World×(Str->Option Value)×Heap×Heap):=⟨(W.aWorld 1,λ _=>none,default,default)⟩
noncomputable def p0:World×(Str->Option Value)×Heap×Heap:= @Classical.epsilon _ ael λ p=>¬Go p
def acB(h:Go p0)(p):Go p:=Classical.byContradiction λ n=> @Classical.epsilon_spec _ (λ p=>¬Go p) ⟨p,n⟩ h
@[irreducible] noncomputable def P:Program:=PySem.Challenge.rw_shapefile_s01_answers.prog
@[irreducible] noncomputable def w:World:=p0.1
@[irreducible] noncomputable def K:W.Frag:=hd.heap_1 p0.1.params
@[irreducible] noncomputable def mg:Str->Option Value:=p0.2.1
@[irreducible] noncomputable def Ba:Heap:=p0.2.2.2
@[irreducible] noncomputable def c:Cs:=⟨268,322,377,431,474,561,603,722,148,653,704,705⟩
seal PE PT PW PA PS eX PC PG wu PI PO qX Ab
local macro_rules|`(tactic|walk_at "u")=>`(tactic|((first|with_reducible refine' NO ?a ?b ?c ?_|with_reducible refine' G3 ?a ?b ?c ?_|with_reducible refine' NM ?a ?b ?c ?_);(case a=>walk_at "s");(case b=>walk_at "z");(case c=>lia)))
section
def aeB{m:List UInt8}{x y:Nat}(e:x=y):((u16 m x:Nat):Int)=(u16 m y:Nat):=by rw[e]
inductive CG(K:W.Frag)(n:Nat)(f:List UInt8->Int)(vs:List V)(H:Hp)(Q:VK)(E:XK):Prop
 |mk (a:Addr) (m:List UInt8):vs=[.ref a]->ah K H a (bs m)->n<=m.length->Q (.int (f m)) H->CG K n f vs H Q E
abbrev vo:=Kn P w K mg Ba "stretch_count" ["table"] 2 (CG K 8 λ m=>((u16 m 6/2):Nat))
abbrev Ct:=Kn P w K mg Ba "beginnings_at" ["table"] 3 (CG K 8 λ m=>((16+2*(u16 m 6/2):Nat):Int))
inductive kD(K:W.Frag)(p:List UInt8->Nat->Prop)(f:List UInt8->Nat->Int)(vs:List V)(H:Hp)(Q:VK)(E:XK):Prop
 |mk (a:Addr) (m:List UInt8) (k:Nat):vs=[.ref a,.int k]->ah K H a (bs m)->p m k->Q (.int (f m k)) H->kD K p f vs H Q E
abbrev Iq:=Kn P w K mg Ba "stretch_end" ["table","k"] 2 (kD K (λ m k=>16+2*k<=m.length) λ m k=>(u16 m (14+2*k):Nat))
abbrev QR:=Kn P w K mg Ba "stretch_beginning" ["table","k"] 4 (kD K (λ m k=>18+2*(u16 m 6/2)+2*k<=m.length) λ m k=>(u16 m (16+2*(u16 m 6/2)+2*k):Nat))
abbrev QQ:=Kn P w K mg Ba "listed_number" ["table","at"] 2 (kD K (λ m k=>True) λ m k=>if m.length<k+2 then 0 else(u16 m k:Nat))
section
variable{K:W.Frag}{H:Hp}{Q:VK}{E:XK}{a:Addr}{m:List UInt8}{z:Int}{i n:Nat}{p:List UInt8->Nat->Prop}
def PQ{f:List UInt8->Int}(h:ah K H a (bs m))(l:n<=m.length)(q:Q (.int (f m)) H):CG K n f [.ref a] H Q E:=⟨a,m,rfl,h,l,q⟩
def BW{f:List UInt8->Nat->Int}(h:ah K H a (bs m))(e:z=(i:Int))(l:p m i)(q:Q (.int (f m i)) H):kD K p f [.ref a,.int z] H Q E:=⟨a,m,i,by rw[e],h,l,q⟩
end
local macro_rules|`(tactic|walk_at "u")=>`(tactic|((with_reducible refine' PQ ?a ?b ?_);(case a=>walk_at "s");(case b=>lia)))
local macro_rules|`(tactic|walk_at "u")=>`(tactic|((with_reducible refine' BW ?a ?b ?c ?_);(case a=>walk_at "s");(case b=>walk_at "z");(case c=>first|exact trivial|lia|(dsimp only;lia)|assumption)))
def VL(g:aK mg)(d:Df K mg "stretch_count" (top 13) ["table"])(aS:fG P w K mg Ba):vo:=by
 refine d.ok ["table"] λ H Q E hr h nN=>?_;obtain⟨a,m,rfl,hb,hi,k⟩:=h
 try dsimp only at hi k
 refine⟨_,(ak (ay (aj mG (pk aS hr (aa (pv 0) (aa af ae))) af))),?_⟩;symm;exact qi k (by rfl)
def Wa(g:aK mg)(d:Df K mg "stretch_end" (top 14) ["table","k"])(aS:fG P w K mg Ba):Iq:=by
 refine d.ok ["table","k"] λ H Q E hr h nN=>?_;obtain⟨a,m,k,rfl,hb,hi,q⟩:=h
 try dsimp only at hi q
 refine⟨_,(ak (ay (pk aS hr (aa (pv 0) (aa (aj aJ (aX g.MI) (aj aR af (pv 1))) ae))))),?_⟩;symm;exact q
def VS(g:aK mg)(d:Df K mg "beginnings_at" (top 15) ["table"])(iR:vo):Ct:=by
 refine d.ok ["table"] λ H Q E hr h nN=>?_;obtain⟨a,m,rfl,hb,hi,k⟩:=h
 try dsimp only at hi k
 refine⟨_,(ak (ay (aj aJ (aj aJ (aX g.MI) (aj aR af (pk iR hr (aa (pv 0) ae)))) af))),?_⟩;symm;exact qi k (by simp+arith)
def Vc(g:aK mg)(d:Df K mg "stretch_beginning" (top 16) ["table","k"])(aS:fG P w K mg Ba)(nK:Ct):
  Kn P w K mg Ba "stretch_beginning" ["table","k"] 4 (kD K (λ m k=>18+2*(u16 m 6/2)+2*k<=m.length) λ m k=>(u16 m (16+2*(u16 m 6/2)+2*k):Nat)):=by
 refine d.ok ["table","k"] λ H Q E hr h nN=>?_;obtain⟨a,m,k,rfl,hb,hi,q⟩:=h
 try dsimp only at hi q
 refine⟨_,(ak (ay (pk aS hr (aa (pv 0) (aa (aj aJ (pk nK hr (aa (pv 0) ae)) (aj aR af (pv 1))) ae))))),?_⟩;symm;exact q
def VM(g:aK mg)(d:Df K mg "stretch_added" (top 17) ["table","k"])(aS:fG P w K mg Ba)(iR:vo)(nK:Ct):
  Kn P w K mg Ba "stretch_added" ["table","k"] 4 (kD K (λ m k=>18+4*(u16 m 6/2)+2*k<=m.length) λ m k=>(u16 m (16+4*(u16 m 6/2)+2*k):Nat)):=by
 refine d.ok ["table","k"] λ H Q E hr h nN=>?_;obtain⟨a,m,k,rfl,hb,hi,q⟩:=h
 try dsimp only at hi q
 refine⟨_,(ak (ay (pk aS hr (aa (pv 0) (aa (aj aJ (aj aJ (pk nK hr (aa (pv 0) ae)) (aj aR af (pk iR hr (aa (pv 0) ae)))) (aj aR af (pv 1))) ae))))),?_⟩;symm;exact qi q (aeB (by simp+arith))
def Vb(g:aK mg)(d:Df K mg "stretch_offset_at" (top 18) ["table","k"])(iR:vo)(nK:Ct):
  Kn P w K mg Ba "stretch_offset_at" ["table","k"] 4 (kD K (λ m k=>8<=m.length) λ m k=>((16+6*(u16 m 6/2)+2*k:Nat):Int)):=by
 refine d.ok ["table","k"] λ H Q E hr h nN=>?_;obtain⟨a,m,k,rfl,hb,hi,q⟩:=h
 try dsimp only at hi q
 refine⟨_,(ak (ay (aj aJ (aj aJ (pk nK hr (aa (pv 0) ae)) (aj aR af (pk iR hr (aa (pv 0) ae)))) (aj aR af (pv 1))))),?_⟩;symm;exact qi q (by simp+arith)
def VR(g:aK mg)(d:Df K mg "listed_number" (top 21) ["table","at"])(aS:fG P w K mg Ba):QQ:=by
 refine d.ok ["table","at"] λ H Q E hr h nN=>?_;obtain⟨a,m,k,rfl,hb,_,q⟩:=h
 try dsimp only at q
 refine⟨_,(ak (ay (iY (aB d9 (aj aJ (pv 1) af) (bX bZ g.bS (aa (pv 0) ae))) (pk aS hr (aa (pv 0) (aa (pv 1) ae))) af))),?_⟩;symm;walk_at "if"
 ·intro c;symm;exact qi q (by rw[ai (by lia)])
 ·intro c;symm;exact qi q (by rw[ao (by lia)])
end
local macro_rules|`(tactic|walk_at "u")=>`(tactic|((with_reducible refine' PQ ?a ?b ?_);(case a=>walk_at "s");(case b=>lia)))
local macro_rules|`(tactic|walk_at "u")=>`(tactic|((with_reducible refine' BW ?a ?b ?c ?_);(case a=>walk_at "s");(case b=>walk_at "z");(case c=>first|exact trivial|lia|(dsimp only;lia)|assumption)))
section
inductive se(K:W.Frag)(p:List UInt8->Prop)(f:List UInt8->Bool)(vs:List V)(H:Hp)(Q:VK)(E:XK):Prop
 |mk (a:Addr) (m:List UInt8):vs=[.ref a]->ah K H a (bs m)->p m->Q (.bl (f m)) H->se K p f vs H Q E
abbrev QO:=Kn P w K mg Ba "records_are_whole" ["cmap"] 2 (se K (λ _=>True) kf)
def OT{K:W.Frag}{H:Hp}{Q:VK}{E:XK}{a:Addr}{m:List UInt8}{p:List UInt8->Prop}{f:List UInt8->Bool}(h:ah K H a (bs m))(l:p m)(q:Q (.bl (f m)) H):se K p f [.ref a] H Q E:=⟨a,m,rfl,h,l,q⟩
local macro_rules|`(tactic|walk_at "u")=>`(tactic|((with_reducible refine' OT ?a ?b ?_);(case a=>walk_at "s");(case b=>first|exact trivial|lia|(dsimp only;lia))))
def U8(g:aK mg)(d:Df K mg "stretches_are_good" (top 12) ["table"])(iR:vo)(ue:Iq)
  (tU:QR):
  Kn P w K mg Ba "stretches_are_good" ["table"] 5 (se K (λ m=>16+8*(u16 m 6/2)<=m.length) uR):=by
 refine d.ok ["table","end_before","k","end"] λ H Q E hr h nN=>?_;obtain⟨a,m,rfl,hb,hi,k⟩:=h
 try dsimp only at hi k
 refine⟨_,(ag (au 1 nN (fe fL af)) (ag (fJ (ko rfl g.ju (aa (pk iR hr (aa (pv 0) ae)) ae)) (aT 2 nN) (ag (au 3 nN (pk ue hr (aa (pv 0) (aa (pv 2) ae)))) (ag (aI (PW.pt (gX (aB d9 (pv 3) (pv 1)) (jv (aB dO (pk tU hr (aa (pv 0) (aa (pv 2) ae))) (pv 3))))) (ak (ay gY)) aM) (ak (au 1 nN (pv 3)))))) (ak (ay (oM dw (pv 1) (aX g.K2)))))),?_⟩;symm;have hs:(u16 m 6/2)<65536:=by have:=rR m 6;lia
 symm;refine f1 (λ i σ H'=>H'=H/\o8 λ(p:Int)(v1 v2:Option V)=>wG (σ=[some (.ref a),some (.int p),v1,v2]) (p=if i=0 then(-1:Int)else((u16 m (14+2*(i-1)):Nat):Int)) (∀j,j+1<i->u16 m (14+2*j)<u16 m (14+2*(j+1))) (∀j,j<i->u16 m (16+2*(u16 m 6/2)+2*j)<=u16 m (14+2*j))) ?_ ?_ ?_
 ·exact⟨rfl, -1,none,none,rfl,rfl,λ j hj=>absurd hj (by simp_all),λ j hj=>absurd hj (by simp_all)⟩
 ·rintro i σ H' Kf ⟨rfl,p,v1,v2,rfl,hp,hu,Kl⟩;have hlen:18+2*(u16 m 6/2)+2*i<=m.length:=by lia
  nofun
  ·refine qb k (Eq.symm (AH.mpr λ z=>?_));have S:=wJ.mp z;rename_i c;rw[hp]at c;by_cases h0:i=0
   ·rw[ao h0]at c
    lia
   ·rw[ai h0]at c;have:=S.up (i-1) (by lia);rw[show i-1+1=i by lia]at this
    lia
  ·refine qb k (Eq.symm (AH.mpr λ z=>?_));have S:=wJ.mp z;have:=S.begin i Kf
   lia
  ·rename_i c1 c2;refine⟨rfl,_,_,_,rfl,?_,?_,?_⟩
   ·rw[ai (by lia),show i+1-1=i by rfl]
   ·intro j hj;by_cases tE:j+1<i
    ·exact hu j tE
    ·have e:j+1=i:=by lia
     rw[ai (by lia)]at hp;rw[show i-1=j by lia]at hp;subst e
     simp_all
   ·intro j hj;by_cases tE:j<i
    ·exact Kl j tE
    ·have e:j=i:=by lia
     subst e
     simp_all
 ·rintro σ H' ⟨rfl,p,v1,v2,rfl,hp,hu,Kl⟩;symm;refine qb k ?_;rw[ki,gF,wJ];constructor
  ·intro e;by_cases h0:(u16 m 6/2)=0
   ·rw[ao h0]at hp
    lia
   ·rw[ai h0]at hp;exact⟨hu,by exact Fn ‹_›,by lia,Kl⟩
  ·intro S;have:=S.pos;have:=S.last;rw[ai (by exact kg ‹_›)]at hp
   simp_all
def U5(g:aK mg)(d:Df K mg "character_table_is_good" (top 11) ["table"])(aS:fG P w K mg Ba)(Ec:Kn P w K mg Ba "stretches_are_good" ["table"] 5 (se K (λ m=>16+8*(u16 m 6/2)<=m.length) uR)):
  Kn P w K mg Ba "character_table_is_good" ["table"] 6 (se K (λ _=>True) iZ):=by
 refine d.ok ["table","twice_count"] λ H Q E hr h nN=>?_;obtain⟨a,m,rfl,hb,_,k⟩:=h;refine⟨_,(ag (aI (aB cW (bX bZ g.bS (aa (pv 0) ae)) af) (ak (ay gY)) aM) (ag (au 1 nN (pk aS hr (aa (pv 0) (aa af ae)))) (ag (aI (PW.pt (gX (aB dw (pv 1) af) (gX (aB dw (aj HJ (pv 1) af) af) (jv (aB dO (aj aJ af (aj aR af (pv 1))) (bX bZ g.bS (aa (pv 0) ae))))))) (ak (ay gY)) aM) (ak (ay (pk Ec hr (aa (pv 0) ae))))))),?_⟩;have no: ¬u6 m->Q (.bl false) H:=λ z=>qb k (Eq.symm (AH.mpr λ y=>z (FY.mp y)))
 nofun
 ·exact no λ z=>by have:=z.len;lia
 ·exact no λ z=>by have:=z.pos;simp_all
 ·exact no λ z=>by have:=z.afH;lia
 ·exact no λ z=>by have:=z.all;lia
 ·refine qb k ?_;rw[ki,FY,wJ];exact⟨λ S=>⟨by lia,by lia,S.pos,by lia,S⟩,λ T=>T.st⟩
def Vd(g:aK mg)(d:Df K mg "records_are_whole" (top 8) ["cmap"])(aS:fG P w K mg Ba):QO:=by
 refine d.ok ["cmap"] λ H Q E hr h nN=>?_;obtain⟨a,m,rfl,hb,_,k⟩:=h;refine⟨_,(ag (aI (PW.pt (gX (aB cW (bX bZ g.bS (aa (pv 0) ae)) af) (jv (aB gZ (pk aS hr (aa (pv 0) (aa af ae))) af)))) (ak (ay gY)) aM) (ak (ay (oM d9 (aj aJ af (aj aR af (pk aS hr (aa (pv 0) (aa af ae))))) (bX bZ g.bS (aa (pv 0) ae)))))),?_⟩
 nofun
 ·exact qb k (by unfold kf;rw[cQ (Or.inl (by exact kY.mp ‹_›))];rfl)
 ·exact qb k (by unfold kf;rw[cQ (Or.inr (Or.inl (by simp_all)))];rfl)
 ·refine qb k ?_;unfold kf;rw[ki,gF,Bool.not_eq_true',uI]
  lia
end
local macro_rules|`(tactic|walk_at "u")=>`(tactic|((with_reducible refine' OT ?a ?b ?_);(case a=>walk_at "s");(case b=>first|exact trivial|lia|(dsimp only;lia))))
inductive EM(K:W.Frag)(vs:List V)(H:Hp)(Q:VK)(E:XK):Prop
 |mk (a:Addr) (m:List UInt8) (c:Nat):vs=[.ref a,.int c]->ah K H a (bs m)->u6 m->c<=65535->(∀k:Nat,k<u16 m 6/2->(∀j,j<k->u16 m (14+2*j)<c)->c<=u16 m (14+2*k)->Q (.int (k:Int)) H)->EM K vs H Q E
inductive Ml(K:W.Frag)(vs:List V)(H:Hp)(Q:VK)(E:XK):Prop
 |mk (a:Addr) (c:List UInt8):vs=[.ref a]->ah K H a (bs c)->4+8*u16 c 2<=c.length->(∀o:Nat,r9 c=some o->Q (.int (o:Int)) H)->(r9 c=none->Q .aG H)->Ml K vs H Q E
abbrev QP:=Kn P w K mg Ba "chosen_place" ["cmap"] 3 (Ml K)
inductive MS(K:W.Frag)(vs:List V)(H:Hp)(Q:VK)(E:XK):Prop
 |mk (a:Addr) (c:List UInt8):vs=[.ref a]->ah K H a (bs c)->4+8*u16 c 2<=c.length->(∀(r:Addr)(H':Hp),H r=none->aq H H'->H' r=some (.lst (bs (Mx.tableOf c)))->Q (.ref r) H')->MS K vs H Q E
abbrev Ip:=Kn P w K mg Ba "character_table" ["cmap"] 4 (MS K)
inductive Gn(K:W.Frag)(vs:List V)(H:Hp)(Q:VK)(E:XK):Prop
 |mk (a:Addr) (c:List UInt8):vs=[.ref a]->ah K H a (bs c)->(∀H',aq H H'->Q (.bl (kf c&&iZ (Mx.tableOf c))) H')->Gn K vs H Q E
def Wx(g:aK mg)(d:Df K mg "stretch_of" (top 19) ["table","character"])(iR:vo)(ue:Iq):
  Kn P w K mg Ba "stretch_of" ["table","character"] 3 (EM K):=by
 refine d.ok ["table","character","low","high","middle"] λ H Q E hr h nN=>?_;obtain⟨a,m,c,rfl,hb,T,hc,k⟩:=h;refine⟨_,(ag (au 2 nN af) (ag (au 3 nN (aj cJ (pk iR hr (aa (pv 0) ae)) af)) (ag (uV wR (aB cW (pv 2) (pv 3)) (ag (au 4 nN (aj mG (aj aJ (pv 2) (pv 3)) af)) (ak (aI (aB cW (pk ue hr (aa (pv 0) (aa (pv 4) ae))) (pv 1)) (ak (au 2 nN (aj aJ (pv 4) af))) (ak (au 3 nN (pv 4))))))) (ak (ay (pv 2)))))),?_⟩;have hlen:=T.len;have oA:=T.pos;have jz:=T.all;have Cj:=T.st.last;symm;refine uX (λ q σ H'=>H'=H/\kU λ(zl zh:Int)(lo hi:Nat)(v:Option V)=>o_ (σ=[some (.ref a),some (.int c),some (.int zl),some (.int zh),v]) (zl=lo) (zh=hi) (q=hi-lo) (lo<=hi) (hi<u16 m 6/2) (∀j,j<lo->u16 m (14+2*j)<c) (c<=u16 m (14+2*hi))) ⟨_,rfl,_,_,0,u16 m 6/2-1,none,rfl,by rfl,by lia,rfl,by simp,by lia,λ j hj=>absurd hj (by simp_all),by simp_all⟩ ?_;rintro q σ H' ⟨rfl,zl,zh,lo,hi,v,rfl,rfl,rfl,rfl,hlh,Us,CS,Ck⟩
 nofun
 ·rename_i c1 c2;refine⟨_,?_,rfl,_,_,(lo+hi)/2+1,hi,_,rfl,by rfl,rfl,rfl,by lia,Us,?_,Ck⟩
  ·omega
  ·intro j hj;have Dt: ∀d j:Nat,j+d=(lo+hi)/2->u16 m (14+2*j)<=u16 m (14+2*((lo+hi)/2)):=by
    intro d
    induction d with
    |zero=>intro j e;rw[show j=(lo+hi)/2 by trivial];exact aQ _
    |succ d ih=>
     intro j e;have h1:=T.st.up j (by lia);have h2:=ih (j+1) (by lia);exact eh (dJ ‹_› ‹_›)
   have:=Dt ((lo+hi)/2-j) j (by grind)
   lia
 ·rename_i c1 c2;refine⟨_,?_,rfl,_,_,lo,(lo+hi)/2,_,rfl,rfl,by rfl,rfl,by lia,by lia,CS,by simp_all⟩
  lia
 ·rename_i c1;have e:lo=hi:=by lia
  subst e;exact k lo Us CS Ck
def Vq(g:aK mg)(d:Df K mg "number_in_table" (top 20) ["table","character"])(aS:fG P w K mg Ba)(FO:Kn P w K mg Ba "stretch_of" ["table","character"] 3 (EM K))
  (tU:QR)
  (Eu:Kn P w K mg Ba "stretch_added" ["table","k"] 4 (kD K (λ m k=>18+4*(u16 m 6/2)+2*k<=m.length) λ m k=>(u16 m (16+4*(u16 m 6/2)+2*k):Nat)))
  (Ee:Kn P w K mg Ba "stretch_offset_at" ["table","k"] 4 (kD K (λ m k=>8<=m.length) λ m k=>((16+6*(u16 m 6/2)+2*k:Nat):Int)))
  (Ey:QQ):
  Kn P w K mg Ba "number_in_table" ["table","character"] 5 (kD K (λ m c=>u6 m/\c<=65535) λ m c=>(Mx.numOf m c:Nat)):=by
 refine d.ok ["table","character","k","beginning","added","offset_at","offset","listed"] λ H Q E hr h nN=>?_;obtain⟨a,m,c,rfl,hb,⟨T,hc⟩,q⟩:=h
 try dsimp only at q
 refine⟨_,(ag (au 2 nN (pk FO hr (aa (pv 0) (aa (pv 1) ae)))) (ag (au 3 nN (pk tU hr (aa (pv 0) (aa (pv 2) ae)))) (ag (aI (aB cW (pv 1) (pv 3)) (ak (ay af)) aM) (ag (au 4 nN (pk Eu hr (aa (pv 0) (aa (pv 2) ae)))) (ag (au 5 nN (pk Ee hr (aa (pv 0) (aa (pv 2) ae)))) (ag (au 6 nN (pk aS hr (aa (pv 0) (aa (pv 5) ae)))) (ag (aI (aB dw (pv 6) af) (ak (ay (aj HJ (aj aJ (pv 1) (pv 4)) af))) aM) (ag (au 7 nN (pk Ey hr (aa (pv 0) (aa (aj aJ (aj aJ (pv 5) (pv 6)) (aj aR af (aj cJ (pv 1) (pv 3)))) ae)))) (ak (ay (iY (aB dw (pv 7) af) af (aj HJ (aj aJ (pv 7) (pv 4)) af)))))))))))),?_⟩;have hlen:=T.len;have oA:=T.pos;have jz:=T.all;symm;refine⟨a,m,c,rfl,hb,T,hc,λ k hk CS Ck=>?_⟩;have en:Mx.numOf m c=if c<u16 m (16+2*(u16 m 6/2)+2*k)then 0 else if u16 m (16+6*(u16 m 6/2)+2*k)=0 then(c+u16 m (16+4*(u16 m 6/2)+2*k))%65536 else
   if m.length<16+6*(u16 m 6/2)+2*k+u16 m (16+6*(u16 m 6/2)+2*k)+2*(c-u16 m (16+2*(u16 m 6/2)+2*k))+2\/u16 m (16+6*(u16 m 6/2)+2*k+u16 m (16+6*(u16 m 6/2)+2*k)+2*(c-u16 m (16+2*(u16 m 6/2)+2*k)))=0 then 0
   else(u16 m (16+6*(u16 m 6/2)+2*k+u16 m (16+6*(u16 m 6/2)+2*k)+2*(c-u16 m (16+2*(u16 m 6/2)+2*k)))+u16 m (16+4*(u16 m 6/2)+2*k))%65536:=by
  unfold Mx.numOf;rw[L1 (p:=λ(k:Nat)=>decide (c<=u16 m (14+2*k))) hk (cQ Ck) λ j hj=>cH (by have:=CS j hj;simp_all)]
 nofun
 ·exact qi q (by rw[en,ao (by simp_all)];rfl)
 ·exact qi q (by rw[en,ai (by simp_all),ao (by simp_all)];rfl)
 ·rename_i c1 c2;refine BW (i:=16+6*(u16 m 6/2)+2*k+u16 m (16+6*(u16 m 6/2)+2*k)+2*(c-u16 m (16+2*(u16 m 6/2)+2*k))) hb (by lia) trivial ?_;rw[ai (by lia),ai (by simp_all)]at en;generalize hz:16+6*(u16 m 6/2)+2*k+u16 m (16+6*(u16 m 6/2)+2*k)+2*(c-u16 m (16+2*(u16 m 6/2)+2*k))=z at en⊢;by_cases hl:m.length<z+2
  ·rw[ao hl];rw[ao (Or.inl hl)]at en
   nofun
   ·exact qi q (by rw[en];rfl)
   ·rename_i c3;exact absurd rfl c3
  ·rw[ai hl]
   nofun
   ·rename_i c3;exact qi q (by rw[en,ao (Or.inr (by simp_all))];rfl)
   ·rename_i c3;exact qi q (by rw[en,ai (by simp_all)];rfl)
def V3(g:aK mg)(d:Df K mg "chosen_place" (top 9) ["cmap"])(aS:fG P w K mg Ba)(gS:vp P w K mg Ba):QP:=by
 refine d.ok ["cmap","k","at","platform"] λ H Q E hr h nN=>?_;obtain⟨a,c,rfl,hb,hi,k1,k2⟩:=h;refine⟨_,(ag (fJ (ko rfl g.ju (aa (pk aS hr (aa (pv 0) (aa af ae))) ae)) (aT 1 nN) (ag (au 2 nN (aj aJ af (aj aR af (pv 1)))) (ag (au 3 nN (pk aS hr (aa (pv 0) (aa (pv 2) ae)))) (ak (aI (PW.pt (gX (aB dw (pv 3) af) (jv (PW.pt (vc (aB dw (pv 3) af) (uY (aB dw (pk aS hr (aa (pv 0) (aa (aj aJ (pv 2) af) ae))) af))))))) (ak (ay (pk gS hr (aa (pv 0) (aa (aj aJ (pv 2) af) ae))))) aM))))) (ak (ay xV))),?_⟩;have cg:=rR c 2;symm;refine f1 (λ i σ H'=>H'=H/\o8 λ(v1 v2 v3:Option V)=>σ=[some (.ref a),v1,v2,v3]/\ ∀j,j<i->(u16 c (4+8*j)==0||(u16 c (4+8*j)==3&&u16 c (6+8*j)==1))=false) ?_ ?_ ?_
 ·exact⟨rfl,none,none,none,rfl,λ j hj=>absurd hj (by lia)⟩
 ·rintro i σ H' Kf ⟨rfl,v1,v2,v3,rfl,dQ⟩;have hit:(u16 c (4+8*i)==0||(u16 c (4+8*i)==3&&u16 c (6+8*i)==1))=true->Q (.int ((u32 c (4+8*i+4):Nat):Int)) H':=λ e=>by
   refine k1 _ ?_;unfold r9;rw[L1 (p:=λ(k:Nat)=>u16 c (4+8*k)==0||(u16 c (4+8*k)==3&&u16 c (6+8*k)==1)) Kf e dQ];show some (u32 c (8+8*i))=some (u32 c (4+8*i+4));rw[show 4+8*i+4=8+8*i by simp+arith]
  have e6:u16 c (4+8*i+2)=u16 c (6+8*i):=by rw[show 4+8*i+2=6+8*i by simp+arith]
  have miss:(u16 c (4+8*i)==0||(u16 c (4+8*i)==3&&u16 c (6+8*i)==1))=false-> ∀j,j<i+1->(u16 c (4+8*j)==0||(u16 c (4+8*j)==3&&u16 c (6+8*j)==1))=false:=λ e j hj=>by
   by_cases tE:j<i
   ·exact dQ j tE
   ·rw[show j=i by lia];exact e
  nofun
  ·rename_i c1;exact hit (by rw[show u16 c (4+8*i)=0 by simp_all];rfl)
  ·rename_i c1 c2 c3;exact hit (by rw[show u16 c (4+8*i)=3 by exact uk ‹_›,show u16 c (6+8*i)=1 by lia];rfl)
  ·rename_i c1 c2 c3;exact⟨rfl,_,_,_,rfl,miss (by rw[Au (show u16 c (4+8*i)≠0 by lia),Au (show u16 c (6+8*i)≠1 by lia)];simp)⟩
  ·rename_i c1 c2;exact⟨rfl,_,_,_,rfl,miss (by rw[Au (show u16 c (4+8*i)≠0 by simp_all),Au (show u16 c (4+8*i)≠3 by lia)];rfl)⟩
 ·rintro σ H' ⟨rfl,v1,v2,v3,rfl,dQ⟩;symm;exact k2 (by unfold r9;rw[V7 dQ];rfl)
def Vt(g:aK mg)(d:Df K mg "character_table" (top 10) ["cmap"])(aS:fG P w K mg Ba)(EK:QP):Ip:=by
 refine d.ok ["cmap","place","size"] λ H Q E hr h nN=>?_;obtain⟨a,c,rfl,hb,hi,k⟩:=h;refine⟨_,(ag (au 1 nN (pk EK hr (aa (pv 0) ae))) (ag (aI (PW.pt (gX (vd (Pd (pv 1))) (gX (aB dO (aj aJ (pv 1) af) (bX bZ g.bS (aa (pv 0) ae))) (jv (aB gZ (pk aS hr (aa (pv 0) (aa (pv 1) ae))) af))))) (ak (ay (bo ae))) aM) (ag (au 2 nN (pk aS hr (aa (pv 0) (aa (aj aJ (pv 1) af) ae)))) (ag (aI (aB dO (aj aJ (pv 1) (pv 2)) (bX bZ g.bS (aa (pv 0) ae))) (ak (ay (bo ae))) aM) (ak (ay (mC mE (pv 0) (iz (pv 1)) (iz (aj aJ (pv 1) (pv 2)))))))))),?_⟩;have empty:Mx.tableOf c=[]->yM Q [] H:=λ e=>abv (cP _) λ p hp=>k p _ hp (eM hp _) (by rw[e,br];rfl);symm;refine⟨a,c,rfl,hb,hi,λ o ho=>?_,λ ho=>?_⟩
 ·have et:Mx.tableOf c=if c.length<o+4\/u16 c o≠4 then []else if c.length<o+u16 c (o+2)then []else Kg15.part c o (u16 c (o+2)):=by unfold Mx.tableOf;rw[ho]
  nofun
  ·exact empty (by rw[et,ao (Or.inl (by exact kY.mp ‹_›))])
  ·exact empty (by rw[et,ao (Or.inr (by lia))])
  ·exact empty (by rw[et];rw[ai (by lia),ao (by exact kY.mp ‹_›)])
  ·refine Qi (o:=o) (e:=o+u16 c (o+2)) hb rfl (by rfl) (by simp) (by lia) λ p hp=>k p _ hp (eM hp _) ?_;rw[br,et,ai (by lia),ai (by lia),show o+u16 c (o+2)-o=u16 c (o+2) by simp]
 ·symm;exact empty (by unfold Mx.tableOf;rw[ho])
def V1(g:aK mg)(d:Df K mg "cmap_is_good" (top 7) ["cmap"])(Ef:QO)(tZ:Ip)(D_:Kn P w K mg Ba "character_table_is_good" ["table"] 6 (se K (λ _=>True) iZ)):
  Kn P w K mg Ba "cmap_is_good" ["cmap"] 7 (Gn K):=by
 refine d.ok ["cmap"] λ H Q E hr h nN=>?_;obtain⟨a,c,rfl,hb,k⟩:=h;refine⟨_,(ak (ay (HI (pk Ef hr (aa (pv 0) ae)) (HG (pk D_ hr (aa (pk tZ hr (aa (pv 0) ae)) ae)))))),?_⟩
 nofun
 ·rename_i h1;have h2:4+8*u16 c 2<=c.length:=by
   have h3: ¬(c.length<4\/u16 c 0≠0\/c.length<4+8*u16 c 2):=by unfold kf at h1;simpa using h1
   simp_all
  refine⟨a,c,rfl,hb,h2,λ r H' _ sm J5=>?_⟩;have hq:ah K H' r (bs (Mx.tableOf c)):=ah.of J5
  nofun
  exact qb (k _ sm) (by rw[h1];rfl)
 ·rename_i h1;exact qb (k _ (aq.refl _)) (by rw[h1];rfl)
local macro_rules|`(tactic|walk_at "i")=>`(tactic|assumption)
local macro_rules|`(tactic|walk_at "1")=>`(tactic|first
 |((with_reducible refine' HD ?a ?b ?_);(case a=>walk_at "i");(case b=>rfl))
 |((with_reducible refine' Qp ?a ?_);(case a=>walk_at "i"))
 |((with_reducible refine' HY ?a ?b ?_);(case a=>walk_at "i");(case b=>rfl))
 |((with_reducible refine' abZ ?h ?_);(case h=>exact rfl))
 |(with_reducible first|refine adI ?_|refine Oi ?_|refine abO ?_|refine aeY ?_|refine af1 ?_|refine adQ ?_|refine adP ?_|refine abV ?_|refine abB ?_|refine ade ?_|refine Rz ?_|refine aeS ?_|refine afU ?_|refine afX ?_|refine Na ?_|refine abm ?_|refine adW ?_|refine aga ?_|refine af_ ?_)
 |((with_reducible refine' abE ?a ?_);(case a=>walk_at "s"))
 |((with_reducible refine' abD ?a ?_);(case a=>walk_at "s"))
 |((with_reducible refine' abF ?a ?_);(case a=>walk_at "s")))
local macro_rules|`(tactic|walk_at "e")=>`(tactic|((with_reducible refine' acG ?a ?b ?c);(case a=>walk_at "e");(case b=>walk_at "i");(case c=>rfl)))
local macro_rules|`(tactic|walk_at "1")=>`(tactic|first
 |((with_reducible refine' abQ ?a ?b ?c ?_);(case a=>walk_at "e");(case b=>walk_at "i");(case c=>rfl))
 |((with_reducible first|refine' Zm ?a ?b ?_|refine' aaj ?a ?b ?_|refine' aan ?a ?b ?_);(case a|b=>walk_at "e"))
 |((with_reducible refine' adU ?a ?b ?c ?_);(case a|c=>walk_at "e");(case b=>walk_at "i"))
 |((with_reducible refine' ado ?a ?b ?c ?d ?_);(case a=>walk_at "e");(case b=>walk_at "i");(case c=>rfl);(case d=>walk_at "e"))
 |((with_reducible first|refine' abd ?a ?_|refine' adq ?a ?_|refine' Zo ?a ?_|refine' afS ?a ?_);(case a=>walk_at "e"))
 |((with_reducible refine' ab0 ?a ?b ?_);(case a=>exact rfl);(case b=>walk_at "e"))
 |((with_reducible refine' af2 ?a ?b ?_);(case a=>exact rfl);(case b=>walk_at "e")))
structure bP(c:Cs)(K:W.Frag)(H:Hp)(rd d:Addr)(b:List UInt8)(i:Nat):Prop where
 ob: ∃dx,H rd=some (.ins c.Reader dx [("data",.ref d),("at",.int i)])
 dt:ah K H d (bs b)
inductive GC(c:Cs)(vs:List V)(H:Hp)(Q:VK)(E:XK):Prop
 |mk (x dx d:Addr) (i:Int):vs=[.ref x,.ref d,.int i]->H x=some (.ins c.Reader dx [])->(∀H',H' x=some (.ins c.Reader dx [("data",.ref d),("at",.int i)])->bh x H H'->Q .aG H')->GC c vs H Q E
abbrev Ir:=nF P w K mg Ba "Reader" c.Reader ["self","data","at"] 1 (GC c)
inductive G5(c:Cs)(K:W.Frag)(vs:List V)(H:Hp)(Q:VK)(E:XK):Prop
 |mk (rd d:Addr) (b:List UInt8) (i n:Nat):vs=[.ref rd,.int n]->bP c K H rd d b i->(i+n<=b.length-> ∀H',bP c K H' rd d b (i+n)->bh rd H H'->Q (.int i) H')->(b.length<i+n->E (.ref c.NotWellTold) none H)->G5 c K vs H Q E
abbrev yq:=Km P w K mg Ba (fT P w c.NotWellTold) c.Reader "pass_over" ["self","size"] 1 (G5 c K)
inductive rQ(c:Cs)(K:W.Frag)(n:Nat)(f:List UInt8->Nat->Int)(vs:List V)(H:Hp)(Q:VK)(E:XK):Prop
 |mk (rd d:Addr) (b:List UInt8) (i:Nat):vs=[.ref rd]->bP c K H rd d b i->(i+n<=b.length-> ∀H',bP c K H' rd d b (i+n)->bh rd H H'->Q (.int (f b i)) H')->(b.length<i+n->E (.ref c.NotWellTold) none H)->rQ c K n f vs H Q E
abbrev Cw:=Km P w K mg Ba (fT P w c.NotWellTold) c.Reader "next_unsigned16" ["self"] 2 (rQ c K 2 λ b i=>(u16 b i:Nat))
abbrev Cv:=Km P w K mg Ba (fT P w c.NotWellTold) c.Reader "next_signed16" ["self"] 3 (rQ c K 2 i16)
abbrev QX:=Km P w K mg Ba (fT P w c.NotWellTold) c.Reader "next_signed8" ["self"] 3 (rQ c K 1 i8)
abbrev Cu:=Km P w K mg Ba (fT P w c.NotWellTold) c.Reader "next_unsigned8" ["self"] 2 (rQ c K 1 λ b i=>(Kg15.u8 b i:Nat))
def Wg(tc:aW P w K mg c)(d:nI K mg "Reader" c.Reader "Reader.__init__" (inClass (top 54) 0) ["self","data","at"]):Ir:=by refine d.ok ["self","data","at"] λ H Q E hr h nN=>?_;obtain⟨x,dx,d,i,rfl,hx,k⟩:=h;refine⟨_,(ag (cj tc.dM tc.xX (pv 0) (pv 1)) (ak (cj tc.dM tc.II (pv 0) (pv 2)))),?_⟩;refine Oi ?_;symm;refine cb (fs':=[("data",.ref d)]) hx rfl (by simp) λ H1 h1 b1=>?_;symm;refine cb (fs':=[("data",.ref d),("at",.int i)]) h1 rfl (by simp) λ H2 h2 b2=>?_;exact k H2 h2 λ b o e n=>b2 b o (b1 b o e n) n
def W0(g:aK mg)(tc:aW P w K mg c)(d:q_ K c.Reader "pass_over" "Reader.pass_over" (inClass (top 54) 1) ["self","size"]):yq:=by
 refine d.ef ["self","size","began"] λ H Q E hr h nN=>?_;obtain⟨rd,d,b,i,n,rfl,⟨⟨dx,hx⟩,hd⟩,k1,k2⟩:=h;refine⟨_,(ag (au 2 nN (aH tc.dM tc.II (pv 0))) (ag (aI (aB dO (aj aJ (pv 2) (pv 1)) (bX bZ g.bS (aa (aH tc.dM tc.xX (pv 0)) ae))) (ak (kq rfl kC tc.jK rfl (aa du ae))) aM) (ag (cj tc.dM tc.II (pv 0) (aj aJ (pv 2) (pv 1))) (ak (ay (pv 2)))))),?_⟩
 nofun
 ·rename_i c1;exact k2 (by exact kY.mp ‹_›)
 ·rename_i c1;refine cb (fs':=[("data",.ref d),("at",.int ((i+n:Nat):Int))]) hx rfl (by simp) λ H1 h1 b1=>?_;symm;exact k1 (by lia) H1 ⟨⟨dx,h1⟩,b1.sD .ins hx hd⟩ b1
def Bs{H:Hp}{Q:VK}{E:XK}{rd d:Addr}{b:List UInt8}{i n:Nat}{z:Int}(h:bP c K H rd d b i)(e:z=(n:Int))(q1:i+n<=b.length-> ∀H',bP c K H' rd d b (i+n)->bh rd H H'->Q (.int i) H')(q2:b.length<i+n->E (.ref c.NotWellTold) none H):G5 c K [.ref rd,.int z] H Q E:=⟨rd,d,b,i,n,by rw[e],h,q1,q2⟩
def jN{H:Hp}{Q:VK}{E:XK}{rd d:Addr}{b:List UInt8}{i n:Nat}{f:List UInt8->Nat->Int}(h:bP c K H rd d b i)(q1:i+n<=b.length-> ∀H',bP c K H' rd d b (i+n)->bh rd H H'->Q (.int (f b i)) H')(q2:b.length<i+n->E (.ref c.NotWellTold) none H):rQ c K n f [.ref rd] H Q E:=⟨rd,d,b,i,rfl,h,q1,q2⟩
def VA(g:aK mg)(tc:aW P w K mg c)(d:q_ K c.Reader "next_unsigned8" "Reader.next_unsigned8" (inClass (top 54) 2) ["self"])(ka:yq):Cu:=by
 refine d.ef ["self"] λ H Q E hr h nN=>?_;obtain⟨rd,d,b,i,rfl,R,k1,k2⟩:=h;obtain⟨⟨dx,hx⟩,hd⟩:=id R;refine⟨_,(ak (ay (bO (aH tc.dM tc.xX (pv 0)) (De ka b_.pass tc.dM hr (pv 0) (aa af ae))))),?_⟩
 nofun
 refine Bs (n:=1) R rfl (λ l H1 R1 b1=>?_) k2;have cN:=R1.dt
 nofun
 exact k1 l H1 R1 b1
def Vr(g:aK mg)(tc:aW P w K mg c)(d:q_ K c.Reader "next_unsigned16" "Reader.next_unsigned16" (inClass (top 54) 4) ["self"])(ka:yq)(aS:fG P w K mg Ba):Cw:=by
 refine d.ef ["self"] λ H Q E hr h nN=>?_;obtain⟨rd,d,b,i,rfl,R,k1,k2⟩:=h;obtain⟨⟨dx,hx⟩,hd⟩:=id R;refine⟨_,(ak (ay (pk aS hr (aa (aH tc.dM tc.xX (pv 0)) (aa (De ka b_.pass tc.dM hr (pv 0) (aa af ae)) ae))))),?_⟩
 nofun
 refine Bs (n:=2) R rfl (λ l H1 R1 b1=>?_) k2;have cN:=R1.dt
 nofun
 exact k1 l H1 R1 b1
def VP(g:aK mg)(tc:aW P w K mg c)(d:q_ K c.Reader "next_signed16" "Reader.next_signed16" (inClass (top 54) 5) ["self"])(ka:yq)(ir:vq P w K mg Ba):Cv:=by
 refine d.ef ["self"] λ H Q E hr h nN=>?_;obtain⟨rd,d,b,i,rfl,R,k1,k2⟩:=h;obtain⟨⟨dx,hx⟩,hd⟩:=id R;refine⟨_,(ak (ay (pk ir hr (aa (aH tc.dM tc.xX (pv 0)) (aa (De ka b_.pass tc.dM hr (pv 0) (aa af ae)) ae))))),?_⟩
 nofun
 refine Bs (n:=2) R rfl (λ l H1 R1 b1=>?_) k2;have cN:=R1.dt
 nofun
 exact k1 l H1 R1 b1
def VX(g:aK mg)(tc:aW P w K mg c)(d:q_ K c.Reader "next_signed8" "Reader.next_signed8" (inClass (top 54) 3) ["self"])(ml:Cu):QX:=by
 refine d.ef ["self","number"] λ H Q E hr h nN=>?_;obtain⟨rd,d,b,i,rfl,R,k1,k2⟩:=h;obtain⟨⟨dx,hx⟩,hd⟩:=id R;refine⟨_,(ag (au 1 nN (jd ml b_.pass tc.dM hr (pv 0))) (ak (ay (iY (aB yk (pv 1) af) (aj cJ (pv 1) af) (pv 1))))),?_⟩
 nofun
 refine jN R (λ l H1 R1 b1=>?_) k2;have q:=k1 l H1 R1 b1
 nofun
 ·refine qi q ?_;unfold i8 signed;rw[ai (by lia)];rfl
 ·refine qi q ?_;unfold i8 signed;rw[ao (by lia)]
def aa5(n k:Nat):n&&&2^k=if n.testBit k=true then 2^k else 0:=by
 apply Fu;intro i;rw[Nat.testBit_and,Fs];by_cases h:k=i
 ·subst h;cases hb:n.testBit k
  ·simp
  ·simp[Fs]
 ·cases hb:n.testBit k
  ·simp[h]
  ·simp[Fs,h]
def OQ{n:Nat}{z:Int}(k:Nat)(e:z=((2^k:Nat):Int)):Builtin.bitAnd (n:Int) z=if n.testBit k=true then((2^k:Nat):Int)else 0:=by
 subst e;rw[bitAnd_pp (by simp) (nQ _),jr,jr,aa5];cases n.testBit k
 ·simp
 ·simp
def oo{n:Nat}{z:Int}(k:Nat)(e:z=((2^k:Nat):Int)):(Builtin.bitAnd (n:Int) z=0)↔n.testBit k=false:=by
 have hp:0<2^k:=wW k;rw[OQ k e];cases n.testBit k
 ·simp
 ·constructor
  ·intro h;rw[ao rfl]at h;generalize 2^k=m at hp h
   simp_all
  ·intro h;cases h
noncomputable def ff (b:List UInt8) (i n:Nat):List Nat:=(List.range n).map λ(k:Nat)=>u16 b (i+2*k)
def Gg(b:List UInt8)(i n:Nat):ff b i (n+1)=ff b i n++[u16 b (i+2*n)]:=by unfold ff;rw[nO,fw];rfl
def MB(b:List UInt8)(i n:Nat):(ff b i n).length=n:=by unfold ff;rw[aV,iS]
def LD(b:List UInt8)(i n:Nat):rising (ff b i n)=true↔∀k,k+1<n->u16 b (i+2*k)<u16 b (i+2*(k+1)):=by
 rw[uO];constructor
 ·intro h k hk;exact h k _ _ (kX.mpr ⟨by exact eh ‹_›,rfl⟩) (kX.mpr ⟨hk,rfl⟩)
 ·intro h k x y hx hy;obtain⟨_,rfl⟩:=kX.mp hx;obtain⟨h2,rfl⟩:=kX.mp hy;exact h k h2
inductive N9(c:Cs)(K:W.Frag)(vs:List V)(H:Hp)(Q:VK)(E:XK):Prop
 |mk (rd d:Addr) (b:List UInt8) (i n:Nat):vs=[.ref rd,.int n]->bP c K H rd d b i->(0<n/\n<65536)->(i+2*n<=b.length->rising (ff b i n)=true-> ∀r H',bP c K H' rd d b (i+2*n)->az (λ x=>x=rd) H H'->H r=none->H' r=some (.lst (nV (ff b i n)))->Q (.ref r) H')->(¬(i+2*n<=b.length/\rising (ff b i n)=true)-> ∀H',az (λ x=>x=rd) H H'->E (.ref c.NotWellTold) none H')->N9 c K vs H Q E
abbrev QW:=cn P w K mg Ba c.NotWellTold "told_ends" ["reader","contour_count"] 3 (N9 c K)
def bP.dtX{H H':Hp}{rd d:Addr}{b:List UInt8}{i:Nat}(R:bP c K H rd d b i)(a:az (λ x=>x=rd) H H'):ah K H' d (bs b):=by obtain⟨⟨dx,hx⟩,hd⟩:=R;exact a.sD .ins hx hd
def bP.go{H H':Hp}{rd d:Addr}{b:List UInt8}{i j:Nat}{H1:Hp}(R:bP c K H rd d b i)(a:az (λ x=>x=rd) H H')(R1:bP c K H1 rd d b j)(e: ∀dx fs,H1 rd=some (.ins c.Reader dx fs)->H' rd=some (.ins c.Reader dx fs)):bP c K H' rd d b j:=by obtain⟨dx,hx⟩:=R1.ob;exact⟨⟨dx,e _ _ hx⟩,R.dtX a⟩
def bP.ne{H:Hp}{rd d r:Addr}{b:List UInt8}{i:Nat}(R:bP c K H rd d b i)(n:H r=none):rd≠r:=by obtain⟨dx,hx⟩:=R.ob;exact cC hx n
def WU(g:aK mg)(tc:aW P w K mg c)(d:Df K mg "told_ends" (top 65) ["reader","contour_count"])(mh:Cw):QW:=by
 refine d.ef ["reader","contour_count","ends","end_before","k","end"] λ H Q E hr h nN=>?_;obtain⟨rd,d,b,i,n,rfl,R,⟨Uj,hn⟩,k1,k2⟩:=h;refine⟨_,(ag (au 2 nN (bo ae)) (ag (au 3 nN (fe fL af)) (ag (sU n_ (ko rfl g.ju (aa (pv 1) ae)) (aT 4 nN) (ag (au 5 nN (jd mh b_.pass tc.dM hr (pv 0))) (ag (aI (aB d9 (pv 5) (pv 3)) (ak (kq rfl kC tc.jK rfl (aa du ae))) aM) (ag (cB (gU (pv 2) (aa (pv 5) ae))) (ak (au 3 nN (pv 5))))))) (ak (ay (pv 2)))))),?_⟩;symm;refine aZ (lz (by simp)) λ r H1 n1 h1 s1=>?_;have nr:=R.ne n1;symm;refine f1 (λ k σ H'=>o8 λ(p:Int)(v1 v2:Option V)=>wF (σ=[some (.ref rd),some (.int n),some (.ref r),some (.int p),v1,v2]) (bP c K H' rd d b (i+2*k)) (az (λ x=>x=rd) H H') (H' r=some (.lst (nV (ff b i k)))) (p=if k=0 then(-1:Int)else((u16 b (i+2*(k-1)):Nat):Int)) (k=0\/i+2*k<=b.length) (∀j,j+1<k->u16 b (i+2*j)<u16 b (i+2*(j+1)))) ?_ ?_ ?_
 ·have sx:az (λ x=>x=rd) H H1:=az.of s1;exact⟨-1,none,none,rfl,R.go sx R λ _ _ e=>s1 _ _ e,sx,h1,rfl,Or.inl rfl,λ j hj=>absurd hj (by simp_all)⟩
 ·rintro k σ H' hk ⟨p,v1,v2,rfl,R1,sx,aO,hp,hl,hu⟩;obtain⟨dx,hx⟩:=R1.ob
  nofun
  refine jN R1 (λ l H2 R2 b2=>?_) λ l=>k2 (λ z=>by lia) H' sx;have gP:=sx.step b2 (.inl rfl);have di:=b2 r _ aO nr.symm
  nofun
  ·rename_i c1;refine k2 (λ z=>?_) H2 gP;have z2:=(LD b i n).mp z.2;rw[hp]at c1;by_cases h0:k=0
   ·rw[ao h0]at c1
    lia
   ·rw[ai h0]at c1;have:=z2 (k-1) (by lia);rw[show k-1+1=k by lia]at this
    lia
  ·rename_i c1;refine d8 di (by rw[cV,MB];exact dJ hk (bY (eh hn) (by decide))) λ H3 h3 b3=>?_;symm;have iJ:=gP.step b3 (.inr n1);refine⟨_,_,_,rfl,R.go iJ R2 λ dx fs e=>b3 _ _ e nr,iJ,?_,?_,?_,?_⟩
   ·rw[h3,Gg,xR]
   ·rw[ai (by lia),show k+1-1=k by rfl]
   ·lia
   ·intro j hj;by_cases tE:j+1<k
    ·exact hu j tE
    ·have e:j+1=k:=by lia
     rw[ai (by lia)]at hp;rw[show k-1=j by lia]at hp;subst e
     simp_all
 ·rintro σ H' ⟨p,v1,v2,rfl,R1,sx,aO,hp,hl,hu⟩;symm;exact k1 (by lia) ((LD b i n).mpr hu) r H' R1 sx n1 aO
inductive MX(c:Cs)(K:W.Frag)(vs:List V)(H:Hp)(Q:VK)(E:XK):Prop
 |mk (rd d:Addr) (b:List UInt8) (i n:Nat):vs=[.ref rd,.int n]->bP c K H rd d b i->(∀fl j,n<=4096->flags b (n+1) n i=some (fl,j)-> ∀r H',bP c K H' rd d b j->az (λ x=>x=rd) H H'->H r=none->H' r=some (.lst (nV fl))->Q (.ref r) H')->(4096<n\/flags b (n+1) n i=none-> ∀H',az (λ x=>x=rd) H H'->E (.ref c.NotWellTold) none H')->MX c K vs H Q E
abbrev QV:=cn P w K mg Ba c.NotWellTold "told_flags" ["reader","point_count"] 3 (MX c K)
def Ww(g:aK mg)(tc:aW P w K mg c)(d:Df K mg "told_flags" (top 66) ["reader","point_count"])(ml:Cu):QV:=by
 refine d.ef ["reader","point_count","flags","flag","times"] λ H Q E hr h nN=>?_;obtain⟨rd,d,b,i,n,rfl,R,k1,k2⟩:=h;refine⟨_,(ag (aI (aB dO (pv 1) (aX g.K7)) (ak (kq rfl kC tc.jK rfl (aa du ae))) aM) (ag (au 2 nN (bo ae)) (ag (uV n_ (aB cW (bX bZ g.bS (aa (pv 2) ae)) (pv 1)) (ag (au 3 nN (jd ml b_.pass tc.dM hr (pv 0))) (ag (au 4 nN af) (ag (aI (aB gZ (aj iC (pv 3) (aX g.Xd)) af) (ak (jQ 4 nN (jd ml b_.pass tc.dM hr (pv 0)) kx)) aM) (ag (aI (aB dO (aj aJ (bX bZ g.bS (aa (pv 2) ae)) (pv 4)) (pv 1)) (ak (kq rfl kC tc.jK rfl (aa du ae))) aM) (ak (cB (nX (pv 2) (aa (aj rT (bo (aa (pv 3) ae)) (pv 4)) ae))))))))) (ak (ay (pv 2)))))),?_⟩
 nofun
 ·rename_i c1;exact k2 (.inl (by exact kY.mp ‹_›)) H az.refl
 rename_i c1;refine aZ (lz (by simp)) λ r H1 n1 h1 s1=>?_;have nr:=R.ne n1;symm;refine uX (λ m σ H'=>kU λ(acc:List Nat)(k j:Nat)(v1 v2:Option V)=>o_ (σ=[some (.ref rd),some (.int n),some (.ref r),v1,v2]) (bP c K H' rd d b j) (az (λ x=>x=rd) H H') (H' r=some (.lst (nV acc))) (m=n-acc.length) (acc.length<=n) (n-acc.length<k) (flags b (n+1) n i=(flags b k (n-acc.length) j).map λ x=>(acc++x.1,x.2))) ?_ ?_
 ·have sx:az (λ x=>x=rd) H H1:=az.of s1;refine⟨n,[],n+1,i,none,none,rfl,R.go sx R λ _ _ e=>s1 _ _ e,sx,h1,rfl,cP _,by simp,?_⟩;simp
 ·rintro m σ H' ⟨acc,k,j,v1,v2,rfl,R1,sx,aO,hm,hl,hk,he⟩;obtain⟨dx,hx⟩:=R1.ob;have DF:ah K H' r (nV acc):=ah.of aO
  nofun
  ·rename_i c2;obtain⟨k',rfl⟩: ∃k',k=k'+1:=⟨k-1,by lia⟩;obtain⟨q,hq⟩: ∃q,n-acc.length=q+1:=⟨n-acc.length-1,by lia⟩;rw[hq,Mz]at he;refine jN R1 (λ l H2 R2 b2=>?_) λ l=>k2 (.inr (by rw[he,ao l];rfl)) H' sx;rw[ai (by simp_all)]at he;have gP:=sx.step b2 (.inl rfl);have di:=b2 r _ aO nr.symm;have tp:ah K H2 r (nV acc):=ah.of di;obtain⟨wm,tm⟩:=R2.ob;have fin: ∀(t:Nat)(j2:Nat)(H3 H6:Hp)(v3 v4:Option V),t+acc.length<=n->1<=t->bP c K H3 rd d b j2->az (λ x=>x=rd) H H6->H6 r=some (.lst (nV acc++List.replicate t (V.int (Kg15.u8 b j:Nat))))->(∀dx fs,H3 rd=some (.ins c.Reader dx fs)->H6 rd=some (.ins c.Reader dx fs))->
     flags b (n+1) n i=(flags b k' (n-(t+acc.length)) j2).map (λ x=>(acc++(List.replicate t (Kg15.u8 b j)++x.1),x.2))->
     ∃m',m'<m/\kU λ(acc:List Nat)(k j:Nat)(v1 v2:Option V)=>o_ ([some (.ref rd),some (.int n),some (.ref r),v3,v4]=[some (.ref rd),some (.int n),some (.ref r),v1,v2]) (bP c K H6 rd d b j) (az (λ x=>x=rd) H H6) (H6 r=some (.lst (nV acc))) (m'=n-acc.length) (acc.length<=n) (n-acc.length<k) (flags b (n+1) n i=(flags b k (n-acc.length) j).map λ x=>(acc++x.1,x.2)):=by
    intro t j2 H3 H6 v3 v4 ht ht1 R3 jB h6 kp hf;refine⟨_,?_,acc++List.replicate t (Kg15.u8 b j),k',j2,_,_,rfl,R.go jB R3 kp,jB,?_,rfl,?_,?_,?_⟩
    ·rw[bq,eI];grind
    ·rw[h6,vf];unfold nV;rw[Fm]
    ·rw[bq,eI];simp+arith only[*]
    ·rw[bq,eI];grind
    ·rw[hf,bq,eI,rg];simp only[gE]
   nofun
   ·rename_i c3;have tb:(Kg15.u8 b j).testBit 3=true:=by
     cases h:(Kg15.u8 b j).testBit 3
     ·exact absurd ((oo 3 rfl).mpr h) c3
     ·rfl
    rw[ao tb]at he;refine jN R2 (λ l3 H3 R3 b3=>?_) λ l3=>k2 (.inr (by rw[he,ao (.inl (by trivial))];rfl)) H2 gP;have iJ:=gP.step b3 (.inl rfl);have lW:=b3 r _ di nr.symm;have hq3:ah K H3 r (nV acc):=ah.of lW
    nofun
    ·rename_i c4;exact k2 (.inr (by rw[he,ao (.inr (by grind))];rfl)) H3 iJ
    ·rename_i c4;rw[ai (by lia)]at he;refine aZ (lz (by simp)) λ p1 H4 m4 h4 s4=>?_;symm;refine kE (k:=Kg15.u8 b (j+1)+1) h4 (by simp+arith) (by lia) λ p2 H5 m5 h5 s5=>?_;symm;refine jy (s5 _ _ (s4 _ _ lW)) h5 (by rw[cV,eI,aL];lia) λ H6 h6 b6=>?_;symm;refine fin _ _ H3 _ _ _ (by lia) (by simp) R3 (((iJ.add s4).add s5).step b6 (.inr n1)) h6 (λ dx fs e=>b6 _ _ (s5 _ _ (s4 _ _ e)) nr) ?_;rw[he,show n-(Kg15.u8 b (j+1)+1+acc.length)=q-Kg15.u8 b (j+1) by lia,Aq];rfl
   ·rename_i c3 c4;exact absurd c4 (by exact Ak.mpr ‹_›)
   ·rename_i c3 c4;have tb:(Kg15.u8 b j).testBit 3=false:=(oo 3 rfl).mp c3;rw[ai (by rw[tb];exact dj)]at he;refine aZ (lz (by simp)) λ p1 H4 m4 h4 s4=>?_;symm;refine kE (k:=1) h4 (by rfl) (by simp) λ p2 H5 m5 h5 s5=>?_;symm;refine jy (s5 _ _ (s4 _ _ di)) h5 (by rw[cV,eI,aL];lia) λ H6 h6 b6=>?_;symm;refine fin 1 _ H2 _ _ _ (by lia) (by simp) R2 (((gP.add s4).add s5).step b6 (.inr n1)) h6 (λ dx fs e=>b6 _ _ (s5 _ _ (s4 _ _ e)) nr) ?_;rw[he,show n-(1+acc.length)=q by grind,Aq];rfl
  ·rename_i c2;obtain⟨k',rfl⟩: ∃k',k=k'+1:=⟨k-1,by lia⟩;rw[show n-acc.length=0 by simp_all]at he;refine k1 acc j (by lia) (by rw[he];simp[flags]) r H' R1 sx n1 aO
inductive M4(c:Cs)(K:W.Frag)(vs:List V)(H:Hp)(Q:VK)(E:XK):Prop
 |mk (rd d fa:Addr) (b:List UInt8) (i sh sa:Nat) (fl:List Nat):vs=[.ref rd,.ref fa,.int ((2^sh:Nat):Int),.int ((2^sa:Nat):Int)]->bP c K H rd d b i->ah K H fa (nV fl)->fl.length<=5000->(∀zs j,along b sh sa fl 0 i=some (zs,j)-> ∀r H',bP c K H' rd d b j->az (λ x=>x=rd) H H'->H r=none->H' r=some (.lst (iV zs))->Q (.ref r) H')->(along b sh sa fl 0 i=none-> ∀H',az (λ x=>x=rd) H H'->E (.ref c.NotWellTold) none H')->M4 c K vs H Q E
abbrev QU:=cn P w K mg Ba c.NotWellTold "told_places" ["reader","flags","in_a_byte","up_or_same"] 4 (M4 c K)
def drop_cons{α:Type}{l:List α}{k:Nat}{x:α}(h:l[k]?=some x):l.drop k=x::l.drop (k+1):=by obtain⟨h1,h2⟩:=bC.mp h;rw[xq h1,h2]
def V_(g:aK mg)(tc:aW P w K mg c)(d:Df K mg "told_places" (top 67) ["reader","flags","in_a_byte","up_or_same"])(ml:Cu)(j_:Cv):QU:=by
 refine d.ef ["reader","flags","in_a_byte","up_or_same","places","place","flag","way"] λ H Q E hr h nN=>?_;obtain⟨rd,d,fa,b,i,sh,sa,fl,rfl,R,hf,hz,k1,k2⟩:=h;refine⟨_,(ag (au 4 nN (bo ae)) (ag (au 5 nN af) (ag (sU n_ (c_ (pv 1)) (aT 6 nN) (ag (aI (aB gZ (aj iC (pv 6) (pv 2)) af) (ag (au 7 nN (jd ml b_.pass tc.dM hr (pv 0))) (ak (jQ 5 nN (iY (aB gZ (aj iC (pv 6) (pv 3)) af) (pv 7) (fe fL (pv 7))) kx))) (ak (aI (aB dw (aj iC (pv 6) (pv 3)) af) (ak (jQ 5 nN (jd j_ b_.pass tc.dM hr (pv 0)) kx)) aM))) (ak (cB (gU (pv 4) (aa (pv 5) ae)))))) (ak (ay (pv 4)))))),?_⟩;symm;refine aZ (lz (by simp)) λ r H1 n1 h1 s1=>?_;have nr:=R.ne n1;have hf1:=s1.seq hf;obtain⟨dx0,hx0⟩:=R.ob;symm;refine L2.Rd.fl (xs:=nV fl) (λ k σ H'=>kU λ(acc:List Int)(z:Int)(j:Nat)(v1 v2:Option V)=>Ag (σ=[some (.ref rd),some (.ref fa),some (.int ((2^sh:Nat):Int)),some (.int ((2^sa:Nat):Int)),some (.ref r),some (.int z),v1,v2]) (bP c K H' rd d b j) (az (λ x=>x=rd) H H') (H' r=some (.lst (iV acc))) (acc.length=k) (along b sh sa fl 0 i=(along b sh sa (fl.drop k) z j).map λ x=>(acc++x.1,x.2))) ?_ ?_ ?_ ?_
 ·have sx:az (λ x=>x=rd) H H1:=az.of s1;refine⟨[],0,i,none,none,rfl,R.go sx R λ _ _ e=>s1 _ _ e,sx,h1,rfl,?_⟩;simp
 ·rintro k σ H' _ ⟨acc,z,j,v1,v2,rfl,R1,sx,aO,hk,he⟩;exact sx.sD .ins hx0 hf
 ·rintro k x σ H' hx ⟨acc,z,j,v1,v2,rfl,R1,sx,aO,hk,he⟩;obtain⟨u,hu,rfl⟩:=lE.mp hx;obtain⟨dx,hxx⟩:=R1.ob;have tD:k<fl.length:=(bC.mp hu).1;rw[drop_cons hu,along]at he;have fin: ∀(dz:Int)(j2:Nat)(H3 H6:Hp)(v3 v4:Option V),bP c K H3 rd d b j2->az (λ x=>x=rd) H H6->H6 r=some (.lst (iV acc++[V.int (z+dz)]))->(∀dx fs,H3 rd=some (.ins c.Reader dx fs)->H6 rd=some (.ins c.Reader dx fs))->
    along b sh sa fl 0 i=((along b sh sa (fl.drop (k+1)) (z+dz) j2).map λ x=>((z+dz)::x.1,x.2)).map (λ x=>(acc++x.1,x.2))->
    kU λ(acc:List Int)(z':Int)(j:Nat)(v1 v2:Option V)=>Ag ([some (.ref rd),some (.ref fa),some (.int ((2^sh:Nat):Int)),some (.int ((2^sa:Nat):Int)),some (.ref r),some (.int (z+dz)),v3,v4]=[some (.ref rd),some (.ref fa),some (.int ((2^sh:Nat):Int)),some (.int ((2^sa:Nat):Int)),some (.ref r),some (.int z'),v1,v2]) (bP c K H6 rd d b j) (az (λ x=>x=rd) H H6) (H6 r=some (.lst (iV acc))) (acc.length=k+1) (along b sh sa fl 0 i=(along b sh sa (fl.drop (k+1)) z' j).map λ x=>(acc++x.1,x.2)):=by
   intro dz j2 H3 H6 v3 v4 R3 jB h6 kp qQ;refine⟨acc++[z+dz],z+dz,j2,v3,v4,rfl,R.go jB R3 kp,jB,?_,?_,?_⟩
   ·rw[h6,BN]
   ·rw[bq,hk];rfl
   ·rw[qQ,Aq];simp only[gE];rfl
  have Ds:(iV acc).length<sizeLine:=by rw[bG,aL];lia
  have on: ∀{k:Nat},¬Builtin.bitAnd (u:Int) ((2^k:Nat):Int)=0->u.testBit k=true:=λ{k}h=>by
   cases hb:u.testBit k
   ·exact absurd ((oo k rfl).mpr hb) h
   ·rfl
  have off: ∀{k:Nat},Builtin.bitAnd (u:Int) ((2^k:Nat):Int)=0-> ¬u.testBit k=true:=λ{k}h=>by rw[(oo k rfl).mp h];exact dj
  try dsimp only at he
  nofun
  ·rename_i c1;rw[ao (on c1)]at he;refine jN R1 (λ l H2 R2 b2=>?_) λ l=>k2 (by rw[he,ao l];rfl) H' sx;rw[ai (by simp_all)]at he;have gP:=sx.step b2 (.inl rfl);have di:=b2 r _ aO nr.symm
   nofun
   ·rename_i c2;rw[ao (on c2)]at he;refine d8 di Ds λ H6 h6 b6=>?_;symm;exact fin _ (j+1) H2 H6 _ _ R2 (gP.step b6 (.inr n1)) h6 (λ dx fs e=>b6 _ _ e nr) he
   ·rename_i c2;rw[ai (off c2)]at he;refine d8 di Ds λ H6 h6 b6=>?_;symm;exact fin _ (j+1) H2 H6 _ _ R2 (gP.step b6 (.inr n1)) h6 (λ dx fs e=>b6 _ _ e nr) he
  ·rename_i c1 c2;rw[ai (off c1),ai (off c2)]at he;refine jN R1 (λ l H2 R2 b2=>?_) λ l=>k2 (by rw[he,ao l];rfl) H' sx;rw[ai (by simp_all)]at he;have gP:=sx.step b2 (.inl rfl);have di:=b2 r _ aO nr.symm
   nofun
   refine d8 di Ds λ H6 h6 b6=>?_;symm;exact fin _ (j+2) H2 H6 _ _ R2 (gP.step b6 (.inr n1)) h6 (λ dx fs e=>b6 _ _ e nr) he
  ·rename_i c1 c2;rw[ai (off c1),ao (on c2)]at he;refine d8 aO Ds λ H6 h6 b6=>?_;symm;have q:=fin 0 j H' H6 (some (.int u)) v2 R1 (sx.step b6 (.inr n1)) (by rw[h6,wN]) (λ dx fs e=>b6 _ _ e nr) he;rw[wN]at q;exact q
 ·rintro σ H' ⟨acc,z,j,v1,v2,rfl,R1,sx,aO,hk,he⟩;symm;rw[cV,Az]at he;exact k1 acc j (by rw[he];simp[along]) r H' R1 sx n1 aO
inductive O7(K:W.Frag)(vs:List V)(H:Hp)(Q:VK)(E:XK):Prop
 |mk (pa ea:Addr) (ps:List Addr) (jY:List Pt) (es:List Nat):vs=[.ref pa,.ref ea]->H pa=some (.lst (rV ps))->Paired (cS H) ps jY->ah K H ea (nV es)->es.length<=70000->(rising es=true)->(∀r H',aq H H'->kB H H' r (contours 0 es jY)->Q (.ref r) H')->O7 K vs H Q E
abbrev QT:=Kn P w K mg Ba "cut_behind" ["points","ends"] 1 (O7 K)
def WB(g:aK mg)(d:Df K mg "cut_behind" (top 68) ["points","ends"]):QT:=by
 refine d.ok ["points","ends","contours","begin","end"] λ H Q E hr h nN=>?_;obtain⟨pa,ea,ps,jY,es,rfl,hp,oU,he,hz,CN,k⟩:=h;refine⟨_,(ag (au 2 nN (bo ae)) (ag (au 3 nN af) (ag (fJ (c_ (pv 1)) (aT 4 nN) (ag (cB (gU (pv 2) (aa (mC mE (pv 0) (iz (pv 3)) (iz (aj aJ (pv 4) af))) ae))) (ak (au 3 nN (aj aJ (pv 4) af))))) (ak (ay (pv 2)))))),?_⟩;symm;refine aZ (lz (by simp)) λ r H1 n1 h1 s1=>?_;have cM:=s1.seq he;symm;refine L2.Rd.fl (xs:=nV es) (λ k σ H'=>D8 λ(cs:List Addr)(done:Kg15.Outline)(b:Nat)(v1:Option V)=>wF (σ=[some (.ref pa),some (.ref ea),some (.ref r),some (.int (b:Int)),v1]) (aq H H') (H' r=some (.lst (rV cs))) (cs.length=k) (Paired (λ a l=>(a≠r/\H a=none)/\fI H' a l) cs done) (contours 0 es jY=done++contours b (es.drop k) (jY.drop b)) (b=if k=0 then 0 else es.getD (k-1) 0+1)) ?_ ?_ ?_ ?_
 ·exact⟨[],[],0,none,rfl,s1,h1,rfl,.nil,by simp,rfl⟩
 ·rintro k σ H' _ ⟨cs,done,b,v1,rfl,sm,aO,hk,DJ,hc,hb⟩;exact sm.seq he
 ·rintro k x σ H' hx ⟨cs,done,b,v1,rfl,sm,aO,hk,DJ,hc,hb⟩;obtain⟨u,hu,rfl⟩:=lE.mp hx;have tD:k<es.length:=(bC.mp hu).1;have Kj:b<=u+1:=by
   rw[hb];by_cases h0:k=0
   ·rw[ao h0];simp
   ·rw[ai h0];have e1:es[k-1]?=some (es.getD (k-1) 0):=by
     rw[jt,bI (by exact Nat.sub_lt_of_lt ‹_›)];rfl
    have:=(uO es).mp CN (k-1) _ _ e1 (by rw[show k-1+1=k by lia];exact hu);exact w_ ‹_›
  have jf:ah K H' pa (rV ps):=ah.of (sm _ _ hp)
  nofun
  refine pV jf λ p H2 n2 h2 s2=>?_;rw[Hn (m:=b) (n:=u+1) rfl (by rfl) Kj]at h2;have np:p≠r:=(cC aO n2).symm;symm;refine d8 (s2 _ _ aO) (by rw[a_,aL];lia) λ H3 h3 b3=>?_;symm;have qH:aq H H3:=b3.same (sm.trans s2) n1;have ct:fI H2 p ((jY.drop b).take (u+1-b)):=by refine⟨(ps.drop b).take (u+1-b),?_,Paired.SJ _ (Paired.KA _ (Paired.a8 oU λ _ _ z=>z.mono (dC.of (sm.trans s2))))⟩;rw[h2];unfold rV;rw[E1,Ap]
  refine⟨cs++[p],done++[(jY.drop b).take (u+1-b)],u+1,_,rfl,qH,?_,?_,?_,?_,?_⟩
  ·rw[h3,fF]
  ·rw[bq,hk];rfl
  ·exact eY (Paired.a8 DJ λ a l z=>⟨z.1,(z.2.mono (dC.of s2)).but b3 (s2 _ _ aO) z.1.1⟩) ⟨⟨np,sm.free n2⟩,ct.but b3 (s2 _ _ aO) np⟩
  ·rw[hc,drop_cons hu,contours,E3,show b+(u+1-b)=u+1 by exact Nat.add_sub_cancel' ‹_›];simp
  ·rw[ai (by lia),show k+1-1=k by rfl,jt,hu];rfl
 ·rintro σ H' ⟨cs,done,b,v1,rfl,sm,aO,hk,DJ,hc,hb⟩;symm;refine k r H' sm ?_;rw[cV,Az,contours,cG]at hc;rw[hc];exact⟨cs,n1,aO,Paired.a8 DJ λ _ _ z=>⟨z.1.2,z.2⟩⟩
local macro_rules|`(tactic|walk_at "1")=>`(tactic|first
 |(with_reducible first|refine aeT ?_|refine df ?_|refine vb ?_|refine gV ?_|refine adw ?_|refine ab1 ?_|refine ab2 ?_)
 |((with_reducible refine' iA ?e ?_);(case e=>rfl)))
local macro_rules|`(tactic|walk_at "1")=>`(tactic|first
 |((with_reducible refine' aap ?a ?_);(case a=>walk_at "e"))
 |((with_reducible refine' aaq ?a ?_);(case a=>walk_at "e"))
 |((with_reducible refine' af0 ?a ?_);(case a=>walk_at "e")))
noncomputable def kH (f:Nat):Nat:=if f.testBit 0=true then 4 else 2
noncomputable def vD (b:List UInt8) (i f:Nat):List Int:=if f.testBit 0=true then [i16 b i,i16 b (i+2)]else [i8 b i,i8 b (i+1)]
noncomputable def qB (f:Nat):Nat:=if f.testBit 3=true then 2 else if f.testBit 6=true then 4 else if f.testBit 7=true then 8 else 0
noncomputable def CZ (b:List UInt8) (i f:Nat):List Int:=if f.testBit 3=true then [i16 b i,0,0,i16 b i]else if f.testBit 6=true then [i16 b i,0,0,i16 b (i+2)]else
 if f.testBit 7=true then [i16 b i,i16 b (i+2),i16 b (i+4),i16 b (i+6)]else [16384,0,0,16384]
inductive xP(c:Cs)(K:W.Frag)(n:Nat->Nat)(g:List UInt8->Nat->Nat->List Int)(vs:List V)(H:Hp)(Q:VK)(E:XK):Prop
 |mk (rd d:Addr) (b:List UInt8) (i f:Nat):vs=[.ref rd,.int f]->bP c K H rd d b i->i<=b.length->(i+n f<=b.length-> ∀r H',bP c K H' rd d b (i+n f)->az (λ x=>x=rd) H H'->H r=none->H' r=some (.lst (iV (g b i f)))->Q (.ref r) H')->(b.length<i+n f-> ∀H',az (λ x=>x=rd) H H'->E (.ref c.NotWellTold) none H')->xP c K n g vs H Q E
abbrev QY:=cn P w K mg Ba c.NotWellTold "told_factors" ["reader","flags"] 4 (xP c K qB CZ)
def pZ{u k:Nat}{z:Int}(e:z=((2^k:Nat):Int))(h: ¬Builtin.bitAnd (u:Int) z=0):u.testBit k=true:=by
 cases hb:u.testBit k
 ·exact absurd ((oo k e).mpr hb) h
 ·rfl
def pR{u k:Nat}{z:Int}(e:z=((2^k:Nat):Int))(h:Builtin.bitAnd (u:Int) z=0): ¬u.testBit k=true:=by rw[(oo k e).mp h];exact dj
def Hf{H:Hp}{Q:VK}{E:XK}{rd d:Addr}{b:List UInt8}{i n m:Nat}{s:Nat}{σ:St}{mt:Str}{f:List UInt8->Nat->Int}(R:bP c K H rd d b i)(hn:n<=8)(hσ: ∀v,((wipe σ [s]).set s (some v))[0]?=some (some (.ref rd)))(hw: ∀v,wipe ((wipe σ [s]).set s (some v)) [s]=wipe σ [s])
  (hl: ∀(z:Int),List.lookup mt ([("data",V.ref d),("at",.int z)]:List (Str×V))=none)(hk: ∀H',az (λ x=>x=rd) H H'->b.length<i+m*n->E (.ref c.NotWellTold) none H')
  (q:i+m*n<=b.length\/n=0-> ∀r H',bP c K H' rd d b (i+m*n)->az (λ x=>x=rd) H H'->H r=none->H' r=some (.lst (iV ((List.range n).map λ(k:Nat)=>f b (i+m*k))))->Q (.ref r) H'):
  nE (jI 0 n) (eJ s) vz (sP c.Reader mt (rQ c K m f) E (fH 0) jc) [s] σ H Q:=by
 refine zy λ D hD=>⟨λ k H'=>bP c K H' rd d b (i+m*k)/\az (λ x=>x=rd) H H'/\H' D=some (.lst (iV ((List.range k).map λ(k:Nat)=>f b (i+m*k))))/\(i+m*k<=b.length\/k=0),?_,?_,?_⟩
 ·intro H1 h1 s1;have sx:az (λ x=>x=rd) H H1:=az.of s1;exact⟨R.go sx R λ _ _ e=>s1 _ _ e,sx,h1,.inr rfl⟩
 ·rintro k H' zN ⟨R1,sx,h1,hle⟩;have nr:=R.ne hD;refine df (iA (hw _) ?_);refine Rz ⟨.ref rd,hσ _,?_⟩;obtain⟨dx,hx⟩:=R1.ob;refine HY hx (hl _) (Qj ?_);refine jN R1 (λ l H2 R2 b2=>?_) λ l=>hk H' sx ?_
  ·refine gM (b2 _ _ h1 nr.symm) (by rw[bG,aV,iS,aL];lia) λ H5 h5 b5=>?_;have sR:=(sx.step b2 (.inl rfl)).step b5 (.inr hD);have e1:i+m*(k+1)=i+m*k+m:=by rw[Nat.mul_succ];simp+arith
   refine⟨?_,sR,?_,?_⟩
   ·rw[e1];exact R.go sR R2 λ dx fs e=>b5 _ _ e nr
   ·rw[h5,nO,fw,gK];rfl
   ·rw[e1];exact .inl l
  ·have:m*(k+1)<=m*n:=Nat.mul_le_mul_left m zN;rw[Nat.mul_succ]at this
   lia
 ·rintro H' ⟨R1,sx,h1,hle⟩;exact q hle D H' R1 sx hD h1
def VT(g:aK mg)(tc:aW P w K mg c)(d:Df K mg "told_offsets" (top 82) ["reader","flags"])(j_:Cv)(Eb:QX):cn P w K mg Ba c.NotWellTold "told_offsets" ["reader","flags"] 4 (xP c K kH vD):=by
 refine d.ef ["reader","flags","k"] λ H Q E hr h nN=>?_;obtain⟨rd,d,b,i,f,rfl,R,kO,k1,k2⟩:=h;refine⟨_,(ag (aI (aB gZ (aj iC (pv 1) (aX g.Wk)) af) (ak (ay (HH b_ rfl rfl rfl rfl nN (ko rfl g.ju (aa af ae)) (fX [("k",2)]) (λ _ _ _ _ _=>(aT 2 nN)) (λ _ _ _ _ _=>gH) (λ _ _ _ _ _ _ xr=>(jd j_ xr.pass tc.dM hr (pv 0)))))) aM) (ak (ay (HH b_ rfl rfl rfl rfl nN (ko rfl g.ju (aa af ae)) (fX [("k",2)]) (λ _ _ _ _ _=>(aT 2 nN)) (λ _ _ _ _ _=>gH) (λ _ _ _ _ _ _ xr=>(jd Eb xr.pass tc.dM hr (pv 0))))))),?_⟩;unfold kH vD at k1;unfold kH at k2
 nofun
 ·rename_i c1;rw[ao (pZ (k:=0) rfl c1)]at k1 k2;rw[ao (pZ (k:=0) rfl c1)]at k1;refine Hf R (by decide) (λ v=>rfl) (λ v=>rfl) (λ _=>rfl) (λ H' sx l=>k2 (by trivial) H' sx) λ l r H' R' sx zI h'=>k1 (by simp_all) r H' R' sx zI h'
 ·rename_i c1;rw[ai (pR (k:=0) rfl c1)]at k1 k2;rw[ai (pR (k:=0) rfl c1)]at k1;refine Hf R (by decide) (λ v=>rfl) (λ v=>rfl) (λ _=>rfl) (λ H' sx l=>k2 (by trivial) H' sx) λ l r H' R' sx zI h'=>k1 (by simp_all) r H' R' sx zI h'
theorem bh.x{l:Addr}{H H1:Hp}(b:bh l H H1):az (λ x=>x=l) H H1:=λ c u e n=>b c u e n
def bP.newX{H H2:Hp}{rd d r:Addr}{b:List UInt8}{i:Nat}(R:bP c K H2 rd d b i)(x:az (λ x=>x=rd) H H2)(n:H2 r=none):H r=none:=x.none n λ z=>by obtain⟨wm,tm⟩:=R.ob;rw[z,tm]at n;cases n
def VU(g:aK mg)(tc:aW P w K mg c)(d:Df K mg "told_factors" (top 83) ["reader","flags"])(j_:Cv):QY:=by
 refine d.ef ["reader","flags","both","across","k"] λ H Q E hr h nN=>?_;obtain⟨rd,d,b,i,f,rfl,R,kO,k1,k2⟩:=h;obtain⟨dx,hx⟩:=R.ob;refine⟨_,(ag (aI (aB gZ (aj iC (pv 1) (aX g.Xe)) af) (ag (au 2 nN (jd j_ b_.pass tc.dM hr (pv 0))) (ak (ay (bo (aa (pv 2) (aa af (aa af (aa (pv 2) ae)))))))) aM) (ag (aI (aB gZ (aj iC (pv 1) (aX g.WM)) af) (ag (au 3 nN (jd j_ b_.pass tc.dM hr (pv 0))) (ak (ay (bo (aa (pv 3) (aa af (aa af (aa (jd j_ b_.pass tc.dM hr (pv 0)) ae)))))))) aM) (ag (aI (aB gZ (aj iC (pv 1) (aX g.Wl)) af) (ak (ay (HH b_ rfl rfl rfl rfl nN (ko rfl g.ju (aa af ae)) (fX [("k",4)]) (λ _ _ _ _ _=>(aT 4 nN)) (λ _ _ _ _ _=>gH) (λ _ _ _ _ _ _ xr=>(jd j_ xr.pass tc.dM hr (pv 0)))))) aM) (ak (ay (bo (aa (aX g.Cq) (aa af (aa af (aa (aX g.Cq) ae)))))))))),?_⟩;unfold qB CZ at k1;unfold qB at k2
 nofun
 ·rename_i c1;have t1:=pZ (k:=3) rfl c1;simp only[t1,jn]at k1 k2;refine jN R (λ l H2 R2 b2=>?_) λ l=>k2 l H az.refl
  nofun
  refine aZ (lz (by simp)) λ r H3 n3 h3 s3=>?_;have sx:az (λ x=>x=rd) H H3:=b2.x.add s3;exact k1 l r H3 (R.go sx R2 λ _ _ e=>s3 _ _ e) sx (R2.newX b2.x n3) h3
 ·rename_i c1 c2;have t1:=pR (k:=3) rfl c1;have t2:=pZ (k:=6) rfl c2;simp only[t1,t2,jn,jL,mw]at k1 k2;refine jN R (λ l H2 R2 b2=>?_) λ l=>k2 (by lia) H az.refl;obtain⟨wm,tm⟩:=R2.ob
  nofun
  refine jN R2 (λ l2 H3 R3 b3=>?_) λ l=>k2 (by trivial) H2 b2.x
  nofun
  refine aZ (lz (by simp)) λ r H4 n4 h4 s4=>?_;have iJ:az (λ x=>x=rd) H H3:=b2.x.trans b3.x;have sx:az (λ x=>x=rd) H H4:=iJ.add s4;exact k1 (by trivial) r H4 (R.go sx R3 λ _ _ e=>s4 _ _ e) sx (R3.newX iJ n4) h4
 ·rename_i c1 c2 c3;have t1:=pR (k:=3) rfl c1;have t2:=pR (k:=6) rfl c2;have t3:=pZ (k:=7) rfl c3;simp only[t1,t2,t3,jn,jL,mw]at k1 k2;exact Hf R (by decide) (λ v=>rfl) (λ v=>rfl) (λ _=>rfl) (λ H' sx l=>k2 (by trivial) H' sx) λ l r H' R' sx zI h'=>k1 (by simp_all) r H' R' sx zI h'
 ·rename_i c1 c2 c3;have t1:=pR (k:=3) rfl c1;have t2:=pR (k:=6) rfl c2;have t3:=pR (k:=7) rfl c3;simp only[t1,t2,t3,jn,jL,mw]at k1 k2;refine aZ (lz (by simp)) λ r H4 n4 h4 s4=>?_;exact k1 kO r H4 (R.go (az.of s4) R λ _ _ e=>s4 _ _ e) (az.of s4) n4 h4
noncomputable def vK (g:Int) (fa oa:Addr):List (Str×V):=[("glyph",.int g),("factors",.ref fa),("offsets",.ref oa)]
def fb(c:Cs)(r:Addr)(H:Hp)(a:Addr)(p:Kg15.Part):Prop:=o8 λ dx fa oa=>me (fa≠r) (oa≠r) (H a=some (.ins c.Part dx (vK (p.glyph:Int) fa oa))) (H fa=some (.lst [.int p.a,.int p.b,.int p.c,.int p.d])) (H oa=some (.lst [.int p.x,.int p.y]))
def fb.same{r a:Addr}{H H':Hp}{p:Kg15.Part}(h:fb c r H a p)(s:aq H H'):fb c r H' a p:=by obtain⟨dx,fa,oa,n1,n2,h1,h2,h3⟩:=h;exact⟨dx,fa,oa,n1,n2,s _ _ h1,s _ _ h2,s _ _ h3⟩
def fb.but{r a:Addr}{xs:List V}{H H':Hp}{p:Kg15.Part}(h:fb c r H a p)(b:bh r H H')(hr:H r=some (.lst xs)):fb c r H' a p:=by obtain⟨dx,fa,oa,n1,n2,h1,h2,h3⟩:=h;exact⟨dx,fa,oa,n1,n2,b _ _ h1 λ z=>(by rw[z,hr]at h1;cases h1),b _ _ h2 n1,b _ _ h3 n2⟩
theorem fb.x{r a rd:Addr}{H H':Hp}{p:Kg15.Part}(h:fb c r H a p)(s:az (λ x=>x=rd) H H'){dx:Addr}{fs:List (Str×V)}(hr:H rd=some (.ins c.Reader dx fs))(nc:c.Reader≠c.Part):fb c r H' a p:=by obtain⟨dx,fa,oa,n1,n2,h1,h2,h3⟩:=h;exact⟨dx,fa,oa,n1,n2,s _ _ h1 λ z=>(by rw[z,hr]at h1;exact nc (HO.ins.inj (dI h1)).1),s _ _ h2 λ z=>(by rw[z,hr]at h2;cases h2),s _ _ h3 λ z=>(by rw[z,hr]at h3;cases h3)⟩
inductive GD(c:Cs)(vs:List V)(H:Hp)(Q:VK)(E:XK):Prop
 |mk (x dx fa oa:Addr) (g:Int):vs=[.ref x,.int g,.ref fa,.ref oa]->H x=some (.ins c.Part dx [])->(∀H',H' x=some (.ins c.Part dx (vK g fa oa))->bh x H H'->Q .aG H')->GD c vs H Q E
abbrev QZ:=nF P w K mg Ba "Part" c.Part ["self","glyph","factors","offsets"] 1 (GD c)
def W7(tc:aW P w K mg c)(d:nI K mg "Part" c.Part "Part.__init__" (inClass (top 80) 0) ["self","glyph","factors","offsets"]):QZ:=by refine d.ok ["self","glyph","factors","offsets"] λ H Q E hr h nN=>?_;obtain⟨x,dx,fa,oa,g,rfl,hx,k⟩:=h;refine⟨_,(ag (cj tc.lB tc.He (pv 0) (pv 1)) (ag (cj tc.lB tc.xD (pv 0) (pv 2)) (ak (cj tc.lB tc.Gp (pv 0) (pv 3))))),?_⟩;symm;refine cb (fs':=[("glyph",.int g)]) hx rfl (by simp) λ H1 h1 b1=>?_;symm;refine cb (fs':=[("glyph",.int g),("factors",.ref fa)]) h1 rfl (by simp) λ H2 h2 b2=>?_;symm;refine cb (fs':=vK g fa oa) h2 rfl (by simp) λ H3 h3 b3=>?_;exact k H3 h3 λ b o e n=>b3 b o (b2 b o (b1 b o e n) n) n
def Z5{H:Hp}{Q:VK}{fa oa:Addr}{g:Int}(q: ∀x H1,H x=none->(∃dx,H1 x=some (.ins c.Part dx (vK g fa oa)))->aq H H1->Q (.ref x) H1):oZ c.Part (GD c) [.int g,.ref fa,.ref oa] H Q:=λ x dx hx iO ne=>
 ⟨x,dx,fa,oa,g,rfl,br,λ H' h' b'=>⟨rfl,q x H' hx ⟨dx,h'⟩ (aq.made hx iO b')⟩⟩
def NP{H:Hp}{Q:VK}{d:Addr}{i:Int}(q: ∀x H1,H x=none->(∃dx,H1 x=some (.ins c.Reader dx [("data",.ref d),("at",.int i)]))->aq H H1->Q (.ref x) H1):oZ c.Reader (GC c) [.ref d,.int i] H Q:=λ x dx hx iO ne=>
 ⟨x,dx,d,i,rfl,br,λ H' h' b'=>⟨rfl,q x H' hx ⟨dx,h'⟩ (aq.made hx iO b')⟩⟩
structure Good(f:Kg15.Font):Prop where
 pl:f.places.length=f.glyphs+1
 up: ∀(i x y:Nat),f.places[i]?=some x->f.places[i+1]?=some y->x<=y
 le: ∀x∈f.places,x<=f.glyf.length
 gz:f.glyf.length<=30000
 gl:f.glyphs<=65535
 m0:0<f.metrics
 mg:f.metrics<=f.glyphs
 hm:4*f.metrics+2*(f.glyphs-f.metrics)<=f.hmtx.length
 un:16<=f.units/\f.units<=16384
 mt:u6 f.map
noncomputable def jk (f:Kg15.Font) (h p y m:Addr):List (Str×V):=[("units",.int f.units),("glyph_count",.int f.glyphs),("metric_count",.int f.metrics),("hmtx",.ref h),("places",.ref p),("glyf",.ref y),("characters",.ref m)]
structure d0(c:Cs)(H:Hp)(a:Addr)(f:Kg15.Font):Prop where
 ex:kU λ dx h p y m=>me (H a=some (.ins c.Font dx (jk f h p y m))) (H h=some (.lst (bs f.hmtx))) (H p=some (.lst (nV f.places))) (H y=some (.lst (bs f.glyf))) (H m=some (.lst (bs f.map)))
 good:Good f
def d0.same{H H':Hp}{a:Addr}{f:Kg15.Font}(x:d0 c H a f)(s:aq H H'):d0 c H' a f:=by obtain⟨⟨dx,h,p,y,m,e1,e2,e3,e4,e5⟩,g⟩:=x;exact⟨⟨dx,h,p,y,m,s _ _ e1,s _ _ e2,s _ _ e3,s _ _ e4,s _ _ e5⟩,g⟩
def fZ{l b:Addr}{H H':Hp}{o u:HO}(x:az (λ x=>x=l) H H')(h:H l=some o)(e:H b=some u)(n:u≠o):H' b=some u:=x _ _ e λ z=>by subst z;rw[h]at e;exact n (dI e).symm
def d0.dk{H H':Hp}{a l:Addr}{f:Kg15.Font}{kvs:List (Key×V)}(x:d0 c H a f)(s:az (λ x=>x=l) H H')(hl:H l=some (.dK kvs)):d0 c H' a f:=by obtain⟨⟨dx,h,p,y,m,e1,e2,e3,e4,e5⟩,g⟩:=x;exact⟨⟨dx,h,p,y,m,fZ s hl e1 (by intro z;cases z),fZ s hl e2 (by intro z;cases z),fZ s hl e3 (by intro z;cases z),fZ s hl e4 (by intro z;cases z),fZ s hl e5 (by intro z;cases z)⟩,g⟩
inductive O5(c:Cs)(vs:List V)(H:Hp)(Q:VK)(E:XK):Prop
 |mk (a:Addr) (g:Int) (f:Kg15.Font):vs=[.ref a,.int g]->d0 c H a f->Q (.bl (decide (0<=g/\g<f.glyphs))) H->O5 c vs H Q E
abbrev vt:=Kn P w K mg Ba "has_glyph" ["font","glyph"] 1 (O5 c)
def W2(tc:aW P w K mg c)(d:Df K mg "has_glyph" (top 46) ["font","glyph"]):vt:=by
 refine d.ok ["font","glyph"] λ H Q E hr h nN=>?_;obtain⟨a,g,f,rfl,F,k⟩:=h;obtain⟨dx,h,p,y,m,e1,e2,e3,e4,e5⟩:=F.ex;refine⟨_,(ak (ay (Nl d9 cW af (pv 1) (aH tc.e9 tc.Ai (pv 0))))),?_⟩;unfold jk at e1
 nofun
 ·rename_i c1;exact qb k (by simp[c1])
 ·rename_i c1;exact qb k (by simp[c1])
inductive Oa(c:Cs)(vs:List V)(H:Hp)(Q:VK)(E:XK):Prop
 |mk (a:Addr) (g:Nat) (f:Kg15.Font):vs=[.ref a,.int g]->d0 c H a f->g<f.glyphs->(∀r H',H r=none->aq H H'->H' r=some (.lst (bs (f.data g)))->Q (.ref r) H')->Oa c vs H Q E
abbrev Cz:=Kn P w K mg Ba "data_of" ["font","glyph"] 1 (Oa c)
def Qv{l:List Nat}{i:Nat}{z:Int}(e:z=(i:Int))(h:i<l.length):eW (nV l) z=some (.int ((l.getD i 0:Nat):Int)):=by refine at_of e (lE.mpr ⟨_,?_,rfl⟩);rw[bI h,jt,bI h];rfl
def Good.two{f:Kg15.Font}(G:Good f){g:Nat}(h:g<f.glyphs):f.places.getD g 0<=f.places.getD (g+1) 0/\f.places.getD (g+1) 0<=f.glyf.length:=by
 have hp:=G.pl;have e1:f.places[g]?=some (f.places.getD g 0):=by rw[jt,bI (by lia)];rfl
 have e2:f.places[g+1]?=some (f.places.getD (g+1) 0):=by rw[jt,bI (by simp_all)];rfl
 exact⟨G.up g _ _ e1 e2,G.le _ (eG e2)⟩
def XQ(tc:aW P w K mg c)(d:Df K mg "data_of" (top 51) ["font","glyph"]):Cz:=by
 refine d.ok ["font","glyph"] λ H Q E hr h nN=>?_;obtain⟨a,g,f,rfl,F,hg,k⟩:=h;obtain⟨dx,h,p,y,m,e1,e2,e3,e4,e5⟩:=F.ex;have hp:=F.good.pl;obtain⟨t1,t2⟩:=F.good.two hg;refine⟨_,(ak (ay (mC mE (aH tc.e9 tc.Ph (pv 0)) (iz (bO (aH tc.e9 tc.GQ (pv 0)) (pv 1))) (iz (bO (aH tc.e9 tc.GQ (pv 0)) (aj aJ (pv 1) af)))))),?_⟩;unfold jk at e1
 nofun
 refine bW (ah.of e3) (Qv rfl (by lia)) ?_
 nofun
 refine bW (ah.of e3) (Qv (i:=g+1) (by rfl) (by simp_all)) ?_
 nofun
 refine Qi (ah.of e4) rfl rfl t1 t2 λ r hr=>?_;exact k r _ hr (eM hr _) br
inductive HV(c:Cs)(v:Kg15.Font->Nat->Int)(vs:List V)(H:Hp)(Q:VK)(E:XK):Prop
 |mk (a:Addr) (g:Nat) (f:Kg15.Font):vs=[.ref a,.int g]->d0 c H a f->g<f.glyphs->Q (.int (v f g)) H->HV c v vs H Q E
abbrev CA:=Kn P w K mg Ba "advance_of" ["font","glyph"] 2 (HV c λ f g=>(f.advance g:Nat))
abbrev QS:=Kn P w K mg Ba "bearing_of" ["font","glyph"] 3 (HV c Kg15.Font.bearing)
def WE(g:aK mg)(tc:aW P w K mg c)(d:Df K mg "advance_of" (top 48) ["font","glyph"])(aS:fG P w K mg Ba):CA:=by
 refine d.ok ["font","glyph","metric"] λ H Q E hr h nN=>?_;obtain⟨a,gl,f,rfl,F,hg,k⟩:=h;obtain⟨dx,h,p,y,m,e1,e2,e3,e4,e5⟩:=F.ex;have hm:=F.good.hm;have Kd:=F.good.mg;have hm0:=F.good.m0;have tp:ah K H h (bs f.hmtx):=ah.of e2;refine⟨_,(ag (au 2 nN (fV (BK rfl) rfl g.qh pj (aa (pv 1) (aa (aj cJ (aH tc.e9 tc.wH (pv 0)) af) ae)))) (ak (ay (pk aS hr (aa (aH tc.e9 tc.B3 (pv 0)) (aa (aj aR af (pv 2)) ae)))))),?_⟩;unfold jk at e1
 nofun
 have e:(if((f.metrics:Int)-1)<(gl:Int)then(f.metrics:Int)-1 else(gl:Int))=((min gl (f.metrics-1):Nat):Int):=by split<;>grind
 rw[e]
 nofun
 exact k
def WD(g:aK mg)(tc:aW P w K mg c)(d:Df K mg "bearing_of" (top 49) ["font","glyph"])(ir:vq P w K mg Ba):QS:=by
 refine d.ok ["font","glyph"] λ H Q E hr h nN=>?_;obtain⟨a,gl,f,rfl,F,hg,k⟩:=h;obtain⟨dx,h,p,y,m,e1,e2,e3,e4,e5⟩:=F.ex;have hm:=F.good.hm;have Kd:=F.good.mg;have hm0:=F.good.m0;have tp:ah K H h (bs f.hmtx):=ah.of e2;refine⟨_,(ag (aI (aB cW (pv 1) (aH tc.e9 tc.wH (pv 0))) (ak (ay (pk ir hr (aa (aH tc.e9 tc.B3 (pv 0)) (aa (aj aJ (aj aR af (pv 1)) af) ae))))) aM) (ak (ay (pk ir hr (aa (aH tc.e9 tc.B3 (pv 0)) (aa (aj aJ (aj aR af (aH tc.e9 tc.wH (pv 0))) (aj aR af (aj cJ (pv 1) (aH tc.e9 tc.wH (pv 0))))) ae)))))),?_⟩;unfold jk at e1
 nofun
 ·rename_i c1;refine qi k ?_;unfold Kg15.Font.bearing;rw[ao (by simp_all)]
 ·rename_i c1;refine G3 (i:=4*f.metrics+2*(gl-f.metrics)) tp (by lia) (by grind) ?_;refine qi k ?_;unfold Kg15.Font.bearing;rw[ai (by simp_all)]
noncomputable def qg (f:Kg15.Font) (g:Nat):List Int:=if(f.data g).length<10 then [0,0,0,0]else [i16 (f.data g) 2,i16 (f.data g) 4,i16 (f.data g) 6,i16 (f.data g) 8]
inductive yf(c:Cs)(v:Kg15.Font->Nat->List Int)(vs:List V)(H:Hp)(Q:VK)(E:XK):Prop
 |mk (a:Addr) (g:Nat) (f:Kg15.Font):vs=[.ref a,.int g]->d0 c H a f->g<f.glyphs->(∀r H',H r=none->aq H H'->H' r=some (.lst (iV (v f g)))->Q (.ref r) H')->yf c v vs H Q E
def Yz(g:aK mg)(tc:aW P w K mg c)(d:Df K mg "box_of" (top 50) ["font","glyph"])(nY:Cz)(ir:vq P w K mg Ba):Kn P w K mg Ba "box_of" ["font","glyph"] 3 (yf c qg):=by
 refine d.ok ["font","glyph","data","at"] λ H Q E hr h nN=>?_;obtain⟨a,gl,f,rfl,F,hg,k⟩:=h;refine⟨_,(ag (au 2 nN (pk nY hr (aa (pv 0) (aa (pv 1) ae)))) (ag (aI (aB cW (bX bZ g.bS (aa (pv 2) ae)) af) (ak (ay (bo (aa af (aa af (aa af (aa af ae))))))) aM) (ak (ay (i9 rfl nN (acd (jw (aa af (aa af (aa af (aa af ae)))))) (fX [("at",3)]) (λ _ _ _ _ _=>(aT 3 nN)) (λ _ _ _ _ _=>gH) (λ _ _ _ _ _=>(pk ir hr (aa (pv 2) (aa (pv 3) ae))))))))),?_⟩
 nofun
 refine⟨a,gl,f,rfl,F,hg,λ r H1 n1 s1 h1=>?_⟩;have DF:ah K H1 r (bs (f.data gl)):=ah.of h1;unfold qg at k
 nofun
 ·rename_i c1;rw[ao (by exact kY.mp ‹_›)]at k;refine aZ (lz (by simp)) λ p H2 n2 h2 s2=>?_;exact k p H2 (s1.free n2) (s1.trans s2) h2
 ·rename_i c1;rw[ai (by lia)]at k;refine fW (lz (by show 4<=1000;decide)) λ T H2 n2 h2 s2=>?_;refine abH (.inl (.inl h2)) ?_;have tp:=s2.seq DF;refine lcT (xs:=[.int 2,.int 4,.int 6,.int 8]) λ D hD=>⟨λ i H'=>aq H2 H'/\H' D=some (.lst (iV (([i16 (f.data gl) 2,i16 (f.data gl) 4,i16 (f.data gl) 6,i16 (f.data gl) 8]:List Int).take i))),?_,?_,?_,?_⟩
  ·intro H3 h3 s3;exact⟨s3,h3⟩
  ·rintro i H' _ ⟨sm,_⟩;exact .inl (.inl (sm _ _ h2))
  ·rintro i x H' hx ⟨sm,cE⟩;have oS:=sm.seq tp;have fin: ∀(n i:Nat),i<4->n+1<(f.data gl).length->([i16 (f.data gl) 2,i16 (f.data gl) 4,i16 (f.data gl) 6,i16 (f.data gl) 8]:List Int)[i]?=some (i16 (f.data gl) n)->H' D=some (.lst (iV (([i16 (f.data gl) 2,i16 (f.data gl) 4,i16 (f.data gl) 6,i16 (f.data gl) 8]:List Int).take i)))->
     vx D (λ H'=>aq H2 H'/\H' D=some (.lst (iV (([i16 (f.data gl) 2,i16 (f.data gl) 4,i16 (f.data gl) 6,i16 (f.data gl) 8]:List Int).take (i+1))))) (.int (i16 (f.data gl) n)) H':=by
    intro n i hi hn oC cE;refine gM cE (by rw[bG,gC,aL];simp;lia) λ H5 h5 b5=>⟨b5.same sm hD,?_⟩;rw[h5,cA,oC,gK];rfl
   match i,hx with
   |0,hx=>cases hx;symm;exact fin 2 0 (by decide) (by lia) rfl cE
   |1,hx=>cases hx;symm;exact fin 4 1 (by decide) (by lia) rfl cE
   |2,hx=>cases hx;symm;exact fin 6 2 (by decide) (by lia) rfl cE
   |3,hx=>cases hx;symm;exact fin 8 3 (by decide) (by lia) rfl cE
   |(i+4),hx=>simp at hx
  ·rintro H' ⟨sm,cE⟩;exact k D H' (s1.free (s2.free hD)) ((s1.trans s2).trans sm) cE
def WA(g:aK mg)(tc:aW P w K mg c)(d:Df K mg "metrics_of" (top 47) ["font","glyph"])(nL:CA)(FV:QS)(GU:Kn P w K mg Ba "box_of" ["font","glyph"] 3 (yf c qg)):
  Kn P w K mg Ba "metrics_of" ["font","glyph"] 4 (yf c λ f g=>[(f.units:Int),(f.advance g:Nat),f.bearing g]++qg f g):=by
 refine d.ok ["font","glyph"] λ H Q E hr h nN=>?_;obtain⟨a,gl,f,rfl,F,hg,k⟩:=h;obtain⟨dx,h,p,y,m,e1,e2,e3,e4,e5⟩:=F.ex;refine⟨_,(ak (ay (aj og (bo (aa (aH tc.e9 tc.Hd (pv 0)) (aa (pk nL hr (aa (pv 0) (aa (pv 1) ae))) (aa (pk FV hr (aa (pv 0) (aa (pv 1) ae))) ae)))) (pk GU hr (aa (pv 0) (aa (pv 1) ae)))))),?_⟩;unfold jk at e1
 nofun
 refine⟨a,gl,f,rfl,F,hg,?_⟩
 nofun
 refine⟨a,gl,f,rfl,F,hg,?_⟩
 nofun
 refine aZ (lz (by simp)) λ r1 H1 n1 h1 s1=>?_
 nofun
 refine⟨a,gl,f,rfl,F.same s1,hg,λ r2 H2 n2 s2 h2=>?_⟩;refine ow (s2 _ _ h1) h2 (by rw[bG];unfold qg;split<;>(rw[aL];simp)) λ r3 H3 n3 h3 s3=>?_;refine k r3 H3 (s1.free (s2.free n3)) ((s1.trans s2).trans s3) ?_;rw[h3,gK];rfl
inductive Hw(c:Cs)(vs:List V)(H:Hp)(Q:VK)(E:XK):Prop
 |mk (a:Addr) (ch:Nat) (f:Kg15.Font):vs=[.ref a,.int ch]->d0 c H a f->Q (.int ((f.glyphOf ch:Nat):Int)) H->Hw c vs H Q E
abbrev Sq:=Kn P w K mg Ba "glyph_of_character" ["font","character"] 6 (Hw c)
def U9(g:aK mg)(tc:aW P w K mg c)(d:Df K mg "glyph_of_character" (top 22) ["font","character"])(Eo:Kn P w K mg Ba "number_in_table" ["table","character"] 5 (kD K (λ m c=>u6 m/\c<=65535) λ m c=>(Mx.numOf m c:Nat))):
  Kn P w K mg Ba "glyph_of_character" ["font","character"] 6 (Hw c):=by
 refine d.ok ["font","character","glyph"] λ H Q E hr h nN=>?_;obtain⟨a,ch,f,rfl,F,k⟩:=h;obtain⟨dx,h,p,y,m,e1,e2,e3,e4,e5⟩:=F.ex;have J7:ah K H m (bs f.map):=ah.of e5;refine⟨_,(ag (aI (aB dO (pv 1) (aX g.K2)) (ak (ay af)) aM) (ag (au 2 nN (pk Eo hr (aa (aH tc.e9 tc.LB (pv 0)) (aa (pv 1) ae)))) (ak (ay (iY (aB cW (pv 2) (aH tc.e9 tc.Ai (pv 0))) (pv 2) af))))),?_⟩;unfold jk at e1;rw[LY]at k
 nofun
 ·rename_i c1;exact qi k (by rw[ao (by exact kY.mp ‹_›)];rfl)
 ·rename_i c1;rw[ai (by lia)]at k;refine BW (i:=ch) J7 rfl ⟨F.good.mt,by lia⟩ ?_
  nofun
  ·rename_i c2;exact qi k (by rw[ai (by simp_all)])
  ·rename_i c2;exact qi k (by rw[ao (by simp_all)];rfl)
def XH(b:List UInt8)(k i:Nat): ∃p:Kg15.Part,p.glyph=u16 b (i+2)/\ [p.a,p.b,p.c,p.d]=CZ b (i+4+kH (u16 b i)) (u16 b i)/\ [p.x,p.y]=vD b (i+4) (u16 b i)/\
  partsOf b (k+1) i=if b.length<i+4 then none else if(u16 b i).testBit 1=false\/(u16 b i).testBit 11=true\/b.length<i+4+kH (u16 b i)+qB (u16 b i)then none else
   if(u16 b i).testBit 5=true then(partsOf b k (i+4+kH (u16 b i)+qB (u16 b i))).map λ l=>p::l else some [p]:=by
 refine⟨_,?_,?_,?_,rfl⟩
 ·rfl
 ·unfold CZ;dsimp only;generalize(u16 b i).testBit 3=x;generalize(u16 b i).testBit 6=y;generalize(u16 b i).testBit 7=z;cases x<;>cases y<;>cases z<;>rfl
 ·unfold vD;dsimp only;generalize(u16 b i).testBit 0=x;cases x<;>rfl
inductive MV(c:Cs)(K:W.Frag)(vs:List V)(H:Hp)(Q:VK)(E:XK):Prop
 |mk (d:Addr) (b:List UInt8):vs=[.ref d]->ah K H d (bs b)->10<=b.length->b.length<=100000->(∀l,partsOf b (b.length+1) 10=some l-> ∀r ps H',aq H H'->H' r=some (.lst (rV ps))->Paired (fb c r H') ps l->Q (.ref r) H')->(partsOf b (b.length+1) 10=none-> ∀H',aq H H'->E (.ref c.NotWellTold) none H')->MV c K vs H Q E
abbrev Iz:=cn P w K mg Ba c.NotWellTold "told_parts" ["data"] 5 (MV c K)
def MR{H:Hp}{Q:VK}{E:XK}{rd d:Addr}{b:List UInt8}{i f:Nat}{n:Nat->Nat}{g:List UInt8->Nat->Nat->List Int}(R:bP c K H rd d b i)(hi:i<=b.length)
  (q1:i+n f<=b.length-> ∀r H',bP c K H' rd d b (i+n f)->az (λ x=>x=rd) H H'->H r=none->H' r=some (.lst (iV (g b i f)))->Q (.ref r) H')
  (q2:b.length<i+n f-> ∀H',az (λ x=>x=rd) H H'->E (.ref c.NotWellTold) none H'):xP c K n g [.ref rd,.int f] H Q E:=⟨rd,d,b,i,f,rfl,R,hi,q1,q2⟩
def Wv(g:aK mg)(tc:aW P w K mg c)(d:Df K mg "told_parts" (top 81) ["data"])(uW:Ir)(HM:QZ)(mh:Cw)
  (EB:cn P w K mg Ba c.NotWellTold "told_offsets" ["reader","flags"] 4 (xP c K kH vD))(EC:QY):Iz:=by
 refine d.ef ["data","reader","parts","flags","glyph","offsets"] λ H Q E hr h nN=>?_;obtain⟨d,b,rfl,hd,D0,Kb,k1,k2⟩:=h;have Dm:c.Reader≠c.Part:=by have:=tc.nd;simp at this;exact this.2.2.1.1
 refine⟨_,(ag (au 1 nN (mY uW hr (aa (pv 0) (aa (aX g.X7) ae)))) (ag (au 2 nN (bo ae)) (ag (au 3 nN (aX g.K1)) (ag (uV n_ (aB gZ (aj iC (pv 3) (aX g.K1)) af) (ag (au 3 nN (jd mh b_.pass tc.dM hr (pv 1))) (ag (aI (PW.pt (gX (aB dw (aj iC (pv 3) (aX g.U7)) af) (jv (aB gZ (aj iC (pv 3) (aX g.Vg)) af)))) (ak (kq rfl kC tc.jK rfl (aa du ae))) aM) (ag (au 4 nN (jd mh b_.pass tc.dM hr (pv 1))) (ag (au 5 nN (fP EB b_ hr (aa (pv 1) (aa (pv 3) ae)))) (ak (cB (gU (pv 2) (aa (mY HM hr (aa (pv 4) (aa (fP EC b_ hr (aa (pv 1) (aa (pv 3) ae))) (aa (pv 5) ae)))) ae))))))))) (ak (ay (pv 2))))))),?_⟩;symm;refine NP λ rd H1 n1 h1 s1=>?_;symm;refine aZ (lz (by simp)) λ r H2 n2 h2 s2=>?_;have R0:bP c K H1 rd d b 10:=⟨h1,s1.seq hd⟩;have R:bP c K H2 rd d b 10:=⟨h1.imp λ dx e=>s2 _ _ e,s2.seq (s1.seq hd)⟩;have nr:rd≠r:=by obtain⟨dx,hx⟩:=h1;exact cC hx n2
 have bad:partsOf b (b.length+1) 10=none-> ∀H',az (λ x=>x=rd) H1 H'->E (.ref c.NotWellTold) none H':=λ e H' sx=>k2 e H' (sx.same s1 λ x z=>by rw[z];exact n1);symm;refine uX (λ m σ H'=>tS λ(fl j:Nat)(acc:List Kg15.Part)(ps:List Addr)(k:Nat)(v1 v2:Option V)=>SD (σ=[some (.ref d),some (.ref rd),some (.ref r),some (.int (fl:Int)),v1,v2]) (bP c K H' rd d b j) (az (λ x=>x=rd) H1 H') (H' r=some (.lst (rV ps))) (Paired (fb c r H') ps acc) (m=b.length-j) (j<=b.length) (ps.length<=j) (fl.testBit 5=true->partsOf b (b.length+1) 10=(partsOf b k j).map (λ l=>acc++l)/\b.length<j+k) (fl.testBit 5=false->partsOf b (b.length+1) 10=some acc)) ?_ ?_
 ·refine⟨_,32,10,[],[],b.length+1,none,none,rfl,R,az.of s2,h2,.nil,rfl,D0,cP _,λ _=>⟨by simp,by exact Nat.le_add_left _ _⟩,λ z=>absurd z (by decide)⟩
 ·rintro m σ H' ⟨fl,j,acc,ps,k,v1,v2,rfl,R1,sx,aO,cK,hm,hj,bz,cM,nv⟩;obtain⟨dx,hx⟩:=R1.ob
  nofun
  ·rename_i c1;obtain⟨he,hk⟩:=cM (pZ (k:=5) rfl c1);obtain⟨k',rfl⟩: ∃k',k=k'+1:=⟨k-1,by lia⟩;obtain⟨p,pg,pf,po,eS⟩:=XH b k' j;rw[eS]at he;refine jN R1 (λ l H3 R3 b3=>?_) λ l=>bad (by rw[he,ao (by lia)];rfl) H' sx;have iJ:=sx.step b3 (.inl rfl);have lW:=b3 _ _ aO nr.symm;obtain⟨Kz,hx3⟩:=R3.ob;have pp3:Paired (fb c r H3) ps acc:=Paired.a8 cK λ a q z=>z.x b3.x hx Dm
   nofun
   ·rename_i c2;refine bad ?_ H3 iJ;rw[he];have:=(oo 1 rfl).mp c2;split
    ·rfl
    ·rw[ao (.inl this)];rfl
   ·rename_i c2 c3;refine bad ?_ H3 iJ;rw[he];have:=pZ (k:=11) rfl c3;split
    ·rfl
    ·rw[ao (.inr (.inl this))];rfl
   ·rename_i c2 c3;have t1:=pZ (k:=1) rfl c2;have SR:=(oo 11 rfl).mp c3;refine jN R3 (λ l4 H4 R4 b4=>?_) λ l4=>bad (by rw[he,ao (by trivial)];rfl) H3 iJ;rw[ai (by simp_all)]at he;have vG:=iJ.step b4 (.inl rfl);have DC:=b4 _ _ lW nr.symm;obtain⟨dx4,hx4⟩:=R4.ob;have pp4:Paired (fb c r H4) ps acc:=Paired.a8 pp3 λ a q z=>z.x b4.x hx3 Dm
    nofun
    refine MR R4 (by trivial) (λ l5 oa H5 R5 s5 n5 h5=>?_) λ l5 H5 s5=>bad (by rw[he,ao (.inr (.inr (by lia)))];rfl) H5 (vG.trans s5);have sR:=vG.trans s5;have T7:H5 r=some (.lst (rV ps)):=s5 _ _ DC nr.symm;obtain⟨dx5,TJ⟩:=R5.ob;have pp5:Paired (fb c r H5) ps acc:=Paired.a8 pp4 λ a q z=>z.x s5 hx4 Dm;have Dj:oa≠r:=(cC DC n5).symm
    nofun
    refine MR R5 (by trivial) (λ l6 fa H6 R6 s6 n6 h6=>?_) λ l6 H6 s6=>bad (by rw[he,ao (.inr (.inr (by trivial)))];rfl) H6 (sR.trans s6);have jB:=sR.trans s6;have J2:H6 r=some (.lst (rV ps)):=s6 _ _ T7 nr.symm;have pp6:Paired (fb c r H6) ps acc:=Paired.a8 pp5 λ a q z=>z.x s6 TJ Dm;have Tn:fa≠r:=(cC T7 n6).symm;have h5':H6 oa=some (.lst (iV (vD b (j+2+2) (u16 b j)))):=s6 _ _ h5 λ z=>by rw[z]at h5;rw[TJ]at h5;cases h5
    nofun
    refine Z5 λ x H7 n7 h7 s7=>?_
    nofun
    refine d8 (s7 _ _ J2) (by rw[a_,aL];lia) λ H8 h8 b8=>?_;symm;have SV:=(jB.add s7).step b8 (.inr n2);have e4:j+2+2+kH (u16 b j)+qB (u16 b j)=j+4+kH (u16 b j)+qB (u16 b j):=by rfl
    have on2:2<=kH (u16 b j):=by unfold kH;split<;>simp
    have np:fb c r H8 x p:=by
     obtain⟨dx7,h7⟩:=h7;refine⟨dx7,fa,oa,Tn,Dj,b8 _ _ (by rw[h7,pg]) λ z=>?_,b8 _ _ (s7 _ _ ?_) Tn,b8 _ _ (s7 _ _ ?_) Dj⟩
     ·rw[z]at h7;rw[s7 _ _ J2]at h7;cases h7
     ·rw[h6,<- pf];rfl
     ·rw[h5',show j+2+2=j+4 by rfl,<- po];rfl
    have pp8:Paired (fb c r H8) ps acc:=Paired.a8 pp6 λ a q z=>(z.same s7).but b8 (s7 _ _ J2);refine⟨_,?_,u16 b j,j+4+kH (u16 b j)+qB (u16 b j),acc++[p],ps++[x],k',_,_,rfl,?_,SV,?_,eY pp8 np,rfl,by trivial,?_,?_,?_⟩
    ·grind
    ·rw[<- e4];exact R0.go SV R6 λ dx fs e=>b8 _ _ (s7 _ _ e) nr
    ·rw[h8,fF]
    ·rw[bq];show ps.length+1<=_;lia
    ·intro z5;rw[ai (by rw[t1,SR];simp;lia),ao z5,Aq]at he;refine⟨?_,by lia⟩;rw[he];simp only[gE];rfl
    ·intro z5;rw[ai (by rw[t1,SR];simp;lia),ai (by rw[z5];simp)]at he;rw[he];rfl
  ·rename_i c1;exact k1 acc (nv ((oo 5 rfl).mp c1)) r ps H' (sx.same s1 λ x z=>by rw[z];exact n1) aO cK
local macro_rules|`(tactic|walk_at "1")=>`(tactic|with_reducible refine aeH ?_)
inductive Mi(c:Cs)(K:W.Frag)(vs:List V)(H:Hp)(Q:VK)(E:XK):Prop
 |mk (d:Addr) (b:List UInt8) (n:Nat):vs=[.ref d,.int n]->ah K H d (bs b)->(0<n/\n<65536)->b.length<=100000->(∀o,simple b n=some o-> ∀r H',aq H H'->kB H H' r o->Q (.ref r) H')->(simple b n=none-> ∀H',aq H H'->E (.ref c.NotWellTold) none H')->Mi c K vs H Q E
abbrev Iy:=cn P w K mg Ba c.NotWellTold "told_contours" ["data","contour_count"] 5 (Mi c K)
def YI{K:W.Frag}{v0 v1 v2 v3 v4 v5 v6 v7 v8 v9 v10:Option V}{H:Hp}{Q:VK}{xa ya fa:Addr}{xs ys:List Int}{fl:List Nat}(hx:ah K H xa (iV xs))(hy:ah K H ya (iV ys))(hf:ah K H fa (nV fl))(lx:xs.length=fl.length)(ly:ys.length=fl.length)(hz:fl.length<=100000)
  (q: ∀D ps H',H D=none->aq H H'->H' D=some (.lst (rV ps))->Paired (cS H') ps ((fl.zip (xs.zip ys)).map λ p=>(⟨p.2.1,p.2.2,p.1.testBit 0⟩:Pt))->Q (.ref D) H'):
  nE (o4 K [xa,ya,fa]) (yG K 3 (p_ (eJ 8) (p_ (eJ 9) (p_ (eJ 10) CY)))) vz (yt (i7 (fH 8) (i7 (fH 9) (i7 (dA (fO λ i j=>V.int (Builtin.bitAnd i j)) (fH 10) (tC (.int 1))) jc)))) [8,9,10] [v0,v1,v2,v3,v4,v5,v6,v7,v8,v9,v10] H Q:=by
 refine afg (n:=fl.length) (by rw[bG];exact lx) (by rw[bG];exact ly) (cV _) λ D hD=>⟨λ k H'=>aq H H'/\ ∃ps,H' D=some (.lst (rV ps))/\ps.length=k/\Paired (cS H') ps (((fl.zip (xs.zip ys)).map λ p=>(⟨p.2.1,p.2.2,p.1.testBit 0⟩:Pt)).take k),?_,?_,?_,?_⟩
 ·intro H8 h8 s8;exact⟨s8,[],h8,rfl,by rw[List.take_zero];exact .nil⟩
 ·rintro k H' _ ⟨sm,_⟩;exact⟨sm.seq hx,sm.seq hy,sm.seq hf⟩
 ·rintro k x y z H' e0 e1 e2 ⟨sm,ps,h8,hk,cK⟩ T H9 nT hT s9;obtain⟨x',hx',rfl⟩:=mK.mp e0;obtain⟨y',zE,rfl⟩:=mK.mp e1;obtain⟨f',DO,rfl⟩:=lE.mp e2;have tD:k<fl.length:=(bC.mp DO).1;refine mI (.inl (.inl hT)) rfl ?_;refine gV (df (gV (df (gV (df (vb (iA rfl ?_)))))));symm;refine fW (lz (by simp)) λ p wA n10 D0 yY=>?_;have Ks:=yY _ _ (s9 _ _ h8);refine gM Ks (by rw[a_,aL];lia) λ H11 h11 KG=>?_;have aeE:aq H wA:=(sm.trans s9).trans yY;refine⟨KG.same aeE hD,ps++[p],by rw[h11,fF],by rw[bq,hk];rfl,?_⟩;have oC:((fl.zip (xs.zip ys)).map λ p=>(⟨p.2.1,p.2.2,p.1.testBit 0⟩:Pt))[k]?=some ⟨x',y',f'.testBit 0⟩:=by
   rw[fx,(FF (z:=(f',(x',y')))).mpr ⟨DO,(FF (z:=(x',y'))).mpr ⟨hx',zE⟩⟩];rfl
  rw[cA,oC];refine eY (Paired.a8 cK λ a q z=>(z.mono (dC.of (s9.trans yY))).but KG Ks) ?_;have e:cS wA p ⟨x',y',f'.testBit 0⟩:=by show wA p=some _;rw[D0,show Builtin.bitAnd (f':Int) 1=_ from OQ 0 rfl];rfl
  exact e.but KG Ks
 ·rintro H' ⟨sm,ps,h8,hk,cK⟩;have hll:((fl.zip (xs.zip ys)).map λ p=>(⟨p.2.1,p.2.2,p.1.testBit 0⟩:Pt)).length<=fl.length:=by
   rw[aV,rh]
   simp_all
  rw[fE hll]at cK;exact q D ps H' hD sm h8 cK
set_option maxHeartbeats 2000000 in
def VJ(g:aK mg)(tc:aW P w K mg c)(d:Df K mg "told_contours" (top 64) ["data","contour_count"])(uW:Ir)(F1:QW)(ka:yq)(mh:Cw)
  (FN:QV)(Aj:QU)(FT:QT):Iy:=by
 refine d.ef ["data","contour_count","reader","ends","flags","xs","ys","points","x","y","flag"] λ H Q E hr h nN=>?_;obtain⟨d,b,n,rfl,hd,hn,Kb,k1,k2⟩:=h;refine⟨_,(ag (au 2 nN (mY uW hr (aa (pv 0) (aa (aX g.WO) ae)))) (ag (au 3 nN (fP F1 b_ hr (aa (pv 2) (aa (pv 1) ae)))) (ag (cB (De ka b_.pass tc.dM hr (pv 2) (aa (jd mh b_.pass tc.dM hr (pv 2)) ae))) (ag (au 4 nN (fP FN b_ hr (aa (pv 2) (aa (aj aJ (bO (pv 3) (fe fL af)) af) ae)))) (ag (au 5 nN (fP Aj b_ hr (aa (pv 2) (aa (pv 4) (aa (aX g.WL) (aa (aX g.Wj) ae)))))) (ag (au 6 nN (fP Aj b_ hr (aa (pv 2) (aa (pv 4) (aa (aX g.WK) (aa (aX g.Wi) ae)))))) (ag (Nf (i:=7) rfl nN rfl rfl (NT rfl rfl rfl (by decide+kernel)) (Hc rfl g.Ig (aa (pv 5) (aa (pv 6) (aa (pv 4) ae)))) (fX [("x",8),("y",9),("flag",10)]) (λ _ _ _ _ _=>(BI (K:=K) (n:=3) rfl rfl (dm (aT 8 nN) (dm (aT 9 nN) (dm (aT 10 nN) mF))))) (λ _ _ _ _ _=>gH) (λ _ _ _ _ _=>(jw (aa (pv 8) (aa (pv 9) (aa (aj iC (pv 10) (aX g.X8)) ae)))))) (ak (ay (pk FT hr (aa (pv 7) (aa (pv 3) ae)))))))))))),?_⟩;symm;refine NP λ rd H1 n1 h1 s1=>?_;have R1:bP c K H1 rd d b 10:=⟨h1,s1.seq hd⟩;have bad:simple b n=none-> ∀H',az (λ x=>x=rd) H1 H'->E (.ref c.NotWellTold) none H':=λ e H' sx=>k2 e H' (sx.same s1 λ x z=>by rw[z];exact n1);have un:simple b n=if b.length<12+2*n then none else if rising (ff b 10 n)=false\/4096<(ff b 10 n).getLastD 0+1\/b.length<12+2*n+u16 b (10+2*n)then none else
   (flags b ((ff b 10 n).getLastD 0+1+1) ((ff b 10 n).getLastD 0+1) (12+2*n+u16 b (10+2*n))).bind λ f=>(along b 1 4 f.1 0 f.2).bind λ xs=>(along b 2 5 f.1 0 xs.2).map λ ys=>
    contours 0 (ff b 10 n) ((f.1.zip (xs.1.zip ys.1)).map λ p=>⟨p.2.1,p.2.2,p.1.testBit 0⟩):=by
  unfold simple;rw[ai (by lia)];rfl
 symm;refine⟨rd,d,b,10,n,rfl,R1,hn,λ l2 CN ea H2 R2 s2 n2 h2=>?ok,λ z H2 s2=>bad ?no H2 s2⟩
 case no=>
  rw[un];split
  ·rfl
  ·have hz:rising (ff b 10 n)=false:=by
    cases hz:rising (ff b 10 n)
    ·rfl
    ·exact absurd ⟨by lia,hz⟩ z
   rw[ao (.inl hz)]
 have bH:ea≠rd:=λ z=>by rw[z]at n2;obtain⟨dx,hx⟩:=h1;rw[hx]at n2;cases n2
 obtain⟨wm,tm⟩:=R2.ob;have hel:(ff b 10 n).getLastD 0=u16 b (10+2*(n-1)):=by obtain⟨m,rfl⟩: ∃m,n=m+1:=⟨n-1,by lia⟩;rw[Gg];simp
 rw[hel]at un;symm;refine jN R2 (λ l3 H3 R3 b3=>?_) λ l3=>bad (by rw[un,ao (by lia)]) H2 s2;rw[ai (by lia),CN]at un;have s3:=s2.step b3 (.inl rfl);have h3:=b3 _ _ h2 bH;symm;refine Bs R3 rfl (λ l4 H4 R4 b4=>?_) λ l4=>bad (by rw[un,ao (.inr (.inr (by lia)))]) H3 s3;have s4:=s3.step b4 (.inl rfl);have h4:H4 ea=some (.lst (nV (ff b 10 n))):=b4 _ _ h3 bH;have hq4:ah K H4 ea (nV (ff b 10 n)):=ah.of h4;symm;refine bW hq4 (v:= .int ((u16 b (10+2*(n-1)):Nat):Int)) ?_ ?_
 ·obtain⟨m,rfl⟩: ∃m,n=m+1:=⟨n-1,by lia⟩;rw[Gg,xR];exact Z1 _ _
 symm;refine⟨rd,d,b,_,u16 b (10+2*(n-1))+1,by simp,R4,λ fl j hle zQ fa H5 R5 s5 n5 h5=>?ok5,λ z H5 s5=>bad ?Dj H5 (s4.trans s5)⟩
 case Dj=>
  rw[un];split
  ·rfl
  ·rename_i dQ;rcases z with z|z
   ·exact absurd (.inr (.inl (by trivial))) dQ
   ·rw[show 12+2*n+u16 b (10+2*n)=10+2*n+2+u16 b (10+2*n) by simp+arith,z];rfl
 rw[ai (by simp;lia),show 12+2*n+u16 b (10+2*n)=10+2*n+2+u16 b (10+2*n) by lia,zQ]at un;have S1:=s4.trans s5;have nf:fa≠rd:=λ z=>by rw[z]at n5;obtain⟨dx,hx⟩:=R4.ob;rw[hx]at n5;cases n5
 have lf:=BB b _ _ _ _ _ zQ;have J7:ah K H5 fa (nV fl):=ah.of h5;symm;refine⟨rd,d,fa,b,j,1,4,fl,rfl,R5,J7,by lia,λ xs j6 vU xa H6 R6 s6 n6 h6=>?ok6,λ z H6 s6=>bad (by rw[un];show(along b 1 4 fl 0 j).bind _=none;rw[z];rfl) H6 (S1.trans s6)⟩;replace un:simple b n=(along b 2 5 fl 0 j6).map λ ys=>contours 0 (ff b 10 n) ((fl.zip (xs.zip ys.1)).map λ p=>⟨p.2.1,p.2.2,p.1.testBit 0⟩):=by rw[un];show(along b 1 4 fl 0 j).bind _=_;rw[vU];rfl
 have S0:=S1.trans s6;have nx:xa≠rd:=λ z=>by rw[z]at n6;obtain⟨dx,hx⟩:=R5.ob;rw[hx]at n6;cases n6
 have lx:=xO b _ _ _ _ _ _ _ vU;have UD:=s6 _ _ h5 nf;have DE:ah K H6 fa (nV fl):=ah.of UD;symm;refine⟨rd,d,fa,b,j6,2,5,fl,rfl,R6,DE,by lia,λ ys j7 TF ya H7 R7 s7 n7 h7=>?ok7,λ z H7 s7=>bad (by rw[un,z];rfl) H7 (S0.trans s7)⟩;rw[TF]at un;have s7':=S0.trans s7;have ly:=xO b _ _ _ _ _ _ _ TF;have T_:ah K H7 fa (nV fl):=ah.of (s7 _ _ UD nf);have T9:ah K H7 xa (iV xs):=ah.of (s7 _ _ h6 nx);have T8:ah K H7 ya (iV ys):=ah.of h7;symm;refine z3v T9 T8 T_ ?_;have vH:aq H H7:=s7'.same s1 λ x z=>by rw[z];exact n1
 have he7:H7 ea=some (.lst (nV (ff b 10 n))):=s7 _ _ (s6 _ _ (s5 _ _ h4 bH) bH) bH;refine YI T9 T8 T_ lx ly (by lia) λ D ps H' hD sm h8 cK=>?_;symm;exact⟨D,ea,ps,_,ff b 10 n,rfl,h8,cK,ah.of (sm _ _ he7),by rw[MB];lia,CN,λ r H8 s8 out=>k1 _ un r H8 ((vH.trans sm).trans s8) (out.back (vH.trans sm))⟩
noncomputable def lR (r:Addr) (L:Int):List (Str×V):=[("contours",.ref r),("levels",.int L)]
inductive GF(c:Cs)(vs:List V)(H:Hp)(Q:VK)(E:XK):Prop
 |mk (x dx r:Addr) (L:Int):vs=[.ref x,.ref r,.int L]->H x=some (.ins c.Outline dx [])->(∀H',H' x=some (.ins c.Outline dx (lR r L))->bh x H H'->Q .aG H')->GF c vs H Q E
abbrev Cy:=nF P w K mg Ba "Outline" c.Outline ["self","contours","levels"] 1 (GF c)
def Near(q:Pt):Prop:= -16777216<=q.x/\q.x<=16777215/\ -16777216<=q.y/\q.y<=16777215
def Hm(o:Kg15.Outline):Kg15.far o=false↔∀l∈o,∀q∈l,Near q:=by
 unfold Kg15.far Near;rw[rF];constructor
 ·intro h l hl q hq;have h1:=h l hl;rw[Fe,rF]at h1;have h2:=h1 q hq;simp at h2
  grind
 ·intro h l hl;rw[Fe,rF];intro q hq;have:=h l hl q hq;simp
  grind
inductive GG(c:Cs)(vs:List V)(H:Hp)(Q:VK)(E:XK):Prop
 |mk (ca pa r0:Addr) (l:List Pt) (p:Kg15.Part):vs=[.ref ca,.ref pa]->fI H ca l->fb c r0 H pa p->(∀q∈l,Near q)->l.length<=5000->(∀r H',H r=none->aq H H'->fI H' r (l.map p.move)->Q (.ref r) H')->GG c vs H Q E
abbrev Iv:=Kn P w K mg Ba "moved_contour" ["contour","part"] 1 (GG c)
def V5(tc:aW P w K mg c)(d:nI K mg "Outline" c.Outline "Outline.__init__" (inClass (top 91) 0) ["self","contours","levels"]):Cy:=by refine d.ok ["self","contours","levels"] λ H Q E hr h nN=>?_;obtain⟨x,dx,r,L,rfl,hx,k⟩:=h;refine⟨_,(ag (cj tc.pI tc.xB (pv 0) (pv 1)) (ak (cj tc.pI tc.GR (pv 0) (pv 2)))),?_⟩;symm;refine cb (fs':=[("contours",.ref r)]) hx rfl (by simp) λ H1 h1 b1=>?_;symm;refine cb (fs':=lR r L) h1 rfl (by simp) λ H2 h2 b2=>?_;exact k H2 h2 λ b o e n=>b2 b o (b1 b o e n) n
def BE{H:Hp}{Q:VK}{r:Addr}{L:Int}(q: ∀x H1,H x=none->(∃dx,H1 x=some (.ins c.Outline dx (lR r L)))->aq H H1->Q (.ref x) H1):oZ c.Outline (GF c) [.ref r,.int L] H Q:=λ x dx hx iO ne=>
 ⟨x,dx,r,L,rfl,br,λ H' h' b'=>⟨rfl,q x H' hx ⟨dx,h'⟩ (aq.made hx iO b')⟩⟩
def D1{a b c d:V}:eW [a,b,c,d] 0=some a/\eW [a,b,c,d] 1=some b/\eW [a,b,c,d] 2=some c/\eW [a,b,c,d] 3=some d:=⟨rfl,rfl,rfl,rfl⟩
def Yt(z:Int):scaled z=(z+8192)/16384:=by unfold scaled;exact A4 _ (by decide)
set_option maxHeartbeats 1000000 in
def ZF{v0 v1 v8 v9 v10:Option V}{H:Hp}{Q:VK}{ca:Addr}{ps:List Addr}{l:List Pt}{p:Kg15.Part}(qc:ah K H ca (rV ps))(cK:Paired (cS H) ps l)(Ic: ∀q∈l,Near q)(hlen:l.length<=5000)(k: ∀D H',H D=none->aq H H'->fI H' D (l.map p.move)->Q (.ref D) H'):
  nE (jm K ca) (yG K 3 (p_ (eJ 8) (p_ (eJ 9) (p_ (eJ 10) CY)))) vz
   (yt (i7 (dA (fO λ i j=>V.int (i+j)) (dA (rI C2 λ i j=>V.int (i/j)) (dA (fO λ i j=>V.int (i+j)) (dA (fO λ i j=>V.int (i+j)) (dA (rI oF λ i j=>V.int (i*j)) (fH 2) (fH 8)) (dA (rI oF λ i j=>V.int (i*j)) (fH 4) (fH 9))) (tC (V.int 8192))) (tC (V.int 16384))) (fH 6))
    (i7 (dA (fO λ i j=>V.int (i+j)) (dA (rI C2 λ i j=>V.int (i/j)) (dA (fO λ i j=>V.int (i+j)) (dA (fO λ i j=>V.int (i+j)) (dA (rI oF λ i j=>V.int (i*j)) (fH 3) (fH 8)) (dA (rI oF λ i j=>V.int (i*j)) (fH 5) (fH 9))) (tC (V.int 8192))) (tC (V.int 16384))) (fH 7)) (i7 (fH 10) jc))))
   [8,9,10] [v0,v1,some (.int p.a),some (.int p.b),some (.int p.c),some (.int p.d),some (.int p.x),some (.int p.y),v8,v9,v10] H Q:=by
 refine m6 (xs:=rV ps) λ D hD=>⟨λ i H'=>aq H H'/\ ∃rs,H' D=some (.lst (rV rs))/\rs.length=i/\Paired (cS H') rs ((l.map p.move).take i),?_,?_,?_,?_⟩
 ·intro H1 h1 s1;exact⟨s1,[],h1,rfl,.nil⟩
 ·rintro i H' _ ⟨sm,_⟩;exact sm.seq qc
 ·rintro i x H' hx ⟨sm,rs,cE,hi,DH⟩;obtain⟨pt,oU,rfl⟩:=dc.mp hx;obtain⟨q,hq,hP⟩:=Paired.at cK oU;have kO:i<l.length:=(bC.mp hq).1;obtain⟨b1,b2,b3,b4⟩:=Ic q (eG hq);have hP':H' pt=some (.tup [.int q.x,.int q.y,.int (if q.on=true then 1 else 0)]):=sm _ _ hP;refine mI (.inl (.inl hP')) rfl ?_;refine gV (df (gV (df (gV (df (vb (iA rfl ?_)))))));symm;refine fW (lz (by simp)) λ T H2 n2 h2 s2=>?_;refine gM (s2 _ _ cE) (by rw[a_,aL];lia) λ H3 h3 b3=>?_;refine⟨b3.same (sm.trans s2) hD,rs++[T],by rw[h3,fF],by rw[bq,hi];rfl,?_⟩;rw[cA,fx,hq];refine eY (Paired.a8 DH λ a q z=>(z.mono (dC.of s2)).but b3 (s2 _ _ cE)) ?_;have e:cS H2 T (p.move q):=by
   show H2 T=some _;rw[h2];unfold Kg15.Part.move;simp only[Yt]
  exact e.but b3 (s2 _ _ cE)
 ·rintro H' ⟨sm,rs,cE,hi,DH⟩;refine k D H' hD sm ⟨rs,cE,?_⟩;have:(rV ps).length=l.length:=by rw[a_];exact bw cK
  rw[this,fE (by rw[aV];exact aQ _)]at DH;exact DH
set_option maxHeartbeats 1000000 in
def VQ(g:aK mg)(tc:aW P w K mg c)(d:Df K mg "moved_contour" (top 84) ["contour","part"]):Iv:=by refine d.ok ["contour","part","a","b","c","d","right","up","x","y","on"] λ H Q E hr h nN=>?_;obtain⟨ca,pa,r0,l,p,rfl,⟨ps,hc,cK⟩,⟨dx,fa,oa,n1,n2,h1,h2,h3⟩,Ic,hlen,k⟩:=h;refine⟨_,(ag (au 2 nN (bO (aH tc.lB tc.xD (pv 1)) af)) (ag (au 3 nN (bO (aH tc.lB tc.xD (pv 1)) af)) (ag (au 4 nN (bO (aH tc.lB tc.xD (pv 1)) af)) (ag (au 5 nN (bO (aH tc.lB tc.xD (pv 1)) af)) (ag (au 6 nN (bO (aH tc.lB tc.Gp (pv 1)) af)) (ag (au 7 nN (bO (aH tc.lB tc.Gp (pv 1)) af)) (ak (ay (i9 rfl nN (c_ (pv 0)) (fX [("x",8),("y",9),("on",10)]) (λ _ _ _ _ _=>(BI (K:=K) (n:=3) rfl rfl (dm (aT 8 nN) (dm (aT 9 nN) (dm (aT 10 nN) mF))))) (λ _ _ _ _ _=>gH) (λ _ _ _ _ _=>(jw (aa (aj aJ (aj mG (aj aJ (aj aJ (aj aR (pv 2) (pv 8)) (aj aR (pv 4) (pv 9))) (aX g.Pz)) (aX g.Cq)) (pv 6)) (aa (aj aJ (aj mG (aj aJ (aj aJ (aj aR (pv 3) (pv 8)) (aj aR (pv 5) (pv 9))) (aX g.Pz)) (aX g.Cq)) (pv 7)) (aa (pv 10) ae)))))))))))))),?_⟩;unfold vK at h1;have q2:ah K H fa [.int p.a,.int p.b,.int p.c,.int p.d]:=ah.of h2;have q3:ah K H oa [.int p.x,.int p.y]:=ah.of h3;have qc:ah K H ca (rV ps):=ah.of hc;symm;refine bW q2 D1.1 ?_;symm;refine bW q2 D1.2.1 ?_;symm;refine bW q2 D1.2.2.1 ?_;symm;refine bW q2 D1.2.2.2 ?_;symm;refine bW q3 (v:= .int p.x) rfl ?_;symm;refine bW q3 (v:= .int p.y) rfl ?_;symm;exact ZF qc cK Ic hlen λ D H' hD sm hct=>k D H' hD sm hct
inductive O8(vs:List V)(H:Hp)(Q:VK)(E:XK):Prop
 |mk (r:Addr) (o:Kg15.Outline):vs=[.ref r]->kG H r o->o.length<=100000->(∀H',aq H H'->Q (.int (count o:Nat)) H')->O8 vs H Q E
abbrev Iu:=Kn P w K mg Ba "point_count" ["contours"] 1 O8
def Wb(g:aK mg)(tc:aW P w K mg c)(d:Df K mg "point_count" (top 96) ["contours"]):Iu:=by
 refine d.ok ["contours","contour"] λ H Q E hr h nN=>?_;obtain⟨r,o,rfl,⟨cs,aO,cK⟩,hz,k⟩:=h;have q1:ah K H r (rV cs):=ah.of aO;refine⟨_,(ak (ay (fV (aaX (K:=K) rfl rfl) rfl g.aew boot_sum (aa (i9 rfl nN (c_ (pv 0)) (fX [("contour",1)]) (λ _ _ _ _ _=>(aT 1 nN)) (λ _ _ _ _ _=>gH) (λ _ _ _ _ _=>(bX (aaG (K:=K) rfl) g.bS (aa (pv 1) ae)))) ae)))),?_⟩;symm;refine m6 (xs:=rV cs) λ D hD=>⟨λ i H'=>aq H H'/\H' D=some (.lst (iV (((o.map List.length).take i).map λ(n:Nat)=>(n:Int)))),?_,?_,?_,?_⟩
 ·intro H1 h1 s1;exact⟨s1,h1⟩
 ·rintro i H' _ ⟨sm,_⟩;exact sm.seq q1
 ·rintro i x H' hx ⟨sm,cE⟩;obtain⟨pt,oU,rfl⟩:=dc.mp hx;obtain⟨l,hl,ps,hc,hP⟩:=Paired.at cK oU;have kO:i<o.length:=(bC.mp hl).1;have qc:ah K H' pt (rV ps):=ah.of (sm _ _ hc);refine df (iA rfl ?_);symm;refine gM cE (by rw[bG,aV,gC,aL];grind) λ H3 h3 b3=>⟨b3.same sm hD,?_⟩;rw[h3,cA,fx,hl,fw,gK,bw hP];rfl
 ·rintro H' ⟨sm,cE⟩;refine⟨D,_,rfl,ah.of cE,?_⟩;refine qi (k H' sm) ?_;rw[a_,bw cK,fE (by rw[aV];exact aQ _)];unfold count;generalize o.map List.length=L
  induction L with
  |nil=>rfl
  |cons a r ih=>rw[cF,kZ,kZ,ih];rfl
inductive O1(c:Cs)(vs:List V)(H:Hp)(Q:VK)(E:XK):Prop
 |mk (r:Addr) (o:Kg15.Outline):vs=[.ref r]->kG H r o->(Kg15.far o=false->Q .aG H)->(Kg15.far o=true->E (.ref c.NotWellTold) none H)->O1 c vs H Q E
abbrev Iw:=cn P w K mg Ba c.NotWellTold "require_in_range" ["contours"] 1 (O1 c)
def Vh(g:aK mg)(tc:aW P w K mg c)(d:Df K mg "require_in_range" (top 97) ["contours"]):Iw:=by
 refine d.ef ["contours","contour","x","y","on"] λ H Q E hr h nN=>?_;obtain⟨r,o,rfl,⟨cs,aO,cK⟩,k1,k2⟩:=h;have q1:ah K H r (rV cs):=ah.of aO;have bad:(¬∀l∈o,∀q∈l,Near q)->E (.ref c.NotWellTold) none H:=λ z=>k2 (by
  cases hf:Kg15.far o
  ·exact absurd ((Hm o).mp hf) z
  ·rfl)
 refine⟨_,(ak (sU n_ (c_ (pv 0)) (aT 1 nN) (ak (sU n_ (c_ (pv 1)) (rS rfl (dm (aT 2 nN) (dm (aT 3 nN) (dm (aT 4 nN) mF)))) (ak (aI (iB (PW.pt (vc (Bx d9 d9 (aX g.NH) (pv 2) (aX g.MH)) (uY (Bx d9 d9 (aX g.NH) (pv 3) (aX g.MH)))))) (ak (kq rfl kC tc.jK rfl (aa du ae))) aM)))))),?_⟩;symm;refine L2.Rd.fl (xs:=rV cs) (λ i σ H'=>mf (H'=H) (∃v1 v2 v3 v4,σ=[some (.ref r),v1,v2,v3,v4]) (∀l∈o.take i,∀q∈l,Near q)) ?_ ?_ ?_ ?_
 ·exact⟨rfl,⟨_,_,_,_,rfl⟩,λ l hl=>by simp at hl⟩
 ·rintro i σ H' _ ⟨rfl,_⟩;exact q1
 ·rintro i x σ H' hx ⟨rfl,⟨v1,v2,v3,v4,rfl⟩,jz⟩;obtain⟨ca,gx,rfl⟩:=dc.mp hx;obtain⟨l,hl,ps,hc,hP⟩:=Paired.at cK gx;have qc:ah K H' ca (rV ps):=ah.of hc;symm;refine zY (xs:=rV ps) (λ j σ kT=>kT=H'/\(∃v2 v3 v4,σ=[some (.ref r),some (.ref ca),v2,v3,v4])/\ ∀q∈l.take j,Near q) ?_ ?_ ?_ ?_
  ·exact⟨rfl,⟨_,_,_,rfl⟩,λ q hq=>by simp at hq⟩
  ·rintro j σ kT _ ⟨rfl,_⟩;exact qc
  ·rintro j y σ kT hy ⟨rfl,⟨v2,v3,v4,rfl⟩,fK⟩;obtain⟨pt,oU,rfl⟩:=dc.mp hy;obtain⟨q,hq,Kp⟩:=Paired.at hP oU;refine mI (.inl (.inl Kp)) rfl ?_;have no: ¬Near q->E (.ref c.NotWellTold) none kT:=λ z=>bad λ w=>z (w l (eG hl) q (eG hq));unfold Near at no
   nofun
   all_goals first
    |exact no (by lia)
    |(refine⟨rfl,⟨_,_,_,rfl⟩,?_⟩
      intro q' oS;rw[cA,hq]at oS;rcases bJ.mp oS with z|z
      ·exact fK q' z
      ·simp at z;subst z;unfold Near;trivial)
  ·rintro σ kT ⟨rfl,⟨v2,v3,v4,rfl⟩,fK⟩;refine⟨rfl,⟨_,_,_,_,rfl⟩,?_⟩;rw[a_,bw hP,jM]at fK;intro l' iM;rw[cA,hl]at iM;rcases bJ.mp iM with z|z
   ·exact jz l' z
   ·simp at z;subst z;exact fK
 ·rintro σ H' ⟨rfl,⟨v1,v2,v3,v4,rfl⟩,jz⟩;symm;rw[a_,bw cK,jM]at jz;exact k1 ((Hm o).mpr jz)
theorem Bt(o:Kg15.Outline):(told o).length=o.length+3*count o:=by
 unfold told count
 induction o with
 |nil=>rfl
 |cons l r ih=>
  rw[ux,bq,ih,cF,kZ,dX,dX];have: ∀l:List Pt,(l.flatMap λ p=>[p.x,p.y,if p.on=true then 1 else 0]).length=3*l.length:=by
   intro l
   induction l with
   |nil=>rfl
   |cons a r ih=>rw[ux,bq,ih,dX];simp;exact rg _ _
  rw[this];simp+arith
theorem Nw(l:List Pt):(l.flatMap λ p=>[p.x,p.y,if p.on=true then 1 else 0]).length=3*l.length:=by
 induction l with
 |nil=>rfl
 |cons a r ih=>rw[ux,bq,ih,dX];simp;lia
def Bo(a b:Kg15.Outline):count (a++b)=count a+count b:=by unfold count;rw[fw,E7]
def X6(o:Kg15.Outline)(i:Nat):(o.take i).length+3*count (o.take i)<=o.length+3*count o:=by
 have e:o=o.take i++o.drop i:=(nS i o).symm;have h1:count o=count (o.take i)+count (o.drop i):=by rw[<- Bo,<- e]
 have h2:(o.take i).length<=o.length:=by rw[gC];lia
 lia
inductive N3(vs:List V)(H:Hp)(Q:VK)(E:XK):Prop
 |mk (r:Addr) (o:Kg15.Outline):vs=[.ref r]->kG H r o->o.length+3*count o<=1000000->(∀p H',H p=none->aq H H'->H' p=some (.lst (iV (told o)))->Q (.ref p) H')->N3 vs H Q E
abbrev Ri:=Kn P w K mg Ba "outline_numbers" ["contours"] 1 N3
def Vp(g:aK mg)(tc:aW P w K mg c)(d:Df K mg "outline_numbers" (top 98) ["contours"]):Ri:=by
 refine d.ok ["contours","numbers","contour","point"] λ H Q E hr h nN=>?_;obtain⟨r,o,rfl,⟨cs,aO,cK⟩,hz,k⟩:=h;have q1:ah K H r (rV cs):=ah.of aO;refine⟨_,(ag (au 1 nN (bo ae)) (ag (fJ (c_ (pv 0)) (aT 2 nN) (ag (cB (gU (pv 1) (aa (bX bZ g.bS (aa (pv 2) ae)) ae))) (ak (fJ (c_ (pv 2)) (aT 3 nN) (ak (cB (Cb AE AO F.type_list_extend aaJ (pv 1) (aa (pv 3) ae)))))))) (ak (ay (pv 1))))),?_⟩;symm;refine aZ (lz (by simp)) λ n H1 n1 h1 s1=>?_;have q1':=s1.seq q1;symm;refine L2.Rd.fl (xs:=rV cs) (λ i σ H'=>mf (aq H H') (∃v1 v2,σ=[some (.ref r),some (.ref n),v1,v2]) (H' n=some (.lst (iV (told (o.take i)))))) ?_ ?_ ?_ ?_
 ·exact⟨s1,⟨_,_,rfl⟩,h1⟩
 ·rintro i σ H' _ ⟨sm,_⟩;exact sm.seq q1
 ·rintro i x σ H' hx ⟨sm,⟨v1,v2,rfl⟩,qP⟩;obtain⟨ca,gx,rfl⟩:=dc.mp hx;obtain⟨l,hl,ps,hc,hP⟩:=Paired.at cK gx;have hlen: ∀i,(told (o.take i)).length<=1000000:=λ i=>by
   rw[Bt];have:=X6 o i;exact bY ‹_› ‹_›
  have DN:(told (o.take (i+1))).length=(told (o.take i)).length+1+3*l.length:=by
   rw[cA,hl];unfold told;rw[rH,bq];simp only[Option.toList_some,ux,List.flatMap_nil,cG,dX,Nw]
   lia
  have qc:ah K H' ca (rV ps):=ah.of (sm _ _ hc);symm;refine d8 qP (by rw[bG,aL];have:=hlen i;exact nP ‹_› (by decide)) λ H2 h2 b2=>?_;have eQ:aq H H2:=b2.same sm n1;have S8:ah K H2 ca (rV ps):=ah.of (eQ _ _ hc);symm;refine L2.Rd.fl (xs:=rV ps) (λ j σ kT=>aq H kT/\(∃v2,σ=[some (.ref r),some (.ref n),some (.ref ca),v2])/\kT n=some (.lst (iV (told (o.take i)++(l.length:Int)::(l.take j).flatMap λ p=>[p.x,p.y,if p.on=true then 1 else 0])))) ?_ ?_ ?_ ?_
  ·refine⟨eQ,⟨_,rfl⟩,?_⟩;rw[h2,gK,bw hP];rfl
  ·rintro j σ kT _ ⟨vI,_⟩;exact ah.of (vI _ _ hc)
  ·rintro j y σ kT hy ⟨vI,⟨v3,rfl⟩,CP⟩;obtain⟨pt,oU,rfl⟩:=dc.mp hy;obtain⟨q,hq,Kp⟩:=Paired.at hP oU;have afE:kT pt=some (.tup [.int q.x,.int q.y,.int (if q.on=true then 1 else 0)]):=vI _ _ Kp;symm;refine abR CP afE ?_ λ H3 h3 b3=>?_
   ·rw[bG,bq,dX,Nw,gC,aL];have:=hlen (i+1);have hj:j<l.length:=(bC.mp hq).1;show _+3<=_
    grind
   ·symm;refine⟨b3.same vI n1,⟨_,rfl⟩,?_⟩;rw[h3];show some (HO.lst (iV _++iV [q.x,q.y,if q.on=true then 1 else 0]))=_;rw[<- gK,cA,hq,rH,gE,fU];rfl
  ·rintro σ kT ⟨vI,⟨v3,rfl⟩,CP⟩;refine⟨vI,⟨_,_,rfl⟩,?_⟩;rw[a_,bw hP,jM]at CP;rw[CP,cA,hl];unfold told;rw[rH];simp
 ·rintro σ H' ⟨sm,⟨v1,v2,rfl⟩,qP⟩;symm;rw[a_,bw cK,jM]at qP;exact k n H' n1 sm qP
local macro_rules|`(tactic|walk_at "1")=>`(tactic|first
 |(with_reducible first|refine adt ?_|refine Zq ?_|refine adO ?_|refine aaf ?_|refine abT ?_)
 |((with_reducible refine' adM ?a ?_);(case a=>walk_at "i"))
 |((with_reducible refine' abU ?a ?_);(case a=>walk_at "i")))
local macro_rules|`(tactic|walk_at "1")=>`(tactic|((with_reducible first|refine' aal ?a ?b ?c ?_|refine' Zn ?a ?b ?c ?_);(case a|b|c=>walk_at "e")))
def kA(c:Cs)(A:Addr->Prop)(H:Hp)(a:Addr)(o:Kg15.Outline)(L:Nat):Prop:=∃dx r,H a=some (.ins c.Outline dx (lR r L))/\iE A H r o
def fo(c:Cs)(A:Addr->Prop)(H:Hp)(f:Kg15.Font)(kn:Addr):Prop:=∃kvs,wG (H kn=some (.dK kvs)) ((kvs.map (·.1)).Nodup) (∀kv∈kvs,∃g:Nat,g<f.glyphs/\kv.1= .inl (g:Int)) (∀(g:Nat)v,aE kvs (.inl (g:Int))=some v-> ∃oa o L,v= .ref oa/\kA c A H oa o L/\Told f g o L)
inductive sf(c:Cs)(n:Nat)(vs:List V)(H:Hp)(Q:VK)(E:XK):Prop
 |mk (fa kn:Addr) (g:Nat) (f:Kg15.Font) (A:Addr->Prop):vs=[.ref fa,.int g,.int (9-(n:Int)),.ref kn]->d0 c H fa f->g<f.glyphs->fo c A H f kn->(∀a,A a->H a≠none/\a≠kn)->(∀o L,f.outline n g=some o->Told f g o L-> ∀oa H',az (λ x=>x=kn) H H'->fo c A H' f kn->kA c A H' oa o L->Q (.ref oa) H')->(f.outline n g=none-> ∀H',az (λ x=>x=kn) H H'->E (.ref c.NotWellTold) none H')->sf c n vs H Q E
inductive G8(c:Cs)(n:Nat)(vs:List V)(H:Hp)(Q:VK)(E:XK):Prop
 |mk (fa pl kn r0:Addr) (f:Kg15.Font) (ps:List Addr) (l:List Kg15.Part) (A:Addr->Prop):vs=[.ref fa,.ref pl,.int (8-(n:Int)),.ref kn]->d0 c H fa f->fo c A H f kn->(∀a,A a->H a≠none/\a≠kn)->H pl=some (.lst (rV ps))->Paired (fb c r0 H) ps l->(∀o L,l.foldl (gL f n) (some [])=some o->j8 f l 1 L-> ∀oa H',az (λ x=>x=kn) H H'->fo c A H' f kn->kA c A H' oa o L->Q (.ref oa) H')->(l.foldl (gL f n) (some [])=none-> ∀H',az (λ x=>x=kn) H H'->E (.ref c.NotWellTold) none H')->G8 c n vs H Q E
def kA.same{A:Addr->Prop}{H H':Hp}{a:Addr}{o:Kg15.Outline}{L:Nat}(h:kA c A H a o L)(s:aq H H'):kA c A H' a o L:=by obtain⟨dx,r,h1,h2⟩:=h;exact⟨dx,r,s _ _ h1,h2.mono (dC.of s)⟩
def dC.dk{H H':Hp}{l:Addr}{kvs:List (Key×V)}(x:az (λ x=>x=l) H H')(h:H l=some (.dK kvs)):dC H H':=⟨λ b xs e=>fZ x h e (by intro z;cases z),λ b xs e=>fZ x h e (by intro z;cases z)⟩
theorem kA.dk{A:Addr->Prop}{H H':Hp}{a l:Addr}{o:Kg15.Outline}{L:Nat}{kvs:List (Key×V)}(h:kA c A H a o L)(x:az (λ x=>x=l) H H')(hl:H l=some (.dK kvs)):kA c A H' a o L:=by obtain⟨dx,r,h1,h2⟩:=h;exact⟨dx,r,fZ x hl h1 (by intro z;cases z),h2.mono (dC.dk x hl)⟩
def fb.dk{r a l:Addr}{H H':Hp}{p:Kg15.Part}{kvs:List (Key×V)}(h:fb c r H a p)(x:az (λ x=>x=l) H H')(hl:H l=some (.dK kvs)):fb c r H' a p:=by obtain⟨dx,fa,oa,n1,n2,h1,h2,h3⟩:=h;exact⟨dx,fa,oa,n1,n2,fZ x hl h1 (by intro z;cases z),fZ x hl h2 (by intro z;cases z),fZ x hl h3 (by intro z;cases z)⟩
theorem fo.same{A:Addr->Prop}{H H':Hp}{f:Kg15.Font}{kn:Addr}(h:fo c A H f kn)(s:aq H H'):fo c A H' f kn:=by
 obtain⟨kvs,h1,h2,h3,h4⟩:=h;exact⟨kvs,s _ _ h1,h2,h3,λ g v e=>by obtain⟨oa,o,L,e1,e2,e3⟩:=h4 g v e;exact⟨oa,o,L,e1,e2.same s,e3⟩⟩
def fo.len{H:Hp}{f:Kg15.Font}{kvs:List (Key×V)}(G:Good f)(nd:(kvs.map (·.1)).Nodup)(h: ∀kv∈kvs,∃g:Nat,g<f.glyphs/\kv.1= .inl (g:Int)):kvs.length<sizeLine:=by
 have:=jO f.glyphs kvs nd h;have:=G.gl;rw[aL]
 lia
theorem Bw{kvs:List (Key×V)}{k:Key}{v:V}:(aE kvs k=none/\putK kvs k v=kvs++[(k,v)])\/(k∈kvs.map (·.1)/\(putK kvs k v).map (·.1)=kvs.map (·.1)):=by
 cases e:aE kvs k with
 |none=>exact .inl ⟨rfl,Nd v e⟩
 |some x=>
  refine .inr ⟨Z3 e,?_⟩;unfold putK;rw[mB,e];rw[ao (show(some x).isSome=true from rfl),jo];apply k_;intro a _;show(if a.1=k then(a.1,v)else a).1=a.1;split<;>rfl
def fo.put{A:Addr->Prop}{H H':Hp}{f:Kg15.Font}{kn oa:Addr}{g L:Nat}{o:Kg15.Outline}{kvs:List (Key×V)}(hg:g<f.glyphs)(h1:H kn=some (.dK kvs))(nd:(kvs.map (·.1)).Nodup)(hk: ∀kv∈kvs,∃g:Nat,g<f.glyphs/\kv.1= .inl (g:Int))
  (hv: ∀(g:Nat)v,aE kvs (.inl (g:Int))=some v-> ∃oa o L,v= .ref oa/\kA c A H oa o L/\Told f g o L)(b:bh kn H H')(h2:H' kn=some (.dK (putK kvs (.inl (g:Int)) (.ref oa))))(ho:kA c A H oa o L)(ht:Told f g o L):fo c A H' f kn:=by
 refine⟨_,h2,?_,?_,?_⟩
 ·rcases Bw (kvs:=kvs) (k:= .inl (g:Int)) (v:= .ref oa)with⟨e,_⟩|⟨_,e⟩
  ·exact Oy _ nd e
  ·rw[e];exact nd
 ·intro kv gb;rcases Bw (kvs:=kvs) (k:= .inl (g:Int)) (v:= .ref oa)with⟨_,e⟩|⟨_,e⟩
  ·rw[e]at gb;rcases bJ.mp gb with z|z
   ·exact hk kv z
   ·simp at z;subst z;exact⟨g,hg,rfl⟩
  ·have:kv.1∈kvs.map (·.1):=by rw[<- e];exact bF.mpr ⟨kv,gb,rfl⟩
   obtain⟨ic,h3,h4⟩:=bF.mp this;obtain⟨g',h5,h6⟩:=hk ic h3;exact⟨g',h5,by rw[<- h4];exact h6⟩
 ·intro g' v e;rw[iw]at e;split at e
  ·rename_i z;have:g'=g:=by have:=wM z;exact uk ‹_›
   subst this;cases e;exact⟨oa,o,L,rfl,ho.dk b.x h1,ht⟩
  ·obtain⟨oa',o',L',e1,e2,e3⟩:=hv g' v e;exact⟨oa',o',L',e1,e2.dk b.x h1,e3⟩
theorem fo.plus{A:Addr->Prop}{H:Hp}{f:Kg15.Font}{kn p:Addr}(h:fo c A H f kn)(n:H p=none):fo c (λ a=>A a\/a=p) H f kn:=by obtain⟨kvs,h1,h2,h3,h4⟩:=h;refine⟨kvs,h1,h2,h3,λ g v e=>?_⟩;obtain⟨oa,o,L,e1,⟨dx,r,e2,e3⟩,e4⟩:=h4 g v e;exact⟨oa,o,L,e1,⟨dx,r,e2,e3.plus n⟩,e4⟩
theorem fo.weak{A A':Addr->Prop}{H:Hp}{f:Kg15.Font}{kn:Addr}(h:fo c A H f kn)(s: ∀a,A' a->A a):fo c A' H f kn:=by obtain⟨kvs,h1,h2,h3,h4⟩:=h;refine⟨kvs,h1,h2,h3,λ g v e=>?_⟩;obtain⟨oa,o,L,e1,⟨dx,r,e2,e3⟩,e4⟩:=h4 g v e;exact⟨oa,o,L,e1,⟨dx,r,e2,e3.weak s⟩,e4⟩
theorem fo.but{A:Addr->Prop}{H H1:Hp}{f:Kg15.Font}{kn p:Addr}{xs:List V}(h:fo c A H f kn)(b:bh p H H1)(hp:H p=some (.lst xs))(ha:A p):fo c A H1 f kn:=by
 obtain⟨kvs,h1,h2,h3,h4⟩:=h;have nk:kn≠p:=λ z=>by rw[z,hp]at h1;cases h1
 refine⟨kvs,b _ _ h1 nk,h2,h3,λ g v e=>?_⟩;obtain⟨oa,o,L,e1,⟨dx,r,e2,e3⟩,e4⟩:=h4 g v e;exact⟨oa,o,L,e1,⟨dx,r,b _ _ e2 λ z=>(by rw[z,hp]at e2;cases e2),e3.but b hp ha⟩,e4⟩
def K4(g:aK mg)(tc:aW P w K mg c)(d:Df K mg "outline_at" (top 93) ["font","glyph","level","known"]){n k:Nat}(hn:n<=8)(WJ:cn P w K mg Ba c.NotWellTold "new_outline" ["font","glyph","level","known"] k (λ vs H Q E=>0<n/\sf c n vs H Q E)):cn P w K mg Ba c.NotWellTold "outline_at" ["font","glyph","level","known"] (k+1) (sf c n):=by
 refine d.ef ["font","glyph","level","known","outline"] λ H Q E hr h nN=>?_;obtain⟨fa,kn,gl,f,Av,rfl,F,hg,qM,hA,k1,k2⟩:=h;obtain⟨kvs,hk,nd,agb,IM⟩:=id qM;refine⟨_,(ag (aI (aB dO (pv 2) (aX g.K8)) (ak (kq rfl kC tc.jK rfl (aa du ae))) aM) (ag (aI (vd (Yy (cR hr) (pv 1) (pv 3)) (by with_unfolding_all rfl)) (ak (uZ (cR hr) (pv 3) (pv 1) (fP WJ b_ hr (aa (pv 0) (aa (pv 1) (aa (pv 2) (aa (pv 3) ae))))) rfl)) aM) (ag (au 4 nN (gk (cR hr) (pv 3) (pv 1) (λ _ _=>rfl))) (ag (aI (aB dO (aj cJ (aj aJ (pv 2) (aH tc.pI tc.GR (pv 4))) af) (aX g.K8)) (ak (kq rfl kC tc.jK rfl (aa du ae))) aM) (ak (ay (pv 4))))))),?_⟩
 nofun
 ·rename_i c1;refine k2 ?_ H az.refl;rw[show n=0 by lia];rfl
 ·rename_i c1 c2;refine⟨by lia,fa,kn,gl,f,Av,rfl,F,hg,qM,hA,λ o L ho ht oa H1 s1 lT kK=>?_,k2⟩;obtain⟨afh,wa,Tr,Po,aef⟩:=lT
  nofun
  refine lF wa (fo.len (H:=H1) F.good Tr Po) λ H2 DM b2=>?_;have Dp:fo c Av H2 f kn:=fo.put hg wa Tr Po aef b2 DM kK ht;have RI:kA c Av H2 oa o L:=kK.dk b2.x wa;obtain⟨dx,r,vX,di⟩:=id RI;unfold lR at vX
  nofun
  refine Qo DM (v:= .ref oa) (by rw[iw,ao rfl]) ?_;have hL:=(ht.le ho).1
  nofun
  ·rename_i c3;exact absurd c3 (by lia)
  ·exact k1 o L ho ht oa H2 (s1.trans b2.x) Dp RI
 ·rename_i c1 c2;cases e:aE kvs (.inl (gl:Int))with
  |none=>rw[e]at c2;cases c2
  |some v=>
   obtain⟨oa,o,L,rfl,kK,ht⟩:=IM gl v e;obtain⟨dx,r,vX,di⟩:=id kK;unfold lR at vX;refine Qo hk e ?_
   nofun
   ·rename_i c3;exact k2 (ht.2 n (by lia)) H az.refl
   ·rename_i c3;exact k1 o L (ht.1 n (by lia)) ht oa H az.refl qM kK
theorem XN{f:Kg15.Font}{g:Nat}(h:f.glyphs<=g): ∀k,f.outline k g=none
 |0=>rfl
 |k+1=>by rw[rB,ao h]
def acu{v0 v1 v2 v3 v4 v5 v6 v8 v9:Option V}{H:Hp}{Q:VK}{rq pa r0:Addr}{cs:List Addr}{q:Kg15.Outline}{p:Kg15.Part}(hq:H rq=some (.lst (rV cs)))(cK:Paired (fI H) cs q)(hp:fb c r0 H pa p)(hs:Small q)(hf:Kg15.far q=false)
  (k: ∀D ms H',H D=none->aq H H'->H' D=some (.lst (rV ms))->Paired (λ a l=>H a=none/\fI H' a l) ms (q.map λ l=>l.map p.move)->Q (.ref D) H'):
  nE (jm K rq) (eJ 9) vz (tK (GG c) (i7 (fH 9) (i7 (fH 7) jc))) [9] [v0,v1,v2,v3,v4,v5,v6,some (.ref pa),v8,v9] H Q:=by
 have hlen:=hs.len;have h46:=hs.2;refine m6 (xs:=rV cs) λ D hD=>⟨λ i H'=>aq H H'/\ ∃ms,H' D=some (.lst (rV ms))/\ms.length=i/\Paired (λ a l=>(a≠D/\H a=none)/\fI H' a l) ms ((q.map λ l=>l.map p.move).take i),?_,?_,?_,?_⟩
 ·intro H1 h1 s1;exact⟨s1,[],h1,rfl,.nil⟩
 ·rintro i H' _ ⟨sm,_⟩;exact ah.of (sm _ _ hq)
 ·rintro i x H' hx ⟨sm,ms,cE,hi,DI⟩;obtain⟨ca,gx,rfl⟩:=dc.mp hx;obtain⟨l,hl,ct⟩:=Paired.at cK gx;have kO:i<q.length:=(bC.mp hl).1;have Ul:=eG hl;have jG:l.length<=5000:=by
   have: ∀(o:Kg15.Outline),l∈o->l.length<=count o:=by
    intro o ho
    induction o with
    |nil=>cases ho
    |cons a b ih=>
     rw[count_cons];rcases bV.mp ho with rfl|ho
     ·simp
     ·have:=ih ho;lia
   have:=this q Ul
   lia
  refine df (iA rfl ?_);symm;refine⟨ca,pa,r0,l,p,rfl,ct.mono (dC.of sm),hp.same sm,(Hm q).mp hf l Ul,jG,λ T H2 n2 s2 ct2=>?_⟩;have nD:T≠D:=(cC cE n2).symm;have nr:H T=none:=sm.free n2;refine gM (s2 _ _ cE) (by rw[a_,aL];lia) λ H3 h3 b3=>?_;refine⟨b3.same (sm.trans s2) hD,ms++[T],by rw[h3,fF],by rw[bq,hi];rfl,?_⟩;rw[cA,fx,hl];exact eY (Paired.a8 DI λ a q z=>⟨z.1,(z.2.mono (dC.of s2)).but b3 (s2 _ _ cE) z.1.1⟩) ⟨⟨nD,nr⟩,ct2.but b3 (s2 _ _ cE) nD⟩
 ·rintro H' ⟨sm,ms,cE,hi,DI⟩;refine k D ms H' hD sm cE ?_;have:(rV cs).length=q.length:=by rw[a_];exact bw cK
  rw[this,fE (by rw[aV];exact aQ _)]at DI;exact Paired.a8 DI λ _ _ z=>⟨z.1.2,z.2⟩
set_option maxHeartbeats 1000000 in
def Vl(g:aK mg)(tc:aW P w K mg c)(d:Df K mg "composed_outline" (top 95) ["font","parts","level","known"]){n k:Nat}(hn:n<=7)(wa:1<=k)(FP:cn P w K mg Ba c.NotWellTold "outline_at" ["font","glyph","level","known"] k (sf c n))(iW:vt)(uc:Iv)
  (uf:Iu)(lp:Cy):cn P w K mg Ba c.NotWellTold "composed_outline" ["font","parts","level","known"] (k+2) (G8 c n):=by
 refine d.ef ["font","parts","level","known","contours","points","levels","part","inner","contour"] λ H Q E hr h nN=>?_;obtain⟨fa,pl,kn,r0,f,ps,l,Av,rfl,F,qM,hA,bz,lX,k1,k2⟩:=h;obtain⟨age,CT,_⟩:=id qM;refine⟨_,(ag (au 4 nN (bo ae)) (ag (au 5 nN af) (ag (au 6 nN af) (ag (sU n_ (c_ (pv 1)) (aT 7 nN) (ag (aI (iB (gJ (pk iW hr (aa (pv 0) (aa (aH tc.lB tc.He (pv 7)) ae))))) (ak (kq rfl kC tc.jK rfl (aa du ae))) aM) (ag (au 8 nN (fP FP b_ hr (aa (pv 0) (aa (aH tc.lB tc.He (pv 7)) (aa (aj aJ (pv 2) af) (aa (pv 3) ae)))))) (ag (jQ 5 nN (pk uf hr (aa (aH tc.pI tc.xB (pv 8)) ae)) kx) (ag (aI (aB dO (pv 5) (aX g.K7)) (ak (kq rfl kC tc.jK rfl (aa du ae))) aM) (ag (cB (nX (pv 4) (aa (i9 rfl nN (c_ (aH tc.pI tc.xB (pv 8))) (fX [("contour",9)]) (λ _ _ _ _ _=>(aT 9 nN)) (λ _ _ _ _ _=>gH) (λ _ _ _ _ _=>(pk uc hr (aa (pv 9) (aa (pv 7) ae))))) ae))) (ak (au 6 nN (fV (BL rfl) rfl g.qj ph (aa (pv 6) (aa (aj aJ (aH tc.pI tc.GR (pv 8)) af) ae))))))))))) (ak (ay (mY lp hr (aa (pv 4) (aa (pv 6) ae))))))))),?_⟩;symm;refine aZ (lz (by simp)) λ r H1 n1 h1 s1=>?_;have agj:ah K H1 pl (rV ps):=ah.of (s1 _ _ bz);have Ti:r≠kn:=(cC CT n1).symm;have al: ∀H' xs,az (λ x=>x=kn) H H'->H' r=some (.lst xs)-> ∀a,(Av a\/a=r)->H' a≠none/\a≠kn:=λ H' xs sx aO a ha=>by
  rcases ha with ha|ha
  ·obtain⟨h1,h2⟩:=hA a ha;refine⟨?_,h2⟩;cases e:H a with
   |none=>exact absurd e h1
   |some u=>rw[sx _ _ e h2];simp
  ·rw[ha,aO];exact⟨by simp,Ti⟩
 symm;refine L2.Rd.fl (xs:=rV ps) (λ i σ H'=>KS λ(oi:Kg15.Outline)(cs:List Addr)(Lv:Nat)(v1 v2 v3:Option V)=>o_ (σ=[some (.ref fa),some (.ref pl),some (.int (8-(n:Int))),some (.ref kn),some (.ref r),some (.int (count oi:Nat)),some (.int (Lv:Int)),v1,v2,v3]) (az (λ x=>x=kn) H H') (fo c (λ a=>Av a\/a=r) H' f kn) (H' r=some (.lst (rV cs))) (Paired (λ a l=>¬(Av a\/a=r)/\fI H' a l) cs oi) (l.foldl (gL f n) (some [])=(l.drop i).foldl (gL f n) (some oi)) (∀L,j8 f (l.drop i) Lv L->j8 f l 1 L) (Small oi)) ?_ ?_ ?_ ?_
 ·exact⟨[],[],1,none,none,none,rfl,az.of s1,(qM.plus n1).same s1,h1,.nil,by simp,λ L h=>by simpa using h,⟨λ _ hc=>(by cases hc),cP _⟩⟩
 ·rintro i σ H' _ ⟨oi,cs,Lv,v1,v2,v3,rfl,sx,_⟩;exact ah.of (fZ sx CT bz (by intro z;cases z))
 ·rintro i x σ H' hx ⟨oi,cs,Lv,v1,v2,v3,rfl,sx,lT,aO,gf,mS,yE,Dw⟩;obtain⟨pa,tq,rfl⟩:=dc.mp hx;obtain⟨p,hp,tu⟩:=Paired.at lX tq;have RW:=tu.dk sx CT;have F':=F.dk sx CT;obtain⟨afh,R8,_⟩:=id lT;rw[drop_cons hp,gT]at mS;obtain⟨dxp,fap,oap,np1,np2,hpo,_,_⟩:=id RW;unfold vK at hpo;symm;refine⟨fa,_,f,rfl,F',?_⟩
  nofun
  ·rename_i c1;refine k2 ?_ H' sx;rw[mS,rO (XN (by simp at c1;trivial) n),iX]
  ·rename_i c1;have J8:p.glyph<f.glyphs:=by simp at c1;trivial
   refine⟨fa,kn,p.glyph,f,_,by rw[show(8:Int)-n+1=9-n by lia],F',J8,lT,al H' _ sx aO,λ q Lq hq ht oa H2 s2 Dp kK=>?_,λ dQ H2 s2=>k2 (by rw[mS,rO dQ,iX]) H2 (sx.trans s2)⟩;have gP:=sx.trans s2;have di:H2 r=some (.lst (rV cs)):=s2 _ _ aO Ti;have zH:=Ah f n _ _ hq;have iH:=Ow f n _ _ hq;have hlen:=zH.len;have h46:=zH.2;obtain⟨dxo,rq,Ua,RX⟩:=id kK;unfold lR at Ua;rw[rK hq]at mS;have CW:count (oi++q.map λ c=>c.map p.move)=count oi+count q:=by rw[Mx.Bo,(F_ zH).2]
   symm;refine⟨rq,q,rfl,RX.at,by lia,λ H3 s3=>?_⟩;have lW:=s3 _ _ di;have CO:=s3 _ _ Ua
   nofun
   ·rename_i c2;refine k2 ?_ H3 (gP.add s3);rw[mS,ao (by rw[CW];exact kY.mp ‹_›),iX]
   ·rename_i c2;rw[ai (by rw[CW];lia)]at mS;obtain⟨cq,Uw,afy⟩:=RX.at.mono (dC.of s3);have qcq:ah K H3 rq (rV cq):=ah.of Uw;have afo:=(RW.dk s2 R8).same s3;symm;refine acu Uw afy afo zH iH λ D ms H4 n4 s4 h4 Kc=>?_;symm;have TX:=Dw.len;have jD:=Dw.2;have gw:cs.length=oi.length:=bw gf;have kN:ms.length=q.length:=by have:=bw Kc;rw[aV]at this;exact this
    refine jy (s4 _ _ lW) h4 (by rw[a_,a_,aL];lia) λ H5 h5 b5=>?_;have agk:=b5 _ _ (s4 _ _ CO) λ z=>(by rw[z]at CO;rw[lW]at CO;cases CO);symm;have sR:=((gP.add s3).add s4).step b5 (.inr n1);have JN:=(Dp.same s3).same s4;refine⟨oi++q.map λ c=>c.map p.move,cs++ms,max Lv (Lq+1),some (.ref pa),some (.ref oa),v3,?_,sR,?_,?_,?_,mS,λ L h=>?_,?_⟩
    ·have e1:((count (oi++q.map λ c=>c.map p.move):Nat):Int)=(count oi:Nat)+(count q:Nat):=by rw[CW];rfl
     have e2:((max Lv (Lq+1):Nat):Int)=if(Lv:Int)<(Lq:Int)+1 then(Lq:Int)+1 else(Lv:Int):=by split<;>lia
     rw[e1,e2];rfl
    ·exact JN.but b5 (s4 _ _ lW) (.inr rfl)
    ·rw[h5,B0]
    ·have afx:Paired (λ a l=>¬(Av a\/a=r)/\fI H4 a l) cs oi:=Paired.a8 gf λ a l z=>⟨z.1,((z.2.mono (dC.dk s2 R8)).mono (dC.of s3)).mono (dC.of s4)⟩;have hA3:=al H3 _ (gP.add s3) lW;refine Paired.app (Paired.a8 afx λ a l z=>⟨z.1,z.2.but b5 (s4 _ _ lW) λ y=>z.1 (.inr y)⟩) (Paired.a8 Kc λ a l z=>?_);have nA: ¬(Av a\/a=r):=λ y=>(hA3 a y).1 z.1;exact⟨nA,z.2.but b5 (s4 _ _ lW) λ y=>nA (.inr y)⟩
    ·rw[drop_cons hp]at yE;exact yE L (.cons ht h)
    ·refine⟨λ c' we=>?_,by rw[CW];lia⟩;rcases bJ.mp we with z|z
     ·exact Dw.1 c' z
     ·exact(F_ zH).1 c' z
 ·rintro σ H' ⟨oi,cs,Lv,v1,v2,v3,rfl,sx,lT,aO,gf,mS,yE,Dw⟩;symm;refine BE λ oa H2 n2 h2 s2=>?_;obtain⟨dx,h2⟩:=h2;have hlp:(rV ps).length=l.length:=by rw[a_];exact bw lX
  rw[hlp,Az]at mS yE;refine k1 oi Lv mS (yE Lv (.nil Lv)) oa H2 (sx.add s2) ((lT.same s2).weak λ a z=> .inl z) ⟨dx,r,h2,cs,λ z=>(hA r z).1 n1,s2 _ _ aO,Paired.a8 gf λ _ _ z=>⟨λ y=>z.1 (.inl y),z.2.mono (dC.of s2)⟩⟩
theorem Good.data{f:Kg15.Font}(G:Good f)(g:Nat):(f.data g).length<=30000:=by
 have:=G.gz;unfold Kg15.Font.data Kg15.part;simp
 lia
set_option maxHeartbeats 1000000 in
def Wc(g:aK mg)(tc:aW P w K mg c)(d:Df K mg "new_outline" (top 94) ["font","glyph","level","known"]){m k:Nat}(hm:m<=7)(hk:5<=k)(Vu:cn P w K mg Ba c.NotWellTold "composed_outline" ["font","parts","level","known"] k (G8 c m))(uC:Iz)(t_:Iy)
  (nY:Cz)(ir:vq P w K mg Ba)(tW:Iw)(lp:Cy):cn P w K mg Ba c.NotWellTold "new_outline" ["font","glyph","level","known"] (k+1) (λ vs H Q E=>0<m+1/\sf c (m+1) vs H Q E):=by
 refine d.ef ["font","glyph","level","known","data","contour_count","outline"] λ H Q E hr h nN=>?_;obtain⟨_,fa,kn,gl,f,Av,rfl,F,hg,qM,hA,k1,k2⟩:=h;refine⟨_,(ag (au 4 nN (pk nY hr (aa (pv 0) (aa (pv 1) ae)))) (ag (aI (aB dw (bX bZ g.bS (aa (pv 4) ae)) af) (ak (ay (mY lp hr (aa (bo ae) (aa af ae))))) aM) (ag (aI (aB cW (bX bZ g.bS (aa (pv 4) ae)) (aX g.Xv)) (ak (kq rfl kC tc.jK rfl (aa du ae))) aM) (ag (au 5 nN (pk ir hr (aa (pv 4) (aa af ae)))) (ag (aI (aB cW (pv 5) (aX g.L9)) (ak (kq rfl kC tc.jK rfl (aa du ae))) aM) (ag (aI (aB dw (pv 5) (aX g.L9)) (ak (au 6 nN (fP Vu b_ hr (aa (pv 0) (aa (fP uC b_ hr (aa (pv 4) ae)) (aa (pv 2) (aa (pv 3) ae))))))) (ak (aI (aB dw (pv 5) af) (ak (au 6 nN (mY lp hr (aa (bo ae) (aa af ae))))) (ak (au 6 nN (mY lp hr (aa (fP t_ b_ hr (aa (pv 4) (aa (pv 5) ae))) (aa af ae)))))))) (ag (cB (fP tW b_ hr (aa (aH tc.pI tc.xB (pv 6)) ae))) (ak (ay (pv 6)))))))))),?_⟩;symm;refine⟨fa,gl,f,rfl,F,hg,λ r H1 n1 s1 h1=>?_⟩;have qd:ah K H1 r (bs (f.data gl)):=ah.of h1;have hdl:=F.good.data gl;have lT:=qM.same s1;have lM:az (λ x=>x=kn) H H1:=az.of s1;have DX: ∀a,Av a->H1 a≠none/\a≠kn:=λ a ha=>by
  obtain⟨h1,h2⟩:=hA a ha;cases e:H a with
  |none=>exact absurd e h1
  |some u=>rw[s1 _ _ e];exact⟨by simp,h2⟩
 have un:=rB f m gl;rw[ai (by simp_all)]at un
 nofun
 ·rename_i c1;have e0:f.data gl=[]:=km.mp (by exact uk ‹_›);refine aZ (lz (by simp)) λ r2 H2 n2 h2 s2=>?_;symm;refine BE λ oa H3 n3 h3 s3=>?_;obtain⟨dx,h3⟩:=h3;refine k1 [] 1 (by rw[un,ao e0]) (Gz λ k=>by rw[rB,ai (by lia),ao e0]) oa H3 ((lM.add s2).add s3) ((lT.same s2).same s3) ⟨dx,r2,h3,[],λ z=>(DX _ z).1 n2,s3 _ _ h2,.nil⟩
 ·rename_i c1 c2;refine k2 ?_ H1 lM;rw[un,ai (λ z=>c1 (by rw[z];rfl)),ao (by exact kY.mp ‹_›)]
 ·rename_i c1 c2 c3;refine k2 ?_ H1 lM;rw[un,ai (λ z=>c1 (by rw[z];rfl)),ai (by lia),ai (by lia),ao (by lia)]
 ·rename_i c1 c2 c3 c4;have e0:f.data gl≠ []:=λ z=>c1 (by rw[z];rfl);rw[ai e0,ai (by lia),ai (by simp_all),ai (by lia)]at un;refine⟨r,f.data gl,rfl,qd,by lia,by lia,λ l hl pl ps H2 s2 bz lX=>?_,λ dQ H2 s2=>k2 (by rw[un,dQ];rfl) H2 (lM.add s2)⟩;rw[hl,mr,BA f m l [] rfl]at un;have hA2: ∀a,Av a->H2 a≠none/\a≠kn:=λ a ha=>by
   obtain⟨h1,h2⟩:=DX a ha;cases e:H1 a with
   |none=>exact absurd e h1
   |some u=>rw[s2 _ _ e];exact⟨by simp,h2⟩
  symm;refine⟨fa,pl,kn,pl,f,ps,l,Av,by rw[show(9:Int)-((m+1:Nat):Int)=8-(m:Int) by lia],(F.same s1).same s2,lT.same s2,hA2,bz,lX,λ o L hf hL oa H3 s3 JN kK=>?_,λ dQ H3 s3=>k2 (by rw[un,dQ];rfl) H3 ((lM.add s2).trans s3)⟩;obtain⟨dx,rr,ho,Dy⟩:=id kK;unfold lR at ho;rw[hf,mr]at un;symm;refine⟨rr,o,rfl,Dy.at,λ iH=>?_,λ iH=>k2 (by rw[un,ao iH]) H3 ((lM.add s2).trans s3)⟩;symm;rw[iH]at un;have hLm:L<=m+1:=by
   rcases hL.some with e|⟨p,hp,q,Lp,t,e⟩
   ·lia
   ·have:Lp<=m:=by
     apply my;intro hn;rw[Hk f m l _ ⟨p,hp,t.2 m (by lia)⟩]at hf;cases hf
    lia
  exact k1 o L un (Yl (n:=m) (by lia) e0 (by lia) c4 hl hf hL hLm iH) oa H3 ((lM.add s2).trans s3) JN kK
 ·rename_i c1 c2 c3 c4 c5;have e0:f.data gl≠ []:=λ z=>c1 (by rw[z];rfl);rw[ai e0,ai (by lia),ao (by lia),c5]at un;refine aZ (lz (by simp)) λ r2 H2 n2 h2 s2=>?_;symm;refine BE λ oa H3 n3 h3 s3=>?_;obtain⟨dx,h3⟩:=h3;unfold lR at h3;symm;have ou:kG H3 r2 []:=⟨[],s3 _ _ h2,.nil⟩;have es:simple (f.data gl) (0:Int).toNat=some []:=by unfold simple;exact ao (show(0:Int).toNat=0 from rfl)
  refine⟨r2,[],rfl,ou,λ iH=>?_,λ iH=>(by cases iH)⟩;symm;refine k1 [] 1 (by rw[un,es];rfl) (Gz λ k=>by rw[rB,ai (by lia),ai e0,ai (by lia),ao (by lia),c5,es];rfl) oa H3 ((lM.add s2).add s3) ((lT.same s2).same s3) ⟨dx,r2,h3,[],λ z=>(DX _ z).1 n2,s3 _ _ h2,.nil⟩
 ·rename_i c1 c2 c3 c4 c5;have e0:f.data gl≠ []:=λ z=>c1 (by rw[z];rfl);obtain⟨n,hn⟩: ∃n:Nat,i16 (f.data gl) 0=n:=⟨(i16 (f.data gl) 0).toNat,by lia⟩;have vZ:n<65536:=by
   have:=rR (f.data gl) 0;unfold i16 signed at hn;split at hn<;>lia
  rw[ai e0,ai (by lia),ao (by lia),hn,jr]at un;refine⟨r,f.data gl,n,by rw[hn],qd,by lia,by lia,λ o ho r2 H2 s2 ou=>?_,λ dQ H2 s2=>k2 (by rw[un,dQ];rfl) H2 (lM.add s2)⟩;rw[ho,mr]at un;symm;refine BE λ oa H3 n3 h3 s3=>?_;obtain⟨dx,h3⟩:=h3;unfold lR at h3;symm;have Tb:=ou.on s3;refine⟨r2,o,rfl,Tb.at,λ iH=>?_,λ iH=>k2 (by rw[un,ao iH]) H3 ((lM.add s2).add s3)⟩;symm;rw[iH]at un;refine k1 o 1 un (Gz λ k=>by rw[rB,ai (by lia),ai e0,ai (by lia),ao (by lia),hn,jr,ho,mr,iH];rfl) oa H3 ((lM.add s2).add s3) ((lT.same s2).same s3) ⟨dx,r2,h3,Tb.av λ a z=>(DX _ z).1⟩
def cn.le{C:Addr}{x:Str}{ps:List Str}{j k:Nat}{sp:Sp}(h:cn P w K mg Ba C x ps j sp)(l:j<=k):cn P w K mg Ba C x ps k sp:=by obtain⟨f,fd,F,b⟩:=h;exact⟨f,fd,F.mono l,b⟩
noncomputable def dp:Nat->Nat
 |0=>1
 |n+1=>dp n+9
theorem acK: ∀n,1<=dp n
 |0=>aQ _
 |n+1=>by unfold dp;lia
theorem Ms(g:aK mg)(tc:aW P w K mg c)(FW:Df K mg "outline_at" (top 93) ["font","glyph","level","known"])(ES:Df K mg "new_outline" (top 94) ["font","glyph","level","known"])(KZ:Df K mg "composed_outline" (top 95) ["font","parts","level","known"])(uC:Iz)(t_:Iy)
  (nY:Cz)(ir:vq P w K mg Ba)(tW:Iw)(lp:Cy)(iW:vt)(uc:Iv)(uf:Iu):
  ∀n,n<=8->cn P w K mg Ba c.NotWellTold "outline_at" ["font","glyph","level","known"] (dp n) (sf c n)
 |0,_=>by
  obtain⟨f,fd,F,b,m⟩:=id ES;exact K4 (n:=0) (k:=0) g tc FW (by simp) ⟨f,fd,⟨λ _ _ _ _ z=>absurd z.1 (by simp),λ _ _ _ _ _ _ _ _ _ _ _ _ _ z=>absurd z.1 (by simp)⟩,b,F.kp,m⟩
 |n+1,hn=>by have ih:=Ms g tc FW ES KZ uC t_ nY ir tW lp iW uc uf n (by exact eh ‹_›);have h1:=acK n;have h2:=Vl (n:=n) g tc KZ (by simp_all) (by trivial) ih iW uc uf lp;have h3:=Wc (m:=n) g tc ES (by lia) (by lia) (cn.le h2 (show dp n+2<=dp n+7 by lia)) uC t_ nY ir tW lp;exact K4 (n:=n+1) g tc FW hn h3
inductive ye(c:Cs)(vs:List V)(H:Hp)(Q:VK)(E:XK):Prop
 |mk (fa:Addr) (g:Nat) (f:Kg15.Font):vs=[.ref fa,.int g]->d0 c H fa f->g<f.glyphs->(∀o,f.outline 8 g=some o-> ∀r H',aq H H'->kG H' r o->Q (.ref r) H')->(f.outline 8 g=none-> ∀H',aq H H'->E (.ref c.NotWellTold) none H')->ye c vs H Q E
def aq.RG{H H1 H':Hp}{a:Addr}(n:H a=Option.none)(s:aq H H1)(x:az (λ y=>y=a) H1 H'):aq H H':=λ b o e=>x b o (s b o e) λ z=>by subst z;rw[n]at e;cases e
def Wz(g:aK mg)(tc:aW P w K mg c)(d:Df K mg "outline_of" (top 92) ["font","glyph"]){k:Nat}(FP:cn P w K mg Ba c.NotWellTold "outline_at" ["font","glyph","level","known"] k (sf c 8)):cn P w K mg Ba c.NotWellTold "outline_of" ["font","glyph"] (k+1) (ye c):=by refine d.ef ["font","glyph"] λ H Q E hr h nN=>?_;obtain⟨fa,gl,f,rfl,F,hg,k1,k2⟩:=h;refine⟨_,(ak (ay (aH tc.pI tc.xB (fP FP b_ hr (aa (pv 0) (aa (pv 1) (aa af (aa pL ae)))))))),?_⟩;symm;refine pP λ kn H1 n1 h1 s1=>?_;symm;refine⟨fa,kn,gl,f,λ _=>False,rfl,F.same s1,hg,⟨[],h1,.nil,λ _ z=>(by cases z),λ _ _ z=>(by cases z)⟩,λ _ z=>z.elim,λ o L ho ht oa H2 s2 Dp kK=>?_,λ dQ H2 s2=>k2 dQ H2 (aq.RG n1 s1 s2)⟩;obtain⟨dx,r,e,hr⟩:=kK;unfold lR at e;symm;exact k1 o ho r H2 (aq.RG n1 s1 s2) hr.at
local macro_rules|`(tactic|walk_at "t")=>`(tactic|first|assumption|(refine aq.agc ?_ ?_ <;> assumption))
local macro_rules|`(tactic|walk_at "1")=>`(tactic|((with_reducible refine' B_ ?a ?b ?_);(case a=>walk_at "t");(case b=>rfl)))
def hG(H:Hp)(a:Addr)(p:Corner):Prop:=H a=some (.tup [.int p.1,.int p.2])
def sM(H:Hp)(r:Addr)(cs:List Corner):Prop:=∃ps,H r=some (.lst (rV ps))/\Paired (hG H) ps cs
inductive MY(vs:List V)(H:Hp)(Q:VK)(E:XK):Prop
 |mk (b o e:Addr) (p q r:Pt):vs=[.ref b,.ref o,.ref e]->cS H b p->cS H o q->cS H e r->(∀a H',H a=none->aq H H'->sM H' a (mH p q r)->Q (.ref a) H')->MY vs H Q E
abbrev QM:=Kn P w K mg Ba "places_on_curve" ["begin","off","end"] 1 MY
def Vn(g:aK mg)(d:Df K mg "places_on_curve" (top 104) ["begin","off","end"]):QM:=by
 refine d.ok ["begin","off","end","x","y","x_added","y_added","x_growth","y_growth","places","k"] λ H Q E hr h nN=>?_;obtain⟨b,o,e,p,q,r,rfl,hb,ho,he,k⟩:=h;refine⟨_,(ag (au 3 nN (aj aR af (bB (pv 0) af))) (ag (au 4 nN (aj aR af (bB (pv 0) af))) (ag (au 5 nN (aj cJ (aj aJ (aj aR af (bB (pv 1) af)) (bB (pv 2) af)) (aj aR af (bB (pv 0) af)))) (ag (au 6 nN (aj cJ (aj aJ (aj aR af (bB (pv 1) af)) (bB (pv 2) af)) (aj aR af (bB (pv 0) af)))) (ag (au 7 nN (aj aR af (aj aJ (aj cJ (bB (pv 0) af) (aj aR af (bB (pv 1) af))) (bB (pv 2) af)))) (ag (au 8 nN (aj aR af (aj aJ (aj cJ (bB (pv 0) af) (aj aR af (bB (pv 1) af))) (bB (pv 2) af)))) (ag (au 9 nN (bo ae)) (ag (fJ (ko rfl g.ju (aa (aX g.Vx) ae)) (aT 10 nN) (ag (jQ 3 nN (pv 5) kx) (ag (jQ 4 nN (pv 6) kx) (ag (cB (gU (pv 9) (aa (jw (aa (pv 3) (aa (pv 4) ae))) ae))) (ag (jQ 5 nN (pv 7) kx) (ak (jQ 6 nN (pv 8) kx))))))) (ak (ay (pv 9))))))))))),?_⟩;have qb:aP K H b _:=aP.of hb;have qo:aP K H o _:=aP.of ho;have qe:aP K H e _:=aP.of he;symm;refine aZ (lz (by simp)) λ r2 H1 n1 h1 s1=>?_;symm;refine f1 (λ i σ H'=>mf (aq H H') (∃v1,σ=[some (.ref b),some (.ref o),some (.ref e),some (.int (cur p q r i).1),some (.int (cur p q r i).2),some (.int (14*q.x+r.x-15*p.x+i*(2*(p.x-2*q.x+r.x)))),some (.int (14*q.y+r.y-15*p.y+i*(2*(p.y-2*q.y+r.y)))),some (.int (2*(p.x-2*q.x+r.x))),some (.int (2*(p.y-2*q.y+r.y))),some (.ref r2),v1]) (∃ps,mf (H' r2=some (.lst (rV ps))) (ps.length=i) (Paired (hG H') ps ((mH p q r).take i)))) ?_ ?_ ?_
 ·refine⟨s1,⟨none,?_⟩,[],h1,rfl,.nil⟩;rw[show((0:Nat):Int)=0 from rfl,Ja,Int.zero_mul,Int.zero_mul,wN,wN];rfl
 ·rintro i σ H' hi ⟨sm,⟨v1,rfl⟩,ps,hl,hle,hp⟩;have hi8:i<8:=hi;have e1:(cur p q r i).1+(14*q.x+r.x-15*p.x+i*(2*(p.x-2*q.x+r.x)))=(cur p q r ((i+1:Nat):Int)).1:=by rw[Int.natCast_succ];unfold cur;dsimp only;grind
  have e2:(cur p q r i).2+(14*q.y+r.y-15*p.y+i*(2*(p.y-2*q.y+r.y)))=(cur p q r ((i+1:Nat):Int)).2:=by rw[Int.natCast_succ];unfold cur;dsimp only;grind
  symm;rw[e1,e2];refine fW (lz (by simp)) λ T H2 n2 h2 s2=>?_;symm;refine d8 (s2 _ _ hl) (by rw[a_,aL];lia) λ H3 h3 b3=>?_;have nT:T≠r2:=(cC hl n2).symm;symm;refine⟨b3.same (sm.trans s2) n1,⟨some (.int i),?_⟩,ps++[T],by rw[h3,fF],by rw[bq,hle];rfl,?_⟩
  ·rw[show((i+1:Nat):Int)=i+1 from rfl,show((i:Int)+1)*(2*(p.x-2*q.x+r.x))=i*(2*(p.x-2*q.x+r.x))+2*(p.x-2*q.x+r.x) by grind,show((i:Int)+1)*(2*(p.y-2*q.y+r.y))=i*(2*(p.y-2*q.y+r.y))+2*(p.y-2*q.y+r.y) by grind,<- Int.add_assoc,<- Int.add_assoc];rfl
  ·have e3:(mH p q r)[i]?=some (cur p q r ((i:Int)+1)):=by
    unfold mH;rw[fx,List.getElem?_range hi8];rfl
   rw[cA,e3];refine eY (Paired.a8 hp λ a l z=>?_) ?_
   ·exact b3 _ _ (s2 _ _ z) λ y=>(by have z':H' a=_:=z;rw[y,hl]at z';cases z')
   ·exact b3 _ _ h2 nT
 ·rintro σ H' ⟨sm,⟨v1,rfl⟩,ps,hl,hle,hp⟩;symm;refine k r2 H' n1 sm ⟨ps,hl,?_⟩;rw[fE (by unfold mH;simp)]at hp;exact hp
def at_last{α:Type}{xs:List α}{v:α}(h:xs[xs.length-1]?=some v):eW xs (-1)=some v:=by have h1:=(bC.mp h).1;unfold eW lV;rw[ai (by lia),ao (by lia)];show xs[((xs.length:Int)+ -1).toNat]?=some v;rw[show((xs.length:Int)+ -1).toNat=xs.length-1 by grind];exact h
def zc{q:Pt}:((if q.on=true then 1 else 0:Int)=0)↔q.on=false:=by cases h:q.on<;>simp
def Tc{q:Pt}:((if q.on=true then 1 else 0:Int)=1)↔q.on=true:=by cases h:q.on<;>simp
inductive MW(vs:List V)(H:Hp)(Q:VK)(E:XK):Prop
 |mk (ca:Addr) (l:List Pt):vs=[.ref ca]->fI H ca l->l≠ []->l.length<=5000->(∀a H',H a=none->aq H H'->fI H' a (mz l)->Q (.ref a) H')->MW vs H Q E
abbrev QN:=Kn P w K mg Ba "closed_nodes" ["contour"] 1 MW
def V2(g:aK mg)(d:Df K mg "closed_nodes" (top 103) ["contour"]):QN:=by
 refine d.ok ["contour","nodes","before","point"] λ H Q E hr h nN=>?_;obtain⟨ca,l,rfl,⟨ps,gx,cK⟩,bH,hlen,k⟩:=h;have hl:=bw cK;have zL:0<l.length:=uG.mpr bH;have qc:ah K H ca (rV ps):=ah.of gx;refine⟨_,(ag (au 1 nN (bo ae)) (ag (au 2 nN (bO (pv 0) (fe fL af))) (ag (fJ (c_ (pv 0)) (aT 3 nN) (ag (aI (PW.pt (vc (aB dw (bB (pv 2) af) af) (uY (aB dw (bB (pv 3) af) af)))) (ak (cB (gU (pv 1) (aa (jw (aa (aj aJ (bB (pv 2) af) (bB (pv 3) af)) (aa (aj aJ (bB (pv 2) af) (bB (pv 3) af)) (aa af ae)))) ae)))) aM) (ag (cB (gU (pv 1) (aa (jw (aa (aj aR af (bB (pv 3) af)) (aa (aj aR af (bB (pv 3) af)) (aa (bB (pv 3) af) ae)))) ae))) (ak (au 2 nN (pv 3)))))) (ag (aI (aB dw (bB (bO (pv 1) af) af) af) (ak (cB (Cb AE F.slot_list_insert F.type_list_insert YD (pv 1) (aa af (aa (bO (pv 1) (fe fL af)) ae))))) (ak (cB (gU (pv 1) (aa (bO (pv 1) af) ae))))) (ak (ay (pv 1))))))),?_⟩;symm;refine aZ (lz (by simp)) λ r H1 n1 h1 s1=>?_;have qc1:=s1.seq qc;obtain⟨pl,bz⟩: ∃pl,ps[ps.length-1]?=some pl:=⟨_,bI (by lia)⟩;obtain⟨q,hq,jE⟩:=Paired.at cK bz;symm;refine bW qc1 (v:= .ref pl) (at_last (dc.mpr ⟨pl,by rw[a_];exact bz,rfl⟩)) ?_;symm;have Cj:l.getLastD ⟨0,0,true⟩=q:=by rw[pF,xw,<- hl,hq];rfl
 refine L2.Rd.fl (xs:=rV ps) (λ i σ H'=>mf (aq H H') (∃pb v1,σ=[some (.ref ca),some (.ref r),some (.ref pb),v1]/\cS H pb ((l.take i).getLastD q)) (∃ns,H' r=some (.lst (rV ns))/\Paired (cS H') ns (ring q (l.take i)))) ?_ ?_ ?_ ?_
 ·exact⟨s1,⟨pl,none,rfl,jE⟩,[],h1,.nil⟩
 ·rintro i σ H' _ ⟨sm,_⟩;exact sm.seq qc
 ·rintro i x σ H' hx ⟨sm,⟨pb,v1,rfl,zJ⟩,ns,aO,iL⟩;obtain⟨pa,tq,rfl⟩:=dc.mp hx;obtain⟨p,hp,tu⟩:=Paired.at cK tq;have kO:i<l.length:=(bC.mp hp).1;have qb:aP K H' pb _:=aP.of (sm _ _ zJ);have qa:aP K H' pa _:=aP.of (sm _ _ tu);have DK:ns.length<=2*l.length:=by
   rw[bw iL];have:=(Bv q (l.take i)).2;rw[gC]at this
   lia
  have e1:l.take (i+1)=l.take i++[p]:=by rw[cA,hp];rfl
  nofun
  ·rename_i c1 c2;rw[zc]at c1 c2;refine fW (lz (by simp)) λ T2 H2 n2 h2 s2=>?_;symm;refine d8 (s2 _ _ aO) (by rw[a_,aL];lia) λ H3 h3 b3=>?_;have qH:aq H H3:=b3.same (sm.trans s2) n1;have qb3:aP K H3 pb _:=aP.of (qH _ _ zJ);have Jx:aP K H3 pa _:=aP.of (qH _ _ tu);have Kt:H3 r=some (.lst (rV (ns++[T2]))):=by rw[h3,fF]
   have afr:Paired (cS H3) (ns++[T2]) (ring q (l.take i)++fN ((l.take i).getLastD q) p):=by unfold fN;rw[ao ⟨c1,c2⟩];exact eY (Paired.a8 iL λ a l z=>cS.but b3 (s2 _ _ aO) (z.mono (dC.of s2))) (cS.but b3 (s2 _ _ aO) h2)
   have hm3:(ns++[T2]).length<=2*l.length+1:=by simp;trivial
   symm;refine fW (lz (by simp)) λ T H4 n4 h4 s4=>?_;symm;refine d8 (s4 _ _ Kt) (by rw[a_,aL];lia) λ H5 h5 b5=>?_;symm;exact⟨b5.same (qH.trans s4) n1,⟨pa,some (.ref pa),rfl,by rw[e1,AW];exact tu⟩,(ns++[T2])++[T],by rw[h5,<- fF],by rw[e1,Bg,<- gE];exact eY (Paired.a8 afr λ a l z=>cS.but b5 (s4 _ _ Kt) (z.mono (dC.of s4))) (cS.but b5 (s4 _ _ Kt) h4)⟩
  ·rename_i c1 c2;rw[zc]at c1 c2;have hm:fN ((l.take i).getLastD q) p=[]:=by unfold fN;rw[ai λ z=>c2 z.2]
   refine fW (lz (by simp)) λ T H4 n4 h4 s4=>?_;symm;refine d8 (s4 _ _ aO) (by rw[a_,aL];lia) λ H5 h5 b5=>?_;symm;exact⟨b5.same (sm.trans s4) n1,⟨pa,some (.ref pa),rfl,by rw[e1,AW];exact tu⟩,ns++[T],by rw[h5,fF],by rw[e1,Bg,<- gE,hm,cG];exact eY (Paired.a8 iL λ a l z=>cS.but b5 (s4 _ _ aO) (z.mono (dC.of s4))) (cS.but b5 (s4 _ _ aO) h4)⟩
  ·rename_i c1;rw[zc]at c1;have hm:fN ((l.take i).getLastD q) p=[]:=by unfold fN;rw[ai λ z=>c1 z.1]
   refine fW (lz (by simp)) λ T H4 n4 h4 s4=>?_;symm;refine d8 (s4 _ _ aO) (by rw[a_,aL];lia) λ H5 h5 b5=>?_;symm;exact⟨b5.same (sm.trans s4) n1,⟨pa,some (.ref pa),rfl,by rw[e1,AW];exact tu⟩,ns++[T],by rw[h5,fF],by rw[e1,Bg,<- gE,hm,cG];exact eY (Paired.a8 iL λ a l z=>cS.but b5 (s4 _ _ aO) (z.mono (dC.of s4))) (cS.but b5 (s4 _ _ aO) h4)⟩
 ·rintro σ H' ⟨sm,⟨pb,v1,rfl,zJ⟩,ns,aO,iL⟩;rw[fE (by rw[a_];simp_all)]at iL;have DK:=bw iL;have J1:=Bv q l;have q1:ah K H' r (rV ns):=ah.of aO;obtain⟨a0,zW⟩: ∃a,ns[0]?=some a:=⟨_,bI (by lia)⟩;obtain⟨a9,Uy⟩: ∃a,ns[ns.length-1]?=some a:=⟨_,bI (by lia)⟩;obtain⟨y0,zC,vW⟩:=Paired.at iL zW;obtain⟨y9,hy9,hp9⟩:=Paired.at iL Uy;have qt:aP K H' a0 _:=aP.of vW;obtain⟨rr,err⟩: ∃rr,ring q l=y0::rr:=by
   cases e:ring q l with
   |nil=>rw[e]at zC;cases zC
   |cons a b=>rw[e]at zC;simp at zC;subst zC;exact⟨b,rfl⟩
  have gR:mz l=if y0.on=false then y9::ring q l else ring q l++[y0]:=by
   have:(y0::rr).getLastD y0=y9:=by rw[<- err,pF,xw,<- DK,hy9];rfl
   unfold mz;rw[Cj,err];unfold closed;dsimp only;rw[this]
  symm;refine bW q1 (v:= .ref a0) (at_of (j:=0) rfl (dc.mpr ⟨a0,zW,rfl⟩)) ?_
  nofun
  ·rename_i c1;rw[zc]at c1;rw[ao c1]at gR;refine bW q1 (v:= .ref a9) (at_last (dc.mpr ⟨a9,by rw[a_];exact Uy,rfl⟩)) ?_;symm;refine adB aO (by rw[a_,aL];lia) λ H2 h2 b2=>?_;symm;exact k r H2 n1 (b2.same sm n1) ⟨a9::ns,h2,by rw[gR];exact .cons (cS.but b2 aO hp9) (Paired.a8 iL λ a l z=>cS.but b2 aO z)⟩
  ·rename_i c1;rw[zc]at c1;rw[ai c1]at gR;refine bW q1 (v:= .ref a0) (at_of (j:=0) rfl (dc.mpr ⟨a0,zW,rfl⟩)) ?_;symm;refine d8 aO (by rw[a_,aL];lia) λ H2 h2 b2=>?_;symm;exact k r H2 n1 (b2.same sm n1) ⟨ns++[a0],by rw[h2,fF],by rw[gR];exact eY (Paired.a8 iL λ a l z=>cS.but b2 aO z) (cS.but b2 aO vW)⟩
inductive N2(vs:List V)(H:Hp)(Q:VK)(E:XK):Prop
 |mk (ca:Addr) (l:List Pt):vs=[.ref ca]->fI H ca l->l≠ []->l.length<=5000->(∀r H',H r=none->aq H H'->sM H' r (placesOf l)->Q (.ref r) H')->N2 vs H Q E
abbrev Q5:=Kn P w K mg Ba "places_of_curves" ["contour"] 2 N2
def WY(g:aK mg)(d:Af K mg "places_of" "places_of_curves" (top 101) ["contour"])(EJ:QN)(El:QM):Q5:=by
 refine d.ok ["contour","nodes","places","at","node"] λ H Q E hr h nN=>?_;obtain⟨ca,l,rfl,gx,bH,hlen,k⟩:=h;refine⟨_,(ag (au 1 nN (pk EJ hr (aa (pv 0) ae))) (ag (au 2 nN (bo (aa (jw (aa (aj aR af (bB (bO (pv 1) af) af)) (aa (aj aR af (bB (bO (pv 1) af) af)) ae))) ae))) (ag (au 3 nN af) (ag (uV wR (aB cW (pv 3) (bX bZ g.bS (aa (pv 1) ae))) (ag (au 4 nN (bO (pv 1) (pv 3))) (ak (aI (aB dw (bB (pv 4) af) af) (ag (cB (gU (pv 2) (aa (jw (aa (aj aR af (bB (pv 4) af)) (aa (aj aR af (bB (pv 4) af)) ae))) ae))) (ak (jQ 3 nN af kx))) (ag (cB (nX (pv 2) (aa (pk El hr (aa (bO (pv 1) (aj cJ (pv 3) af)) (aa (pv 4) (aa (bO (pv 1) (aj aJ (pv 3) af)) ae)))) ae))) (ak (jQ 3 nN af kx))))))) (ak (ay (pv 2))))))),?_⟩;symm;refine⟨ca,l,rfl,gx,bH,hlen,λ nd H1 n1 s1 cX=>?_⟩;obtain⟨s0,X,gR,ax⟩:=YX bH;have v_:=L6 (l:=l);obtain⟨ns,iL,vY⟩:=id cX;have DK:=bw vY;rw[gR]at vY;obtain⟨a0,zW,vW⟩:=Paired.at' (i:=0) vY rfl;have q1:ah K H1 nd (rV ns):=ah.of iL;have qt:aP K H1 a0 _:=aP.of vW;have i0:eW (rV ns) 0=some (.ref a0):=at_of (j:=0) rfl (dc.mpr ⟨a0,zW,rfl⟩);symm;refine bW q1 i0 ?_;symm;refine bW q1 i0 ?_;symm;refine fW (lz (by simp)) λ T H2 n2 h2 s2=>?_;symm;refine aZ (lz (by simp)) λ r H3 n3 h3 s3=>?_;symm;have s03:aq H H3:=(s1.trans s2).trans s3;have ia:aq H1 H3:=s2.trans s3;have nr:H r=none:=(s1.trans s2).free n3;have Tj:H1 r=none:=s2.free n3;have afF:(mz l).length=(X++[s0]).length+1:=by rw[gR];rfl
 refine uX (λ m σ H'=>kU λ(at_:Nat)(acc:List Corner)(as:List Addr)(b:Pt)(v1:Option V)=>SA (σ=[some (.ref ca),some (.ref nd),some (.ref r),some (.int (at_:Int)),v1]) (m=ns.length-at_) (1<=at_) (at_<=ns.length) (aq H1 H') ((s0::(X++[s0]))[at_-1]?=some b) (iD ((s0::(X++[s0])).drop at_)) (placesOf l=acc++iu b ((s0::(X++[s0])).drop at_)) (H' r=some (.lst (rV as))) (Paired (hG H') as acc) (acc.length<=8*at_)) ?_ ?_
 ·refine⟨_,1,[fm s0],[T],s0,none,rfl,rfl,aQ _,by simp_all,ia,rfl,ax,?_,h3,.cons (s3 _ _ h2) .nil,by simp⟩;unfold placesOf;rw[gR];rfl
 ·rintro m σ H' ⟨at_,acc,as,b,v1,rfl,hm,h1,h2,sm,hb,jR,bz,aO,has,vE⟩;have q2:ah K H' nd (rV ns):=sm.seq q1
  nofun
  ·rename_i c1;have iP:at_<ns.length:=by exact kY.mp ‹_›
   obtain⟨na,eT⟩: ∃a,ns[at_]?=some a:=⟨_,bI iP⟩;obtain⟨y,hy,DG⟩:=Paired.at vY eT;have qy:aP K H' na _:=aP.of (sm _ _ DG);have hd:(s0::(X++[s0])).drop at_=y::(s0::(X++[s0])).drop (at_+1):=drop_cons hy;rw[hd]at jR bz;refine bW q2 (v:= .ref na) (at_of (j:=at_) rfl (dc.mpr ⟨na,eT,rfl⟩)) ?_
   nofun
   ·rename_i c2;rw[Tc]at c2;rw[GZ c2]at bz;refine fW (lz (by simp)) λ T2 H4 n4 h4 s4=>?_;symm;have jg:=bw has;refine d8 (s4 _ _ aO) (by rw[a_,aL];lia) λ H5 h5 b5=>?_;symm;refine⟨ns.length-(at_+1),by lia,at_+1,acc++[fm y],as++[T2],y,some (.ref na),rfl,rfl,by simp,iP,b5.same (sm.trans s4) Tj,hy,?_,?_,by rw[h5,fF],?_,by simp;lia⟩
    ·cases e:(s0::(X++[s0])).drop (at_+1)with
     |nil=>trivial
     |cons a' b'=>rw[e]at jR;unfold iD at jR;rw[ao c2]at jR;exact jR
    ·rw[bz];simp
    ·exact eY (Paired.a8 has λ a p z=>b5 _ _ (s4 _ _ z) λ w=>(by have z':H' a=_:=z;rw[w,aO]at z';cases z')) (b5 _ _ h4 λ w=>(by subst w;rw[aO]at n4;cases n4))
   ·rename_i c2;rw[Tc]at c2;obtain⟨e,s9,zR⟩: ∃e s9,(s0::(X++[s0])).drop (at_+1)=e::s9:=by
     cases e:(s0::(X++[s0])).drop (at_+1)with
     |nil=>rw[e]at jR;unfold iD at jR;rw[ai c2]at jR;exact jR.elim
     |cons a' b'=>exact⟨a',b',rfl⟩
    have JP:(s0::(X++[s0]))[at_+1]?=some e:=by have:=gh (λ z=>z[0]?) zR;simpa using this
    have hd2:=drop_cons JP;have TZ:s9=(s0::(X++[s0])).drop (at_+2):=by rw[hd2]at zR;exact(List.cons.inj zR).2.symm
    rw[zR,Gv c2]at bz;rw[zR]at jR;unfold iD at jR;rw[ai c2]at jR;obtain⟨ba,gy,zJ⟩:=Paired.at' vY hb;obtain⟨ea,Uu,hpe⟩:=Paired.at' vY JP;have afB:at_+1<ns.length:=(bC.mp Uu).1;refine bW q2 (v:= .ref ba) (at_of (j:=at_-1) (by norm_cast) (dc.mpr ⟨ba,gy,rfl⟩)) ?_;symm;refine bW q2 (v:= .ref ea) (at_of (j:=at_+1) (by rfl) (dc.mpr ⟨ea,Uu,rfl⟩)) ?_;symm;refine⟨ba,na,ea,b,y,e,rfl,sm _ _ zJ,sm _ _ DG,sm _ _ hpe,λ ch H4 n4 s4 jh=>?_⟩;obtain⟨ds,hds,Ki⟩:=jh;symm;have jg:=bw has;have hl8:ds.length=8:=by rw[bw Ki];rfl
    refine jy (s4 _ _ aO) hds (by rw[a_,a_,aL];lia) λ H5 h5 b5=>?_;symm;have pb: ∀a p,hG H4 a p->hG H5 a p:=λ a p z=>b5 _ _ z λ w=>(by have z':H4 a=_:=z;rw[w,s4 _ _ aO]at z';cases z');refine⟨ns.length-(at_+2),by grind,at_+2,acc++mH b y e,as++ds,e,some (.ref na),?_,rfl,by simp,afB,b5.same (sm.trans s4) Tj,JP,?_,?_,by rw[h5,B0],?_,?_⟩
    ·rfl
    ·rw[<- TZ];exact jR
    ·rw[bz,<- TZ];simp
    ·exact Paired.app (Paired.a8 has λ a p z=>pb a p (s4 _ _ z)) (Paired.a8 Ki λ a p z=>pb a p z)
    ·rw[bq,<- bw Ki,hl8];lia
  ·rename_i c1;have iP:at_=ns.length:=by lia
   symm;rw[iP,DK,afF,pE (by simp)]at bz;refine k r H' nr (s1.trans sm) ⟨as,aO,?_⟩;rw[bz];simpa [iu]using has
def RecAt(H:Hp)(a:Addr)(t:Nat×Nat×Nat):Prop:=H a=some (.tup [.int t.1,.int t.2.1,.int t.2.2])
def PJ(H:Hp)(r:Addr)(l:List (Nat×Nat×Nat)):Prop:=∃as,H r=some (.lst (rV as))/\Paired (RecAt H) as l
def Dc{H:Hp}{Q:VK}{p:Prop}[Decidable p]{b:Bool}(k:Q (.bl (decide p)) H)(h:b=true↔p):Q (.bl b) H:=by
 have:b=decide p:=by rw[ki,h,gF]
 rw[this];exact k
inductive Qc(K:W.Frag)(vs:List V)(H:Hp)(Q:VK)(E:XK):Prop
 |mk (a:Addr) (b:List UInt8):vs=[.ref a]->ah K H a (bs b)->Q (.bl (lu b)) H->Qc K vs H Q E
abbrev QJ:=Kn P w K mg Ba "directory_is_whole" ["data"] 3 (Qc K)
def U_(g:aK mg)(tc:aW P w K mg c)(d:Df K mg "directory_is_whole" (top 28) ["data"])(aS:fG P w K mg Ba)(gS:vp P w K mg Ba):QJ:=by
 refine d.ok ["data"] λ H Q E hr h nN=>?_;obtain⟨a,b,rfl,qa,k⟩:=h;have JM:=rR b 4;refine⟨_,(ag (aI (PW.pt (gX (aB cW (bX bZ g.bS (aa (pv 0) ae)) (aX g.ET)) (jv (aB gZ (pk gS hr (aa (pv 0) (aa af ae))) af)))) (ak (ay gY)) aM) (ak (ay (oM d9 (aj aJ (aX g.ET) (aj aR (aX g.K6) (pk aS hr (aa (pv 0) (aa af ae))))) (bX bZ g.bS (aa (pv 0) ae)))))),?_⟩;unfold lu at k
 nofun
 all_goals (refine Dc k ?_;simp;lia)
inductive N1(K:W.Frag)(vs:List V)(H:Hp)(Q:VK)(E:XK):Prop
 |mk (a:Addr) (b:List UInt8):vs=[.ref a]->ah K H a (bs b)->lu b=true->b.length<=100000->(∀r H',H r=none->aq H H'->PJ H' r (directory b)->Q (.ref r) H')->N1 K vs H Q E
abbrev Ik:=Kn P w K mg Ba "records_of" ["data"] 3 (N1 K)
def Wy(g:aK mg)(tc:aW P w K mg c)(d:Df K mg "records_of" (top 29) ["data"])(aS:fG P w K mg Ba)(gS:vp P w K mg Ba):Ik:=by
 refine d.ok ["data","records","k","at"] λ H Q E hr h nN=>?_;obtain⟨a,b,rfl,qa,hw,hz,k⟩:=h;have JM:=rR b 4;have hw':=dY hw;refine⟨_,(ag (au 1 nN (bo ae)) (ag (fJ (ko rfl g.ju (aa (pk aS hr (aa (pv 0) (aa af ae))) ae)) (aT 2 nN) (ag (au 3 nN (aj aJ (aX g.ET) (aj aR (aX g.K6) (pv 2)))) (ak (cB (gU (pv 1) (aa (jw (aa (pk gS hr (aa (pv 0) (aa (pv 3) ae))) (aa (pk gS hr (aa (pv 0) (aa (aj aJ (pv 3) af) ae))) (aa (pk gS hr (aa (pv 0) (aa (aj aJ (pv 3) af) ae))) ae)))) ae)))))) (ak (ay (pv 1))))),?_⟩;refine dH (σ':=[some (.ref a),none,none,none]) rfl ?_;symm;refine aZ (lz (by simp)) λ r H1 n1 h1 s1=>?_;have q1:=s1.seq qa;symm;refine L2.Rd.f1 (λ i σ H'=>o8 λ(as:List Addr)(v1 v2:Option V)=>me (σ=[some (.ref a),some (.ref r),v1,v2]) (aq H H') (H' r=some (.lst (rV as))) (Paired (RecAt H') as ((directory b).take i)) (as.length=i)) ?_ ?_ ?_
 ·exact⟨[],none,none,rfl,s1,h1,.nil,rfl⟩
 ·rintro i σ H' hi ⟨as,v1,v2,rfl,sm,aO,hp,hl⟩;have vJ:=sm.seq qa;symm;refine fW (lz (by simp)) λ T H2 n2 h2 s2=>?_;have di:=s2 _ _ aO;symm;refine d8 di (by rw[a_,aL];grind) λ H3 h3 b3=>?_;symm;refine⟨as++[T],_,_,rfl,b3.same (sm.trans s2) n1,by rw[h3,fF],?_,by rw[bq,hl];rfl⟩;have e:(directory b)[i]?=some (u32 b (12+16*i),u32 b (20+16*i),u32 b (24+16*i)):=kX.mpr ⟨hi,rfl⟩;rw[cA,e];have kp: ∀(x:Addr)(q:Nat×Nat×Nat),RecAt H2 x q->RecAt H3 x q:=λ x q z=>b3 _ _ z λ y=>by have z':H2 x=_:=z;rw[y,di]at z';cases z'
  refine eY (Paired.a8 hp λ x q z=>kp x q (s2 _ _ z)) (kp T _ ?_);unfold RecAt;rw[h2,show 12+16*i+8=20+16*i by simp+arith,show 12+16*i+12=24+16*i by simp+arith]
 ·rintro σ H' ⟨as,v1,v2,rfl,sm,aO,hp,hl⟩;symm;refine k r H' n1 sm ⟨as,aO,?_⟩;rw[fE (by unfold directory;rw[aV,iS];exact aQ _)]at hp;exact hp
inductive Qb(vs:List V)(H:Hp)(Q:VK)(E:XK):Prop
 |mk (a:Addr) (l:List (Nat×Nat×Nat)) (n:Nat):vs=[.ref a,.int n]->PJ H a l->Q (.bl (iy l n)) H->Qb vs H Q E
abbrev QI:=Kn P w K mg Ba "records_are_good" ["records","file_size"] 1 Qb
def Vi(g:aK mg)(tc:aW P w K mg c)(d:Df K mg "records_are_good" (top 30) ["records","file_size"]):QI:=by
 refine d.ok ["records","file_size","tag_before","tag","offset","length"] λ H Q E hr h nN=>?_;obtain⟨a,l,n,rfl,⟨as,ha,hp⟩,k⟩:=h;have qa:ah K H a (rV as):=ah.of ha;refine⟨_,(ag (au 2 nN (fe fL af)) (ag (fJ (c_ (pv 0)) (rS rfl (dm (aT 3 nN) (dm (aT 4 nN) (dm (aT 5 nN) mF)))) (ag (aI (PW.pt (gX (aB d9 (pv 3) (pv 2)) (jv (aB dO (aj aJ (pv 4) (pv 5)) (pv 1))))) (ak (ay gY)) aM) (ak (au 2 nN (pv 3))))) (ak (ay gY)))),?_⟩;refine dH (σ':=[some (.ref a),some (.int n),none,none,none,none]) rfl ?_;symm;refine L2.Rd.zY (xs:=rV as) (λ i σ H'=>H'=H/\D8 λ(tb:Int)(v1 v2 v3:Option V)=>wG (σ=[some (.ref a),some (.int n),some (.int tb),v1,v2,v3]) (∀k t u,k+1<i->l[k]?=some t->l[k+1]?=some u->t.1<u.1) (∀k t,k<i->l[k]?=some t->t.2.1+t.2.2<=n) ((i=0/\tb= -1)\/ ∃t,0<i/\l[i-1]?=some t/\tb=t.1)) ?_ ?_ ?_ ?_
 ·exact⟨rfl, -1,none,none,none,rfl,λ k t u h=>by simp_all,λ k t h=>by simp_all,.inl ⟨rfl,rfl⟩⟩
 ·rintro i σ H' _ ⟨rfl,_⟩;exact qa
 ·rintro i x σ H' hx ⟨rfl,tb,v1,v2,v3,rfl,f1,f2,f3⟩;obtain⟨ra,m8,rfl⟩:=dc.mp hx;obtain⟨t,ht,Dv⟩:=Paired.at hp m8;refine mI (xs:=[.int t.1,.int t.2.1,.int t.2.2]) (aP.of Dv) rfl ?_;have bad:(t.1:Int)<=tb\/(n:Int)<t.2.1+t.2.2->iy l n=false:=λ z=>by
   cases e:iy l n with
   |false=>rfl
   |true=>
    obtain⟨g1,g2⟩:=FL.mp e;have g3:=g2 t (eG ht);rcases f3 with⟨rfl,rfl⟩|⟨u,h0,hu,rfl⟩
    ·lia
    ·have:=g1 (i-1) u t hu (by rw[show i-1+1=i by exact Fp ‹_›];exact ht)
     lia
  nofun
  all_goals first
   |(rw[bad (by lia)]at k;exact k)
   |(refine⟨rfl,t.1,_,_,_,rfl,λ k t1 t2 hk h1 h2=>?_,λ k t1 hk h1=>?_,.inr ⟨t,by simp,ht,rfl⟩⟩
     ·by_cases e:k+1=i
      ·subst e;rw[ht]at h2;cases h2;rcases f3 with⟨z,_⟩|⟨u,_,hu,e3⟩
       ·trivial
       ·rw[Fl,h1]at hu;cases hu
        simp_all
      ·exact f1 k t1 t2 (by lia) h1 h2
     ·by_cases e:k=i
      ·subst e;rw[ht]at h1;cases h1
       lia
      ·exact f2 k t1 (by lia) h1)
 ·rintro σ H' ⟨rfl,tb,v1,v2,v3,rfl,f1,f2,f3⟩;symm;have hl:=bw hp;have e:iy l n=true:=FL.mpr ⟨λ k t u ht hu=>f1 k t u (by rw[a_];have:=(bC.mp hu).1;simp_all) ht hu,λ t ht=>by
   obtain⟨k,hk,e⟩:=AU.mp ht;exact f2 k t (by rw[a_];simp_all) (by rw[bI hk,e])⟩
  rw[e]at k;exact k
section
inductive u_(K:W.Frag)(n:Nat)(vs:List V)(H:Hp)(Q:VK)(E:XK):Prop
 |mk (a:Addr) (b:List UInt8):vs=[.ref a]->ah K H a (bs b)->n+1<b.length->Q (.int (u16 b n:Nat)) H->u_ K n vs H Q E
abbrev Io:=Kn P w K mg Ba "units_of" ["head"] 2 (u_ K 18)
abbrev yp:=Kn P w K mg Ba "glyph_count_of" ["maxp"] 2 (u_ K 4)
abbrev Im:=Kn P w K mg Ba "metric_count_of" ["hhea"] 2 (u_ K 34)
abbrev Ij:=Kn P w K mg Ba "place_form_of" ["head"] 2 (u_ K 50)
def NQ{K:W.Frag}{H:Hp}{Q:VK}{E:XK}{a:Addr}{b:List UInt8}{n:Nat}(h:ah K H a (bs b))(l:n+1<b.length)(q:Q (.int (u16 b n:Nat)) H):u_ K n [.ref a] H Q E:=⟨a,b,rfl,h,l,q⟩
local macro_rules|`(tactic|walk_at "u")=>`(tactic|((with_reducible refine' NQ ?a ?b ?_);(case a=>walk_at "s");(case b=>lia)))
local macro_rules|`(tactic|walk_at "1")=>`(tactic|((with_reducible refine' Qn ?a ?b ?_);(case a=>assumption);(case b=>assumption)))
def mV(H:Hp)(kvs:List (Key×V))(s:Str)(b:List UInt8):Prop:=∃a,aE kvs (.inr s)=some (.ref a)/\H a=some (.lst (bs b))
def TabAt(H:Hp)(d:Addr)(T:iI):Prop:=∃kvs,o_ (H d=some (.dK kvs)) (mV H kvs "cmap" T.cmap) (mV H kvs "glyf" T.glyf) (mV H kvs "head" T.head) (mV H kvs "hhea" T.hhea) (mV H kvs "hmtx" T.hmtx) (mV H kvs "loca" T.loca) (mV H kvs "maxp" T.maxp)
def TabAt.same{H H':Hp}{d:Addr}{T:iI}(h:TabAt H d T)(s:aq H H'):TabAt H' d T:=by obtain⟨kvs,h0,⟨a1,b1,d1⟩,⟨a2,b2,d2⟩,⟨a3,b3,d3⟩,⟨a4,b4,d4⟩,⟨a5,b5,d5⟩,⟨a6,b6,d6⟩,⟨a7,b7,d7⟩⟩:=h;exact⟨kvs,s _ _ h0,⟨a1,b1,s _ _ d1⟩,⟨a2,b2,s _ _ d2⟩,⟨a3,b3,s _ _ d3⟩,⟨a4,b4,s _ _ d4⟩,⟨a5,b5,s _ _ d5⟩,⟨a6,b6,s _ _ d6⟩,⟨a7,b7,s _ _ d7⟩⟩
def Xk(g:aK mg)(d:Df K mg "units_of" (top 35) ["head"])(aS:fG P w K mg Ba):Io:=by refine d.ok ["head"] λ H Q E hr h nN=>?_;obtain⟨a,b,rfl,qa,hl,k⟩:=h;refine⟨_,(ak (ay (pk aS hr (aa (pv 0) (aa af ae))))),?_⟩;symm;exact k
def VO(g:aK mg)(d:Df K mg "place_form_of" (top 36) ["head"])(aS:fG P w K mg Ba):Ij:=by refine d.ok ["head"] λ H Q E hr h nN=>?_;obtain⟨a,b,rfl,qa,hl,k⟩:=h;refine⟨_,(ak (ay (pk aS hr (aa (pv 0) (aa af ae))))),?_⟩;symm;exact k
def VB(g:aK mg)(d:Df K mg "glyph_count_of" (top 38) ["maxp"])(aS:fG P w K mg Ba):yp:=by refine d.ok ["maxp"] λ H Q E hr h nN=>?_;obtain⟨a,b,rfl,qa,hl,k⟩:=h;refine⟨_,(ak (ay (pk aS hr (aa (pv 0) (aa af ae))))),?_⟩;symm;exact k
def Vs(g:aK mg)(d:Df K mg "metric_count_of" (top 40) ["hhea"])(aS:fG P w K mg Ba):Im:=by refine d.ok ["hhea"] λ H Q E hr h nN=>?_;obtain⟨a,b,rfl,qa,hl,k⟩:=h;refine⟨_,(ak (ay (pk aS hr (aa (pv 0) (aa af ae))))),?_⟩;symm;exact k
inductive G9(K:W.Frag)(t:List UInt8->Bool)(vs:List V)(H:Hp)(Q:VK)(E:XK):Prop
 |mk (a:Addr) (b:List UInt8):vs=[.ref a]->ah K H a (bs b)->Q (.bl (t b)) H->G9 K t vs H Q E
abbrev QH:=Kn P w K mg Ba "head_is_good" ["head"] 3 (G9 K mM)
abbrev QG:=Kn P w K mg Ba "maxp_is_good" ["maxp"] 3 (G9 K mJ)
def VZ(g:aK mg)(d:Df K mg "head_is_good" (top 34) ["head"])(gS:vp P w K mg Ba)(uQ:Io)(ub:Ij):QH:=by
 refine d.ok ["head"] λ H Q E hr h nN=>?_;obtain⟨a,b,rfl,qa,k⟩:=h;unfold mM at k;refine⟨_,(ag (aI (PW.pt (gX (aB cW (bX bZ g.bS (aa (pv 0) ae)) af) (jv (aB gZ (pk gS hr (aa (pv 0) (aa af ae))) af)))) (ak (ay gY)) aM) (ak (ay (HI (Nl d9 d9 af (pk uQ hr (aa (pv 0) ae)) af) (HG (oM d9 (pk ub hr (aa (pv 0) ae)) af)))))),?_⟩
 nofun
 all_goals first
  |(refine Dc k ?_;simp;lia)
  |skip
def VY(g:aK mg)(d:Df K mg "maxp_is_good" (top 37) ["maxp"])(kb:yp):QG:=by
 refine d.ok ["maxp"] λ H Q E hr h nN=>?_;obtain⟨a,b,rfl,qa,k⟩:=h;unfold mJ at k;refine⟨_,(ak (ay (HI (oM yk (bX bZ g.bS (aa (pv 0) ae)) af) (HG (oM dO (pk kb hr (aa (pv 0) ae)) af))))),?_⟩
 nofun
 all_goals first
  |(refine Dc k ?_;simp;lia)
  |skip
inductive O4(vs:List V)(H:Hp)(Q:VK)(E:XK):Prop
 |mk (d:Addr) (T:iI):vs=[.ref d]->TabAt H d T->mJ T.maxp=true->Q (.bl (pK T)) H->O4 vs H Q E
abbrev QF:=Kn P w K mg Ba "metrics_are_good" ["tables"] 3 O4
def Vk(g:aK mg)(d:Df K mg "metrics_are_good" (top 39) ["tables"])(kb:yp)(tY:Im):QF:=by
 refine d.ok ["tables","glyphs","metrics"] λ H Q E hr h nN=>?_;obtain⟨d,T,rfl,⟨kvs,hd,⟨a1,b1,d1⟩,⟨a2,b2,d2⟩,⟨a3,b3,d3⟩,⟨a4,b4,d4⟩,⟨a5,b5,d5⟩,⟨a6,b6,d6⟩,⟨a7,b7,d7⟩⟩,JJ,k⟩:=h;have q4:ah K H a4 (bs T.hhea):=ah.of d4;have q5:ah K H a5 (bs T.hmtx):=ah.of d5;have q7:ah K H a7 (bs T.maxp):=ah.of d7;have m1:=dY JJ;unfold pK at k;refine⟨_,(ag (aI (aB cW (bX bZ g.bS (aa (gk (cR hr) (pv 0) du (λ _ _=>rfl)) ae)) af) (ak (ay gY)) aM) (ag (au 1 nN (pk kb hr (aa (gk (cR hr) (pv 0) du (λ _ _=>rfl)) ae))) (ag (au 2 nN (pk tY hr (aa (gk (cR hr) (pv 0) du (λ _ _=>rfl)) ae))) (ag (aI (PW.pt (gX (aB dw (pv 2) af) (jv (aB dO (pv 2) (pv 1))))) (ak (ay gY)) aM) (ak (ay (oM d9 (aj aJ (aj aR af (pv 2)) (aj aR af (aj cJ (pv 1) (pv 2)))) (bX bZ g.bS (aa (gk (cR hr) (pv 0) du (λ _ _=>rfl)) ae))))))))),?_⟩;refine dH (σ':=[some (.ref d),none,none]) rfl ?_
 nofun
 all_goals (refine Dc k ?_;simp;lia)
inductive O2(vs:List V)(H:Hp)(Q:VK)(E:XK):Prop
 |mk (d:Addr) (T:iI):vs=[.ref d]->TabAt H d T->mJ T.maxp=true->mM T.head=true->T.loca.length<=100000->(∀p H',H p=none->aq H H'->H' p=some (.lst (nV (dq T)))->Q (.ref p) H')->O2 vs H Q E
abbrev Il:=Kn P w K mg Ba "places_of_tables" ["tables"] 3 O2
def Vj(g:aK mg)(d:Af K mg "places_of" "places_of_tables" (top 41) ["tables"])(kb:yp)(ub:Ij)(aS:fG P w K mg Ba)(gS:vp P w K mg Ba):Il:=by
 refine d.ok ["tables","loca","count","k"] λ H Q E hr h nN=>?_;obtain⟨d,T,rfl,⟨kvs,hd,⟨a1,b1,d1⟩,⟨a2,b2,d2⟩,⟨a3,b3,d3⟩,⟨a4,b4,d4⟩,⟨a5,b5,d5⟩,⟨a6,b6,d6⟩,⟨a7,b7,d7⟩⟩,JJ,ax,hz,k⟩:=h;have q3:ah K H a3 (bs T.head):=ah.of d3;have q6:ah K H a6 (bs T.loca):=ah.of d6;have q7:ah K H a7 (bs T.maxp):=ah.of d7;have m1:=dY JJ;have m2:=dY ax;have JM:=rR T.maxp 4;refine⟨_,(ag (au 1 nN (gk (cR hr) (pv 0) du (λ _ _=>rfl))) (ag (au 2 nN (aj aJ (pk kb hr (aa (gk (cR hr) (pv 0) du (λ _ _=>rfl)) ae)) af)) (ag (aI (aB dw (pk ub hr (aa (gk (cR hr) (pv 0) du (λ _ _=>rfl)) ae)) af) (ak (ay (iY (aB d9 (aj aR af (pv 2)) (bX bZ g.bS (aa (pv 1) ae))) (i9 rfl nN (ko rfl g.ju (aa (pv 2) ae)) (fX [("k",3)]) (λ _ _ _ _ _=>(aT 3 nN)) (λ _ _ _ _ _=>gH) (λ _ _ _ _ _=>(aj aR af (pk aS hr (aa (pv 1) (aa (aj aR af (pv 3)) ae)))))) (bo ae)))) aM) (ak (ay (iY (aB d9 (aj aR af (pv 2)) (bX bZ g.bS (aa (pv 1) ae))) (i9 rfl nN (ko rfl g.ju (aa (pv 2) ae)) (fX [("k",3)]) (λ _ _ _ _ _=>(aT 3 nN)) (λ _ _ _ _ _=>gH) (λ _ _ _ _ _=>(pk gS hr (aa (pv 1) (aa (aj aR af (pv 3)) ae))))) (bo ae))))))),?_⟩;refine dH (σ':=[some (.ref d),none,none,none]) rfl ?_
 nofun
 ·rename_i c1 c2;refine zy (n:=u16 T.maxp 4+1) λ D hD=>⟨λ i H'=>aq H H'/\H' D=some (.lst (nV ((List.range i).map λ(k:Nat)=>2*u16 T.loca (2*k)))),?_,?_,?_⟩
  ·intro H1 h1 s1;exact⟨s1,h1⟩
  ·rintro i H' hi ⟨sm,h1⟩;have q6':=sm.seq q6;refine df (iA rfl ?_);symm;rw[show V.int (2*((u16 T.loca (2*(0+i)):Nat):Int))=V.int ((2*u16 T.loca (2*i):Nat):Int) by rw[EU];rw[Aw];rfl];refine gM h1 (by rw[cV,aV,iS,aL];lia) λ H5 h5 b5=>⟨b5.same sm hD,?_⟩;rw[h5,<- xR,nO,fw];rfl
  ·rintro H' ⟨sm,h1⟩;refine k D H' hD sm ?_;rw[h1];unfold dq;rw[ao (by simp_all),ao (by exact wO.mp ‹_›)]
 ·rename_i c1 c2;refine aZ (lz (by simp)) λ p H1 n1 h1 s1=>?_;refine k p H1 n1 s1 ?_;rw[h1];unfold dq;rw[ao (by lia),ai (by lia)];rfl
 ·rename_i c1 c2;refine zy (n:=u16 T.maxp 4+1) λ D hD=>⟨λ i H'=>aq H H'/\H' D=some (.lst (nV ((List.range i).map λ(k:Nat)=>u32 T.loca (4*k)))),?_,?_,?_⟩
  ·intro H1 h1 s1;exact⟨s1,h1⟩
  ·rintro i H' hi ⟨sm,h1⟩;have q6':=sm.seq q6;refine df (iA rfl ?_);symm;rw[show V.int (((u32 T.loca (4*(0+i)):Nat):Int))=V.int ((u32 T.loca (4*i):Nat):Int) by rw[EU]];refine gM h1 (by rw[cV,aV,iS,aL];lia) λ H5 h5 b5=>⟨b5.same sm hD,?_⟩;rw[h5,<- xR,nO,fw];rfl
  ·rintro H' ⟨sm,h1⟩;refine k D H' hD sm ?_;rw[h1];unfold dq;rw[ai (by simp_all),ao (by exact wO.mp ‹_›)]
 ·rename_i c1 c2;refine aZ (lz (by simp)) λ p H1 n1 h1 s1=>?_;refine k p H1 n1 s1 ?_;rw[h1];unfold dq;rw[ai (by lia),ai (by lia)];rfl
inductive O3(vs:List V)(H:Hp)(Q:VK)(E:XK):Prop
 |mk (a:Addr) (l:List Nat) (n:Nat):vs=[.ref a,.int n]->H a=some (.lst (nV l))->Q (.bl (placesOk l n)) H->O3 vs H Q E
abbrev QE:=Kn P w K mg Ba "places_are_good" ["places","glyf_size"] 1 O3
def A5{l:List Nat}{n:Nat}:placesOk l n=true↔l≠ []/\(∀(i x y:Nat),l[i]?=some x->l[i+1]?=some y->x<=y)/\ ∀x,l[l.length-1]?=some x->x<=n:=by
 unfold placesOk;rw[cI,cI,gF,gF,K3];refine E6 λ bH=>E6 λ _=>?_;rw[pF,xw];constructor
 ·intro h x hx;rw[hx]at h;exact h
 ·intro h;cases e:l[l.length-1]? with
  |none=>exact cP _
  |some x=>exact h x e
def Vo(g:aK mg)(d:Df K mg "places_are_good" (top 43) ["places","glyf_size"]):QE:=by
 refine d.ok ["places","glyf_size","place_before","place"] λ H Q E hr h nN=>?_;obtain⟨a,l,n,rfl,ha,k⟩:=h;have qa:ah K H a (nV l):=ah.of ha;refine⟨_,(ag (aI (aB dw (bX bZ g.bS (aa (pv 0) ae)) af) (ak (ay gY)) aM) (ag (au 2 nN af) (ag (fJ (c_ (pv 0)) (aT 3 nN) (ag (aI (aB cW (pv 3) (pv 2)) (ak (ay gY)) aM) (ak (au 2 nN (pv 3))))) (ak (ay (oM d9 (pv 2) (pv 1))))))),?_⟩;refine dH (σ':=[some (.ref a),some (.int n),none,none]) rfl ?_;have no: ∀P:Prop,(placesOk l n=true->False)->Q (.bl false) H:=λ _ h=>by
  cases e:placesOk l n with
  |false=>rw[e]at k;exact k
  |true=>exact(h e).elim
 symm;by_cases c1:l.length=0
 ·rw[show decide ((l.length:Int)=0)=true from cQ (by norm_cast)];symm;refine no True λ h=>(A5.mp h).1 (km.mp c1)
 rw[show decide ((l.length:Int)=0)=false from cH (by norm_cast)];symm;refine L2.Rd.fl (xs:=nV l) (λ i σ H'=>H=H'/\wC λ(pb:Nat)(v1:Option V)=>mf (σ=[some (.ref a),some (.int n),some (.int pb),v1]) (∀(k x y:Nat),k+1<i->l[k]?=some x->l[k+1]?=some y->x<=y) ((i=0/\pb=0)\/(0<i/\l[i-1]?=some pb))) ?_ ?_ ?_ ?_
 ·exact⟨rfl,0,none,rfl,λ k x y h=>by simp_all,.inl ⟨rfl,rfl⟩⟩
 ·rintro i σ H' _ ⟨rfl,_⟩;exact qa
 ·rintro i x σ H' hx ⟨rfl,pb,v1,rfl,f1,f2⟩;obtain⟨p,hp,rfl⟩:=lE.mp hx
  nofun
  ·rename_i c2;refine no True λ h=>?_;rcases f2 with⟨_,z⟩|⟨z,y⟩
   ·lia
   ·have:=(A5.mp h).2.1 (i-1) pb p y (by rw[show i-1+1=i by exact Fp ‹_›];exact hp)
    lia
  ·rename_i c2;refine⟨rfl,p,_,rfl,λ k x y hk tm hy=>?_,.inr ⟨by simp,hp⟩⟩;by_cases e:k+1=i
   ·subst e;rw[hp]at hy;cases hy;rcases f2 with⟨z,_⟩|⟨_,z⟩
    ·trivial
    ·rw[Fl,tm]at z;cases z
     simp_all
   ·exact f1 k x y (by lia) tm hy
 ·rintro σ H' ⟨rfl,pb,v1,rfl,f1,f2⟩;rw[cV]at f1 f2;symm;refine qb k ?_;rw[ki,gF,A5];have f3:l[l.length-1]?=some pb:=by
   rcases f2 with⟨z,_⟩|⟨_,z⟩
   ·exact absurd z c1
   ·exact z
  constructor
  ·intro h;refine⟨λ z=>c1 (by rw[z];rfl),λ i x y hx hy=>f1 i x y ((bC.mp hy).1) hx hy,λ x hx=>?_⟩;rw[f3]at hx;cases hx
   simp_all
  ·rintro⟨_,_,h⟩;have:=h pb f3
   simp_all
noncomputable def u9 (T:iI):Int:=if mM T.head=false then-4 else if mJ T.maxp=false then-5 else if pK T=false then-6 else if placesOk (dq T) T.glyf.length=false then-7 else if oj T.cmap=false then-8 else 0
inductive NZ(vs:List V)(H:Hp)(Q:VK)(E:XK):Prop
 |mk (d:Addr) (T:iI):vs=[.ref d]->TabAt H d T->T.loca.length<=100000->(∀H',aq H H'->Q (.int (u9 T)) H')->NZ vs H Q E
abbrev Sm:=Kn P w K mg Ba "tables_refusal" ["tables"] 8 NZ
theorem Vz(g:aK mg)(d:Df K mg "tables_refusal" (top 33) ["tables"])(EF:QH)(EE:QG)(Ej:QF)(Em:QE)(tX:Il)(EI:Kn P w K mg Ba "cmap_is_good" ["cmap"] 7 (Gn K)):Sm:=by
 refine d.ok ["tables"] λ H Q E hr h nN=>?_;obtain⟨d,T,rfl,TA,hz,k⟩:=h;obtain⟨kvs,hd,⟨a1,b1,d1⟩,⟨a2,b2,d2⟩,⟨a3,b3,d3⟩,⟨a4,b4,d4⟩,⟨a5,b5,d5⟩,⟨a6,b6,d6⟩,⟨a7,b7,d7⟩⟩:=id TA;have kk: ∀z,u9 T=z-> ∀H',aq H H'->Q (.int z) H':=λ z e H' s=>by rw[<- e];exact k H' s
 unfold u9 at kk;refine⟨_,(ag (aI (iB (gJ (pk EF hr (aa (gk (cR hr) (pv 0) du (λ _ _=>rfl)) ae)))) (ak (ay (fe fL af))) aM) (ag (aI (iB (gJ (pk EE hr (aa (gk (cR hr) (pv 0) du (λ _ _=>rfl)) ae)))) (ak (ay (fe fL af))) aM) (ag (aI (iB (gJ (pk Ej hr (aa (pv 0) ae)))) (ak (ay (fe fL af))) aM) (ag (aI (iB (gJ (pk Em hr (aa (pk tX hr (aa (pv 0) ae)) (aa (bX bZ g.bS (aa (gk (cR hr) (pv 0) du (λ _ _=>rfl)) ae)) ae))))) (ak (ay (fe fL af))) aM) (ag (aI (iB (gJ (pk EI hr (aa (gk (cR hr) (pv 0) du (λ _ _=>rfl)) ae)))) (ak (ay (fe fL af))) aM) (ak (ay af))))))),?_⟩;symm;refine⟨a3,T.head,rfl,ah.of d3,?_⟩;symm;cases c1:mM T.head with
 |false=>
  symm;exact kk _ (by rw[c1];rfl) H λ _ _ h=>h
 |true=>
 symm;refine⟨a7,T.maxp,rfl,ah.of d7,?_⟩;symm;cases c2:mJ T.maxp with
 |false=>
  symm;exact kk _ (by rw[c1,c2];rfl) H λ _ _ h=>h
 |true=>
 symm;refine⟨d,T,rfl,TA,c2,?_⟩;symm;cases c3:pK T with
 |false=>
  symm;exact kk _ (by rw[c1,c2,c3];rfl) H λ _ _ h=>h
 |true=>
 symm;refine⟨d,T,rfl,TA,c2,c1,hz,λ p H1 n1 s1 h1=>?_⟩;have cN:=s1 _ _ hd;have q2:ah K H1 a2 (bs T.glyf):=ah.of (s1 _ _ d2);symm;refine⟨p,dq T,T.glyf.length,rfl,h1,?_⟩;symm;cases c4:placesOk (dq T) T.glyf.length with
 |false=>
  symm;exact kk _ (by rw[c1,c2,c3,c4];rfl) H1 s1
 |true=>
 symm;refine⟨a1,T.cmap,rfl,ah.of (s1 _ _ d1),λ H2 s2=>?_⟩;symm;have ec:(kf T.cmap&&iZ (Mx.tableOf T.cmap))=oj T.cmap:=rfl;rw[ec];cases c5:oj T.cmap with
 |false=>
  symm;exact kk _ (by rw[c1,c2,c3,c4,c5];rfl) H2 (s1.trans s2)
 |true=>
  symm;exact kk _ (by rw[c1,c2,c3,c4,c5];rfl) H2 (s1.trans s2)
end
noncomputable def jV (v:Vw):List (Str×V):=[("size",.int v.S),("width",.int v.w),("columns",.int (4*v.w)),("rows",.int (4*v.h)),("margin",.int v.M),("spacing",.int v.D),("left",.int v.left),("top",.int v.top)]
def jx(c:Cs)(H:Hp)(a:Addr)(v:Vw):Prop:=∃dx,H a=some (.ins c.View dx (jV v))
inductive GB(c:Cs)(vs:List V)(H:Hp)(Q:VK)(E:XK):Prop
 |mk (x dx:Addr) (v:Vw):vs=[.ref x,.int v.U,.int v.S,.int v.w,.int v.h,.int v.x0,.int v.y0]->v.Ok->H x=some (.ins c.View dx [])->(∀H',H' x=some (.ins c.View dx (jV v))->bh x H H'->Q .aG H')->GB c vs H Q E
abbrev Rh:=nF P w K mg Ba "View" c.View ["self","units","size","w","h","x0","y0"] 1 (GB c)
def CH{H:Hp}{Q:VK}{g:Int->Int->V}{a b:Int}(c:Jm a b)(q:Q (g a b) H):rI Jm g (.int a) (.int b) H Q:=⟨a,b,rfl,rfl,c,q⟩
def W6(g:aK mg)(tc:aW P w K mg c)(d:nI K mg "View" c.View "View.__init__" (inClass (top 107) 0) ["self","units","size","w","h","x0","y0"]):Rh:=by refine d.ok ["self","units","size","w","h","x0","y0"] λ H Q E hr h nN=>?_;obtain⟨x,dx,v,rfl,ok,hx,k⟩:=h;have u2:=ok.u2;refine⟨_,(ag (cj tc.cD tc.xW (pv 0) (pv 2)) (ag (cj tc.cD tc.Oz (pv 0) (pv 3)) (ag (cj tc.cD tc.xE (pv 0) (aj aR (aX g.Bq) (pv 3))) (ag (cj tc.cD tc.B2 (pv 0) (aj aR (aX g.Bq) (pv 4))) (ag (cj tc.cD tc.rP (pv 0) (aj aR af (pv 1))) (ag (cj tc.cD tc.rL (pv 0) (aj aR af (pv 1))) (ag (cj tc.cD tc.Pg (pv 0) (aj aR (aj aR af (pv 1)) (pv 5))) (ak (cj tc.cD tc.Qu (pv 0) (aj aR (aj aR af (pv 1)) (pv 6))))))))))),?_⟩;symm;refine cb (fs':=[("size",.int v.S)]) hx rfl (by simp) λ H1 h1 b1=>?_;symm;refine cb (fs':=[("size",.int v.S),("width",.int v.w)]) h1 rfl (by simp) λ H2 h2 b2=>?_;symm;refine cb (fs':=[("size",.int v.S),("width",.int v.w),("columns",.int (4*v.w))]) h2 rfl (by simp) λ H3 h3 b3=>?_;symm;refine cb (fs':=[("size",.int v.S),("width",.int v.w),("columns",.int (4*v.w)),("rows",.int (4*v.h))]) h3 rfl (by simp) λ H4 h4 b4=>?_;symm;refine cb (fs':=[("size",.int v.S),("width",.int v.w),("columns",.int (4*v.w)),("rows",.int (4*v.h)),("margin",.int (16*v.U))]) h4 rfl (by simp) λ H5 h5 b5=>?_;symm;refine cb (fs':=[("size",.int v.S),("width",.int v.w),("columns",.int (4*v.w)),("rows",.int (4*v.h)),("margin",.int (16*v.U)),("spacing",.int (32*v.U))]) h5 rfl (by simp) λ H6 h6 b6=>?_;symm;refine cb (fs':=[("size",.int v.S),("width",.int v.w),("columns",.int (4*v.w)),("rows",.int (4*v.h)),("margin",.int (16*v.U)),("spacing",.int (32*v.U)),("left",.int (128*v.U*v.x0))]) h6 rfl (by simp) λ H7 h7 b7=>?_;symm;refine cb (fs':=[("size",.int v.S),("width",.int v.w),("columns",.int (4*v.w)),("rows",.int (4*v.h)),("margin",.int (16*v.U)),("spacing",.int (32*v.U)),("left",.int (128*v.U*v.x0)),("top",.int (128*v.U*v.y0))]) h7 rfl (by simp) λ H8 h8 b8=>?_;exact k H8 h8 λ b o e n=>b8 _ _ (b7 _ _ (b6 _ _ (b5 _ _ (b4 _ _ (b3 _ _ (b2 _ _ (b1 _ _ e n) n) n) n) n) n) n) n
inductive O0(c:Cs)(vs:List V)(H:Hp)(Q:VK)(E:XK):Prop
 |mk (a:Addr) (v:Vw) (y:Int):vs=[.ref a,.int y]->jx c H a v->v.Ok->Q (.int (vC v y:Nat)) H->O0 c vs H Q E
abbrev Q1:=Kn P w K mg Ba "row_below" ["view","y"] 1 (O0 c)
def WX(g:aK mg)(tc:aW P w K mg c)(d:Df K mg "row_below" (top 108) ["view","y"]):Q1:=by
 refine d.ok ["view","y","row"] λ H Q E hr h nN=>?_;obtain⟨a,v,y,rfl,⟨dx,ha⟩,ok,k⟩:=h;unfold jV at ha;have hD:0<v.D/\v.D<1073741824:=by unfold Vw.D;have:=ok.u1;have:=ok.u2;lia
 refine⟨_,(ag (au 2 nN (aj mG (aj aJ (pv 1) (aH tc.cD tc.rP (pv 0))) (aH tc.cD tc.rL (pv 0)))) (ak (ay (fV (BK rfl) rfl g.qh pj (aa (fV (BL rfl) rfl g.qj ph (aa (pv 2) (aa af ae))) (aa (aH tc.cD tc.B2 (pv 0)) ae)))))),?_⟩;symm;have e:=Zi v y;refine qi k ?_;rw[e];split<;>split at* <;>grind
inductive Mj(c:Cs)(vs:List V)(H:Hp)(Q:VK)(E:XK):Prop
 |mk (a:Addr) (v:Vw) (x:Int):vs=[.ref a,.int x]->jx c H a v->v.Ok->Q (.int (v.at x)) H->Mj c vs H Q E
abbrev IA:=Kn P w K mg Ba "sample_at" ["view","column"] 1 (Mj c)
def WW(g:aK mg)(tc:aW P w K mg c)(d:Df K mg "sample_at" (top 109) ["view","column"]):IA:=by
 refine d.ok ["view","column"] λ H Q E hr h nN=>?_;obtain⟨a,v,y,rfl,⟨dx,ha⟩,ok,k⟩:=h;unfold jV at ha;have hD:0<v.D/\v.D<1073741824:=by unfold Vw.D;have:=ok.u1;have:=ok.u2;lia
 refine⟨_,(ak (ay (aj aJ (aH tc.cD tc.rP (pv 0)) (aj aR (aH tc.cD tc.rL (pv 0)) (pv 1))))),?_⟩;symm;exact k
inductive Oc(c:Cs)(vs:List V)(H:Hp)(Q:VK)(E:XK):Prop
 |mk (a:Addr) (v:Vw) (b e:Int):vs=[.ref a,.int b,.int e]->jx c H a v->v.Ok->Q (.int (dG v b e:Nat)) H->Oc c vs H Q E
abbrev IB:=Kn P w K mg Ba "columns_within" ["view","begin","end"] 1 (Oc c)
def VD(g:aK mg)(tc:aW P w K mg c)(d:Df K mg "columns_within" (top 110) ["view","begin","end"]):IB:=by
 refine d.ok ["view","begin","end","first","last"] λ H Q E hr h nN=>?_;obtain⟨a,v,b,e,rfl,⟨dx,ha⟩,ok,k⟩:=h;unfold jV at ha;have hD:0<v.D/\v.D<1073741824:=by unfold Vw.D;have:=ok.u1;have:=ok.u2;lia
 refine⟨_,(ag (au 3 nN (aj mG (aj cJ (aj aJ (pv 1) (aH tc.cD tc.rP (pv 0))) af) (aH tc.cD tc.rL (pv 0)))) (ag (au 4 nN (aj mG (aj cJ (aj aJ (pv 2) (aH tc.cD tc.rP (pv 0))) af) (aH tc.cD tc.rL (pv 0)))) (ag (aI (PW.pt (gX (aB yk (pv 3) (pv 4)) (gX (aB d9 (pv 4) af) (jv (aB yk (pv 3) (aH tc.cD tc.xE (pv 0))))))) (ak (ay af)) aM) (ak (ay (aj cJ (aj B1 af (fV (BK rfl) rfl g.qh pj (aa (pv 4) (aa (aH tc.cD tc.xE (pv 0)) ae)))) (aj B1 af (fV (BL rfl) rfl g.qj ph (aa (pv 3) (aa af ae)))))))))),?_⟩;have eb:(b+v.M-1)/v.D=bK v b:=rfl;have ee:(e+v.M-1)/v.D=bK v e:=rfl;have w2:=ok.w2
 nofun
 ·rename_i c1;rw[eb,ee]at c1;refine qi k ?_;unfold dG;rw[ao (.inl c1)];rfl
 ·rename_i c1 c2;rw[eb,ee]at*;refine qi k ?_;unfold dG;rw[ao (.inr (.inl c2))];rfl
 ·rename_i c1 c2 c3;rw[eb,ee]at*;refine qi k ?_;unfold dG;rw[ao (.inr (.inr c3))];rfl
 ·rename_i c1 c2 c3;rw[eb,ee]at*;rw[show(if 4*(v.w:Int)<bK v e then 4*(v.w:Int)else bK v e)=min (bK v e) (4*v.w) by split<;>grind];refine CH ⟨by lia,by lia,by decide⟩ ?_;symm;rw[show(if bK v b<0 then 0 else bK v b)=max (bK v b) 0 by split<;>lia];refine CH ⟨by lia,by lia,by decide⟩ ?_;symm;refine qi k ?_;unfold dG;rw[ai (by simp_all)];have h:(2:Nat)^(max (bK v b) 0).toNat<=2^(min (bK v e) (4*v.w)).toNat:=AX (by decide) (by grind);rw[E5 h,wQ,wQ,Al,Al];rfl
def yN(H:Hp)(a:Addr)(n:Ln):Prop:=H a=some (.tup [.int n.b,.int n.s,.int n.d,.int n.e])
def bt(H:Hp)(a:Addr)(l:List Ln):Prop:=∃as,H a=some (.lst (rV as))/\Paired (yN H) as l
def hG.but{r p:Addr}{H H':Hp}{xs:List V}(b:bh r H H')(h:H r=some (.lst xs)){q:Corner}(e:hG H p q):hG H' p q:=b _ _ e λ z=>by subst z;have e':H p=some _:=e;rw[h]at e';cases e'
inductive F9(vs:List V)(H:Hp)(Q:VK)(E:XK):Prop
 |mk (u d:Addr) (us ds:List Int) (N:Int):vs=[.ref u,.ref d,.int N]->H u=some (.lst (iV us))->H d=some (.lst (iV ds))->us.length=ds.length->us.length<=1000000->(∀r H',H r=none->aq H H'->sM H' r (mD us ds N)->Q (.ref r) H')->F9 vs H Q E
abbrev Q2:=Kn P w K mg Ba "spans_between" ["ups","downs","begin"] 1 F9
def XD(st:List (Int×Int)×Int×Int)(p:Int×Int):(gI st p).1.length<=st.1.length+1:=by
 unfold gI;split
 ·dsimp only;split<;>simp
 ·simp
def VN(g:aK mg)(d:Df K mg "spans_between" (top 119) ["ups","downs","begin"]):Q2:=by
 refine d.ok ["ups","downs","begin","spans","end","up","down","left"] λ H Q E hr h nN=>?_;obtain⟨u,d,us,ds,N,rfl,hu,hd,hl,hz,k⟩:=h;refine⟨_,(ag (au 3 nN (bo ae)) (ag (au 4 nN (pv 2)) (ag (fJ (Hc rfl g.Ig (aa (pv 0) (aa (pv 1) ae))) (rS rfl (dm (aT 5 nN) (dm (aT 6 nN) mF))) (ag (au 7 nN (iY (aB cW (pv 5) (pv 6)) (pv 5) (pv 6))) (ag (aI (aB dO (pv 7) (pv 4)) (ag (aI (aB cW (pv 2) (pv 4)) (ak (cB (gU (pv 3) (aa (jw (aa (pv 2) (aa (pv 4) ae))) ae)))) aM) (ak (au 2 nN (pv 7)))) aM) (ak (au 4 nN (iY (aB cW (pv 5) (pv 6)) (pv 6) (pv 5))))))) (ag (aI (aB cW (pv 2) (pv 4)) (ak (cB (gU (pv 3) (aa (jw (aa (pv 2) (aa (pv 4) ae))) ae)))) aM) (ak (ay (pv 3))))))),?_⟩;symm;refine aZ (lz (by simp)) λ r H1 n1 h1 s1=>?_;symm;have qu: ∀H',aq H H'->ah K H' u (iV us):=λ H' sm=>ah.of (sm _ _ hu);have qd: ∀H',aq H H'->ah K H' d (iV ds):=λ H' sm=>ah.of (sm _ _ hd);refine z2v (qu _ s1) (qd _ s1) ?_;refine fz (xs:=iV us) (ys:=iV ds) (n:=us.length) (by rw[bG]) (by rw[bG];exact hl.symm) (λ i σ H'=>aq H H'/\kU λ(st:List (Int×Int)×Int×Int)(v1 v2 v3:Option V)(as:List Addr)=>me (σ=[some (.ref u),some (.ref d),some (.int st.2.1),some (.ref r),some (.int st.2.2),v1,v2,v3]) (st=((us.zip ds).take i).foldl gI ([],N,N)) (H' r=some (.lst (rV as))) (Paired (hG H') as st.1) (as.length<=i)) ?_ ?_ ?_ ?_
 ·exact⟨s1,([],N,N),none,none,none,[],rfl,rfl,h1,.nil,cP _⟩
 ·rintro i σ H' _ ⟨sm,_⟩;exact⟨qu _ sm,qd _ sm⟩
 ·rintro i x y σ H' e0 e1 ⟨sm,st,v1,v2,v3,as,rfl,eS,aO,has,fK⟩ T H2 nT hT s2;obtain⟨up,Dt,rfl⟩:=mK.mp e0;obtain⟨dn,hdn,rfl⟩:=mK.mp e1;have hiu:i<us.length:=(bC.mp Dt).1;have oC:(us.zip ds)[i]?=some (up,dn):=(FF (z:=(up,dn))).mpr ⟨Dt,hdn⟩;have afl:((us.zip ds).take (i+1)).foldl gI ([],N,N)=gI st (up,dn):=by rw[cA,oC,AF,<- eS];rfl
  refine mI (.inl (.inl hT)) rfl ?_;refine gV (df (gV (df (vb ?_))));have eQ:=sm.trans s2;have di:=s2 _ _ aO;have Sa:Paired (hG H2) as st.1:=Paired.a8 has λ a q z=>s2 _ _ z;have fin: ∀(C8:List (Int×Int))(b e:Int)(H3:Hp)(z6:List Addr)(v1 v2 v3:Option V),aq H H3->H3 r=some (.lst (rV z6))->Paired (hG H3) z6 C8->z6.length<=i+1->gI st (up,dn)=(C8,b,e)->
    aq H H3/\kU λ(st:List (Int×Int)×Int×Int)(w1 w2 w3:Option V)(as:List Addr)=>me ([some (.ref u),some (.ref d),some (.int b),some (.ref r),some (.int e),v1,v2,v3]=[some (.ref u),some (.ref d),some (.int st.2.1),some (.ref r),some (.int st.2.2),w1,w2,w3]) (st=((us.zip ds).take (i+1)).foldl gI ([],N,N)) (H3 r=some (.lst (rV as))) (Paired (hG H3) as st.1) (as.length<=i+1):=λ C8 b e H3 z6 v1 v2 v3 a1 a2 a3 a4 a5=>⟨a1,(C8,b,e),v1,v2,v3,z6,rfl,by rw[afl,a5],a2,a3,a4⟩
  have push: ∀H3 T3 H4,H2 T3=none->H3 T3=some (.tup [.int st.2.1,.int st.2.2])->aq H2 H3->H4 r=some (.lst (rV as++[V.ref T3]))->bh r H3 H4->aq H H4/\H4 r=some (.lst (rV (as++[T3])))/\Paired (hG H4) (as++[T3]) (st.1++[(st.2.1,st.2.2)])/\(as++[T3]).length<=i+1:=λ H3 T3 H4 a1 a2 a3 a4 a5=>
   ⟨a5.same (eQ.trans a3) n1,by rw[a4,fF],eY (Paired.a8 Sa λ a q z=>hG.but a5 (a3 _ _ di) (a3 _ _ z)) (hG.but a5 (a3 _ _ di) a2),by simp;trivial⟩
  nofun
  all_goals first
   |(refine fin _ _ _ _ _ _ _ _ eQ di Sa (by exact mv ‹_›) ?_;unfold gI Mx.lo Mx.hi;dsimp only;(repeat' split)<;>first|rfl|(exfalso;trivial))
   |skip
  all_goals refine fW (lz (by simp)) λ T3 H3 n3 h3 s3=>?_
  all_goals symm
  all_goals refine d8 (s3 _ _ di) (by rw[a_,aL];lia) λ H4 h4 b4=>?_
  all_goals obtain⟨p1,p2,p3,p4⟩:=push H3 T3 H4 n3 h3 s3 h4 b4
  all_goals nofun
  all_goals (refine fin _ _ _ _ _ _ _ _ p1 p2 p3 p4 ?_;unfold gI Mx.lo Mx.hi;dsimp only;(repeat' split)<;>first|rfl|(exfalso;lia))
 ·rintro σ H' ⟨sm,st,v1,v2,v3,as,rfl,eS,aO,has,fK⟩;rw[fE (by rw[rh];simp_all)]at eS;have ie:mD us ds N=mP st:=by unfold mD;rw[eS]
  nofun
  ·rename_i c1;refine fW (lz (by simp)) λ T3 H3 n3 h3 s3=>?_;symm;refine d8 (s3 _ _ aO) (by rw[a_,aL];lia) λ H4 h4 b4=>?_;symm;refine k r H4 n1 (b4.same (sm.trans s3) n1) ⟨as++[T3],by rw[h4,fF],?_⟩;rw[ie];unfold mP;rw[ao c1];exact eY (Paired.a8 has λ a q z=>hG.but b4 (s3 _ _ aO) (s3 _ _ z)) (hG.but b4 (s3 _ _ aO) h3)
  ·rename_i c1;refine k r H' n1 sm ⟨as,aO,?_⟩;rw[ie];unfold mP;rw[ai c1];exact has
inductive M0(vs:List V)(H:Hp)(Q:VK)(E:XK):Prop
 |mk (a:Addr) (l:List Ln) (r:Nat):vs=[.ref a,.int r]->bt H a l->(∀n∈l,0<n.d/\n.d<2^64)->r<=2000->l.length<=1000000->(∀us p H',us.Perm (l.map λ n=>n.cr r)->us.Pairwise (·<= ·)->H p=none->aq H H'->H' p=some (.lst (iV us))->Q (.ref p) H')->M0 vs H Q E
abbrev Q3:=Kn P w K mg Ba "crossings" ["lines","row"] 1 M0
def W5(g:aK mg)(d:Df K mg "crossings" (top 118) ["lines","row"]):Q3:=by
 refine d.ok ["lines","row","base","slope","depth","last"] λ H Q E hr h nN=>?_;obtain⟨a,l,r,rfl,⟨as,ha,hp⟩,hd,di,hz,k⟩:=h;have hlen:=bw hp;have qa:ah K H a (rV as):=ah.of ha;refine⟨_,(ak (ay (fV (X3 (K:=K) rfl) rfl g.ZZ boot_sorted (aa (i9 rfl nN (c_ (pv 0)) (fX [("base",2),("slope",3),("depth",4),("last",5)]) (λ _ _ _ _ _=>(BI (K:=K) (n:=4) rfl rfl (dm (aT 2 nN) (dm (aT 3 nN) (dm (aT 4 nN) (dm (aT 5 nN) mF)))))) (λ _ _ _ _ _=>gH) (λ _ _ _ _ _=>(aj GK (aj aJ (pv 2) (aj aR (pv 3) (pv 1))) (pv 4)))) ae)))),?_⟩;symm;refine m6 (xs:=rV as) λ D hD=>⟨λ i H'=>aq H H'/\H' D=some (.lst (iV ((l.map λ n=>n.cr r).take i))),?_,?_,?_,?_⟩
 ·intro H1 h1 s1;exact⟨s1,h1⟩
 ·rintro i H' _ ⟨sm,_⟩;exact sm.seq qa
 ·rintro i x H' hx ⟨sm,cE⟩;obtain⟨na,eT,rfl⟩:=dc.mp hx;obtain⟨n,hn,qO⟩:=Paired.at hp eT;obtain⟨cN,hd2⟩:=hd n (eG hn);have kO:i<l.length:=(bC.mp hn).1;refine mI (xs:=[.int n.b,.int n.s,.int n.d,.int n.e]) (aP.of (sm _ _ qO)) rfl ?_;refine gV (df (gV (df (gV (df (gV (df (vb (iA rfl ?_)))))))));symm;refine O9 ⟨cN,hd2⟩ ?_;refine gM cE (by rw[bG,gC,aV,aL];lia) λ H5 h5 b5=>?_;refine⟨b5.same sm hD,?_⟩;rw[h5,cA,fx,hn,gK];rfl
 ·rintro H' ⟨sm,cE⟩;rw[fE (by rw[aV,a_];simp_all)]at cE;symm;refine⟨D,l.map λ(n:Ln)=>n.cr r,rfl,ah.of cE,λ us p p1 p2 jf=>?_⟩;symm;exact k us p _ p1 p2 (sm.free jf) (sm.trans (eM jf _)) br
inductive Role
 |sw|dU|dD|dE|dL|lU (r:Int)|lD (r:Int)|nU|nD
abbrev gO:=Addr->Option Role
section
variable{σ:St}{H:Hp}{Q:VK}{td ty tx:TE}{a:Addr}{kvs:List (Key×V)}{k:Int}{z:V}
def adG{σ':St}{R:St->Hp->Prop}{i:Nat}{v:V}(e:σ.set i (some v)=σ')(q:R σ' H):eJ i v σ H R:=by subst e;exact q
def Sx(a:Addr)(y z:V)(H:Hp)(Q:VK):Prop:=∃o,gn H a y o/\Q (o.getD z) H
def ID(x:V)(H:Hp)(R:Addr->Prop):Prop:=∃a,x= .ref a/\D6 H a/\R a
def adS(q:td σ H λ x H1=>ID x H1 λ a=>ty σ H1 λ y H2=>tx σ H2 λ z H3=>Sx a y z H3 Q):OY td ty tx σ H Q:=q
def adK(q:td σ H λ x H1=>ID x H1 λ a=>ty σ H1 λ y H2=>tx σ H2 λ z H3=>KJ a y z H3 Q):Rt td ty tx σ H Q:=q
def afJ{R:Addr->Prop}(h:H a=some (.dK kvs))(q:R a):ID (.ref a) H R:=⟨a,rfl,.inl ⟨kvs,.inl h⟩,q⟩
def I_(h:H a=some (.dK kvs))(q:Q ((aE kvs (.inl k)).getD z) H):Sx a (.int k) z H Q:=⟨_,gn.k (k:=Sum.inl k) h,q⟩
def Jr(h:H a=some (.dK kvs))(l:kvs.length<sizeLine)(q1: ∀v,aE kvs (.inl k)=some v->Q v H)(q2:aE kvs (.inl k)=none-> ∀H1,H1 a=some (.dK (putK kvs (.inl k) z))->bh a H H1->Q z H1):KJ a (.int k) z H Q:=
 ⟨kvs,.inl k,h,l,rfl,q1,λ e=>q2 e _ br (bh.upd _)⟩
end
structure iQ(H:Hp)(ρ:gO)(d:Addr)(tag:Int->Role)(l:List (Nat×Ln)):Prop where
 ex: ∃kvs,me (H d=some (.dK kvs)) ((kvs.map (·.1)).Nodup) (∀kv∈kvs,∃r:Nat,kv.1= .inl (r:Int)/\r<=1024/\ ∃t∈l,t.1=r) (∀(r:Nat)v,aE kvs (.inl (r:Int))=some v-> ∃a,v= .ref a/\ρ a=some (tag r)/\bt H a (begun r l)) (∀r:Nat,aE kvs (.inl (r:Int))=none->begun r l=[])
def nJ(H:Hp)(d:Addr)(S:Sw):Prop:=∃kvs,wG (H d=some (.dK kvs)) ((kvs.map (·.1)).Nodup) (∀kv∈kvs,∃r:Nat,kv.1= .inl (r:Int)/\r<=1024/\ ∃t∈S.up++S.down,t.2.e=r) (∀t∈S.up++S.down,(aE kvs (.inl ((t.2.e:Nat):Int))).isSome=true)
def md(H:Hp)(d:Addr)(S:Sw):Prop:=∃kvs,me (H d=some (.dK kvs)) ((kvs.map (·.1)).Nodup) (∀kv∈kvs,∃r:Nat,kv.1= .inl (r:Int)/\r<=1024/\ ∃t∈S.left,t.1=r\/t.2.1=r) (∀t∈S.left,(aE kvs (.inl ((t.1:Nat):Int))).isSome=true/\(aE kvs (.inl ((t.2.1:Nat):Int))).isSome=true) (∀r:Nat,(aE kvs (.inl (r:Int))).getD (.int 0)= .int (gW S r))
noncomputable def gQ (N F:Int) (u d e l nu nd:Addr) (R:Int):List (Str×V):=[("nearest",.int N),("farthest",.int F),("rising",.ref u),("falling",.ref d),("ended",.ref e),("risen_left",.ref l),("rising_now",.ref nu),("falling_now",.ref nd),("risen_left_now",.int R)]
structure SwOk(S:Sw)(n:Nat):Prop where
 ln: ∀t∈S.up++S.down,t.1<t.2.e/\t.2.e<=1024/\0<t.2.d/\t.2.d<2^64
 lt: ∀t∈S.left,t.1<t.2.1/\t.2.1<=1024/\ -1<=t.2.2/\t.2.2<=1
 sz:S.up.length+S.down.length+S.left.length<=n
structure dP(c:Cs)(H:Hp)(sw:Addr)(ρ:gO)(S:Sw)(N F:Int)(nU nD:List Ln)(R:Int):Prop where
 ex:tS λ dx u d e l nu nd=>o_ (H sw=some (.ins c.Sweep dx (gQ N F u d e l nu nd R))) (ρ sw=some .sw/\ρ u=some .dU/\ρ d=some .dD/\ρ e=some .dE/\ρ l=some .dL/\ρ nu=some .nU/\ρ nd=some .nD) (iQ H ρ u .lU S.up) (iQ H ρ d .lD S.down) (nJ H e S) (md H l S) (bt H nu nU) (bt H nd nD)
 al: ∀a,ρ a≠none->H a≠none
 nt: ∀a,ρ a≠none-> ∀z,H a≠some (.tup z)
def yL(H:Hp)(a:Addr)(p:Pl):Prop:=H a=some (.tup [.int p.x,.int p.y,.int p.r])
section
variable{H H':Hp}{ρ ρ':gO}{d d2 a b:Addr}{tag:Int->Role}{l:List (Nat×Ln)}{S:Sw}{ls:List Ln}
def bt.fZ{Z:Addr->Prop}(x:az Z H H')(n: ∀y,Z y-> ∀z,H y≠some (.tup z))(hb: ¬Z b)(h:bt H b ls):bt H' b ls:=by obtain⟨as,h1,h2⟩:=h;exact⟨as,x _ _ h1 hb,Paired.a8 h2 λ a q z=>x _ _ z λ y=>n _ y _ z⟩
def iQ.keep(D:iQ H ρ d tag l)(hd: ∀o,H d=some o->H' d=some o)(hl: ∀(r:Nat)b x,ρ b=some (tag r)->bt H b x->ρ' b=some (tag r)/\bt H' b x):iQ H' ρ' d tag l:=by obtain⟨kvs,h1,h2,h3,h4,h5⟩:=D.ex;refine⟨⟨kvs,hd _ h1,h2,h3,λ r v e=>?_,h5⟩⟩;obtain⟨a,e1,e2,e3⟩:=h4 r v e;obtain⟨g1,g2⟩:=hl r a _ e2 e3;exact⟨a,e1,g1,g2⟩
def L_(r f:Nat)(n:Ln):begun r (l++[(f,n)])=begun r l++if f=r then [n]else []:=by
 unfold begun;rw[Fj,fw]
 congr 1
 rw[rD];by_cases h:f=r
 ·simp[h]
 ·simp[h]
def Br(r:Nat)(l:List (Nat×Ln)):(begun r l).length<=l.length:=by unfold begun;rw[aV];exact xn _ _
def pQ{kvs:List (Key×V)}{k:Key}{v:V}(nd:(kvs.map (·.1)).Nodup):((putK kvs k v).map (·.1)).Nodup:=by
 rcases Bw (kvs:=kvs) (k:=k) (v:=v)with⟨e,_⟩|⟨_,e⟩
 ·exact Oy _ nd e
 ·rw[e];exact nd
def pM{kvs:List (Key×V)}{k:Key}{v:V}{kv:Key×V}(h:kv∈putK kvs k v):kv.1=k\/ ∃ic∈kvs,ic.1=kv.1:=by
 rcases Bw (kvs:=kvs) (k:=k) (v:=v)with⟨_,e⟩|⟨_,e⟩
 ·rw[e]at h;rcases bJ.mp h with z|z
  ·exact .inr ⟨kv,z,rfl⟩
  ·simp at z;subst z;exact .inl rfl
 ·have:kv.1∈kvs.map (·.1):=by rw[<- e];exact bF.mpr ⟨kv,h,rfl⟩
  obtain⟨ic,h1,h2⟩:=bF.mp this;exact .inr ⟨ic,h1,h2⟩
def lA{a b:Nat}:((.inl (a:Int):Key)= .inl (b:Int))↔a=b:=by
 constructor
 ·intro h;have:=wM h;exact uk ‹_›
 ·intro h;rw[h]
def iQ.app{kvs:List (Key×V)}{f:Nat}{n:Ln}(hf:f<=1024)(h2:(kvs.map (·.1)).Nodup)(h3: ∀kv∈kvs,∃r:Nat,kv.1= .inl (r:Int)/\r<=1024/\ ∃t∈l,t.1=r)(h4: ∀(r:Nat)v,aE kvs (.inl (r:Int))=some v-> ∃a,v= .ref a/\ρ a=some (tag r)/\bt H a (begun r l))(h5: ∀r:Nat,aE kvs (.inl (r:Int))=none->begun r l=[])
  (fq:H' d=some (.dK (putK kvs (.inl (f:Int)) (.ref a))))(ha:bt H' a (begun f l++[n]))(hr:ρ' a=some (tag f))(hl: ∀(r:Nat)b x,r≠f->ρ b=some (tag r)->bt H b x->ρ' b=some (tag r)/\bt H' b x):iQ H' ρ' d tag (l++[(f,n)]):=by
 refine⟨⟨_,fq,pQ h2,λ kv gb=>?_,λ r v e=>?_,λ r e=>?_⟩⟩
 ·rcases pM gb with z|⟨ic,z1,z2⟩
  ·exact⟨f,z,hf,(f,n),by simp,rfl⟩
  ·obtain⟨r,g1,g2,t,g3,g4⟩:=h3 ic z1;exact⟨r,by rw[<- z2];exact g1,g2,t,eZ _ g3,g4⟩
 ·rw[L_];rw[iw]at e;split at e
  ·rename_i z;have:r=f:=lA.mp z;subst this;cases e;rw[ao rfl];exact⟨a,rfl,hr,ha⟩
  ·rename_i z;have Dz: ¬f=r:=λ y=>z (by rw[y]);rw[ai Dz,cG];obtain⟨b,e1,e2,e3⟩:=h4 r v e;obtain⟨g1,g2⟩:=hl r b _ (λ y=>Dz y.symm) e2 e3;exact⟨b,e1,g1,g2⟩
 ·rw[iw]at e;split at e
  ·cases e
  ·rename_i z;have Dz: ¬f=r:=λ y=>z (by rw[y]);rw[L_,ai Dz,cG];exact h5 r e
theorem xG{kvs:List (Key×V)}{a:Key×V}(nd:(kvs.map (·.1)).Nodup)(h:a∈kvs):aE kvs a.1=some a.2:=by
 induction kvs with
 |nil=>cases h
 |cons b r ih=>
  rw[cF,kh]at nd;unfold aE;rw[rm];rcases bV.mp h with z|z
  ·subst z;simp
  ·have hn: ¬b.1=a.1:=λ y=>nd.1 (by rw[y];exact bF.mpr ⟨a,z,rfl⟩);rw[cH hn];exact ih nd.2 z
def Mo{kvs:List (Key×V)}{k:Key}{v:V}(nd:(kvs.map (·.1)).Nodup)(h:aE kvs k=some v):putK kvs k v=kvs:=by
 unfold putK;rw[mB,h,ao (show(some v).isSome=true from rfl)]
 conv=>rhs;rw[<- List.map_id kvs]
 apply k_;intro a ha;split
 ·rename_i e;have:=xG nd ha;rw[e,h]at this;cases a;simp at this e⊢;exact this.symm▸rfl
 ·rfl
def nJ.add{kvs:List (Key×V)}{S S':Sw}{t0:Nat×Ln}(hb:t0.2.e<=1024)(h2:(kvs.map (·.1)).Nodup)(h3: ∀kv∈kvs,∃r:Nat,kv.1= .inl (r:Int)/\r<=1024/\ ∃t∈S.up++S.down,t.2.e=r)(h4: ∀t∈S.up++S.down,(aE kvs (.inl ((t.2.e:Nat):Int))).isSome=true)
  (hS: ∀t,t∈S'.up++S'.down↔t∈S.up++S.down\/t=t0)(hd:H' d=some (.dK (putK kvs (.inl ((t0.2.e:Nat):Int)) (.bl true)))):nJ H' d S':=by
 refine⟨_,hd,pQ h2,λ kv gb=>?_,λ t ht=>?_⟩
 ·rcases pM gb with z|⟨ic,z1,z2⟩
  ·exact⟨t0.2.e,z,hb,t0,(hS t0).mpr (.inr rfl),rfl⟩
  ·obtain⟨r,g1,g2,t,g3,g4⟩:=h3 ic z1;exact⟨r,by rw[<- z2];exact g1,g2,t,(hS t).mpr (.inl g3),g4⟩
 ·rw[iw];split
  ·rfl
  ·rename_i z;rcases(hS t).mp ht with y|y
   ·exact h4 t y
   ·exact absurd (by rw[y]) z
def md.add{kvs:List (Key×V)}{f e:Nat}{way:Int}(hfe:f<e)(he:e<=1024)(h2:(kvs.map (·.1)).Nodup)(h3: ∀kv∈kvs,∃r:Nat,kv.1= .inl (r:Int)/\r<=1024/\ ∃t∈S.left,t.1=r\/t.2.1=r)
  (h4: ∀t∈S.left,(aE kvs (.inl ((t.1:Nat):Int))).isSome=true/\(aE kvs (.inl ((t.2.1:Nat):Int))).isSome=true)(h5: ∀r:Nat,(aE kvs (.inl (r:Int))).getD (.int 0)= .int (gW S r))
  (hd:H' d=some (.dK (putK (putK kvs (.inl (f:Int)) (.int (gW S f+way))) (.inl (e:Int)) (.int (gW S e-way))))):md H' d {S with left:=S.left++[(f,e,way)]}:=by
 have hv: ∀r:Nat,aE (putK (putK kvs (.inl (f:Int)) (.int (gW S f+way))) (.inl (e:Int)) (.int (gW S e-way))) (.inl (r:Int))=if r=e then some (.int (gW S e-way))else if r=f then some (.int (gW S f+way))else aE kvs (.inl (r:Int)):=by intro r;rw[iw,iw];simp only[lA]
 refine⟨_,hd,pQ (pQ h2),λ kv gb=>?_,λ t ht=>?_,λ r=>?_⟩
 ·rcases pM gb with z|⟨ic,z1,z2⟩
  ·exact⟨e,z,he,(f,e,way),by simp,.inr rfl⟩
  ·rcases pM z1 with z|⟨Dn,z3,z4⟩
   ·exact⟨f,by rw[<- z2];exact z,by exact eh (dJ ‹_› ‹_›),(f,e,way),by simp,.inl rfl⟩
   ·obtain⟨r,g1,g2,t,g3,g4⟩:=h3 Dn z3;exact⟨r,by rw[<- z2,<- z4];exact g1,g2,t,eZ _ g3,g4⟩
 ·rw[hv,hv];rcases bJ.mp ht with y|y
  ·obtain⟨g1,g2⟩:=h4 t y;constructor
   ·split
    ·rfl
    ·split
     ·rfl
     ·exact g1
   ·split
    ·rfl
    ·split
     ·rfl
     ·exact g2
  ·simp at y;subst y;constructor
   ·dsimp only;rw[ai (by exact ek ‹_›),ao rfl];rfl
   ·dsimp only;rw[ao rfl];rfl
 ·rw[hv];have e1:gW {S with left:=S.left++[(f,e,way)]} r=gW S r+((if f=r then way else 0)-(if e=r then way else 0)):=by
   unfold gW;simp
  rw[e1];by_cases c1:r=e
  ·rw[ao c1,ai (by lia),ao c1.symm,c1];simp;rfl
  ·rw[ai c1];by_cases c2:r=f
   ·rw[ao c2,ao c2.symm,ai (by lia),c2];simp
   ·rw[ai c2,ai (by lia),ai (by lia),h5 r];simp
def nJ.keep{e:Addr}{S S':Sw}(D:nJ H e S)(hd: ∀o,H e=some o->H' e=some o)(hS: ∀t,t∈S'.up++S'.down↔t∈S.up++S.down):nJ H' e S':=by obtain⟨kvs,h1,h2,h3,h4⟩:=D;refine⟨kvs,hd _ h1,h2,λ kv gb=>?_,λ t ht=>h4 t ((hS t).mp ht)⟩;obtain⟨r,g1,g2,t,g3,g4⟩:=h3 kv gb;exact⟨r,g1,g2,t,(hS t).mpr g3,g4⟩
def md.keep{e:Addr}{S S':Sw}(D:md H e S)(hd: ∀o,H e=some o->H' e=some o)(hS:S'.left=S.left):md H' e S':=by obtain⟨kvs,h1,h2,h3,h4,h5⟩:=D;unfold md gW;rw[hS];exact⟨kvs,hd _ h1,h2,h3,h4,h5⟩
theorem bt.lst(h:bt H b ls): ∃xs,H b=some (.lst xs):=let⟨_,h1,_⟩:=h;⟨_,h1⟩
def xI{Z:Addr->Prop}(x:az Z H H')(hz: ∀a,Z a->H' a≠none){a:Addr}(h:H a≠none):H' a≠none:=by
 by_cases c:Z a
 ·exact hz a c
 ·cases e:H a with
  |none=>exact absurd e h
  |some u=>rw[x _ _ e c];simp
def xQ{Z:Addr->Prop}(x:az Z H H')(al: ∀a,ρ a≠none->H a≠none)(nt: ∀a,ρ a≠none-> ∀z,H a≠some (.tup z))(hz: ∀a,Z a-> ∀z,H' a≠some (.tup z))(a:Addr)(ha:ρ a≠none)(z:List V):H' a≠some (.tup z):=λ e=>by
 by_cases c:Z a
 ·exact hz a c z e
 ·cases e1:H a with
  |none=>exact al a ha e1
  |some u=>rw[x _ _ e1 c]at e;cases e;exact nt a ha z e1
def NU{c:Cs}{sw dx u d e l nu nd:Addr}{N F R way:Int}{nU nD:List Ln}{f f':Nat}{kl:List (Key×V)}(hs:H sw=some (.ins c.Sweep dx (gQ N F u d e l nu nd R)))(hρ:ρ sw=some .sw/\ρ u=some .dU/\ρ d=some .dD/\ρ e=some .dE/\ρ l=some .dL/\ρ nu=some .nU/\ρ nd=some .nD)
  (hU:iQ H ρ u .lU S.up)(hD:iQ H ρ d .lD S.down)(hE:nJ H e S)(eK:bt H nu nU)(cX:bt H nd nD)(al: ∀a,ρ a≠none->H a≠none)(mZ: ∀a,ρ a≠none-> ∀z,H a≠some (.tup z))(gw:H l=some (.dK kl))(hff:f<f')(DO:f'<=1024)(h2:(kl.map (·.1)).Nodup)(h3: ∀kv∈kl,∃r:Nat,kv.1= .inl (r:Int)/\r<=1024/\ ∃t∈S.left,t.1=r\/t.2.1=r)
  (h4: ∀t∈S.left,(aE kl (.inl ((t.1:Nat):Int))).isSome=true/\(aE kl (.inl ((t.2.1:Nat):Int))).isSome=true)(h5: ∀r:Nat,(aE kl (.inl (r:Int))).getD (.int 0)= .int (gW S r))
  (x:az (λ a=>a=l) H H')(iM:H' l=some (.dK (putK (putK kl (.inl (f:Int)) (.int (gW S f+way))) (.inl (f':Int)) (.int (gW S f'-way))))):dP c H' sw ρ {S with left:=S.left++[(f,f',way)]} N F nU nD R:=by
 have nl: ∀b t,ρ b=some t->t≠ .dL->b≠l:=λ b t h1 h2 z=>h2 (by rw[z,hρ.2.2.2.2.1]at h1;exact(dI h1).symm);have kp: ∀b x,bt H b x->bt H' b x:=λ b y h=>h.fZ x (λ y hy z e=>by subst hy;rw[gw]at e;cases e) λ z=>by obtain⟨xs,e⟩:=h.lst;rw[z,gw]at e;cases e
 refine⟨⟨dx,u,d,e,l,nu,nd,x _ _ hs (nl _ _ hρ.1 (by simp)),hρ,hU.keep (λ o h=>x _ _ h (nl _ _ hρ.2.1 (by simp))) λ r b y g1 g2=>⟨g1,kp _ _ g2⟩,hD.keep (λ o h=>x _ _ h (nl _ _ hρ.2.2.1 (by simp))) λ r b y g1 g2=>⟨g1,kp _ _ g2⟩,
  hE.keep (λ o h=>x _ _ h (nl _ _ hρ.2.2.2.1 (by simp))) λ t=>Iff.rfl,md.add hff DO h2 h3 h4 h5 iM,kp _ _ eK,kp _ _ cX⟩,λ a ha=>xI x (λ b hb=>by subst hb;rw[iM];simp) (al a ha),xQ x al mZ λ b hb z e=>by subst hb;rw[iM]at e;cases e⟩
def Z_{c:Cs}{sw dx u d e l nu nd a:Addr}{N F R:Int}{nU nD:List Ln}{f:Nat}{n:Ln}{kd ke:List (Key×V)}(hs:H sw=some (.ins c.Sweep dx (gQ N F u d e l nu nd R)))(hρ:ρ sw=some .sw/\ρ u=some .dU/\ρ d=some .dD/\ρ e=some .dE/\ρ l=some .dL/\ρ nu=some .nU/\ρ nd=some .nD)
  (hU:iQ H ρ u .lU S.up)(hL:md H l S)(eK:bt H nu nU)(cX:bt H nd nD)(al: ∀a,ρ a≠none->H a≠none)(mZ: ∀a,ρ a≠none-> ∀z,H a≠some (.tup z))(cN:H d=some (.dK kd))(cM:H e=some (.dK ke))(hf:f<=1024)(hn:n.e<=1024)
  (h2:(kd.map (·.1)).Nodup)(h3: ∀kv∈kd,∃r:Nat,kv.1= .inl (r:Int)/\r<=1024/\ ∃t∈S.down,t.1=r)(h4: ∀(r:Nat)v,aE kd (.inl (r:Int))=some v-> ∃a,v= .ref a/\ρ a=some (.lD r)/\bt H a (begun r S.down))(h5: ∀r:Nat,aE kd (.inl (r:Int))=none->begun r S.down=[])
  (k2:(ke.map (·.1)).Nodup)(k3: ∀kv∈ke,∃r:Nat,kv.1= .inl (r:Int)/\r<=1024/\ ∃t∈S.up++S.down,t.2.e=r)(k4: ∀t∈S.up++S.down,(aE ke (.inl ((t.2.e:Nat):Int))).isSome=true)
  (x:az (λ y=>y=d\/y=a\/y=e) H H')(ha:ρ a=some (.lD f)\/H a=none)(iP: ∀z,H a≠some (.tup z))(fq:H' d=some (.dK (putK kd (.inl (f:Int)) (.ref a))))(jg:bt H' a (begun f S.down++[n]))(oV:H' e=some (.dK (putK ke (.inl ((n.e:Nat):Int)) (.bl true)))):
  dP c H' sw (λ y=>if y=a then some (.lD f)else ρ y) {S with down:=S.down++[(f,n)]} N F nU nD R:=by
 have na: ∀b t,ρ b=some t->t≠ .lD f->b≠a:=λ b t h1 h2 z=>by
  rcases ha with h|h
  ·rw[z,h]at h1;exact h2 (dI h1).symm
  ·exact al b (by rw[h1];simp) (by rw[z];exact h)
 have nt: ∀b t t2,ρ b=some t-> ∀b2,ρ b2=some t2->t≠t2->b≠b2:=λ b t t2 h1 b2 h2 h3 z=>by rw[z,h2]at h1;exact h3 (dI h1).symm
 have kp: ∀b y,bt H b y->b≠a->bt H' b y:=λ b y h hb=>h.fZ x (λ y hy z e=>by
   rcases hy with z1|z1|z1
   ·subst z1;rw[cN]at e;cases e
   ·subst z1;exact iP z e
   ·subst z1;rw[cM]at e;cases e) λ z=>by
  obtain⟨xs,e⟩:=h.lst;rcases z with z1|z1|z1
  ·rw[z1,cN]at e;cases e
  ·exact hb z1
  ·rw[z1,cM]at e;cases e
 have off: ∀b t,ρ b=some t->t≠ .dD->t≠ .dE->t≠ .lD f-> ∀o,H b=some o->H' b=some o:=λ b t h1 g1 g2 g3 o ho=>x _ _ ho λ z=>by
  rcases z with z1|z1|z1
  ·exact nt b t _ h1 _ hρ.2.2.1 g1 z1
  ·exact na b t h1 g3 z1
  ·exact nt b t _ h1 _ hρ.2.2.2.1 g2 z1
 have rn: ∀b t,ρ b=some t->b≠a->(λ y=>if y=a then some (.lD f)else ρ y) b=some t:=λ b t h1 h2=>by show(if b=a then _ else _)=_;rw[ai h2,h1]
 refine⟨⟨dx,u,d,e,l,nu,nd,off _ _ hρ.1 (by simp) (by simp) (by simp) _ hs,⟨rn _ _ hρ.1 (na _ _ hρ.1 (by simp)),rn _ _ hρ.2.1 (na _ _ hρ.2.1 (by simp)),rn _ _ hρ.2.2.1 (na _ _ hρ.2.2.1 (by simp)),rn _ _ hρ.2.2.2.1 (na _ _ hρ.2.2.2.1 (by simp)),rn _ _ hρ.2.2.2.2.1 (na _ _ hρ.2.2.2.2.1 (by simp)),rn _ _ hρ.2.2.2.2.2.1 (na _ _ hρ.2.2.2.2.2.1 (by simp)),rn _ _ hρ.2.2.2.2.2.2 (na _ _ hρ.2.2.2.2.2.2 (by simp))⟩,
  ?_,?_,?_,?_,kp _ _ eK (na _ _ hρ.2.2.2.2.2.1 (by simp)),kp _ _ cX (na _ _ hρ.2.2.2.2.2.2 (by simp))⟩,λ b hb=>?_,λ b hb z e5=>?_⟩
 ·exact hU.keep (off _ _ hρ.2.1 (by simp) (by simp) (by simp)) λ r b y g1 g2=>⟨rn _ _ g1 (na _ _ g1 (by simp)),kp _ _ g2 (na _ _ g1 (by simp))⟩
 ·exact iQ.app hf h2 h3 h4 h5 fq jg (by show(if a=a then _ else _)=_;rw[ao rfl]) λ r b y g0 g1 g2=>by have hb:b≠a:=na _ _ g1 (by simp;norm_cast);exact⟨rn _ _ g1 hb,kp _ _ g2 hb⟩
 ·exact nJ.add (t0:=(f,n)) hn k2 k3 k4 (λ t=>by simp only[bJ,xg];grind) oV
 ·exact hL.keep (off _ _ hρ.2.2.2.2.1 (by simp) (by simp) (by simp)) rfl
 ·have:H' a≠none:=by obtain⟨xs,e⟩:=jg.lst;rw[e];simp
  by_cases gy:b=a
  ·rw[gy];exact this
  ·have tJ:ρ b≠none:=by
    have cY:(if b=a then some (.lD f)else ρ b)≠none:=hb;rw[ai gy]at cY;exact cY
   exact xI x (λ y hy=>by rcases hy with z|z|z<;>rw[z]<;>first|(rw[fq];simp)|exact this|(rw[oV];simp)) (al b tJ)
 ·obtain⟨xs,ea⟩:=jg.lst;by_cases gy:b=a
  ·rw[gy,ea]at e5;cases e5
  ·have tJ:ρ b≠none:=by
    have cY:(if b=a then some _ else ρ b)≠none:=hb;rw[ai gy]at cY;exact cY
   exact xQ x al mZ (λ y hy z e=>by rcases hy with w|w|w<;>rw[w]at e<;>first|(rw[fq]at e;cases e)|(rw[ea]at e;cases e)|(rw[oV]at e;cases e)) b tJ z e5
def ac1{c:Cs}{sw dx u d e l nu nd a:Addr}{N F R:Int}{nU nD:List Ln}{f:Nat}{n:Ln}{kd ke:List (Key×V)}(hs:H sw=some (.ins c.Sweep dx (gQ N F u d e l nu nd R)))(hρ:ρ sw=some .sw/\ρ u=some .dU/\ρ d=some .dD/\ρ e=some .dE/\ρ l=some .dL/\ρ nu=some .nU/\ρ nd=some .nD)
  (hD:iQ H ρ d .lD S.down)(hL:md H l S)(eK:bt H nu nU)(cX:bt H nd nD)(al: ∀a,ρ a≠none->H a≠none)(mZ: ∀a,ρ a≠none-> ∀z,H a≠some (.tup z))(cN:H u=some (.dK kd))(cM:H e=some (.dK ke))(hf:f<=1024)(hn:n.e<=1024)
  (h2:(kd.map (·.1)).Nodup)(h3: ∀kv∈kd,∃r:Nat,kv.1= .inl (r:Int)/\r<=1024/\ ∃t∈S.up,t.1=r)(h4: ∀(r:Nat)v,aE kd (.inl (r:Int))=some v-> ∃a,v= .ref a/\ρ a=some (.lU r)/\bt H a (begun r S.up))(h5: ∀r:Nat,aE kd (.inl (r:Int))=none->begun r S.up=[])
  (k2:(ke.map (·.1)).Nodup)(k3: ∀kv∈ke,∃r:Nat,kv.1= .inl (r:Int)/\r<=1024/\ ∃t∈S.up++S.down,t.2.e=r)(k4: ∀t∈S.up++S.down,(aE ke (.inl ((t.2.e:Nat):Int))).isSome=true)
  (x:az (λ y=>y=u\/y=a\/y=e) H H')(ha:ρ a=some (.lU f)\/H a=none)(iP: ∀z,H a≠some (.tup z))(fq:H' u=some (.dK (putK kd (.inl (f:Int)) (.ref a))))(jg:bt H' a (begun f S.up++[n]))(oV:H' e=some (.dK (putK ke (.inl ((n.e:Nat):Int)) (.bl true)))):
  dP c H' sw (λ y=>if y=a then some (.lU f)else ρ y) {S with up:=S.up++[(f,n)]} N F nU nD R:=by
 have na: ∀b t,ρ b=some t->t≠ .lU f->b≠a:=λ b t h1 h2 z=>by
  rcases ha with h|h
  ·rw[z,h]at h1;exact h2 (dI h1).symm
  ·exact al b (by rw[h1];simp) (by rw[z];exact h)
 have nt: ∀b t t2,ρ b=some t-> ∀b2,ρ b2=some t2->t≠t2->b≠b2:=λ b t t2 h1 b2 h2 h3 z=>by rw[z,h2]at h1;exact h3 (dI h1).symm
 have kp: ∀b y,bt H b y->b≠a->bt H' b y:=λ b y h hb=>h.fZ x (λ y hy z e=>by
   rcases hy with z1|z1|z1
   ·subst z1;rw[cN]at e;cases e
   ·subst z1;exact iP z e
   ·subst z1;rw[cM]at e;cases e) λ z=>by
  obtain⟨xs,e⟩:=h.lst;rcases z with z1|z1|z1
  ·rw[z1,cN]at e;cases e
  ·exact hb z1
  ·rw[z1,cM]at e;cases e
 have off: ∀b t,ρ b=some t->t≠ .dU->t≠ .dE->t≠ .lU f-> ∀o,H b=some o->H' b=some o:=λ b t h1 g1 g2 g3 o ho=>x _ _ ho λ z=>by
  rcases z with z1|z1|z1
  ·exact nt b t _ h1 _ hρ.2.1 g1 z1
  ·exact na b t h1 g3 z1
  ·exact nt b t _ h1 _ hρ.2.2.2.1 g2 z1
 have rn: ∀b t,ρ b=some t->b≠a->(λ y=>if y=a then some (.lU f)else ρ y) b=some t:=λ b t h1 h2=>by show(if b=a then _ else _)=_;rw[ai h2,h1]
 refine⟨⟨dx,u,d,e,l,nu,nd,off _ _ hρ.1 (by simp) (by simp) (by simp) _ hs,⟨rn _ _ hρ.1 (na _ _ hρ.1 (by simp)),rn _ _ hρ.2.1 (na _ _ hρ.2.1 (by simp)),rn _ _ hρ.2.2.1 (na _ _ hρ.2.2.1 (by simp)),rn _ _ hρ.2.2.2.1 (na _ _ hρ.2.2.2.1 (by simp)),rn _ _ hρ.2.2.2.2.1 (na _ _ hρ.2.2.2.2.1 (by simp)),rn _ _ hρ.2.2.2.2.2.1 (na _ _ hρ.2.2.2.2.2.1 (by simp)),rn _ _ hρ.2.2.2.2.2.2 (na _ _ hρ.2.2.2.2.2.2 (by simp))⟩,
  ?_,?_,?_,?_,kp _ _ eK (na _ _ hρ.2.2.2.2.2.1 (by simp)),kp _ _ cX (na _ _ hρ.2.2.2.2.2.2 (by simp))⟩,λ b hb=>?_,λ b hb z e5=>?_⟩
 ·exact iQ.app hf h2 h3 h4 h5 fq jg (by show(if a=a then _ else _)=_;rw[ao rfl]) λ r b y g0 g1 g2=>by have hb:b≠a:=na _ _ g1 (by simp;lia);exact⟨rn _ _ g1 hb,kp _ _ g2 hb⟩
 ·exact hD.keep (off _ _ hρ.2.2.1 (by simp) (by simp) (by simp)) λ r b y g1 g2=>⟨rn _ _ g1 (na _ _ g1 (by simp)),kp _ _ g2 (na _ _ g1 (by simp))⟩
 ·exact nJ.add (t0:=(f,n)) hn k2 k3 k4 (λ t=>by simp only[bJ,xg];grind) oV
 ·exact hL.keep (off _ _ hρ.2.2.2.2.1 (by simp) (by simp) (by simp)) rfl
 ·have:H' a≠none:=by obtain⟨xs,e⟩:=jg.lst;rw[e];simp
  by_cases gy:b=a
  ·rw[gy];exact this
  ·have tJ:ρ b≠none:=by
    have cY:(if b=a then some (.lU f)else ρ b)≠none:=hb;rw[ai gy]at cY;exact cY
   exact xI x (λ y hy=>by rcases hy with z|z|z<;>rw[z]<;>first|(rw[fq];simp)|exact this|(rw[oV];simp)) (al b tJ)
 ·obtain⟨xs,ea⟩:=jg.lst;by_cases gy:b=a
  ·rw[gy,ea]at e5;cases e5
  ·have tJ:ρ b≠none:=by
    have cY:(if b=a then some _ else ρ b)≠none:=hb;rw[ai gy]at cY;exact cY
   exact xQ x al mZ (λ y hy z e=>by rcases hy with w|w|w<;>rw[w]at e<;>first|(rw[fq]at e;cases e)|(rw[ea]at e;cases e)|(rw[oV]at e;cases e)) b tJ z e5
end
local macro_rules|`(tactic|walk_at "1")=>`(tactic|((with_reducible refine' adG ?e ?_);(case e=>(simp only [List.set_cons_succ,List.set_cons_zero];exact rfl))))
noncomputable def bQ:List (Str×Nat):=[("cmap",1668112752),("glyf",1735162214),("head",1751474532),("hhea",1751672161),("hmtx",1752003704),("loca",1819239265),("maxp",1835104368)]
noncomputable def zz:List (Key×V):=[(.inl 1668112752,.str "cmap"),(.inl 1735162214,.str "glyf"),(.inl 1751474532,.str "head"),(.inl 1751672161,.str "hhea"),(.inl 1752003704,.str "hmtx"),(.inl 1819239265,.str "loca"),(.inl 1835104368,.str "maxp")]
def G4: ∀x∈bQ,∀y∈bQ,(x.1=y.1↔x.2=y.2):=by decide+kernel
def YJ(t:Nat):aE zz (.inl (t:Int))=none/\(∀x∈bQ,x.2≠t)\/ ∃x∈bQ,x.2=t/\aE zz (.inl (t:Int))=some (.str x.1):=by
 by_cases c1:t=1668112752
 ·subst c1;exact .inr ⟨("cmap",1668112752),by simp[bQ],rfl,rfl⟩
 by_cases c2:t=1735162214
 ·subst c2;exact .inr ⟨("glyf",1735162214),by simp[bQ],rfl,rfl⟩
 by_cases c3:t=1751474532
 ·subst c3;exact .inr ⟨("head",1751474532),by simp[bQ],rfl,rfl⟩
 by_cases c4:t=1751672161
 ·subst c4;exact .inr ⟨("hhea",1751672161),by simp[bQ],rfl,rfl⟩
 by_cases c5:t=1752003704
 ·subst c5;exact .inr ⟨("hmtx",1752003704),by simp[bQ],rfl,rfl⟩
 by_cases c6:t=1819239265
 ·subst c6;exact .inr ⟨("loca",1819239265),by simp[bQ],rfl,rfl⟩
 by_cases c7:t=1835104368
 ·subst c7;exact .inr ⟨("maxp",1835104368),by simp[bQ],rfl,rfl⟩
 refine .inl ⟨?_,λ x hx=>?_⟩
 ·unfold aE zz;rw[AZ,AM];intro x hx;simp at hx;rcases hx with rfl|rfl|rfl|rfl|rfl|rfl|rfl<;>(simp;lia)
 ·unfold bQ at hx;simp at hx;rcases hx with rfl|rfl|rfl|rfl|rfl|rfl|rfl<;>(simp;lia)
def adL{H:Hp}{N:Hp->Prop}{a:Addr}{kvs:List (Key×V)}{k:Str}{v:V}(h:H a=some (.dK kvs))(z:kvs.length<sizeLine)(q: ∀H1,H1 a=some (.dK (putK kvs (.inr k) v))->bh a H H1->N H1):wD v (.ref a) (.str k) H N:=⟨a,_,rfl,sL.k (k:=Sum.inr k) h z,q _ br (bh.upd _)⟩
def yK(H:Hp)(d:Addr)(b:List UInt8):Prop:=∃kvs,me (H d=some (.dK kvs)) ((kvs.map (·.1)).Nodup) (∀kv∈kvs,∃x∈bQ,kv.1= .inr x.1) (∀(j:Nat)(t:Nat×Nat×Nat),(directory b)[j]?=some t-> ∀x∈bQ,x.2=t.1->mV H kvs x.1 (Kg15.part b t.2.1 t.2.2)) (∀x∈bQ,∀v,aE kvs (.inr x.1)=some v-> ∃t∈directory b,t.1=x.2)
inductive OZ(K:W.Frag)(vs:List V)(H:Hp)(Q:VK)(E:XK):Prop
 |mk (a:Addr) (b:List UInt8):vs=[.ref a]->ah K H a (bs b)->lu b=true->iy (directory b) b.length=true->b.length<=100000->(∀d H',H d=none->aq H H'->yK H' d b->(∀kvs,H' d=some (.dK kvs)-> ∀k a,aE kvs k=some (.ref a)->H a=none)->Q (.ref d) H')->OZ K vs H Q E
abbrev Jk:=Kn P w K mg Ba "tables_of" ["data"] 4 (OZ K)
def WV(g:aK mg)(tc:aW P w K mg c)(d:Df K mg "tables_of" (top 31) ["data"])(uD:Ik):Jk:=by
 refine d.ok ["data","tables","tag","offset","length"] λ H Q E hr h nN=>?_;obtain⟨a,b,rfl,qa,hw,hg,hz,k⟩:=h;obtain⟨g1,g2⟩:=FL.mp hg;refine⟨_,(ag (au 1 nN pL) (ag (fJ (c_ (pk uD hr (aa (pv 0) ae))) (rS rfl (dm (aT 2 nN) (dm (aT 3 nN) (dm (aT 4 nN) mF)))) (ak (aI (vd (aaC tc.Ez (pv 2) (vL tc.EA)) (by with_unfolding_all rfl)) (ak (uZ (cR hr) (pv 1) (Zv tc.Ez (vL tc.EA) (pv 2) (λ _ _=>rfl)) (mC mE (pv 0) (iz (pv 3)) (iz (aj aJ (pv 3) (pv 4)))) rfl)) aM))) (ak (ay (pv 1))))),?_⟩;refine dH (σ':=[some (.ref a),none,none,none,none]) rfl ?_;symm;refine pP λ d H1 n1 h1 s1=>?_;symm;refine⟨a,b,rfl,s1.seq qa,hw,hz,λ r H2 n2 s2 di=>?_⟩;obtain⟨as,hr,hp⟩:=di;have qr:ah K H2 r (rV as):=ah.of hr;have nrd:r≠d:=λ z=>by rw[z,h1]at n2;cases n2
 symm;refine L2.Rd.zY (xs:=rV as) (λ i σ H'=>D8 λ(kvs:List (Key×V))(v1 v2 v3:Option V)=>o_ (σ=[some (.ref a),some (.ref d),v1,v2,v3]) (az (λ x=>x=d) H2 H') (H' d=some (.dK kvs)) ((kvs.map (·.1)).Nodup) (∀kv∈kvs,∃x∈bQ,kv.1= .inr x.1) (∀(j:Nat)(t:Nat×Nat×Nat),j<i->(directory b)[j]?=some t-> ∀x∈bQ,x.2=t.1->mV H' kvs x.1 (Kg15.part b t.2.1 t.2.2)) (∀x∈bQ,∀v,aE kvs (.inr x.1)=some v-> ∃t∈directory b,t.1=x.2) (∀k a,aE kvs k=some (.ref a)->H a=none)) ?_ ?_ ?_ ?_
 ·exact⟨[],none,none,none,rfl,az.refl,s2 _ _ h1,.nil,λ _ z=>(by cases z),λ j t z=>by simp_all,λ x _ v z=>(by cases z),λ k a z=>(by cases z)⟩
 ·rintro i σ H' _ ⟨kvs,v1,v2,v3,rfl,sx,_⟩;exact ah.of (sx _ _ hr nrd)
 ·rintro i x σ H' hx ⟨kvs,v1,v2,v3,rfl,sx,hd,f1,f2,f3,f4,f5⟩;obtain⟨ra,m8,rfl⟩:=dc.mp hx;obtain⟨t,ht,Dv⟩:=Paired.at hp m8;have Rl:t∈directory b:=eG ht;have nta:ra≠d:=λ z=>by have y:H2 ra=_:=Dv;rw[z,s2 _ _ h1]at y;cases y
  refine mI (xs:=[.int t.1,.int t.2.1,.int t.2.2]) (aP.of (sx _ _ Dv nta)) rfl ?_;symm;show if(aE zz (.inl (t.1:Int))).isSome=true then _ else _;have zk:kvs.length<=7:=by
   have:=Bi (kvs.map (·.1)) (bQ.map λ x=>(.inr x.1:Key)) f1 λ y hy=>by obtain⟨kv,h1,rfl⟩:=bF.mp hy;obtain⟨x,h2,h3⟩:=f2 kv h1;exact bF.mpr ⟨x,h2,h3.symm⟩
   rw[aV]at this;exact this
  rcases YJ t.1 with⟨c1,c2⟩|⟨x,xm,xt,xv⟩
  ·rw[c1,show(none:Option V).isSome=false from rfl];symm;refine⟨kvs,_,_,_,rfl,sx,hd,f1,f2,λ j u hj hu y hy e=>?_,f4,f5⟩;by_cases ji:j=i
   ·subst ji;rw[ht]at hu;cases hu;exact absurd e (c2 y hy)
   ·exact f3 j u (by lia) hu y hy e
  ·rw[xv,show(some (V.str x.1)).isSome=true from rfl];have vJ:=az.sD sx oy.dK (s2 _ _ h1) ((s1.trans s2).seq qa);have hlen:=g2 t Rl;symm;refine pV vJ λ p H3 n3 h3 s3=>?_;rw[ND (o:=t.2.1) (e:=t.2.1+t.2.2) rfl (by rfl) (by simp) hlen,A2]at h3;symm;refine abW (kvs:=zz) xv ?_;symm;refine adL (s3 _ _ hd) (by rw[aL];exact nP ‹_› (by decide)) λ H4 h4 b4=>?_;have Di:p≠d:=λ z=>by rw[z,hd]at n3;cases n3
   refine⟨_,_,_,_,rfl,λ y o h n=>b4 _ _ (s3 _ _ (sx _ _ h n)) n,h4,pQ f1,λ kv hk=>?_,λ j u hj hu y hy e=>?_,λ y hy v hv=>?_,λ k a hk=>?_⟩
   ·rcases pM hk with z|⟨ic,z1,z2⟩
    ·exact⟨x,xm,z⟩
    ·rw[<- z2];exact f2 ic z1
   ·by_cases ji:j=i
    ·subst ji;rw[ht]at hu;cases hu;have:y.1=x.1:=(G4 y hy x xm).mpr (by rw[e,xt]);refine⟨p,?_,b4 _ _ h3 Di⟩;rw[iw,ao (by rw[this])]
    ·obtain⟨a0,e0,h0⟩:=f3 j u (by lia) hu y hy e;refine⟨a0,?_,b4 _ _ (s3 _ _ h0) λ z=>by rw[z,hd]at h0;cases h0⟩;rw[iw,ai]
     ·exact e0
     ·intro z;have:y.1=x.1:=Sum.inr.inj z;have:y.2=x.2:=(G4 y hy x xm).mp this;exact ji (Zk g1 hu ht (by rw[<- e,this,xt]))
   ·rw[iw]at hv;split at hv
    ·rename_i z;have:y.1=x.1:=Sum.inr.inj z;have:y.2=x.2:=(G4 y hy x xm).mp this;exact⟨t,Rl,by rw[this,xt]⟩
    ·exact f4 y hy v hv
   ·rw[iw]at hk;split at hk
    ·cases hk;cases e:H p with
     |none=>rfl
     |some o=>rw[sx _ _ (s2 _ _ (s1 _ _ e)) Di]at n3;cases n3
    ·exact f5 k a hk
 ·rintro σ H' ⟨kvs,v1,v2,v3,rfl,sx,hd,f1,f2,f3,f4,f5⟩;symm;have hl:=bw hp;refine k d H' n1 (λ x o h=>sx _ _ (s2 _ _ (s1 _ _ h)) λ z=>by rw[z,n1]at h;cases h) ⟨kvs,hd,f1,f2,λ j t ht=>f3 j t (by rw[a_];have:=(bC.mp ht).1;simp_all) ht,f4⟩ λ Dn e2=>by rw[hd]at e2;cases e2;exact f5
def yK.tabs{H:Hp}{d:Addr}{b:List UInt8}{T:iI}(h:yK H d b)(e:pO b=some T):TabAt H d T:=by
 obtain⟨kvs,h0,_,_,h3,_⟩:=h;obtain⟨t1,t2,t3,t4,t5,t6,t7⟩:=PU;have key: ∀(s:String)(k:Str)(x:List UInt8),(k,Kg15.tag s)∈bQ->Kg15.table b s=some x->mV H kvs k x:=λ s k x hk hx=>by obtain⟨j,t,h1,h2,rfl⟩:=Ym hx;exact h3 j t h1 (k,Kg15.tag s) hk h2.symm
 refine Gk e λ e1 e2 e3 e4 e5 e6 e7=>?_;exact⟨kvs,h0,key _ _ _ (by rw[t1];simp[bQ]) e1,key _ _ _ (by rw[t2];simp[bQ]) e2,key _ _ _ (by rw[t3];simp[bQ]) e3,key _ _ _ (by rw[t4];simp[bQ]) e4,key _ _ _ (by rw[t5];simp[bQ]) e5,key _ _ _ (by rw[t6];simp[bQ]) e6,key _ _ _ (by rw[t7];simp[bQ]) e7⟩
def yK.len{H:Hp}{d:Addr}{b:List UInt8}(h:yK H d b): ∃kvs,H d=some (.dK kvs)/\(kvs.length<7↔pO b=none):=by
 obtain⟨kvs,h0,h1,h2,h3,h4⟩:=id h;refine⟨kvs,h0,?_⟩;obtain⟨t1,t2,t3,t4,t5,t6,t7⟩:=PU;constructor
 ·intro hl;cases e:pO b with
  |none=>rfl
  |some T=>
   exfalso;obtain⟨RP,UE,⟨a1,b1,_⟩,⟨a2,b2,_⟩,⟨a3,b3,_⟩,⟨a4,b4,_⟩,⟨a5,b5,_⟩,⟨a6,b6,_⟩,⟨a7,b7,_⟩⟩:=h.tabs e;rw[h0]at UE;cases UE;have mem: ∀k a,aE kvs k=some (.ref a)->k∈kvs.map (·.1):=λ k a z=>by
    unfold aE at z;rw[js]at z;obtain⟨kv,z1,_⟩:=z;have z3:kv.1=k:=by have:=E8 z1;simpa using this
    exact bF.mpr ⟨kv,FH z1,z3⟩
   have:=Bi (bQ.map λ x=>(.inr x.1:Key)) (kvs.map (·.1)) (by decide+kernel) λ y hy=>by
    simp[bQ]at hy;rcases hy with rfl|rfl|rfl|rfl|rfl|rfl|rfl
    ·exact mem _ _ b1
    ·exact mem _ _ b2
    ·exact mem _ _ b3
    ·exact mem _ _ b4
    ·exact mem _ _ b5
    ·exact mem _ _ b6
    ·exact mem _ _ b7
   rw[aV,aV]at this;have z:bQ.length=7:=rfl
   lia
 ·intro e;have miss: ∃x∈bQ,∀t∈directory b,t.1≠x.2:=by
   have no: ∀(s:String)(k:Str),(k,Kg15.tag s)∈bQ->Kg15.table b s=none-> ∃x∈bQ,∀t∈directory b,t.1≠x.2:=λ s k hk hx=>⟨_,hk,XC hx⟩;obtain z|⟨_,_,e⟩:=i5 e
   ·exact no _ "cmap" (by rw[t1];simp[bQ]) z
   obtain z|⟨_,_,e⟩:=i5 e
   ·exact no _ "glyf" (by rw[t2];simp[bQ]) z
   obtain z|⟨_,_,e⟩:=i5 e
   ·exact no _ "head" (by rw[t3];simp[bQ]) z
   obtain z|⟨_,_,e⟩:=i5 e
   ·exact no _ "hhea" (by rw[t4];simp[bQ]) z
   obtain z|⟨_,_,e⟩:=i5 e
   ·exact no _ "hmtx" (by rw[t5];simp[bQ]) z
   obtain z|⟨_,_,e⟩:=i5 e
   ·exact no _ "loca" (by rw[t6];simp[bQ]) z
   obtain z|⟨_,_,e⟩:=i5 e
   ·exact no _ "maxp" (by rw[t7];simp[bQ]) z
   cases e
  obtain⟨x,xm,hx⟩:=miss;have no: ∀kv∈kvs,kv.1≠ .inr x.1:=λ kv hk z=>by have hv:=xG h1 hk;rw[z]at hv;obtain⟨t,ht,e⟩:=h4 x xm _ hv;exact hx t ht e
  have:=Bi (.inr x.1::kvs.map (·.1)) (bQ.map λ x=>(.inr x.1:Key)) (kh.mpr ⟨λ z=>by
   obtain⟨kv,g1,g2⟩:=bF.mp z;exact no kv g1 g2,h1⟩) λ y hy=>by
   rcases bV.mp hy with z|z
   ·rw[z];exact bF.mpr ⟨x,xm,rfl⟩
   ·obtain⟨kv,g1,rfl⟩:=bF.mp z;obtain⟨x',g2,g3⟩:=h2 kv g1;exact bF.mpr ⟨x',g2,g3.symm⟩
  rw[dX,aV,aV]at this;have z:bQ.length=7:=rfl;trivial
noncomputable def B5 (b:List UInt8):Int:=if lu b=false then-1 else if iy (directory b) b.length=false then-2 else if pO b=none then-3 else 0
inductive N_(K:W.Frag)(vs:List V)(H:Hp)(Q:VK)(E:XK):Prop
 |mk (a:Addr) (b:List UInt8):vs=[.ref a]->ah K H a (bs b)->b.length<=100000->(∀H',aq H H'->Q (.int (B5 b)) H')->N_ K vs H Q E
abbrev Sn:=Kn P w K mg Ba "directory_refusal" ["data"] 5 (N_ K)
theorem Vf(g:aK mg)(tc:aW P w K mg c)(d:Df K mg "directory_refusal" (top 27) ["data"])(Ed:QJ)(Eh:QI)(uD:Ik)(uM:Jk):Sn:=by
 refine d.ok ["data"] λ H Q E hr h nN=>?_;obtain⟨a,b,rfl,qa,hz,k⟩:=h;have kk: ∀z,B5 b=z-> ∀H',aq H H'->Q (.int z) H':=λ z e H' s=>by rw[<- e];exact k H' s
 unfold B5 at kk;refine⟨_,(ag (aI (iB (gJ (pk Ed hr (aa (pv 0) ae)))) (ak (ay (fe fL af))) aM) (ag (aI (iB (gJ (pk Eh hr (aa (pk uD hr (aa (pv 0) ae)) (aa (bX bZ g.bS (aa (pv 0) ae)) ae))))) (ak (ay (fe fL af))) aM) (ag (aI (aB cW (bX aaI g.bS (aa (pk uM hr (aa (pv 0) ae)) ae)) (fV (aaH tc.Ez) rfl g.bS boot_len (aa (vL tc.EA) ae))) (ak (ay (fe fL af))) aM) (ak (ay af))))),?_⟩;symm;refine⟨a,b,rfl,qa,?_⟩;symm;cases c1:lu b with
 |false=>
  symm;exact kk _ (by rw[c1];rfl) H λ _ _ h=>h
 |true=>
 symm;refine⟨a,b,rfl,qa,c1,hz,λ r H1 n1 s1 aO=>?_⟩;have Jy:=s1.seq qa;symm;refine⟨r,_,b.length,rfl,aO,?_⟩;symm;cases c2:iy (directory b) b.length with
 |false=>
  symm;exact kk _ (by rw[c1,c2];rfl) H1 s1
 |true=>
 symm;refine⟨a,b,rfl,Jy,c1,c2,hz,λ d H2 n2 s2 tf _=>?_⟩;obtain⟨kvs,hd,hl⟩:=tf.len;symm;refine⟨d,kvs,rfl,hd,?_⟩;symm
 nofun
 ·rename_i c3;have c3:(kvs.length:Int)<7:=by simpa using c3
  have c3:kvs.length<7:=by exact kY.mp ‹_›
  exact kk _ (by rw[c1,c2,hl.mp c3];rfl) H2 (s1.trans s2)
 ·rename_i c3;have c3: ¬(kvs.length:Int)<7:=by simpa using c3
  have c3: ¬kvs.length<7:=by lia
  refine kk _ ?_ H2 (s1.trans s2);rw[c1,c2,ai (by simp),ai (by simp),ai (λ z=>c3 (hl.mpr z))]
section
local macro_rules|`(tactic|walk_at "u")=>`(tactic|((with_reducible refine' NQ ?a ?b ?_);(case a=>walk_at "s");(case b=>lia)))
local macro_rules|`(tactic|walk_at "1")=>`(tactic|((with_reducible refine' Qn ?a ?b ?_);(case a=>assumption);(case b=>assumption)))
def TabAt.yH{H H':Hp}{d x C dx:Addr}{fs:List (Str×V)}{T:iI}(h:TabAt H d T)(b:bh x H H')(hx:H x=some (.ins C dx fs)):TabAt H' d T:=by
 obtain⟨kvs,h0,⟨a1,b1,d1⟩,⟨a2,b2,d2⟩,⟨a3,b3,d3⟩,⟨a4,b4,d4⟩,⟨a5,b5,d5⟩,⟨a6,b6,d6⟩,⟨a7,b7,d7⟩⟩:=h;have k: ∀y xs,H y=some (.lst xs)->H' y=some (.lst xs):=λ y xs e=>b _ _ e λ z=>by rw[z,hx]at e;cases e
 exact⟨kvs,b _ _ h0 λ z=>by(rw[z,hx]at h0;cases h0),⟨a1,b1,k _ _ d1⟩,⟨a2,b2,k _ _ d2⟩,⟨a3,b3,k _ _ d3⟩,⟨a4,b4,k _ _ d4⟩,⟨a5,b5,k _ _ d5⟩,⟨a6,b6,k _ _ d6⟩,⟨a7,b7,k _ _ d7⟩⟩
structure TabsOk(T:iI):Prop where
 h:mM T.head=true
 m:mJ T.maxp=true
 t:pK T=true
 p:placesOk (dq T) T.glyf.length=true
 c:oj T.cmap=true
 lz:T.loca.length<=100000
 gz:T.glyf.length<=30000
def TabsOk.good{T:iI}(k:TabsOk T):Good (sr T):=by
 have h:=dY k.h;have m:=dY k.m;have t:=dY k.t;obtain⟨p1,p2,p3⟩:=A5.mp k.p;have hc:=k.c;unfold oj at hc;rw[cI]at hc;have JM:=rR T.maxp 4;have pl:(dq T).length=u16 T.maxp 4+1:=by
  unfold dq at p1⊢;split
  ·split
   ·simp
   ·rename_i h1 h2;rw[ao h1,ai h2]at p1;exact absurd rfl p1
  ·split
   ·simp
   ·rename_i h1 h2;rw[ai h1,ai h2]at p1;exact absurd rfl p1
 have mono: ∀(d i x y:Nat),(dq T)[i]?=some x->(dq T)[i+d]?=some y->x<=y:=by
  intro d
  induction d with
  |zero=>intro i x y hx hy;rw[Nat.add_zero,hx]at hy;cases hy;exact aQ _
  |succ d ih=>
   intro i x y hx hy;have cg:=(bC.mp hy).1;have hm:(dq T)[i+d]?=some (dq T)[i+d]:=bI (by lia);exact bY (ih i x _ hx hm) (p2 (i+d) _ y hm hy)
 refine⟨pl,λ i x y hx hy=>p2 i x y hx hy,λ x hx=>?_,k.gz,by show u16 T.maxp 4<=65535;exact Fg ‹_›,t.2.1,t.2.2.1,t.2.2.2,⟨h.2.2.1,h.2.2.2.1⟩,FY.mp hc.2⟩;obtain⟨i,hi⟩:=K_.mp hx;have kO:=(bC.mp hi).1
 change i<(dq T).length at kO
 have hm:(dq T)[(dq T).length-1]?=some (dq T)[(dq T).length-1]:=bI (by lia);have h1:=mono ((dq T).length-1-i) i x _ hi (by rw[show i+((dq T).length-1-i)=(dq T).length-1 by lia];exact hm);exact bY h1 (p3 _ hm)
inductive GI(c:Cs)(vs:List V)(H:Hp)(Q:VK)(E:XK):Prop
 |mk (x dx d:Addr) (T:iI):vs=[.ref x,.ref d]->H x=some (.ins c.Font dx [])->TabAt H d T->TabsOk T->(∀H' h p y m,H' x=some (.ins c.Font dx (jk (sr T) h p y m))->H' h=some (.lst (bs T.hmtx))->H' p=some (.lst (nV (dq T)))->H' y=some (.lst (bs T.glyf))->H' m=some (.lst (bs (Mx.tableOf T.cmap)))->bh x H H'->(∀z∈[h,p,y,m],H z=none\/ ∃kvs k,H d=some (.dK kvs)/\aE kvs k=some (.ref z))->Q .aG H')->GI c vs H Q E
abbrev Sl:=nF P w K mg Ba "Font" c.Font ["self","tables"] 5 (GI c)
set_option maxHeartbeats 1000000 in
def W8(g:aK mg)(tc:aW P w K mg c)(d:nI K mg "Font" c.Font "Font.__init__" (inClass (top 45) 0) ["self","tables"])(uQ:Io)(kb:yp)(tY:Im)(tX:Il)(tZ:Ip):Sl:=by
 refine d.ok ["self","tables"] λ H Q E hr h nN=>?_;obtain⟨x,dx,d,T,rfl,hx,TA,ok,k⟩:=h;have oh:=dY ok.h;have om:=dY ok.m;have ot:=dY ok.t;refine⟨_,(ag (cj tc.e9 tc.Hd (pv 0) (pk uQ hr (aa (gk (cR hr) (pv 1) du (λ _ _=>rfl)) ae))) (ag (cj tc.e9 tc.Ai (pv 0) (pk kb hr (aa (gk (cR hr) (pv 1) du (λ _ _=>rfl)) ae))) (ag (cj tc.e9 tc.wH (pv 0) (pk tY hr (aa (gk (cR hr) (pv 1) du (λ _ _=>rfl)) ae))) (ag (cj tc.e9 tc.B3 (pv 0) (gk (cR hr) (pv 1) du (λ _ _=>rfl))) (ag (cj tc.e9 tc.GQ (pv 0) (pk tX hr (aa (pv 1) ae))) (ag (cj tc.e9 tc.Ph (pv 0) (gk (cR hr) (pv 1) du (λ _ _=>rfl))) (ak (cj tc.e9 tc.LB (pv 0) (pk tZ hr (aa (gk (cR hr) (pv 1) du (λ _ _=>rfl)) ae)))))))))),?_⟩;refine dH (σ':=[some (.ref x),some (.ref d)]) rfl ?_;obtain⟨Tw,e0,⟨a1,b1,d1⟩,⟨a2,b2,d2⟩,⟨a3,b3,d3⟩,⟨a4,b4,d4⟩,⟨a5,b5,d5⟩,⟨a6,b6,d6⟩,⟨a7,b7,d7⟩⟩:=id TA;have q3:ah K H a3 (bs T.head):=ah.of d3;symm;refine cb (fs':=[("units",.int (u16 T.head 18:Nat))]) hx rfl (by simp) λ H1 f1 c1=>?_;have T1:=TA.yH c1 hx;have k1: ∀y xs,H y=some (.lst xs)->H1 y=some (.lst xs):=λ y xs e=>c1 _ _ e λ z=>by rw[z,hx]at e;cases e
 have e1:=c1 _ _ e0 λ z=>by rw[z,hx]at e0;cases e0
 have q7:ah K H1 a7 (bs T.maxp):=ah.of (k1 _ _ d7);symm;refine cb (fs':=[("units",.int (u16 T.head 18:Nat)),("glyph_count",.int (u16 T.maxp 4:Nat))]) f1 rfl (by simp) λ H2 f2 c2=>?_;have T2:=T1.yH c2 f1;have k2: ∀y xs,H y=some (.lst xs)->H2 y=some (.lst xs):=λ y xs e=>c2 _ _ (k1 _ _ e) λ z=>by rw[z,hx]at e;cases e
 have e2:=c2 _ _ e1 λ z=>by rw[z,hx]at e0;cases e0
 have q4:ah K H2 a4 (bs T.hhea):=ah.of (k2 _ _ d4);symm;refine cb (fs':=[("units",.int (u16 T.head 18:Nat)),("glyph_count",.int (u16 T.maxp 4:Nat)),("metric_count",.int (u16 T.hhea 34:Nat))]) f2 rfl (by simp) λ H3 f3 c3=>?_;have T3:=T2.yH c3 f2;have k3: ∀y xs,H y=some (.lst xs)->H3 y=some (.lst xs):=λ y xs e=>c3 _ _ (k2 _ _ e) λ z=>by rw[z,hx]at e;cases e
 have e3:=c3 _ _ e2 λ z=>by rw[z,hx]at e0;cases e0
 symm;refine cb (fs':=[("units",.int (u16 T.head 18:Nat)),("glyph_count",.int (u16 T.maxp 4:Nat)),("metric_count",.int (u16 T.hhea 34:Nat)),("hmtx",.ref a5)]) f3 rfl (by simp) λ H4 f4 c4=>?_;have T4:=T3.yH c4 f3;have k4: ∀y xs,H y=some (.lst xs)->H4 y=some (.lst xs):=λ y xs e=>c4 _ _ (k3 _ _ e) λ z=>by rw[z,hx]at e;cases e
 symm;refine⟨d,T,rfl,T4,ok.m,ok.h,ok.lz,λ p H5 n5 s5 h5=>?_⟩;symm;refine cb (fs':=[("units",.int (u16 T.head 18:Nat)),("glyph_count",.int (u16 T.maxp 4:Nat)),("metric_count",.int (u16 T.hhea 34:Nat)),("hmtx",.ref a5),("places",.ref p)]) (s5 _ _ f4) rfl (by simp) λ H6 f6 c6=>?_;have sW:p≠x:=λ z=>by rw[z,f4]at n5;cases n5
 have T6:=(T4.same s5).yH c6 (s5 _ _ f4);have k6: ∀y xs,H y=some (.lst xs)->H6 y=some (.lst xs):=λ y xs e=>c6 _ _ (s5 _ _ (k4 _ _ e)) λ z=>by rw[z,hx]at e;cases e
 have e6:=c6 _ _ (s5 _ _ (c4 _ _ e3 λ z=>by rw[z,hx]at e0;cases e0)) λ z=>by rw[z,hx]at e0;cases e0
 symm;refine cb (fs':=[("units",.int (u16 T.head 18:Nat)),("glyph_count",.int (u16 T.maxp 4:Nat)),("metric_count",.int (u16 T.hhea 34:Nat)),("hmtx",.ref a5),("places",.ref p),("glyf",.ref a2)]) f6 rfl (by simp) λ H7 f7 c7=>?_;have k7: ∀y xs,H y=some (.lst xs)->H7 y=some (.lst xs):=λ y xs e=>c7 _ _ (k6 _ _ e) λ z=>by rw[z,hx]at e;cases e
 have e7:=c7 _ _ e6 λ z=>by rw[z,hx]at e0;cases e0
 symm;have wr:4+8*u16 T.cmap 2<=T.cmap.length:=by
  have hc:=ok.c;unfold oj at hc;rw[cI]at hc;have:=hc.1;unfold kf at this;simp at this
  simp_all
 refine⟨a1,T.cmap,rfl,ah.of (k7 _ _ d1),wr,λ m H8 n8 s8 h8=>?_⟩;symm;refine cb (fs':=jk (sr T) a5 p a2 m) (s8 _ _ f7) rfl (by simp) λ H9 f9 c9=>?_;have k9: ∀y xs,H y=some (.lst xs)->H9 y=some (.lst xs):=λ y xs e=>c9 _ _ (s8 _ _ (k7 _ _ e)) λ z=>by rw[z,hx]at e;cases e
 refine k H9 a5 p a2 m f9 (k9 _ _ d5) (c9 _ _ (s8 _ _ (c7 _ _ (c6 _ _ h5 sW) sW)) sW) (k9 _ _ d2) (c9 _ _ h8 λ z=>?_) (λ y o h n=>c9 _ _ (s8 _ _ (c7 _ _ (c6 _ _ (s5 _ _ (c4 _ _ (c3 _ _ (c2 _ _ (c1 _ _ h n) n) n) n)) n) n)) n) λ z hz=>?_
 ·rw[z,s8 _ _ f7]at h8;cases h8
 ·simp only[bV,List.not_mem_nil,or_false]at hz;rcases hz with rfl|rfl|rfl|rfl
  ·exact .inr ⟨_,_,e0,b5⟩
  ·left;cases e:H z with
   |none=>rfl
   |some o=>rw[c4 _ _ (c3 _ _ (c2 _ _ (c1 _ _ e sW) sW) sW) sW]at n5;cases n5
  ·exact .inr ⟨_,_,e0,b2⟩
  ·left;have vO:z≠x:=λ w=>by rw[w,f7]at n8;cases n8
   cases e:H z with
   |none=>rfl
   |some o=>rw[c7 _ _ (c6 _ _ (s5 _ _ (c4 _ _ (c3 _ _ (c2 _ _ (c1 _ _ e vO) vO) vO) vO)) vO) vO]at n8;cases n8
def Z7{H:Hp}{Q:VK}{d:Addr}{T:iI}(TA:TabAt H d T)(ok:TabsOk T)(q: ∀x H1,H x=none->aq H H1->d0 c H1 x (sr T)->(∀dx h p y m f',H1 x=some (.ins c.Font dx (jk f' h p y m))-> ∀z∈[h,p,y,m],H z=none\/ ∃kvs k,H d=some (.dK kvs)/\aE kvs k=some (.ref z))->Q (.ref x) H1):oZ c.Font (GI c) [.ref d] H Q:=λ x dx hx iO ne=>
 ⟨x,dx,d,T,rfl,br,(TA.same (eM iO _)).same (eM (by rw[bb (λ z=>ne z.symm)];exact hx) _),ok,λ H' h p y m g1 g2 g3 g4 g5 b' hz=>⟨rfl,q x H' hx (aq.made hx iO b') ⟨⟨dx,h,p,y,m,g1,g2,g3,g4,g5⟩,ok.good⟩ λ wm h2 p2 y2 m2 f2 e2 z JO=>by
  rw[g1]at e2;unfold jk at e2;injection e2 with e2;injection e2 with _ _ e2;injection e2 with _ e2;injection e2 with _ e2;injection e2 with _ e2;injection e2 with i1 e2;injection e2 with i2 e2;injection e2 with i3 e2;injection e2 with i4 e2;injection i1 with _ i1;injection i2 with _ i2;injection i3 with _ i3;injection i4 with _ i4;injection i1 with i1;injection i2 with i2;injection i3 with i3;injection i4 with i4;subst i1 i2 i3 i4;have hxn:(upd H dx (.own x)) x=none:=by rw[bb (λ w=>ne w.symm)];exact hx
  rcases hz z JO with w|⟨kvs,k,w1,w2⟩
  ·left;cases e:H z with
   |none=>rfl
   |some o=>rw[bb (cC e hx),bb (cC e iO),e]at w;cases w
  ·obtain⟨Tw,e0,_⟩:=TA;refine .inr ⟨kvs,k,?_,w2⟩;rw[bb (cC e0 hx),bb (cC e0 iO)]at w1;exact w1⟩⟩
end
local macro_rules|`(tactic|walk_at "1")=>`(tactic|first
 |((with_reducible refine O9 ?c ?_);(case c=>exact ⟨by lia,by lia⟩))
 |(with_reducible first|refine adS ?_|refine adK ?_)
 |((with_reducible refine' afJ ?h ?_);(case h=>assumption))
 |((with_reducible refine' I_ ?h ?_);(case h=>assumption)))
def lH(p:Pl):Prop:= -1125899906842624<p.x/\p.x<1125899906842624/\ -1125899906842624<p.y/\p.y<1125899906842624/\p.r<=1024
inductive Od(c:Cs)(vs:List V)(H:Hp)(Q:VK)(E:XK):Prop
 |mk (sw va pa qa:Addr) (v:Vw) (p q:Pl) (ρ:gO) (S:Sw) (N F:Int):vs=[.ref sw,.ref va,.ref pa,.ref qa]->jx c H va v->v.Ok->yL H pa p->yL H qa q->lH p->lH q->p.r≠q.r->(p.r<q.r->p.y<q.y)->(q.r<p.r->q.y<p.y)->dP c H sw ρ S N F [] [] 0->SwOk S 500000->(∀H' ρ',az (λ a=>ρ a≠none) H H'->(∀a,ρ' a≠none->ρ a≠none\/H a=none)->dP c H' sw ρ' (fM v N F S p q) N F [] [] 0->Q .aG H')->Od c vs H Q E
abbrev Q0:=Kn P w K mg Ba "add_line" ["sweep","view","begin","end"] 1 (Od c)
set_option maxHeartbeats 1000000 in
def Xo(g:aK mg)(tc:aW P w K mg c)(d:Df K mg "add_line" (top 114) ["sweep","view","begin","end"]):Q0:=by
 refine d.ok ["sweep","view","begin","end","falls","upper","lower","first","last","depth","width","base","slope","at_first","at_last","lines","way"] λ H Q E hr h nN=>?_;obtain⟨sw,va,pa,qa,v,p,q,ρ,S,N,F,rfl,⟨dv,hv⟩,bA,hp,hq,np,nq,bH,hy1,hy2,dB,ax,k⟩:=h;obtain⟨dx,u,dd,e,l,nu,nd,hs,hρ,hU,hD,hE,hL,eK,cX⟩:=dB.ex;unfold jV at hv;unfold gQ at hs;have qp:aP K H pa _:=aP.of hp;have qq:aP K H qa _:=aP.of hq;unfold lH at np nq;have hM:v.M=16*v.U:=rfl;have dS:v.D=32*v.U:=rfl;have u2:=bA.u2;refine⟨_,(ag (au 4 nN (oM cW (bB (pv 2) af) (bB (pv 3) af))) (ag (au 5 nN (iY (gJ (pv 4)) (pv 2) (pv 3))) (ag (au 6 nN (iY (gJ (pv 4)) (pv 3) (pv 2))) (ag (au 7 nN (bB (pv 5) af)) (ag (au 8 nN (bB (pv 6) af)) (ag (au 9 nN (aj cJ (bB (pv 6) af) (bB (pv 5) af))) (ag (au 10 nN (aj cJ (bB (pv 6) af) (bB (pv 5) af))) (ag (au 11 nN (aj cJ (aj aJ (aj aJ (aj aR (bB (pv 5) af) (pv 9)) (aj aR (pv 10) (aj cJ (aH tc.cD tc.rP (pv 1)) (bB (pv 5) af)))) (pv 9)) af)) (ag (au 12 nN (aj aR (pv 10) (aH tc.cD tc.rL (pv 1)))) (ag (au 13 nN (aj GK (aj aJ (pv 11) (aj aR (pv 12) (pv 7))) (pv 9))) (ag (au 14 nN (aj GK (aj aJ (pv 11) (aj aR (pv 12) (aj cJ (pv 8) af))) (pv 9))) (ag (aI (PW.pt (vc (aB dO (pv 13) (aH tc.bE tc.xA (pv 0))) (uY (aB dO (pv 14) (aH tc.bE tc.xA (pv 0)))))) (ak Ol) aM) (ag (aI (PW.pt (vc (aB d9 (pv 13) (aH tc.bE tc.uS (pv 0))) (uY (aB d9 (pv 14) (aH tc.bE tc.uS (pv 0)))))) (ag (au 16 nN (iY (gJ (pv 4)) (fe fL af) af)) (ag (uZ (cR hr) (aH tc.bE tc.rC (pv 0)) (pv 7) (aj aJ (xJ (cR hr) (aH tc.bE tc.rC (pv 0)) (pv 7) af ⟨rfl,rfl,rfl,rfl⟩) (pv 16)) rfl) (ag (uZ (cR hr) (aH tc.bE tc.rC (pv 0)) (pv 8) (aj cJ (xJ (cR hr) (aH tc.bE tc.rC (pv 0)) (pv 8) af ⟨rfl,rfl,rfl,rfl⟩) (pv 16)) rfl) (ak Ol)))) aM) (ag (au 15 nN (iY (gJ (pv 4)) (aH tc.bE tc.Bj (pv 0)) (aH tc.bE tc.Bz (pv 0)))) (ag (cB (gU (Pb (pv 15) (pv 7) (bo ae) ⟨rfl,rfl,rfl,rfl⟩) (aa (jw (aa (pv 11) (aa (pv 12) (aa (pv 9) (aa (pv 8) ae))))) ae))) (ak (uZ (cR hr) (aH tc.bE tc.BJ (pv 0)) (pv 8) gY rfl))))))))))))))))),?_⟩;refine dH (σ':=[some (.ref sw),some (.ref va),some (.ref pa),some (.ref qa),none,none,none,none,none,none,none,none,none,none,none,none,none]) rfl ?_;by_cases hf:p.r<q.r
 ·have hyy:=hy1 hf;symm;rw[show decide ((p.r:Int)<(q.r:Int))=true from cQ (by simp_all)];symm;rw[show(p.x*(q.y-p.y)+(q.x-p.x)*(v.M-p.y)+(q.y-p.y)-1+(q.x-p.x)*v.D*(p.r:Int))/(q.y-p.y)=(cw v p q).cr p.r from rfl,show(p.x*(q.y-p.y)+(q.x-p.x)*(v.M-p.y)+(q.y-p.y)-1+(q.x-p.x)*v.D*((q.r:Int)-1))/(q.y-p.y)=(cw v p q).cr ((q.r:Int)-1)from rfl];obtain⟨kl,gw,kN,kM,tw,jG⟩:=id hL;have zM:kl.length<=1025:=jO 1025 kl kN λ kv h=>by
   obtain⟨r,g1,g2,_⟩:=kM kv h;exact⟨r,by exact AG ‹_›,g1⟩
  have tD:kl.length<sizeLine:=by rw[aL];exact nP ‹_› (by decide)
  have JA:sw≠l:=λ z=>by rw[z,gw]at hs;cases hs
  obtain⟨kd,cN,hd2,ig,qR,oW⟩:=hD.ex;obtain⟨ke,cM,nv,nj,tG⟩:=id hE;have Up:kd.length<=1025:=jO 1025 kd hd2 λ kv h=>by obtain⟨r,g1,g2,_⟩:=ig kv h;exact⟨r,by lia,g1⟩
  have DL:ke.length<=1025:=jO 1025 ke nv λ kv h=>by obtain⟨r,g1,g2,_⟩:=nj kv h;exact⟨r,by lia,g1⟩
  have oN:dd≠e:=λ z=>by have h1:=hρ.2.2.1;rw[z,hρ.2.2.2.1]at h1;cases h1
  have vN:sw≠dd:=λ z=>by rw[z,cN]at hs;cases hs
  have nse:sw≠e:=λ z=>by rw[z,cM]at hs;cases hs
  have fin: ¬(F<(cw v p q).cr p.r/\F<(cw v p q).cr ((q.r:Int)-1))-> ¬((cw v p q).cr p.r<=N/\(cw v p q).cr ((q.r:Int)-1)<=N)-> ∀(a:Addr)(H4:Hp),(ρ a=some (.lD p.r)\/H a=none)->(∀z,H a≠some (.tup z))->az (λ y=>y=dd\/y=a\/y=e) H H4->
    H4 dd=some (.dK (putK kd (.inl (p.r:Int)) (.ref a)))->bt H4 a (begun p.r S.down++[cw v p q])->H4 e=some (.dK (putK ke (.inl ((q.r:Nat):Int)) (.bl true)))->Q .aG H4:=by
   intro g1 g2 a H4 g3 g4 g5 g6 g7 g8;have e1:fM v N F S p q= {S with down:=S.down++[(p.r,cw v p q)]}:=by unfold fM;rw[ao hf,ai g1,ai g2]
   refine k H4 (λ y=>if y=a then some (.lD p.r)else ρ y) (λ b o h n=>g5 _ _ h λ z=>n ?_) (λ b hb=>?_) ?_
   ·show ρ b≠none;rcases z with z|z|z
    ·rw[z,hρ.2.2.1];simp
    ·rcases g3 with g|g
     ·rw[z,g];simp
     ·rw[z,g]at h;cases h
    ·rw[z,hρ.2.2.2.1];simp
   ·have cY:(if b=a then some (.lD p.r)else ρ b)≠none:=hb;by_cases gy:b=a
    ·subst gy;rcases g3 with g|g
     ·exact .inl (by rw[g];simp)
     ·exact .inr g
    ·rw[ai gy]at cY;exact .inl cY
   ·rw[e1];exact Z_ hs hρ hU hL eK cX dB.al dB.nt cN cM np.2.2.2.2 nq.2.2.2.2 hd2 ig qR oW nv nj tG g5 g3 g4 g6 g7 g8
  nofun
  all_goals first
   |(refine k H ρ az.refl (λ a h=> .inl h) ?_
     have e1:fM v N F S p q=S:=by unfold fM;rw[ao hf,ao (by constructor<;>assumption)]
     rw[e1];exact dB)
   |skip
  all_goals try
    (refine aZ (lz (by simp)) λ a0 H2 n2 h2 s2=>?_
     have jD:=s2 _ _ hs;symm;refine Jr (s2 _ _ cN) (by rw[aL];lia) (λ v0 jC=>?_) (λ jC H3 h3 b3=>?_)
     ·obtain⟨a,rfl,ra,as,jj,zV⟩:=qR p.r v0 jC;have fK:=s2 _ _ jj;symm;refine fW (lz (by simp)) λ T H4 n4 h4 s4=>?_;symm;have hlb:as.length<=500000:=by
       rw[bw zV];have h1:=ax.sz;have h2:=Br p.r S.down
       lia
      refine d8 (s4 _ _ fK) (by rw[a_,aL];lia) λ H5 h5 b5=>?_;have zj:e≠a:=λ z=>by rw[z,jj]at cM;cases cM
      have oO:dd≠a:=λ z=>by rw[z,jj]at cN;cases cN
      have JX:=b5 _ _ (s4 _ _ jD) λ z=>(by rw[z,jj]at hs;cases hs);have tF:=b5 _ _ (s4 _ _ (s2 _ _ cM)) zj;symm;refine lF tF (by rw[aL];lia) λ H6 h6 b6=>?_;have sx:az (λ y=>y=dd\/y=a\/y=e) H H6:=λ b o h n=>b6 _ _ (b5 _ _ (s4 _ _ (s2 _ _ h)) λ z=>n (.inr (.inl z))) λ z=>n (.inr (.inr z));have nT:H T=none:=s2.free n4;refine fin (by lia) (by lia) a H6 (.inl ra) (λ z y=>by rw[jj]at y;cases y) sx ?_ ⟨as++[T],?_,?_⟩ h6
      ·rw[Mo hd2 jC];exact b6 _ _ (b5 _ _ (s4 _ _ (s2 _ _ cN)) oO) oN
      ·rw[fF];exact b6 _ _ h5 λ z=>zj z.symm
      ·refine eY (Paired.a8 zV λ b y z=>sx _ _ z λ w=>?_) (b6 _ _ (b5 _ _ h4 λ z=>?_) λ z=>?_)
       ·have z':H b=_:=z;rcases w with w|w|w
        ·rw[w,cN]at z';cases z'
        ·rw[w,jj]at z';cases z'
        ·rw[w,cM]at z';cases z'
       ·rw[z,jj]at nT;cases nT
       ·rw[z,cM]at nT;cases nT
     ·have oR:=b3 _ _ jD vN;have sY:a0≠dd:=λ z=>by rw[z,cN]at n2;cases n2
      have zr:a0≠e:=λ z=>by rw[z,cM]at n2;cases n2
      have fK:=b3 _ _ h2 sY;symm;refine fW (lz (by simp)) λ T H4 n4 h4 s4=>?_;symm;refine d8 (s4 _ _ fK) (by rw[aL];simp) λ H5 h5 b5=>?_;have JX:=b5 _ _ (s4 _ _ oR) λ z=>(by rw[z,n2]at hs;cases hs);have tF:=b5 _ _ (s4 _ _ (b3 _ _ (s2 _ _ cM) λ z=>oN z.symm)) λ z=>zr z.symm;symm;refine lF tF (by rw[aL];lia) λ H6 h6 b6=>?_;have sx:az (λ y=>y=dd\/y=a0\/y=e) H H6:=λ b o h n=>b6 _ _ (b5 _ _ (s4 _ _ (b3 _ _ (s2 _ _ h) λ z=>n (.inl z))) λ z=>n (.inr (.inl z))) λ z=>n (.inr (.inr z));refine fin (by lia) (by lia) a0 H6 (.inr n2) (λ z y=>by rw[n2]at y;cases y) sx ?_ ⟨[T],?_,?_⟩ h6
      ·exact b6 _ _ (b5 _ _ (s4 _ _ h3) λ z=>sY z.symm) oN
      ·exact b6 _ _ h5 zr
      ·rw[oW _ jC];refine .cons (b6 _ _ (b5 _ _ h4 λ z=>?_) λ z=>?_) .nil
       ·rw[z,fK]at n4;cases n4
       ·rw[z]at n4;rw[b3 _ _ (s2 _ _ cM) λ z=>oN z.symm]at n4;cases n4)
  all_goals
    (rw[jG]
     symm;refine lF gw tD λ H2 h2 b2=>?_;have jD:=b2 _ _ hs JA;symm;rw[iw,ai (by rw[lA];lia),jG];symm;refine lF h2 (nP (nW _ _ _) (by rw[aL];lia)) λ H3 h3 b3=>?_;symm;have e1:fM v N F S p q= {S with left:=S.left++[(p.r,q.r, -1)]}:=by unfold fM;rw[ao hf,ai (by lia),ao (by constructor<;>assumption)]
     refine k H3 ρ (λ b o h n=>b3 _ _ (b2 _ _ h λ z=>n (by show ρ b≠none;rw[z,hρ.2.2.2.2.1];simp)) λ z=>n (by show ρ b≠none;rw[z,hρ.2.2.2.2.1];simp)) (λ a h=> .inl h) ?_;rw[e1];exact NU hs hρ hU hD hE eK cX dB.al dB.nt gw hf nq.2.2.2.2 kN kM tw jG (λ b o h n=>b3 _ _ (b2 _ _ h n) n) h3)
 ·have qQ:q.r<p.r:=by lia
  have hyy:=hy2 qQ;symm;rw[show decide ((p.r:Int)<(q.r:Int))=false from cH (by lia)];symm;rw[show(q.x*(p.y-q.y)+(p.x-q.x)*(v.M-q.y)+(p.y-q.y)-1+(p.x-q.x)*v.D*(q.r:Int))/(p.y-q.y)=(cw v q p).cr q.r from rfl,show(q.x*(p.y-q.y)+(p.x-q.x)*(v.M-q.y)+(p.y-q.y)-1+(p.x-q.x)*v.D*((p.r:Int)-1))/(p.y-q.y)=(cw v q p).cr ((p.r:Int)-1)from rfl];obtain⟨kl,gw,kN,kM,tw,jG⟩:=id hL;have zM:kl.length<=1025:=jO 1025 kl kN λ kv h=>by obtain⟨r,g1,g2,_⟩:=kM kv h;exact⟨r,by lia,g1⟩
  have tD:kl.length<sizeLine:=by rw[aL];lia
  have JA:sw≠l:=λ z=>by rw[z,gw]at hs;cases hs
  obtain⟨kd,cN,hd2,ig,qR,oW⟩:=hU.ex;obtain⟨ke,cM,nv,nj,tG⟩:=id hE;have Up:kd.length<=1025:=jO 1025 kd hd2 λ kv h=>by obtain⟨r,g1,g2,_⟩:=ig kv h;exact⟨r,by lia,g1⟩
  have DL:ke.length<=1025:=jO 1025 ke nv λ kv h=>by obtain⟨r,g1,g2,_⟩:=nj kv h;exact⟨r,by lia,g1⟩
  have oN:u≠e:=λ z=>by have h1:=hρ.2.1;rw[z,hρ.2.2.2.1]at h1;cases h1
  have vN:sw≠u:=λ z=>by rw[z,cN]at hs;cases hs
  have nse:sw≠e:=λ z=>by rw[z,cM]at hs;cases hs
  have fin: ¬(F<(cw v q p).cr q.r/\F<(cw v q p).cr ((p.r:Int)-1))-> ¬((cw v q p).cr q.r<=N/\(cw v q p).cr ((p.r:Int)-1)<=N)-> ∀(a:Addr)(H4:Hp),(ρ a=some (.lU q.r)\/H a=none)->(∀z,H a≠some (.tup z))->az (λ y=>y=u\/y=a\/y=e) H H4->
    H4 u=some (.dK (putK kd (.inl (q.r:Int)) (.ref a)))->bt H4 a (begun q.r S.up++[cw v q p])->H4 e=some (.dK (putK ke (.inl ((p.r:Nat):Int)) (.bl true)))->Q .aG H4:=by
   intro g1 g2 a H4 g3 g4 g5 g6 g7 g8;have e1:fM v N F S p q= {S with up:=S.up++[(q.r,cw v q p)]}:=by unfold fM;rw[ai hf,ai g1,ai g2]
   refine k H4 (λ y=>if y=a then some (.lU q.r)else ρ y) (λ b o h n=>g5 _ _ h λ z=>n ?_) (λ b hb=>?_) ?_
   ·show ρ b≠none;rcases z with z|z|z
    ·rw[z,hρ.2.1];simp
    ·rcases g3 with g|g
     ·rw[z,g];simp
     ·rw[z,g]at h;cases h
    ·rw[z,hρ.2.2.2.1];simp
   ·have cY:(if b=a then some (.lU q.r)else ρ b)≠none:=hb;by_cases gy:b=a
    ·subst gy;rcases g3 with g|g
     ·exact .inl (by rw[g];simp)
     ·exact .inr g
    ·rw[ai gy]at cY;exact .inl cY
   ·rw[e1];exact ac1 hs hρ hD hL eK cX dB.al dB.nt cN cM nq.2.2.2.2 np.2.2.2.2 hd2 ig qR oW nv nj tG g5 g3 g4 g6 g7 g8
  nofun
  all_goals first
   |(refine k H ρ az.refl (λ a h=> .inl h) ?_
     have e1:fM v N F S p q=S:=by unfold fM;rw[ai hf,ao (by constructor<;>assumption)]
     rw[e1];exact dB)
   |skip
  all_goals try
    (refine aZ (lz (by simp)) λ a0 H2 n2 h2 s2=>?_
     have jD:=s2 _ _ hs;symm;refine Jr (s2 _ _ cN) (by rw[aL];lia) (λ v0 jC=>?_) (λ jC H3 h3 b3=>?_)
     ·obtain⟨a,rfl,ra,as,jj,zV⟩:=qR q.r v0 jC;have fK:=s2 _ _ jj;symm;refine fW (lz (by simp)) λ T H4 n4 h4 s4=>?_;symm;have hlb:as.length<=500000:=by
       rw[bw zV];have h1:=ax.sz;have h2:=Br q.r S.up
       lia
      refine d8 (s4 _ _ fK) (by rw[a_,aL];lia) λ H5 h5 b5=>?_;have zj:e≠a:=λ z=>by rw[z,jj]at cM;cases cM
      have oO:u≠a:=λ z=>by rw[z,jj]at cN;cases cN
      have JX:=b5 _ _ (s4 _ _ jD) λ z=>(by rw[z,jj]at hs;cases hs);have tF:=b5 _ _ (s4 _ _ (s2 _ _ cM)) zj;symm;refine lF tF (by rw[aL];lia) λ H6 h6 b6=>?_;have sx:az (λ y=>y=u\/y=a\/y=e) H H6:=λ b o h n=>b6 _ _ (b5 _ _ (s4 _ _ (s2 _ _ h)) λ z=>n (.inr (.inl z))) λ z=>n (.inr (.inr z));have nT:H T=none:=s2.free n4;refine fin (by lia) (by lia) a H6 (.inl ra) (λ z y=>by rw[jj]at y;cases y) sx ?_ ⟨as++[T],?_,?_⟩ h6
      ·rw[Mo hd2 jC];exact b6 _ _ (b5 _ _ (s4 _ _ (s2 _ _ cN)) oO) oN
      ·rw[fF];exact b6 _ _ h5 λ z=>zj z.symm
      ·refine eY (Paired.a8 zV λ b y z=>sx _ _ z λ w=>?_) (b6 _ _ (b5 _ _ h4 λ z=>?_) λ z=>?_)
       ·have z':H b=_:=z;rcases w with w|w|w
        ·rw[w,cN]at z';cases z'
        ·rw[w,jj]at z';cases z'
        ·rw[w,cM]at z';cases z'
       ·rw[z,jj]at nT;cases nT
       ·rw[z,cM]at nT;cases nT
     ·have oR:=b3 _ _ jD vN;have sY:a0≠u:=λ z=>by rw[z,cN]at n2;cases n2
      have zr:a0≠e:=λ z=>by rw[z,cM]at n2;cases n2
      have fK:=b3 _ _ h2 sY;symm;refine fW (lz (by simp)) λ T H4 n4 h4 s4=>?_;symm;refine d8 (s4 _ _ fK) (by rw[aL];simp) λ H5 h5 b5=>?_;have JX:=b5 _ _ (s4 _ _ oR) λ z=>(by rw[z,n2]at hs;cases hs);have tF:=b5 _ _ (s4 _ _ (b3 _ _ (s2 _ _ cM) λ z=>oN z.symm)) λ z=>zr z.symm;symm;refine lF tF (by rw[aL];lia) λ H6 h6 b6=>?_;have sx:az (λ y=>y=u\/y=a0\/y=e) H H6:=λ b o h n=>b6 _ _ (b5 _ _ (s4 _ _ (b3 _ _ (s2 _ _ h) λ z=>n (.inl z))) λ z=>n (.inr (.inl z))) λ z=>n (.inr (.inr z));refine fin (by lia) (by lia) a0 H6 (.inr n2) (λ z y=>by rw[n2]at y;cases y) sx ?_ ⟨[T],?_,?_⟩ h6
      ·exact b6 _ _ (b5 _ _ (s4 _ _ h3) λ z=>sY z.symm) oN
      ·exact b6 _ _ h5 zr
      ·rw[oW _ jC];refine .cons (b6 _ _ (b5 _ _ h4 λ z=>?_) λ z=>?_) .nil
       ·rw[z,fK]at n4;cases n4
       ·rw[z]at n4;rw[b3 _ _ (s2 _ _ cM) λ z=>oN z.symm]at n4;cases n4)
  all_goals
    (rw[jG]
     symm;refine lF gw tD λ H2 h2 b2=>?_;have jD:=b2 _ _ hs JA;symm;rw[iw,ai (by rw[lA];lia),jG];symm;refine lF h2 (nP (nW _ _ _) (by rw[aL];lia)) λ H3 h3 b3=>?_;symm;have e1:fM v N F S p q= {S with left:=S.left++[(q.r,p.r,1)]}:=by unfold fM;rw[ai hf,ai (by lia),ao (by constructor<;>assumption)]
     refine k H3 ρ (λ b o h n=>b3 _ _ (b2 _ _ h λ z=>n (by show ρ b≠none;rw[z,hρ.2.2.2.2.1];simp)) λ z=>n (by show ρ b≠none;rw[z,hρ.2.2.2.2.1];simp)) (λ a h=> .inl h) ?_;rw[e1];exact NU hs hρ hU hD hE eK cX dB.al dB.nt gw qQ np.2.2.2.2 kN kM tw jG (λ b o h n=>b3 _ _ (b2 _ _ h n) n) h3)
inductive Gm(c:Cs)(vs:List V)(H:Hp)(Q:VK)(E:XK):Prop
 |mk (x dx:Addr) (N F:Int):vs=[.ref x,.int N,.int F]->H x=some (.ins c.Sweep dx [])->(∀H' u d e l nu nd,([u,d,e,l,nu,nd]:List Addr).Nodup->(∀a∈([u,d,e,l,nu,nd]:List Addr),H a=none)->H' x=some (.ins c.Sweep dx (gQ N F u d e l nu nd 0))->
 H' u=some (.dK [])->H' d=some (.dK [])->H' e=some (.dK [])->H' l=some (.dK [])->H' nu=some (.lst [])->H' nd=some (.lst [])->bh x H H'->Q .aG H')->Gm c vs H Q E
abbrev Q7:=nF P w K mg Ba "Sweep" c.Sweep ["self","nearest","farthest"] 1 (Gm c)
set_option maxHeartbeats 1000000 in
def WG(g:aK mg)(tc:aW P w K mg c)(d:nI K mg "Sweep" c.Sweep "Sweep.__init__" (inClass (top 112) 0) ["self","nearest","farthest"]):Q7:=by
 refine d.ok ["self","nearest","farthest"] λ H Q E hr h nN=>?_;obtain⟨x,dx,N,F,rfl,hx,k⟩:=h;refine⟨_,(ag (cj tc.bE tc.uS (pv 0) (pv 1)) (ag (cj tc.bE tc.xA (pv 0) (pv 2)) (ag (cj tc.bE tc.Bz (pv 0) pL) (ag (cj tc.bE tc.Bj (pv 0) pL) (ag (cj tc.bE tc.BJ (pv 0) pL) (ag (cj tc.bE tc.rC (pv 0) pL) (ag (cj tc.bE tc.xp (pv 0) (bo ae)) (ag (cj tc.bE tc.wK (pv 0) (bo ae)) (ak (cj tc.bE tc.t8 (pv 0) af)))))))))),?_⟩;symm;refine cb (fs':=[("nearest",.int N)]) hx rfl (by simp) λ H1 f1 b1=>?_;symm;refine cb (fs':=[("nearest",.int N),("farthest",.int F)]) f1 rfl (by simp) λ H2 f2 b2=>?_;symm;refine pP λ u H3 n3 g3 s3=>?_;symm;have f3:=s3 _ _ f2;refine cb (fs':=[("nearest",.int N),("farthest",.int F),("rising",.ref u)]) f3 rfl (by simp) λ H4 f4 b4=>?_;symm;refine pP λ d H5 n5 g5 s5=>?_;symm;have f5:=s5 _ _ f4;refine cb (fs':=[("nearest",.int N),("farthest",.int F),("rising",.ref u),("falling",.ref d)]) f5 rfl (by simp) λ H6 f6 b6=>?_;symm;refine pP λ e H7 n7 g7 s7=>?_;symm;have f7:=s7 _ _ f6;refine cb (fs':=[("nearest",.int N),("farthest",.int F),("rising",.ref u),("falling",.ref d),("ended",.ref e)]) f7 rfl (by simp) λ H8 f8 b8=>?_;symm;refine pP λ l H9 n9 g9 s9=>?_;symm;have f9:=s9 _ _ f8;refine cb (fs':=[("nearest",.int N),("farthest",.int F),("rising",.ref u),("falling",.ref d),("ended",.ref e),("risen_left",.ref l)]) f9 rfl (by simp) λ wA UK jl=>?_;symm;refine aZ (lz (by simp)) λ nu H11 sZ UG jW=>?_;symm;have f11:=jW _ _ UK;refine cb (fs':=[("nearest",.int N),("farthest",.int F),("rising",.ref u),("falling",.ref d),("ended",.ref e),("risen_left",.ref l),("rising_now",.ref nu)]) f11 rfl (by simp) λ H12 UJ kS=>?_;symm;refine aZ (lz (by simp)) λ nd H13 qL g13 ia=>?_;symm;have f13:=ia _ _ UJ;refine cb (fs':=[("nearest",.int N),("farthest",.int F),("rising",.ref u),("falling",.ref d),("ended",.ref e),("risen_left",.ref l),("rising_now",.ref nu),("falling_now",.ref nd)]) f13 rfl (by simp) λ H14 f14 tQ=>?_;symm;refine cb (fs':=[("nearest",.int N),("farthest",.int F),("rising",.ref u),("falling",.ref d),("ended",.ref e),("risen_left",.ref l),("rising_now",.ref nu),("falling_now",.ref nd),("risen_left_now",.int 0)]) f14 rfl (by simp) λ H15 f15 tP=>?_;have x3:u≠x:=λ z=>by rw[z,f2]at n3;cases n3
 have x5:d≠x:=λ z=>by rw[z,f4]at n5;cases n5
 have x7:e≠x:=λ z=>by rw[z,f6]at n7;cases n7
 have x9:l≠x:=λ z=>by rw[z,f8]at n9;cases n9
 have mX:nu≠x:=λ z=>by rw[z,UK]at sZ;cases sZ
 have oG:nd≠x:=λ z=>by rw[z,UJ]at qL;cases qL
 have m3:H u=none:=by
  cases z:H u with
  |none=>rfl
  |some o=>have y:=b2 _ _ (b1 _ _ (z) x3) x3;rw[n3]at y;cases y
 have o3:=tP _ _ (tQ _ _ (ia _ _ (kS _ _ (jW _ _ (jl _ _ (s9 _ _ (b8 _ _ (s7 _ _ (b6 _ _ (s5 _ _ (b4 _ _ (g3) (x3))) (x3))) (x3))) (x3))) (x3))) (x3)) (x3);have m5:H d=none:=by
  cases z:H d with
  |none=>rfl
  |some o=>have y:=b4 _ _ (s3 _ _ (b2 _ _ (b1 _ _ (z) x5) x5)) x5;rw[n5]at y;cases y
 have o5:=tP _ _ (tQ _ _ (ia _ _ (kS _ _ (jW _ _ (jl _ _ (s9 _ _ (b8 _ _ (s7 _ _ (b6 _ _ (g5) (x5))) (x5))) (x5))) (x5))) (x5)) (x5);have m7:H e=none:=by
  cases z:H e with
  |none=>rfl
  |some o=>have y:=b6 _ _ (s5 _ _ (b4 _ _ (s3 _ _ (b2 _ _ (b1 _ _ (z) x7) x7)) x7)) x7;rw[n7]at y;cases y
 have o7:=tP _ _ (tQ _ _ (ia _ _ (kS _ _ (jW _ _ (jl _ _ (s9 _ _ (b8 _ _ (g7) (x7))) (x7))) (x7))) (x7)) (x7);have m9:H l=none:=by
  cases z:H l with
  |none=>rfl
  |some o=>have y:=b8 _ _ (s7 _ _ (b6 _ _ (s5 _ _ (b4 _ _ (s3 _ _ (b2 _ _ (b1 _ _ (z) x9) x9)) x9)) x9)) x9;rw[n9]at y;cases y
 have o9:=tP _ _ (tQ _ _ (ia _ _ (kS _ _ (jW _ _ (jl _ _ (g9) (x9))) (x9))) (x9)) (x9);have m11:H nu=none:=by
  cases z:H nu with
  |none=>rfl
  |some o=>have y:=jl _ _ (s9 _ _ (b8 _ _ (s7 _ _ (b6 _ _ (s5 _ _ (b4 _ _ (s3 _ _ (b2 _ _ (b1 _ _ (z) mX) mX)) mX)) mX)) mX)) mX;rw[sZ]at y;cases y
 have o11:=tP _ _ (tQ _ _ (ia _ _ (kS _ _ (UG) (mX))) (mX)) (mX);have m13:H nd=none:=by
  cases z:H nd with
  |none=>rfl
  |some o=>have y:=kS _ _ (jW _ _ (jl _ _ (s9 _ _ (b8 _ _ (s7 _ _ (b6 _ _ (s5 _ _ (b4 _ _ (s3 _ _ (b2 _ _ (b1 _ _ (z) oG) oG)) oG)) oG)) oG)) oG)) oG;rw[qL]at y;cases y
 have o13:=tP _ _ (tQ _ _ (g13) (oG)) (oG);have ae7:u≠d:=λ z=>by have y:=b4 _ _ (g3) x3;rw[z,n5]at y;cases y
 have ae6:u≠e:=λ z=>by have y:=b6 _ _ (s5 _ _ (b4 _ _ (g3) x3)) x3;rw[z,n7]at y;cases y
 have ae5:u≠l:=λ z=>by have y:=b8 _ _ (s7 _ _ (b6 _ _ (s5 _ _ (b4 _ _ (g3) x3)) x3)) x3;rw[z,n9]at y;cases y
 have ad9:u≠nu:=λ z=>by have y:=jl _ _ (s9 _ _ (b8 _ _ (s7 _ _ (b6 _ _ (s5 _ _ (b4 _ _ (g3) x3)) x3)) x3)) x3;rw[z,sZ]at y;cases y
 have ad8:u≠nd:=λ z=>by have y:=kS _ _ (jW _ _ (jl _ _ (s9 _ _ (b8 _ _ (s7 _ _ (b6 _ _ (s5 _ _ (b4 _ _ (g3) x3)) x3)) x3)) x3)) x3;rw[z,qL]at y;cases y
 have ae4:d≠e:=λ z=>by have y:=b6 _ _ (g5) x5;rw[z,n7]at y;cases y
 have ae3:d≠l:=λ z=>by have y:=b8 _ _ (s7 _ _ (b6 _ _ (g5) x5)) x5;rw[z,n9]at y;cases y
 have ad7:d≠nu:=λ z=>by have y:=jl _ _ (s9 _ _ (b8 _ _ (s7 _ _ (b6 _ _ (g5) x5)) x5)) x5;rw[z,sZ]at y;cases y
 have ad6:d≠nd:=λ z=>by have y:=kS _ _ (jW _ _ (jl _ _ (s9 _ _ (b8 _ _ (s7 _ _ (b6 _ _ (g5) x5)) x5)) x5)) x5;rw[z,qL]at y;cases y
 have ae2:e≠l:=λ z=>by have y:=b8 _ _ (g7) x7;rw[z,n9]at y;cases y
 have ad5:e≠nu:=λ z=>by have y:=jl _ _ (s9 _ _ (b8 _ _ (g7) x7)) x7;rw[z,sZ]at y;cases y
 have ad4:e≠nd:=λ z=>by have y:=kS _ _ (jW _ _ (jl _ _ (s9 _ _ (b8 _ _ (g7) x7)) x7)) x7;rw[z,qL]at y;cases y
 have ad3:l≠nu:=λ z=>by have y:=jl _ _ (g9) x9;rw[z,sZ]at y;cases y
 have ad2:l≠nd:=λ z=>by have y:=kS _ _ (jW _ _ (jl _ _ (g9) x9)) x9;rw[z,qL]at y;cases y
 have ach:nu≠nd:=λ z=>by have y:=kS _ _ (UG) mX;rw[z,qL]at y;cases y
 refine k H15 u d e l nu nd (by simp;exact⟨⟨ae7,ae6,ae5,ad9,ad8⟩,⟨ae4,ae3,ad7,ad6⟩,⟨ae2,ad5,ad4⟩,⟨ad3,ad2⟩,ach⟩) (λ a ha=>?_) f15 o3 o5 o7 o9 o11 o13 λ b o h n=>tP _ _ (tQ _ _ (ia _ _ (kS _ _ (jW _ _ (jl _ _ (s9 _ _ (b8 _ _ (s7 _ _ (b6 _ _ (s5 _ _ (b4 _ _ (s3 _ _ (b2 _ _ (b1 _ _ (h) (n)) (n))) (n))) (n))) (n))) (n))) (n))) (n)) (n);simp at ha;rcases ha with rfl|rfl|rfl|rfl|rfl|rfl
 ·exact m3
 ·exact m5
 ·exact m7
 ·exact m9
 ·exact m11
 ·exact m13
noncomputable def vj (x u d e l nu nd:Addr):gO:=λ y=>if y=x then some .sw else if y=u then some .dU else if y=d then some .dD else if y=e then some .dE else if y=l then some .dL else if y=nu then some .nU else if y=nd then some .nD else none
def XY(r:Nat):gW ⟨[],[],[]⟩ r=0:=rfl
def aba{H1:Hp}{x dx u d e l nu nd:Addr}{N F:Int}(Ts:([u,d,e,l,nu,nd]:List Addr).Nodup)(nx: ∀a∈([u,d,e,l,nu,nd]:List Addr),a≠x)(hs:H1 x=some (.ins c.Sweep dx (gQ N F u d e l nu nd 0)))
  (hu:H1 u=some (.dK []))(hd:H1 d=some (.dK []))(he:H1 e=some (.dK []))(hl:H1 l=some (.dK []))(eK:H1 nu=some (.lst []))(cX:H1 nd=some (.lst [])):dP c H1 x (vj x u d e l nu nd) ⟨[],[],[]⟩ N F [] [] 0:=by
 simp at Ts nx;have em: ∀k:Key,aE [] k=none:=λ k=>rfl;have dl: ∀a tag,H1 a=some (.dK [])->iQ H1 (vj x u d e l nu nd) a tag []:=λ a tag h=>⟨⟨[],h,.nil,λ _ z=>(by cases z),λ r v z=>(by cases z),λ r _=>rfl⟩⟩;refine⟨⟨dx,u,d,e,l,nu,nd,hs,?_,dl _ _ hu,dl _ _ hd,⟨[],he,.nil,λ _ z=>(by cases z),λ _ z=>(by cases z)⟩,⟨[],hl,.nil,λ _ z=>(by cases z),λ _ z=>(by cases z),λ r=>by rw[XY];rfl⟩,⟨[],eK,.nil⟩,⟨[],cX,.nil⟩⟩,λ a ha=>?_,λ a ha z e5=>?_⟩
 ·obtain⟨⟨a1,a2,a3,a4,a5⟩,⟨b1,b2,b3,b4⟩,⟨c1,c2,c3⟩,⟨d1,d2⟩,e1⟩:=Ts;obtain⟨x1,x2,x3,x4,x5,x6⟩:=nx;have sy: ∀{p q:Addr},¬p=q-> ¬q=p:=λ h z=>h z.symm;unfold vj;refine⟨?_,?_,?_,?_,?_,?_,?_⟩<;>simp[sy a1,sy a2,sy a3,sy a4,sy a5,sy b1,sy b2,sy b3,sy b4,sy c1,sy c2,sy c3,sy d1,sy d2,sy e1,x1,x2,x3,x4,x5,x6]
 ·unfold vj at ha;intro z;apply ha;have k: ∀b o,H1 b=some o->a≠b:=λ b o h y=>by rw[y,h]at z;cases z
  rw[ai (k _ _ hs),ai (k _ _ hu),ai (k _ _ hd),ai (k _ _ he),ai (k _ _ hl),ai (k _ _ eK),ai (k _ _ cX)]
 ·unfold vj at ha;apply ha;have k: ∀b o,H1 b=some o->(∀z,o≠ .tup z)->a≠b:=λ b o h n y=>by rw[y,h]at e5;cases e5;exact n _ rfl
  rw[ai (k _ _ hs (by simp)),ai (k _ _ hu (by simp)),ai (k _ _ hd (by simp)),ai (k _ _ he (by simp)),ai (k _ _ hl (by simp)),ai (k _ _ eK (by simp)),ai (k _ _ cX (by simp))]
def Za{H:Hp}{Q:VK}{N F:Int}(q: ∀x H1 ρ,H x=none->aq H H1->dP c H1 x ρ ⟨[],[],[]⟩ N F [] [] 0->(∀a,ρ a≠none->H a=none)->Q (.ref x) H1):oZ c.Sweep (Gm c) [.int N,.int F] H Q:=λ x dx hx iO ne=>
 ⟨x,dx,N,F,rfl,br,λ H' u d e l nu nd g1 g2 g3 g4 g5 g6 g7 g8 g9 b'=>⟨rfl,by
  have sm:aq H H':=aq.made hx iO b';have nx: ∀a∈([u,d,e,l,nu,nd]:List Addr),a≠x:=λ a ha z=>by have:=g2 a ha;rw[z,br]at this;cases this
  have hn: ∀a∈([u,d,e,l,nu,nd]:List Addr),H a=none:=λ a ha=>by
   have h1:=g2 a ha;rw[bb (nx a ha)]at h1;have h2:a≠dx:=λ z=>by rw[z,br]at h1;cases h1
   rw[bb h2]at h1;exact h1
  refine q x H' _ hx sm (aba g1 nx g3 g4 g5 g6 g7 g8 g9) λ a ha=>?_;unfold vj at ha;by_cases c0:a=x
  ·rw[c0];exact hx
  by_cases c1:a∈([u,d,e,l,nu,nd]:List Addr)
  ·exact hn a c1
  ·exfalso;simp at c1;apply ha;simp[c0,c1]⟩⟩
def vn(p:Corner):Prop:= -1099511627776<p.1/\p.1<1099511627776/\ -1099511627776<p.2/\p.2<1099511627776
inductive Oe(c:Cs)(vs:List V)(H:Hp)(Q:VK)(E:XK):Prop
 |mk (sw va pl:Addr) (v:Vw) (cs:List Corner) (ρ:gO) (S:Sw) (N F:Int) (n:Nat):vs=[.ref sw,.ref va,.ref pl]->jx c H va v->v.Ok->ρ va=none->sM H pl cs->ρ pl=none->(∀q∈cs,vn q)->dP c H sw ρ S N F [] [] 0->SwOk S n->n+cs.length<=500000->(∀H' ρ',az (λ a=>ρ a≠none) H H'->(∀a,ρ' a≠none->ρ a≠none\/H a=none)->dP c H' sw ρ' (gG v N F S cs) N F [] [] 0->Q .aG H')->Oe c vs H Q E
abbrev Q6:=Kn P w K mg Ba "add_contour" ["sweep","view","places"] 2 (Oe c)
def SwOk.le{S:Sw}{n m:Nat}(h:SwOk S n)(l:n<=m):SwOk S m:=⟨h.ln,h.lt,bY h.sz l⟩
def SwOk.add{v:Vw}{N F:Int}{S:Sw}{n:Nat}{p q:Pl}(h:SwOk S n)(np:lH p)(nq:lH q)(bH:p.r≠q.r)(h1:p.r<q.r->p.y<q.y)(h2:q.r<p.r->q.y<p.y):SwOk (fM v N F S p q) (n+1):=by
 unfold lH at np nq;have hz:=h.sz;have hl: ∀a b:Pl,lH a->lH b->a.y<b.y->a.r<b.r->a.r<(cw v a b).e/\(cw v a b).e<=1024/\0<(cw v a b).d/\(cw v a b).d<2^64:=λ a b na nb hy hr=>by
  unfold lH at na nb;unfold cw;dsimp only
  grind
 unfold fM;by_cases hf:p.r<q.r
 ·rw[ao hf];split
  ·exact⟨h.ln,h.lt,by exact mv ‹_›⟩
  ·split
   ·refine⟨h.ln,λ t ht=>?_,by simp;exact AG ‹_›⟩;rcases bJ.mp ht with z|z
    ·exact h.lt t z
    ·simp at z;subst z;exact⟨hf,nq.2.2.2.2,by simp,by simp⟩
   ·refine⟨λ t ht=>?_,h.lt,by simp;lia⟩;simp only[<- gE]at ht;rcases bJ.mp ht with z|z
    ·exact h.ln t z
    ·simp at z;subst z;exact hl p q np nq (h1 hf) hf
 ·have qQ:q.r<p.r:=by lia
  rw[ai hf];split
  ·exact⟨h.ln,h.lt,by lia⟩
  ·split
   ·refine⟨h.ln,λ t ht=>?_,by simp;lia⟩;rcases bJ.mp ht with z|z
    ·exact h.lt t z
    ·simp at z;subst z;exact⟨qQ,np.2.2.2.2,by simp,by simp⟩
   ·refine⟨λ t ht=>?_,h.lt,by simp;lia⟩;rcases bJ.mp ht with z|z
    ·rcases bJ.mp z with y|y
     ·exact h.ln t (eZ _ y)
     ·simp at y;subst y;exact hl q p nq np (h2 qQ) qQ
    ·exact h.ln t (gj _ z)
def Cf{v:Vw}(k:v.Ok){q:Corner}(h:vn q):lH (bg v q):=by
 have s2:=k.s2;have u2:=k.u2;have y1:=k.y1;have y2:=k.y2;have h2:=k.h2;have hr:=BG v (v.top-v.S*q.2);have m: ∀z:Int, -1099511627776<z->z<1099511627776-> -281474976710656<=(v.S:Int)*z/\(v.S:Int)*z<=281474976710656:=λ z a b=>by
  have e1:(v.S:Int)*z<=v.S*1099511627776:=pG (by exact EW ‹_›) (by simp);have e2:(v.S:Int)*(-1099511627776)<=v.S*z:=pG (by exact EW ‹_›) (by lia)
  lia
 have t: -8589934592<=v.top/\v.top<=8589934592:=by
  unfold Vw.top;have e1:(128*(v.U:Int))*v.y0<=128*v.U*4096:=pG y2 (by exact nQ _);have e2:(128*(v.U:Int))*(-4096)<=128*v.U*v.y0:=pG y1 (by lia)
  lia
 obtain⟨a1,a2,a3,a4⟩:=h;have m1:=m _ a1 a2;have m2:=m _ a3 a4;unfold lH bg;dsimp only
 grind
def dP.same{H H':Hp}{sw:Addr}{ρ:gO}{S:Sw}{N F R:Int}{nU nD:List Ln}(h:dP c H sw ρ S N F nU nD R)(s:aq H H'):dP c H' sw ρ S N F nU nD R:=by
 obtain⟨dx,u,d,e,l,nu,nd,hs,hρ,hU,hD,hE,hL,eK,cX⟩:=h.ex;have kp: ∀b y,bt H b y->bt H' b y:=λ b y ⟨as,h1,h2⟩=>⟨as,s _ _ h1,Paired.a8 h2 λ a q z=>s _ _ z⟩;exact⟨⟨dx,u,d,e,l,nu,nd,s _ _ hs,hρ,hU.keep (λ o h=>s _ _ h) λ r b x g1 g2=>⟨g1,kp _ _ g2⟩,hD.keep (λ o h=>s _ _ h) λ r b x g1 g2=>⟨g1,kp _ _ g2⟩,hE.keep (λ o h=>s _ _ h) λ t=>Iff.rfl,hL.keep (λ o h=>s _ _ h) rfl,kp _ _ eK,kp _ _ cX⟩,
  λ a ha=>xI (Z:=λ _=>False) (az.of s) (λ _ z=>z.elim) (h.al a ha),xQ (Z:=λ _=>False) (az.of s) h.al h.nt λ _ z=>z.elim⟩
def XJ{α:Type}{l:List α}{i:Nat}{p q:α}(h0:0<i)(hp:l[i-1]?=some p)(hq:l[i]?=some q):Mx.pairs (l.take (i+1))=Mx.pairs (l.take i)++[(p,q)]:=by obtain⟨j,rfl⟩: ∃j,i=j+1:=⟨i-1,by lia⟩;rw[Fl]at hp;rw[cA (i:=j+1),hq,cA (i:=j),hp];show Mx.pairs ((l.take j++[p])++[q])=Mx.pairs (l.take j++[p])++[(p,q)];rw[gE,K9,Bh];rfl
def Wf(g:aK mg)(tc:aW P w K mg c)(d:Df K mg "add_contour" (top 113) ["sweep","view","places"])(F2:Q1)(Ge:Q0):Q6:=by
 refine d.ok ["sweep","view","places","size","top","before","x","y","down","place"] λ H Q E hr h nN=>?_;obtain⟨sw,va,pl,v,cs,ρ,S,N,F,n,rfl,⟨dv,hv⟩,bA,Jt,⟨ps,bz,cK⟩,rpl,near,dB,ax,hz,k⟩:=h;refine⟨_,(ag (au 3 nN (aH tc.cD tc.xW (pv 1))) (ag (au 4 nN (aH tc.cD tc.Qu (pv 1))) (ag (au 5 nN xV) (ak (fJ (c_ (pv 2)) (rS rfl (dm (aT 6 nN) (dm (aT 7 nN) mF))) (ag (au 8 nN (aj cJ (pv 4) (aj aR (pv 3) (pv 7)))) (ag (au 9 nN (jw (aa (aj aR (pv 3) (pv 6)) (aa (pv 8) (aa (pk F2 hr (aa (pv 1) (aa (pv 8) ae))) ae))))) (ag (aI (PW.pt (vc (vd (aaB (pv 5))) (uY (aB gZ (bB (pv 5) af) (bB (pv 9) af))))) (ak (cB (pk Ge hr (aa (pv 0) (aa (pv 1) (aa (pv 5) (aa (pv 9) ae))))))) aM) (ak (au 5 nN (pv 9))))))))))),?_⟩;refine dH (σ':=[some (.ref sw),some (.ref va),some (.ref pl),none,none,none,none,none,none,none]) rfl ?_;unfold jV at hv;have qpl:ah K H pl (rV ps):=ah.of bz;have s2:=bA.s2;have TK: ∀H',az (λ a=>ρ a≠none) H H'->jx c H' va v:=λ H' sx=>⟨dv,sx _ _ hv λ z=>z Jt⟩;symm;refine L2.Rd.zY (xs:=rV ps) (λ i σ H'=>KS λ(ρ':gO)(bf:V)(v1 v2 v3 v4:Option V)=>Ag (σ=[some (.ref sw),some (.ref va),some (.ref pl),some (.int v.S),some (.int v.top),some bf,v1,v2,v3,v4]) (az (λ a=>ρ a≠none) H H') (∀a,ρ' a≠none->ρ a≠none\/H a=none) (dP c H' sw ρ' (gG v N F S (cs.take i)) N F [] [] 0) (SwOk (gG v N F S (cs.take i)) (n+i)) ((i=0/\bf= .aG)\/ ∃b q,0<i/\bf= .ref b/\cs[i-1]?=some q/\yL H' b (bg v q))) ?_ ?_ ?_ ?_
 ·exact⟨ρ,.aG,none,none,none,none,rfl,az.refl,λ a h=> .inl h,dB,ax,.inl ⟨rfl,rfl⟩⟩
 ·rintro i σ H' _ ⟨ρ',bf,v1,v2,v3,v4,rfl,sx,_⟩;exact ah.of (sx _ _ bz λ z=>z rpl)
 ·rintro i x σ H' hx ⟨ρ',bf,v1,v2,v3,v4,rfl,sx,fr,oH,ze,Ux⟩;obtain⟨pa,tq,rfl⟩:=dc.mp hx;obtain⟨q,hq,jE⟩:=Paired.at cK tq;have kO:i<cs.length:=(bC.mp hq).1;have afn:H' pa=some (.tup [.int q.1,.int q.2]):=sx _ _ jE λ z=>dB.nt pa z _ jE;refine mI (xs:=[.int q.1,.int q.2]) (aP.of afn) rfl ?_;symm;refine⟨va,v,_,rfl,TK H' sx,bA,?_⟩;symm;refine fW (lz (by simp)) λ T H2 n2 h2 s2=>?_;have hT:yL H2 T (bg v q):=h2;have nq:=Cf bA (near q (eG hq));rcases Ux with⟨rfl,rfl⟩|⟨b,p,h0,rfl,hp,hb⟩
  ·symm;have e1:gG v N F S (cs.take (0+1))=gG v N F S (cs.take 0):=by rw[cA,hq];rfl
   refine⟨ρ',.ref T,_,_,_,_,rfl,sx.add s2,fr,?_,?_,.inr ⟨T,q,by simp,rfl,hq,hT⟩⟩
   ·rw[e1];exact oH.same s2
   ·rw[e1];exact ze.le (by simp)
  ·have cY:yL H2 b (bg v p):=s2 _ _ hb;have np:=Cf bA (near p (eG hp));have qb:aP K H2 b _:=aP.of cY;have qT:aP K H2 T _:=aP.of hT;have e1:gG v N F S (cs.take (i+1))=lC v N F (gG v N F S (cs.take i)) (p,q):=by
    unfold gG;rw[XJ h0 hp hq,AF];rfl
   nofun
   ·rename_i bH;have bH:(bg v p).r≠(bg v q).r:=by lia
    refine⟨sw,va,b,T,v,bg v p,bg v q,ρ',_,N,F,rfl,TK H2 (sx.add s2),bA,cY,hT,np,nq,bH,λ z=>pW bA z,λ z=>pW bA z,oH.same s2,ze.le (by lia),λ H3 ρ3 iJ wg yU=>?_⟩;symm;have e2:gG v N F S (cs.take (i+1))=fM v N F (gG v N F S (cs.take i)) (bg v p) (bg v q):=by rw[e1];exact ao bH
    refine⟨ρ3,.ref T,_,_,_,_,rfl,λ a o h n=>iJ _ _ ((sx.add s2) _ _ h n) λ z=>?_,λ a ha=>?_,?_,?_,.inr ⟨T,q,by simp,rfl,hq,iJ _ _ hT λ z=>oH.al T z n2⟩⟩
    ·rcases fr a z with y|y
     ·exact n y
     ·rw[h]at y;cases y
    ·rcases wg a ha with y|y
     ·exact fr a y
     ·by_cases c1:ρ a≠none
      ·exact .inl c1
      ·exact .inr ((sx.add s2).none y c1)
    ·rw[e2];exact yU
    ·rw[e2];exact ze.add np nq bH (λ z=>pW bA z) λ z=>pW bA z
   ·rename_i heq;have heq:(bg v p).r=(bg v q).r:=by exact uk ‹_›
    have e2:gG v N F S (cs.take (i+1))=gG v N F S (cs.take i):=by rw[e1];exact ai (λ z=>z heq)
    refine⟨ρ',.ref T,_,_,_,_,rfl,sx.add s2,fr,?_,?_,.inr ⟨T,q,by lia,rfl,hq,hT⟩⟩
    ·rw[e2];exact oH.same s2
    ·rw[e2];exact ze.le (by simp)
 ·rintro σ H' ⟨ρ',bf,v1,v2,v3,v4,rfl,sx,fr,oH,ze,Ux⟩;have hl:=bw cK;rw[fE (by rw[a_];simp_all)]at oH;exact k H' ρ' sx fr oH
section
variable{σ:St}{H:Hp}{Q:VK}{K:W.Frag}{a:Addr}{kvs:List (Key×V)}{ta tv:TE}{tA:TA}{nx bk ct:St->Hp->Prop}{rt:VK}{C dx:Addr}{fs:List (Str×V)}{f:Str}
def BZ(h:H a=some (.dK kvs))(q: ∀p H1,H p=none->H1 p=some (.lst (kvs.map λ kv=>kV kv.1))->aq H H1->Q (.ref p) H1):HE [.ref a] H Q:=⟨a,kvs,rfl,h,λ p hp=>q p _ hp br (eM hp _)⟩
def U0(vs:List V)(H1:Hp)(Q:VK):Prop:=∃i j:Int,vs=[.int i,.int j]/\(-(2^62)<=i/\i<2^62/\ -(2^62)<=j/\j<2^62)/\(j-i).toNat<=2^24/\ ∀p,H1 p=none->Q (.ref p) (upd H1 p (.lst ((List.range (j-i).toNat).map λ(k:Nat)=>V.int (i+k))))
def abA(q:tA σ H λ vs H1=>U0 vs H1 Q):P0 tA σ H Q:=q
def lrv{m n:Nat}(hm:m<=100000)(hn:n<=100000)(q: ∀p H1,H p=none->H1 p=some (.lst (nV ((List.range (n-m)).map λ(k:Nat)=>m+k)))->aq H H1->Q (.ref p) H1):U0 [.int (m:Int),.int (n:Int)] H Q:=by
 refine⟨_,_,rfl,by lia,by lia,λ p hp=>q p _ hp ?_ (eM hp _)⟩;rw[br,show((n:Int)-m).toNat=n-m by simp];unfold nV;rw[jo]
 congr 2
def abw{l:List Nat}(h:H a=some (.lst (nV l)))(ne:l≠ [])(q: ∀m:Nat,m∈l->(∀y∈l,m<=y)->Q (.int m) H):L2.sE K [.ref a] H Q:=by
 refine⟨a,l.map λ(e:Nat)=>(e:Int),rfl,?_,by rw[aV];exact uG.mpr ne,λ m hm hy=>?_⟩
 ·rw[jo];exact ah.of h
 ·obtain⟨n,hn,rfl⟩:=bF.mp hm;exact q n hn λ y zE=>by have:=hy _ (bF.mpr ⟨y,zE,rfl⟩);exact wO.mp ‹_›
def abx{l:List Nat}(h:H a=some (.lst (nV l)))(ne:l≠ [])(q: ∀m:Nat,m∈l->(∀y∈l,y<=m)->Q (.int m) H):L2.sF K [.ref a] H Q:=by
 refine⟨a,l.map λ(e:Nat)=>(e:Int),rfl,?_,by rw[aV];exact uG.mpr ne,λ m hm hy=>?_⟩
 ·rw[jo];exact ah.of h
 ·obtain⟨n,hn,rfl⟩:=bF.mp hm;exact q n hn λ y zE=>by have:=hy _ (bF.mpr ⟨y,zE,rfl⟩);exact wO.mp ‹_›
def HB{l:List Int}(h:H a=some (.lst (iV l)))(ne:l≠ [])(q: ∀m:Int,m∈l->(∀y∈l,m<=y)->Q (.int m) H):L2.sE K [.ref a] H Q:=⟨a,l,rfl,ah.of h,uG.mpr ne,q⟩
def HC{l:List Int}(h:H a=some (.lst (iV l)))(ne:l≠ [])(q: ∀m:Int,m∈l->(∀y∈l,y<=m)->Q (.int m) H):L2.sF K [.ref a] H Q:=⟨a,l,rfl,ah.of h,uG.mpr ne,q⟩
noncomputable def fY (kvs:List (Key×V)):List Nat:=kvs.map λ kv=>match kv.1 with
 | .inl i=>i.toNat
 | .inr _=>0
def BM(h: ∀kv∈kvs,∃r:Nat,kv.1= .inl (r:Int)):(kvs.map λ kv=>kV kv.1)=nV (fY kvs):=by
 unfold nV fY;rw[jo];apply k_;intro kv hk;obtain⟨r,e⟩:=h kv hk;show kV kv.1=_;rw[e];show V.int (r:Int)=V.int (((match kv.1 with
  | .inl i=>i.toNat
  | .inr _=>0:Nat)):Int)
 rw[e];rfl
def Bl{r:Nat}(h: ∀kv∈kvs,∃r:Nat,kv.1= .inl (r:Int))(m:r∈fY kvs): ∃kv∈kvs,kv.1= .inl (r:Int):=by obtain⟨kv,hk,e⟩:=bF.mp m;obtain⟨r',e'⟩:=h kv hk;rw[e']at e;refine⟨kv,hk,?_⟩;rw[e',<- e];rfl
def xK{r:Nat}(h:(aE kvs (.inl (r:Int))).isSome=true):r∈fY kvs:=by rw[<- mB,uv]at h;obtain⟨kv,hk,e⟩:=h;have e':kv.1= .inl (r:Int):=dY e;refine bF.mpr ⟨kv,hk,?_⟩;rw[e'];rfl
def C0(C:Addr)(tv:TE)(rd:V->V->Hp->VK->Prop)(f:Str)(σ:St)(x:V)(H1:Hp)(N:Hp->Prop):Prop:=∃a dx fs v,x= .ref a/\H1 a=some (.ins C dx fs)/\fs.lookup f=some v/\
 tv σ H1 λ y H2=>rd v y H2 λ z H3=>lP C f z x H3 N
def abP{rd:V->V->Hp->VK->Prop}(q:ta σ H λ x H1=>C0 C tv rd f σ x H1 (nx σ)):Qg C ta tv rd f (Ends.mk nx rt bk ct) σ H:=by
 have e: ∀x H1,C0 C tv rd f σ x H1 (nx σ)-> ∃a dx fs v,x= .ref a/\H1 a=some (.ins C dx fs)/\fs.lookup f=some v/\
   tv σ H1 λ y H2=>rd v y H2 λ z H3=>∃cO fs',H3 a=some (.ins C cO fs')/\fs'.length<1000/\nx σ (upd H3 a (.ins C cO (fh f z fs'))):=λ x H1 ⟨a,dx,fs,v,e1,e2,e3,e4⟩=>by
  subst e1;refine⟨a,dx,fs,v,rfl,e2,e3,?_⟩;have:(λ(z:V)(H3:Hp)=>lP C f z (.ref a) H3 (nx σ))=λ z H3=>∃cO fs',H3 a=some (.ins C cO fs')/\fs'.length<1000/\nx σ (upd H3 a (.ins C cO (fh f z fs'))):=by
   funext z H3;apply propext;unfold lP;constructor
   ·rintro⟨a',cO,fs',e5,e6⟩;cases e5;exact⟨cO,fs',e6⟩
   ·rintro⟨cO,fs',e6⟩;exact⟨a,cO,fs',rfl,e6⟩
  rw[this]at e4;exact e4
 have:(λ(x:V)(H1:Hp)=>C0 C tv rd f σ x H1 (nx σ))=λ x H1=>∃a dx fs v,x= .ref a/\H1 a=some (.ins C dx fs)/\fs.lookup f=some v/\
   tv σ H1 λ y H2=>rd v y H2 λ z H3=>∃cO fs',H3 a=some (.ins C cO fs')/\fs'.length<1000/\nx σ (upd H3 a (.ins C cO (fh f z fs'))):=by
  funext x H1;apply propext;refine⟨e x H1,?_⟩;rintro⟨a,dx,fs,v,e1,e2,e3,e4⟩;subst e1;refine⟨a,dx,fs,v,rfl,e2,e3,?_⟩;have:(λ(z:V)(H3:Hp)=>lP C f z (.ref a) H3 (nx σ))=λ z H3=>∃cO fs',H3 a=some (.ins C cO fs')/\fs'.length<1000/\nx σ (upd H3 a (.ins C cO (fh f z fs'))):=by
   funext z H3;apply propext;unfold lP;constructor
   ·rintro⟨a',cO,fs',e5,e6⟩;cases e5;exact⟨cO,fs',e6⟩
   ·rintro⟨cO,fs',e6⟩;exact⟨a,cO,fs',rfl,e6⟩
  rw[this];exact e4
 rw[this]at q;exact q
def aak{rd:V->V->Hp->VK->Prop}{v:V}{N:Hp->Prop}(h:H a=some (.ins C dx fs))(l:fs.lookup f=some v)(q:tv σ H λ y H2=>rd v y H2 λ z H3=>lP C f z (.ref a) H3 N):C0 C tv rd f σ (.ref a) H N:=⟨a,dx,fs,v,rfl,h,l,q⟩
end
local macro_rules|`(tactic|walk_at "1")=>`(tactic|with_reducible first|refine abA ?_|refine abP ?_)
theorem abJ{b:Bool}{A:Prop}{Bf:Hp->Prop}{H:Hp}(J:Hp->Prop)(h: ∀H1,J H1->Bf H1)(h1:b=true->(∀H1,J H1->Bf H1)->A)(h0:b=false->J H):if b=true then A else Bf H:=by
 cases b with
 |true=>exact qw (h1 rfl h)
 |false=>exact qz (h _ (h0 rfl))
def Oh{σ σ2:St}{H:Hp}{tt:TT}{te:TE}{vs:List Nat}{D:Addr}{N:Hp->Prop}(e:wipe σ2 vs=wipe σ vs)(q:tt σ2 H λ b H3=>if b=true then te σ2 H3 (vx D N)else N H3):sA D tt te vs σ N σ2 H:=⟨e,q⟩
inductive N0(c:Cs)(vs:List V)(H:Hp)(Q:VK)(E:XK):Prop
 |mk (sw:Addr) (ρ:gO) (S:Sw) (N F:Int) (nU nD:List Ln) (R:Int) (n:Nat):vs=[.ref sw]->dP c H sw ρ S N F nU nD R->SwOk S n->(∀(lo hi:Nat)p H',lo<=hi->(∀B,oq S B->hi<=B)->(∀t∈S.up++S.down,lo<=t.1/\t.2.e<=hi)->(∀t∈S.left,lo<=t.1/\t.2.1<=hi)->H p=none->aq H H'->H' p=some (.lst (nV ((List.range (hi-lo)).map λ(k:Nat)=>lo+k)))->Q (.ref p) H')->N0 c vs H Q E
abbrev Ra:=Kn P w K mg Ba "rows_met" ["sweep"] 1 (N0 c)
def Xn(g:aK mg)(tc:aW P w K mg c)(d:Df K mg "rows_met" (top 115) ["sweep"]):Ra:=by
 refine d.ok ["sweep","changed"] λ H Q E hr h nN=>?_;obtain⟨sw,ρ,S,N,F,nU,nD,R,n,rfl,dB,ax,k⟩:=h;obtain⟨dx,u,dd,e,l,nu,nd,hs,hρ,hU,hD,hE,hL,eK,cX⟩:=dB.ex;unfold gQ at hs;obtain⟨ku,JT,TU,Du,TR,JS⟩:=hU.ex;obtain⟨kd,cN,hd2,ig,qR,oW⟩:=hD.ex;obtain⟨ke,cM,nv,nj,tG⟩:=hE;obtain⟨kl,gw,kN,kM,tw,jG⟩:=hL;have a1: ∀kv∈ku,∃r:Nat,kv.1= .inl (r:Int):=λ kv h=>let⟨r,z,_⟩:=Du kv h;⟨r,z⟩;have a2: ∀kv∈kd,∃r:Nat,kv.1= .inl (r:Int):=λ kv h=>let⟨r,z,_⟩:=ig kv h;⟨r,z⟩;have a3: ∀kv∈ke,∃r:Nat,kv.1= .inl (r:Int):=λ kv h=>let⟨r,z,_⟩:=nj kv h;⟨r,z⟩;have a4: ∀kv∈kl,∃r:Nat,kv.1= .inl (r:Int):=λ kv h=>let⟨r,z,_⟩:=kM kv h;⟨r,z⟩;have z1:ku.length<=1025:=jO 1025 ku TU λ kv h=>let⟨r,g1,g2,_⟩:=Du kv h;⟨r,by exact AG ‹_›,g1⟩;have z2:kd.length<=1025:=jO 1025 kd hd2 λ kv h=>let⟨r,g1,g2,_⟩:=ig kv h;⟨r,by lia,g1⟩;have z3:ke.length<=1025:=jO 1025 ke nv λ kv h=>let⟨r,g1,g2,_⟩:=nj kv h;⟨r,by lia,g1⟩;have z4:kl.length<=1025:=jO 1025 kl kN λ kv h=>let⟨r,g1,g2,_⟩:=kM kv h;⟨r,by lia,g1⟩;have y1:(fY ku).length<=1025:=by unfold fY;rw[aV];exact z1
 have y2:(fY kd).length<=1025:=by unfold fY;rw[aV];exact z2
 have y3:(fY ke).length<=1025:=by unfold fY;rw[aV];exact z3
 have y4:(fY kl).length<=1025:=by unfold fY;rw[aV];exact z4
 refine⟨_,(ag (au 1 nN (aj og (aj og (aj og (xC (xN rfl) rfl g.vi boot_list (aa (aH tc.bE tc.Bz (pv 0)) ae)) (xC (xN rfl) rfl g.vi boot_list (aa (aH tc.bE tc.Bj (pv 0)) ae))) (xC (xN rfl) rfl g.vi boot_list (aa (aH tc.bE tc.BJ (pv 0)) ae))) (xC (xN rfl) rfl g.vi boot_list (aa (aH tc.bE tc.rC (pv 0)) ae)))) (ak (ay (iY (aB dO (bX bZ g.bS (aa (pv 1) ae)) af) (aay rfl rfl g.vi rfl g.ju (aa (fV (BR (K:=K) rfl rfl) rfl g.qh pj (aa (pv 1) ae)) (aa (fV (BS (K:=K) rfl rfl) rfl g.qj ph (aa (pv 1) ae)) ae))) (bo ae))))),?_⟩;refine dH (σ':=[some (.ref sw),none]) rfl ?_;symm;refine BZ JT λ p1 H1 n1 h1 s1=>?_;rw[BM a1]at h1;have f1:=s1 _ _ hs;symm;refine BZ (s1 _ _ cN) λ p2 H2 n2 h2 s2=>?_;rw[BM a2]at h2;symm;refine ow (s2 _ _ h1) h2 (by rw[cV,cV,aL];lia) λ p3 H3 n3 h3 s3=>?_;have f3:=s3 _ _ (s2 _ _ f1);symm;refine BZ (s3 _ _ (s2 _ _ (s1 _ _ cM))) λ p4 H4 n4 h4 s4=>?_;rw[BM a3]at h4;symm;refine ow (s4 _ _ h3) h4 (by rw[bq,cV,cV,cV,aL];lia) λ p5 H5 n5 h5 s5=>?_;have f5:=s5 _ _ (s4 _ _ f3);symm;refine BZ (s5 _ _ (s4 _ _ (s3 _ _ (s2 _ _ (s1 _ _ gw))))) λ p6 H6 n6 h6 s6=>?_;rw[BM a4]at h6;symm;refine ow (s6 _ _ h5) h6 (by rw[bq,bq,cV,cV,cV,cV,aL];lia) λ p7 H7 n7 h7 s7=>?_;rw[<- vf,<- vf,<- vf]at h7;have sm:aq H H7:=(((((s1.trans s2).trans s3).trans s4).trans s5).trans s6).trans s7;generalize hL:fY ku++fY kd++fY ke++fY kl=L at h7;have q7:ah K H7 p7 (nV L):=ah.of h7;have mem: ∀r,r∈L↔r∈fY ku\/r∈fY kd\/r∈fY ke\/r∈fY kl:=λ r=>by rw[<- hL];simp only[bJ,or_assoc]
 have small: ∀r∈L,r<=1024/\ ∀B,oq S B->r<=B:=λ r hr=>by
  rcases(mem r).mp hr with h|h|h|h
  ·obtain⟨kv,g1,g2⟩:=Bl a1 h;obtain⟨r',e1,e2,t,t1,t2⟩:=Du kv g1;rw[g2]at e1;have:r=r':=lA.mp e1;have o1:=ax.ln t (eZ _ t1);exact⟨by simp_all,λ B hB=>by have:=hB.1 t (eZ _ t1);lia⟩
  ·obtain⟨kv,g1,g2⟩:=Bl a2 h;obtain⟨r',e1,e2,t,t1,t2⟩:=ig kv g1;rw[g2]at e1;have:r=r':=lA.mp e1;have o1:=ax.ln t (gj _ t1);exact⟨by lia,λ B hB=>by have:=hB.1 t (gj _ t1);lia⟩
  ·obtain⟨kv,g1,g2⟩:=Bl a3 h;obtain⟨r',e1,e2,t,t1,t2⟩:=nj kv g1;rw[g2]at e1;have:r=r':=lA.mp e1;exact⟨by lia,λ B hB=>by have:=hB.1 t t1;simp_all⟩
  ·obtain⟨kv,g1,g2⟩:=Bl a4 h;obtain⟨r',e1,e2,t,t1,t2⟩:=kM kv g1;rw[g2]at e1;have:r=r':=lA.mp e1;have o1:=ax.lt t t1;exact⟨by lia,λ B hB=>by have:=hB.2 t t1;rcases t2 with t2|t2<;>lia⟩
 have UR: ∀(l:List (Nat×Ln))(t:Nat×Ln),t∈l->begun t.1 l≠ []:=λ l t ht z=>by unfold begun at z;rw[AQ,Lc]at z;exact z t ht (by simp)
 have oQ: ∀t∈S.up++S.down,t.1∈L/\t.2.e∈L:=λ t ht=>by
  refine⟨(mem _).mpr ?_,(mem _).mpr (.inr (.inr (.inl (xK (tG t ht)))))⟩;rcases bJ.mp ht with h|h
  ·refine .inl (xK ?_);cases e5:aE ku (.inl ((t.1:Nat):Int))with
   |some v=>rfl
   |none=>exact absurd (JS _ e5) (UR _ t h)
  ·refine .inr (.inl (xK ?_));cases e5:aE kd (.inl ((t.1:Nat):Int))with
   |some v=>rfl
   |none=>exact absurd (oW _ e5) (UR _ t h)
 have qN: ∀t∈S.left,t.1∈L/\t.2.1∈L:=λ t ht=>⟨(mem _).mpr (.inr (.inr (.inr (xK (tw t ht).1)))),(mem _).mpr (.inr (.inr (.inr (xK (tw t ht).2))))⟩
 nofun
 ·rename_i c1;have ne:L≠ []:=λ z=>by rw[z]at c1;simp at c1
  refine abw h7 ne λ lo lm ll=>?_;symm;refine abx h7 ne λ hi hm hh=>?_;symm;have b1:=(small lo lm).1;have b2:=(small hi hm).1;refine lrv (by exact bY ‹_› (by decide)) (by lia) λ p8 H8 n8 h8 s8=>?_;symm;exact k lo hi p8 H8 (ll hi hm) (small hi hm).2 (λ t ht=>⟨ll _ (oQ t ht).1,hh _ (oQ t ht).2⟩) (λ t ht=>⟨ll _ (qN t ht).1,hh _ (qN t ht).2⟩) (sm.free n8) (sm.trans s8) h8
 ·rename_i c1;have e0:L=[]:=km.mp (by simp_all);refine aZ (lz (by simp)) λ p8 H8 n8 h8 s8=>?_;symm;rw[e0]at oQ qN;exact k 0 0 p8 H8 (aQ _) (λ B _=>cP _) (λ t ht=>absurd (oQ t ht).1 (by simp)) (λ t ht=>absurd (qN t ht).1 (by simp)) (sm.free n8) (sm.trans s8) h8
def abb{H H':Hp}{ρ:gO}{sw dx u d e l nu nd dh cT:Addr}{S:Sw}{N F R R':Int}{nU nD zw zx:List Ln}(hs:H sw=some (.ins c.Sweep dx (gQ N F u d e l nu nd R)))(hρ:ρ sw=some .sw/\ρ u=some .dU/\ρ d=some .dD/\ρ e=some .dE/\ρ l=some .dL/\ρ nu=some .nU/\ρ nd=some .nD)
  (hU:iQ H ρ u .lU S.up)(hD:iQ H ρ d .lD S.down)(hE:nJ H e S)(hL:md H l S)(eK:bt H nu nU)(cX:bt H nd nD)(al: ∀a,ρ a≠none->H a≠none)(mZ: ∀a,ρ a≠none-> ∀z,H a≠some (.tup z))
  (x:az (λ y=>y=sw\/y=nu\/y=nd) H H')(JZ:H' sw=some (.ins c.Sweep dx (gQ N F u d e l dh cT R')))(RY:bt H' dh zw)(RZ:bt H' cT zx)(fu:dh=nu\/H dh=none)(fd:cT=nd\/H cT=none)(ne:dh≠cT){SF SE:List V}(vT:H' nu=some (.lst SF))(vV:H' nd=some (.lst SE)):
  dP c H' sw (λ y=>if y=dh then some .nU else if y=cT then some .nD else ρ y) S N F zw zx R':=by
 have US: ∀a,H a=none->ρ a=none:=λ a h=>by
  cases e:ρ a with
  |none=>rfl
  |some t=>exact absurd h (al a (by rw[e];simp))
 have nU1: ∀b t,ρ b=some t->t≠ .nU->b≠dh:=λ b t h1 h2 z=>by
  rcases fu with f|f
  ·rw[z,f,hρ.2.2.2.2.2.1]at h1;exact h2 (dI h1).symm
  ·rw[z,US _ f]at h1;cases h1
 have nD1: ∀b t,ρ b=some t->t≠ .nD->b≠cT:=λ b t h1 h2 z=>by
  rcases fd with f|f
  ·rw[z,f,hρ.2.2.2.2.2.2]at h1;exact h2 (dI h1).symm
  ·rw[z,US _ f]at h1;cases h1
 have rn: ∀b t,ρ b=some t->t≠ .nU->t≠ .nD->(λ y=>if y=dh then some .nU else if y=cT then some .nD else ρ y) b=some t:=λ b t h1 h2 h3=>by show(if b=dh then _ else if b=cT then _ else ρ b)=_;rw[ai (nU1 b t h1 h2),ai (nD1 b t h1 h3),h1]
 have off: ∀b t,ρ b=some t->t≠ .sw->t≠ .nU->t≠ .nD-> ∀o,H b=some o->H' b=some o:=λ b t h1 g1 g2 g3 o ho=>x _ _ ho λ z=>by
  rcases z with z|z|z
  ·rw[z,hρ.1]at h1;exact g1 (dI h1).symm
  ·rw[z,hρ.2.2.2.2.2.1]at h1;exact g2 (dI h1).symm
  ·rw[z,hρ.2.2.2.2.2.2]at h1;exact g3 (dI h1).symm
 have kp: ∀b y t,ρ b=some t->t≠ .sw->t≠ .nU->t≠ .nD->bt H b y->bt H' b y:=λ b y t h1 g1 g2 g3 ⟨as,h2,h3⟩=>⟨as,off b t h1 g1 g2 g3 _ h2,Paired.a8 h3 λ a q z=>x _ _ z λ w=>by
  have z':H a=some (.tup _):=z;rcases w with w|w|w
  ·rw[w]at z';exact mZ _ (by rw[hρ.1];simp) _ z'
  ·rw[w]at z';exact mZ _ (by rw[hρ.2.2.2.2.2.1];simp) _ z'
  ·rw[w]at z';exact mZ _ (by rw[hρ.2.2.2.2.2.2];simp) _ z'⟩
 obtain⟨xu,eu⟩:=RY.lst;obtain⟨xd,ed⟩:=RZ.lst;refine⟨⟨dx,u,d,e,l,dh,cT,JZ,⟨rn _ _ hρ.1 (by simp) (by simp),rn _ _ hρ.2.1 (by simp) (by simp),rn _ _ hρ.2.2.1 (by simp) (by simp),rn _ _ hρ.2.2.2.1 (by simp) (by simp),rn _ _ hρ.2.2.2.2.1 (by simp) (by simp),ao rfl,by show(if cT=dh then _ else if cT=cT then _ else ρ cT)=_;rw[ai (λ z=>ne z.symm),ao rfl]⟩,
  hU.keep (off _ _ hρ.2.1 (by simp) (by simp) (by simp)) λ r b y g1 g2=>⟨rn _ _ g1 (by simp) (by simp),kp _ _ _ g1 (by simp) (by simp) (by simp) g2⟩,hD.keep (off _ _ hρ.2.2.1 (by simp) (by simp) (by simp)) λ r b y g1 g2=>⟨rn _ _ g1 (by simp) (by simp),kp _ _ _ g1 (by simp) (by simp) (by simp) g2⟩,
  hE.keep (off _ _ hρ.2.2.2.1 (by simp) (by simp) (by simp)) λ t=>Iff.rfl,hL.keep (off _ _ hρ.2.2.2.2.1 (by simp) (by simp) (by simp)) rfl,RY,RZ⟩,λ a ha=>?_,λ a ha z e5=>?_⟩
 ·by_cases c1:a=dh
  ·rw[c1,eu];simp
  by_cases c2:a=cT
  ·rw[c2,ed];simp
  have qS:(if a=dh then some .nU else if a=cT then some .nD else ρ a)≠none:=ha;rw[ai c1,ai c2]at qS;exact xI x (λ y hy=>by rcases hy with w|w|w<;>rw[w]<;>first|(rw[JZ];simp)|(rw[vT];simp)|(rw[vV];simp)) (al a qS)
 ·by_cases c1:a=dh
  ·rw[c1,eu]at e5;cases e5
  by_cases c2:a=cT
  ·rw[c2,ed]at e5;cases e5
  have qS:(if a=dh then some .nU else if a=cT then some .nD else ρ a)≠none:=ha;rw[ai c1,ai c2]at qS;exact xQ x al mZ (λ y hy z e=>by rcases hy with w|w|w<;>rw[w]at e<;>first|(rw[JZ]at e;cases e)|(rw[vT]at e;cases e)|(rw[vV]at e;cases e)) a qS z e5
noncomputable def prev (r:Nat) (l:List (Nat×Ln)):List Ln:=(l.filter λ t=>decide (t.1<r/\r<=t.2.e)).map (·.2)
noncomputable def kr (S:Sw) (r:Nat):Int:=(S.left.map λ t=>if t.1<r/\r<=t.2.1 then t.2.2 else 0).sum
inductive N7(c:Cs)(vs:List V)(H:Hp)(Q:VK)(E:XK):Prop
 |mk (sw:Addr) (ρ:gO) (S:Sw) (N F:Int) (nU nD:List Ln) (n r:Nat):vs=[.ref sw,.int r]->dP c H sw ρ S N F nU nD (kr S r)->SwOk S n->n<=500000->nU.Perm (prev r S.up)->nD.Perm (prev r S.down)->(∀H' ρ' zw zx,az (λ a=>ρ a≠none) H H'->(∀a,ρ' a≠none->ρ a≠none\/H a=none)->dP c H' sw ρ' S N F zw zx (eO S r)->zw.Perm (Mx.met r S.up)->zx.Perm (Mx.met r S.down)->Q .aG H')->N7 c vs H Q E
abbrev Q_:=Kn P w K mg Ba "go_to_row" ["sweep","row"] 1 (N7 c)
def Nh(r:Nat)(l:List (Nat×Ln)):(prev r l).length<=l.length:=by unfold prev;rw[aV];exact xn _ _
def By{r:Nat}{l:List (Nat×Ln)}{n:Ln}(h:n∈prev r l):r<=n.e/\ ∃t∈l,t.2=n:=by obtain⟨t,ht,rfl⟩:=bF.mp h;obtain⟨h1,h2⟩:=uu.mp ht;have:=dY h2;exact⟨by simp_all,t,h1,rfl⟩
set_option maxHeartbeats 1000000 in
def W3(g:aK mg)(tc:aW P w K mg c)(d:Df K mg "go_to_row" (top 116) ["sweep","row"]):Q_:=by
 refine d.ok ["sweep","row","line"] λ H Q E hr h nN=>?_;obtain⟨sw,ρ,S,N,F,nU,nD,n,r,rfl,dB,ax,hn,pX,pY,k⟩:=h;obtain⟨dx,u,dd,e,l,nu,nd,hs,hρ,hU,hD,hE,hL,eK,cX⟩:=dB.ex;obtain⟨ku,JT,TU,Du,TR,JS⟩:=hU.ex;obtain⟨kd,cN,hd2,ig,qR,oW⟩:=hD.ex;obtain⟨ke,cM,nv,nj,tG⟩:=id hE;obtain⟨kl,gw,kN,kM,tw,jG⟩:=id hL;obtain⟨KH,aU,pU⟩:=id eK;obtain⟨KI,aD,pD⟩:=id cX;have lU:nU.length<=500000:=by have h1:=pX.length_eq;have h2:=Nh r S.up;have h3:=ax.sz;lia
 have lD:nD.length<=500000:=by have h1:=pY.length_eq;have h2:=Nh r S.down;have h3:=ax.sz;lia
 have laU:=bw pU;have laD:=bw pD;have qU:ah K H nu (rV KH):=ah.of aU;have Dg: ∀b b2 t t2,ρ b=some t->ρ b2=some t2->t≠t2->b≠b2:=λ b b2 t t2 h1 h2 h3 z=>by rw[z,h2]at h1;exact h3 (dI h1).symm
 have Jz:nu≠nd:=Dg _ _ _ _ hρ.2.2.2.2.2.1 hρ.2.2.2.2.2.2 (by simp);unfold gQ at hs;refine⟨_,(ag (aI (vd (acg (cR hr) (pv 1) (aH tc.bE tc.BJ (pv 0))) (by with_unfolding_all rfl)) (ag (cj tc.bE tc.xp (pv 0) (i9 rfl nN (c_ (aH tc.bE tc.xp (pv 0))) (fX [("line",2)]) (λ _ _ _ _ _=>(aT 2 nN)) (λ _ _ _ _ _=>(Oj (aB dO (sg K (pv 2) af) (pv 1)))) (λ _ _ _ _ _=>(pv 2)))) (ak (cj tc.bE tc.wK (pv 0) (i9 rfl nN (c_ (aH tc.bE tc.wK (pv 0))) (fX [("line",2)]) (λ _ _ _ _ _=>(aT 2 nN)) (λ _ _ _ _ _=>(Oj (aB dO (sg K (pv 2) af) (pv 1)))) (λ _ _ _ _ _=>(pv 2)))))) aM) (ag (cB (nX (aH tc.bE tc.xp (pv 0)) (aa (xJ (cR hr) (aH tc.bE tc.Bz (pv 0)) (pv 1) (bo ae) ⟨rfl,rfl,rfl,rfl⟩) ae))) (ag (cB (nX (aH tc.bE tc.wK (pv 0)) (aa (xJ (cR hr) (aH tc.bE tc.Bj (pv 0)) (pv 1) (bo ae) ⟨rfl,rfl,rfl,rfl⟩) ae))) (ak (ab4 tc.bE tc.t8 (pv 0) (xJ (cR hr) (aH tc.bE tc.rC (pv 0)) (pv 1) af ⟨rfl,rfl,rfl,rfl⟩) kx))))),?_⟩;refine dH (σ':=[some (.ref sw),some (.int r),none]) rfl ?_;symm;refine abJ (λ H1=>∃dh cT yI yJ,az (λ y=>y=sw) H H1/\H1 sw=some (.ins c.Sweep dx (gQ N F u dd e l dh cT (kr S r)))/\H1 dh=some (.lst (rV yI))/\H1 cT=some (.lst (rV yJ))/\Paired (yN H) yI (nU.filter λ n=>decide (r<n.e))/\Paired (yN H) yJ (nD.filter λ n=>decide (r<n.e))/\(dh=nu\/H dh=none)/\(cT=nd\/H cT=none)/\dh≠cT) ?_ ?_ ?_
 ·rintro H1 ⟨dh,cT,yI,yJ,x1,f1,a1,a2,p1,p2,fu,fd,ne⟩;unfold gQ at f1;have w1: ∀b t,ρ b=some t->t≠ .sw-> ∀o,H b=some o->H1 b=some o:=λ b t h1 h2 o ho=>x1 _ _ ho λ z=>by rw[z,hρ.1]at h1;exact h2 (dI h1).symm
  have gu:=w1 _ _ hρ.2.1 (by simp) _ JT;have gd:=w1 _ _ hρ.2.2.1 (by simp) _ cN;have gl:=w1 _ _ hρ.2.2.2.2.1 (by simp) _ gw;symm;refine aZ (lz (by simp)) λ p3 H2 n2 h2 s2=>?_;refine I_ (s2 _ _ gu) ?_;have SI: ∀y,y=sw-> ∀z,H y≠some (.tup z):=λ y hy z e=>by subst hy;rw[hs]at e;cases e
  have up1: ∀b t y,ρ b=some t->t≠ .sw->bt H b y->bt H1 b y:=λ b t y h1 h2 h3=>h3.fZ x1 SI λ z=>by rw[z,hρ.1]at h1;exact h2 (dI h1).symm
  have kpS: ∀{G G':Hp}b y,aq G G'->bt G b y->bt G' b y:=λ b y s ⟨as,h1,h2⟩=>⟨as,s _ _ h1,Paired.a8 h2 λ a q z=>s _ _ z⟩;obtain⟨bu,ebu,UP,Kj,S_⟩: ∃b,(aE ku (.inl (r:Int))).getD (.ref p3)= .ref b/\bt H2 b (begun r S.up):=by
   cases e5:aE ku (.inl (r:Int))with
   |none=>exact⟨p3,rfl,by rw[JS r e5];exact⟨[],h2,.nil⟩⟩
   |some v0=>
    obtain⟨a,rfl,ra,la⟩:=TR r v0 e5;exact⟨a,rfl,kpS _ _ s2 (up1 _ _ _ ra (by simp) la)⟩
  rw[ebu];symm;have lf1:yI.length<=500000:=by rw[bw p1];exact bY (xn _ _) lU
  have lf2:yJ.length<=500000:=by rw[bw p2];exact bY (xn _ _) lD
  have lbu:UP.length<=500000:=by
   rw[bw S_];have h1:=ax.sz;have h2:=Br r S.up
   lia
  refine jy (s2 _ _ a1) Kj (by rw[a_,a_,aL];lia) λ H3 h3 b3=>?_;have Tf:sw≠dh:=λ z=>by rw[z,a1]at f1;cases f1
  have vN:sw≠cT:=λ z=>by rw[z,a2]at f1;cases f1
  have f3:=b3 _ _ (s2 _ _ f1) Tf;have UT:=b3 _ _ (s2 _ _ a2) λ z=>ne z.symm;have gd3:=b3 _ _ (s2 _ _ gd) λ z=>by rw[z,a1]at gd;cases gd
  have gl3:=b3 _ _ (s2 _ _ gl) λ z=>by rw[z,a1]at gl;cases gl
  have SQ: ∀x z,H1 x=some (.tup z)->H3 x=some (.tup z):=λ x z h=>b3 _ _ (s2 _ _ h) λ y=>by rw[y,a1]at h;cases h
  have t23: ∀x z,H2 x=some (.tup z)->H3 x=some (.tup z):=λ x z h=>b3 _ _ h λ y=>by rw[y,s2 _ _ a1]at h;cases h
  have t01: ∀x z,H x=some (.tup z)->H1 x=some (.tup z):=λ x z h=>x1 _ _ h λ y=>SI x y z h;symm;refine aZ (lz (by simp)) λ p4 H4 n4 h4 s4=>?_;refine I_ (s4 _ _ gd3) ?_;obtain⟨bd,ebd,UQ,hbd,Ta⟩: ∃b,(aE kd (.inl (r:Int))).getD (.ref p4)= .ref b/\bt H4 b (begun r S.down):=by
   cases e5:aE kd (.inl (r:Int))with
   |none=>exact⟨p4,rfl,by rw[oW r e5];exact⟨[],h4,.nil⟩⟩
   |some v0=>
    obtain⟨a,rfl,ra,la⟩:=qR r v0 e5;obtain⟨as,g1,g2⟩:=up1 _ _ _ ra (by simp) la;have nau:a≠dh:=λ z=>by
     rcases fu with y|y
     ·rw[z,y,hρ.2.2.2.2.2.1]at ra;cases ra
     ·exact dB.al a (by rw[ra];simp) (by rw[z];exact y)
    exact⟨a,rfl,as,s4 _ _ (b3 _ _ (s2 _ _ g1) nau),Paired.a8 g2 λ x q z=>s4 _ _ (SQ _ _ z)⟩
  rw[ebd];symm;have lbd:UQ.length<=500000:=by
   rw[bw Ta];have h1:=ax.sz;have h2:=Br r S.down
   lia
  refine jy (s4 _ _ UT) hbd (by rw[a_,a_,aL];lia) λ H5 h5 b5=>?_;have f5:=b5 _ _ (s4 _ _ f3) vN;have gl5:=b5 _ _ (s4 _ _ gl3) λ z=>by rw[z,a2]at gl;cases gl
  symm;refine aak f5 rfl ?_;symm;rw[jG];symm;have eL:kr S r+gW S r=eO S r:=(YH S.left λ t ht=>(ax.lt t ht).1).symm;rw[eL];refine cb (fs':=gQ N F u dd e l dh cT (eO S r)) f5 rfl (by simp) λ H6 h6 b6=>?_;have Jo: ∀x z,H4 x=some (.tup z)->H6 x=some (.tup z):=λ x z h=>b6 _ _ (b5 _ _ h λ y=>by rw[y,s4 _ _ UT]at h;cases h) λ y=>by rw[y,s4 _ _ f3]at h;cases h
  have SS: ∀x z,H x=some (.tup z)->H6 x=some (.tup z):=λ x z h=>Jo _ _ (s4 _ _ (SQ _ _ (t01 _ _ h)));have x6:az (λ y=>y=sw\/y=nu\/y=nd) H H6:=λ b o h n=>by
   have nb1:b≠dh:=λ z=>by
    rcases fu with y|y
    ·exact n (.inr (.inl (z.trans y)))
    ·rw[z,y]at h;cases h
   have nb2:b≠cT:=λ z=>by
    rcases fd with y|y
    ·exact n (.inr (.inr (z.trans y)))
    ·rw[z,y]at h;cases h
   have Tt:b≠sw:=λ z=>n (.inl z);exact b6 _ _ (b5 _ _ (s4 _ _ (b3 _ _ (s2 _ _ (x1 _ _ h Tt)) nb1)) nb2) Tt
  have TQ:H6 dh=some (.lst (rV (yI++UP))):=by rw[B0];exact b6 _ _ (b5 _ _ (s4 _ _ h3) ne) λ z=>Tf z.symm
  have Uv:H6 cT=some (.lst (rV (yJ++UQ))):=by rw[B0];exact b6 _ _ h5 λ z=>vN z.symm
  have RK:nu≠sw:=Dg _ _ _ _ hρ.2.2.2.2.2.1 hρ.1 (by simp);have RL:nd≠sw:=Dg _ _ _ _ hρ.2.2.2.2.2.2 hρ.1 (by simp);have vT: ∃xs,H6 nu=some (.lst xs):=by
   by_cases z:nu=dh
   ·rw[z];exact⟨_,TQ⟩
   ·refine⟨_,b6 _ _ (b5 _ _ (s4 _ _ (b3 _ _ (s2 _ _ (x1 _ _ aU RK)) z)) λ y=>?_) RK⟩;rcases fd with q|q
    ·exact Jz (y.trans q)
    ·rw[<- y,aU]at q;cases q
  have vV: ∃xs,H6 nd=some (.lst xs):=by
   by_cases z:nd=cT
   ·rw[z];exact⟨_,Uv⟩
   ·refine⟨_,b6 _ _ (b5 _ _ (s4 _ _ (b3 _ _ (s2 _ _ (x1 _ _ aD RL)) λ y=>?_)) z) RL⟩;rcases fu with q|q
    ·exact Jz (y.trans q).symm
    ·rw[<- y,aD]at q;cases q
  obtain⟨SF,vT⟩:=vT;obtain⟨SE,vV⟩:=vV;refine k H6 _ _ _ (λ b o h n=>x6 _ _ h λ z=>n ?_) (λ a ha=>?_) (abb hs hρ hU hD hE hL eK cX dB.al dB.nt x6 h6 ⟨_,TQ,Paired.app (Paired.a8 p1 λ x q z=>SS _ _ z) (Paired.a8 S_ λ x q z=>Jo _ _ (s4 _ _ (t23 _ _ z)))⟩ ⟨_,Uv,Paired.app (Paired.a8 p2 λ x q z=>SS _ _ z) (Paired.a8 Ta λ x q z=>Jo _ _ z)⟩ fu fd ne vT vV) (Nq (λ t ht=>(ax.ln t (eZ _ ht)).1) pX) (Nq (λ t ht=>(ax.ln t (gj _ ht)).1) pY)
  ·show ρ b≠none;rcases z with z|z|z
   ·rw[z,hρ.1];simp
   ·rw[z,hρ.2.2.2.2.2.1];simp
   ·rw[z,hρ.2.2.2.2.2.2];simp
  ·have qS:(if a=dh then some .nU else if a=cT then some .nD else ρ a)≠none:=ha;by_cases c1:a=dh
   ·rcases fu with y|y
    ·exact .inl (by rw[c1,y,hρ.2.2.2.2.2.1];simp)
    ·exact .inr (by rw[c1];exact y)
   by_cases c2:a=cT
   ·rcases fd with y|y
    ·exact .inl (by rw[c2,y,hρ.2.2.2.2.2.2];simp)
    ·exact .inr (by rw[c2];exact y)
   rw[ai c1,ai c2]at qS;exact .inl qS
 ·intro c0 key;symm;refine m6 (xs:=rV KH) λ DU DW=>⟨λ i H'=>aq H H'/\ ∃bs,H' DU=some (.lst (rV bs))/\Paired (yN H) bs ((nU.take i).filter λ n=>decide (r<n.e))/\bs.length<=i,?_,?_,?_,?_⟩
  ·intro H1 h1 s1;exact⟨s1,[],h1,.nil,cP _⟩
  ·rintro i H' _ ⟨sm,_⟩;exact sm.seq qU
  ·rintro i x H' hx ⟨sm,bs,zT,cY,hb3⟩;obtain⟨na,eT,rfl⟩:=dc.mp hx;obtain⟨ln,v_,qO⟩:=Paired.at pU eT;have hiU:i<nU.length:=(bC.mp v_).1;have qT:aP K H' na [.int ln.b,.int ln.s,.int ln.d,.int ln.e]:=aP.of (sm _ _ qO);have tk:(nU.take (i+1)).filter (λ n=>decide (r<n.e))=(nU.take i).filter (λ n=>decide (r<n.e))++if r<ln.e then [ln]else []:=by
    rw[cA,v_,Fj]
    congr 1
    show List.filter _ [ln]=_;by_cases hc:r<ln.e<;>simp[hc]
   refine df (Oh rfl ?_)
   nofun
   ·rename_i c1;refine gM zT (by rw[a_,aL];lia) λ H5 h5 b5=>⟨b5.same sm DW,bs++[na],by rw[h5,fF],?_,by rw[bq];simp;trivial⟩;rw[tk,ao (by simp_all)];exact eY cY qO
   ·rename_i c1;refine⟨sm,bs,zT,?_,by exact mv ‹_›⟩;rw[tk,ai (by simp_all),cG];exact cY
  rintro H1 ⟨s1,bU,UA,Uz,hU3⟩;rw[fE (by rw[a_,bw pU];exact aQ _)]at Uz;symm;refine cb (fs':=gQ N F u dd e l DU nd (kr S r)) (s1 _ _ hs) rfl (by simp) λ H2 f2 b2=>?_;unfold gQ at f2;have qD:ah K H2 nd (rV KI):=ah.of (b2 _ _ (s1 _ _ aD) (Dg _ _ _ _ hρ.2.2.2.2.2.2 hρ.1 (by simp)));symm;refine m6 (xs:=rV KI) λ DD dS=>⟨λ i H'=>aq H2 H'/\ ∃bs,H' DD=some (.lst (rV bs))/\Paired (yN H) bs ((nD.take i).filter λ n=>decide (r<n.e))/\bs.length<=i,?_,?_,?_,?_⟩
  ·intro H1 h1 s1;exact⟨s1,[],h1,.nil,cP _⟩
  ·rintro i H' _ ⟨sm,_⟩;exact sm.seq qD
  ·rintro i x H' hx ⟨sm,bs,zT,cY,hb3⟩;obtain⟨na,eT,rfl⟩:=dc.mp hx;obtain⟨ln,v_,qO⟩:=Paired.at pD eT;have hiU:i<nD.length:=(bC.mp v_).1;have qT:aP K H' na [.int ln.b,.int ln.s,.int ln.d,.int ln.e]:=aP.of (sm _ _ (b2 _ _ (s1 _ _ qO) λ z=>by have y:H na=_:=qO;rw[z,hs]at y;cases y));have tk:(nD.take (i+1)).filter (λ n=>decide (r<n.e))=(nD.take i).filter (λ n=>decide (r<n.e))++if r<ln.e then [ln]else []:=by
    rw[cA,v_,Fj]
    congr 1
    show List.filter _ [ln]=_;by_cases hc:r<ln.e<;>simp[hc]
   refine df (Oh rfl ?_)
   nofun
   ·rename_i c1;refine gM zT (by rw[a_,aL];lia) λ H5 h5 b5=>⟨b5.same sm dS,bs++[na],by rw[h5,fF],?_,by rw[bq];simp;lia⟩;rw[tk,ao (by lia)];exact eY cY qO
   ·rename_i c1;refine⟨sm,bs,zT,?_,by lia⟩;rw[tk,ai (by lia),cG];exact cY
  rintro H3 ⟨s3,bD,hD1,l8,hD3⟩;rw[fE (by rw[a_,bw pD];exact aQ _)]at l8;symm;refine cb (fs':=gQ N F u dd e l DU DD (kr S r)) (s3 _ _ f2) rfl (by simp) λ H4 f4 b4=>?_;have JF:DU≠sw:=λ z=>by rw[z,hs]at DW;cases DW
  have Tu:DD≠sw:=λ z=>by rw[z,f2]at dS;cases dS
  have afG:H DD=none:=by
   cases e5:H DD with
   |none=>rfl
   |some o=>rw[b2 _ _ (s1 _ _ e5) Tu]at dS;cases dS
  exact key H4 ⟨DU,DD,bU,bD,λ b o h n=>b4 _ _ (s3 _ _ (b2 _ _ (s1 _ _ h) n)) n,f4,b4 _ _ (s3 _ _ (b2 _ _ UA JF)) JF,b4 _ _ hD1 Tu,Uz,l8,.inr DW,.inr afG,λ z=>by rw[<- z,b2 _ _ UA JF]at dS;cases dS⟩
 ·intro c0;have Pe: ∀t∈S.up++S.down,t.2.e≠r:=λ t ht z=>by have:=tG t ht;rw[z,c0]at this;cases this
  refine⟨nu,nd,KH,KI,az.refl,hs,aU,aD,?_,?_,.inl rfl,.inl rfl,Jz⟩
  ·rw[filter_none (λ m hm=>(By (pX.mem_iff.mp hm)).1) λ m hm z=>by
    obtain⟨t,ht,e5⟩:=(By (pX.mem_iff.mp hm)).2;exact Pe t (eZ _ ht) (by rw[e5];exact z)]
   exact pU
  ·rw[filter_none (λ m hm=>(By (pY.mem_iff.mp hm)).1) λ m hm z=>by
    obtain⟨t,ht,e5⟩:=(By (pY.mem_iff.mp hm)).2;exact Pe t (gj _ ht) (by rw[e5];exact z)]
   exact pD
def bt.same{G G':Hp}{b:Addr}{y:List Ln}(s:aq G G'):bt G b y->bt G' b y:=λ⟨as,h1,h2⟩=>⟨as,s _ _ h1,Paired.a8 h2 λ a q z=>s _ _ z⟩
theorem LH: ∀(l:List (Int×Int))(st:List (Int×Int)×Int×Int),(l.foldl gI st).1.length<=st.1.length+l.length
 |[],st=>aQ _
 |p::l,st=>by
  have h1:=LH l (gI st p);have h2:=XD st p;rw[gT,dX]
  lia
def Yr(us ds:List Int)(N:Int):(mD us ds N).length<=us.length+1:=by
 have h1:=LH (us.zip ds) ([],N,N);have h2:(us.zip ds).length<=us.length:=by rw[rh];lia
 unfold mD mP;split
 ·rw[bq];simp at h1⊢;grind
 ·simp at h1;grind
theorem LW{r:Nat}: ∀(l:List (Nat×Nat×Int)),(∀t∈l, -1<=t.2.2/\t.2.2<=1)-> -(l.length:Int)<=(l.map (i_ r)).sum/\(l.map (i_ r)).sum<=l.length
 |[],_=>by simp
 |t::l,h=>by
  have h1:=LW (r:=r) l λ t' h'=>h t' (gi _ h');have h2:=h t (iT ..);have h3: -1<=i_ r t/\i_ r t<=1:=by unfold i_;split<;>trivial
  rw[cF,kZ,dX]
  lia
def OC(r:Nat)(l:List (Nat×Ln)):(Mx.met r l).length<=l.length:=by unfold Mx.met;rw[aV];exact xn _ _
def OB{r:Nat}{l:List (Nat×Ln)}{n:Ln}(h:n∈Mx.met r l): ∃t∈l,t.2=n:=by obtain⟨t,ht,rfl⟩:=bF.mp h;exact⟨t,(uu.mp ht).1,rfl⟩
def pS(k:Nat)(z:Int):List.replicate k (V.int z)=iV (List.replicate k z):=by unfold iV;rw[Fm]
inductive MU(c:Cs)(vs:List V)(H:Hp)(Q:VK)(E:XK):Prop
 |mk (sw:Addr) (ρ:gO) (S:Sw) (N F:Int) (nU nD:List Ln) (n r:Nat):vs=[.ref sw,.int r]->dP c H sw ρ S N F nU nD (eO S r)->SwOk S n->n<=400000->nU.Perm (Mx.met r S.up)->nD.Perm (Mx.met r S.down)->r<=2000->(∀p H' sp,H p=none->aq H H'->sM H' p sp->sp.length<=1000000->(∀x,N<=x->x<=F->(Mx.In x sp↔Mx.val S r x≠0)/\Mx.Row x sp)->Q (.ref p) H')->MU c vs H Q E
abbrev Q9:=Kn P w K mg Ba "spans_at_row" ["sweep","row"] 2 (MU c)
set_option maxHeartbeats 1000000 in
def VW(g:aK mg)(tc:aW P w K mg c)(d:Df K mg "spans_at_row" (top 117) ["sweep","row"])(A9:Q3)(Ew:Q2):Q9:=by
 refine d.ok ["sweep","row","ups","downs","lacking"] λ H Q E hr h nN=>?_;obtain⟨sw,ρ,S,N,F,nU,nD,n,r,rfl,dB,ax,hn,pX,pY,di,k⟩:=h;obtain⟨dx,u,dd,e,l,nu,nd,hs,hρ,hU,hD,hE,hL,eK,cX⟩:=dB.ex;have lU:nU.length<=S.up.length:=by have h1:=pX.length_eq;have h2:=OC r S.up;simp_all
 have lD:nD.length<=S.down.length:=by have h1:=pY.length_eq;have h2:=OC r S.down;simp_all
 have sz:=ax.sz;have bR:=LW (r:=r) S.left λ t ht=>(ax.lt t ht).2.2;have eR:eO S r=(S.left.map (i_ r)).sum:=rfl;unfold gQ at hs;refine⟨_,(ag (au 2 nN (pk A9 hr (aa (aH tc.bE tc.xp (pv 0)) (aa (pv 1) ae)))) (ag (au 3 nN (pk A9 hr (aa (aH tc.bE tc.wK (pv 0)) (aa (pv 1) ae)))) (ag (aI (aB dO (aH tc.bE tc.t8 (pv 0)) af) (ak (au 2 nN (aj og (aj rT (bo (aa (aH tc.bE tc.uS (pv 0)) ae)) (aH tc.bE tc.t8 (pv 0))) (pv 2)))) (ak (aI (aB cW (aH tc.bE tc.t8 (pv 0)) af) (ak (au 3 nN (aj og (aj rT (bo (aa (aH tc.bE tc.uS (pv 0)) ae)) (fe fL (aH tc.bE tc.t8 (pv 0)))) (pv 3)))) aM))) (ag (au 4 nN (aj cJ (bX bZ g.bS (aa (pv 2) ae)) (bX bZ g.bS (aa (pv 3) ae)))) (ag (aI (aB dO (pv 4) af) (ak (cB (nX (pv 3) (aa (aj rT (bo (aa (aj aJ (aH tc.bE tc.xA (pv 0)) af) ae)) (pv 4)) ae)))) (ak (aI (aB cW (pv 4) af) (ak (cB (nX (pv 2) (aa (aj rT (bo (aa (aj aJ (aH tc.bE tc.xA (pv 0)) af) ae)) (fe fL (pv 4))) ae)))) aM))) (ak (ay (pk Ew hr (aa (pv 2) (aa (pv 3) (aa (aH tc.bE tc.uS (pv 0)) ae))))))))))),?_⟩;refine dH (σ':=[some (.ref sw),some (.int r),none,none,none]) rfl ?_;symm;refine⟨nu,nU,r,rfl,eK,λ m hm=>?_,di,by lia,λ us p1 H1 pu su n1 s1 h1=>?_⟩
 ·obtain⟨t,ht,rfl⟩:=OB (pX.mem_iff.mp hm);exact(ax.ln t (eZ _ ht)).2.2
 have f1:=s1 _ _ hs;symm;refine⟨nd,nD,r,rfl,bt.same s1 cX,λ m hm=>?_,di,by lia,λ ds p2 H2 pd sd n2 s2 h2=>?_⟩
 ·obtain⟨t,ht,rfl⟩:=OB (pY.mem_iff.mp hm);exact(ax.ln t (gj _ ht)).2.2
 have f2:=s2 _ _ f1;have y_:us.Perm ((Mx.met r S.up).map λ n=>n.cr r):=pu.trans (pX.map _);have za:ds.Perm ((Mx.met r S.down).map λ n=>n.cr r):=pd.trans (pY.map _);have zu:us.length=nU.length:=by rw[pu.length_eq,aV]
 have zd:ds.length=nD.length:=by rw[pd.length_eq,aV]
 have DZ:=s2 _ _ h1;have fin: ∀(ua da:Addr)(A B:List Int)(H3:Hp),aq H H3->H3 ua=some (.lst (iV A))->H3 da=some (.lst (iV B))->A=e_ F (List.replicate (eO S r).toNat N++us) (List.replicate (-eO S r).toNat N++ds)->B=e_ F (List.replicate (-eO S r).toNat N++ds) (List.replicate (eO S r).toNat N++us)->F9 [.ref ua,.ref da,.int N] H3 Q E0:=by
  intro ua da A B H3 s3 g1 g2 eA eB;have eL:A.length=B.length:=by rw[eA,eB];exact Ny _ _ _
  have zA:A.length<=900000:=by
   rw[eA];unfold e_;simp only[bq,eI]
   lia
  refine⟨ua,da,A,B,N,rfl,g1,g2,eL,by exact bY ‹_› (by decide),λ p4 H4 n4 s4 h4=>?_⟩;refine k p4 H4 _ (s3.free n4) (s3.trans s4) h4 ?_ λ x hx hF=>?_
  ·have:=Yr A B N;lia
  ·rw[eA,eB];exact Yv hx hF y_ su za sd
 generalize eO S r=R at*;have acT:0<R\/(¬0<R/\R<0)\/(¬0<R/\ ¬R<0):=by lia
 symm;rcases acT with c1|⟨c1,c2⟩|⟨c1,c2⟩
 ·rw[show decide (0<R)=true from cQ c1];symm;refine aZ (lz (by simp)) λ p3 H3 n3 h3 s3=>?_;have f3:=s3 _ _ f2;symm;refine kE (k:=R.toNat) h3 (by lia) (by lia) λ p4 H4 n4 h4 s4=>?_;rw[pS]at h4;symm;refine ow h4 (s4 _ _ (s3 _ _ DZ)) (by rw[bG,bG,eI,aL];grind) λ p5 H5 n5 h5 s5=>?_;rw[<- gK]at h5;have f5:=s5 _ _ (s4 _ _ f3);have ij:=h5;have dS:=s5 _ _ (s4 _ _ (s3 _ _ h2));have gg:=f5;have lQ:aq H H5:=((((s1.trans s2).trans s3).trans s4).trans s5);have eU:List.replicate R.toNat N++us=List.replicate R.toNat N++us:=rfl;have eD:ds=List.replicate (-R).toNat N++ds:=by rw[show(-R).toNat=0 by lia];rfl
  have zf:H p5=none:=(((s1.trans s2).trans s3).trans s4).free n5;have oO:H p2=none:=s1.free n2;have qI:p5≠p2:=λ z=>by rw[z,s4 _ _ (s3 _ _ h2)]at n5;cases n5
  have qU:ah K H5 p5 (iV (List.replicate R.toNat N++us)):=ah.of ij;have qD:ah K H5 p2 (iV (ds)):=ah.of dS;have zU:(List.replicate R.toNat N++us).length<=900000:=by rw[eU,bq,eI];grind
  have zD:(ds).length<=900000:=by rw[eD,bq,eI];grind
  nofun
  ·rename_i c3;refine aZ (lz (by simp)) λ p6 H6 n6 h6 s6=>?_;symm;refine kE (k:=(List.replicate R.toNat N++us).length-(ds).length) h6 (by lia) (by lia) λ p7 H7 n7 h7 s7=>?_;rw[pS]at h7;symm;refine jy (s7 _ _ (s6 _ _ dS)) h7 (by rw[bG,bG,eI,aL];grind) λ H8 h8 b8=>?_;rw[<- gK]at h8;have f8:=b8 _ _ (s7 _ _ (s6 _ _ gg)) λ z=>by rw[z,dS]at gg;cases gg
   symm;refine fin _ _ (List.replicate R.toNat N++us) _ H8 (b8.same ((lQ.trans s6).trans s7) oO) (b8 _ _ (s7 _ _ (s6 _ _ ij)) qI) h8 ?_ ?_
   ·rw[<- eU,<- eD];unfold e_;rw[show(ds).length-(List.replicate R.toNat N++us).length=0 by grind,kj,cG]
   ·rw[<- eU,<- eD];rfl
  ·rename_i c3 c4;refine aZ (lz (by simp)) λ p6 H6 n6 h6 s6=>?_;symm;refine kE (k:=(ds).length-(List.replicate R.toNat N++us).length) h6 (by lia) (by lia) λ p7 H7 n7 h7 s7=>?_;rw[pS]at h7;symm;refine jy (s7 _ _ (s6 _ _ ij)) h7 (by rw[bG,bG,eI,aL];lia) λ H8 h8 b8=>?_;rw[<- gK]at h8;have f8:=b8 _ _ (s7 _ _ (s6 _ _ gg)) λ z=>by rw[z,ij]at gg;cases gg
   symm;refine fin _ _ _ (ds) H8 (b8.same ((lQ.trans s6).trans s7) zf) h8 (b8 _ _ (s7 _ _ (s6 _ _ dS)) λ z=>qI z.symm) ?_ ?_
   ·rw[<- eU,<- eD];rfl
   ·rw[<- eU,<- eD];unfold e_;rw[show(List.replicate R.toNat N++us).length-(ds).length=0 by grind,kj,cG]
  ·rename_i c3 c4;refine fin _ _ (List.replicate R.toNat N++us) (ds) _ lQ ij dS ?_ ?_
   ·rw[<- eU,<- eD];unfold e_;rw[show(ds).length-(List.replicate R.toNat N++us).length=0 by lia,kj,cG]
   ·rw[<- eU,<- eD];unfold e_;rw[show(List.replicate R.toNat N++us).length-(ds).length=0 by lia,kj,cG]
 ·rw[show decide (0<R)=false from cH c1];symm;rw[show decide (R<0)=true from cQ c2];symm;refine aZ (lz (by simp)) λ p3 H3 n3 h3 s3=>?_;have f3:=s3 _ _ f2;symm;refine kE (k:=(-R).toNat) h3 (by lia) (by lia) λ p4 H4 n4 h4 s4=>?_;rw[pS]at h4;symm;refine ow h4 (s4 _ _ (s3 _ _ h2)) (by rw[bG,bG,eI,aL];lia) λ p5 H5 n5 h5 s5=>?_;rw[<- gK]at h5;have f5:=s5 _ _ (s4 _ _ f3);have dS:=h5;have ij:=s5 _ _ (s4 _ _ (s3 _ _ DZ));have gg:=f5;have lQ:aq H H5:=((((s1.trans s2).trans s3).trans s4).trans s5);have eD:List.replicate (-R).toNat N++ds=List.replicate (-R).toNat N++ds:=rfl;have eU:us=List.replicate R.toNat N++us:=by rw[show R.toNat=0 by lia];rfl
  have oO:H p5=none:=(((s1.trans s2).trans s3).trans s4).free n5;have zf:H p1=none:=n1;have qI:p1≠p5:=λ z=>by rw[<- z,s4 _ _ (s3 _ _ DZ)]at n5;cases n5
  have qU:ah K H5 p1 (iV (us)):=ah.of ij;have qD:ah K H5 p5 (iV (List.replicate (-R).toNat N++ds)):=ah.of dS;have zU:(us).length<=900000:=by rw[eU,bq,eI];lia
  have zD:(List.replicate (-R).toNat N++ds).length<=900000:=by rw[eD,bq,eI];lia
  nofun
  ·rename_i c3;refine aZ (lz (by simp)) λ p6 H6 n6 h6 s6=>?_;symm;refine kE (k:=(us).length-(List.replicate (-R).toNat N++ds).length) h6 (by lia) (by lia) λ p7 H7 n7 h7 s7=>?_;rw[pS]at h7;symm;refine jy (s7 _ _ (s6 _ _ dS)) h7 (by rw[bG,bG,eI,aL];lia) λ H8 h8 b8=>?_;rw[<- gK]at h8;have f8:=b8 _ _ (s7 _ _ (s6 _ _ gg)) λ z=>by rw[z,dS]at gg;cases gg
   symm;refine fin _ _ (us) _ H8 (b8.same ((lQ.trans s6).trans s7) oO) (b8 _ _ (s7 _ _ (s6 _ _ ij)) qI) h8 ?_ ?_
   ·rw[<- eU,<- eD];unfold e_;rw[show(List.replicate (-R).toNat N++ds).length-(us).length=0 by lia,kj,cG]
   ·rw[<- eU,<- eD];rfl
  ·rename_i c3 c4;refine aZ (lz (by simp)) λ p6 H6 n6 h6 s6=>?_;symm;refine kE (k:=(List.replicate (-R).toNat N++ds).length-(us).length) h6 (by lia) (by lia) λ p7 H7 n7 h7 s7=>?_;rw[pS]at h7;symm;refine jy (s7 _ _ (s6 _ _ ij)) h7 (by rw[bG,bG,eI,aL];lia) λ H8 h8 b8=>?_;rw[<- gK]at h8;have f8:=b8 _ _ (s7 _ _ (s6 _ _ gg)) λ z=>by rw[z,ij]at gg;cases gg
   symm;refine fin _ _ _ (List.replicate (-R).toNat N++ds) H8 (b8.same ((lQ.trans s6).trans s7) zf) h8 (b8 _ _ (s7 _ _ (s6 _ _ dS)) λ z=>qI z.symm) ?_ ?_
   ·rw[<- eU,<- eD];rfl
   ·rw[<- eU,<- eD];unfold e_;rw[show(us).length-(List.replicate (-R).toNat N++ds).length=0 by lia,kj,cG]
  ·rename_i c3 c4;refine fin _ _ (us) (List.replicate (-R).toNat N++ds) _ lQ ij dS ?_ ?_
   ·rw[<- eU,<- eD];unfold e_;rw[show(List.replicate (-R).toNat N++ds).length-(us).length=0 by lia,kj,cG]
   ·rw[<- eU,<- eD];unfold e_;rw[show(us).length-(List.replicate (-R).toNat N++ds).length=0 by lia,kj,cG]
 ·rw[show decide (0<R)=false from cH c1];symm;rw[show decide (R<0)=false from cH c2];symm;have dS:=h2;have ij:=DZ;have gg:=f2;have lQ:aq H H2:=s1.trans s2;have eD:ds=List.replicate (-R).toNat N++ds:=by rw[show(-R).toNat=0 by lia];rfl
  have eU:us=List.replicate R.toNat N++us:=by rw[show R.toNat=0 by lia];rfl
  have oO:H p2=none:=s1.free n2;have zf:H p1=none:=n1;have qI:p1≠p2:=λ z=>by rw[<- z,h1]at n2;cases n2
  have qU:ah K H2 p1 (iV (us)):=ah.of ij;have qD:ah K H2 p2 (iV (ds)):=ah.of dS;have zU:(us).length<=900000:=by rw[eU,bq,eI];lia
  have zD:(ds).length<=900000:=by rw[eD,bq,eI];lia
  nofun
  ·rename_i c3;refine aZ (lz (by simp)) λ p6 H6 n6 h6 s6=>?_;symm;refine kE (k:=(us).length-(ds).length) h6 (by lia) (by lia) λ p7 H7 n7 h7 s7=>?_;rw[pS]at h7;symm;refine jy (s7 _ _ (s6 _ _ dS)) h7 (by rw[bG,bG,eI,aL];lia) λ H8 h8 b8=>?_;rw[<- gK]at h8;have f8:=b8 _ _ (s7 _ _ (s6 _ _ gg)) λ z=>by rw[z,dS]at gg;cases gg
   symm;refine fin _ _ (us) _ H8 (b8.same ((lQ.trans s6).trans s7) oO) (b8 _ _ (s7 _ _ (s6 _ _ ij)) qI) h8 ?_ ?_
   ·rw[<- eU,<- eD];unfold e_;rw[show(ds).length-(us).length=0 by lia,kj,cG]
   ·rw[<- eU,<- eD];rfl
  ·rename_i c3 c4;refine aZ (lz (by simp)) λ p6 H6 n6 h6 s6=>?_;symm;refine kE (k:=(ds).length-(us).length) h6 (by lia) (by lia) λ p7 H7 n7 h7 s7=>?_;rw[pS]at h7;symm;refine jy (s7 _ _ (s6 _ _ ij)) h7 (by rw[bG,bG,eI,aL];lia) λ H8 h8 b8=>?_;rw[<- gK]at h8;have f8:=b8 _ _ (s7 _ _ (s6 _ _ gg)) λ z=>by rw[z,ij]at gg;cases gg
   symm;refine fin _ _ _ (ds) H8 (b8.same ((lQ.trans s6).trans s7) zf) h8 (b8 _ _ (s7 _ _ (s6 _ _ dS)) λ z=>qI z.symm) ?_ ?_
   ·rw[<- eU,<- eD];rfl
   ·rw[<- eU,<- eD];unfold e_;rw[show(us).length-(ds).length=0 by lia,kj,cG]
  ·rename_i c3 c4;refine fin _ _ (us) (ds) _ lQ ij dS ?_ ?_
   ·rw[<- eU,<- eD];unfold e_;rw[show(ds).length-(us).length=0 by lia,kj,cG]
   ·rw[<- eU,<- eD];unfold e_;rw[show(us).length-(ds).length=0 by lia,kj,cG]
def QC(m:Nat):Builtin.bitNot (m:Int)= -(m:Int)-1:=rfl
def G0(a m:Nat):Builtin.bitAnd (a:Int) (Builtin.bitNot (m:Int))=((a-(a&&&m):Nat):Int):=by unfold Builtin.bitAnd;rw[cQ (show(0:Int)<=a by simp),cH (show¬(0:Int)<=Builtin.bitNot (m:Int) by rw[QC];lia)];show(a:Int)-(((a:Int).toNat&&&(Builtin.bitNot (Builtin.bitNot (m:Int))).toNat:Nat):Int)=_;rw[show Builtin.bitNot (Builtin.bitNot (m:Int))=(m:Int) by unfold Builtin.bitNot;lia,jr,jr,E5 wU]
def Z0{k:Nat}(h:0<k):Builtin.bitAnd (k:Int) (-(k:Int))=((k-(k&&&(k-1)):Nat):Int):=by
 have e:(-(k:Int))=Builtin.bitNot ((k-1:Nat):Int):=by rw[QC];lia
 rw[e,G0]
def Sh(a b:Nat):Builtin.bitOr (a:Int) (b:Int)=((a|||b:Nat):Int):=by rw[Sz.ZY (by lia) (by lia),jr,jr]
def aex(a b:Nat):Builtin.bitAnd (a:Int) (b:Int)=((a&&&b:Nat):Int):=by unfold Builtin.bitAnd;rw[cQ (show(0:Int)<=a by lia),cQ (show(0:Int)<=b by lia)];rfl
def PB(k:Nat)(h:0<k):Builtin.Int.intBits (k:Int)=k.log2+1:=by unfold Builtin.Int.intBits;rw[ai (by simp;exact kg ‹_›),Int.natAbs_natCast]
def Sy(K:W.Frag)(T:String)(r:V->List V->Hp->VK->Prop)(x:V)(H:Hp)(Q:VK):Prop:=yQ K T x H/\r x [] H Q
def adV{σ:St}{H:Hp}{Q:VK}{K:W.Frag}{T:String}{r:V->List V->Hp->VK->Prop}{to:TE}(q:to σ H λ x H1=>Sy K T r x H1 Q):Rv K T r to σ H Q:=q
def abY{H:Hp}{Q:VK}{K:W.Frag}{i:Int}(q:Q (.int (Builtin.Int.intBits i)) H):Sy K "int" Qt (.int i) H Q:=⟨rfl,i,rfl,rfl,q⟩
def abN{σ:St}{H:Hp}{R:St->Hp->Prop}{to ti:TE}{t:V->V->V->Hp->(Hp->Prop)->Prop}{v:V}(q:to σ H λ o H1=>ti σ H1 λ i H2=>t o i v H2 λ H3=>R σ H3):Sb to ti t v σ H R:=q
def aad{σ:St}{H:Hp}{t u:TS}{nx bk ct:St->Hp->Prop}{rt:VK}(q:B7 t (Ends.mk (u (Ends.mk nx rt bk ct)) rt bk ct) σ H):iG (B7 t) u (Ends.mk nx rt bk ct) σ H:=q
def lkD{σ:St}{H:Hp}{t:TS}{nx bk ct:St->Hp->Prop}{rt:VK}{d:Addr}{kvs:List (Key×V)}(h:H d=some (.dK kvs))(q: ∀od H1,H1 d=some (.bM od (.dK kvs))->bh d H H1->t (Ends.mk (λ σ' H'=>H' d=some (.bM od (.dK kvs))/\nx σ' (upd H' d (.dK kvs))) (λ v H'=>H' d=some (.bM od (.dK kvs))/\rt v (upd H' d (.dK kvs))) (λ σ' H'=>H' d=some (.bM od (.dK kvs))/\bk σ' (upd H' d (.dK kvs))) (λ σ' H'=>H' d=some (.bM od (.dK kvs))/\ct σ' (upd H' d (.dK kvs)))) σ H1):B7 t (Ends.mk nx rt bk ct) σ H:=
 ⟨d,_,h,True.intro,λ od=>q od _ br (bh.upd _)⟩
def GY{xs:List V}{i:Int}{m:Nat}(ei:i=(m:Int)):jT xs (some i) none=xs.drop m:=by
 subst ei;unfold jT;rw[HT.BF];show(xs.drop (min m xs.length)).take (xs.length-min m xs.length)=_;by_cases h1:m<=xs.length
 ·rw[rj h1,fE (by rw[jq];simp)]
 ·rw[Fd (by lia),pE (by simp),pE (by lia)];simp
local macro_rules|`(tactic|walk_at "1")=>`(tactic|with_reducible first|refine adV ?_|refine abY ?_|refine abN ?_|refine aad ?_)
inductive O6(vs:List V)(H:Hp)(Q:VK)(E:XK):Prop
 |mk (a:Addr) (sp:List (Int×Int)) (x:Int):vs=[.ref a,.int x]->sM H a sp->Mx.Row x sp->(∀k:Nat,k<=sp.length->(∀s∈sp.take k,s.2<=x)->(∀s∈sp.drop k,x<s.2)->Q (.int k) H)->O6 vs H Q E
abbrev Q4:=Kn P w K mg Ba "first_ending_behind" ["spans","place"] 1 O6
def U6(g:aK mg)(tc:aW P w K mg c)(d:Df K mg "first_ending_behind" (top 127) ["spans","place"]):Q4:=by
 refine d.ok ["spans","place","low","high","middle"] λ H Q E hr h nN=>?_;obtain⟨a,sp,x,rfl,⟨ps,ha,hp⟩,row,k⟩:=h;have qa:ah K H a (rV ps):=ah.of ha;have hl:=bw hp;refine⟨_,(ag (au 2 nN af) (ag (au 3 nN (bX bZ g.bS (aa (pv 0) ae))) (ag (uV wR (aB cW (pv 2) (pv 3)) (ag (au 4 nN (aj mG (aj aJ (pv 2) (pv 3)) af)) (ak (aI (aB d9 (bB (bO (pv 0) (pv 4)) af) (pv 1)) (ak (au 2 nN (aj aJ (pv 4) af))) (ak (au 3 nN (pv 4))))))) (ak (ay (pv 2)))))),?_⟩;refine dH (σ':=[some (.ref a),some (.int x),none,none,none]) rfl ?_;symm;refine uX (λ m σ H'=>o8 λ(lo hi:Nat)(v:Option V)=>wF (H=H') (σ=[some (.ref a),some (.int x),some (.int lo),some (.int hi),v]) (lo<=hi) (hi<=sp.length) (m=hi-lo) (∀s∈sp.take lo,s.2<=x) (∀s∈sp.drop hi,x<s.2)) ⟨_,0,ps.length,none,rfl,rfl,cP _,by simp_all,rfl,by simp,by rw[hl];simp⟩ ?_;rintro m σ H' ⟨lo,hi,v,rfl,rfl,h1,h2,rfl,h3,h4⟩
 nofun
 ·rename_i c1;obtain⟨mi,Uk⟩: ∃mi:Nat,((lo:Int)+hi)/2=mi:=⟨(lo+hi)/2,by rfl⟩;have hm:mi<ps.length:=by lia
  obtain⟨s,hs,JW⟩:=Paired.at hp (bI hm);have qs:aP K H ps[mi] [.int s.1,.int s.2]:=aP.of JW;have hix:eW (rV ps) (((lo:Int)+hi)/2)=some (.ref ps[mi]):=at_of Uk (by unfold rV;rw[fx,bI hm];rfl);refine bW qa hix ?_;rw[Uk]
  nofun
  ·rename_i c2;exact⟨hi-(mi+1),by lia,mi+1,hi,_,rfl,rfl,by lia,h2,rfl,X9 row hs c2,h4⟩
  ·rename_i c2;exact⟨mi-lo,by lia,lo,mi,_,rfl,rfl,by lia,by lia,rfl,h3,X_ row hs (by simp_all)⟩
 ·rename_i c1;have e:lo=hi:=by lia
  subst e;exact k lo h2 h3 h4
inductive N4(c:Cs)(vs:List V)(H:Hp)(Q:VK)(E:XK):Prop
 |mk (m:Nat) (a:Addr) (sh:Int) (va:Addr) (v:Vw) (sp:List (Int×Int)):vs=[.int m,.ref a,.int sh,.ref va]->sM H a sp->jx c H va v->v.Ok->(∀cc:Nat,cc<4*v.w->Mx.Row (v.at cc-sh) sp)->(∀(m':Nat)H',aq H H'->(∀cc:Nat,m'.testBit cc=true↔m.testBit cc=true\/(cc<4*v.w/\Mx.In (v.at cc-sh) sp))->Q (.int m') H')->N4 c vs H Q E
abbrev Q8:=Kn P w K mg Ba "covered_more" ["mask","spans","shift","view"] 2 (N4 c)
set_option maxHeartbeats 1000000 in
def V0(g:aK mg)(tc:aW P w K mg c)(d:Df K mg "covered_more" (top 126) ["mask","spans","shift","view"])(t9:IB)(pH:IA)(Ea:Q4):Q8:=by
 refine d.ok ["mask","spans","shift","view","missing","first_missing","last_missing","up_to_sample","spacing","begin","end","first","last"] λ H Q E hr h nN=>?_;obtain⟨m,a,sh,va,v,sp,rfl,⟨ps,ha,hp⟩,⟨dv,hv⟩,bA,rows,k⟩:=h;have qa:ah K H a (rV ps):=ah.of ha;have hl:=bw hp;have w2:=bA.w2;have u2:=bA.u2;have dS:v.D=32*v.U:=rfl;have u1:=bA.u1;unfold jV at hv;refine⟨_,(ag (aI (aB dw (bX bZ g.bS (aa (pv 1) ae)) af) (ak (ay (pv 0))) aM) (ag (au 4 nN (aj iC (pk t9 hr (aa (pv 3) (aa (aj aJ (bB (bO (pv 1) af) af) (pv 2)) (aa (aj aJ (bB (bO (pv 1) (fe fL af)) af) (pv 2)) ae)))) (fe OU (pv 0)))) (ag (aI (aB dw (pv 4) af) (ak (ay (pv 0))) aM) (ag (au 5 nN (aj cJ (pk pH hr (aa (pv 3) (aa (aj cJ (Pc F.plainAttrs_int F.slot_int_bit_length F.type_int_bit_length OA (aj iC (pv 4) (fe fL (pv 4)))) af) ae))) (pv 2))) (ag (au 6 nN (aj cJ (pk pH hr (aa (pv 3) (aa (aj cJ (Pc F.plainAttrs_int F.slot_int_bit_length F.type_int_bit_length OA (pv 4)) af) ae))) (pv 2))) (ag (au 7 nN (aj cJ (aj aJ (pv 2) (aH tc.cD tc.rP (pv 3))) af)) (ag (au 8 nN (aH tc.cD tc.rL (pv 3))) (ag (fJ (c_ (mC mE (pv 1) (iz (pk Ea hr (aa (pv 1) (aa (pv 5) ae)))) BH)) (rS rfl (dm (aT 9 nN) (dm (aT 10 nN) mF))) (ag (aI (aB dO (pv 9) (pv 6)) (ak (ay (pv 0))) aM) (ag (au 11 nN (aj mG (aj aJ (pv 9) (pv 7)) (pv 8))) (ag (au 12 nN (aj mG (aj aJ (pv 10) (pv 7)) (pv 8))) (ak (aI (aB cW (pv 11) (pv 12)) (ak (jQ 0 nN (aj cJ (aj B1 af (fV (BK rfl) rfl g.qh pj (aa (pv 12) (aa (aH tc.cD tc.xE (pv 3)) ae)))) (aj B1 af (fV (BL rfl) rfl g.qj ph (aa (pv 11) (aa af ae))))) Pn)) aM)))))) (ak (ay (pv 0))))))))))),?_⟩;refine dH (σ':=[some (.int m),some (.ref a),some (.int sh),some (.ref va),none,none,none,none,none,none,none,none,none]) rfl ?_
 nofun
 ·rename_i c1;have e0:sp=[]:=km.mp (by lia);refine k m H (λ _ _ h=>h) λ cc=>⟨.inl,λ z=>z.elim id λ⟨_,s,s1,_⟩=>?_⟩;rw[e0]at s1;cases s1
 rename_i c1;have h0:0<ps.length:=by lia
 obtain⟨sa,j1,JW⟩:=Paired.at hp (bI h0);obtain⟨sb,TY,hsB⟩:=Paired.at hp (bI (show ps.length-1<ps.length by lia));rw[hl]at TY;have qsa:aP K H ps[0] [.int sa.1,.int sa.2]:=aP.of JW;have qsb:aP K H ps[ps.length-1] [.int sb.1,.int sb.2]:=aP.of hsB;refine bW qa (v:= .ref ps[0]) (at_of (z:=0) (j:=0) rfl (by unfold rV;rw[fx,bI h0];rfl)) ?_;symm;refine bW qa (at_last (v:= .ref ps[ps.length-1]) (by rw[a_];unfold rV;rw[fx,bI (show ps.length-1<ps.length by lia)];rfl)) ?_;symm;refine⟨va,v,_,_,rfl,⟨dv,hv⟩,bA,?_⟩;symm;rw[G0];have bits: ∀cc:Nat,(dG v (sa.1+sh) (sb.2+sh)-(dG v (sa.1+sh) (sb.2+sh)&&&m)).testBit cc=((dG v (sa.1+sh) (sb.2+sh)).testBit cc&& !m.testBit cc):=λ cc=>FZ _ _ _ _ (aQ _);have lim:dG v (sa.1+sh) (sb.2+sh)-(dG v (sa.1+sh) (sb.2+sh)&&&m)<2^(4*v.w):=by have:=YW (v:=v) (b:=sa.1+sh) (e:=sb.2+sh);omega
 generalize Kc:dG v (sa.1+sh) (sb.2+sh)-(dG v (sa.1+sh) (sb.2+sh)&&&m)=ms at bits lim⊢;have Tx: ∀cc:Nat,cc<4*v.w->Mx.In (v.at cc-sh) sp->m.testBit cc=false->ms.testBit cc=true:=λ cc h1 h2 h3=>by rw[bits,aaO bA j1 TY h1 (rows cc h1) h2,h3];rfl
 nofun
 ·rename_i c2;have e0:ms=0:=by simp_all
  refine k m H (λ _ _ h=>h) λ cc=>⟨.inl,λ z=>z.elim id λ⟨z1,z2⟩=>?_⟩;cases e:m.testBit cc with
  |true=>rfl
  |false=>have:=Tx cc z1 z2 e;rw[e0]at this;simp at this
 rename_i c2;have CQ:0<ms:=by lia
 obtain⟨t,e1,e2,e3⟩:=OD ms ms (aQ _) CQ;have ei:((Builtin.Int.intBits (Builtin.bitAnd (ms:Int) (-(ms:Int))):Nat):Int)-1=(t:Nat):=by rw[Z0 CQ,e1,PB _ (wW t),Nat.log2_two_pow];simp
 have eL:((Builtin.Int.intBits (ms:Int):Nat):Int)-1=(ms.log2:Nat):=by rw[PB _ CQ];simp
 have ht:t<4*v.w:=by apply my;intro hn;rw[Ld (dJ lim (AX (by decide) (by simp_all)))]at e2;cases e2
 have hL:ms.log2<4*v.w:=(Nat.log2_lt (by simp_all)).mpr lim;have miss: ∀cc:Nat,cc<4*v.w->Mx.In (v.at cc-sh) sp->m.testBit cc=false->v.at t-sh<=v.at cc-sh/\v.at cc-sh<=v.at ms.log2-sh:=λ cc h1 h2 h3=>by
  have h4:=Tx cc h1 h2 h3;have h5:t<=cc:=by apply my;intro hn;rw[e3 cc (by simp_all)]at h4;cases h4
  have h6:=ZK CQ h4;have h7:=BV bA h5;have h8:=BV bA h6
  simp_all
 rw[ei];refine⟨va,v,_,rfl,⟨dv,hv⟩,bA,?_⟩;symm;rw[eL];refine⟨va,v,_,rfl,⟨dv,hv⟩,bA,?_⟩;symm;refine⟨a,sp,_,rfl,⟨ps,ha,hp⟩,rows t ht,λ k0 zM f1 f2=>?_⟩;symm;refine pV qa λ p H1 n1 h1 s1=>?_;rw[GY rfl,show(rV ps).drop k0=rV (ps.drop k0) by unfold rV;rw[Ap]]at h1;have qp:ah K H1 p (rV (ps.drop k0)):=ah.of h1;have TM:=s1 _ _ hv;symm;refine L2.Rd.zY (xs:=rV (ps.drop k0)) (λ i σ H'=>H1=H'/\kU λ(mi:Nat)(v1 v2 v3 v4:Option V)=>σ=[some (.int mi),some (.ref a),some (.int sh),some (.ref va),some (.int ms),some (.int (v.at t-sh)),some (.int (v.at ms.log2-sh)),some (.int (sh+v.M-1)),some (.int v.D),v1,v2,v3,v4]/\ ∀cc:Nat,mi.testBit cc=true↔m.testBit cc=true\/(cc<4*v.w/\Mx.In (v.at cc-sh) ((sp.drop k0).take i))) ?_ ?_ ?_ ?_
 ·refine⟨rfl,m,none,none,none,none,rfl,λ cc=>⟨.inl,λ z=>z.elim id λ⟨_,s,s1,_⟩=>?_⟩⟩;simp at s1
 ·rintro i σ H' _ ⟨rfl,_⟩;exact qp
 ·rintro i x σ H' hx ⟨rfl,mi,v1,v2,v3,v4,rfl,hb⟩;obtain⟨ya,zB,rfl⟩:=dc.mp hx;obtain⟨y,hy,hyA⟩:=Paired.at (Paired.KA k0 hp) zB;have afj:=s1 _ _ hyA;have aey:y∈sp.drop k0:=eG hy;refine mI (xs:=[.int y.1,.int y.2]) (aP.of afj) rfl ?_;have eF:(y.1+(sh+v.M-1))/v.D=bK v (y.1+sh):=by unfold bK;congr 1;simp+arith
  have eE:(y.2+(sh+v.M-1))/v.D=bK v (y.2+sh):=by unfold bK;congr 1;simp+arith
  symm;by_cases c3:v.at ms.log2-sh<y.1
  ·rw[show decide (v.at ms.log2-sh<y.1)=true from cQ c3];symm;exact k mi H1 s1 λ cc=>Np (hb cc) f1 (behind (Zh (rows _ hL) k0) hy c3) (miss cc)
  ·rw[show decide (v.at ms.log2-sh<y.1)=false from cH c3];symm;rw[eF,eE];have nx: ∀(m':Nat),m'=Cr v sh mi y-> ∀cc:Nat,m'.testBit cc=true↔m.testBit cc=true\/(cc<4*v.w/\Mx.In (v.at cc-sh) ((sp.drop k0).take (i+1))):=λ m' e cc=>by
    rw[e,Y7 bA,hb,aa6 hy];constructor
    ·rintro((z|z)|z)
     ·exact .inl z
     ·exact .inr ⟨z.1,.inl z.2⟩
     ·exact .inr ⟨z.1,.inr z.2⟩
    ·rintro(z|⟨z1,z2|z2⟩)
     ·exact .inl (.inl z)
     ·exact .inl (.inr ⟨z1,z2⟩)
     ·exact .inr ⟨z1,z2⟩
   have g1:bK v (y.1+sh)<=ms.log2:=(BC bA).mpr (by lia);have g2:(t:Int)<bK v (y.2+sh):=by
    apply my;intro hn;have h9:=(BC bA (z:=y.2+sh) (c:=t)).mp (by simp_all);have D0:=f2 y aey
    lia
   by_cases c4:bK v (y.1+sh)<bK v (y.2+sh)
   ·rw[show decide (bK v (y.1+sh)<bK v (y.2+sh))=true from cQ c4];symm;rw[show(if 4*(v.w:Int)<bK v (y.2+sh)then 4*(v.w:Int)else bK v (y.2+sh))=min (bK v (y.2+sh)) (4*v.w) by split<;>grind];refine CH ⟨by lia,by lia,by decide⟩ ?_;symm;rw[show(if bK v (y.1+sh)<0 then 0 else bK v (y.1+sh))=max (bK v (y.1+sh)) 0 by split<;>lia];refine CH ⟨by lia,by lia,by decide⟩ ?_;symm;have h:(2:Nat)^(max (bK v (y.1+sh)) 0).toNat<=2^(min (bK v (y.2+sh)) (4*v.w)).toNat:=AX (by decide) (by lia);have ec:(1:Int)*2^(min (bK v (y.2+sh)) (4*v.w)).toNat-1*2^(max (bK v (y.1+sh)) 0).toNat=((dG v (y.1+sh) (y.2+sh):Nat):Int):=by
     unfold dG;rw[ai (by lia),E5 h,wQ,wQ,Al,Al];rfl
    rw[ec,Sh];exact⟨rfl,_,_,_,_,_,rfl,nx _ rfl⟩
   ·rw[show decide (bK v (y.1+sh)<bK v (y.2+sh))=false from cH c4];symm;refine⟨rfl,mi,_,_,_,_,rfl,nx _ ?_⟩;unfold Cr dG;rw[ao (.inl (by lia)),Nat.or_zero]
 ·rintro σ H' ⟨rfl,mi,v1,v2,v3,v4,rfl,hb⟩;symm;refine k mi H1 s1 λ cc=>Np (hb cc) f1 (λ s hs=>?_) (miss cc);rw[a_,jq,E3,pE (by lia)]at hs;cases hs
theorem SwOk.pairs{v:Vw}(k:v.Ok){N F:Int}: ∀(l:List (Corner×Corner))(S:Sw)(n:Nat),(∀pq∈l,vn pq.1/\vn pq.2)->SwOk S n->SwOk (l.foldl (lC v N F) S) (n+l.length)
 |[],_,_,_,h=>h
 |pq::l,S,n,near,h=>by
  have h1:SwOk (lC v N F S pq) (n+1):=by
   unfold lC;split
   ·rename_i bH;obtain⟨a,b⟩:=near pq (iT ..);exact h.add (Cf k a) (Cf k b) bH (λ z=>pW k z) λ z=>pW k z
   ·exact⟨h.ln,h.lt,by have:=h.sz;exact mv ‹_›⟩
  have h2:=SwOk.pairs k (N:=N) (F:=F) l _ _ (λ x hx=>near x (gi _ hx)) h1;rw[gT,dX];rw[show n+(l.length+1)=n+1+l.length by lia];exact h2
def SwOk.contour{v:Vw}(k:v.Ok){N F:Int}{S:Sw}{n:Nat}{cs:List Corner}(near: ∀q∈cs,vn q)(h:SwOk S n):SwOk (gG v N F S cs) (n+cs.length):=by
 have h1:=SwOk.pairs k (N:=N) (F:=F) (Mx.pairs cs) S n (λ pq jE=>?_) h
 ·have e:(Mx.pairs cs).length<=cs.length:=by unfold Mx.pairs;rw[rh];simp
  show SwOk ((Mx.pairs cs).foldl (lC v N F) S) _;exact h1.le (by simp_all)
 ·obtain⟨a,b⟩:=pB (a:=pq.1) (b:=pq.2) jE;exact⟨near _ a,near _ (xk b)⟩
def ZV(o:Kg15.Outline)(i:Nat):count (o.take i)<=count o:=by
 have h1:count o=count (o.take i)+count (o.drop i):=by rw[<- Mx.Bo,nS]
 simp_all
theorem Bk{l:List Pt}: ∀{o:Kg15.Outline},l∈o->l.length<=count o
 |m::o,h=>by
  rw[count_cons];rcases bV.mp h with z|z
  ·rw[z];simp
  ·have:=Bk z;lia
inductive MT(c:Cs)(vs:List V)(H:Hp)(Q:VK)(E:XK):Prop
 |mk (ca sa va:Addr) (o:Kg15.Outline) (cx:List Int) (v:Vw):vs=[.ref ca,.ref sa,.ref va]->kG H ca o->Small o->Kg15.far o=false->H sa=some (.lst (iV cx))->cx≠ []->jx c H va v->v.Ok->(∀x H' ρ N F,aq H H'->(∀a,ρ a≠none->H a=none)->dP c H' x ρ (i6 v N F ⟨[],[],[]⟩ o) N F [] [] 0->SwOk (i6 v N F ⟨[],[],[]⟩ o) 400000->(∀sh∈cx,∀cc:Nat,cc<4*v.w->N<=v.at cc-sh/\v.at cc-sh<=F)->Q (.ref x) H')->MT c vs H Q E
abbrev Rb:=Kn P w K mg Ba "swept" ["contours","shifts","view"] 3 (MT c)
def LP{v:Vw}{N F:Int}{S:Sw}{o:Kg15.Outline}{i:Nat}{l:List Pt}(h:o[i]?=some l):i6 v N F S (o.take (i+1))=gG v N F (i6 v N F S (o.take i)) (placesOf l):=by unfold i6;rw[cA,h,AF];rfl
set_option maxHeartbeats 1000000 in
def Zx(g:aK mg)(tc:aW P w K mg c)(d:Df K mg "swept" (top 124) ["contours","shifts","view"])(pH:IA)(Hj:Q7)(ER:Q6)(Ei:Q5):Rb:=by
 refine d.ok ["contours","shifts","view","nearest","farthest","sweep","contour"] λ H Q E hr h nN=>?_;obtain⟨ca,sa,va,o,cx,v,rfl,ou,hZ,hf,j1,bH,⟨dv,hv⟩,bA,k⟩:=h;obtain⟨cs,gx,gf⟩:=id ou;have w1:=bA.w1;unfold jV at hv;refine⟨_,(ag (au 3 nN (aj cJ (pk pH hr (aa (pv 2) (aa af ae))) (fV (BS (K:=K) rfl rfl) rfl g.qj ph (aa (pv 1) ae)))) (ag (au 4 nN (aj cJ (pk pH hr (aa (pv 2) (aa (aj cJ (aH tc.cD tc.xE (pv 2)) af) ae))) (fV (BR (K:=K) rfl rfl) rfl g.qh pj (aa (pv 1) ae)))) (ag (au 5 nN (mY Hj hr (aa (pv 3) (aa (pv 4) ae)))) (ag (fJ (c_ (pv 0)) (aT 6 nN) (ak (cB (pk ER hr (aa (pv 5) (aa (pv 2) (aa (pk Ei hr (aa (pv 6) ae)) ae))))))) (ak (ay (pv 5))))))),?_⟩;refine dH (σ':=[some (.ref ca),some (.ref sa),some (.ref va),none,none,none,none]) rfl ?_;symm;refine⟨va,v,0,rfl,⟨dv,hv⟩,bA,?_⟩;symm;refine HC j1 bH λ mx mxm JI=>?_;symm;refine⟨va,v,_,rfl,⟨dv,hv⟩,bA,?_⟩;symm;refine HB j1 bH λ mn mnm JK=>?_;symm;refine Za λ x H1 ρ0 n1 s1 oH fr1=>?_;generalize hN:v.at 0-mx=N at*;generalize hF:v.at (4*(v.w:Int)-1)-mn=F at*;have range: ∀sh∈cx,∀cc:Nat,cc<4*v.w->N<=v.at cc-sh/\v.at cc-sh<=F:=λ sh jZ cc eV=>by
  have a1:=JI sh jZ;have a2:=JK sh jZ;have a3:=BV bA (c:=0) (d:=cc) (by simp);have a4:=BV bA (c:=cc) (d:=4*v.w-1) (by lia);rw[show((4*v.w-1:Nat):Int)=4*(v.w:Int)-1 by lia]at a4;have a5:v.at ((0:Nat):Int)=v.at 0:=rfl
  lia
 have C_:ah K H ca (rV cs):=ah.of gx;symm;refine L2.Rd.fl (xs:=rV cs) (λ i σ H'=>wC λ(ρ:gO)(v1:Option V)=>me (σ=[some (.ref ca),some (.ref sa),some (.ref va),some (.int N),some (.int F),some (.ref x),v1]) (aq H H') (∀a,ρ a≠none->H a=none) (dP c H' x ρ (i6 v N F ⟨[],[],[]⟩ (o.take i)) N F [] [] 0) (SwOk (i6 v N F ⟨[],[],[]⟩ (o.take i)) ((o.take i).map λ l=>(placesOf l).length).sum)) ?_ ?_ ?_ ?_
 ·exact⟨ρ0,none,rfl,s1,fr1,oH,⟨λ _ z=>(by cases z),λ _ z=>(by cases z),by simp[i6]⟩⟩
 ·rintro i σ H' _ ⟨ρ,v1,rfl,sm,_⟩;exact sm.seq C_
 ·rintro i y σ H' hy ⟨ρ,v1,rfl,sm,fr,qG,sV⟩;obtain⟨la,jg,rfl⟩:=dc.mp hy;obtain⟨l,hl,hlA⟩:=Paired.at gf jg;have oz:l∈o:=eG hl;have vR:=hZ.1 l oz;have tot:((o.take (i+1)).map λ l=>(placesOf l).length).sum=((o.take i).map λ l=>(placesOf l).length).sum+(placesOf l).length:=by
   rw[cA,hl,fw,E7];simp
  have near: ∀q∈placesOf l,vn q:=λ q hq=>Xp hf oz vR hq;symm;refine⟨la,l,rfl,hlA.mono (dC.of sm),vR,by have h1:=Bk oz;have h2:=hZ.2;lia,λ r H2 n2 s2 ch=>?_⟩;symm;have KD:((o.take (i+1)).map λ l=>(placesOf l).length).sum<=100000:=by
   have h1:=Ga (o.take (i+1)) λ l' iM=>hZ.1 l' (xj iM);have h2:=ZV o (i+1);have h3:=hZ.2
   lia
  refine⟨x,va,r,v,placesOf l,ρ,_,N,F,_,rfl,⟨dv,s2 _ _ (sm _ _ hv)⟩,bA,?_,ch,?_,near,qG.same s2,sV,by lia,λ H3 ρ3 sx wg yU=>?_⟩
  ·cases e:ρ va with
   |none=>rfl
   |some t=>have:=fr va (by rw[e];simp);rw[hv]at this;cases this
  ·cases e:ρ r with
   |none=>rfl
   |some t=>exact absurd n2 (qG.al r (by rw[e];simp))
  refine⟨ρ3,_,rfl,λ b o' hb=>sx _ _ (s2 _ _ (sm _ _ hb)) λ z=>?_,λ a ha=>?_,?_,?_⟩
  ·have:=fr b z;rw[hb]at this;cases this
  ·rcases wg a ha with z|z
   ·exact fr a z
   ·exact sm.free (s2.free z)
  ·rw[LP hl];exact yU
  ·rw[LP hl,tot];exact sV.contour bA near
 ·rintro σ H' ⟨ρ,v1,rfl,sm,fr,qG,sV⟩;symm;have hl:=bw gf;rw[fE (by rw[a_];simp_all)]at qG sV;refine k x H' ρ N F sm fr qG ⟨sV.ln,sV.lt,?_⟩ range;have h1:=Ga o hZ.1;have h2:=hZ.2;have h3:=sV.sz
  lia
def Xa(S:Sw)(r:Nat):eO S r=kr S (r+1):=by
 unfold eO kr;refine Be λ t _=>?_;unfold i_;by_cases h:t.1<=r/\r<t.2.1
 ·rw[ao h,ao (by lia)]
 ·rw[ai h,ai (by lia)]
def Ng{S:Sw}{lo:Nat}{l:List (Nat×Ln)}(h: ∀t∈l,lo<=t.1):prev lo l=[]:=by
 unfold prev;rw[AQ,Lc];intro t ht;have:=h t ht;simp
 lia
def W_{S:Sw}{lo:Nat}(h: ∀t∈S.left,lo<=t.1):kr S lo=0:=by unfold kr;exact rN λ t ht=>ai (by have:=h t ht;lia)
def Pj{l:List Nat}{i:Int}{n:Nat}(e:i=(n:Int))(h:n<l.length):eW (nV l) i=some (.int (l.getD n 0:Nat)):=by refine at_of e (lE.mpr ⟨l.getD n 0,?_,rfl⟩);rw[jt,bI h];rfl
def aco{l:List Nat}{n m:Nat}:(nV l).set n (.int (m:Int))=nV (l.set n m):=by unfold nV;rw[List.map_set]
def GX{l:List Nat}{n m r:Nat}(h:n<l.length):(l.set n m).getD r 0=if r=n then m else l.getD r 0:=by
 rw[jt,jt,List.getElem?_set];by_cases c:r=n
 ·subst c;rw[ao rfl,ao h,ao rfl];rfl
 ·rw[ai (λ z=>c z.symm),ai c]
theorem dP.fZ{H H':Hp}{sw:Addr}{ρ:gO}{S:Sw}{N F R:Int}{nU nD:List Ln}{Z:Addr->Prop}(h:dP c H sw ρ S N F nU nD R)(x:az Z H H')(hz: ∀a,Z a->ρ a=none)(ht: ∀a,Z a-> ∀z,H a≠some (.tup z)):dP c H' sw ρ S N F nU nD R:=by
 obtain⟨dx,u,d,e,l,nu,nd,hs,hρ,hU,hD,hE,hL,eK,cX⟩:=h.ex;have nz: ∀b t,ρ b=some t-> ¬Z b:=λ b t h1 z=>by have:=hz b z;rw[h1]at this;cases this
 have off: ∀b t,ρ b=some t-> ∀o,H b=some o->H' b=some o:=λ b t h1 o ho=>x _ _ ho (nz b t h1);have kp: ∀b t y,ρ b=some t->bt H b y->bt H' b y:=λ b t y h1 h2=>h2.fZ x ht (nz b t h1);have RH: ∀a,ρ a≠none-> ∃o,H a=some o/\H' a=some o:=λ a ha=>by
  cases e1:ρ a with
  |none=>exact absurd e1 ha
  |some t=>
   cases e2:H a with
   |none=>exact absurd e2 (h.al a ha)
   |some o=>exact⟨o,rfl,off a t e1 o e2⟩
 refine⟨⟨dx,u,d,e,l,nu,nd,off _ _ hρ.1 _ hs,hρ,hU.keep (off _ _ hρ.2.1) λ r b x g1 g2=>⟨g1,kp _ _ _ g1 g2⟩,hD.keep (off _ _ hρ.2.2.1) λ r b x g1 g2=>⟨g1,kp _ _ _ g1 g2⟩,hE.keep (off _ _ hρ.2.2.2.1) λ t=>Iff.rfl,hL.keep (off _ _ hρ.2.2.2.2.1) rfl,kp _ _ _ hρ.2.2.2.2.2.1 eK,kp _ _ _ hρ.2.2.2.2.2.2 cX⟩,λ a ha=>?_,λ a ha z e5=>?_⟩
 ·obtain⟨o,_,e2⟩:=RH a ha;rw[e2];simp
 ·obtain⟨o,e1,e2⟩:=RH a ha;rw[e2]at e5;cases e5;exact h.nt a ha z e1
inductive MZ(c:Cs)(vs:List V)(H:Hp)(Q:VK)(E:XK):Prop
 |mk (bj sw sa:Addr) (reach:Nat) (va:Addr) (v:Vw) (ms:List Nat) (cx:List Int) (ρ:gO) (S:Sw) (N F:Int):vs=[.ref bj,.ref sw,.ref sa,.int reach,.ref va]->H bj=some (.lst (nV ms))->ms.length=4*v.h->ρ bj=none->dP c H sw ρ S N F [] [] 0->SwOk S 400000->oq S (4*v.h)->H sa=some (.lst (iV cx))->ρ sa=none->sa≠bj->jx c H va v->ρ va=none->v.Ok->(∀sh∈cx,∀cc:Nat,cc<4*v.w->N<=v.at cc-sh/\v.at cc-sh<=F)->(∀(r cc:Nat),∀sh∈cx,r<4*v.h->cc<4*v.w->Mx.val S r (v.at cc-sh)≠0->reach.testBit cc=true)->(∀(lS:List Nat)H',lS.length=4*v.h->(∀r cc:Nat,r<4*v.h->cc<4*v.w->((lS.getD r 0).testBit cc=true↔(ms.getD r 0).testBit cc=true\/ ∃sh∈cx,Mx.val S r (v.at cc-sh)≠0))->az (λ a=>ρ a≠none\/a=bj) H H'->H' bj=some (.lst (nV lS))->Q .aG H')->MZ c vs H Q E
abbrev Rc:=Kn P w K mg Ba "cover_rows" ["covered","sweep","shifts","reach","view"] 3 (MZ c)
def abf{H:Hp}{p:Addr}{xs:List V}{i:Int}{n:Nat}{y:V}{N:Hp->Prop}(h:H p=some (.lst xs))(e:i=(n:Int))(hn:n<xs.length)(q: ∀H1,H1 p=some (.lst (xs.set n y))->bh p H H1->N H1):Qq (.ref p) (.int i) y H N:=by refine⟨p,xs,i,n,rfl,rfl,h,?_,q _ br (bh.upd _)⟩;subst e;unfold lV;rw[ao (by simp),jr];simp[hn]
set_option maxHeartbeats 1000000 in
def WC(g:aK mg)(tc:aW P w K mg c)(d:Df K mg "cover_rows" (top 125) ["covered","sweep","shifts","reach","view"])(Gd:Ra)(F3:Q_)(ED:Q9)(EG:Q8):Rc:=by
 refine d.ok ["covered","sweep","shifts","reach","view","row","spans","shift"] λ H Q E hr h nN=>?_;obtain⟨bj,sw,sa,reach,va,v,ms,cx,ρ,S,N,F,rfl,lN,m_,Ry,dB,ax,aek,j1,rsa,Th,⟨dv,hv⟩,Jt,bA,range,acA,k⟩:=h;unfold jV at hv;have h2:=bA.h2;refine⟨_,(ak (fJ (c_ (pk Gd hr (aa (pv 1) ae))) (aT 5 nN) (ag (cB (pk F3 hr (aa (pv 1) (aa (pv 5) ae)))) (ak (aI (aB gZ (aj iC (pv 3) (fe OU (bO (pv 0) (pv 5)))) af) (ag (au 6 nN (pk ED hr (aa (pv 1) (aa (pv 5) ae)))) (ak (fJ (c_ (pv 2)) (aT 7 nN) (ak (ab8 (pk EG hr (aa (bO (pv 0) (pv 5)) (aa (pv 6) (aa (pv 7) (aa (pv 4) ae))))) (ace (pv 0) (pv 5) set_list)))))) aM))))),?_⟩;refine dH (σ':=[some (.ref bj),some (.ref sw),some (.ref sa),some (.int reach),some (.ref va),none,none,none]) rfl ?_;symm;refine⟨sw,ρ,S,N,F,[],[],0,400000,rfl,dB,ax,λ lo hi p H1 lh Ur oQ qN n1 s1 hp=>?_⟩;have Ur:=Ur _ aek;have rp:ρ p=none:=by
  cases e:ρ p with
  |none=>rfl
  |some t=>exact absurd n1 (dB.al p (by rw[e];simp))
 have npc:p≠bj:=λ z=>by rw[z,lN]at n1;cases n1
 have qp:ah K H1 p _:=ah.of hp;symm;have ac8:((List.range (hi-lo)).map λ(k:Nat)=>lo+k).length=hi-lo:=by rw[aV,iS]
 refine L2.Rd.fl (xs:=nV ((List.range (hi-lo)).map λ(k:Nat)=>lo+k)) (λ i σ H'=>tS λ(ρ':gO)(nU nD:List Ln)(bT:List Nat)(v1 v2 v3:Option V)=>D9 (σ=[some (.ref bj),some (.ref sw),some (.ref sa),some (.int reach),some (.ref va),v1,v2,v3]) (az (λ a=>ρ a≠none\/a=bj) H1 H') (∀a,ρ' a≠none->ρ a≠none\/H1 a=none) (dP c H' sw ρ' S N F nU nD (kr S (lo+i))) (nU.Perm (prev (lo+i) S.up)) (nD.Perm (prev (lo+i) S.down)) (H' bj=some (.lst (nV bT))) (bT.length=4*v.h) (∀r:Nat,r<4*v.h->(r<lo+i-> ∀cc:Nat,cc<4*v.w->((bT.getD r 0).testBit cc=true↔(ms.getD r 0).testBit cc=true\/ ∃sh∈cx,Mx.val S r (v.at cc-sh)≠0))/\(lo+i<=r->bT.getD r 0=ms.getD r 0))) ?_ ?_ ?_ ?_
 ·have e1:kr S (lo+0)=0:=W_ λ t ht=>(qN t ht).1;refine⟨ρ,[],[],ms,none,none,none,rfl,az.refl,λ a ha=> .inl ha,by rw[e1];exact dB.same s1,?_,?_,s1 _ _ lN,m_,λ r hr=>⟨λ hlo cc eV=>⟨.inl,λ z=>z.elim id ?_⟩,λ _=>rfl⟩⟩
  ·rw[show prev (lo+0) S.up=[]from Ng (S:=S) λ t ht=>(oQ t (eZ _ ht)).1]
  ·rw[show prev (lo+0) S.down=[]from Ng (S:=S) λ t ht=>(oQ t (gj _ ht)).1]
  ·rintro⟨sh,_,z⟩;exact absurd (NK oQ qN (.inl (by trivial))) z
 ·rintro i σ H' _ ⟨ρ',nU,nD,bT,v1,v2,v3,rfl,sx,_⟩;exact ah.of (sx _ _ hp λ z=>z.elim (λ y=>y rp) npc)
 ·rintro i y σ H' hy ⟨ρ',nU,nD,bT,v1,v2,v3,rfl,sx,fr,qG,pu,pd,DV,gw,facts⟩;obtain⟨rr,Dy,rfl⟩:=lE.mp hy;have hir:i<hi-lo/\rr=lo+i:=by
   rw[fx,js]at Dy;obtain⟨q,h1,h2⟩:=Dy;obtain⟨h3,h4⟩:=bC.mp h1;rw[iS]at h3;rw[List.getElem_range]at h4
   simp_all
  obtain⟨hi1,rfl⟩:=hir;have off: ∀a o,H1 a=some o->ρ a=none->a≠bj->H' a=some o:=λ a o h1 h2 h3=>sx _ _ h1 λ z=>z.elim (λ y=>y h2) h3;have S6: ∀a o,H1 a=some o->ρ a=none->ρ' a=none:=λ a o h1 h2=>by
   cases e:ρ' a with
   |none=>rfl
   |some t=>
    rcases fr a (by rw[e];simp)with z|z
    ·exact absurd h2 z
    ·rw[h1]at z;cases z
  symm;refine⟨sw,ρ',S,N,F,nU,nD,400000,lo+i,rfl,qG,ax,by simp,pu,pd,λ H2 ρ2 JG JH gP fr2 Jp y_ za=>?_⟩;have CF:az (λ a=>ρ a≠none\/a=bj) H1 H2:=λ b o hb hz=>by
   have rb:ρ b=none:=by
    cases e:ρ b with
    |none=>rfl
    |some t=>exact absurd (.inl (by rw[e];simp)) hz
   exact gP _ _ (sx _ _ hb hz) λ z=>z (S6 b o hb rb)
  have Sd: ∀a,ρ2 a≠none->ρ a≠none\/H1 a=none:=λ a ha=>by
   rcases fr2 a ha with z|z
   ·exact fr a z
   ·by_cases hz:ρ a≠none\/a=bj
    ·rcases hz with y|y
     ·exact .inl y
     ·rw[y,DV]at z;cases z
    ·exact .inr (sx.none z hz)
  have DT:H2 bj=some (.lst (nV bT)):=gP _ _ DV λ z=>z (S6 bj _ (s1 _ _ lN) Ry);have S8:ah K H2 bj (nV bT):=ah.of DT;have T5:lo+i<4*v.h:=by grind
  symm;refine bW S8 (Pj rfl (by simp_all)) ?_;symm;rw[G0];have bits: ∀cc:Nat,(reach-(reach&&&bT.getD (lo+i) 0)).testBit cc=(reach.testBit cc&& !(bT.getD (lo+i) 0).testBit cc):=λ cc=>FZ _ _ _ _ (aQ _);have m0:bT.getD (lo+i) 0=ms.getD (lo+i) 0:=(facts (lo+i) T5).2 (aQ _);have Te: ∀(H3:Hp)(ρ3:gO)(m':Nat)(v1 v2 v3:Option V),az (λ a=>ρ a≠none\/a=bj) H1 H3->dP c H3 sw ρ2 S N F JG JH (eO S (lo+i))->H3 bj=some (.lst (nV (bT.set (lo+i) m')))->(∀cc:Nat,cc<4*v.w->(m'.testBit cc=true↔(ms.getD (lo+i) 0).testBit cc=true\/ ∃sh∈cx,Mx.val S (lo+i) (v.at cc-sh)≠0))->
    tS λ(ρ':gO)(nU nD:List Ln)(bT:List Nat)(w1 w2 w3:Option V)=>D9 ([some (.ref bj),some (.ref sw),some (.ref sa),some (.int reach),some (.ref va),v1,v2,v3]=[some (.ref bj),some (.ref sw),some (.ref sa),some (.int reach),some (.ref va),w1,w2,w3]) (az (λ a=>ρ a≠none\/a=bj) H1 H3) (∀a,ρ' a≠none->ρ a≠none\/H1 a=none) (dP c H3 sw ρ' S N F nU nD (kr S (lo+(i+1)))) (nU.Perm (prev (lo+(i+1)) S.up)) (nD.Perm (prev (lo+(i+1)) S.down)) (H3 bj=some (.lst (nV bT))) (bT.length=4*v.h) (∀r:Nat,r<4*v.h->(r<lo+(i+1)-> ∀cc:Nat,cc<4*v.w->((bT.getD r 0).testBit cc=true↔(ms.getD r 0).testBit cc=true\/ ∃sh∈cx,Mx.val S r (v.at cc-sh)≠0))/\(lo+(i+1)<=r->bT.getD r 0=ms.getD r 0)):=by
   intro H3 ρ3 m' v1 v2 v3 a1 a2 a3 a4;refine⟨ρ2,JG,JH,bT.set (lo+i) m',v1,v2,v3,rfl,a1,Sd,?_,?_,?_,a3,by rw[wY];exact gw,λ r hr=>?_⟩
   ·rw[Xa]at a2;exact a2
   ·rw[Nr]at y_;exact y_
   ·rw[Nr]at za;exact za
   ·rw[GX (by lia)];constructor
    ·intro cg cc eV;by_cases e:r=lo+i
     ·subst e;rw[ao rfl];exact a4 cc eV
     ·rw[ai e];exact(facts r hr).1 (by lia) cc eV
    ·intro hle;rw[ai (by exact kg ‹_›)];exact(facts r hr).2 (by exact eh ‹_›)
  have Of:bT.set (lo+i) (bT.getD (lo+i) 0)=bT:=by rw[jt,bI (by lia)];simp
  nofun
  ·rename_i c1;refine⟨sw,ρ2,S,N,F,JG,JH,400000,lo+i,rfl,Jp,ax,aQ _,y_,za,by lia,λ q H3 sp nq s3 ch agh ie=>?_⟩;have RU:H3 sa=some (.lst (iV cx)):=s3 _ _ (CF _ _ (s1 _ _ j1) λ z=>z.elim (λ y=>y rsa) Th);have qsa:ah K H3 sa (iV cx):=ah.of RU;have IP:=s3 _ _ (CF _ _ (s1 _ _ hv) λ z=>z.elim (λ y=>y Jt) λ y=>by rw[y,lN]at hv;cases hv);have Ie:=s3 _ _ DT;have aeC:=CF.add s3;have yU:=Jp.same s3;have adZ:ρ2 bj=none:=by
    cases e:ρ2 bj with
    |none=>rfl
    |some t=>
     rcases Sd bj (by rw[e];simp)with z|z
     ·exact absurd Ry z
     ·rw[s1 _ _ lN]at z;cases z
   have nqc:q≠bj:=λ z=>by rw[z,DT]at nq;cases nq
   obtain⟨qs,DF,tp⟩:=ch;have Rk: ∀z,H3 bj≠some (.tup z):=λ z e=>by rw[Ie]at e;cases e
   have gD:=GX (l:=bT) (n:=lo+i) (m:=bT.getD (lo+i) 0) (r:=lo+i) (by lia);symm;refine L2.Rd.fl (xs:=iV cx) (λ j σ H'=>wC λ(mj:Nat)(v3:Option V)=>wG (σ=[some (.ref bj),some (.ref sw),some (.ref sa),some (.int reach),some (.ref va),some (.int ((lo+i:Nat):Int)),some (.ref q),v3]) (az (λ a=>a=bj) H3 H') (H' bj=some (.lst (nV (bT.set (lo+i) mj)))) (∀cc:Nat,mj.testBit cc=true↔(bT.getD (lo+i) 0).testBit cc=true\/(cc<4*v.w/\ ∃sh∈cx.take j,Mx.In (v.at cc-sh) sp))) ?_ ?_ ?_ ?_
   ·refine⟨bT.getD (lo+i) 0,_,rfl,az.refl,by rw[Of];exact Ie,λ cc=>⟨.inl,λ z=>z.elim id λ⟨_,sh,z2,_⟩=>?_⟩⟩;simp at z2
   ·rintro j σ H' _ ⟨mj,v3,rfl,x3,_⟩;exact ah.of (x3 _ _ RU Th)
   ·rintro j x σ H' hx ⟨mj,v3,rfl,x3,DR,Kk⟩;obtain⟨sh,jZ,rfl⟩:=mK.mp hx;have SY:sh∈cx:=eG jZ;have qcj:ah K H' bj (nV (bT.set (lo+i) mj)):=ah.of DR;have hvj:=x3 _ _ IP λ z=>by rw[z,Ie]at IP;cases IP
    symm;refine bW qcj (Pj rfl (by rw[wY];lia)) ?_;rw[GX (by lia),ao rfl];symm;refine⟨mj,q,sh,va,v,sp,rfl,⟨qs,x3 _ _ DF nqc,Paired.a8 tp λ y z e=>x3 _ _ e λ w=>Rk _ (by rw[<- w];exact e)⟩,⟨dv,hvj⟩,bA,λ cc eV=>(ie _ (range sh SY cc eV).1 (range sh SY cc eV).2).2,λ m' H4 s4 hm=>?_⟩;symm;refine abf (s4 _ _ DR) rfl (by rw[cV,wY];lia) λ H5 h5 b5=>?_;rw[aco,List.set_set]at h5;refine⟨m',_,rfl,λ b o hb hn=>b5 _ _ (s4 _ _ (x3 _ _ hb hn)) hn,h5,λ cc=>?_⟩;rw[hm,Kk,cA,jZ];constructor
    ·rintro((z|⟨z1,Jq,z2,z3⟩)|⟨z1,z2⟩)
     ·exact .inl z
     ·exact .inr ⟨z1,Jq,eZ _ z2,z3⟩
     ·exact .inr ⟨z1,sh,by simp,z2⟩
    ·rintro(z|⟨z1,Jq,z2,z3⟩)
     ·exact .inl (.inl z)
     ·rcases bJ.mp z2 with y|y
      ·exact .inl (.inr ⟨z1,Jq,y,z3⟩)
      ·simp at y;subst y;exact .inr ⟨z1,z3⟩
   ·rintro σ H' ⟨mj,v3,rfl,x3,DR,Kk⟩;refine Te H' ρ2 mj _ _ _ (λ b o hb hn=>x3 _ _ (aeC _ _ hb hn) λ z=>hn (.inr z)) (yU.fZ x3 (λ a z=>by rw[z];exact adZ) λ a z=>by rw[z];exact Rk) DR λ cc eV=>?_;rw[Kk,m0];rw[bG,jM];constructor
    ·rintro(z|⟨_,sh,z2,z3⟩)
     ·exact .inl z
     ·exact .inr ⟨sh,z2,(ie _ (range sh z2 cc eV).1 (range sh z2 cc eV).2).1.mp z3⟩
    ·rintro(z|⟨sh,z2,z3⟩)
     ·exact .inl z
     ·exact .inr ⟨eV,sh,z2,(ie _ (range sh z2 cc eV).1 (range sh z2 cc eV).2).1.mpr z3⟩
  ·rename_i c1;have e0:reach-(reach&&&bT.getD (lo+i) 0)=0:=by exact uk ‹_›
   refine Te H2 ρ2 (bT.getD (lo+i) 0) _ _ _ CF Jp (by rw[Of];exact DT) λ cc eV=>?_;rw[m0];refine⟨.inl,λ z=>z.elim id λ⟨sh,z1,z2⟩=>?_⟩;have b1:=acA (lo+i) cc sh z1 T5 eV z2;have b2:=bits cc;rw[e0,b1,m0]at b2;simpa using b2
 ·rintro σ H' ⟨ρ',nU,nD,bT,v1,v2,v3,rfl,sx,fr,qG,pu,pd,DV,gw,facts⟩;rw[cV,ac8]at facts;symm;refine k bT H' gw (λ r cc hr eV=>?_) (λ b o hb hz=>sx _ _ (s1 _ _ hb) hz) DV;by_cases hrh:r<hi
  ·exact(facts r hr).1 (by simp_all) cc eV
  ·rw[(facts r hr).2 (by simp_all)];refine⟨.inl,λ z=>z.elim id ?_⟩;rintro⟨sh,_,z⟩;exact absurd (NK oQ qN (.inr (by simp_all))) z
section
section
variable{σ:St}{H:Hp}{Q:VK}{tA:TA}{R:It->Hp->Prop}{tb:TS}{nx:St->Hp->Prop}{rt:VK}
def adg{g:Int->Int->V}{a b:Int}(c:0<=b)(q:Q (g a b) H):rI (λ _ j=>0<=j) g (.int a) (.int b) H Q:=⟨a,b,rfl,rfl,c,q⟩
def Si(R:It->Hp->Prop)(vs:List V)(H1:Hp):Prop:=∃(i j c:Int)(n:Nat),vs=[.int i,.int j,.int c]/\UX i j c n/\R (Ad i c n) H1
def abn(q:tA σ H λ vs H1=>Si R vs H1):Qw tA σ H R:=q
def Mm(h:Nat):Builtin.Range.rangeSize 0 (4*(h:Int)) 4=h:=by unfold Builtin.Range.rangeSize;simp only[show(4:Int)>0 by decide,jn];split<;>lia
def aag{h:Nat}(hh:h<=100000)(q:R (Ad 0 4 h) H):Si R [.int 0,.int (4*(h:Int)),.int 4] H:=by
 refine⟨0,_,4,h,rfl,⟨by decide,by decide,?_,Mm h⟩,q⟩;have fl: ∀i:Int, -1000000<=i->i<=1000000->Builtin.Range.rangeFitsLong i=true:=λ i h1 h2=>by
  unfold Builtin.Range.rangeFitsLong;rw[cI,gF,gF]
  lia
 unfold Builtin.Range.small;rw[Mm,fl 0 (by simp) (by simp),fl (4*(h:Int)) (by lia) (by lia),fl 4 (by simp) (by simp),fl (h:Int) (by simp) (by lia),ao (show(4:Int)>0 by decide),fl (4*(h:Int)+(4-1)) (by lia) (by lia),Bool.or_true];rfl
def fc{lo k:Int}{n s:Nat}(Pv:Nat->St->Hp->Prop)(h0:Pv 0 σ H)(hs: ∀i σ H,i<n->Pv i σ H->tb (Ends.mk (Pv (i+1)) rt nx (Pv (i+1))) (σ.set s (some (.int (lo+(i:Nat)*k)))) H)(hd: ∀σ H,Pv n σ H->nx σ H):FR (Ad lo k n) (eJ s) tb nx rt σ H:=by
 refine⟨λ i m σ H=>m=n-i/\i<=n/\Pv i σ H,⟨n,by simp,cP _,h0⟩,?_⟩;rintro i m σ H ⟨rfl,hi,p⟩;by_cases cg:i<n
 ·refine .inr ⟨cg,Pv (i+1),λ σ' H' p'=>⟨n-(i+1),by lia,rfl,cg,p'⟩,λ x H' y=>?_⟩;obtain⟨rfl,rfl⟩:=y;exact hs i σ H' cg p
 ·refine .inl ⟨by show n<=i;simp_all,hd σ H ?_⟩;have:i=n:=by lia
  subst this;exact p
end
local macro_rules|`(tactic|walk_at "1")=>`(tactic|with_reducible refine abn ?_)
noncomputable def lG (m n:Nat):List Nat:=(List.range n).map λ(k:Nat)=>four (m/2^(4*k)%16)
inductive N8(vs:List V)(H:Hp)(Q:VK)(E:XK):Prop
 |mk (m n:Nat):vs=[.int m,.int n]->n<=256->(∀p H',H p=none->aq H H'->H' p=some (.lst (nV (lG m n)))->Q (.ref p) H')->N8 vs H Q E
abbrev QK:=Kn P w K mg Ba "bits_by_four" ["mask","count"] 1 N8
def V4(g:aK mg)(tc:aW P w K mg c)(d:Df K mg "bits_by_four" (top 129) ["mask","count"]):QK:=by
 refine d.ok ["mask","count","k"] λ H Q E hr h nN=>?_;obtain⟨m,n,rfl,hn,k⟩:=h;refine⟨_,(ag (aI (aB dw (pv 0) af) (ak (ay (aj rT (bo (aa af ae)) (pv 1)))) aM) (ak (ay (i9 rfl nN (ko rfl g.ju (aa (pv 1) ae)) (fX [("k",2)]) (λ _ _ _ _ _=>(aT 2 nN)) (λ _ _ _ _ _=>gH) (λ _ _ _ _ _=>(sg K (vL tc.Wq) (aj iC (aj aci (pv 0) (aj aR af (pv 2))) af))))))),?_⟩;refine dH (σ':=[some (.int m),some (.int n),none]) rfl ?_
 nofun
 ·rename_i c1;have e0:m=0:=by simp_all
  refine aZ (lz (by simp)) λ p1 H1 n1 h1 s1=>?_;symm;refine kE (k:=n) h1 rfl (by exact bY ‹_› (by decide)) λ p H2 n2 h2 s2=>?_;refine k p H2 (s1.free n2) (s1.trans s2) ?_;rw[h2];have:List.replicate n (V.int 0)=nV (lG m n):=by refine Eq.symm ?_;refine List.eq_replicate_iff.mpr ⟨by rw[cV];unfold lG;simp,λ b hb=>?_⟩;unfold nV lG at hb;rw[jo]at hb;obtain⟨k,_,rfl⟩:=bF.mp hb;show V.int ((four (m/2^(4*k)%16):Nat):Int)=_;rw[e0,Nat.zero_div];rfl
  rw[this]
 ·refine zy (n:=n) λ D hD=>⟨λ i H'=>aq H H'/\H' D=some (.lst (nV (lG m i))),?_,?_,?_⟩
  ·intro H1 h1 s1;exact⟨s1,h1⟩
  ·rintro i H' hi ⟨sm,cE⟩;refine df (iA rfl ?_);symm;refine adg (by exact nQ _) ?_;symm;have e:Builtin.bitAnd ((m:Int)/2^(4*(0+(i:Int))).toNat) 15=((m/2^(4*i)%16:Nat):Int):=by
    have e1:(m:Int)/2^(4*(0+(i:Int))).toNat=((m/2^(4*i):Nat):Int):=by rw[show(4*(0+(i:Int))).toNat=4*i by lia,Int.natCast_ediv,wQ];rfl
    rw[e1,show(15:Int)=((15:Nat):Int)from rfl,aex,show(15:Nat)=2^4-1 from rfl,Nat.and_two_pow_sub_one_eq_mod]
   rw[e];refine B_ (tc.V9 H') (v:= .int (four (m/2^(4*i)%16):Nat)) (at_of rfl ?_) ?_
   ·show(nV [0,1,1,2,1,2,2,3,1,2,2,3,2,3,3,4])[m/2^(4*i)%16]?=_;exact lE.mpr ⟨_,XZ _ (Nat.mod_lt _ (by decide)),rfl⟩
   ·refine gM cE (by rw[cV,aL];unfold lG;rw[aV,iS];lia) λ H5 h5 b5=>⟨b5.same sm hD,?_⟩;rw[h5,<- xR];unfold lG;rw[nO,fw];rfl
  ·rintro H' ⟨sm,cE⟩;exact k D H' hD sm cE
noncomputable def yi (M:Nat->Nat) (w h:Nat):List Nat:=(List.range h).flatMap λ j=>(List.range w).map λ i=>yj M j i
theorem Yu(M:Nat->Nat)(w h:Nat):(yi M w h).length=h*w:=by
 unfold yi
 induction h with
 |zero=>simp
 |succ h ih=>rw[nO,rH,bq,ih,EZ];simp
inductive M3(c:Cs)(vs:List V)(H:Hp)(Q:VK)(E:XK):Prop
 |mk (bj va:Addr) (v:Vw) (ms:List Nat):vs=[.ref bj,.ref va]->H bj=some (.lst (nV ms))->ms.length=4*v.h->jx c H va v->v.Ok->(∀p H',H p=none->aq H H'->H' p=some (.lst (nV (yi (λ r=>ms.getD r 0) v.w v.h)))->Q (.ref p) H')->M3 c vs H Q E
abbrev Rf:=Kn P w K mg Ba "counted_pixels" ["covered","view"] 2 (M3 c)
set_option maxHeartbeats 1000000 in
def VC(g:aK mg)(tc:aW P w K mg c)(d:Df K mg "counted_pixels" (top 128) ["covered","view"])(EL:QK):Rf:=by
 refine d.ok ["covered","view","numbers","row","lines","k","a","b","c","d"] λ H Q E hr h nN=>?_;obtain⟨bj,va,v,ms,rfl,lN,m_,⟨dv,hv⟩,bA,k⟩:=h;have h2:=bA.h2;have w2:=bA.w2;unfold jV at hv;refine⟨_,(ag (au 2 nN (bo ae)) (ag (fJ (Yx rfl g.ju (aa af (aa (aH tc.cD tc.B2 (pv 1)) (aa (aX g.Bq) ae)))) (aT 3 nN) (ag (Nf (i:=4) rfl nN rfl rfl (NT rfl rfl rfl (by decide+kernel)) (ko rfl g.ju (aa (aX g.Bq) ae)) (fX [("k",5)]) (λ _ _ _ _ _=>(aT 5 nN)) (λ _ _ _ _ _=>gH) (λ _ _ _ _ _=>(pk EL hr (aa (ad1 K (pv 0) (aj aJ (pv 3) (pv 5))) (aa (aH tc.cD tc.Oz (pv 1)) ae))))) (ak (cB (nX (pv 2) (aa (i9 rfl nN (Hc rfl g.Ig (aa (bO (pv 4) af) (aa (bO (pv 4) af) (aa (bO (pv 4) af) (aa (bO (pv 4) af) ae))))) (fX [("a",6),("b",7),("c",8),("d",9)]) (λ _ _ _ _ _=>(BI (K:=K) (n:=4) rfl rfl (dm (aT 6 nN) (dm (aT 7 nN) (dm (aT 8 nN) (dm (aT 9 nN) mF)))))) (λ _ _ _ _ _=>gH) (λ _ _ _ _ _=>(aj aJ (aj aJ (aj aJ (pv 6) (pv 7)) (pv 8)) (pv 9)))) ae)))))) (ak (ay (pv 2))))),?_⟩;refine dH (σ':=[some (.ref bj),some (.ref va),none,none,none,none,none,none,none,none]) rfl ?_;symm;refine aZ (lz (by simp)) λ r H1 n1 h1 s1=>?_;have TM:=s1 _ _ hv;symm;refine aag (by exact bY ‹_› (by decide)) ?_;refine fc (λ i σ H'=>tS λ(v1 v2 v3 v4 v5 v6 v7:Option V)=>mf (σ=[some (.ref bj),some (.ref va),some (.ref r),v1,v2,v3,v4,v5,v6,v7]) (aq H H') (H' r=some (.lst (nV (yi (λ r=>ms.getD r 0) v.w i))))) ?_ ?_ ?_
 ·exact⟨none,none,none,none,none,none,none,rfl,s1,h1⟩
 ·rintro i σ H' hi ⟨v1,v2,v3,v4,v5,v6,v7,rfl,sm,aO⟩;have hv2:=sm _ _ hv;symm;refine zy (n:=4) λ D hD=>⟨λ k H2=>aq H' H2/\ ∃as,H2 D=some (.lst (rV as))/\as.length=k/\ ∀(j:Nat)(a:Addr),as[j]?=some a->a≠D/\H2 a=some (.lst (nV (lG (ms.getD (4*i+j) 0) v.w))),?_,?_,?_⟩
  ·intro H2 h2 s2;exact⟨s2,[],h2,rfl,λ j a h=>by simp at h⟩
  ·rintro kk H2 hk ⟨s2,as,l8,fK,iP⟩;have qc:ah K H2 bj (nV ms):=ah.of (s2 _ _ (sm _ _ lN));have hv3:=s2 _ _ hv2;refine df (iA rfl ?_);symm;refine bW qc (v:= .int (ms.getD (4*i+kk) 0:Nat)) (at_of (j:=4*i+kk) (by simp+arith) (lE.mpr ⟨ms.getD (4*i+kk) 0,by rw[jt,bI (by lia)];rfl,rfl⟩)) ?_;symm;refine⟨_,_,rfl,w2,λ p H3 n3 s3 h3=>?_⟩;have np:p≠D:=λ z=>by rw[z,l8]at n3;cases n3
   refine gM (s3 _ _ l8) (by rw[a_,aL];lia) λ H5 h5 b5=>⟨b5.same (s2.trans s3) hD,as++[p],by rw[h5,fF],by rw[bq,fK];rfl,λ j a hj=>?_⟩;by_cases c1:j<as.length
   ·rw[Lm c1]at hj;obtain⟨g1,g2⟩:=iP j a hj;exact⟨g1,b5 _ _ (s3 _ _ g2) g1⟩
   ·rw[Lo (by exact Nat.not_lt.mp ‹_›)]at hj;have:j=kk:=by
     have:=(bC.mp hj).1;simp at this
     grind
    subst this;rw[fK,EX]at hj;cases hj;exact⟨np,b5 _ _ h3 np⟩
  rintro H2 ⟨s2,as,l8,fK,iP⟩;obtain⟨a0,a1,a2,a3,rfl⟩: ∃a0 a1 a2 a3,as=[a0,a1,a2,a3]:=by
   match as,fK with
   |[a0,a1,a2,a3],_=>exact⟨a0,a1,a2,a3,rfl⟩
  have g0:=(iP 0 a0 rfl).2;have g1:=(iP 1 a1 rfl).2;have g2:=(iP 2 a2 rfl).2;have g3:=(iP 3 a3 rfl).2;have qD:ah K H2 D (rV [a0,a1,a2,a3]):=ah.of l8;have di:=s2 _ _ aO;symm;refine bW qD (v:= .ref a0) rfl ?_;symm;refine bW qD (v:= .ref a1) rfl ?_;symm;refine bW qD (v:= .ref a2) rfl ?_;symm;refine bW qD (v:= .ref a3) rfl ?_;symm;have fl: ∀m,(nV (lG m v.w)).length=v.w:=λ m=>by rw[cV];unfold lG;rw[aV,iS]
  have fg: ∀(m k:Nat)(x:V),(nV (lG m v.w))[k]?=some x->x= .int (four (m/2^(4*k)%16):Nat):=λ m k x hx=>by obtain⟨n,h1,rfl⟩:=lE.mp hx;obtain⟨_,rfl⟩:=kX.mp h1;rfl
  refine z4v (ah.of g0) (ah.of g1) (ah.of g2) (ah.of g3) ?_;refine aff (n:=v.w) (fl (ms.getD (4*i+0) 0)) (fl (ms.getD (4*i+1) 0)) (fl (ms.getD (4*i+2) 0)) (fl (ms.getD (4*i+3) 0)) λ L hL=>⟨λ k H3=>aq H2 H3/\H3 L=some (.lst (nV ((List.range k).map λ i'=>yj (λ r=>ms.getD r 0) i i'))),?_,?_,?_,?_⟩
  ·intro H3 h3 s3;exact⟨s3,h3⟩
  ·rintro kk H3 _ ⟨s3,_⟩;exact⟨ah.of (s3 _ _ g0),ah.of (s3 _ _ g1),ah.of (s3 _ _ g2),ah.of (s3 _ _ g3)⟩
  ·rintro kk x y z u H3 hx hy hz hu ⟨s3,h3⟩ T H4 nT hT s4;have ex:=fg _ _ _ hx;have ey:=fg _ _ _ hy;have ez:=fg _ _ _ hz;have eu:=fg _ _ _ hu;subst ex ey ez eu;have hkw:kk<v.w:=by have:=(bC.mp hx).1;rw[fl]at this;exact this
   refine mI (aP.of hT) rfl ?_;refine gV (df (gV (df (gV (df (gV (df (vb (iA rfl ?_)))))))));symm;refine gM (s4 _ _ h3) (by rw[cV,aV,iS,aL];lia) λ H5 h5 b5=>⟨b5.same (s3.trans s4) hL,?_⟩;rw[h5,nO,fw,vf]
   congr 3
  ·rintro H3 ⟨s3,h3⟩;symm;have hpx:=Yu (λ r=>ms.getD r 0) v.w i;have agi:i*v.w<=256*256:=Nat.mul_le_mul (by exact eh (dJ ‹_› ‹_›)) w2;refine jy (s3 _ _ di) h3 (by rw[cV,cV,aV,iS,hpx,aL];lia) λ H4 h4 b4=>?_;refine⟨_,_,_,_,_,_,_,rfl,b4.same ((sm.trans s2).trans s3) n1,?_⟩;rw[h4,<- vf];unfold yi;rw[nO,rH];simp
 ·rintro σ H' ⟨v1,v2,v3,v4,v5,v6,v7,rfl,sm,aO⟩;symm;exact k r H' n1 sm aO
end
inductive M1(c:Cs)(vs:List V)(H:Hp)(Q:VK)(E:XK):Prop
 |mk (bj ca pa va:Addr) (v:Vw) (ms:List Nat) (o:Kg15.Outline) (ib:List Int):vs=[.ref bj,.ref ca,.ref pa,.ref va]->H bj=some (.lst (nV ms))->ms.length=4*v.h->kG H ca o->o≠ []->Small o->Kg15.far o=false->H pa=some (.lst (iV ib))->ib.length<=1000->jx c H va v->v.Ok->(∀(lS:List Nat)H',lS.length=4*v.h->(∀r cc:Nat,r<4*v.h->cc<4*v.w->((lS.getD r 0).testBit cc=true↔(ms.getD r 0).testBit cc=true\/ ∃pos∈ib,jA v (pos,o.map polygon) r cc))->az (λ a=>a=bj) H H'->H' bj=some (.lst (nV lS))->Q .aG H')->M1 c vs H Q E
abbrev Rg:=Kn P w K mg Ba "cover" ["covered","contours","positions","view"] 4 (M1 c)
set_option maxHeartbeats 2000000 in
def Zy(g:aK mg)(tc:aW P w K mg c)(d:Df K mg "cover" (top 123) ["covered","contours","positions","view"])(t9:IB)(FU:Rc)(Hh:Rb):Rg:=by
 refine d.ok ["covered","contours","positions","view","least","most","shifts","reach","position","shift","columns","contour","point"] λ H Q E hr h nN=>?_;obtain⟨bj,ca,pa,va,v,ms,o,ib,rfl,lN,m_,ou,one,hZ,hf,tq,bz,⟨dv,hv⟩,bA,k⟩:=h;obtain⟨cs,gx,gf⟩:=id ou;have su:=bA.s2;unfold jV at hv;have RE:ah K H ca (rV cs):=ah.of gx;refine⟨_,(ag (au 4 nN (aj aR (aj aR af (aH tc.cD tc.xW (pv 3))) (fV (BR (K:=K) rfl rfl) rfl g.qh pj (aa (i9 rfl nN (c_ (pv 1)) (fX [("contour",11)]) (λ _ _ _ _ _=>(aT 11 nN)) (λ _ _ _ _ _=>gH) (λ _ _ _ _ _=>(fV (BR (K:=K) rfl rfl) rfl g.qh pj (aa (i9 rfl nN (Nk (K:=K) rfl (pv 11)) (fX [("point",12)]) (λ _ _ _ _ _=>(aT 12 nN)) (λ _ _ _ _ _=>gH) (λ _ _ _ _ _=>(sg K (pv 12) af))) ae)))) ae)))) (ag (au 5 nN (aj aR (aj aR af (aH tc.cD tc.xW (pv 3))) (fV (BS (K:=K) rfl rfl) rfl g.qj ph (aa (i9 rfl nN (c_ (pv 1)) (fX [("contour",11)]) (λ _ _ _ _ _=>(aT 11 nN)) (λ _ _ _ _ _=>gH) (λ _ _ _ _ _=>(fV (BS (K:=K) rfl rfl) rfl g.qj ph (aa (i9 rfl nN (Nk (K:=K) rfl (pv 11)) (fX [("point",12)]) (λ _ _ _ _ _=>(aT 12 nN)) (λ _ _ _ _ _=>gH) (λ _ _ _ _ _=>(sg K (pv 12) af))) ae)))) ae)))) (ag (au 6 nN (bo ae)) (ag (au 7 nN af) (ag (fJ (c_ (pv 2)) (aT 8 nN) (ag (au 9 nN (aj aJ (aH tc.cD tc.Pg (pv 3)) (aj aR (aj aR af (aH tc.cD tc.xW (pv 3))) (pv 8)))) (ag (au 10 nN (pk t9 hr (aa (pv 3) (aa (aj aJ (pv 4) (pv 9)) (aa (aj aJ (pv 5) (pv 9)) ae))))) (ak (aI (aB gZ (pv 10) af) (ag (cB (gU (pv 6) (aa (pv 9) ae))) (ak (jQ 7 nN (pv 10) Pn))) aM))))) (ak (aI (aB gZ (pv 7) af) (ak (cB (pk FU hr (aa (pv 0) (aa (pk Hh hr (aa (pv 1) (aa (pv 6) (aa (pv 3) ae)))) (aa (pv 6) (aa (pv 7) (aa (pv 3) ae)))))))) aM))))))),?_⟩;refine dH (σ':=[some (.ref bj),some (.ref ca),some (.ref pa),some (.ref va),none,none,none,none,none,none,none,none,none]) rfl ?_;symm;refine m6 (xs:=rV cs) λ DA hDA=>⟨λ i H'=>aq H H'/\ ∃xs:List Int,H' DA=some (.lst (iV xs))/\xs.length=i/\ ∀l∈o.take i,∃z∈xs,∀p∈l,z<=p.x,?_,?_,?_,?_⟩
 ·intro H1 h1 s1;exact⟨s1,[],h1,rfl,λ l z=>by simp at z⟩
 ·rintro i H' _ ⟨sm,_⟩;exact sm.seq RE
 ·rintro i x H' hx ⟨sm,xs,vU,zF,JQ⟩;obtain⟨la,jg,rfl⟩:=dc.mp hx;obtain⟨l,hl,jY,J9,jf⟩:=Paired.at gf jg;have oz:l∈o:=eG hl;have vR:=hZ.1 l oz;have afe:=Bk oz;have yW:aq H H':=sm;have ql:ah K H' la (rV jY):=ah.of (yW _ _ J9);refine df (iA rfl ?_);symm;refine m6 (xs:=rV jY) λ D2 l8=>⟨λ j H2=>aq H' H2/\H2 D2=some (.lst (iV ((l.take j).map λ p=>p.x))),?_,?_,?_,?_⟩
  ·intro H1 h1 s1;exact⟨s1,h1⟩
  ·rintro j H2 _ ⟨eQ,_⟩;exact eQ.seq ql
  ·rintro j y H2 hy ⟨eQ,h2⟩;obtain⟨ya,zB,rfl⟩:=dc.mp hy;obtain⟨q,hq,J6⟩:=Paired.at jf zB;have hjl:=(bC.mp hq).1;have IQ:H2 ya=_:=eQ _ _ (yW _ _ J6);have qT:aP K H2 ya _:=aP.of IQ;refine df (iA rfl ?_);symm;refine gM h2 (by rw[bG,aV,gC,aL];have:=hZ.2;lia) λ H5 h5 b5=>⟨b5.same eQ l8,?_⟩;rw[h5,cA,hq,fw,gK];rfl
  ·rintro H2 ⟨eQ,h2⟩;rw[a_,bw jf,jM]at h2;symm;refine HB h2 (λ z=>vR (AQ.mp z)) λ m mm ma=>?_;refine gM (eQ _ _ vU) (by rw[bG,aL,zF];have h1:=(bC.mp hl).1;have h2:=hZ.len;have h3:=hZ.2;lia) λ H5 h5 b5=>⟨b5.same (sm.trans eQ) hDA,xs++[m],by rw[h5,BN],by rw[bq,zF];rfl,λ l' iM=>?_⟩;rw[cA,hl]at iM;rcases bJ.mp iM with z|z
   ·obtain⟨w,w1,w2⟩:=JQ l' z;exact⟨w,eZ _ w1,w2⟩
   ·simp at z;subst z;exact⟨m,by simp,λ p hp=>ma _ (bF.mpr ⟨p,hp,rfl⟩)⟩
 rintro H1 ⟨s1,xsA,hxA,IL,RT⟩;rw[a_,bw gf]at IL;rw[a_,bw gf,jM]at RT;symm;refine HB hxA (λ z=>one (by rw[z]at IL;exact km.mp IL.symm)) λ mn mnm JK=>?_;have hmn: ∀l∈o,∀p∈l,mn<=p.x:=λ l hl p hp=>by obtain⟨z,z1,z2⟩:=RT l hl;have h1:=JK z z1;have h2:=z2 p hp;exact uh ‹_› ‹_›
 have hvA:=s1 _ _ hv;symm;have aeZ:ah K H1 ca (rV cs):=s1.seq RE;symm;refine m6 (xs:=rV cs) λ DB hDB=>⟨λ i H'=>aq H1 H'/\ ∃xs:List Int,H' DB=some (.lst (iV xs))/\xs.length=i/\ ∀l∈o.take i,∃z∈xs,∀p∈l,p.x<=z,?_,?_,?_,?_⟩
 ·intro H1 h1 s1;exact⟨s1,[],h1,rfl,λ l z=>by simp at z⟩
 ·rintro i H' _ ⟨sm,_⟩;exact sm.seq aeZ
 ·rintro i x H' hx ⟨sm,xs,vU,zF,JQ⟩;obtain⟨la,jg,rfl⟩:=dc.mp hx;obtain⟨l,hl,jY,J9,jf⟩:=Paired.at gf jg;have oz:l∈o:=eG hl;have vR:=hZ.1 l oz;have afe:=Bk oz;have yW:aq H H':=s1.trans sm;have ql:ah K H' la (rV jY):=ah.of (yW _ _ J9);refine df (iA rfl ?_);symm;refine m6 (xs:=rV jY) λ D2 l8=>⟨λ j H2=>aq H' H2/\H2 D2=some (.lst (iV ((l.take j).map λ p=>p.x))),?_,?_,?_,?_⟩
  ·intro H1 h1 s1;exact⟨s1,h1⟩
  ·rintro j H2 _ ⟨eQ,_⟩;exact eQ.seq ql
  ·rintro j y H2 hy ⟨eQ,h2⟩;obtain⟨ya,zB,rfl⟩:=dc.mp hy;obtain⟨q,hq,J6⟩:=Paired.at jf zB;have hjl:=(bC.mp hq).1;have IQ:H2 ya=_:=eQ _ _ (yW _ _ J6);have qT:aP K H2 ya _:=aP.of IQ;refine df (iA rfl ?_);symm;refine gM h2 (by rw[bG,aV,gC,aL];have:=hZ.2;lia) λ H5 h5 b5=>⟨b5.same eQ l8,?_⟩;rw[h5,cA,hq,fw,gK];rfl
  ·rintro H2 ⟨eQ,h2⟩;rw[a_,bw jf,jM]at h2;symm;refine HC h2 (λ z=>vR (AQ.mp z)) λ m mm ma=>?_;refine gM (eQ _ _ vU) (by rw[bG,aL,zF];have h1:=(bC.mp hl).1;have h2:=hZ.len;have h3:=hZ.2;lia) λ H5 h5 b5=>⟨b5.same (sm.trans eQ) hDB,xs++[m],by rw[h5,BN],by rw[bq,zF];rfl,λ l' iM=>?_⟩;rw[cA,hl]at iM;rcases bJ.mp iM with z|z
   ·obtain⟨w,w1,w2⟩:=JQ l' z;exact⟨w,eZ _ w1,w2⟩
   ·simp at z;subst z;exact⟨m,by simp,λ p hp=>ma _ (bF.mpr ⟨p,hp,rfl⟩)⟩
 rintro H2 ⟨s2,xsB,hxB,IK,RS⟩;rw[a_,bw gf]at IK;rw[a_,bw gf,jM]at RS;symm;refine HC hxB (λ z=>one (by rw[z]at IK;exact km.mp IK.symm)) λ mx mxm JI=>?_;have Kb: ∀l∈o,∀p∈l,p.x<=mx:=λ l hl p hp=>by obtain⟨z,z1,z2⟩:=RS l hl;have h1:=JI z z1;have h2:=z2 p hp;exact uh ‹_› ‹_›
 have hvB:=s2 _ _ hvA;symm;refine aZ (lz (by simp)) λ sa H3 n3 h3 s3=>?_;have qH:aq H H3:=(s1.trans s2).trans s3;have S7:ah K H pa (iV ib):=ah.of tq;have qp3:=qH.seq S7;have JB:H sa=none:=(s1.trans s2).free n3;symm;have box: ∀l∈o,∀p∈l,ip mn mx (-16777216) 16777216 (p.x,p.y):=λ l hl p hp=>by
  have h1:=OI hf hl hp;have h2:=hmn l hl p hp;have h3:=Kb l hl p hp;unfold ip;dsimp only
  lia
 refine L2.Rd.fl (xs:=iV ib) (λ i σ H'=>tS λ(cx:List Int)(reach:Nat)(v1 v2 v3 v4 v5:Option V)=>o_ (σ=[some (.ref bj),some (.ref ca),some (.ref pa),some (.ref va),some (.int (128*v.S*mn)),some (.int (128*v.S*mx)),some (.ref sa),some (.int reach),v1,v2,v3,v4,v5]) (aq H H') (H' sa=some (.lst (iV cx))) (cx.length<=i) (∀sh∈cx,∃pos∈ib.take i,sh=v.left+128*v.S*pos) (∀pos∈ib.take i,dG v (128*v.S*mn+(v.left+128*v.S*pos)) (128*v.S*mx+(v.left+128*v.S*pos))≠0->v.left+128*v.S*pos∈cx) (∀cc:Nat,reach.testBit cc=true↔∃sh∈cx,(dG v (128*v.S*mn+sh) (128*v.S*mx+sh)).testBit cc=true) (cx≠ []->reach≠0)) ?_ ?_ ?_ ?_
 ·exact⟨[],0,none,none,none,none,none,rfl,qH,h3,cP _,λ _ z=>(by cases z),λ _ z=>(by simp at z),λ cc=>(by simp),λ z=>absurd rfl z⟩
 ·rintro i σ H' _ ⟨cx,reach,v1,v2,v3,v4,v5,rfl,sm,_⟩;exact sm.seq S7
 ·rintro i x σ H' hx ⟨cx,reach,v1,v2,v3,v4,v5,rfl,sm,j1,TX,fA,fB,fC,fD⟩;obtain⟨pos,oA,rfl⟩:=mK.mp hx;have gr:=sm _ _ hv;have kO:=(bC.mp oA).1;have tk: ∀q,q∈ib.take (i+1)↔q∈ib.take i\/q=pos:=λ q=>by
   rw[cA,oA,bJ];simp
  symm;refine⟨va,v,_,_,rfl,⟨dv,gr⟩,bA,?_⟩;symm;generalize jZ:v.left+128*(v.S:Int)*pos=sh;by_cases c1:dG v (128*v.S*mn+sh) (128*v.S*mx+sh)=0
  ·rw[show decide (((dG v (128*v.S*mn+sh) (128*v.S*mx+sh):Nat):Int)=0)=true from cQ (by simp_all)];symm;refine⟨cx,reach,_,_,_,_,_,rfl,sm,j1,by exact mv ‹_›,λ s hs=>?_,λ q hq hc=>?_,fC,fD⟩
   ·obtain⟨q,q1,q2⟩:=fA s hs;exact⟨q,(tk q).mpr (.inl q1),q2⟩
   ·rcases(tk q).mp hq with z|z
    ·exact fB q z hc
    ·subst z;rw[jZ]at hc;exact absurd c1 hc
  ·rw[show decide (((dG v (128*v.S*mn+sh) (128*v.S*mx+sh):Nat):Int)=0)=false from cH (by simp_all)];symm;refine d8 j1 (by rw[bG,aL];lia) λ H4 h4 b4=>?_;symm;rw[Sh];refine⟨cx++[sh],_,_,_,_,_,_,rfl,b4.same sm JB,by rw[h4,BN],by rw[bq];simp;trivial,λ s hs=>?_,λ q hq hc=>?_,λ cc=>?_,λ _ z=>c1 ?_⟩
   ·rcases bJ.mp hs with z|z
    ·obtain⟨q,q1,q2⟩:=fA s z;exact⟨q,(tk q).mpr (.inl q1),q2⟩
    ·simp at z;exact⟨pos,(tk pos).mpr (.inr rfl),by rw[z,jZ]⟩
   ·rcases(tk q).mp hq with z|z
    ·exact eZ _ (fB q z hc)
    ·subst z;rw[jZ];simp
   ·rw[E4,Fb,fC];constructor
    ·rintro(⟨s,z1,z2⟩|z)
     ·exact⟨s,eZ _ z1,z2⟩
     ·exact⟨sh,by simp,z⟩
    ·rintro⟨s,z1,z2⟩;rcases bJ.mp z1 with y|y
     ·exact .inl ⟨s,y,z2⟩
     ·simp at y;subst y;exact .inr z2
   ·have:=gh (λ n=>n.testBit) z;apply Fu;intro cc;have h:=congrFun this cc;rw[E4,AD,Bool.or_eq_false_iff]at h;rw[h.2,AD]
 ·rintro σ H' ⟨cx,reach,v1,v2,v3,v4,v5,rfl,sm,j1,TX,fA,fB,fC,fD⟩;rw[bG,jM]at fA fB;have inc: ∀(r cc:Nat)(pos:Int),pos∈ib->cc<4*v.w->jA v (pos,o.map polygon) r cc->v.left+128*v.S*pos∈cx/\(dG v (128*v.S*mn+(v.left+128*v.S*pos)) (128*v.S*mx+(v.left+128*v.S*pos))).testBit cc=true:=λ r cc pos hp hc hg=>by
   have h1:=YV box hg;have h2:(dG v (128*v.S*mn+(v.left+128*v.S*pos)) (128*v.S*mx+(v.left+128*v.S*pos))).testBit cc=true:=(Gh bA).mpr ⟨hc,h1.1,h1.2⟩;exact⟨fB pos hp λ z=>by rw[z]at h2;simp at h2,h2⟩
  symm;by_cases c1:reach=0
  ·rw[show decide ((reach:Int)=0)=true from cQ (by simp_all)];symm;refine k ms H' m_ (λ r cc hr hc=>⟨.inl,λ z=>z.elim id λ⟨pos,p1,p2⟩=>?_⟩) (az.of sm) (sm _ _ lN);exact absurd c1 (fD λ z=>by have:=(inc r cc pos p1 hc p2).1;rw[z]at this;cases this)
  ·rw[show decide ((reach:Int)=0)=false from cH (by simp_all)];have sne:cx≠ []:=λ z=>c1 (by
    apply Fu;intro cc;rw[AD];cases e:reach.testBit cc with
    |false=>rfl
    |true=>
     obtain⟨s,s1,_⟩:=(fC cc).mp e;rw[z]at s1;cases s1)
   symm;refine⟨ca,sa,va,o,cx,v,rfl,ou.mono (dC.of sm),hZ,hf,j1,sne,⟨dv,sm _ _ hv⟩,bA,λ x H4 ρ N F s4 fr sw ok range=>?_⟩;symm;have nr: ∀a u,H' a=some u->ρ a=none:=λ a u h=>by
    cases e:ρ a with
    |none=>rfl
    |some t=>have:=fr a (by rw[e];simp);rw[h]at this;cases this
   have Qy:=sm _ _ lN;have cv: ∀(r cc:Nat)(pos:Int),r<4*v.h->cc<4*v.w->v.left+128*v.S*pos∈cx->(Mx.val (i6 v N F ⟨[],[],[]⟩ o) r (v.at cc-(v.left+128*v.S*pos))≠0↔jA v (pos,o.map polygon) r cc):=λ r cc pos hr hc hs=>
    aaZ bA hr (range _ hs cc hc).1 (range _ hs cc hc).2 hZ.1
   refine⟨bj,x,sa,reach,va,v,ms,cx,ρ,_,N,F,rfl,s4 _ _ Qy,m_,nr _ _ Qy,sw,ok,Nz o _ ⟨λ _ z=>(by cases z),λ _ z=>(by cases z)⟩,s4 _ _ j1,nr _ _ j1,(λ z=>by rw[z,lN]at JB;cases JB),⟨dv,s4 _ _ (sm _ _ hv)⟩,nr _ _ (sm _ _ hv),bA,range,λ r cc sh jZ hr hc IM=>?_,λ lS H5 jG bits sx hc5=>?_⟩
   ·obtain⟨pos,p1,rfl⟩:=fA sh jZ;exact(fC cc).mpr ⟨_,jZ,(inc r cc pos p1 hc ((cv r cc pos hr hc jZ).mp IM)).2⟩
   ·symm;refine k lS H5 jG (λ r cc hr hc=>?_) (λ b u hb hn=>sx _ _ (s4 _ _ (sm _ _ hb)) λ z=>z.elim (λ y=>y (nr _ _ (sm _ _ hb))) hn) hc5;rw[bits r cc hr hc];constructor
    ·rintro(z|⟨sh,z1,z2⟩)
     ·exact .inl z
     ·obtain⟨pos,p1,rfl⟩:=fA sh z1;exact .inr ⟨pos,p1,(cv r cc pos hr hc z1).mp z2⟩
    ·rintro(z|⟨pos,p1,p2⟩)
     ·exact .inl z
     ·have h1:=(inc r cc pos p1 hc p2).1;exact .inr ⟨_,h1,(cv r cc pos hr hc h1).mpr p2⟩
section
def O_(K:W.Frag):List V->Hp->VK->Prop:=λ vs H Q=>HE vs H Q\/ ∃p ys,vs=[.ref p]/\(ah K H p ys\/aP K H p ys)/\ ∀l,H l=none->Q (.ref l) (upd H l (.lst ys))
def ZU{X:Cx}(hc:X.calm=true):eP X (.type "list") (O_ X.K):=by
 intro pins s σ H xs us Q I r h;rcases h with h|h
 ·exact xN hc pins s σ H xs us Q I r h
 ·exact Xb pins s σ H xs us Q I r h
def Ii(H:Hp)(a:Addr)(ib:List Int):Prop:=H a=some (.lst (iV ib))\/ ∃kvs:List (Key×V),H a=some (.dK kvs)/\(kvs.map λ kv=>kV kv.1)=iV ib
section
variable{σ:St}{H:Hp}{Q:VK}{K:W.Frag}{a d:Addr}{ib:List Int}{od:Obj}{kvs:List (Key×V)}{td:TE}{R:It->Hp->Prop}{tb:TS}{nx:St->Hp->Prop}{rt:VK}{s:Nat}{k:Key}{v:V}
def abz(h:Ii H a ib)(q: ∀p H1,H p=none->H1 p=some (.lst (iV ib))->aq H H1->Q (.ref p) H1):O_ K [.ref a] H Q:=by
 rcases h with h|⟨kvs,h1,h2⟩
 ·exact .inr ⟨a,_,rfl,.inl (ah.of h),λ p hp=>q p _ hp br (eM hp _)⟩
 ·exact .inl ⟨a,kvs,rfl,h1,λ p hp=>q p _ hp (by rw[br,h2]) (eM hp _)⟩
def Sk(R:It->Hp->Prop)(x:V)(H1:Hp):Prop:=∃d o,x= .ref d/\((∃kvs,H1 d=some (.bM o (.dK kvs))/\R (Ac d o kvs) H1)\/ ∃kvs,H1 d=some (.bM o (.dT kvs))/\R (Jl d o kvs) H1)
def abG(q:td σ H λ x H1=>Sk R x H1):Qx td σ H R:=q
def afi(h:H d=some (.bM od (.dK kvs)))(q:R (Ac d od kvs) H):Sk R (.ref d) H:=⟨d,od,rfl,.inl ⟨kvs,h,q⟩⟩
def fk(Pv:Nat->St->Hp->Prop)(h0:Pv 0 σ H)(hl: ∀i σ H,i<=kvs.length->Pv i σ H->H d=some (.bM od (.dK kvs)))(hs: ∀i k v σ H,kvs[i]?=some (k,v)->Pv i σ H->tb (Ends.mk (Pv (i+1)) rt nx (Pv (i+1))) (σ.set s (some (kV k))) H)(hd: ∀σ H,Pv kvs.length σ H->nx σ H):FR (Ac d od kvs) (eJ s) tb nx rt σ H:=by
 refine⟨λ i m σ H=>m=kvs.length-i/\i<=kvs.length/\Pv i σ H,⟨kvs.length,by simp,cP _,h0⟩,?_⟩;rintro i m σ H ⟨rfl,hi,p⟩;have e:=hl i σ H hi p;by_cases cg:i<kvs.length
 ·refine .inr ⟨⟨e,cg⟩,Pv (i+1),λ σ' H' p'=>⟨kvs.length-(i+1),by grind,rfl,cg,p'⟩,λ x H' y=>?_⟩;obtain⟨rfl,k,v,h1,rfl⟩:=y;exact hs i k v σ H' h1 p
 ·refine .inl ⟨⟨e,by simp_all⟩,hd σ H ?_⟩;have:i=kvs.length:=by lia
  subst this;exact p
def adR(h:H a=some (.bM od (.dK kvs)))(e:aE kvs k=some v)(q:Q v H):Ae (.ref a) (kV k) H Q:=⟨a,v,rfl,.inl ⟨kvs,k,.inr ⟨od,h⟩,rfl,e.symm⟩,q⟩
end
local macro_rules|`(tactic|walk_at "1")=>`(tactic|with_reducible refine abG ?_)
def QD(H:Hp)(d:Addr)(ps:List (Nat×List Int)):Prop:=∃(kvs:List (Key×V)),mf (H d=some (.dK kvs)) ((kvs.map (·.1)).Nodup) (Paired (λ(kv:Key×V)(gp:Nat×List Int)=>kv.1= .inl (gp.1:Int)/\ ∃a,kv.2= .ref a/\a≠d/\Ii H a gp.2) kvs ps)
inductive BY(c:Cs)(vs:List V)(H:Hp)(Q:VK)(E:XK):Prop
 |mk (fa d va:Addr) (f:Kg15.Font) (ps:List (Nat×List Int)) (v:Vw):vs=[.ref fa,.ref d,.ref va]->d0 c H fa f->QD H d ps->jx c H va v->v.Ok->(∀gp∈ps,gp.1<f.glyphs/\gp.2.length<=1000)->((∀gp∈ps,f.outline 8 gp.1≠none)-> ∀p H' L,aq H H'->H p=none->H' p=some (.lst (nV L))->(∀gs,(∀r cc,sH f v ps r cc↔∃g∈gs,jA v g r cc)->L=picture v.U v.S v.w v.h v.x0 v.y0 gs)->Q (.ref p) H')->((∃gp∈ps,f.outline 8 gp.1=none)-> ∀H',az (λ a=>a=d) H H'->E (.ref c.NotWellTold) none H')->BY c vs H Q E
def MF{f:Kg15.Font}{v:Vw}{ps:List (Nat×List Int)}{i:Nat}{gp:Nat×List Int}{o:Kg15.Outline}{r cc:Nat}(h:ps[i]?=some gp)(ho:f.outline 8 gp.1=some o):sH f v (ps.take (i+1)) r cc↔sH f v (ps.take i) r cc\/ ∃aY∈gp.2,jA v (aY,o.map polygon) r cc:=by
 unfold sH;rw[cA,h];constructor
 ·rintro⟨g,h1,aY,h2,o',h3,h4⟩;rcases bJ.mp h1 with z|z
  ·exact .inl ⟨g,z,aY,h2,o',h3,h4⟩
  ·simp at z;subst z;rw[ho]at h3;cases h3;exact .inr ⟨aY,h2,h4⟩
 ·rintro(⟨g,h1,h2⟩|⟨aY,h1,h2⟩)
  ·exact⟨g,eZ _ h1,h2⟩
  ·exact⟨gp,by simp,aY,h1,o,ho,h2⟩
set_option maxHeartbeats 1000000 in
def WZ(g:aK mg)(tc:aW P w K mg c)(d:Df K mg "pixels_of" (top 122) ["font","placed","view"]){kd:Nat}(Up:4<=kd)(uE:cn P w K mg Ba c.NotWellTold "outline_of" ["font","glyph"] kd (ye c))(Hi:Rg)(Er:Rf):cn P w K mg Ba c.NotWellTold "pixels_of" ["font","placed","view"] (kd+1) (BY c):=by
 refine d.ef ["font","placed","view","covered","glyph","contours"] λ H Q E hr h nN=>?_;obtain⟨fa,d,va,f,ps,v,rfl,F,⟨kvs,hd,cX,lX⟩,⟨dv,hv⟩,bA,zP,k1,k2⟩:=h;have h2:=bA.h2;unfold jV at hv;refine⟨_,(ag (au 3 nN (aj rT (bo (aa af ae)) (aH tc.cD tc.B2 (pv 2)))) (ag (aas (sU n_ (aau (pv 1)) (aT 4 nN) (ag (au 5 nN (fP uE b_ hr (aa (pv 0) (aa (pv 4) ae)))) (ak (aI (aB dO (bX bZ g.bS (aa (pv 5) ae)) af) (ak (cB (pk Hi hr (aa (pv 3) (aa (pv 5) (aa (xC (ZU rfl) rfl g.vi boot_list (aa (gk (cR hr) (pv 1) (pv 4) (λ _ _=>rfl)) ae)) (aa (pv 2) ae))))))) aM))))) (ak (ay (pk Er hr (aa (pv 3) (aa (pv 2) ae))))))),?_⟩;refine dH (σ':=[some (.ref fa),some (.ref d),some (.ref va),none,none,none]) rfl ?_;symm;refine aZ (lz (by simp)) λ p1 H1 n1 h1 s1=>?_;have TM:=s1 _ _ hv;symm;refine kE (k:=4*v.h) h1 (by rfl) (by lia) λ bj H2 n2 h2 s2=>?_;symm;have eQ:aq H H2:=s1.trans s2;refine lkD (eQ _ _ hd) λ od H3 h3 b3=>?_;symm;have IH:H bj=none:=s1.free n2;have JD:bj≠d:=λ z=>by rw[z,hd]at IH;cases IH
 have nvd:va≠d:=λ z=>by rw[z,hd]at hv;cases hv
 have er:List.replicate (4*v.h) (V.int 0)=nV (List.replicate (4*v.h) 0):=by unfold nV;rw[Fm];rfl
 rw[er]at h2;refine afi h3 ?_;refine fk (λ i σ H'=>o8 λ(bT:List Nat)(v1 v2:Option V)=>wF (σ=[some (.ref fa),some (.ref d),some (.ref va),some (.ref bj),v1,v2]) (az (λ a=>a=d) H H') (H' d=some (.bM od (.dK kvs))) (H' bj=some (.lst (nV bT))) (bT.length=4*v.h) (∀r cc:Nat,r<4*v.h->cc<4*v.w->((bT.getD r 0).testBit cc=true↔sH f v (ps.take i) r cc)) (∀gp∈ps.take i,f.outline 8 gp.1≠none)) ?_ ?_ ?_ ?_
 ·refine⟨_,none,none,rfl,λ b o h n=>b3 _ _ (eQ _ _ h) n,h3,b3 _ _ h2 JD,eI,λ r cc hr hc=>?_,λ gp z=>by simp at z⟩;rw[jt,FE,ao hr];constructor
  ·intro z;simp at z
  ·rintro⟨gp,z,_⟩;simp at z
 ·rintro i σ H' _ ⟨bT,v1,v2,rfl,sx,tH,_⟩;exact tH
 ·rintro i k v' σ H' gb ⟨bT,v1,v2,rfl,sx,tH,DP,m_,hb,ax⟩;obtain⟨gp,fQ,e1,a,e2,JE,oA⟩:=Paired.at lX gb;dsimp only at e1 e2;subst e1 e2;have IX:gp∈ps:=eG fQ;have hvl:aE kvs (.inl (gp.1:Int))=some (.ref a):=xG cX (eG gb);have tk: ∀q,q∈ps.take (i+1)↔q∈ps.take i\/q=gp:=λ q=>by
   rw[cA,fQ,bJ];simp
  symm;refine⟨fa,gp.1,f,rfl,F.dk sx hd,(zP gp IX).1,λ o ho r H4 s4 ou=>?_,λ dQ H4 s4=>k2 ⟨gp,IX,dQ⟩ H4 (sx.add s4)⟩;obtain⟨cs,DC,gf⟩:=id ou;have qr:ah K H4 r (rV cs):=ah.of DC;have Um:=bw gf;have yD: ∀q∈ps.take (i+1),f.outline 8 q.1≠none:=λ q hq=>by
   rcases(tk q).mp hq with z|z
   ·exact ax q z
   ·rw[z,ho];simp
  nofun
  ·rename_i c1;refine adR (k:= .inl (gp.1:Int)) (s4 _ _ tH) hvl ?_;symm;have aei:Ii H4 a gp.2:=by
    rcases oA with z|⟨Dn,z1,z2⟩
    ·exact .inl (s4 _ _ (sx _ _ z JE))
    ·exact .inr ⟨Dn,s4 _ _ (sx _ _ z1 JE),z2⟩
   refine abz aei λ pl H5 n5 h5 s5=>?_;symm;refine⟨bj,r,pl,va,v,bT,o,gp.2,rfl,s5 _ _ (s4 _ _ DP),m_,ou.mono (dC.of s5),(λ z=>by rw[z]at Um;have h0:cs.length=0:=Um;simp_all),Ah f 8 _ o ho,Ow f 8 _ o ho,h5,(zP gp IX).2,⟨dv,s5 _ _ (s4 _ _ (sx _ _ hv nvd))⟩,bA,λ lS H6 hl6 hb6 jB hc6=>?_⟩;symm;refine⟨lS,_,_,rfl,λ b u h n=>jB _ _ (s5 _ _ (s4 _ _ (sx _ _ h n))) λ z=>?_,jB _ _ (s5 _ _ (s4 _ _ tH)) λ z=>JD z.symm,hc6,hl6,λ r' cc hr hc=>?_,yD⟩
   ·rw[z,IH]at h;cases h
   ·rw[hb6 r' cc hr hc,hb r' cc hr hc,MF fQ ho]
  ·rename_i c1;have eo:o=[]:=km.mp (by simp_all);refine⟨bT,_,_,rfl,sx.add s4,s4 _ _ tH,s4 _ _ DP,m_,λ r' cc hr hc=>?_,yD⟩;rw[hb r' cc hr hc,MF fQ ho];refine⟨.inl,λ z=>z.elim id λ⟨aY,_,y⟩=>?_⟩;rw[eo]at y;exact absurd rfl y
 ·rintro σ H' ⟨bT,v1,v2,rfl,sx,tH,DP,m_,hb,ax⟩;rw[bw lX,jM]at hb ax;refine⟨tH,?_⟩;have hB:bh d H' (upd H' d (.dK kvs)):=bh.upd _;have hD:(upd H' d (.dK kvs)) d=some (.dK kvs):=br;generalize upd H' d (.dK kvs)=H7 at hB hD⊢;have vH:aq H H7:=λ b o h=>by
   by_cases z:b=d
   ·rw[z,hd]at h;cases h;rw[z];exact hD
   ·exact hB _ _ (sx _ _ h z) z
  symm;refine⟨bj,va,v,bT,rfl,hB _ _ DP JD,m_,⟨dv,vH _ _ hv⟩,bA,λ p H8 n8 s8 h8=>?_⟩;exact k1 ax p H8 _ (vH.trans s8) (vH.free n8) h8 λ gs hgs=>acb λ r cc hr hc=>(hb r cc hr hc).trans (hgs r cc)
end
def An(H:Hp)(Q:VK)(l:List Int):Prop:=∀r H',H r=none->aq H H'->H' r=some (.lst (iV l))->Q (.ref r) H'
noncomputable def qC (a:Ans):List Int:=a.value::a.out
inductive GH(c:Cs)(vs:List V)(H:Hp)(Q:VK)(E:XK):Prop
 |mk (x dx:Addr):vs=[.ref x]->H x=some (.ins c.Holder dx [])->(∀H',H' x=some (.ins c.Holder dx [("font",.aG)])->bh x H H'->Q .aG H')->GH c vs H Q E
abbrev Su:=nF P w K mg Ba "Holder" c.Holder ["self"] 1 (GH c)
def Wh(tc:aW P w K mg c)(d:nI K mg "Holder" c.Holder "Holder.__init__" (inClass (top 147) 0) ["self"]):Su:=by refine d.ok ["self"] λ H Q E hr h nN=>?_;obtain⟨x,dx,rfl,hx,k⟩:=h;refine⟨_,(ak (cj tc.rM tc.rW (pv 0) xV)),?_⟩;symm;exact cb (fs':=[("font",.aG)]) hx rfl (by simp) λ H1 f1 b1=>k H1 f1 b1
def ZR{xs:List V}{i:Int}{m:Nat}(ei:i=(m:Int)):jT xs none (some i)=xs.take m:=by
 subst ei;unfold jT;rw[HT.BF];show(xs.drop 0).take (min m xs.length-0)=_;rw[ur,Nat.sub_zero];by_cases h1:m<=xs.length
 ·rw[rj h1]
 ·rw[Fd (by lia),fE (aQ _),fE (by lia)]
inductive N5(vs:List V)(H:Hp)(Q:VK)(E:XK):Prop
 |mk (a:Addr) (s w h x y:Int):vs=[.ref a]->H a=some (.lst (iV [s,w,h,x,y]))->(∀H',aq H H'->Q (.bl (drawable s w h x y)) H')->N5 vs H Q E
abbrev Jj:=Kn P w K mg Ba "measures_are_good" ["measures"] 1 N5
def Ve(g:aK mg)(d:Df K mg "measures_are_good" (top 157) ["measures"]):Jj:=by
 refine d.ok ["measures","measure","origin"] λ H Q E hr h nN=>?_;obtain⟨a,sz,wd,ht,x,y,rfl,ha,k⟩:=h;have qa:ah K H a (iV [sz,wd,ht,x,y]):=ah.of ha;have no: ∀H',aq H H'-> ¬(1<=sz/\sz<=256/\1<=wd/\wd<=256/\1<=ht/\ht<=256/\ -4096<=x/\x<=4096/\ -4096<=y/\y<=4096)->Q (.bl false) H':=λ H' s h=>by have:=k H' s;unfold drawable at this;rw[cH h]at this;exact this
 refine⟨_,(ag (fJ (c_ (mC mE (pv 0) BH (iz af))) (aT 1 nN) (ak (aI (iB (Bx d9 d9 af (pv 1) (aX g.VG))) (ak (ay gY)) aM))) (ag (fJ (c_ (mC mE (pv 0) (iz af) BH)) (aT 2 nN) (ak (aI (iB (Bx d9 d9 (fe fL (aX g.K0)) (pv 2) (aX g.K0))) (ak (ay gY)) aM))) (ak (ay gY)))),?_⟩;refine dH (σ':=[some (.ref a),none,none]) rfl ?_;symm;refine pV qa λ p1 H1 n1 h1 s1=>?_;rw[ZR (i:=3) (m:=3) rfl]at h1
 change H1 p1=some (.lst (iV [sz,wd,ht]))at h1
 have q1:ah K H1 p1 (iV [sz,wd,ht]):=ah.of h1;symm;refine L2.Rd.fl (xs:=iV [sz,wd,ht]) (λ i σ H'=>H1=H'/\ ∃v1,σ=[some (.ref a),v1,none]/\ ∀z∈[sz,wd,ht].take i,1<=z/\z<=256) ?_ ?_ ?_ ?_
 ·exact⟨rfl,none,rfl,λ z hz=>by simp at hz⟩
 ·rintro i σ H' _ ⟨rfl,_⟩;exact q1
 ·rintro i v σ H' hv ⟨rfl,v1,rfl,hb⟩;obtain⟨z,hz,rfl⟩:=mK.mp hv;have zm:z=sz\/z=wd\/z=ht:=by have:=eG hz;simpa using this
  nofun
  all_goals first
   |(refine no H1 s1 ?_;omega)
   |(refine⟨rfl,_,rfl,λ u hu=>?_⟩
     rw[cA,hz]at hu;rcases bJ.mp hu with e|e
     ·exact hb u e
     ·simp at e;subst e;trivial)
 ·rintro σ H' ⟨rfl,v1,rfl,hb⟩;have b1:=hb sz (by simp[bG]);have b2:=hb wd (by simp[bG]);have b3:=hb ht (by simp[bG]);have Jy:=s1.seq qa;symm;refine pV Jy λ p2 H2 n2 h2 s2=>?_;rw[GY (i:=3) (m:=3) rfl]at h2
  change H2 p2=some (.lst (iV [x,y]))at h2
  have q2:ah K H2 p2 (iV [x,y]):=ah.of h2;symm;refine L2.Rd.fl (xs:=iV [x,y]) (λ i σ H'=>H2=H'/\wC λ v1 v2=>σ=[some (.ref a),v1,v2]/\ ∀z∈[x,y].take i, -4096<=z/\z<=4096) ?_ ?_ ?_ ?_
  ·exact⟨rfl,_,_,rfl,λ z hz=>by simp at hz⟩
  ·rintro i σ H' _ ⟨rfl,_⟩;exact q2
  ·rintro i v σ H' hv ⟨rfl,v1,v2,rfl,cY⟩;obtain⟨z,hz,rfl⟩:=mK.mp hv;have zm:z=x\/z=y:=by have:=eG hz;simpa using this
   nofun
   all_goals first
    |(refine no H2 (s1.trans s2) ?_;omega)
    |(refine⟨rfl,_,_,rfl,λ u hu=>?_⟩
      rw[cA,hz]at hu;rcases bJ.mp hu with e|e
      ·exact cY u e
      ·simp at e;subst e;trivial)
  ·rintro σ H' ⟨rfl,v1,v2,rfl,cY⟩;have b4:=cY x (by simp[bG]);have b5:=cY y (by simp[bG]);symm;have:=k H2 (s1.trans s2);unfold drawable at this;rw[cQ (by simp_all)]at this;exact this
inductive NY(c:Cs)(vs:List V)(H:Hp)(Q:VK)(E:XK):Prop
 |mk (fa a:Addr) (f:Kg15.Font) (s w h x y:Int):vs=[.ref fa,.ref a]->d0 c H fa f->H a=some (.lst (iV [s,w,h,x,y]))->drawable s w h x y=true->(∀v H',H v=none->aq H H'->jx c H' v ⟨f.units,s.toNat,w.toNat,h.toNat,x,y⟩->Q (.ref v) H')->NY c vs H Q E
abbrev IC:=Kn P w K mg Ba "view_of" ["font","measures"] 3 (NY c)
def Z4{H:Hp}{Q:VK}{v:Vw}(ok:v.Ok)(q: ∀x H1,H x=none->aq H H1->jx c H1 x v->Q (.ref x) H1):oZ c.View (GB c) [.int v.U,.int v.S,.int v.w,.int v.h,.int v.x0,.int v.y0] H Q:=λ x dx hx iO ne=>
 ⟨x,dx,v,rfl,ok,br,λ H' g1 b'=>⟨rfl,q x H' hx (aq.made hx iO b') ⟨dx,g1⟩⟩⟩
def G1{f:Kg15.Font}(G:Good f){s w h x y:Int}(d:drawable s w h x y=true):Vw.Ok ⟨f.units,s.toNat,w.toNat,h.toNat,x,y⟩:=by have:=dY d;have u:=G.un;exact⟨u.1,u.2,by show 1<=s.toNat;omega,by show s.toNat<=256;simp_all,by show 1<=w.toNat;omega,by show w.toNat<=256;simp_all,by show 1<=h.toNat;omega,by show h.toNat<=256;simp_all,this.2.2.2.2.2.2.1,this.2.2.2.2.2.2.2.1,this.2.2.2.2.2.2.2.2.1,this.2.2.2.2.2.2.2.2.2⟩
def XO(g:aK mg)(tc:aW P w K mg c)(d:Df K mg "view_of" (top 158) ["font","measures"])(HL:Rh):IC:=by
 refine d.ok ["font","measures"] λ H Q E hr h nN=>?_;obtain⟨fa,a,f,sz,wd,ht,x,y,rfl,F,ha,dr,k⟩:=h;have qa:ah K H a (iV [sz,wd,ht,x,y]):=ah.of ha;obtain⟨⟨dx,hh,pp,yy,mm,hf,_⟩,G⟩:=id F;unfold jk at hf;have d1:=dY dr;refine⟨_,(ak (ay (mY HL hr (aa (aH tc.e9 tc.Hd (pv 0)) (aa (bO (pv 1) af) (aa (bO (pv 1) af) (aa (bO (pv 1) af) (aa (bO (pv 1) af) (aa (bO (pv 1) af) ae))))))))),?_⟩;symm;refine bW qa (v:= .int sz) rfl ?_;symm;refine bW qa (v:= .int wd) rfl ?_;symm;refine bW qa (v:= .int ht) rfl ?_;symm;refine bW qa (v:= .int x) rfl ?_;symm;refine bW qa (v:= .int y) rfl ?_;symm;have e1:sz=((sz.toNat:Nat):Int):=by lia
 have e2:wd=((wd.toNat:Nat):Int):=by lia
 have e3:ht=((ht.toNat:Nat):Int):=by lia
 have key:=Z4 (H:=H) (Q:=Q) (G1 G dr) k;dsimp only at key;rw[<- e1,<- e2,<- e3]at key;exact key
def aam{σ:St}{H:Hp}{Q:VK}{i:Nat}{k:Int}{z:V}(h:σ[i]?=some (some (.int k)))(q: ∀p l H1,H p=none->H l=none->l≠p->H1 p=some (.dK [(.inl k,.ref l)])->H1 l=some (.lst [z])->aq H H1->Q (.ref p) H1):P1 [(fH i,sC (i7 (tC z) jc))] σ H Q:=by
 intro p hp;refine⟨_,h,lz (by simp),λ l hl=>?_⟩;have vP:l≠p:=λ e=>by rw[e,br]at hl;cases hl
 refine⟨by rw[bb (λ e=>vP e.symm),br],[(.inl k,.ref l)],rfl,by simp,?_⟩;have zL:H l=none:=by rw[bb vP]at hl;exact hl
 refine q p l _ hp zL vP br (by rw[bb vP,br]) λ b o e=>?_;rw[bb (cC e hp),bb (cC e zL),bb (cC e hp)];exact e
noncomputable def oL (f:Kg15.Font) (g most:Int):Option (List Int):=if g<0\/f.glyphs<=g\/most<0 then some [-8]else match f.outline 8 g.toNat with
 |none=>none
 |some o=>some (if most<(told o).length then [-7]else((told o).length:Int)::told o)
noncomputable def CJ (f:Kg15.Font) (s w h x y:Int) (gs:List (Int×List (List Corner))):List Int:=(picture f.units s.toNat w.toNat h.toNat x y gs).map λ(n:Nat)=>(n:Int)
noncomputable def dL (f:Kg15.Font) (g s w h x y:Int):Option (List Int):=if g<0\/f.glyphs<=g\/drawable s w h x y=false then some [-8]else match f.outline 8 g.toNat with
 |none=>none
 |some o=>some ((f.advance g.toNat:Int)::CJ f s w h x y [(0,o.map polygon)])
noncomputable def tL (f:Kg15.Font) (t:List Nat) (s w h x y:Int):Option (List Int):=if drawable s w h x y=false then some [-8]else match Kg15.set f 0 t with
 |none=>none
 |some (gs,aY)=>some (aY::CJ f s w h x y gs)
def acM(f:Kg15.Font)(g most:Int):qC (does (some f) (.outline g most)).2=(oL f g most).getD [-1]:=by
 unfold oL;show qC (if g<0\/f.glyphs<=g\/most<0 then num (-8)else match f.outline 8 g.toNat with
  |none=>num (-1)
  |some o=>if most<(told o).length then num (-7)else⟨(told o).length,told o⟩)=_
 split
 ·rfl
 ·cases f.outline 8 g.toNat with
  |none=>rfl
  |some o=>dsimp only;split<;>rfl
def acO(f:Kg15.Font)(g s w h x y:Int):qC (does (some f) (.draw g s w h x y)).2=(dL f g s w h x y).getD [-1]:=by
 unfold dL;show qC (if g<0\/f.glyphs<=g\/drawable s w h x y=false then num (-8)else match f.outline 8 g.toNat with
  |none=>num (-1)
  |some o=>drawn f s w h x y [(0,o.map polygon)] (f.advance g.toNat))=_
 split
 ·rfl
 ·cases f.outline 8 g.toNat<;>rfl
def acL(f:Kg15.Font)(t:List Nat)(s w h x y:Int):qC (does (some f) (.text (some t) s w h x y)).2=(tL f t s w h x y).getD [-1]:=by
 unfold tL;show qC (if drawable s w h x y=false then num (-8)else match Kg15.set f 0 t with
  |none=>num (-1)
  |some (gs,aY)=>drawn f s w h x y gs aY)=_
 split
 ·rfl
 ·cases Kg15.set f 0 t<;>rfl
noncomputable def mL (f:Kg15.Font) (g:Int):List Int:=if g<0\/f.glyphs<=g then [-8]else [(f.units:Int),(f.advance g.toNat:Nat),f.bearing g.toNat]++qg f g.toNat
def acN(f:Kg15.Font)(g:Int):qC (does (some f) (.metrics g)).2=mL f g:=by
 unfold mL;show qC (if g<0\/f.glyphs<=g then num (-8)else
   ⟨f.units,[(f.advance g.toNat:Int),f.bearing g.toNat]++(if(f.data g.toNat).length<10 then [0,0,0,0]else [i16 (f.data g.toNat) 2,i16 (f.data g.toNat) 4,i16 (f.data g.toNat) 6,i16 (f.data g.toNat) 8])⟩)=_
 split
 ·rfl
 ·unfold qg;rfl
def sN(c:Cs)(H:Hp)(Q:VK)(E:XK)(o:Option (List Int)):Prop:=(∀l,o=some l->An H Q l)/\(o=none-> ∀H',aq H H'->E (.ref c.NotWellTold) none H')
inductive Qe(c:Cs)(vs:List V)(H:Hp)(Q:VK)(E:XK):Prop
 |mk (fa:Addr) (f:Kg15.Font) (g:Int):vs=[.ref fa,.int g]->d0 c H fa f->An H Q (mL f g)->Qe c vs H Q E
abbrev So:=Kn P w K mg Ba "answer_metrics" ["font","glyph"] 5 (Qe c)
def VF(g:aK mg)(tc:aW P w K mg c)(d:Df K mg "answer_metrics" (top 153) ["font","glyph"])(iW:vt)(FQ:Kn P w K mg Ba "metrics_of" ["font","glyph"] 4 (yf c λ f g=>[(f.units:Int),(f.advance g:Nat),f.bearing g]++qg f g)):So:=by
 refine d.ok ["font","glyph"] λ H Q E hr h nN=>?_;obtain⟨fa,f,gl,rfl,F,k⟩:=h;refine⟨_,(ag (aI (iB (gJ (pk iW hr (aa (pv 0) (aa (pv 1) ae))))) (ak (ay (bo (aa (aX g.wI) ae)))) aM) (ak (ay (pk FQ hr (aa (pv 0) (aa (pv 1) ae)))))),?_⟩;symm;refine⟨fa,gl,f,rfl,F,?_⟩;unfold mL at k
 nofun
 ·rename_i c1;refine aZ (lz (by simp)) λ r H1 n1 h1 s1=>?_;rw[ao (by lia)]at k;exact k r H1 n1 s1 h1
 ·rename_i c1;rw[ai (by simp_all)]at k;have eg:gl=((gl.toNat:Nat):Int):=by lia
  exact⟨fa,gl.toNat,f,by rw[<- eg],F,by lia,k⟩
inductive HW(c:Cs)(vs:List V)(H:Hp)(Q:VK)(E:XK):Prop
 |mk (fa:Addr) (f:Kg15.Font) (g m:Int):vs=[.ref fa,.int g,.int m]->d0 c H fa f->sN c H Q E (oL f g m)->HW c vs H Q E
def VE(g:aK mg)(tc:aW P w K mg c)(d:Df K mg "answer_outline" (top 154) ["font","glyph","most"]){kd:Nat}(h1:2<=kd)(iW:vt)(uE:cn P w K mg Ba c.NotWellTold "outline_of" ["font","glyph"] kd (ye c))(En:Ri):cn P w K mg Ba c.NotWellTold "answer_outline" ["font","glyph","most"] (kd+1) (HW c):=by
 refine d.ef ["font","glyph","most","numbers"] λ H Q E hr h nN=>?_;obtain⟨fa,f,gl,m,rfl,F,k1,k2⟩:=h;refine⟨_,(ag (aI (PW.pt (gX (iB (gJ (pk iW hr (aa (pv 0) (aa (pv 1) ae))))) (jv (aB cW (pv 2) af)))) (ak (ay (bo (aa (aX g.wI) ae)))) aM) (ag (au 3 nN (pk En hr (aa (fP uE b_ hr (aa (pv 0) (aa (pv 1) ae))) ae))) (ag (aI (aB dO (bX bZ g.bS (aa (pv 3) ae)) (pv 2)) (ak (ay (bo (aa (aX g.Vv) ae)))) aM) (ak (ay (aj og (bo (aa (bX bZ g.bS (aa (pv 3) ae)) ae)) (pv 3))))))),?_⟩;refine dH (σ':=[some (.ref fa),some (.int gl),some (.int m),none]) rfl ?_;unfold oL at k1 k2;symm;refine⟨fa,gl,f,rfl,F,?_⟩
 nofun
 ·rename_i c1;refine aZ (lz (by simp)) λ r H1 n1 h1 s1=>?_;rw[ao (by lia)]at k1;exact k1 _ rfl r H1 n1 s1 h1
 ·rename_i c1 c2;refine aZ (lz (by simp)) λ r H1 n1 h1 s1=>?_;rw[ao (by simp_all)]at k1;exact k1 _ rfl r H1 n1 s1 h1
 ·rename_i c1 c2;rw[ai (by simp_all)]at k1 k2;have eg:gl=((gl.toNat:Nat):Int):=by lia
  refine⟨fa,gl.toNat,f,by rw[<- eg],F,by lia,λ o ho r H1 s1 ou=>?_,λ dQ H1 s1=>k2 (by rw[dQ]) H1 s1⟩;rw[ho]at k1;have sm:=Ah f 8 _ o ho;have sl:=sm.len;symm;refine⟨r,o,rfl,ou,by have:=sm.2;lia,λ p H2 n2 s2 h2=>?_⟩;have q2:ah K H2 p (iV (told o)):=ah.of h2;have tl:=Bt o;dsimp only at k1
  nofun
  ·rename_i c3;refine aZ (lz (by simp)) λ r H3 n3 h3 s3=>?_;exact k1 [-7] (by rw[ao (by trivial)]) r H3 (s1.free (s2.free n3)) ((s1.trans s2).trans s3) h3
  ·rename_i c3;refine aZ (lz (by simp)) λ r H3 n3 h3 s3=>?_;symm;refine ow h3 (s3 _ _ h2) (by rw[bG,aL];have:=sm.2;simp;lia) λ r4 H4 n4 h4 s4=>?_;exact k1 (((told o).length:Int)::told o) (by rw[ai (by trivial)]) r4 H4 (s1.free (s2.free (s3.free n4))) (((s1.trans s2).trans s3).trans s4) h4
inductive HX(c:Cs)(vs:List V)(H:Hp)(Q:VK)(E:XK):Prop
 |mk (fa ma:Addr) (f:Kg15.Font) (g s w h x y:Int):vs=[.ref fa,.int g,.ref ma]->d0 c H fa f->H ma=some (.lst (iV [s,w,h,x,y]))->sN c H Q E (dL f g s w h x y)->HX c vs H Q E
theorem ZM(F:Nat->Nat->Nat)(w:Nat): ∀n:Nat,((List.range n).flatMap λ(j:Nat)=>(List.range w).map λ(i:Nat)=>F j i).length=n*w:=by
 intro n
 induction n with
 |zero=>simp
 |succ n ih=>rw[nO,rH,bq,ih,EZ];simp
def Oq(f:Kg15.Font){s w h x y:Int}(gs:List (Int×List (List Corner)))(d:drawable s w h x y=true):(picture f.units s.toNat w.toNat h.toNat x y gs).length<=65536:=by have d1:=dY d;unfold picture;rw[ZM (λ j i=>(((List.range 4).flatMap λ(b:Nat)=>(List.range 4).map λ(a:Nat)=>gs.any λ g=>covers f.units s.toNat g.1 g.2 ((i:Int)-x) ((j:Int)-y) a b).filter (·==true)).length)];have:h.toNat*w.toNat<=256*256:=Nat.mul_le_mul (by simp_all) (by simp_all);trivial
set_option maxHeartbeats 1000000 in
def We(g:aK mg)(tc:aW P w K mg c)(d:Df K mg "answer_draw" (top 155) ["font","glyph","measures"]){kd:Nat}(h1:3<=kd)(iW:vt)(tV:Jj)(nL:CA)(uU:IC)(uN:cn P w K mg Ba c.NotWellTold "pixels_of" ["font","placed","view"] kd (BY c)):cn P w K mg Ba c.NotWellTold "answer_draw" ["font","glyph","measures"] (kd+1) (HX c):=by
 refine d.ef ["font","glyph","measures"] λ H Q E hr h nN=>?_;obtain⟨fa,ma,f,gl,sz,wd,ht,x,y,rfl,F,zK,k1,k2⟩:=h;refine⟨_,(ag (aI (PW.pt (gX (iB (gJ (pk iW hr (aa (pv 0) (aa (pv 1) ae))))) (jv (iB (gJ (pk tV hr (aa (pv 2) ae))))))) (ak (ay (bo (aa (aX g.wI) ae)))) aM) (ak (ay (aj og (bo (aa (pk nL hr (aa (pv 0) (aa (pv 1) ae))) ae)) (fP uN b_ hr (aa (pv 0) (aa (aaz (Zr (pv 1) (bo (aa af ae)) aat) rfl rfl (by simp) (by decide)) (aa (pk uU hr (aa (pv 0) (aa (pv 2) ae))) ae)))))))),?_⟩;refine dH (σ':=[some (.ref fa),some (.int gl),some (.ref ma)]) rfl ?_;unfold dL at k1 k2;symm;refine⟨fa,gl,f,rfl,F,?_⟩;symm;by_cases c1:0<=gl/\gl<f.glyphs
 ·rw[cQ c1];symm;refine⟨ma,sz,wd,ht,x,y,rfl,zK,λ H1 s1=>?_⟩;symm;cases c2:drawable sz wd ht x y with
  |false=>
   symm;refine aZ (lz (by simp)) λ r H2 n2 h2 s2=>?_;rw[ao (.inr (.inr c2))]at k1;exact k1 _ rfl r H2 (s1.free n2) (s1.trans s2) h2
  |true=>
   rw[ai (by rw[c2];simp;trivial)]at k1 k2;have eg:gl=((gl.toNat:Nat):Int):=by lia
   symm;refine⟨fa,gl.toNat,f,by rw[<- eg],F.same s1,by lia,?_⟩;symm;refine aZ (lz (by simp)) λ r2 H2 n2 h2 s2=>?_;symm;refine aam (k:=gl) rfl λ p l H3 np nl vP hp3 kM s3=>?_;symm;have ia:aq H H3:=(s1.trans s2).trans s3;refine⟨fa,ma,f,sz,wd,ht,x,y,rfl,F.same ia,ia _ _ zK,c2,λ va H4 n4 s4 JR=>?_⟩;symm;have h_:=ia.trans s4;have npH:H p=none:=(s1.trans s2).free np;refine⟨fa,p,va,f,[(gl.toNat,[0])],_,rfl,F.same h_,⟨_,s4 _ _ hp3,by simp,.cons ⟨by rw[<- eg],l,rfl,vP,.inl (s4 _ _ kM)⟩ .nil⟩,JR,G1 F.good c2,λ gp fQ=>?_,λ jz r5 H5 L s5 n5 h5 hL=>?_,λ dQ H5 sx=>?_⟩
   ·simp at fQ;subst fQ;exact⟨by show gl.toNat<f.glyphs;lia,by simp⟩
   ·have ho:=jz (gl.toNat,[0]) (by simp);dsimp only at ho;cases eo:f.outline 8 gl.toNat with
    |none=>exact absurd eo ho
    |some o=>
     rw[eo]at k1;dsimp only at k1;have eL:=hL [(0,o.map polygon)] λ r cc=>by unfold sH;simp[eo]
     have zl:=Oq f [(0,o.map polygon)] c2;have UN:L=picture f.units sz.toNat wd.toNat ht.toNat x y [(0,o.map polygon)]:=eL;refine ow (s5 _ _ (s4 _ _ (s3 _ _ h2))) h5 (by rw[cV,UN,aL];simp;lia) λ r6 H6 n6 h6 s6=>?_;refine k1 _ rfl r6 H6 (h_.free (s5.free n6)) ((h_.trans s5).trans s6) ?_;rw[h6,UN];unfold CJ iV nV;rw[cF,jo];rfl
   ·obtain⟨gp,fQ,hg⟩:=dQ;simp at fQ;subst fQ;dsimp only at hg;exact k2 (by rw[hg]) H5 λ b o e=>sx _ _ (h_ _ _ e) λ z=>by rw[z,npH]at e;cases e
 ·rw[cH c1];symm;refine aZ (lz (by simp)) λ r H1 n1 h1 s1=>?_;rw[ao (by lia)]at k1;exact k1 _ rfl r H1 n1 s1 h1
def LX{f:Kg15.Font}(G:Good f)(ch:Nat):f.glyphOf ch<f.glyphs:=by
 have h0:=G.m0;have h1:=G.mg;rw[LY];split
 ·exact bY ‹_› ‹_›
 ·split<;>lia
noncomputable def vk (kvs:List (Key×V)):List Int:=kvs.map λ kv=>match kv.1 with
 | .inl i=>i
 | .inr _=>0
section
variable{kvs:List (Key×V)}
def aaN(h: ∀kv∈kvs,∃i:Int,kv.1= .inl i):(kvs.map λ kv=>kV kv.1)=iV (vk kvs):=by
 unfold iV vk;rw[jo];apply k_;intro kv hk;obtain⟨r,e⟩:=h kv hk;show kV kv.1=V.int (match kv.1 with
  | .inl i=>i
  | .inr _=>0)
 rw[e];rfl
def MP{k:Key}{v:V}(h:aE kvs k=some v):(k,v)∈kvs:=by
 unfold aE at h;rw[js]at h;obtain⟨kv,h1,h2⟩:=h;have h3:kv.1=k:=by have:=E8 h1;simpa using this
 have h4:=FH h1;rw[<- h3,<- h2];exact h4
def Mu(nd:(kvs.map (·.1)).Nodup)(h: ∀kv∈kvs,∃i:Int,kv.1= .inl i){i:Int}:i∈vk kvs↔(aE kvs (.inl i)).isSome=true:=by
 constructor
 ·intro m;obtain⟨kv,hk,e⟩:=bF.mp m;obtain⟨r,e'⟩:=h kv hk;rw[e']at e;dsimp only at e;subst e;rw[<- e',xG nd hk];rfl
 ·intro m;cases e:aE kvs (.inl i)with
  |none=>rw[e]at m;cases m
  |some v=>exact bF.mpr ⟨_,MP e,rfl⟩
end
structure oY(H0 H:Hp)(d:Addr)(l:List (Int×Nat))(n:Nat):Prop where
 ex: ∃kvs,wF (H d=some (.dK kvs)) ((kvs.map (·.1)).Nodup) (kvs.length<=n) (∀kv∈kvs,∃g:Nat,kv.1= .inl (g:Int)/\ ∃p,(p,g)∈l) (∀(g:Nat)v,aE kvs (.inl (g:Int))=some v-> ∃a ik,v= .ref a/\a≠d/\H0 a=none/\H a=some (.dK ik)/\(ik.map (·.1)).Nodup/\ik.length<=n/\(∀kv∈ik,∃p:Int,kv.1= .inl p)/\ ∀p:Int,(aE ik (.inl p)).isSome=true↔(p,g)∈l) (∀g:Nat,aE kvs (.inl (g:Int))=none-> ∀p,(p,g)∉l) (∀(g g':Nat)a,aE kvs (.inl (g:Int))=some (.ref a)->aE kvs (.inl (g':Int))=some (.ref a)->g=g')
section
variable{H0 H H':Hp}{d a p0:Addr}{l:List (Int×Nat)}{n g:Nat}{pos:Int}{kvs ik:List (Key×V)}
def rX{p:Int}{g g':Nat}:(p,g')∈l++[(pos,g)]↔(p,g')∈l\/(p=pos/\g'=g):=by simp
def aa7(T:oY H0 H d l n)(hd:H d=some (.dK kvs))(hv:aE kvs (.inl (g:Int))=some (.ref a))(ha:H a=some (.dK ik))(b:bh a H H')(h':H' a=some (.dK (putK ik (.inl pos) (.bl true)))):oY H0 H' d (l++[(pos,g)]) (n+1):=by
 obtain⟨RP,h1,h2,h3,h4,h5,h6,h7⟩:=T.ex;rw[hd]at h1;cases h1;obtain⟨a',ik',e1,e2,e3,e4,e5,e6,e7,e8⟩:=h5 g _ hv;cases e1;rw[ha]at e4;cases e4;refine⟨⟨kvs,b _ _ hd λ z=>e2 z.symm,h2,by exact mv ‹_›,λ kv hk=>?_,λ g' v' gr=>?_,λ g' hn q hq=>?_,h7⟩⟩
 ·obtain⟨g',y1,q,y2⟩:=h4 kv hk;exact⟨g',y1,q,eZ _ y2⟩
 ·by_cases c:g'=g
  ·subst c;rw[hv]at gr;cases gr;refine⟨a,_,rfl,e2,e3,h',pQ e5,bY (nW _ _ _) (by simp_all),λ kv hk=>?_,λ q=>?_⟩
   ·rcases pM hk with z|⟨ic,z1,z2⟩
    ·exact⟨pos,z⟩
    ·rw[<- z2];exact e7 ic z1
   ·rw[iw,rX];by_cases cq:q=pos
    ·subst cq;rw[ao rfl];exact⟨λ _=> .inr ⟨rfl,rfl⟩,λ _=>rfl⟩
    ·rw[ai (λ z=>cq (wM z)),e8];exact⟨.inl,λ z=>z.elim id λ y=>absurd y.1 cq⟩
  ·obtain⟨a2,Dr,y1,y2,y3,y4,y5,y6,y7,y8⟩:=h5 g' v' gr;subst y1;have na:a2≠a:=λ z=>c (h7 g' g a (by rw[gr,z]) hv);refine⟨a2,Dr,rfl,y2,y3,b _ _ y4 na,y5,by lia,y7,λ q=>?_⟩;rw[y8,rX];exact⟨.inl,λ z=>z.elim id λ y=>absurd y.2 c⟩
 ·rcases rX.mp hq with z|z
  ·exact h6 g' hn q z
  ·rw[z.2,hv]at hn;cases hn
def aa8(T:oY H0 H d l n)(hd:H d=some (.dK kvs))(hv:aE kvs (.inl (g:Int))=none)(hp:H p0=none)(vW:H0 p0=none)(x:az (λ y=>y=d\/y=p0) H H')(h1':H' d=some (.dK (putK kvs (.inl (g:Int)) (.ref p0))))(Ku:H' p0=some (.dK (putK [] (.inl pos) (.bl true)))):oY H0 H' d (l++[(pos,g)]) (n+1):=by
 obtain⟨RP,h1,h2,h3,h4,h5,h6,h7⟩:=T.ex;rw[hd]at h1;cases h1;have Di:p0≠d:=λ z=>by rw[z,hd]at hp;cases hp
 have vv: ∀g':Nat,aE (putK kvs (.inl (g:Int)) (.ref p0)) (.inl (g':Int))=if g'=g then some (.ref p0)else aE kvs (.inl (g':Int)):=λ g'=>by rw[iw];simp only[lA]
 have old: ∀(g':Nat)a',aE kvs (.inl (g':Int))=some (.ref a')->a'≠p0:=λ g' a' gr z=>by obtain⟨a2,Dr,y1,y2,y3,y4,_⟩:=h5 g' _ gr;cases y1;rw[z,hp]at y4;cases y4
 refine⟨⟨_,h1',pQ h2,bY (nW _ _ _) (by lia),λ kv hk=>?_,λ g' v' gr=>?_,λ g' hn q hq=>?_,λ g1 g2 a' y1 y2=>?_⟩⟩
 ·rcases pM hk with z|⟨ic,z1,z2⟩
  ·exact⟨g,z,pos,rX.mpr (.inr ⟨rfl,rfl⟩)⟩
  ·obtain⟨g',y1,q,y2⟩:=h4 ic z1;exact⟨g',by rw[<- z2];exact y1,q,eZ _ y2⟩
 ·rw[vv]at gr;by_cases c:g'=g
  ·rw[ao c]at gr;cases gr;subst c;refine⟨p0,_,rfl,Di,vW,Ku,pQ .nil,bY (nW _ _ _) (by simp),λ kv hk=>?_,λ q=>?_⟩
   ·rcases pM hk with z|⟨ic,z1,_⟩
    ·exact⟨pos,z⟩
    ·cases z1
   ·rw[iw,rX];by_cases cq:q=pos
    ·subst cq;rw[ao rfl];exact⟨λ _=> .inr ⟨rfl,rfl⟩,λ _=>rfl⟩
    ·rw[ai (λ z=>cq (wM z))];exact⟨λ z=>(by cases z),λ z=>z.elim (λ y=>absurd y (h6 _ hv q)) λ y=>absurd y.1 cq⟩
  ·rw[ai c]at gr;obtain⟨a2,Dr,y1,y2,y3,y4,y5,y6,y7,y8⟩:=h5 g' v' gr;subst y1;refine⟨a2,Dr,rfl,y2,y3,x _ _ y4 λ z=>z.elim y2 (old g' a2 gr),y5,by lia,y7,λ q=>?_⟩;rw[y8,rX];exact⟨.inl,λ z=>z.elim id λ y=>absurd y.2 c⟩
 ·rw[vv]at hn;by_cases c:g'=g
  ·rw[ao c]at hn;cases hn
  ·rw[ai c]at hn;rcases rX.mp hq with z|z
   ·exact h6 g' hn q z
   ·exact c z.2
 ·rw[vv]at y1 y2;by_cases c1:g1=g
  ·by_cases c2:g2=g
   ·rw[c1,c2]
   ·rw[ao c1]at y1;rw[ai c2]at y2;cases y1;exact absurd rfl (old g2 _ y2)
  ·by_cases c2:g2=g
   ·rw[ai c1]at y1;rw[ao c2]at y2;cases y2;exact absurd rfl (old g1 _ y1)
   ·rw[ai c1]at y1;rw[ai c2]at y2;exact h7 g1 g2 a' y1 y2
def oY.same(T:oY H0 H d l n)(s:aq H H'):oY H0 H' d l n:=by obtain⟨kvs,h1,h2,h3,h4,h5,h6,h7⟩:=T.ex;refine⟨⟨kvs,s _ _ h1,h2,h3,h4,λ g v hv=>?_,h6,h7⟩⟩;obtain⟨a,ik,y1,y2,y3,y4,y5⟩:=h5 g v hv;exact⟨a,ik,y1,y2,y3,s _ _ y4,y5⟩
theorem Paired.ofMap{α β:Type}{R:α->β->Prop}{F:α->β}: ∀{l:List α},(∀x∈l,R x (F x))->Paired R l (l.map F)
 |[],_=> .nil
 |x::l,h=> .cons (h x (iT ..)) (Paired.ofMap λ y hy=>h y (gi _ hy))
noncomputable def posOf (H:Hp) (v:V):List Int:=match v with
 | .ref a=>(match H a with
  |some (.dK ik)=>vk ik
  |_=>[])
 |_=>[]
noncomputable def kP (k:Key):Nat:=match k with
 | .inl i=>i.toNat
 | .inr _=>0
def aa9(T:oY H0 H d l n): ∃ps,QD H d ps/\Mx.Placed ps l/\ ∀gp∈ps,gp.2.length<=n/\ ∃p,(p,gp.1)∈l:=by
 obtain⟨kvs,h1,h2,h3,h4,h5,h6,h7⟩:=T.ex;have one: ∀kv∈kvs,∃(g:Nat)(a:Addr)(ik:List (Key×V)),kv.1= .inl (g:Int)/\kv.2= .ref a/\a≠d/\H a=some (.dK ik)/\(ik.map (·.1)).Nodup/\ik.length<=n/\(∀kv∈ik,∃p:Int,kv.1= .inl p)/\(∀p:Int,(aE ik (.inl p)).isSome=true↔(p,g)∈l)/\kP kv.1=g/\posOf H kv.2=vk ik:=λ kv hk=>by obtain⟨g,e1,_⟩:=h4 kv hk;have hv:=xG h2 hk;rw[e1]at hv;obtain⟨a,ik,y1,y2,y3,y4,y5,y6,y7,y8⟩:=h5 g _ hv;refine⟨g,a,ik,e1,y1,y2,y4,y5,y6,y7,y8,by rw[e1];rfl,?_⟩;rw[y1];unfold posOf;dsimp only;rw[y4]
 refine⟨kvs.map λ kv=>(kP kv.1,posOf H kv.2),⟨kvs,h1,h2,Paired.ofMap λ kv hk=>?_⟩,λ aY g=>⟨?_,λ hm=>?_⟩,λ gp fQ=>?_⟩
 ·obtain⟨g,a,ik,y1,y2,y3,y4,y5,y6,y7,y8,y9,qE⟩:=one kv hk;refine⟨by rw[y9];exact y1,a,y2,y3,.inr ⟨ik,y4,?_⟩⟩;dsimp only;rw[qE];exact aaN y7
 ·rintro⟨gp,fQ,e1,e2⟩;obtain⟨kv,hk,rfl⟩:=bF.mp fQ;obtain⟨g0,a,ik,y1,y2,y3,y4,y5,y6,y7,y8,y9,qE⟩:=one kv hk;dsimp only at e1 e2;rw[y9]at e1;subst e1;rw[qE]at e2;exact(y8 aY).mp ((Mu y5 y7).mp e2)
 ·cases hv:aE kvs (.inl (g:Int))with
  |none=>exact absurd hm (h6 g hv aY)
  |some v=>
   have hk:=MP hv;obtain⟨g0,a,ik,y1,y2,y3,y4,y5,y6,y7,y8,y9,qE⟩:=one _ hk;have:g=g0:=lA.mp y1;subst this;refine⟨_,bF.mpr ⟨_,hk,rfl⟩,y9,?_⟩;dsimp only at qE⊢;rw[qE];exact(Mu y5 y7).mpr ((y8 aY).mpr hm)
 ·obtain⟨kv,hk,rfl⟩:=bF.mp fQ;obtain⟨g0,a,ik,y1,y2,y3,y4,y5,y6,y7,y8,y9,qE⟩:=one kv hk;obtain⟨g1,z1,p,z2⟩:=h4 kv hk;dsimp only;rw[y9,qE];have:g0=g1:=by rw[y1]at z1;exact lA.mp z1
  subst this;exact⟨by unfold vk;rw[aV];exact y6,p,z2⟩
end
inductive Hy(c:Cs)(vs:List V)(H:Hp)(Q:VK)(E:XK):Prop
 |mk (fa ca ma:Addr) (f:Kg15.Font) (t:List Nat) (s w h x y:Int):vs=[.ref fa,.ref ca,.ref ma]->d0 c H fa f->H ca=some (.lst (nV t))->t.length<=256->H ma=some (.lst (iV [s,w,h,x,y]))->sN c H Q E (tL f t s w h x y)->Hy c vs H Q E
set_option maxHeartbeats 1000000 in
theorem Wd(g:aK mg)(tc:aW P w K mg c)(d:Df K mg "answer_text" (top 156) ["font","characters","measures"]){kd:Nat}(h1:6<=kd)(tV:Jj)(tT:Sq)(nL:CA)(uU:IC)(uN:cn P w K mg Ba c.NotWellTold "pixels_of" ["font","placed","view"] kd (BY c)):cn P w K mg Ba c.NotWellTold "answer_text" ["font","characters","measures"] (kd+1) (Hy c):=by
 refine d.ef ["font","characters","measures","placed","position","character","glyph","positions"] λ H Q E hr h nN=>?_;obtain⟨fa,ca,ma,f,t,sz,wd,ht,x,y,rfl,F,gx,TV,zK,k1,k2⟩:=h;have C_:ah K H ca (nV t):=ah.of gx;refine⟨_,(ag (aI (PW.pt (gX (aB dO (bX bZ g.bS (aa (pv 1) ae)) (aX g.VH)) (jv (iB (gJ (pk tV hr (aa (pv 2) ae))))))) (ak (ay (bo (aa (aX g.wI) ae)))) aM) (ag (au 3 nN pL) (ag (au 4 nN af) (ag (sU n_ (c_ (pv 1)) (aT 5 nN) (ag (au 6 nN (pk tT hr (aa (pv 0) (aa (pv 5) ae)))) (ag (au 7 nN (Pb (pv 3) (pv 6) pL ⟨rfl,rfl,rfl,rfl⟩)) (ag (uZ (cR hr) (pv 7) (pv 4) gY rfl) (ak (jQ 4 nN (pk nL hr (aa (pv 0) (aa (pv 6) ae))) kx)))))) (ak (ay (aj og (bo (aa (pv 4) ae)) (fP uN b_ hr (aa (pv 0) (aa (pv 3) (aa (pk uU hr (aa (pv 0) (aa (pv 2) ae))) ae))))))))))),?_⟩;refine dH (σ':=[some (.ref fa),some (.ref ca),some (.ref ma),none,none,none,none,none]) rfl ?_;unfold tL at k1 k2;symm;rw[show decide ((256:Int)<(t.length:Int))=false from cH (by lia)];symm;refine⟨ma,sz,wd,ht,x,y,rfl,zK,λ H1 s1=>?_⟩;symm;cases c2:drawable sz wd ht x y with
 |false=>
  symm;refine aZ (lz (by simp)) λ r H2 n2 h2 s2=>?_;rw[ao c2]at k1;exact k1 _ rfl r H2 (s1.free n2) (s1.trans s2) h2
 |true=>
  rw[ai (by rw[c2];simp)]at k1 k2;symm;refine pP λ dd H2 n2 h2 s2=>?_;have S4:aq H H2:=s1.trans s2;have q2:=S4.seq C_;symm;refine L2.Rd.fl (xs:=nV t) (λ i σ H'=>o8 λ(v1 v2 v3:Option V)=>mf (σ=[some (.ref fa),some (.ref ca),some (.ref ma),some (.ref dd),some (.int (vh f 0 (t.take i))),v1,v2,v3]) (aq H H') (oY H H' dd (line f 0 (t.take i)) i)) ?_ ?_ ?_ ?_
  ·refine⟨none,none,none,rfl,S4,⟨⟨[],h2,.nil,aQ _,λ _ z=>(by cases z),λ g v z=>(by cases z),λ g _ p z=>(by cases z),λ g g' a z=>(by cases z)⟩⟩⟩
  ·rintro i σ H' _ ⟨v1,v2,v3,rfl,sm,_⟩;exact sm.seq C_
  ·rintro i v σ H' hv ⟨v1,v2,v3,rfl,sm,T⟩;obtain⟨ch,jh,rfl⟩:=lE.mp hv;have kO:=(bC.mp jh).1;have tk:t.take (i+1)=t.take i++[ch]:=by rw[cA,jh];rfl
   have el:=Mt f ch (t.take i) 0;have ee:=LM f ch (t.take i) 0;obtain⟨kvs,hd,nd,tD,_,DN,_,_⟩:=T.ex;have zP:=LX F.good ch;symm;refine⟨fa,ch,f,rfl,F.same sm,?_⟩;symm;refine pP λ p0 H3 n3 h3 s3=>?_;symm;have nH:H dd=none:=s1.free n2;have np:H p0=none:=sm.free n3;have Tp:p0≠dd:=λ z=>by rw[z,hd]at n3;cases n3
   refine Jr (s3 _ _ hd) (by rw[aL];lia) (λ v0 jC=>?_) (λ jC H4 h4 b4=>?_)
   ·obtain⟨a,ik,rfl,JE,sY,ha,_,agm,_⟩:=DN _ _ jC;symm;refine lF (s3 _ _ ha) (by rw[aL];lia) λ H4 h4 b4=>?_;have SX:aq H H4:=b4.same (sm.trans s3) sY;symm;refine⟨fa,f.glyphOf ch,f,rfl,F.same SX,zP,?_⟩;symm;refine⟨_,_,_,by rw[tk,ee];rfl,SX,?_⟩;rw[tk,el];exact aa7 (T.same s3) (s3 _ _ hd) jC (s3 _ _ ha) b4 h4
   ·symm;refine lF (b4 _ _ h3 Tp) (by rw[aL];simp) λ H5 h5 b5=>?_;have SW:aq H H5:=λ b o e=>b5 _ _ (b4 _ _ (s3 _ _ (sm _ _ e)) (cC e nH)) (cC e np);symm;refine⟨fa,f.glyphOf ch,f,rfl,F.same SW,zP,?_⟩;symm;refine⟨_,_,_,by rw[tk,ee];rfl,SW,?_⟩;rw[tk,el];exact aa8 T hd jC n3 np (λ b o e n=>b5 _ _ (b4 _ _ (s3 _ _ e) λ z=>n (.inl z)) λ z=>n (.inr z)) (b5 _ _ h4 λ z=>Tp z.symm) h5
  ·rintro σ H' ⟨v1,v2,v3,rfl,sm,T⟩;rw[cV,jM]at T;rw[cV,jM];have nH:H dd=none:=s1.free n2;symm;refine aZ (lz (by simp)) λ r3 H3 n3 h3 s3=>?_;symm;have ia:=sm.trans s3;refine⟨fa,ma,f,sz,wd,ht,x,y,rfl,F.same ia,ia _ _ zK,c2,λ va H4 n4 s4 JR=>?_⟩;symm;have h_:=ia.trans s4;obtain⟨ps,plc,S9,KD⟩:=aa9 ((T.same s3).same s4);have inl: ∀gp∈ps,∃pg∈line f 0 t,pg.2=gp.1:=λ gp fQ=>by
    obtain⟨p,hp⟩:=(KD gp fQ).2;exact⟨_,hp,rfl⟩
   have lg: ∀(t:List Nat)(aY:Int),∀pg∈line f aY t,pg.2<f.glyphs:=by
    intro t
    induction t with
    |nil=>intro aY pg h;cases h
    |cons ch t ih=>
     intro aY pg h;rcases bV.mp h with z|z
     ·rw[z];exact LX F.good ch
     ·exact ih _ pg z
   refine⟨fa,dd,va,f,ps,_,rfl,F.same h_,plc,JR,G1 F.good c2,λ gp fQ=>?_,λ jz r5 H5 L s5 n5 h5 hL=>?_,λ dQ H5 sx=>?_⟩
   ·obtain⟨pg,p1,p2⟩:=inl gp fQ;exact⟨by rw[<- p2];exact lg t 0 pg p1,bY (KD gp fQ).1 (by exact bY ‹_› (by decide))⟩
   ·cases es:Kg15.set f 0 t with
    |none=>
     exfalso;obtain⟨pg,p1,p2⟩:=M6 es;obtain⟨gp,g1,g2,_⟩:=(S9 pg.1 pg.2).mpr p1;exact jz gp g1 (by rw[g2];exact p2)
    |some gz=>
     obtain⟨gs,z⟩:=gz;rw[es]at k1;dsimp only at k1;obtain⟨e1,_,e3⟩:=GJ es;have eL:L=picture f.units sz.toNat wd.toNat ht.toNat x y gs:=hL gs λ r cc=>XG S9 e3;have zl:=Oq f gs c2;refine ow (s5 _ _ (s4 _ _ h3)) h5 (by rw[cV,eL,aL];simp;lia) λ r6 H6 n6 h6 s6=>?_;refine k1 _ rfl r6 H6 (h_.free (s5.free n6)) ((h_.trans s5).trans s6) ?_;rw[h6,eL,e1];unfold CJ iV nV;rw[cF,jo];rfl
   ·obtain⟨gp,fQ,hg⟩:=dQ;cases es:Kg15.set f 0 t with
    |none=>exact k2 (by rw[es]) H5 λ b o e=>sx _ _ (h_ _ _ e) (cC e nH)
    |some gz=>
     exfalso;obtain⟨gs,z⟩:=gz;obtain⟨_,e2,_⟩:=GJ es;obtain⟨pg,p1,p2⟩:=inl gp fQ;exact e2 pg p1 (by rw[p2];exact hg)
inductive Hx(c:Cs)(vs:List V)(H:Hp)(Q:VK)(E:XK):Prop
 |mk (fa na ra:Addr) (f:Kg15.Font):d0 c H fa f->((∃x:Nat,vs=[.ref fa,.int 2,.ref na,.ref ra]/\H na=some (.lst (iV [(x:Int)]))/\An H Q [(f.glyphOf x:Int)])\/(∃x:Int,vs=[.ref fa,.int 3,.ref na,.ref ra]/\H na=some (.lst (iV [x]))/\An H Q (mL f x))\/
  (∃x y:Int,vs=[.ref fa,.int 4,.ref na,.ref ra]/\H na=some (.lst (iV [x,y]))/\sN c H Q E (oL f x y))\/(∃g s w h x y:Int,vs=[.ref fa,.int 5,.ref na,.ref ra]/\H na=some (.lst (iV [g,s,w,h,x,y]))/\sN c H Q E (dL f g s w h x y))\/
  ∃(s w h x y:Int)(t:List Nat),vs=[.ref fa,.int 6,.ref na,.ref ra]/\H na=some (.lst (iV [s,w,h,x,y]))/\H ra=some (.lst (nV t))/\t.length<=256/\sN c H Q E (tL f t s w h x y))->Hx c vs H Q E
set_option maxHeartbeats 1000000 in
def Vm(g:aK mg)(tc:aW P w K mg c)(d:Df K mg "answer_with_font" (top 151) ["font","kind","numbers","row"]){kd:Nat}(h1:6<=kd)(tT:Sq)(Et:So)(Es:cn P w K mg Ba c.NotWellTold "answer_outline" ["font","glyph","most"] kd (HW c))(EO:cn P w K mg Ba c.NotWellTold "answer_draw" ["font","glyph","measures"] kd (HX c))(EN:cn P w K mg Ba c.NotWellTold "answer_text" ["font","characters","measures"] kd (Hy c)):cn P w K mg Ba c.NotWellTold "answer_with_font" ["font","kind","numbers","row"] (kd+1) (Hx c):=by
 refine d.ef ["font","kind","numbers","row"] (λ H Q E hr h nN=>?_) (len:=by rintro _ _ _ _ ⟨_,_,_,_,_,⟨_,rfl,_⟩|⟨_,rfl,_⟩|⟨_,_,rfl,_⟩|⟨_,_,_,_,_,_,rfl,_⟩|⟨_,_,_,_,_,_,rfl,_⟩⟩<;>rfl);obtain⟨fa,na,ra,f,F,hh⟩:=h;refine⟨_,(ag (aI (aB dw (pv 1) (aX g.aa1)) (ak (ay (bo (aa (pk tT hr (aa (pv 0) (aa (bO (pv 2) af) ae))) ae)))) aM) (ag (aI (aB dw (pv 1) (aX g.Y4)) (ak (ay (pk Et hr (aa (pv 0) (aa (bO (pv 2) af) ae))))) aM) (ag (aI (aB dw (pv 1) (aX g.Y2)) (ak (ay (fP Es b_ hr (aa (pv 0) (aa (bO (pv 2) af) (aa (bO (pv 2) af) ae)))))) aM) (ag (aI (aB dw (pv 1) (aX g.acV)) (ak (ay (fP EO b_ hr (aa (pv 0) (aa (bO (pv 2) af) (aa (mC mE (pv 2) (iz af) BH) ae)))))) aM) (ak (ay (fP EN b_ hr (aa (pv 0) (aa (pv 3) (aa (pv 2) ae)))))))))),?_⟩;rcases hh with⟨x,rfl,eT,k⟩|⟨x,rfl,eT,k⟩|⟨x,y,rfl,eT,k⟩|⟨gl,sz,wd,ht,x,y,rfl,eT,k1,k2⟩|⟨sz,wd,ht,x,y,t,rfl,eT,m8,TV,k⟩
 ·have qn:ah K H na (iV [(x:Int)]):=ah.of eT;symm;rw[show decide ((2:Int)=2)=true from rfl];symm;refine bW qn (v:= .int (x:Int)) rfl ?_;symm;refine⟨fa,x,f,rfl,F,?_⟩;symm;refine aZ (lz (by simp)) λ r H1 n1 h1 s1=>?_;exact k r H1 n1 s1 h1
 ·have qn:ah K H na (iV [x]):=ah.of eT;symm;rw[show decide ((3:Int)=2)=false from rfl];symm;rw[show decide ((3:Int)=3)=true from rfl];symm;refine bW qn (v:= .int x) rfl ?_;symm;exact⟨fa,f,x,rfl,F,k⟩
 ·have qn:ah K H na (iV [x,y]):=ah.of eT;symm;rw[show decide ((4:Int)=2)=false from rfl];symm;rw[show decide ((4:Int)=3)=false from rfl];symm;rw[show decide ((4:Int)=4)=true from rfl];symm;refine bW qn (v:= .int x) rfl ?_;symm;refine bW qn (v:= .int y) rfl ?_;symm;exact⟨fa,f,x,y,rfl,F,k⟩
 ·have qn:ah K H na (iV [gl,sz,wd,ht,x,y]):=ah.of eT;symm;rw[show decide ((5:Int)=2)=false from rfl];symm;rw[show decide ((5:Int)=3)=false from rfl];symm;rw[show decide ((5:Int)=4)=false from rfl];symm;rw[show decide ((5:Int)=5)=true from rfl];symm;refine bW qn (v:= .int gl) rfl ?_;symm;refine pV qn λ p H1 n1 h1 s1=>?_;rw[GY (i:=1) (m:=1) rfl]at h1
  change H1 p=some (.lst (iV [sz,wd,ht,x,y]))at h1
  symm;exact⟨fa,p,f,gl,sz,wd,ht,x,y,rfl,F.same s1,h1,λ l e r H2 n2 s2 h2=>k1 l e r H2 (s1.free n2) (s1.trans s2) h2,λ e H2 s2=>k2 e H2 (s1.trans s2)⟩
 ·symm;rw[show decide ((6:Int)=2)=false from rfl];symm;rw[show decide ((6:Int)=3)=false from rfl];symm;rw[show decide ((6:Int)=4)=false from rfl];symm;rw[show decide ((6:Int)=5)=false from rfl];symm;exact⟨fa,ra,na,f,t,sz,wd,ht,x,y,rfl,F,m8,TV,eT,k⟩
def mO(c:Cs)(H:Hp)(h:Addr)(s:Option Kg15.Font):Prop:=∃dx fv,H h=some (.ins c.Holder dx [("font",fv)])/\match s with
 |none=>fv= .aG
 |some f=>∃fa,fv= .ref fa/\d0 c H fa f
def d0.aec{H H':Hp}{a h C dx:Addr}{fs:List (Str×V)}{f:Kg15.Font}(F:d0 c H a f)(b:az (λ x=>x=h) H H')(hh:H h=some (.ins C dx fs))(n:C≠c.Font):d0 c H' a f:=by
 obtain⟨⟨d1,x1,x2,x3,x4,e1,e2,e3,e4,e5⟩,G⟩:=F;have k: ∀y xs,H y=some (.lst xs)->H' y=some (.lst xs):=λ y xs e=>b _ _ e λ z=>by rw[z,hh]at e;cases e
 exact⟨⟨d1,x1,x2,x3,x4,b _ _ e1 λ z=>by(rw[z,hh]at e1;cases e1;exact n rfl),k _ _ e2,k _ _ e3,k _ _ e4,k _ _ e5⟩,G⟩
theorem mO.same{H H':Hp}{h:Addr}{s:Option Kg15.Font}(x:mO c H h s)(sm:aq H H'):mO c H' h s:=by
 obtain⟨dx,fv,e,m⟩:=x;refine⟨dx,fv,sm _ _ e,?_⟩;cases s with
 |none=>exact m
 |some f=>obtain⟨fa,e1,F⟩:=m;exact⟨fa,e1,F.same sm⟩
def je(c:Cs)(H0 H:Hp)(h:Addr):Prop:=∀dx fa cO f'(x p y m:Addr),H h=some (.ins c.Holder dx [("font",.ref fa)])->H fa=some (.ins c.Font cO (jk f' x p y m))-> ∀z∈[x,p,y,m],H0 z=none
theorem je.aG{H0 H:Hp}{h dx:Addr}(e:H h=some (.ins c.Holder dx [("font",.aG)])):je c H0 H h:=λ wm fa cO f' x p y m e2=>by rw[e]at e2;cases e2
theorem je.keep{H0 H H':Hp}{h:Addr}{s:Option Kg15.Font}(o:je c H0 H h)(ho:mO c H h s)(k1: ∀u,H h=some u->H' h=some u)(k2: ∀fa C dx fs,H fa=some (.ins C dx fs)->C=c.Font->H' fa=some (.ins C dx fs)):je c H0 H' h:=by
 intro dx fa cO f' x p y m e1 e2 z hz;obtain⟨dx0,fv,g1,g2⟩:=ho;have Kv:=k1 _ g1;rw[e1]at Kv;cases s with
 |none=>
  have g2:fv= .aG:=g2;subst g2;cases Kv
 |some f=>
  obtain⟨ny,rfl,F⟩:=g2;cases Kv;obtain⟨⟨d1,x1,x2,x3,x4,h1,_⟩,_⟩:=F;have h2:=k2 _ _ _ _ h1 rfl;rw[e2]at h2;rw[<- h2]at h1;exact o dx fa cO f' x p y m g1 h1 z hz
def je.weak{H0 H1 H:Hp}{h:Addr}(o:je c H1 H h)(w: ∀z,H1 z=none->H0 z=none):je c H0 H h:=λ dx fa cO f' x p y m e1 e2 z hz=>w z (o dx fa cO f' x p y m e1 e2 z hz)
inductive N6(c:Cs)(vs:List V)(H:Hp)(Q:VK)(E:XK):Prop
 |mk (h da:Addr) (s:Option Kg15.Font) (b:List UInt8):vs=[.ref h,.ref da]->mO c H h s->H da=some (.lst (bs b))->b.length<=30000->(∀H',az (λ x=>x=h) H H'->mO c H' h (does s (.load (some b))).1->je c H H' h->Q (.int (does s (.load (some b))).2.value) H')->N6 c vs H Q E
abbrev Sr:=Kn P w K mg Ba "load" ["holder","data"] 9 (N6 c)
def Nt{st:Option Kg15.Font}{b:List UInt8}{n:Nat}(e:fontOf b= .error n):does st (.load (some b))=(none,num (-(n:Int))):=by
 show(match fontOf b with
  | .ok f=>(some f,num f.glyphs)
  | .error k=>(none,num (-(k:Int))))=_
 rw[e]
def OE{st:Option Kg15.Font}{b:List UInt8}{f:Kg15.Font}(e:fontOf b= .ok f):does st (.load (some b))=(some f,num f.glyphs):=by
 show(match fontOf b with
  | .ok f=>(some f,num f.glyphs)
  | .error k=>(none,num (-(k:Int))))=_
 rw[e]
set_option maxHeartbeats 1000000 in
theorem aaE(g:aK mg)(tc:aW P w K mg c)(d:Df K mg "load" (top 152) ["holder","data"])(Eg:Sn)(uM:Jk)(Ep:Sm)(HN:Sl):Sr:=by
 refine d.ok ["holder","data","refusal","tables"] λ H Q E hr h nN=>?_;obtain⟨h,da,st,b,rfl,⟨dx,fv,hh,hm⟩,hda,hz,k⟩:=h;have qd:ah K H da (bs b):=ah.of hda;refine⟨_,(ag (aI (aB dO (bX bZ g.bS (aa (pv 1) ae)) (aX g.Xf)) (ak (ay (aX g.wI))) aM) (ag (cj tc.rM tc.rW (pv 0) xV) (ag (au 2 nN (pk Eg hr (aa (pv 1) ae))) (ag (aI (aB cW (pv 2) af) (ak (ay (pv 2))) aM) (ag (au 3 nN (pk uM hr (aa (pv 1) ae))) (ag (au 2 nN (pk Ep hr (aa (pv 3) ae))) (ag (aI (aB cW (pv 2) af) (ak (ay (pv 2))) aM) (ag (cj tc.rM tc.rW (pv 0) (mY HN hr (aa (pv 3) ae))) (ak (ay (aH tc.e9 tc.Ai (aH tc.rM tc.rW (pv 0))))))))))))),?_⟩;refine dH (σ':=[some (.ref h),some (.ref da),none,none]) rfl ?_;symm;rw[show decide ((524288:Int)<(b.length:Int))=false from cH (by lia)];symm;refine cb (fs':=[("font",.aG)]) hh rfl (by simp) λ H1 f1 b1=>?_;have q1:ah K H1 da (bs b):=b1.sD oy.ins hh qd;have C7:az (λ x=>x=h) H H1:=λ y o e n=>b1 _ _ e n;symm;have fail: ∀(n:Nat)H',fontOf b= .error n->aq H1 H'->Q (.int (-(n:Int))) H':=λ n H' e s=>by have:=k H' (C7.add s);rw[Nt e]at this;exact this ⟨dx,.aG,s _ _ f1,rfl⟩ (je.aG (s _ _ f1))
 refine⟨da,b,rfl,q1,by exact bY ‹_› (by decide),λ H2 s2=>?_⟩;symm;unfold B5;cases c1:lu b with
 |false=>
  nofun
  all_goals first|exact fail 1 H2 (aep c1) s2|(rename_i z;exact absurd (show(-1:Int)<0 by decide) z)
 |true=>
 cases c2:iy (directory b) b.length with
 |false=>
  nofun
  all_goals first|exact fail 2 H2 (aeo c1 c2) s2|(rename_i z;exact absurd (show(-2:Int)<0 by decide) z)
 |true=>
 cases c3:pO b with
 |none=>
  nofun
  all_goals first|exact fail 3 H2 (aen c1 c2 c3) s2|(rename_i z;exact absurd (show(-3:Int)<0 by decide) z)
 |some T=>
 have eF:=ZO c1 c2 c3;rw[show(if true=false then(-1:Int)else if true=false then-2 else if(some T)=none then-3 else 0)=0 from rfl];rw[show decide ((0:Int)<0)=false from rfl];symm;refine⟨da,b,rfl,s2.seq q1,c1,c2,by lia,λ td H3 n3 s3 tf nw=>?_⟩;have TA:=tf.tabs c3;have hl:T.loca.length<=b.length/\T.glyf.length<=b.length:=Gk c3 λ _ e2 _ _ _ e6 _=>⟨Mg e6,Mg e2⟩;symm;refine⟨td,T,rfl,TA,by lia,λ H4 s4=>?_⟩;symm;have h_:aq H1 H4:=(s2.trans s3).trans s4;have alt:(∃n:Nat,u9 T= -(n:Int)/\0<n/\fontOf b= .error n)\/(u9 T=0/\TabsOk T/\fontOf b= .ok (sr T)):=by
  unfold u9;rw[eF];cases c4:mM T.head with
  |false=>exact .inl ⟨4,rfl,by decide,rfl⟩
  |true=>
  cases c5:mJ T.maxp with
  |false=>exact .inl ⟨5,rfl,by decide,rfl⟩
  |true=>
  cases c6:pK T with
  |false=>exact .inl ⟨6,rfl,by decide,rfl⟩
  |true=>
  cases c7:placesOk (dq T) T.glyf.length with
  |false=>exact .inl ⟨7,rfl,by decide,rfl⟩
  |true=>
  cases c8:oj T.cmap with
  |false=>exact .inl ⟨8,rfl,by decide,rfl⟩
  |true=>exact .inr ⟨rfl,⟨c4,c5,c6,c7,c8,by lia,by lia⟩,rfl⟩
 rcases alt with⟨n,a1,a2,a3⟩|⟨a1,ok,a3⟩
 ·rw[a1,show decide (-(n:Int)<0)=true from cQ (by simp_all)];symm;exact fail n H4 a3 h_
 ·rw[a1,show decide ((0:Int)<0)=false from rfl];symm;refine Z7 (TA.same s4) ok λ fa H5 n5 s5 F5 hz5=>?_;symm;refine cb (fs':=[("font",.ref fa)]) (s5 _ _ (h_ _ _ f1)) rfl (by simp) λ H6 f6 b6=>?_;have nhf:c.Holder≠c.Font:=λ z=>by have:=tc.nd;rw[z]at this;simp at this
  have F6:=F5.aec (h:=h) (λ y o e n=>b6 _ _ e n) (s5 _ _ (h_ _ _ f1)) nhf;obtain⟨⟨dx6,x1,x2,x3,x4,g1,_⟩,G6⟩:=id F6;unfold jk at g1;symm;have:=k H6 (λ y o e n=>b6 _ _ (s5 _ _ (h_ _ _ (b1 _ _ e n))) n);rw[OE a3]at this;refine this ⟨dx,.ref fa,f6,fa,rfl,F6⟩ λ wm fa2 Kz f3 y1 y2 y3 y4 e1 e2 z hz=>?_;rw[f6]at e1;cases e1;have nfa:fa≠h:=λ w=>by rw[w,h_ _ _ f1]at n5;cases n5
  have e5:H5 fa=some (.ins c.Font Kz (jk f3 y1 y2 y3 y4)):=by obtain⟨⟨d5,u1,u2,u3,u4,g5,_⟩,_⟩:=F5;have:=b6 _ _ g5 nfa;rw[e2]at this;rw[g5,this]
  have ad_: ∀y,H4 y=none->H y=none:=λ y hy=>by
   cases e:H y with
   |none=>rfl
   |some o=>
    by_cases w:y=h
    ·rw[w,h_ _ _ f1]at hy;cases hy
    ·rw[h_ _ _ (b1 _ _ e w)]at hy;cases hy
  rcases hz5 _ _ _ _ _ _ e5 z hz with w|⟨kvs,k',w1,w2⟩
  ·exact ad_ z w
  ·obtain⟨Tw,g0,_⟩:=tf;rw[s4 _ _ g0]at w1;cases w1;have DY:=nw _ g0 k' z w2;cases e:H z with
   |none=>rfl
   |some o=>
    by_cases w:z=h
    ·rw[w,s2 _ _ f1]at DY;cases DY
    ·rw[s2 _ _ (b1 _ _ e w)]at DY;cases DY
section
def adb{σ:St}{H:Hp}{n:Nat}{t:XK->TS}{u:TS}{nx bk ct:St->Hp->Prop}{rt:VK}(q:t (λ _ _ H'=>u (Ends.mk nx rt bk ct) (List.replicate n none) H') (Ends.mk nx rt bk ct) σ H):Rn n t u (Ends.mk nx rt bk ct) σ H:=q
local macro_rules|`(tactic|walk_at "1")=>`(tactic|with_reducible refine adb ?_)
def aee{r:List Int}(h: ∀z∈r,0<=z/\z<256):iV r=bs (bytesOf r):=by
 unfold iV bs bytesOf;rw[jo];apply k_;intro z hz;have:=h z hz;show V.int z=V.int (((UInt8.ofNat z.toNat).toNat:Nat):Int);rw[UInt8.toNat_ofNat',Nat.mod_eq_of_lt (by simp_all)]
 congr 1
 lia
def aed{r:List Int}(h: ∀z∈r,0<=z):iV r=nV (kz r):=by
 unfold iV nV kz;rw[jo];apply k_;intro z hz;have:=h z hz;show V.int z=V.int ((z.toNat:Nat):Int)
 congr 1
 lia
section
variable{cc:List (List Int)}{p:Nat}{nums row:List Int}
open Kg15Neutral
theorem vS{us:List Int}(h:us.length=n+1): ∃a t,us=a::t/\t.length=n:=by
 cases us with
 |nil=>cases h
 |cons a t=>exact⟨a,t,rfl,EV h⟩
def JL{nums:List Int}(h:nums.length=1): ∃a,nums=[a]:=by obtain⟨a,t,rfl,g⟩:=vS h;rw[km.mp g];exact⟨a,rfl⟩
def ln2{nums:List Int}(h:nums.length=2): ∃a b,nums=[a,b]:=by obtain⟨a,t,rfl,g⟩:=vS h;obtain⟨b,rfl⟩:=JL g;exact⟨a,b,rfl⟩
def Tv{nums:List Int}(h:nums.length=5): ∃a b c d e,nums=[a,b,c,d,e]:=by obtain⟨a,t,rfl,g⟩:=vS h;obtain⟨b,u,rfl,k⟩:=vS g;obtain⟨c,v,rfl,f⟩:=vS k;obtain⟨d,e,rfl⟩:=ln2 f;exact⟨a,b,c,d,e,rfl⟩
def ln6{nums:List Int}(h:nums.length=6): ∃a b c d e f,nums=[a,b,c,d,e,f]:=by obtain⟨a,t,rfl,g⟩:=vS h;obtain⟨b,c,d,e,f,rfl⟩:=Tv g;exact⟨a,b,c,d,e,f,rfl⟩
def Cn(R:RC cc p nums row):(p=0/\cc=[[0]])\/(p=1/\cc=[[1],row])\/(∃x,p=2/\nums=[x]/\cc=[[2,x]])\/(∃x,p=3/\nums=[x]/\cc=[[3,x]])\/(∃x y,p=4/\nums=[x,y]/\cc=[[4,x,y]])\/(∃a b c d e f,p=5/\nums=[a,b,c,d,e,f]/\cc=[[5,a,b,c,d,e,f]])\/ ∃a b c d e,p=6/\nums=[a,b,c,d,e]/\cc=[[6,a,b,c,d,e],row]:=by
 obtain⟨le,len,no,yes⟩:=R;have:p=0\/p=1\/p=2\/p=3\/p=4\/p=5\/p=6:=by lia
 rcases this with rfl|rfl|rfl|rfl|rfl|rfl|rfl
 ·have:nums=[]:=km.mp len;subst this;exact .inl ⟨rfl,(no rfl).2⟩
 ·have:nums=[]:=km.mp len;subst this;exact .inr (.inl ⟨rfl,yes rfl⟩)
 ·obtain⟨a,rfl⟩:=JL len;exact .inr (.inr (.inl ⟨a,rfl,rfl,(no rfl).2⟩))
 ·obtain⟨a,rfl⟩:=JL len;exact .inr (.inr (.inr (.inl ⟨a,rfl,rfl,(no rfl).2⟩)))
 ·obtain⟨a,b,rfl⟩:=ln2 len;exact .inr (.inr (.inr (.inr (.inl ⟨a,b,rfl,rfl,(no rfl).2⟩))))
 ·obtain⟨a,b,c,d,e,f,rfl⟩:=ln6 len;exact .inr (.inr (.inr (.inr (.inr (.inl ⟨a,b,c,d,e,f,rfl,rfl,(no rfl).2⟩)))))
 ·obtain⟨a,b,c,d,e,rfl⟩:=Tv len;exact .inr (.inr (.inr (.inr (.inr (.inr ⟨a,b,c,d,e,rfl,rfl,yes rfl⟩)))))
def two32{x y:Int}(h:asked1 (PyKg15.whole [[4,x,y]])=true):whole32 x=true/\whole32 y=true:=by
 have h:(whole32 x&&whole32 y)=true:=h
 rwa [cI]at h
def Yo(R:RC cc p nums row)(h:asked1 (PyKg15.whole cc)=true)(hp:2<=p):step none (PyKg15.whole cc)=(none,[-9]):=by
 rcases Cn R with⟨rfl,_⟩|⟨rfl,_⟩|⟨x,rfl,_,rfl⟩|⟨x,rfl,_,rfl⟩|⟨x,y,rfl,_,rfl⟩|⟨a,b,c,d,e,f,rfl,_,rfl⟩|⟨a,b,c,d,e,rfl,_,rfl⟩
 ·trivial
 ·lia
 ·rw[Qa];rfl
 ·rw[P_ h];rfl
 ·rw[P9 (two32 h).1 (two32 h).2];rfl
 ·rw[P8 h];rfl
 ·rw[P7 h];rfl
def Yn(f:Kg15.Font)(R:RC cc p nums row)(h:asked1 (PyKg15.whole cc)=true)(hp:2<=p):
  (∃x:Nat,p=2/\nums=[(x:Int)]/\step (some f) (PyKg15.whole cc)=(some f,[(f.glyphOf x:Int)]))\/(∃x,p=3/\nums=[x]/\step (some f) (PyKg15.whole cc)=(some f,mL f x))\/(∃x y,p=4/\nums=[x,y]/\step (some f) (PyKg15.whole cc)=(some f,(oL f x y).getD [-1]))\/
  (∃a b c d e g,p=5/\nums=[a,b,c,d,e,g]/\step (some f) (PyKg15.whole cc)=(some f,(dL f a b c d e g).getD [-1]))\/ ∃a b c d e,p=6/\nums=[a,b,c,d,e]/\row.length<=256/\iV row=nV (kz row)/\step (some f) (PyKg15.whole cc)=(some f,(tL f (kz row) a b c d e).getD [-1]):=by
 rcases Cn R with⟨rfl,_⟩|⟨rfl,_⟩|⟨x,rfl,e1,rfl⟩|⟨x,rfl,e1,rfl⟩|⟨x,y,rfl,e1,rfl⟩|⟨a,b,c,d,e,g,rfl,e1,rfl⟩|⟨a,b,c,d,e,rfl,e1,rfl⟩
 ·trivial
 ·trivial
 ·left;have h:natural x 32=true:=h;unfold natural at h;simp at h;refine⟨x.toNat,rfl,by rw[e1,show((x.toNat:Nat):Int)=x by lia],?_⟩;rw[Qa];rfl
 ·right;left;refine⟨x,rfl,e1,?_⟩;rw[P_ h,<- acN];rfl
 ·right;right;left;refine⟨x,y,rfl,e1,?_⟩;rw[P9 (two32 h).1 (two32 h).2,<- acM];rfl
 ·right;right;right;left;refine⟨a,b,c,d,e,g,rfl,e1,?_⟩;rw[P8 h,<- acO];rfl
 ·right;right;right;right;obtain⟨z1,z2,_⟩:=PF h;refine⟨a,b,c,d,e,rfl,e1,z1,aed λ z hz=>(z2 z hz).1,?_⟩;rw[P7 h,<- acL];rfl
end
def PL(H:Hp)(a:Addr)(cc:List (List Int)):Prop:=kU λ(p:Nat)(nums row:List Int)(na ra:Addr)=>me (H a=some (.tup [.int (p:Int),.ref na,.ref ra])) (H na=some (.lst (iV nums))) (H ra=some (.lst (iV row))) (RC cc p nums row) (row.length<=30000)
inductive Hz(c:Cs)(vs:List V)(H:Hp)(Q:VK)(E:XK):Prop
 |mk (h ca:Addr) (s:Option Kg15.Font) (cc:List (List Int)) (H0:Hp):vs=[.ref h,.ref ca]->mO c H h s->je c H0 H h->(∀z,H z=none->H0 z=none)->PL H ca cc->Kg15Neutral.asked1 (PyKg15.whole cc)=true->(∀r H',az (λ x=>x=h) H H'->H r=none->mO c H' h (Kg15Neutral.step s (PyKg15.whole cc)).1->je c H0 H' h->H' r=some (.lst (iV (Kg15Neutral.step s (PyKg15.whole cc)).2))->Q (.ref r) H')->Hz c vs H Q E
set_option maxHeartbeats 1000000 in
theorem YA(g:aK mg)(tc:aW P w K mg c)(d:Df K mg "answer" (top 150) ["holder","call"]){kd:Nat}(h1:9<=kd)(HK:Sr)(Ek:cn P w K mg Ba c.NotWellTold "answer_with_font" ["font","kind","numbers","row"] kd (Hx c)):Kn P w K mg Ba "answer" ["holder","call"] (kd+1) (Hz c):=by
 refine d.ok ["holder","call","kind"] λ H Q E hr h nN=>?_;obtain⟨h,ca,st,cc,H0,rfl,wz,UZ,wk,⟨p,nums,row,na,ra,gx,eT,m8,R,J1⟩,ask,k⟩:=h;obtain⟨dx,fv,hh,hm⟩:=id wz;have qT:aP K H ca [.int (p:Int),.ref na,.ref ra]:=aP.of gx;refine⟨_,(ag (au 2 nN (bB (pv 1) af)) (ag (aI (aB dw (pv 2) (aX g.aa2)) (ag (cj tc.rM tc.rW (pv 0) xV) (ak (ay (bo (aa af ae))))) aM) (ag (aI (aB dw (pv 2) (aX g.acU)) (ak (ay (bo (aa (pk HK hr (aa (pv 0) (aa (bB (pv 1) af) ae))) ae)))) aM) (ag (aI (vd (Pd (aH tc.rM tc.rW (pv 0)))) (ak (ay (bo (aa (aX g.Y3) ae)))) aM) (ak (ab5 rfl rfl rfl rfl tc.jK rfl (λ pn Ex E xr=>(ak (ay (fP Ek xr hr (aa (aH tc.rM tc.rW (pv 0)) (aa (pv 2) (aa (sg K (pv 1) af) (aa (sg K (pv 1) af) ae)))))))) (λ pn A'=>(ak (ay (bo (aa (aX g.Va) ae))))))))))),?_⟩;refine dH (σ':=[some (.ref h),some (.ref ca),none]) rfl ?_;symm;by_cases p0:p=0
 ·rw[show decide ((p:Int)=0)=true from cQ (by simp_all)];symm;refine cb (fs':=[("font",.aG)]) hh rfl (by simp) λ H1 f1 b1=>?_;symm;refine aZ (lz (by simp)) λ r H2 n2 h2 s2=>?_;have ec:cc=[[0]]:=by
   rcases Cn R with⟨_,e⟩|⟨e,_⟩|⟨x,e,_⟩|⟨x,e,_⟩|⟨x,y,e,_⟩|⟨_,_,_,_,_,_,e,_⟩|⟨_,_,_,_,_,e,_⟩
   ·exact e
   all_goals simp_all
  subst ec;rw[ac5]at k;refine k r H2 (λ y o e n=>s2 _ _ (b1 _ _ e n)) ?_ ⟨dx,.aG,s2 _ _ f1,rfl⟩ (je.aG (s2 _ _ f1)) h2;cases e:H r with
  |none=>rfl
  |some o=>
   by_cases z:r=h
   ·rw[z,f1]at n2;cases n2
   ·rw[b1 _ _ e z]at n2;cases n2
 by_cases p1:p=1
 ·rw[show decide ((p:Int)=0)=false from cH (by simp_all)];symm;rw[show decide ((p:Int)=1)=true from cQ (by simp_all)];symm;have ec:cc=[[1],row]:=by
   rcases Cn R with⟨e,_⟩|⟨_,e⟩|⟨x,e,_⟩|⟨x,e,_⟩|⟨x,y,e,_⟩|⟨_,_,_,_,_,_,e,_⟩|⟨_,_,_,_,_,e,_⟩
   rotate_left
   ·exact e
   all_goals simp_all
  subst ec;rw[ac4 ask J1]at k;refine⟨h,ra,st,bytesOf row,rfl,wz,by rw[<- aee (Ya ask)];exact m8,by unfold bytesOf;rw[aV];exact J1,λ H1 C7 lZ of1=>?_⟩;symm;refine aZ (lz (by simp)) λ r H2 n2 h2 s2=>?_;have eo:(does st (.load (some (bytesOf row)))).2.out=[]:=by
   cases e:fontOf (bytesOf row)with
   |error n=>rw[Nt e];rfl
   |ok f=>rw[OE e];rfl
  rw[eo]at k;refine k r H2 (C7.add s2) ?_ (lZ.same s2) ((of1.weak wk).keep lZ (λ u e=>s2 _ _ e) λ fa C dx fs e _=>s2 _ _ e) h2;obtain⟨dx1,fv1,hh1,_⟩:=lZ;cases e:H r with
  |none=>rfl
  |some o=>
   by_cases z:r=h
   ·rw[z,hh1]at n2;cases n2
   ·rw[C7 _ _ e z]at n2;cases n2
 have jf:2<=p:=by lia
 rw[show decide ((p:Int)=0)=false from cH (by simp_all)];symm;rw[show decide ((p:Int)=1)=false from cH (by lia)];symm;cases st with
 |none=>
  have hm:fv= .aG:=hm;subst hm;rw[Yo R ask jf]at k;symm;refine aZ (lz (by simp)) λ r H2 n2 h2 s2=>?_;exact k r H2 (az.of s2) n2 (wz.same s2) (UZ.keep wz (λ u e=>s2 _ _ e) λ fa C dx fs e _=>s2 _ _ e) h2
 |some f=>
  obtain⟨fa,rfl,F⟩:=hm;symm;have fin: ∀l,Kg15Neutral.step (some f) (PyKg15.whole cc)=(some f,l)->An H Q l:=λ l e r H2 n2 s2 h2=>by rw[e]at k;exact k r H2 (az.of s2) n2 (wz.same s2) (UZ.keep wz (λ u e=>s2 _ _ e) λ fa C dx fs e _=>s2 _ _ e) h2
  have fin2: ∀(o:Option (List Int))(E':XK),Kg15Neutral.step (some f) (PyKg15.whole cc)=(some f,o.getD [-1])->(∀H',(An H Q [-1])->aq H H'->E' (.ref c.NotWellTold) none H')->sN c H Q E' o:=λ o E' e hE=>by refine⟨λ l el=>fin l (by rw[e,el];rfl),λ en H' s'=>hE H' (fin _ (by rw[e,en];rfl)) s'⟩
  rcases Yn f R ask jf with⟨x,rfl,rfl,e⟩|⟨x,rfl,rfl,e⟩|⟨x,y,rfl,rfl,e⟩|⟨a1,a2,a3,a4,a5,a6,rfl,rfl,e⟩|⟨a1,a2,a3,a4,a5,rfl,rfl,rl,er,e⟩
  ·exact⟨fa,na,ra,f,F,.inl ⟨x,rfl,eT,fin _ e⟩⟩
  ·exact⟨fa,na,ra,f,F,.inr (.inl ⟨x,rfl,eT,fin _ e⟩)⟩
  ·refine⟨fa,na,ra,f,F,.inr (.inr (.inl ⟨x,y,rfl,eT,fin2 _ _ e λ H' a s'=>?_⟩))⟩;show vA (sC (i7 (tC (V.int (-1))) jc)) _ _ H';symm;exact aZ (lz (by simp)) λ r H2 n2 h2 s2=>a r H2 (s'.free n2) (s'.trans s2) h2
  ·refine⟨fa,na,ra,f,F,.inr (.inr (.inr (.inl ⟨a1,a2,a3,a4,a5,a6,rfl,eT,fin2 _ _ e λ H' a s'=>?_⟩)))⟩;show vA (sC (i7 (tC (V.int (-1))) jc)) _ _ H';symm;exact aZ (lz (by simp)) λ r H2 n2 h2 s2=>a r H2 (s'.free n2) (s'.trans s2) h2
  ·refine⟨fa,na,ra,f,F,.inr (.inr (.inr (.inr ⟨a1,a2,a3,a4,a5,kz row,rfl,eT,by rw[<- er];exact m8,by unfold kz;rw[aV];exact rl,fin2 _ _ e λ H' a s'=>?_⟩)))⟩;show vA (sC (i7 (tC (V.int (-1))) jc)) _ _ H';symm;exact aZ (lz (by simp)) λ r H2 n2 h2 s2=>a r H2 (s'.free n2) (s'.trans s2) h2
end
def xM{α:Type}{l A B:List α}{n:Nat}(h:l.drop n=A++B):l.drop (n+A.length)=B:=by rw[<- E3,h,List.drop_left]
def PD{α:Type}{l B:List α}{x:α}{n:Nat}(h:l.drop n=x::B):l[n]?=some x:=by
 have:(l.drop n)[0]?=some x:=by rw[h];rfl
 rw[List.getElem?_drop]at this;exact this
def ON{l A B:List Int}{n:Nat}(h:l.drop n=A++B):((iV l).drop n).take A.length=iV A:=by unfold iV;rw[<- Ap,h,<- E1,List.take_left]
def aeb{p:Nat}(h:p<=6):eW [V.int 0,.int 0,.int 1,.int 1,.int 2,.int 6,.int 5] (p:Int)=some (.int (NC p:Nat)):=by
 have:p=0\/p=1\/p=2\/p=3\/p=4\/p=5\/p=6:=by lia
 rcases this with rfl|rfl|rfl|rfl|rfl|rfl|rfl<;>rfl
def aeg{p:Nat}(h:p<=6):eW [V.bl false,.bl true,.bl false,.bl false,.bl false,.bl false,.bl true] (p:Int)=some (.bl (HR p)):=by
 have:p=0\/p=1\/p=2\/p=3\/p=4\/p=5\/p=6:=by lia
 rcases this with rfl|rfl|rfl|rfl|rfl|rfl|rfl<;>rfl
def pN(H0 H:Hp)(a:Addr)(cc:List (List Int)):Prop:=∃(p:Nat)(nums row:List Int)(na ra:Addr),H a=some (.tup [.int (p:Int),.ref na,.ref ra])/\H na=some (.lst (iV nums))/\H ra=some (.lst (iV row))/\RC cc p nums row/\row.length<=30000/\H0 na=none/\H0 ra=none
inductive Ob(K:W.Frag)(vs:List V)(H:Hp)(Q:VK)(E:XK):Prop
 |mk (a:Addr) (l:List Int) (cs:List (List (List Int))) (f:Nat):vs=[.ref a]->ah K H a (iV l)->l.length<=30000->PyFlat.calls PyKg15.shape f l=some cs->(∀r H' as,H r=none->aq H H'->H' r=some (.lst (rV as))->Paired (pN H H') as cs->Q (.ref r) H')->Ob K vs H Q E
abbrev Ss:=Kn P w K mg Ba "cut_calls" ["calls"] 1 (Ob K)
set_option maxHeartbeats 1000000 in
def W4(g:aK mg)(tc:aW P w K mg c)(d:Df K mg "cut_calls" (top 149) ["calls"]):Ss:=by
 refine d.ok ["calls","cut","at","kind","row_at","numbers","row"] λ H Q E hr h nN=>?_;obtain⟨a,l,cs,fu,rfl,qa,hl,gf,k⟩:=h;refine⟨_,(ag (au 1 nN (bo ae)) (ag (au 2 nN af) (ag (uV wR (aB cW (pv 2) (bX bZ g.bS (aa (pv 0) ae))) (ag (au 3 nN (bO (pv 0) (pv 2))) (ag (au 4 nN (aj aJ (aj aJ (pv 2) af) (bB (vL tc.VI) (pv 3)))) (ag (au 5 nN (mC mE (pv 0) (iz (aj aJ (pv 2) af)) (iz (pv 4)))) (ag (au 6 nN (bo ae)) (ag (au 2 nN (pv 4)) (ag (aI (gJ (bB (vL tc.Wo) (pv 3))) (ag (au 2 nN (aj aJ (aj aJ (pv 4) af) (bO (pv 0) (pv 4)))) (ak (au 6 nN (mC mE (pv 0) (iz (aj aJ (pv 4) af)) (iz (pv 2)))))) aM) (ak (cB (gU (pv 1) (aa (jw (aa (pv 3) (aa (pv 5) (aa (pv 6) ae)))) ae))))))))))) (ak (ay (pv 1)))))),?_⟩;refine dH (σ':=[some (.ref a),none,none,none,none,none,none]) rfl ?_;symm;refine aZ (lz (by simp)) λ cu H1 n1 h1 s1=>?_;symm;refine uX (λ m σ H'=>KR λ(at_:Nat)(as:List Addr)(dn rs:List (List (List Int)))(fu:Nat)(v1 v2 v3 v4:Option V)=>D9 (σ=[some (.ref a),some (.ref cu),some (.int at_),v1,v2,v3,v4]) (az (λ y=>y=cu) H1 H') (H' cu=some (.lst (rV as))) (Paired (pN H1 H') as dn) (as.length<=at_) (at_<=l.length) (PyFlat.calls PyKg15.shape fu (l.drop at_)=some rs) (cs=dn++rs) (m=l.length-at_)) ⟨_,0,[],[],cs,fu,none,none,none,none,rfl,az.refl,h1,.nil,cP _,cP _,gf,rfl,rfl⟩ ?_;rintro m σ H' ⟨at_,as,dn,rs,fu,v1,v2,v3,v4,rfl,sx,j4,has,fK,iP,Dx,CV,rfl⟩;have sm:aq H H':=λ b o e=>sx _ _ (s1 _ _ e) (cC e n1);have vJ:=sm.seq qa
 nofun
 ·rename_i c1;have bH:l.drop at_≠ []:=λ z=>by rw[List.drop_eq_nil_iff]at z;lia
  obtain⟨p,nums,row,t,cc,UH,S5,R,dl,rfl,RV⟩:=YY bH Dx;have agd:=R.len;have wo:l.drop (at_+1)=nums++if HR p=true then(row.length:Int)::(row++t)else t:=xM (A:=[(p:Int)]) dl;refine bW vJ (v:= .int (p:Int)) (at_of rfl (mK.mpr ⟨_,PD dl,rfl⟩)) ?_;symm;refine B_ (tc.Vy H') (aeb R.le) ?_;symm;refine pV vJ λ na H2 n2 h2 s2=>?_;rw[Hn (m:=at_+1) (n:=at_+1+NC p) (by rfl) (by rfl) (by simp),show at_+1+NC p-(at_+1)=nums.length by simp_all,ON wo]at h2;symm;refine aZ (lz (by simp)) λ r0 H3 n3 h3 s3=>?_;symm;refine B_ (tc.V8 H3) (aeg R.le) ?_;symm;have Jx:=s3.seq (s2.seq vJ);cases J0:HR p with
  |true=>
   rw[J0,ao rfl]at wo;have zZ:=xM wo;have KC:l.drop (at_+1+nums.length+1)=row++t:=xM (A:=[(row.length:Int)]) zZ;have dl4:=xM KC;have ll:at_+1+nums.length+1+row.length<=l.length:=by have e:=gh List.length KC;have e2:=gh List.length zZ;rw[jq,bq]at e;rw[jq,dX]at e2;omega
   symm;refine bW Jx (v:= .int (row.length:Int)) (at_of (j:=at_+1+nums.length) (by simp_all) (mK.mpr ⟨_,PD zZ,rfl⟩)) ?_;symm;refine pV Jx λ ra H4 n4 h4 s4=>?_;rw[Hn (m:=at_+1+nums.length+1) (n:=at_+1+nums.length+1+row.length) (by simp_all) (by simp_all) (by simp),A2,ON KC]at h4;have agn:=s4 _ _ (s3 _ _ (s2 _ _ j4));symm;refine fW (lz (by simp)) λ T H5 n5 h5 s5=>?_;have tj: ∀y o,H' y=some o->H5 y=some o:=λ y o e=>s5 _ _ (s4 _ _ (s3 _ _ (s2 _ _ e)));symm;refine d8 (tj _ _ j4) (by rw[a_,aL];lia) λ H6 h6 b6=>?_;have zp:na≠cu:=λ z=>by rw[z,j4]at n2;cases n2
   have zo:ra≠cu:=λ z=>by rw[z]at n4;rw[s3 _ _ (s2 _ _ j4)]at n4;cases n4
   have JC:T≠cu:=λ z=>by rw[z]at n5;rw[s4 _ _ (s3 _ _ (s2 _ _ j4))]at n5;cases n5
   have jB:az (λ y=>y=cu) H1 H6:=λ y o e n=>b6 _ _ (tj _ _ (sx _ _ e n)) n;have yC: ∀y,H' y=none->y≠cu->H1 y=none:=λ y e n=>by
    cases e2:H1 y with
    |none=>rfl
    |some o=>rw[sx _ _ e2 n]at e;cases e
   have old: ∀x q,pN H1 H' x q->pN H1 H6 x q:=λ x q z=>by obtain⟨p',yl,yw,zt,yZ,y1,y2,y3,y4,y5,y6,y7⟩:=z;have s_: ∀y o,y≠cu->H' y=some o->H6 y=some o:=λ y o n e=>b6 _ _ (tj _ _ e) n;exact⟨p',yl,yw,zt,yZ,s_ _ _ (λ z=>by rw[z,j4]at y1;cases y1) y1,s_ _ _ (λ z=>by rw[z,h1]at y6;cases y6) y2,s_ _ _ (λ z=>by rw[z,h1]at y7;cases y7) y3,y4,y5,y6,y7⟩
   have new:pN H1 H6 T cc:=⟨p,nums,row,na,ra,b6 _ _ h5 JC,b6 _ _ (s5 _ _ (s4 _ _ (s3 _ _ h2))) zp,b6 _ _ (s5 _ _ h4) zo,R,by lia,yC _ n2 zp,yC _ (s2.free (s3.free n4)) zo⟩;refine⟨l.length-(at_+1+nums.length+1+row.length),by grind,at_+1+nums.length+1+row.length,as++[T],dn++[cc],S5,UH,some (.int (p:Int)),some (.int ((at_:Int)+1+(NC p:Nat))),some (.ref na),some (.ref ra),?_,jB,by rw[h6,fF],eY (Paired.a8 has old) new,by rw[bq];simp;lia,by trivial,by rw[dl4];exact RV,by rw[CV,gE];rfl,rfl⟩;rw[show((at_:Int)+1+(NC p:Nat)+1+(row.length:Nat))=((at_+1+nums.length+1+row.length:Nat):Int) by lia]
  |false=>
   rw[J0,ai (by simp)]at wo;have zZ:=xM wo;have Se:row=[]:=(R.no J0).1;have h3r:H3 r0=some (.lst (iV row)):=by rw[h3,Se];rfl
   have ll:at_+1+nums.length<=l.length:=by
    have e:=gh List.length wo;rw[jq,bq]at e;by_cases z:nums.length=0
    ·lia
    ·lia
   have ago:=s3 _ _ (s2 _ _ j4);symm;refine fW (lz (by simp)) λ T H5 n5 h5 s5=>?_;have tj: ∀y o,H' y=some o->H5 y=some o:=λ y o e=>s5 _ _ ((s3 _ _ (s2 _ _ e)));symm;refine d8 (tj _ _ j4) (by rw[a_,aL];lia) λ H6 h6 b6=>?_;have zp:na≠cu:=λ z=>by rw[z,j4]at n2;cases n2
   have zo:r0≠cu:=λ z=>by rw[z]at n3;rw[s2 _ _ j4]at n3;cases n3
   have JC:T≠cu:=λ z=>by rw[z]at n5;rw[s3 _ _ (s2 _ _ j4)]at n5;cases n5
   have jB:az (λ y=>y=cu) H1 H6:=λ y o e n=>b6 _ _ (tj _ _ (sx _ _ e n)) n;have yC: ∀y,H' y=none->y≠cu->H1 y=none:=λ y e n=>by
    cases e2:H1 y with
    |none=>rfl
    |some o=>rw[sx _ _ e2 n]at e;cases e
   have old: ∀x q,pN H1 H' x q->pN H1 H6 x q:=λ x q z=>by obtain⟨p',yl,yw,zt,yZ,y1,y2,y3,y4,y5,y6,y7⟩:=z;have s_: ∀y o,y≠cu->H' y=some o->H6 y=some o:=λ y o n e=>b6 _ _ (tj _ _ e) n;exact⟨p',yl,yw,zt,yZ,s_ _ _ (λ z=>by rw[z,j4]at y1;cases y1) y1,s_ _ _ (λ z=>by rw[z,h1]at y6;cases y6) y2,s_ _ _ (λ z=>by rw[z,h1]at y7;cases y7) y3,y4,y5,y6,y7⟩
   have new:pN H1 H6 T cc:=⟨p,nums,row,na,r0,b6 _ _ h5 JC,b6 _ _ (s5 _ _ ((s3 _ _ h2))) zp,b6 _ _ (s5 _ _ h3r) zo,R,by rw[Se];simp,yC _ n2 zp,yC _ (s2.free n3) zo⟩;refine⟨l.length-(at_+1+nums.length),by grind,at_+1+nums.length,as++[T],dn++[cc],S5,UH,some (.int (p:Int)),some (.int ((at_:Int)+1+(NC p:Nat))),some (.ref na),some (.ref r0),?_,jB,by rw[h6,fF],eY (Paired.a8 has old) new,by rw[bq];simp;lia,by trivial,by rw[zZ];exact RV,by rw[CV,gE];rfl,rfl⟩;rw[show((at_+1+nums.length:Nat):Int)=(at_:Int)+1+(NC p:Nat) by simp_all]
 ·rename_i c1;have e:at_=l.length:=by lia
  subst e;rw[Az]at Dx;have:rs=[]:=by unfold PyFlat.calls at Dx;cases fu<;>(cases Dx;rfl)
  subst this;symm;rw[cG]at CV;subst CV;refine k cu H' as n1 sm j4 (Paired.a8 has λ x q z=>?_);obtain⟨p',yl,yw,zt,yZ,y1,y2,y3,y4,y5,y6,y7⟩:=z;exact⟨p',yl,yw,zt,yZ,y1,y2,y3,y4,y5,s1.free y6,s1.free y7⟩
def Z6{H:Hp}{Q:VK}(q: ∀x H1,H x=none->aq H H1->mO c H1 x none->Q (.ref x) H1):oZ c.Holder (GH c) [] H Q:=λ x dx hx iO ne=>
 ⟨x,dx,rfl,br,λ H' g1 b'=>⟨rfl,q x H' hx (aq.made hx iO b') ⟨dx,.aG,g1,rfl⟩⟩⟩
set_option maxHeartbeats 1000000 in
def XR(g:aK mg)(tc:aW P w K mg c)(d:Df K mg "answers" (top 148) ["calls"]){kd:Nat}(hk:2<=kd)(GW:Su)(F4:Ss)(GV:Kn P w K mg Ba "answer" ["holder","call"] kd (Hz c)):Kn P w K mg Ba "answers" ["calls"] (kd+1) (xy K):=by
 refine d.ok ["calls","holder","given","call","answered"] λ H Q E hr h nN=>?_;obtain⟨a,l,rfl,qa,hl,ask,k⟩:=h;obtain⟨cs,gf,hn,afC,agf,afD⟩:=Y6 ask;refine⟨_,(ag (au 1 nN (ae1 GW hr)) (ag (au 2 nN (bo ae)) (ag (fJ (c_ (pk F4 hr (aa (pv 0) ae))) (aT 3 nN) (ag (au 4 nN (pk GV hr (aa (pv 1) (aa (pv 3) ae)))) (ag (cB (gU (pv 2) (aa (bX bZ g.bS (aa (pv 4) ae)) ae))) (ak (cB (nX (pv 2) (aa (pv 4) ae))))))) (ak (ay (pv 2)))))),?_⟩;refine dH (σ':=[some (.ref a),none,none,none,none]) rfl ?_;symm;refine Z6 λ hd H1 n1 s1 lZ=>?_;symm;refine aZ (lz (by simp)) λ gv H2 n2 h2 s2=>?_;symm;refine⟨a,l,cs,_,rfl,s2.seq (s1.seq qa),hl,gf,λ r H3 as n3 s3 h3 hp=>?_⟩;have Ud:=(lZ.same s2).same s3;have CU:=s3 _ _ h2;obtain⟨Kz,fv3,ig,Ky⟩:=id Ud;have Ky:fv3= .aG:=Ky;subst Ky;have Dk:hd≠gv:=λ z=>by rw[z,CU]at ig;cases ig
 have nrh:r≠hd:=λ z=>by rw[z,ig]at h3;cases h3
 have nrg:r≠gv:=λ z=>by rw[z,h2]at n3;cases n3
 have qr:ah K H3 r (rV as):=ah.of h3;have hlen:=bw hp;generalize hW:cs.map PyKg15.whole=W at*;have hWl:W.length=cs.length:=by rw[<- hW,aV]
 symm;refine L2.Rd.fl (xs:=rV as) (λ i σ H'=>wC λ(v3 v4:Option V)=>Ag (σ=[some (.ref a),some (.ref hd),some (.ref gv),v3,v4]) (az (λ y=>y=hd\/y=gv) H3 H') (mO c H' hd (Mx.after Kg15Neutral.start (W.take i))) (je c H3 H' hd) (∀z,H' z=none->H3 z=none) (H' gv=some (.lst (iV (PyFlat.told (PyFlat.played Kg15Neutral.step Kg15Neutral.start (W.take i))))))) ?_ ?_ ?_ ?_
 ·exact⟨none,none,rfl,az.refl,Ud,je.aG ig,λ _ h=>h,CU⟩
 ·rintro i σ H' _ ⟨v3,v4,rfl,sx,_⟩;exact ah.of (sx _ _ h3 λ z=>z.elim nrh nrg)
 ·rintro i x σ H' hx ⟨v3,v4,rfl,sx,ho,off,wk,zO⟩;obtain⟨ca,gx,rfl⟩:=dc.mp hx;obtain⟨cc,eV,p,nums,row,na,ra,y1,y2,y3,y4,y5,y6,y7⟩:=Paired.at hp gx;have hic:=(bC.mp eV).1;have hWi:W[i]?=some (PyKg15.whole cc):=by rw[<- hW,fx,eV];rfl
  obtain⟨et,ea⟩:=Yk hWi Kg15Neutral.start;have tl: ∀j,(PyFlat.told (PyFlat.played Kg15Neutral.step Kg15Neutral.start (W.take j))).length<=1000100:=λ j=>by
   have h1:=Mx.Bt (W.take j) Kg15Neutral.start;have h2:=Yj (W.take j) (W.drop j) Kg15Neutral.start;rw[nS]at h2;have h3:(W.take j).length<=W.length:=by rw[gC];lia
   lia
  have tl1:=tl (i+1);rw[et,bq,dX]at tl1;have tl0:=tl i;have Uh: ∀y xs,H3 y=some (.lst xs)->H2 y=none-> ¬(y=hd\/y=gv):=λ y xs e n z=>by
   rcases z with z|z
   ·rw[z,ig]at e;cases e
   ·rw[z,h2]at n;cases n
  have cAt:PL H' ca cc:=⟨p,nums,row,na,ra,sx _ _ y1 (λ z=>by
   rcases z with z|z
   ·rw[z,ig]at y1;cases y1
   ·rw[z,CU]at y1;cases y1),sx _ _ y2 (Uh _ _ y2 y6),sx _ _ y3 (Uh _ _ y3 y7),y4,y5⟩
  symm;refine⟨hd,ca,_,cc,H3,rfl,ho,off,wk,cAt,afC cc (eG eV),λ r4 H4 vG n4 Ka Td h4=>?_⟩;have IU:=vG _ _ zO λ z=>Dk z.symm;have q4:ah K H4 r4 (iV _):=ah.of h4;have nr4:r4≠gv:=λ z=>by rw[z,zO]at n4;cases n4
  symm;refine d8 IU (by rw[bG,aL];exact nP ‹_› (by decide)) λ H5 h5 b5=>?_;symm;refine jy h5 (b5 _ _ h4 nr4) (by rw[bq,bG,bG,aL];simp;lia) λ H6 h6 b6=>?_;have lK: ∀y o,H4 y=some o->y≠gv->H6 y=some o:=λ y o e n=>b6 _ _ (b5 _ _ e n) n;refine⟨_,_,rfl,λ y o e n=>lK _ _ (vG _ _ (sx _ _ e n) λ z=>n (.inl z)) λ z=>n (.inr z),?_,?_,λ z hz=>?_,?_⟩
  ·rw[ea];generalize Kg15Neutral.step (Mx.after Kg15Neutral.start (W.take i)) (PyKg15.whole cc)=st at*;obtain⟨dx,fv,e,m⟩:=Ka;refine⟨dx,fv,lK _ _ e Dk,?_⟩;obtain⟨s1',l1'⟩:=st;dsimp only at m⊢;cases s1' with
   |none=>exact m
   |some f=>
    obtain⟨fa,rfl,⟨cO,x,p',y,m',g1,g2,g3,g4,g5⟩,G⟩:=m;have ng: ∀z∈[x,p',y,m'],z≠gv:=λ z hz w=>by have:=Td dx fa cO f x p' y m' e g1 z hz;rw[w,CU]at this;cases this
    exact⟨fa,rfl,⟨cO,x,p',y,m',lK _ _ g1 λ z=>by(rw[z,IU]at g1;cases g1),lK _ _ g2 (ng _ (by simp)),lK _ _ g3 (ng _ (by simp)),lK _ _ g4 (ng _ (by simp)),lK _ _ g5 (ng _ (by simp))⟩,G⟩
  ·exact Td.keep Ka (λ u e=>lK _ _ e Dk) λ fa C dx fs e _=>lK _ _ e λ z=>by rw[z,IU]at e;cases e
  ·cases e:H3 z with
   |none=>rfl
   |some o=>
    obtain⟨dx,fv,e4,_⟩:=Ka;by_cases z1:z=hd
    ·rw[z1,lK _ _ e4 Dk]at hz;cases hz
    by_cases z2:z=gv
    ·rw[z2,h6]at hz;cases hz
    rw[lK _ _ (vG _ _ (sx _ _ e λ w=>w.elim z1 z2) z1) z2]at hz;cases hz
  ·rw[h6,et,gK,gE];rfl
 ·rintro σ H' ⟨v3,v4,rfl,sx,ho,off,wk,zO⟩;symm;rw[fE (by rw[a_];simp_all)]at zO;exact k gv H' (by rw[afD];exact zO)
section
open PySem PySem.W PyProof.Rows
theorem OK{lo hi:Int}: ∀{ds:List WData}{ns:List Int},Codec.decItems (Codec.decInt lo hi) ds=some ns->ds=ns.map WData.int/\ ∀n∈ns,lo<=n/\n<=hi
 |[],ns,h=>by
  have h':some ([]:List Int)=some ns:=h;cases h';exact⟨rfl,λ n hn=>absurd hn (by simp)⟩
 |d::ds,ns,h=>by
  have h':Codec.both List.cons (Codec.decInt lo hi d) (Codec.decItems (Codec.decInt lo hi) ds)=some ns:=h;cases h1:Codec.decInt lo hi d with
  |none=>rw[h1]at h';cases h'
  |some x=>
   cases h2:Codec.decItems (Codec.decInt lo hi) ds with
   |none=>rw[h1,h2]at h';cases h'
   |some xs=>
    rw[h1,h2]at h';have h3:some (x::xs)=some ns:=h';cases h3;obtain⟨e,b⟩:=OK h2;have:d= .int x/\lo<=x/\x<=hi:=by
     unfold Codec.decInt at h1;split at h1
     ·split at h1
      ·cases h1;rename_i z hz;unfold Codec.inInt at hz;simp only[cI,AI]at hz;exact⟨rfl,hz⟩
      ·cases h1
     ·cases h1
    obtain⟨rfl,b1⟩:=this;refine⟨by rw[cF,e],λ n hn=>?_⟩;rcases bV.mp hn with rfl|hn
    ·exact b1
    ·exact b n hn
theorem Om{p:Program}{nm:Str}{ret:Codec}{lo hi:Int}{m:Nat}{asked:List Int->Bool}{f:List Int->ret.denote}{as:List WData}(h:(OpenSpec.mk p nm [Codec.list 0 m (Codec.int lo hi)] ret asked f).pre as=true):
  ∃ns:List Int,as=[.list (ns.map WData.int)]/\ns.length<=m/\(∀n∈ns,lo<=n/\n<=hi)/\asked ns=true/\(OpenSpec.mk p nm [Codec.list 0 m (Codec.int lo hi)] ret asked f).post as (ret.enc (f ns))=true:=by
 cases hd:Codec.decAll [Codec.list 0 m (Codec.int lo hi)] as with
 |none=>unfold OpenSpec.pre at h;rw[hd]at h;cases h
 |some a=>
  have ha:Codec.app (R:=Bool) [Codec.list 0 m (Codec.int lo hi)] asked a=true:=by unfold OpenSpec.pre at h;rw[hd]at h;exact h
  have hp:(OpenSpec.mk p nm [Codec.list 0 m (Codec.int lo hi)] ret asked f).post as (ret.enc (Codec.app (R:=ret.denote) [Codec.list 0 m (Codec.int lo hi)] f a))=true:=os_post hd (same_self _);obtain⟨ns,u⟩:=a
  match as,hd with
  |[],hd=>cases hd
  |d::d2::r,hd=>
   have fq:Codec.both Prod.mk ((Codec.list 0 m (Codec.int lo hi)).dec d) none=some (ns,u):=hd;cases hq:(Codec.list 0 m (Codec.int lo hi)).dec d with
   |none=>rw[hq]at fq;cases fq
   |some y=>rw[hq]at fq;cases fq
  |[d],hd=>
   have fq:Codec.both Prod.mk (Codec.decList 0 m (Codec.decInt lo hi) d) (some ())=some (ns,u):=hd;cases hq:Codec.decList 0 m (Codec.decInt lo hi) d with
   |none=>rw[hq]at fq;cases fq
   |some y=>
    rw[hq]at fq;have h3:some (y,())=some (ns,u):=fq;cases h3;unfold Codec.decList at hq;split at hq
    ·split at hq
     ·rename_i ds hl;obtain⟨e,b⟩:=OK hq;unfold Codec.inLen Codec.inNat at hl;simp only[cI,AI,e,aV]at hl;exact⟨ns,by rw[e],hl.2,b,ha,hp⟩
     ·cases hq
    ·cases hq
theorem Mb: ∀{a b:List Int},a.map WData.int=b.map WData.int->a=b
 |[],[],_=>rfl
 |[],_::_,e=>by cases e
 |_::_,[],e=>by cases e
 |x::a,y::b,e=>by rw[cF,cF]at e;injection e with e1 e2;injection e1 with e1;rw[e1,Mb e2]
def Z9{p:Program}{nm:Str}{l2 h2:Int}{m l h:Nat}{as:List WData}(hm:m<=sizeLine)(q:(OpenSpec.mk p nm [Codec.list 0 m (Codec.int (Int.negSucc l) (Int.ofNat h))] (Codec.list 0 1048576 (Codec.int l2 h2)) PyKg15.answers_asked PyKg15.answers).pre as=true):
  ∃ns:List Int,as=[.list (ns.map WData.int)]/\ns.length<=sizeLine/\(∀n∈ns,Int.negSucc l<=n/\n<=Int.ofNat h)/\(OpenSpec.mk p nm [Codec.list 0 m (Codec.int (Int.negSucc l) (Int.ofNat h))] (Codec.list 0 1048576 (Codec.int l2 h2)) PyKg15.answers_asked PyKg15.answers).pre [.list (ns.map WData.int)]=true/\(OpenSpec.mk p nm [Codec.list 0 m (Codec.int (Int.negSucc l) (Int.ofNat h))] (Codec.list 0 1048576 (Codec.int l2 h2)) PyKg15.answers_asked PyKg15.answers).post as (.list ((PyKg15.answers ns).map WData.int))=true:=by
 obtain⟨ns,e,l,b,a,p⟩:=Om q;exact⟨ns,e,bY l hm,b,e▸q,p⟩
def aa_{p:Program}{nm:Str}{lo hi:Int}{ret:Codec}{K:Frag}{f:List Int->ret.denote}(H:Hp)(a:Addr)(ns:List Int)(h:(OpenSpec.mk p nm [Codec.list 0 30000 (Codec.int lo hi)] ret PyKg15.answers_asked f).pre [.list (ns.map WData.int)]=true)(q:ah K H a (ns.map V.int)):
  xy K [.ref a] H (λ v H'=>∃r,v= .ref r/\H' r=some (.lst ((PyKg15.answers ns).map V.int))) E0:=by
 obtain⟨qJ,e,l,b,k,p⟩:=Om h;injection e with e;injection e with e;obtain rfl:=Mb e;exact⟨a,ns,rfl,q,l,k,λ r H' hr=>⟨r,rfl,hr⟩⟩
end
end L2.Rd
local macro_rules|`(tactic|walk_at "bd")=>`(tactic|((intro _ _ _ _ _ _);(repeat (refine L2.Rd.bL λ _=>?_));exact L2.Rd.bN (by kernel_rfl)))
unseal L2.Rd.P L2.Rd.w L2.Rd.K L2.Rd.mg L2.Rd.Ba L2.Rd.c
set_option maxHeartbeats 0 in
theorem PySem.Challenge.cw_shapefile_s01_answers_holds : PySem.Challenge.rw_shapefile_s01_answers.Holds := by
 refine hd._proof_870 ?_
 open PySem PySem.W PyProof.Rows L2.Rd in
  refine Yd (r:=PySem.Challenge.rw_shapefile_s01_answers) (k:=79) (lo:=Int.negSucc 2147483647) (hi:=Int.ofNat 4294967295) (x:="calls") (g:=PyKg15.answers) (sp:=λ w=>xy (hd.heap_1 w.params)) (λ as h=>Z9 (by decide) h) rfl ⟨rfl,by decide,by decide⟩ (λ w h Y=>W.kIn_of Y) ?F λ w H a ns h _ _ q=>aa_ H a ns h q
  suffices z:L2.Rd.Go L2.Rd.p0 from λ w mg h KX G Ba=>L2.Rd.acB z (w,mg,h,Ba) KX G
  intro KX G;have g:aK L2.Rd.mg:=by constructor<;>first|exact aem KX G rfl|exact mg_none_of KX G rfl
  have tc:aW L2.Rd.P L2.Rd.w L2.Rd.K L2.Rd.mg L2.Rd.c:=⟨by decide,
   mg_of KX G rfl,
   ⟨rfl,rfl,rfl,rfl⟩,
   rfl,
   rfl,
   rfl,
   rfl,
   rfl,
   rfl,
   rfl,
   mg_of KX G rfl,
   acD KX G rfl rfl rfl rfl rfl,
   mg_of KX G rfl,
   ⟨rfl,rfl,rfl,rfl⟩,
   rfl,
   rfl,
   mg_of KX G rfl,
   ⟨rfl,rfl,rfl,rfl⟩,
   rfl,
   rfl,
   rfl,
   mg_of KX G rfl,
   ⟨rfl,rfl,rfl,rfl⟩,
   rfl,
   rfl,
   mg_of KX G rfl,
   ⟨rfl,rfl,rfl,rfl⟩,
   rfl,
   rfl,
   rfl,
   rfl,
   rfl,
   rfl,
   rfl,
   rfl,
   mg_of KX G rfl,
   ⟨rfl,rfl,rfl,rfl⟩,
   rfl,
   rfl,
   rfl,
   rfl,
   rfl,
   rfl,
   rfl,
   rfl,
   rfl,
   mg_of KX G rfl,
   ⟨rfl,rfl,rfl,rfl⟩,
   rfl,
   mg_of KX G rfl,
   aaU rfl rfl (by decide) (by decide) ⟨rfl,rfl,⟨_,rfl⟩,rfl,rfl,⟨_,rfl⟩,rfl,rfl,⟨_,rfl⟩,rfl,rfl,⟨_,rfl⟩,rfl,rfl,⟨_,rfl⟩,rfl,rfl,⟨_,rfl⟩,rfl,rfl,⟨_,rfl⟩,trivial⟩,
   mg_of KX G rfl,
   Hq rfl (by decide) (.cons ⟨_,rfl⟩ (.cons ⟨_,rfl⟩ (.cons ⟨_,rfl⟩ (.cons ⟨_,rfl⟩ (.cons ⟨_,rfl⟩ (.cons ⟨_,rfl⟩ (.cons ⟨_,rfl⟩ (.cons ⟨_,rfl⟩ (.cons ⟨_,rfl⟩ (.cons ⟨_,rfl⟩ (.cons ⟨_,rfl⟩ (.cons ⟨_,rfl⟩ (.cons ⟨_,rfl⟩ (.cons ⟨_,rfl⟩ (.cons ⟨_,rfl⟩ (.cons ⟨_,rfl⟩ .nil)))))))))))))))),
   mg_of KX G rfl,
   Hq rfl (by decide) (.cons ⟨_,rfl⟩ (.cons ⟨_,rfl⟩ (.cons ⟨_,rfl⟩ (.cons ⟨_,rfl⟩ (.cons ⟨_,rfl⟩ (.cons ⟨_,rfl⟩ (.cons ⟨_,rfl⟩ .nil))))))),
   mg_of KX G rfl,
   Hq rfl (by decide) (.cons rfl (.cons rfl (.cons rfl (.cons rfl (.cons rfl (.cons rfl (.cons rfl .nil)))))))⟩
  have GW:=Wh tc (rZ KX G rfl rfl);have F4:=W4 g tc (aN KX G rfl);have aS:=Wu (Ba:=L2.Rd.Ba) (P:=L2.Rd.P) (w:=L2.Rd.w) (aN KX G rfl);have gS:=Wt (aN KX G rfl) aS;have Ed:=U_ g tc (aN KX G rfl) aS gS;have Eh:=Vi g tc (aN KX G rfl);have uD:=Wy g tc (aN KX G rfl) aS gS;have uM:=WV g tc (aN KX G rfl) uD;have Eg:=Vf g tc (aN KX G rfl) Ed Eh uD uM;have uQ:=Xk g (aN KX G rfl) aS;have ub:=VO g (aN KX G rfl) aS;have EF:=VZ g (aN KX G rfl) gS uQ ub;have kb:=VB g (aN KX G rfl) aS;have EE:=VY g (aN KX G rfl) kb;have tY:=Vs g (aN KX G rfl) aS;have Ej:=Vk g (aN KX G rfl) kb tY;have Em:=Vo g (aN KX G rfl);have tX:=Vj g (Pq KX G rfl) kb ub aS gS;have Ef:=Vd g (aN KX G rfl) aS;have EK:=V3 g (aN KX G rfl) aS gS;have tZ:=Vt g (aN KX G rfl) aS EK;have iR:=VL g (aN KX G rfl) aS;have ue:=Wa g (aN KX G rfl) aS;have nK:=VS g (aN KX G rfl) iR;have tU:=Vc g (aN KX G rfl) aS nK;have Ec:=U8 g (aN KX G rfl) iR ue tU;have D_:=U5 g (aN KX G rfl) aS Ec;have EI:=V1 g (aN KX G rfl) Ef tZ D_;have Ep:=Vz g (aN KX G rfl) EF EE Ej Em tX EI;have HN:=W8 g tc (rZ KX G rfl rfl) uQ kb tY tX tZ;have HK:=aaE g tc (aN KX G rfl) Eg uM Ep HN;have FO:=Wx g (aN KX G rfl) iR ue;have Eu:=VM g (aN KX G rfl) aS iR nK;have Ee:=Vb g (aN KX G rfl) iR nK;have Ey:=VR g (aN KX G rfl) aS;have Eo:=Vq g (aN KX G rfl) aS FO tU Eu Ee Ey;have tT:=U9 g tc (aN KX G rfl) Eo;have iW:=W2 tc (aN KX G rfl);have nL:=WE g tc (aN KX G rfl) aS;have ir:=Xl (aN KX G rfl) aS;have FV:=WD g tc (aN KX G rfl) ir;have nY:=XQ tc (aN KX G rfl);have GU:=Yz g tc (aN KX G rfl) nY ir;have FQ:=WA g tc (aN KX G rfl) nL FV GU;have Et:=VF g tc (aN KX G rfl) iW FQ;have uW:=Wg tc (rZ KX G rfl rfl);have HM:=W7 tc (rZ KX G rfl rfl);have ka:=W0 g tc (x_ rfl);have mh:=Vr g tc (x_ rfl) ka aS;have j_:=VP g tc (x_ rfl) ka ir;have ml:=VA g tc (x_ rfl) ka;have Eb:=VX g tc (x_ rfl) ml;have EB:=VT g tc (aN KX G rfl) j_ Eb;have EC:=VU g tc (aN KX G rfl) j_;have uC:=Wv g tc (aN KX G rfl) uW HM mh EB EC;have F1:=WU g tc (aN KX G rfl) mh;have FN:=Ww g tc (aN KX G rfl) ml;have Aj:=V_ g tc (aN KX G rfl) ml j_;have FT:=WB g (aN KX G rfl);have t_:=VJ g tc (aN KX G rfl) uW F1 ka mh FN Aj FT;have tW:=Vh g tc (aN KX G rfl);have lp:=V5 tc (rZ KX G rfl rfl);have uc:=VQ g tc (aN KX G rfl);have uf:=Wb g tc (aN KX G rfl);have uE:=(Wz g tc (aN KX G rfl) (Ms g tc (aN KX G rfl) (aN KX G rfl) (aN KX G rfl) uC t_ nY ir tW lp iW uc uf 8 (Nat.le_refl _)):cn L2.Rd.P L2.Rd.w L2.Rd.K L2.Rd.mg L2.Rd.Ba L2.Rd.c.NotWellTold "outline_of" ["font","glyph"] (dp 8+1) (ye L2.Rd.c));have En:=Vp g tc (aN KX G rfl);have Es:=VE g tc (aN KX G rfl) (kd:=74) (by decide) iW uE En;have tV:=Ve g (aN KX G rfl);have HL:=W6 g tc (rZ KX G rfl rfl);have uU:=XO g tc (aN KX G rfl) HL;have t9:=VD g tc (aN KX G rfl);have Gd:=Xn g tc (aN KX G rfl);have F3:=W3 g tc (aN KX G rfl);have A9:=W5 g (aN KX G rfl);have Ew:=VN g (aN KX G rfl);have ED:=VW g tc (aN KX G rfl) A9 Ew;have pH:=WW g tc (aN KX G rfl);have Ea:=U6 g tc (aN KX G rfl);have EG:=V0 g tc (aN KX G rfl) t9 pH Ea;have FU:=WC g tc (aN KX G rfl) Gd F3 ED EG;have Hj:=WG g tc (rZ KX G rfl rfl);have F2:=WX g tc (aN KX G rfl);have Ge:=Xo g tc (aN KX G rfl);have ER:=Wf g tc (aN KX G rfl) F2 Ge;have EJ:=V2 g (aN KX G rfl);have El:=Vn g (aN KX G rfl);have Ei:=WY g (Pq KX G rfl) EJ El;have Hh:=Zx g tc (aN KX G rfl) pH Hj ER Ei;have Hi:=Zy g tc (aN KX G rfl) t9 FU Hh;have EL:=V4 g tc (aN KX G rfl);have Er:=VC g tc (aN KX G rfl) EL;have uN:=WZ g tc (aN KX G rfl) (kd:=74) (by decide) uE Hi Er;have EO:=We g tc (aN KX G rfl) (kd:=75) (by decide) iW tV nL uU uN;have EN:=Wd g tc (aN KX G rfl) (kd:=75) (by decide) tV tT nL uU uN;have Ek:=Vm g tc (aN KX G rfl) (kd:=76) (by decide) tT Et (Es.le (by decide)) EO EN;have GV:=YA g tc (aN KX G rfl) (kd:=77) (by decide) HK Ek;have YQ:=XR g tc (aN KX G rfl) (kd:=78) (by decide) GW F4 GV;exact YQ
