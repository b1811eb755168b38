import PyProof.Rows.All
import Wide.All
import OpenK.AllK
import Wide.FinOn
import Lean
import PyProof.EqAt
import PyProof.EqKinds
import PyProof.TupleCall
import PySem.Challenge.RW_trussel_k19_whole_fewer_coins_more_anvil
set_option Elab.async false
set_option linter.all false
set_option maxRecDepth 100000
set_option maxHeartbeats 4000000
def Dt:=@PySem.wpAny_binaryOp_repeat_ref
def Du:=@PySem.W.hideAll_get
def Dv:=@List.map_congr_left
def Dw:=@List.length_pos_iff
def Dx:=@List.flatMap_append
def Kl:=@PySem.W.of_hideAll
def Km:=@PySem.W.kitx_tuple
def Kn:=@PySem.W.callWith_K
def Ko:=@Nat.mod_lt
def Kp:=@List.filter_filter
def Kq:=@Int.natCast_nonneg
def Kr:=@Int.natAbs_natCast
def Ks:=@Array.append_assoc
def aA:=@List.getElem?_append_left
def aB:=@decide_eq_false
def aC:=@decide_eq_true
def aD:=@PySem.Heap.get?_push_size
def aE:=@List.size_toArray
def aF:=@if_pos
def aG:=@Nat.le_trans
def aH:=@List.mem_cons
def aI:=@Option.some.inj
def aJ:=@List.mem_range
def aM:=@PySem.mem_of_lookup
def aN:=@Nat.ne_of_lt
def aO:=@List.mem_filter
def aP:=@List.mem_of_getElem?
def aQ:=@List.mem_map
def aR:=@List.getElem?_set_self
def aS:=@List.mem_singleton
def aU:=@Bool.and_eq_true
def aV:=@List.all_eq_true
def aX:=@List.getElem?_eq_none
def aY:=@PySem.Heap.get?_update_self
def aZ:=@List.mem_append
def aa:=@Option.map_eq_some_iff
def ae:=@PySem.wpAny_bind
def ag:=@List.length_map
def ah:=@Option.bind_eq_some_iff
def ai:=@List.getElem?_eq_getElem
def aj:=@List.getElem?_eq_some_iff
def ak:=@List.getElem?_map
def ao:=@PySem.wpAny_pure
def au:=@PySem.Heap.get?_push_of_some
def av:=@Nat.le_refl
def aw:=@List.getElem?_set_ne
def ax:=@Nat.lt_of_lt_of_le
def ay:=@PySem.Heap.lt_size
def az:=@if_neg
def bB:=@PyProof.Rows.callWith_type1
def bC:=@Ne.symm
def bG:=@PyProof.Rows.slot_tuple_getitem
def bH:=@List.mem_iff_getElem
def bI:=@List.mem_cons_of_mem
def bK:=@PySem.W.mg_of
def bL:=@PySem.W.kia_one
def bO:=@Nat.ne_of_gt
def bP:=@List.any_eq_true
def bS:=@List.replicate_succ
def bU:=@Int.toNat_natCast
def bV:=@PySem.Heap.get?_update_other
def bW:=@PySem.Heap.SameBut.update
def bX:=@PySem.wpAny_newObj_type
def bZ:=@decide_eq_false_iff_not
def ba:=@List.map_cons
def bc:=@List.length_append
def bf:=@Bool.eq_iff_iff
def bj:=@Nat.lt_irrefl
def bp:=@of_decide_eq_true
def bq:=@List.mem_append_right
def br:=@PySem.Obj.data_mapFields
def bt:=@Array.length_toList
def bu:=@List.getElem?_append_right
def bw:=@List.getD_eq_getElem?_getD
def bx:=@PySem.wpAny_mono
def bz:=@List.take_succ
def cB:=@Nat.zero_le
def cC:=@PySem.wpAny_call_entry
def cE:=@List.map_append
def cF:=@Bool.or_eq_true
def cG:=@List.getElem?_range
def cI:=@Nat.lt_trans
def cK:=@List.getElem?_eq_none_iff
def cL:=@List.nodup_cons
def cM:=@PySem.wpAny_Call_Name_kw
def cN:=@decide_eq_true_eq
def cO:=@List.nodup_append
def cP:=@List.flatten_cons
def cS:=@PySem.Obj.isFreed_of_fields
def cT:=@List.getElem?_take_of_lt
def cV:=@beq_eq_false_iff_ne
def cX:=@List.length_take
def cY:=@List.length_cons
def cZ:=@List.getElem?_replicate
def cc:=@List.flatMap_cons
def cg:=@PySem.wpAny_holding
def cj:=@PySem.wpAny_truthy_bool
def cq:=@PySem.wpAny_setState_of
def cu:=@List.length_filter_le
def cv:=@List.take_length
def cw:=@List.lookup_cons
def cx:=@List.getElem_mem
def cz:=@List.map_map
def dA:=@List.mem_append_left
def dB:=@PySem.wpAny_standAt
def dD:=@decide_eq_decide
def dE:=@Nat.le_of_lt
def dH:=@List.drop_eq_getElem_cons
def dI:=@PyProof.Rows.F.plain_set_update_loop
def dJ:=@List.filterMap_cons
def dO:=@PySem.wpAny_of_eq
def dP:=@Option.isSome_iff_exists
def dQ:=@PySem.Heap.size_push
def dR:=@PySem.Around.under_plainId
def dU:=@List.range_succ
def dW:=@List.find?_cons
def dX:=@Int.emod_nonneg
def dg:=@PySem.W.cellsFrom_some
def dh:=@List.take_of_length_le
def dj:=@List.length_pos_of_mem
def dk:=@List.filter_append
def dn:=@Int.emod_lt_of_pos
def dq:=@Bool.false_ne_true
def dt:=@PySem.wpAny_setField
def dy:=@Array.getElem_eq_getD
def dz:=@PySem.wpAny_passesOwn
def eF:=@PyProof.Rows.boot_list
def eG:=@Nat.lt_trichotomy
def eI:=@List.ext_getElem?
def eJ:=@List.drop_eq_nil_of_le
def eK:=@Bool.and_false
def eO:=@PySem.codeAny_builtin
def eP:=@PySem.tupleKind_room_in1
def eQ:=@PySem.call_meets
def eU:=@PySem.wpAny_callSpecial?_slot
def eV:=@List.mem_iff_getElem?
def eW:=@List.length_singleton
def eY:=@Nat.lt_succ_self
def eh:=@PySem.wpAny_typeOf
def ei:=@decide_eq_true_iff
def fC:=@PySem.wpAny_rule
def fE:=@PySem.intKind_is
def fF:=@Nat.lt_or_ge
def fI:=@congrArg
def fJ:=@beq_iff_eq
def fK:=@Nat.one_le_two_pow
def fL:=@Nat.lt_of_le_of_lt
def fM:=@List.mem_cons_self
def fN:=@List.length_eraseIdx_of_lt
def fO:=@List.findSome?_eq_none_iff
def fX:=@Nat.le_succ
def fY:=@List.reverse_cons
def fZ:=@List.append_assoc
def fb:=@List.any_cons
def fe:=@List.eq_nil_of_length_eq_zero
def fo:=@List.append_nil
def fu:=@PySem.builtinLookup_eq_fast
def gC:=@PySem.isSubtype_type
def gE:=@PySem.F.entry_tuple_add
def gF:=@List.length_eq_zero_iff
def gG:=@List.getElem_inj
def gH:=@List.getElem?_cons_succ
def gI:=@List.filter_cons_of_pos
def gJ:=@List.filter_cons_of_neg
def gR:=@PySem.F.slot_tuple_add
def gS:=@List.set_set
def gZ:=@PySem.wpAny_pyIter_list
def gf:=@PySem.codeAny_mono
def gg:=@PySem.F.args_tuple_add_2
def gh:=@List.map_take
def gi:=@List.length_erase_of_mem
def hJ:=@Nat.two_pow_pos
def iH:=@PySem.wpAny_isInstance
def iJ:=@PySem.noFill_tuple_add
def iK:=@List.mem_of_mem_take
def iT:=@PyProof.Rows.F.entry_set_update_loop
def iU:=@List.take_succ_cons
def ia:=@PySem.wpAny_comprehension_free
def ic:=@PySem.F.slot_dict_get
def ie:=@Nat.eq_of_beq_eq_true
def ig:=@List.take_append_drop
def ij:=@List.length_replicate
def ik:=@Array.getElem?_toList
def jF:=@List.findIdx?_eq_some_iff_getElem
def jM:=@PySem.wpAny_field
def jN:=@PySem.sizeLine_eq
def jO:=@Option.isSome_map
def jP:=@List.getElem_take
def jQ:=@List.find?_append
def jR:=@Bool.not_eq_true'
def jd:=@PySem.typeLookup_type
def je:=@PySem.F.slot_int_rmul
def jf:=@Bool.true_and
def ji:=@Nat.not_lt
def jj:=@List.pairwise_cons
def jk:=@List.mem_filterMap
def jl:=@List.find?_eq_none
def kA:=@Nat.le_of_not_lt
def kB:=@List.nodup_range
def kC:=@List.mem_reverse
def kD:=@List.length_drop
def kT:=@PySem.seq_tuple_add
def kU:=@PySem.plainId_quiet
def kW:=@PySem.Paired.length
def kX:=@List.take_append_of_le_length
def kd:=@List.eraseIdx_eq_take_drop_succ
def lC:=@PySem.typeIs_int
def lD:=@List.of_mem_zip
def lE:=@List.foldl_cons
def lF:=@List.filter_map
def lG:=@PySem.F.args_tuple_add_2
def mJ:=@Nat.testBit_two_pow_sub_one
def mS:=@PySem.Value.isInt_shape
def mT:=@Option.ne_none_iff_exists'
def mU:=@PySem.Obj.cls_mapFields
def mV:=@PySem.F.entry_tuple_add
def nM:=@List.pairwise_iff_getElem
def nN:=@List.mem_or_eq_of_mem_set
def nO:=@Array.getElem?_eq_getElem
def pb:=@PySem.wpAny_askSetting
def pe:=@PyProof.Rows.boot_sorted
def ph:=@PySem.F.slot_tuple_mul
def pj:=@PySem.F.slot_tuple_add
def pq:=@Bool.false_or
def qK:=@PySem.F.plainAttrs_list
def qL:=@PySem.F.args_dict_get_3
def qN:=@PyProof.Rows.boot_tuple
def sA:=@Int.zero_add
def sC:=@Bool.not_not
def sD:=@Array.getElem?_eq_none
def sj:=@PySem.wpAny_execs_nil
def sk:=@PySem.codeAny_of_tree
def su:=@PySem.F.entry_dict_get
def sv:=@Nat.mul_comm
def sx:=@List.pairwise_lt_range
def sy:=@List.map_nil
def vG:=@PyProof.Rows.size_push'
def vH:=@PyProof.Rows.assignInOrder_cons
def vI:=@PyProof.Rows.boot_set
def vJ:=@PyProof.Rows.boot_int
def vK:=@List.findSome?_append
def vL:=@Bool.and_eq_false_iff
def yg:=@Nat.pow_le_pow_right
def yh:=@Nat.eq_of_testBit_eq
def yi:=@List.pairwise_append
def yj:=@List.mem_of_mem_drop
def yk:=@List.mem_erase_of_ne
def ym:=@PySem.Calls.Name_function_global
structure PySem.W.Fast:Prop where(tw10467646882289408959 tw4742226525737780438 tw3679309091559049152 tw17911944472924948509 tw10892414754056368834 tw7062425734549789249 tw8035307481002461989 tw5040395775925365700 tw15249674448135874978 tw10362212016591606625 tw1946805668524611460 tw10123076090107477325 tw16312521540513664844 tw14572618711983441987 tw11344323253000073629 tw3195759338498511468 tw1012021977631441370 tw18438868176436623313 tw14712750352742097634 tw15376401059182268293 tw17468388494870856988 tw4280444663142526909 tw8463419693051834918 tw16554434319541052591 tw17340473035207460886 tw15671940338173904069 tw8770212289308895865 tw14073065538550922670 tw13217667153358358851 tw4496240312205233872 tw4700655871482150321 tw12214104844043964922 tw8858986257161611701 tw11595921288972564589 tw8975247667891498201 tw2621001842782079713 tw4711963003758274193 tw6816062515427345921 tw10770917961768799838 tw8408541420237468070 tw501233775241869153 tw7781035151743231541 tw13601245070867042512 tw15109252808364768106 tw5890515295545178577 tw14198537721620007719 tw13350665953184952173 tw8926856767498516445 tw14702739153179856212 tw6374466762739201380 tw16099043321526815319 tw14478677171590586188 tw15345326166462728215 tw11784538554901378875 tw6150946555514709930 tw12992901965713039215 tw12065216083993648008 tw695062224409559988 tw16265870240158751447 tw1214465576005604342 tw16483106723535406223 tw14702804892764702195 tw7363244594701227819 tw2343942039713064015 tw697858692606628026 tw4195706694728577712 tw6207275365821220332 tw14103709105772412987 tw960025783065841195 tw9459962387139481548 tw9582117238173468167 tw5074325065928283363 tw10930489355215940327 tw11545560037986972215 tw13433558615802403534 tw18298817054695377647 tw18257183152153992706 tw6938402966852568452 tw14250378761230152031 tw15136342649057572249 tw1878477838688653714 tw7528306442954192874 tw14614116038352215864 tw7457928454929951174 tw6020111099306233020 tw8304232195295648672 tw13835237884404909609 tw3509853726877841781 tw17292243231276683477 tw13370175353733347056 tw17946263945002467611 tw8580475199208092356 tw14268721725474865428 tw17691867508781070333 tw18350777696752754498 tw1610291442781214757 tw1240077560723191199 tw5484641106658649805 tw4490551694927938132 tw7392148075417320453 tw9841619295620779981 tw5214919199622160028 tw15651817551499061151 tw17091097574751618339 tw7026972284708094448 tw7377787636898016792 tw521290982787125413 tw9236097296263551672 tw9494988447115485288 tw3111901176434341777 tw11124644297298430247 tw2066044908218291122 tw7064620884956971430 tw2757346359564229917 tw18028196735834828457 tw535363010799034935 tw281898341458048228 tw9680024386535937086 tw12123376737830356053 tw9997348890393591706 tw12438332908995461512 tw120406630356307017 tw14491219943016783530 tw12047939861497278911 tw13810669569133097257 tw8925857914865583841 tw776910295645064078 tw1778002060645824566 tw11835124129044341705 tw7854742639250477346 tw5391779488703525925 tw11118194775340074221 tw691000843923935055 tw9382171219735789290 tw13224643462206989141 tw9445524311115703770 tw17267474610367322821 tw14734220965700815085 tw4857357384860543749 tw11481374377924535233 tw5467809219553884565 tw14162290684369710959 tw11891463286691196348 tw3768772940804510160 tw9551833981076035181 tw3689004170995384989 tw3532421002855964921 tw16420784549497147993 tw9546917675490402740 tw12864697691570607243 tw18152351185561684877 tw15946582665016206076 tw11503264531639132121 tw5246358434532299355 tw11632234706542787785 tw16326667000640091856 tw13313778595998965413 tw5669763555224677441 tw12728803688038846982 tw12760478627184126042 tw3437127217104853709 tw7157647526591740394 tw1287700494568801295 tw5003891824669627031 tw4998505416575496788 tw12762780078490054575 tw1314439127558657691 tw8474882542512726569 tw1013734031193116732 tw13060728114690014662 tw11487067373969192856 tw4075898278736271059 tw16947966804366230963 tw8688487038059779525 tw16224074181997810549 tw3451928551564905636 tw18183390043597917994 tw2834056719938890022 tw3419673606546625540 tw6708152965895646231 tw2417975247832368655 tw15858778150788156004 tw2905793100977381170 tw12171290423298765683 tw8497832275591943963 tw7806811011179300559 tw2364883694340002333 tw16521881139723204963 tw5594636119711386001 tw4667255389927235452 tw2274775634046181802 tw5011549991290856632 tw15836018828430578586 tw9623710383680996233 tw15532846287548892433 tw444976244451661866 tw13430116962875804878 tw12553775495173668788 tw6256814008822697237 tw13817739619624812260 tw14443784687620376159 tw12850043432379638966 tw15140846401253671251 tw7987116719416796852 tw16017063250189103334 tw18354289631967619629 tw5061388183177183870 tw5048713934832618226 tw14591909051600995281 tw18215192801929666204 tw11309962019024297434 tw10759288921170572519 tw2742138809541251901 tw8746488956393362206 tw16163799602565628982 tw12498641884650002692 tw6124985261717753238 tw18114316412496174892 tw9667090856654184096 tw12171478300770682058 tw3982380667801950122 tw16748803818732096503 tw2990492214152650550 tw4641388557730342332 tw4760328156086619088 tw9442810208832137671 tw1565470450583611780 tw5609989953582893284 tw4114390777166145620 tw12568782877155398547 tw12840151311635843456 tw17246601682196544472 tw17938519863590176770 tw12444707870313809941 tw1540392041103836740 tw1367236388487404983 tw6058634160747665513 tw6903401693970535902 tw15005328191143433233 tw1397121610849711099 tw5839968033255502852 tw4485410180934634944 tw2908123046008496752 tw9264666321381599215 tw1504274992521753919 tw11001063592779862149 tw3182488638215646238 tw15817264557790383923 tw15866656527702070771 tw8631956169471529310 tw10990092014601614770 tw3975413578622390376 tw17008360950397921380 tw5805520191440947520 tw10022229122801316756 tw11017399379069815260 tw7912292101665188700 tw8976978582041976078 tw2920982123453731461 tw15249559470399202822 tw6235205046408450737 tw10528040536643486134 tw6037444537449411244 tw7215841786998912441 tw10916046990099899852 tw1587570909761485452 tw10465280772530741769 tw15632352185387341148 tw16621499531125466812 tw5942816766276161627 tw13872209247567711954 tw10545656790632915914 tw3071012005251918079 tw3870541838319264740 tw9419746432051080379 tw10623222208735985481 tw1802392364421891780 tw10454871302520033327 tw11301321944487533948 tw7220292805005811014 tw1951751696055881685 tw16270053633223724166 tw11234645436966080151 tw14451684637348661639 tw3931813800135711428 tw7578688983840377502 tw3957960941125210233 tw17091041074626341529 tw2699465881292891725 tw6473858315983873960 tw6887671151785058497 tw1844610643824701434 tw3453218422223531169 tw13862084237860134991 tw1197308704486249847 tw18239250899832621611 tw7930443996157095066 tw12683990879745817170 tw16879502713035473346 tw18078522548809559594 tw14951409978878949674 tw16358446951870702987 tw18284417021178954448 tw2147166482368477540 tw18127166369550616634 tw15511712653075941502 tw3046035888607315538 tw3598940679957485305 tw15819830507016404011 tw225356381739732437 tw8676986760168407321 tw390989466687079314 tw18385915925069522408 tw1339202713499272569 tw948827965661096938 tw1717444601981102985 tw4514790069995256695 tw12375739562452910663 tw12850662232277478482 tw4951876285947114907 tw18278652583384009387 tw1406234752221489291 tw4634268139165733149 tw16630140684084599181 tw11857644265739274044 tw7911357396692957459 tw3156307227425453232 tw13334265273731142218 tw7664979088785232372 tw3570056558722375972 tw13856968915005173968 tw3060843842331744105 tw17961658136185273090 tw7035950424821121866 tw7757252247375788066 tw13284464844669505894 tw15066929967812278867 tw1740264582416851325 tw9507842443939557357 tw5892749496124124213 tw7902730592394039993 tw816793096743651070 tw15999603011460909573 tw12362484635520715121 tw11651206425304733364 tw11113155284187794454 tw4170835215906072814 tw6731710853306686639 tw8417199777300229906 tw15010915679130663413 tw15992204781029161437 tw10780622870794100143 tw10252842773123869031 tw10248461466613545731 tw17367997447961432702 tw15632931784667995354 tw17676060174625905672 tw5307688204168206041 tw7166091707596373770 tw14998398032661654963 tw14984816234111793297 tw9842441031987516203 tw13306542154078861180 tw11207946444864724139 tw2003086424542499084 tw14413050410435545142 tw12209351372231149235 tw3833973906449846926 tw1162925339512605787 tw13446825692335661663 tw6511896815455301872 tw17119087729519158150 tw17538372203397386269 tw14199542055062622736 tw7092200137012154065 tw4276574452764746744 tw555388878581070401 tw5231834383997308142 tw7143467188368656353 tw17901121527237138183 tw4091962872230783545 tw586164999705894440 tw5639861143140620413 tw711095342071610048 tw664643266486942781 tw5554466162453725383 tw2811470621999610534 tw3850084509487242892 tw16485387986585745272 tw16435817971152222105 tw14281005288777084187 tw3190089825489772640 tw8382263225891142266 tw5916825273047717804 tw16989237411799843461 tw1385404279024004628 tw17650025076969897349 tw15862414265169735545 tw13160894042135285840 tw1369568120728314986 tw15522841789856442612 tw6695086588610989611 tw8255320846619636681 tw13431741287611356632 tw3975053102319696040 tw7760893596248950202:True)
namespace L2
open PySem PySem.Spec PyProof.Rows
noncomputable abbrev Key:=Sum Int Str
noncomputable def rW:Key->Value->Bool
 |.inl k,v=>Value.isInt k v
 |.inr x,v=>Value.isStrOf x v
noncomputable def Us(w:World):Key->Int
 |.inl k=>hashInt k
 |.inr x=>hashStr w x
theorem v5:∀{k:Key} {v:Value},rW k v=true->(∃i t,k=Sum.inl i/\v=Value.int i t)\/(∃x t,k=Sum.inr x/\v=Value.str x t)
 |.inl i,v,h=>by
  obtain⟨t,e⟩:=mS (k:=i) (v:=v) h;exact .inl ⟨i,t,rfl,e⟩
 |.inr x,v,h=>by
  obtain⟨t,e⟩:=Value.isStrOf_shape (x:=x) (v:=v) h;exact .inr ⟨x,t,rfl,e⟩
theorem XY(i:Int)(t:Tok):rW (.inl i) (.int i t)=true:=by simp[rW,Value.isInt]
theorem XZ(x:Str)(t:Tok):rW (.inr x) (.str x t)=true:=by simp[rW,Value.isStrOf]
theorem Pd(a b:Int):decide ((Sum.inl a:Key)=Sum.inl b)=(a==b):=by
 by_cases e:a=b
 ·subst e;simp
 ·have h:¬(Sum.inl a:Key)=Sum.inl b:=λq=>e (Sum.inl.inj q);rw[aB h];exact(cV.mpr e).symm
theorem Ph(a b:Str):decide ((Sum.inr a:Key)=Sum.inr b)=decide (a=b):=by
 by_cases e:a=b
 ·subst e;simp
 ·have h:¬(Sum.inr a:Key)=Sum.inr b:=λq=>e (Sum.inr.inj q);rw[aB h,aB e]
theorem Pe(a:Int)(b:Str):decide ((Sum.inl a:Key)=Sum.inr b)=false:=aB (λq=>nomatch q)
theorem Pf(a:Str)(b:Int):decide ((Sum.inr a:Key)=Sum.inl b)=false:=aB (λq=>nomatch q)
noncomputable def q8(prog:Program)(w:World):PySem.KeyKind prog w Key where
 is:=rW
 hash:=Us w
 inj:=λv a b ha hb=>by
  rcases v5 ha with⟨i,t,rfl,rfl⟩|⟨x,t,rfl,rfl⟩
  ·rcases v5 hb with⟨j,u,rfl,e⟩|⟨y,u,rfl,e⟩
   ·injection e with e1 _;rw[e1]
   ·exact nomatch e
  ·rcases v5 hb with⟨j,u,rfl,e⟩|⟨y,u,rfl,e⟩
   ·exact nomatch e
   ·injection e with e1 _;rw[e1]
 byValue:=λk v h=>by
  rcases v5 h with⟨i,t,rfl,rfl⟩|⟨x,t,rfl,rfl⟩<;>rfl
 pyHash:=λhv h=>by
  rcases v5 hv with⟨i,t,rfl,rfl⟩|⟨x,t,rfl,rfl⟩
  ·exact wpAny_pyHash_int h
  ·exact wpAny_pyHash_str h
 eqBool:=λhu hv h=>by
  rcases v5 hu with⟨i,t,rfl,rfl⟩|⟨x,t,rfl,rfl⟩
  ·rcases v5 hv with⟨j,u,rfl,rfl⟩|⟨y,u,rfl,rfl⟩
   ·rw[Pd] at h;exact wpAny_eqBool_int h
   ·rw[Pe] at h;exact SeqAt.EqAt.int_str i t y u _ _ _ _ h
  ·rcases v5 hv with⟨j,u,rfl,rfl⟩|⟨y,u,rfl,rfl⟩
   ·rw[Pf] at h;exact SeqAt.EqAt.str_int x t j u _ _ _ _ h
   ·rw[Ph] at h;exact wpAny_eqBool_str h
 «strs»:=λk x t v h=>by
  rcases v5 h with⟨i,u,rfl,e⟩|⟨y,u,rfl,e⟩
  ·exact nomatch e
  ·injection e with e1 _;subst e1;cases v<;>rfl
theorem ZO(prog:Program)(w:World)(i:Int)(t:Tok):(q8 prog w).is (.inl i) (.int i t)=true:=XY i t
theorem ZP(prog:Program)(w:World)(x:Str)(t:Tok):(q8 prog w).is (.inr x) (.str x t)=true:=XZ x t
end L2
namespace L2
open PySem PySem.Spec PyProof.Rows
inductive V where
 |bD|bl (b:Bool)|int (i:Int)|str (x:Str)|ku (b:Array UInt8)|ql (b:UInt64)|ref (a:Addr)|ty (n:String)
 deriving DecidableEq
noncomputable def RelV:V->Value->Prop
 |.bD,u=>u=Value.none
 |.bl b,u=>u=Value.bool b
 |.int i,u=>∃t,u=Value.int i t
 |.str x,u=>∃t,u=Value.str x t
 |.ku b,u=>∃t,u=Value.bytes b t
 |.ql b,u=>∃t,u=Value.float b t
 |.ref a,u=>u=Value.ref a
 |.ty n,u=>u=Value.type n
noncomputable abbrev Vals:List V->List Value->Prop:=Paired RelV
theorem Vals.length{xs:List V}{us:List Value}(r:Vals xs us):xs.length=us.length:=kW r
theorem Vals.get:∀{xs:List V} {us:List Value} {i:Nat} {x:V},Vals xs us->xs[i]?=some x->∃u,us[i]?=some u/\RelV x u
 |_,_,_,_,.nil,e=>by simp at e
 |_,_,0,_,.cons r _,e=>by simp at e;subst e;exact⟨_,rfl,r⟩
 |_,_,i+1,x,.cons _ t,e=>by
  obtain⟨u,h1,h2⟩:=Vals.get (i:=i) (x:=x) t (by simpa using e);exact⟨u,by simpa using h1,h2⟩
theorem Vals.set{x:V}{u:Value}(r:RelV x u):∀{xs:List V} {us:List Value} (i:Nat),Vals xs us->Vals (xs.set i x) (us.set i u)
 |_,_,_,.nil=>.nil
 |_,_,0,.cons _ t=>.cons r t
 |_,_,i+1,.cons q t=>.cons q (Vals.set r i t)
theorem Vals.append:∀{xs ys:List V} {us ws:List Value},Vals xs us->Vals ys ws->Vals (xs++ys) (us++ws)
 |_,_,_,_,.nil,s=>s
 |_,_,_,_,.cons r t,s=>.cons r (Vals.append t s)
theorem Vals.take:∀{xs:List V} {us:List Value} (n:Nat),Vals xs us->Vals (xs.take n) (us.take n)
 |_,_,0,_=>.nil
 |_,_,_+1,.nil=>.nil
 |_,_,n+1,.cons r t=>.cons r (Vals.take n t)
theorem Vals.drop:∀{xs:List V} {us:List Value} (n:Nat),Vals xs us->Vals (xs.drop n) (us.drop n)
 |_,_,0,r=>r
 |_,_,_+1,.nil=>.nil
 |_,_,n+1,.cons _ t=>Vals.drop n t
noncomputable def E7:Option V->Option Value->Prop
 |some v,some u=>RelV v u
 |none,none=>True
 |_,_=>False
noncomputable def KV{κ:Type}:List (κ×V)->List (κ×Value)->Prop:=Paired λ(p:κ×V) (q:κ×Value)=>p.1=q.1/\RelV p.2 q.2
noncomputable def kV:Key->V
 |.inl i=>.int i
 |.inr x=>.str x
inductive HO where
 |lst (xs:List V)
 |tup (xs:List V)
 |dK (kvs:List (Key×V))|dT (kvs:List (List Key×V))
 |set (S:Int->Bool) (n:Nat)
 |ins (C dx:Addr) (fs:List (Str×V))
 |own (x:Addr)
 |xd (fs:List (Str×V))
 |met (f x:Addr)
 |lg (lo hi:Int)
 |jb (o:Obj) (u:HO)
 |nQ (ps:Array Value)
 |ext (φ:Heap->Prop)
noncomputable abbrev Hp:=Addr->Option HO
noncomputable def upd(H:Hp)(a:Addr)(o:HO):Hp:=λb=>if b=a then some o else H b
theorem s9{H:Hp}{a:Addr}{o:HO}:upd H a o a=some o:=by unfold upd;rw[aF rfl]
theorem i0{H:Hp}{a b:Addr}{o:HO}(h:b≠a):upd H a o b=H b:=by unfold upd;rw[az h]
theorem Wd{H:Hp}{a b:Addr}{o u:HO}(h:H a=some o)(h':H b=some u)(d:o≠u):a≠b:=by
 intro e;subst e;rw[h] at h';exact d (aI h')
theorem k9{H:Hp}{a b:Addr}{o:HO}(h:H a=some o)(h':H b=none):a≠b:=by
 intro e;subst e;rw[h] at h';cases h'
noncomputable def I9(h:Heap)(a:Addr)(items:Array Value):Prop:=∃o,h.get? a=some o/\o.cls=.type "tuple"/\(∃n,o.data=.seq items n)/\o.dict=none
theorem I9.tup{h:Heap}{a:Addr}{items:Array Value}(x:I9 h a items):IsTup h a items:=let ⟨o,e,c,d,_⟩:=x;⟨o,e,c,d⟩
theorem I9.new(h:Heap)(items:Array Value):I9 (h.push { cls:=.type "tuple",data:=.seq items }) h.objs.size items:=⟨_,aD _ rfl,rfl,⟨_,rfl⟩,rfl⟩
section
variable(P:Program)(w:World)
noncomputable def m7(H:Hp)(h:Heap)(a:Addr):HO->Prop
 |.lst xs=>xs.length<=sizeLine/\∃(aT:List Value) (n:Nat),Vals xs aT/\h.get? a=some { cls:=.type "list",data:=.seq aT.toArray n }
 |.tup xs=>xs.length<=sizeLine/\∃aT:List Value,Vals xs aT/\I9 h a aT.toArray
 |.dK kvs=>kvs.length<=sizeLine/\(a==sysModules)=false/\∃vs,KV kvs vs/\h.DictOf (q8 P w) a vs
 |.dT kvs=>kvs.length<=sizeLine/\(a==sysModules)=false/\∃xs:List (List Key×Addr×Value),
   Paired (λ(p:List Key×V) (q:List Key×Addr×Value)=>p.1=q.1/\H q.2.1=some (.tup (p.1.map kV))/\RelV p.2 q.2.2) kvs xs /\
   ∃o es ep,h.get? a=some o/\o.ExactDict/\o.data=.dict es ep/\es.toList=xs.map (entryOfKey (tupleKind (q8 P w)))/\(xs.map (·.1)).Nodup
 |.set S n=>h.SetOf (intKind P w) a S n
 |.ins C dx fs=>H dx=some (.own a)/\fs.length<=1000/\dx≠a/\h.get? a=some (PySem.W.instObj C dx) /\
   ∃mA,h.Ns1 dx mA/\(∀f,E7 (fs.lookup f) (mA f))/\PySem.Within mA (fs.map (·.1))
 |.own _=>∃o,h.get? a=some o
 |.xd fs=>∃mA,h.Ns1 a mA/\∀f,E7 (fs.lookup f) (mA f)
 |.lg lo hi=>∃t u v,h.get? a=some { cls:=.type "range",data:=.fields #[.int lo t,.int hi u,.int 1 v] }
 |.jb o u=>h.get? a=some o/\m7 H h a u
 |.nQ ps=>h.get? a=some { cls:=.none,data:=.fields ps }
 |.met f x=>h.get? a=some (PySem.W.methodObj (.ref f) (.ref x))
 |.ext φ=>φ h/\(∃o,h.get? a=some o)/\∀h1 h2:Heap,φ h1->(∀o,h1.get? a=some o->h2.get? a=some o)->φ h2
noncomputable def fG(H:Hp)(h:Heap):Prop:=∀a o,H a=some o->m7 P w H h a o
end
section
variable{P:Program}{w:World}{H H':Hp}{h h':Heap}{a:Addr}{o:HO}
theorem m7.lt(x:m7 P w H h a o):a<h.objs.size:=by
 cases o with
 |lst xs=>obtain⟨_,_,_,_,e⟩:=x;exact ay e
 |tup xs=>obtain⟨_,_,_,p⟩:=x;exact p.tup.lt
 |dK kvs=>obtain⟨_,_,_,_,o,_,_,e,_⟩:=x;exact ay e
 |dT kvs=>obtain⟨_,_,_,_,o,_,_,e,_⟩:=x;exact ay e
 |set S n=>obtain⟨o,_,_,_,e,_⟩:=x;exact ay e
 |ins C dx fs=>obtain⟨_,_,_,e,_⟩:=x;exact ay e
 |own y=>obtain⟨_,e⟩:=x;exact ay e
 |xd fs=>obtain⟨_,⟨_,_,_,e,_⟩,_⟩:=x;exact ay e
 |lg lo hi=>obtain⟨_,_,_,e⟩:=x;exact ay e
 |jb ob u=>obtain⟨e,_⟩:=x;exact ay e
 |nQ ps=>exact ay (show h.get? a=some _ from x)
 |met f y=>exact ay (show h.get? a=some _ from x)
 |ext φ=>obtain⟨_,⟨_,e⟩,_⟩:=x;exact ay e
theorem Paired.Df{α β:Type}{F G:α->β->Prop}:∀{tH:List α} {tG:List β},Paired F tH tG->(∀a b,F a b->G a b)->Paired G tH tG
 |_,_,.nil,_=>.nil
 |_,_,.cons r t,f=>.cons (f _ _ r) (Paired.Df t f)
theorem m7.Q6(x:m7 P w H h a o)(k:∀b u,(b=a\/H b=some (.own a))->h.get? b=some u->h'.get? b=some u)(ho:∀b,H b=some (.own a)->H' b=some (.own a))(ht:∀b xs,H b=some (.tup xs)->H' b=some (.tup xs)):m7 P w H' h' a o:=by
 induction o with
 |lst xs=>obtain⟨z,aT,n,r,e⟩:=x;exact⟨z,aT,n,r,k _ _ (.inl rfl) e⟩
 |tup xs=>obtain⟨z,aT,r,ob,e,c⟩:=x;exact⟨z,aT,r,ob,k _ _ (.inl rfl) e,c⟩
 |dK kvs=>obtain⟨z,y,vs,r,ob,es,ep,e,c⟩:=x;exact⟨z,y,vs,r,ob,es,ep,k _ _ (.inl rfl) e,c⟩
 |dT kvs =>
  obtain⟨z,y,xs,r,ob,es,ep,e,c⟩:=x;exact⟨z,y,xs,Paired.Df r λp q z=>⟨z.1,ht _ _ z.2.1,z.2.2⟩,ob,es,ep,k _ _ (.inl rfl) e,c⟩
 |set S n=>obtain⟨ob,es,ep,t,e,c⟩:=x;exact⟨ob,es,ep,t,k _ _ (.inl rfl) e,c⟩
 |ins C dx fs =>
  obtain⟨d,z,ne,e,mA,⟨od,es,ep,e2,c⟩,r⟩:=x;exact⟨ho _ d,z,ne,k _ _ (.inl rfl) e,mA,⟨od,es,ep,k _ _ (.inr d) e2,c⟩,r⟩
 |own y=>obtain⟨ob,e⟩:=x;exact⟨ob,k _ _ (.inl rfl) e⟩
 |xd fs=>obtain⟨mA,⟨od,es,ep,e,c⟩,r⟩:=x;exact⟨mA,⟨od,es,ep,k _ _ (.inl rfl) e,c⟩,r⟩
 |lg lo hi=>obtain⟨t,u,v,e⟩:=x;exact⟨t,u,v,k _ _ (.inl rfl) e⟩
 |jb ob u ih=>obtain⟨e,q⟩:=x;exact⟨k _ _ (.inl rfl) e,ih q⟩
 |nQ ps =>
  have e:h.get? a=some { cls:=.none,data:=.fields ps }:=x;show h'.get? a=some { cls:=.none,data:=.fields ps };exact k a _ (.inl rfl) e
 |met f y =>
  have e:h.get? a=some (PySem.W.methodObj (.ref f) (.ref y)):=x;show h'.get? a=some (PySem.W.methodObj (.ref f) (.ref y));exact k a _ (.inl rfl) e
 |ext φ=>obtain⟨p,⟨o,e⟩,st⟩:=x;exact⟨st _ _ p λo q=>k _ _ (.inl rfl) q,⟨o,k _ _ (.inl rfl) e⟩,st⟩
theorem fG.lt(x:fG P w H h)(e:H a=some o):a<h.objs.size:=(x a o e).lt
theorem fG.fresh(x:fG P w H h)(e:h.objs.size<=a):H a=none:=by
 cases q:H a with
 |none=>rfl
 |some u=>exact absurd (ax (x.lt q) e) (bj _)
theorem fG.kept(x:fG P w H h)(k:∀b u,h.get? b=some u->h'.get? b=some u):fG P w H h':=λa o e =>
 (x a o e).Q6 (λb u _ q=>k b u q) (λ_ q=>q) λ_ _ q=>q
theorem fG.laid(x:fG P w H h)(k:∀b u,h.get? b=some u->h'.get? b=some u)(hp:h.objs.size<=a)(new:m7 P w (upd H a o) h' a o):fG P w (upd H a o) h':=λb u e=>by
 have hn:=x.fresh hp;by_cases hb:b=a
 ·subst hb;rw[s9] at e;cases e;exact new
 ·rw[i0 hb] at e;exact(x b u e).Q6 (λc v _ q=>k c v q) (λc q=>by rw[i0 (k9 q hn)];exact q) λc xs q=>by rw[i0 (k9 q hn)];exact q
end
noncomputable def Rd(H:Hp)(a:Addr)(u:HO):Prop:=H a=some u\/∃o,H a=some (.jb o u)
theorem Rd.ok{P:Program}{w:World}{H:Hp}{h:Heap}{a:Addr}{u:HO}(r:Rd H a u)(x:fG P w H h):m7 P w H h a u:=by
 rcases r with r|⟨o,r⟩
 ·exact x a u r
 ·obtain⟨_,q⟩:=x a _ r;exact q
noncomputable def vB:Option HO->Prop
 |some (.lst _)=>True
 |some (.dK _)=>True
 |some (.dT _)=>True
 |some (.set _ _)=>True
 |some (.ins _ _ _)=>True
 |some (.ext _)=>True
 |_=>False
section
variable{P:Program}{w:World}{H:Hp}{h h':Heap}{x e:Addr}{o':HO}
theorem fG.write(ok:fG P w H h)(mu:vB (H x))(he:e=x\/H e=some (.own x))(k:∀b u,b≠e->h.get? b=some u->h'.get? b=some u)(ow:∃u,h'.get? e=some u)(new:m7 P w (upd H x o') h' x o'):fG P w (upd H x o') h':=λb u q=>by
 have tq:∀c y,H c=some (.own y)->c≠x:=λc y r z=>by subst z;rw[r] at mu;exact mu
 have yR:∀c xs,H c=some (.tup xs)->c≠x:=λc xs r z=>by subst z;rw[r] at mu;exact mu
 by_cases hb:b=x
 ·subst hb;rw[s9] at q;cases q;exact new
 ·rw[i0 hb] at q;by_cases pX:b=e
  ·have q':H b=some (.own x):=by
    rcases he with z|z
    ·exact absurd (pX.trans z) hb
    ·rw[pX];exact z
   rw[q] at q';cases q';obtain⟨v,hv⟩:=ow;exact⟨v,by rw[pX];exact hv⟩
  ·refine(ok b u q).Q6 (λc v hc r=>k c v ?_ r) (λc r=>by rw[i0 (tq c b r)];exact r) λc xs r=>by rw[i0 (yR c xs r)];exact r
   rcases hc with rfl|hc
   ·exact pX
   ·rintro rfl;rcases he with z|z
    ·exact tq c b hc z
    ·rw[hc] at z;cases z;exact hb rfl
end
structure Un(fs ex:List Addr)(H H':Hp)(h h':Heap):Prop where
 keep:∀b o,h.get? b=some o->H b=none->b∉fs->b∉ex->h'.get? b=some o
 slot:∀b o,h.get? b=some o->H b=none->b∈fs->b∉ex->∃sl,h'.get? b=some { o with slots:=sl }
 free:∀b o,h.get? b=some o->H b=none->b∉ex->H' b=none
 there:∀b o,h.get? b=some o->b∉ex->∃o',h'.get? b=some o'
 gK:∀b xs,H b=some (.tup xs)->H' b=some (.tup xs)
 gs:∀b o u,H b=some (.jb o u)->H' b=some (.jb o u)
 gL:∀b ps,H b=some (.nQ ps)->∃more,H' b=some (.nQ (ps++more))
section
variable{fs qj ex ex':List Addr}{H H1 H2:Hp}{h h1 h2 h':Heap}{a x e:Addr}{o:HO}
theorem Un.any(u:Un fs ex H H1 h h1){b:Addr}{ob:Obj}(q:h.get? b=some ob)(n:H b=none)(hx:b∉ex):∃sl,h1.get? b=some { ob with slots:=sl }:=by
 by_cases hb:b∈fs
 ·exact u.slot b ob q n hb hx
 ·exact⟨ob.slots,u.keep b ob q n hb hx⟩
theorem Un.kept(k:∀b u,h.get? b=some u->h'.get? b=some u):Un fs ex H H h h' :=
 ⟨λb ob q _ _ _=>k b ob q,λb ob q _ _ _=>⟨ob.slots,k b ob q⟩,λ_ _ _ n _=>n,λb ob q _=>⟨ob,k b ob q⟩,λ_ _ q=>q,λ_ _ _ q=>q,λ_ ps q=>⟨#[],by rw[q];simp⟩⟩
theorem Un.refl:Un fs ex H H h h:=Un.kept λ_ _ q=>q
theorem Un.laid(k:∀b u,h.get? b=some u->h'.get? b=some u)(hp:h.objs.size<=a)(hn:H a=none):Un fs ex H (upd H a o) h h' where
 keep:=λb u q _ _ _=>k b u q
 slot:=λb u q _ _ _=>⟨u.slots,k b u q⟩
 free:=λb u q n _=>by rw[i0 (aN (ax (ay q) hp))];exact n
 there:=λb u q _=>⟨u,k b u q⟩
 gK:=λb xs q=>by rw[i0 (k9 q hn)];exact q
 gs:=λb u xs q=>by rw[i0 (k9 q hn)];exact q
 gL:=λb ps q=>⟨#[],by rw[i0 (k9 q hn),q];simp⟩
theorem Un.write(mu:vB (H x))(he:e=x\/H e=some (.own x))(k:∀b u,b≠e->h.get? b=some u->h'.get? b=some u)(ow:∃u,h'.get? e=some u):Un fs ex H (upd H x o) h h':=by
 have hx:∀b,H b=none->b≠x:=λb n z=>by subst z;rw[n] at mu;exact mu
 have hb:∀b,H b=none->b≠e:=λb n z=>by
  subst z;rcases he with r|r
  ·exact hx b n r
  ·rw[n] at r;cases r
 have hm:∀b u,H b=some u->¬vB (some u)->b≠x:=λb u q nm z=>by subst z;rw[q] at mu;exact nm mu
 refine ⟨λb u q n _ _=>k b u (hb b n) q,λb u q n _ _=>⟨u.slots,k b u (hb b n) q⟩,λb u q n _=>by rw [i0 (hx b n)];exact n,λb u q _=>?_,
  λb xs q=>by rw [i0 (hm b _ q λz=>z)];exact q,λb u xs q=>by rw [i0 (hm b _ q λz=>z)];exact q,λb ps q=>⟨#[],by rw [i0 (hm b _ q λz=>z),q];simp⟩⟩
 by_cases pX:b=e
 ·subst pX;exact ow
 ·exact⟨u,k b u pX q⟩
end
noncomputable def mW(h:Heap)(H:Hp):List Addr:=(List.range h.objs.size).filter λa=>(H a).isSome
noncomputable def nK(h:Heap)(H:Hp):Heap:=PySem.W.hideAll h (mW h H)
theorem XT(h:Heap)(H:Hp):(nK h H).objs.size=h.objs.size:=PySem.W.hideAll_size _ _
theorem a51{h:Heap}{H:Hp}{b:Addr}{o:Obj}(e:h.get? b=some o)(n:H b=none):(nK h H).get? b=some o :=
 Du _ e λhm=>by
  have q:(H b).isSome=true:=(aO.mp hm).2;rw[n] at q;simp at q
theorem Sn{h:Heap}{H:Hp}{b:Addr}{o:Obj}(e:(nK h H).get? b=some o):h.get? b=some o/\H b=none:=by
 have e':h.get? b=some o:=Kl (mW h H) e;refine⟨e',?_⟩;cases q:H b with
 |none=>rfl
 |some x =>
  have hm:b∈mW h H:=aO.mpr ⟨aJ.mpr (ay e'),by simp[q]⟩;have z:(nK h H).get? b=none:=PySem.W.hideAll_none (mW h H) hm;rw[z] at e;cases e
end L2
namespace L2
open PySem PySem.Spec PyProof.Rows
structure Mod(K:PySem.W.Frag)(mg:Str->Option Value)(base:Heap):Prop where
 mM:K.In base
 glob:base.Ns mainGlobals mg
 blt:∃mb,base.Ns builtinsNs mb/\∀x:Str,x≠"__name__"->mb x=bootBuiltins x
 nolimit:base.NoLimit
structure Cx where
 prog:Program
 w:World
 K:PySem.W.Frag
 mg:Str->Option Value
 base:Heap
 A:Around
 N:List Str
 cU:Shared
 iN:Hp
 env:Env
 outer:List Env
 stack:List Env
 ex:List Addr
 fn:Str->Bool
 calm:Bool
 pn:List (Addr×Obj)
 xe:Value->Shared->Prop
noncomputable def fk(l:List Env):List Addr:=l.filterMap (·.frame)
noncomputable abbrev Cx.fs(X:Cx):List Addr:=fk X.outer
noncomputable def vx(sc:Scope)(x:Str):Prop:=sc.names.lookup x=some .local\/sc.names.lookup x=some .cell\/sc.names.lookup x=some .free
noncomputable def Loc(sc:Scope)(x:Str):Prop:=sc.names.lookup x=some .local\/sc.names.lookup x=some .cell
noncomputable def Look(env:Env)(h:Heap)(m:Str->Option Value)(x:Str)(u:Value):Prop :=
 (env.kindOf x=some .local/\m x=some u)\/((env.kindOf x=some .cell\/env.kindOf x=some .free)/\∃c,env.cells.lookup x=some c/\h.IsCell c (some u))
structure Cx.Ok(X:Cx):Prop where
 mod:Mod X.K X.mg X.base
 kind:X.env.scope.kind=.function
 glob:X.env.globals=mainGlobals
 blt:X.env.builtins=builtinsNs
 above:X.cU.heap.objs.size<=X.env.locals
 inj:∀x y c,X.env.cells.lookup x=some c->X.env.cells.lookup y=some c->x=y
 has:∀x,(X.env.kindOf x=some .cell\/X.env.kindOf x=some .free)->∃c,X.env.cells.lookup x=some c
 qu:∀x c,X.fn x=true->X.env.cells.lookup x=some c->X.cU.heap.objs.size<=c
 hd:X.calm=true->X.A.handled=none
 frames:X.A.frames=some X.stack
 qQ:X.stack=X.outer\/(X.stack=X.env::X.outer/\X.env.frame=some X.env.locals)
 wM:∀b∈X.ex,b≠X.env.locals/\∀x c,X.env.cells.lookup x=some c->c≠b
 bs:∀b o,X.base.get? b=some o->X.cU.heap.get? b=some o/\X.iN b=none
 mR:X.base.objs.size<=X.cU.heap.objs.size
 jV:∀b o,X.base.get? b=some o->b∉X.ex
 kQ:∀b∈X.ex,b∉X.fs
 L3:X.cU.heap.FunFrames X.base X.outer
 nA:∀b∈X.fs,X.iN b=none
structure Inv(X:Cx)(pins:List (Addr×Obj))(Z:List (Option V))(H:Hp)(s:Shared):Prop where
 ok:X.Ok
 os:s.os=X.cU.os
 bare:AllBare s.gens
 base:Un X.fs X.ex X.iN H X.cU.heap s.heap
 loc:∃m,s.heap.Ns X.env.locals m/\∀(i:Nat) (x:Str) (v:V),X.N[i]?=some x->Z[i]?=some (some v)->vx X.env.scope x->∃u,RelV v u/\Look X.env s.heap m x u
 cell:∀x c,X.env.cells.lookup x=some c->∃v,s.heap.IsCell c v
 free:H X.env.locals=none
 dZ:∀x c,X.env.cells.lookup x=some c->H c=none
 pin:∀p∈X.pn++pins,s.heap.get? p.1=some p.2/\H p.1=none/\p.1≠X.env.locals/\p.1∉X.fs/\∀v,p.2.data≠.cell v
 bE:fG X.prog X.w H s.heap
 len:Z.length=X.N.length
section
variable{X:Cx}{pins:List (Addr×Obj)}{Z:List (Option V)}{H H':Hp}{s:Shared}{h':Heap}
theorem Cx.Ok.UD(ok:X.Ok){b:Addr}{o:Obj}(e:X.base.get? b=some o):b∉X.fs:=λhb=>by
 have:=(ok.L3.mem hb).1;rw[e] at this;cases this
theorem Inv.bs(I:Inv X pins Z H s):∀b o,X.base.get? b=some o->s.heap.get? b=some o/\H b=none:=λb o e =>
 ⟨I.base.keep b o (I.ok.bs b o e).1 (I.ok.bs b o e).2 (I.ok.UD e) (I.ok.jV b o e),I.base.free b o (I.ok.bs b o e).1 (I.ok.bs b o e).2 (I.ok.jV b o e)⟩
theorem Inv.bk(I:Inv X pins Z H s):∀b o,X.base.get? b=some o->s.heap.get? b=some o:=λb o e=>(I.bs b o e).1
theorem Inv.mod(I:Inv X pins Z H s):Mod X.K X.mg X.base:=I.ok.mod
theorem Inv.gp(I:Inv X pins Z H s):X.K.In s.heap:=I.ok.mod.mM.keeps I.bk
theorem Inv.lt(I:Inv X pins Z H s):X.env.locals<s.heap.objs.size:=let ⟨_,hn,_⟩:=I.loc;hn.lt
theorem Inv.sz(I:Inv X pins Z H s):X.cU.heap.objs.size<=s.heap.objs.size:=aG I.ok.above (dE I.lt)
theorem Inv.uV(I:Inv X pins Z H s){a:Addr}(h:s.heap.objs.size<=a):a∉X.fs:=λhb=>by
 obtain⟨_,o,ho,_⟩:=I.ok.L3.mem hb;exact absurd (ax (ay ho) (aG I.sz h)) (bj _)
theorem Inv.qq(I:Inv X pins Z H s):∀x c,X.env.cells.lookup x=some c->c≠X.env.locals:=λx c e z=>by
 obtain⟨v,o,ho,hd⟩:=I.cell x c e;obtain⟨m,⟨o',es,ep,lZ,zJ,_⟩,_⟩:=I.loc;rw[z,lZ] at ho;cases ho;rw[zJ] at hd;cases hd
theorem Inv.L3(I:Inv X pins Z H s):s.heap.FunFrames X.base X.outer:=by
 have all:∀(l:List Env),(∀b∈fk l,b∈X.fs)->X.cU.heap.FunFrames X.base l->s.heap.FunFrames X.base l:=by
  intro l
  induction l with
  |nil=>intro _ _;trivial
  |cons env r ih =>
   intro hs hl;obtain⟨hk,⟨L,o,hf,hn,ho,hd⟩,hr⟩:=hl;have hL:L∈X.fs:=hs L (by unfold fk;rw[dJ,hf];exact fM);obtain⟨sl,e⟩:=I.base.slot L o ho (I.ok.nA L hL) hL λz=>I.ok.kQ L z hL;exact⟨hk,⟨L,_,hf,hn,e,hd⟩,ih (λb hb=>hs b (by unfold fk;rw[dJ,hf];exact bI _ hb)) hr⟩
 exact all X.outer (λ_ hb=>hb) I.ok.L3
theorem Inv.stack(I:Inv X pins Z H s):s.heap.FunFrames X.base X.stack:=by
 rcases I.ok.qQ with e|⟨e,hf⟩
 ·rw[e];exact I.L3
 ·rw[e];obtain⟨m,hn,_⟩:=I.loc;refine .cons (by rw[I.ok.kind];decide) hf hn ?_ I.L3;exact Heap.get?_none_of_le (aG I.ok.mR I.ok.above)
theorem Inv.K5(I:Inv X pins Z H s):∀b∈fk X.stack,b∈X.env.locals::X.fs:=λb hb=>by
 rcases I.ok.qQ with e|⟨e,hf⟩
 ·rw[e] at hb;exact bI _ hb
 ·rw[e] at hb;unfold fk at hb;rw[dJ,hf] at hb;exact hb
theorem Inv.xR(I:Inv X pins Z H s):∀b∈fk X.stack,H b=none:=λb hb=>by
 rcases aH.mp (I.K5 b hb) with e|hb
 ·rw[e];exact I.free
 ·obtain⟨_,o,ho,_⟩:=I.ok.L3.mem hb;exact I.base.free b o ho (I.ok.nA b hb) λz=>I.ok.kQ b z hb
theorem Inv.step{g':Array GenState}{t':Nat}{d':Drawn}{ch:List Addr}(I:Inv X pins Z H s)(km:∀b∈ch,(b∈X.ex\/X.cU.heap.objs.size<=b)/\b≠X.env.locals/\(∀x c,X.env.cells.lookup x=some c->c≠b)/\∀p∈X.pn++pins,p.1≠b)(keep:∀b o,b≠X.env.locals->b∉X.fs->b∉ch->s.heap.get? b=some o->H b=none->h'.get? b=some o)(slot:∀b o,b≠X.env.locals->b∈X.fs->b∉ch->s.heap.get? b=some o->H b=none->∃sl,h'.get? b=some { o with slots:=sl })(free:∀b o,b∉ch->s.heap.get? b=some o->H b=none->H' b=none)(there:∀b o,b∉ch->s.heap.get? b=some o->∃o',h'.get? b=some o')(gK:∀b xs,H b=some (.tup xs)->H' b=some (.tup xs))(gs:∀b o u,H b=some (.jb o u)->H' b=some (.jb o u))(gL:∀b ps,H b=some (.nQ ps)->∃more,H' b=some (.nQ (ps++more)))(ns:∀m,s.heap.Ns X.env.locals m->h'.Ns X.env.locals m)(bE:fG X.prog X.w H' h')(hg:AllBare g') :
  Inv X pins Z H' { s with heap:=h',gens:=g',drawn:=d',toks:=t' }:=by
 have DV:∀b o,X.cU.heap.get? b=some o->b≠X.env.locals:=λb o e=>aN (ax (ay e) I.ok.above);have nX:∀b o,X.cU.heap.get? b=some o->b∉X.ex->b∉ch:=λb o e hx hb=>by
  rcases(km b hb).1 with z|z
  ·exact hx z
  ·exact absurd (ax (ay e) z) (bj _)
 have cellK:∀x c,X.env.cells.lookup x=some c->∀v,s.heap.IsCell c v->h'.IsCell c v:=λx c e v ⟨o,ho,hd⟩=>by
  have tE:c∉ch:=λz=>(km c z).2.2.1 x c e rfl;by_cases hc:c∈X.fs
  ·obtain⟨sl,q⟩:=slot c o (I.qq x c e) hc tE ho (I.dZ x c e);exact⟨_,q,hd⟩
  ·exact⟨o,keep c o (I.qq x c e) hc tE ho (I.dZ x c e),hd⟩
 refine⟨I.ok,I.os,hg,⟨λb o e n hb hx=>?_,λb o e n hb hx=>?_,λb o e n hx=>?_,λb o e hx=>?_,λb xs e=>gK b xs (I.base.gK b xs e),λb o xs e=>gs b o xs (I.base.gs b o xs e),λb ps e=>?_⟩,?_,λx c e=>?_,?_,λx c e=>?_,λp hp=>?_,bE,I.len⟩
 ·exact keep b o (DV b o e) hb (nX b o e hx) (I.base.keep b o e n hb hx) (I.base.free b o e n hx)
 ·obtain⟨sl,e1⟩:=I.base.slot b o e n hb hx;obtain⟨KW,e2⟩:=slot b _ (DV b o e) hb (nX b o e hx) e1 (I.base.free b o e n hx);exact⟨KW,e2⟩
 ·obtain⟨o',e1⟩:=I.base.there b o e hx;exact free b o' (nX b o e hx) e1 (I.base.free b o e n hx)
 ·obtain⟨o',e1⟩:=I.base.there b o e hx;exact there b o' (nX b o e hx) e1
 ·obtain⟨m1,e1⟩:=I.base.gL b ps e;obtain⟨m2,e2⟩:=gL b _ e1;exact⟨m1++m2,by rw[e2,Ks]⟩
 ·obtain⟨m,hn,hl⟩:=I.loc;refine⟨m,ns m hn,λi x v e1 e2 e3=>?_⟩;obtain⟨u,r,l⟩:=hl i x v e1 e2 e3;refine⟨u,r,?_⟩;rcases l with l|⟨k,c,e,z⟩
  ·exact .inl l
  ·exact .inr ⟨k,c,e,cellK x c e _ z⟩
 ·obtain⟨v,z⟩:=I.cell x c e;exact⟨v,cellK x c e v z⟩
 ·obtain⟨m,⟨o,_,_,ho,_⟩,_⟩:=I.loc;exact free _ o (λz=>(km _ z).2.1 rfl) ho I.free
 ·obtain⟨v,o,ho,hd⟩:=I.cell x c e;exact free c o (λz=>(km c z).2.2.1 x c e rfl) ho (I.dZ x c e)
 ·obtain⟨e,n,ne,nf,d⟩:=I.pin p hp;have tE:p.1∉ch:=λz=>(km p.1 z).2.2.2 p hp rfl;exact⟨keep p.1 p.2 ne nf tE e n,free p.1 p.2 tE e n,ne,nf,d⟩
theorem Inv.un{t':Nat}(I:Inv X pins Z H s)(u:Un X.fs [] H H' s.heap h')(bE:fG X.prog X.w H' h'):Inv X pins Z H' { s with heap:=h',toks:=t' }:=by
 obtain⟨m,⟨o,es,ep,ho,r⟩,_⟩:=id I.loc;obtain⟨sl,hL⟩:=u.any ho I.free (by simp);exact I.step (g':=s.gens) (d':=s.drawn) (ch:=[]) (λ_ z=>nomatch z) (λb o _ hb _ e n=>u.keep b o e n hb (by simp)) (λb o _ hb _ e n=>u.slot b o e n hb (by simp)) (λb o _ e n=>u.free b o e n (by simp)) (λb o _ e=>u.there b o e (by simp)) u.gK u.gs u.gL (λm' hm=>by
  obtain⟨o',Az,AA,lZ,r'⟩:=hm;rw[ho] at lZ;cases lZ;exact ⟨_,Az,AA,hL,r'⟩) bE I.bare
theorem Inv.call{g':Array GenState}{t':Nat}{d':Drawn}{ch:List Addr}(I:Inv X pins Z H s)(u:Un (fk X.stack) ch H H' s.heap h')(bE:fG X.prog X.w H' h')(hg:AllBare g')(km:∀b∈ch,(b∈X.ex\/X.cU.heap.objs.size<=b)/\b≠X.env.locals/\(∀x c,X.env.cells.lookup x=some c->c≠b)/\∀p∈X.pn++pins,p.1≠b) :
  Inv X pins Z H' { s with heap:=h',gens:=g',drawn:=d',toks:=t' }:=by
 obtain⟨m,⟨o,es,ep,ho,r⟩,_⟩:=id I.loc;obtain⟨sl,hL⟩:=u.any ho I.free λz=>(km _ z).2.1 rfl;exact I.step (ch:=ch) km (λb o hL hb hc e n=>u.keep b o e n (λz=>(aH.mp (I.K5 b z)).elim hL hb) hc) (λb o _ _ hc e n=>u.any e n hc) (λb o hc e n=>u.free b o e n hc) (λb o hc e=>u.there b o e hc) u.gK u.gs u.gL (λm' hm=>by
  obtain⟨o',Az,AA,lZ,r'⟩:=hm;rw[ho] at lZ;cases lZ;exact ⟨_,Az,AA,hL,r'⟩) bE hg
theorem Inv.turned{t':Nat}{it:Addr}(I:Inv X pins Z H s)(k:∀b o,b≠it->s.heap.get? b=some o->h'.get? b=some o)(hn:H it=none)(hL:it≠X.env.locals)(h1:it∈X.ex\/X.cU.heap.objs.size<=it)(h2:∀x c,X.env.cells.lookup x=some c->c≠it)(h3:∀p∈X.pn++pins,p.1≠it):Inv X pins Z H { s with heap:=h',toks:=t' }:=by
 have DU:∀b u,H b=some u->b≠it:=λb u e z=>by rw[z,hn] at e;cases e
 refine I.step (g':=s.gens) (d':=s.drawn) (ch:=[it]) (λb hb=>?_) (λb o _ _ hc e _=>k b o (λz=>hc (by simp[z])) e) (λb o _ _ hc e _=>⟨o.slots,k b o (λz=>hc (by simp[z])) e⟩) (λ_ _ _ _ n=>n)
  (λb o hc e=>⟨o,k b o (λz=>hc (by simp[z])) e⟩) (λ_ _ e=>e) (λ_ _ _ e=>e) (λb ps e=>⟨#[],by rw[e];simp⟩) (λm hm=>?_) (λb u e=>?_) I.bare
 ·have e:b=it:=by simpa using hb
  subst e;exact⟨h1,hL,h2,h3⟩
 ·obtain⟨o,es,ep,ho,r⟩:=hm;exact⟨o,es,ep,k _ o (bC hL) ho,r⟩
 ·refine(I.bE b u e).Q6 (λc v hc q=>k c v ?_ q) (λ_ q=>q) λ_ _ q=>q;rcases hc with z|z
  ·rw[z];exact DU b u e
  ·exact DU c _ z
theorem Inv.tok(I:Inv X pins Z H s)(t:Nat):Inv X pins Z H { s with toks:=t }:=I.un (h':=s.heap) (t':=t) Un.refl I.bE
theorem Inv.kept{t':Nat}(I:Inv X pins Z H s)(k:∀b u,s.heap.get? b=some u->h'.get? b=some u):Inv X pins Z H { s with heap:=h',toks:=t' }:=I.un (Un.kept k) (I.bE.kept k)
theorem Inv.laid{a:Addr}{o:HO}{t':Nat}(I:Inv X pins Z H s)(k:∀b u,s.heap.get? b=some u->h'.get? b=some u)(hp:s.heap.objs.size<=a)(new:m7 X.prog X.w (upd H a o) h' a o) :
  Inv X pins Z (upd H a o) { s with heap:=h',toks:=t' }:=I.un (Un.laid k hp (I.bE.fresh hp)) (I.bE.laid k hp new)
theorem Inv.write{x e:Addr}{o:HO}{t':Nat}(I:Inv X pins Z H s)(mu:vB (H x))(he:e=x\/H e=some (.own x))(k:∀b u,b≠e->s.heap.get? b=some u->h'.get? b=some u)(ow:∃u,h'.get? e=some u)(new:m7 X.prog X.w (upd H x o) h' x o):Inv X pins Z (upd H x o) { s with heap:=h',toks:=t' }:=I.un (Un.write mu he k ow) (I.bE.write mu he k ow new)
theorem Inv.weak{bN:List (Option V)}(I:Inv X pins Z H s)(hl:bN.length=Z.length)(w:∀(i:Nat) v,bN[i]?=some (some v)->Z[i]?=some (some v)):Inv X pins bN H s :=
 ⟨I.ok,I.os,I.bare,I.base,let ⟨m,hn,Eu⟩:=I.loc;⟨m,hn,λi x v e1 e2 e3=>Eu i x v e1 (w i v e2) e3⟩,I.cell,I.free,I.dZ,I.pin,I.bE,hl.trans I.len⟩
theorem Inv.J9{ip:List (Addr×Obj)}(I:Inv X pins Z H s)(h:∀p∈ip,s.heap.get? p.1=some p.2/\H p.1=none/\p.1≠X.env.locals/\p.1∉X.fs/\∀v,p.2.data≠.cell v):Inv X ip Z H s :=
 ⟨I.ok,I.os,I.bare,I.base,I.loc,I.cell,I.free,I.dZ,λp hp=>(aZ.mp hp).elim (λz=>I.pin p (dA _ z)) (h p),I.bE,I.len⟩
theorem Gm{N:List Str}(hN:N.Nodup){i j:Nat}{x:Str}(a:N[i]?=some x)(b:N[j]?=some x):i=j:=by
 obtain⟨h1,e1⟩:=aj.mp a;obtain⟨h2,e2⟩:=aj.mp b;exact(gG hN).mp (e1.trans e2.symm)
theorem Hh{M:Model}{A:Around}{E:Value->Shared->Prop}{i:Nat}{x:Str}{v:V}{u:Value}{Q:Unit->Shared->Prop}(I:Inv X pins Z H s)(hN:X.N.Nodup)(hi:X.N[i]?=some x)(hx:Loc X.env.scope x)(r:RelV v u)(h:∀s',Inv X pins (Z.set i (some v)) H s'->(∃a,Heap.SameBut a s.heap s'.heap/\(a=X.env.locals\/X.env.cells.lookup x=some a))->Q () s')(hf:X.fn x=true\/X.env.scope.names.lookup x=some .local:=by first|exact .inl rfl|exact .inr rfl|assumption):wpAny M A (storeName X.env x u) Q E s:=by
 obtain⟨m,hn,hl⟩:=id I.loc;have kL:(X.env.scope.kind==.class||(X.env.scope.kind==.module&&X.env.locals != X.env.globals))=false:=by rw[I.ok.kind];rfl
 have uc:i<Z.length:=by rw[I.len];exact(aj.mp hi).1
 have qq:=I.qq;have tracked:∀{a:Addr} {h':Heap},(∃o,s.heap.get? a=some o/\H a=none)->Heap.SameBut a s.heap h'->fG X.prog X.w H h':=λ{a h'} ha hs b ob e=>by
  obtain⟨_,_,mn⟩:=ha;refine(I.bE b ob e).Q6 (λc w' hc q=>(hs.2 c ?_).trans q) (λ_ q=>q) λ_ _ q=>q;rintro rfl;rcases hc with rfl|hc
  ·rw[mn] at e;cases e
  ·rw[mn] at hc;cases hc
 rcases hx with hk|hk
 ·refine wpAny_storeName_local hk hn (λh' Mi hs=>?_) kL;obtain⟨oL,_,_,tV,_⟩:=id hn;refine h _ ⟨I.ok,I.os,I.bare,⟨λb o e n hb hx=>?_,λb o e n hb hx=>?_,I.base.free,λb o e hx=>?_,I.base.gK,I.base.gs,I.base.gL⟩,⟨_,Mi,λj y v' e1 e2 e3=>?_⟩,λy c e=>?_,I.free,I.dZ,λp hp=>?_,tracked ⟨oL,tV,I.free⟩ hs,by simpa using I.len⟩ ⟨_,hs,.inl rfl⟩
  ·exact(hs.2 b (aN (ax (ay e) I.ok.above))).trans (I.base.keep b o e n hb hx)
  ·obtain⟨sl,e1⟩:=I.base.slot b o e n hb hx;exact⟨sl,(hs.2 b (aN (ax (ay e) I.ok.above))).trans e1⟩
  ·obtain⟨o',e1⟩:=I.base.there b o e hx;exact⟨o',(hs.2 b (aN (ax (ay e) I.ok.above))).trans e1⟩
  ·by_cases hj:j=i
   ·subst hj;rw[hi] at e1;cases e1;rw[aR uc] at e2;cases e2;exact⟨u,r,.inl ⟨hk,by simp⟩⟩
   ·rw[aw (bC hj)] at e2;obtain⟨u',r',q⟩:=hl j y v' e1 e2 e3;refine⟨u',r',?_⟩;rcases q with⟨k,e⟩|⟨k,c,e,z⟩
    ·refine .inl ⟨k,?_⟩;have:y≠x:=λe=>hj (Gm hN e1 (e▸hi));simp[this,e]
    ·exact .inr ⟨k,c,e,z.sameBut hs (qq y c e)⟩
  ·obtain⟨w',z⟩:=I.cell y c e;exact⟨w',z.sameBut hs (qq y c e)⟩
  ·obtain⟨e,n,ne,nf,d⟩:=I.pin p hp;exact⟨(hs.2 p.1 ne).trans e,n,ne,nf,d⟩
 ·have rj:X.fn x=true:=by
   rcases hf with z|z
   ·exact z
   ·rw[z] at hk;cases hk
  obtain⟨c,hc⟩:=I.ok.has x (.inl hk);obtain⟨w',z⟩:=I.cell x c hc;refine wpAny_storeName_cell I.ok.kind hk hc z (λh' ja hs=>?_);obtain⟨oc,zq,zp⟩:=id z;refine h { s with heap:=h' } ⟨I.ok,I.os,I.bare,⟨λb o e n hb hx=>?_,λb o e n hb hx=>?_,I.base.free,λb o e hx=>?_,I.base.gK,I.base.gs,I.base.gL⟩,⟨m,hn.sameBut hs (bC (qq x c hc)),λj y v' e1 e2 e3=>?_⟩,λy c' e=>?_,I.free,I.dZ,λp hp=>?_,tracked ⟨oc,zq,I.dZ x c hc⟩ hs,by simpa using I.len⟩ ⟨c,hs,.inr hc⟩
  ·exact(hs.2 b (aN (ax (ay e) (I.ok.qu x c rj hc)))).trans (I.base.keep b o e n hb hx)
  ·obtain⟨sl,e1⟩:=I.base.slot b o e n hb hx;exact⟨sl,(hs.2 b (aN (ax (ay e) (I.ok.qu x c rj hc)))).trans e1⟩
  ·obtain⟨o',e1⟩:=I.base.there b o e hx;exact⟨o',(hs.2 b (aN (ax (ay e) (I.ok.qu x c rj hc)))).trans e1⟩
  ·by_cases hj:j=i
   ·subst hj;rw[hi] at e1;cases e1;rw[aR uc] at e2;cases e2;exact⟨u,r,.inr ⟨.inl hk,c,hc,ja⟩⟩
   ·rw[aw (bC hj)] at e2;obtain⟨u',r',q⟩:=hl j y v' e1 e2 e3;refine⟨u',r',?_⟩;rcases q with q|⟨k,c',e,z'⟩
    ·exact .inl q
    ·refine .inr ⟨k,c',e,z'.sameBut hs ?_⟩;rintro rfl;exact hj (Gm hN e1 (I.ok.inj _ _ _ e hc▸hi))
  ·by_cases rn:c'=c
   ·subst rn;exact⟨_,ja⟩
   ·obtain⟨w2,z2⟩:=I.cell y c' e;exact⟨w2,z2.sameBut hs rn⟩
  ·obtain⟨e,n,ne,nf,d⟩:=I.pin p hp;refine⟨(hs.2 p.1 ?_).trans e,n,ne,nf,d⟩;intro q;rw[q,zq] at e;have q':oc=p.2:=aI e;exact d w' (by rw[<- q'];exact zp)
theorem Q5{M:Model}{A:Around}{E:Value->Shared->Prop}{i:Nat}{x:Str}{v:V}{u:Value}{Q:Unit->Shared->Prop}(I:Inv X pins Z H s)(hN:X.N.Nodup)(hi:X.N[i]?=some x)(hx:Loc X.env.scope x)(r:RelV v u)(h:∀s',Inv X pins (Z.set i (some v)) H s'->Q () s')(hf:X.fn x=true\/X.env.scope.names.lookup x=some .local:=by first|exact .inl rfl|exact .inr rfl|assumption):wpAny M A (storeName X.env x u) Q E s :=
 Hh I hN hi hx r (λs' I' _=>h s' I') hf
theorem Inv.Cb{s':Shared}{ch:List Addr}(I:Inv X pins Z H s)(ho:s'.os=s.os)(u:Un (fk X.stack) ch H H' s.heap s'.heap)(bE:fG X.prog X.w H' s'.heap)(hg:AllBare s'.gens)(km:∀b∈ch,(b∈X.ex\/X.cU.heap.objs.size<=b)/\b≠X.env.locals/\(∀x c,X.env.cells.lookup x=some c->c≠b)/\∀p∈X.pn++pins,p.1≠b):Inv X pins Z H' s':=by
 obtain⟨h',g',d',t',o'⟩:=s';have e:o'=s.os:=ho;subst e;exact I.call (g':=g') (t':=t') (d':=d') u bE hg km
end
noncomputable abbrev XK:=Value->Option Addr->Hp->Prop
noncomputable abbrev St:=List (Option V)
noncomputable abbrev VK:=V->Hp->Prop
noncomputable abbrev TE:=St->Hp->VK->Prop
noncomputable abbrev TT:=St->Hp->(Bool->Hp->Prop)->Prop
noncomputable abbrev TA:=St->Hp->(List V->Hp->Prop)->Prop
structure Ends where
 nx:St->Hp->Prop
 rt:VK
 bk:St->Hp->Prop:=λ_ _=>False
 ct:St->Hp->Prop:=λ_ _=>False
noncomputable abbrev TS:=Ends->St->Hp->Prop
noncomputable def EP(X:Cx)(pins:List (Addr×Obj))(Z:St)(Q:VK)(u:Value)(s':Shared):Prop:=∃v H',Inv X pins Z H' s'/\RelV v u/\Q v H'
noncomputable def TP(X:Cx)(pins:List (Addr×Obj))(Z:St)(Q:Bool->Hp->Prop)(b:Bool)(s':Shared):Prop:=∃H',Inv X pins Z H' s'/\Q b H'
noncomputable def AP(X:Cx)(pins:List (Addr×Obj))(Z:St)(Q:List V->Hp->Prop)(us:List Value)(s':Shared):Prop:=∃vs H',Inv X pins Z H' s'/\Vals vs us/\Q vs H'
noncomputable def SP(X:Cx)(pins:List (Addr×Obj))(D:Ends)(f:Flow)(s':Shared):Prop :=
 match f with
 |.next=>∃bN H',Inv X pins bN H' s'/\D.nx bN H'
 |.brk=>∃bN H',Inv X pins bN H' s'/\D.bk bN H'
 |.cont=>∃bN H',Inv X pins bN H' s'/\D.ct bN H'
 |.ret u=>∃v bN H',Inv X pins bN H' s'/\RelV v u/\D.rt v H'
noncomputable def PE(X:Cx)(e:Expr)(t:TE):Prop :=
 ∀(pins:List (Addr×Obj)) (s:Shared) (Z:St) (H:Hp) (Q:VK),Inv X pins Z H s->t Z H Q->wpAny (model X.prog X.w) X.A (eval e X.env) (EP X pins Z Q) X.xe s
noncomputable def PT(X:Cx)(e:Expr)(t:TT):Prop :=
 ∀(pins:List (Addr×Obj)) (s:Shared) (Z:St) (H:Hp) (Q:Bool->Hp->Prop),Inv X pins Z H s->t Z H Q->wpAny (model X.prog X.w) X.A (isTrue e X.env (eval e X.env)) (TP X pins Z Q) X.xe s
noncomputable def PW(X:Cx)(e:Expr)(t:TT):Prop :=
 ∀(whole:Sem Value) (pins:List (Addr×Obj)) (s:Shared) (Z:St) (H:Hp) (Q:Bool->Hp->Prop),Inv X pins Z H s->t Z H Q->wpAny (model X.prog X.w) X.A (isTrue e X.env whole) (TP X pins Z Q) X.xe s
theorem PW.pt{X:Cx}{e:Expr}{t:TT}(h:PW X e t):PT X e t:=h _
noncomputable def PA(X:Cx)(es:List Expr)(t:TA):Prop :=
 ∀(pos:Pos) (pins:List (Addr×Obj)) (s:Shared) (Z:St) (H:Hp) (Q:List V->Hp->Prop),Inv X pins Z H s->t Z H Q->wpAny (model X.prog X.w) X.A (spliced (backTo pos (starEach es X.env))) (AP X pins Z Q) X.xe s
noncomputable def PS(X:Cx)(st:Stmt)(t:TS):Prop :=
 ∀(pins:List (Addr×Obj)) (s:Shared) (Z:St) (H:Hp) (D:Ends),Inv X pins Z H s->t D Z H->wpAny (model X.prog X.w) X.A (exec st X.env) (SP X pins D) X.xe s
noncomputable def iR(X:Cx)(st:List Stmt)(t:TS):Prop :=
 ∀(pins:List (Addr×Obj)) (s:Shared) (Z:St) (H:Hp) (D:Ends),Inv X pins Z H s->t D Z H->wpAny (model X.prog X.w) X.A (execs st X.env) (SP X pins D) X.xe s
theorem cy{α:Type}{t:Sem α}{Q Q':α->Shared->Prop}{M:Model}{A:Around}{E:Value->Shared->Prop}{s:Shared}(h:wpAny M A t Q E s)(hQ:∀a s,Q a s->Q' a s):wpAny M A t Q' E s:=bx h hQ λ_ _ x=>x
end L2
namespace L2
open PySem PySem.Spec PyProof.Rows
section
variable{X:Cx}
noncomputable def Vk(i:Nat):TE:=λZ H Q=>∃v,Z[i]?=some (some v)/\Q v H
noncomputable def tC(v:V):TE:=λ_ H Q=>Q v H
theorem Qj{i:Nat}{x:Str}{pos:Pos}(hN:X.N[i]?=some x)(hv:vx X.env.scope x)(hd:(x==("__debug__":Str))=false:=by decide)(ka:(x==("__classdict__":Str))=false:=by decide):PE X (.Name x pos) (Vk i):=by
 intro pins s Z H Q I h;obtain⟨v,e,h⟩:=h;obtain⟨m,hn,hl⟩:=I.loc;obtain⟨u,r,l⟩:=hl i x v hN e hv;have fin:EP X pins Z Q u s:=⟨v,H,I,r,h⟩
 rcases l with⟨hk,hm⟩|⟨hk,c,hc,kn⟩
 ·exact wpAny_Name (wpAny_loadName_local I.ok.kind hk hn hm fin) hd
 ·rcases hk with hk|hk
  ·exact wpAny_Name (wpAny_loadName_cell I.ok.kind hk hc kn fin) hd
  ·exact wpAny_Name (wpAny_loadName_free I.ok.kind hk hc kn fin ka) hd
theorem Qc{i j pos}:PE X (.Constant (.int i) j pos) (tC (.int i)):=λ_ _ _ H _ I h=>wpAny_Constant_int ⟨.int i,H,I.tok _,⟨_,rfl⟩,h⟩
theorem Wm{b j pos}:PE X (.Constant (.bool b) j pos) (tC (.bl b)):=λ_ _ _ H _ I h=>Constant_bool ⟨.bl b,H,I,rfl,h⟩
theorem Qf{j pos}:PE X (.Constant .none j pos) (tC .bD):=λ_ _ _ H _ I h=>Constant_none ⟨.bD,H,I,rfl,h⟩
theorem Ip{x j pos}:PE X (.Constant (.str x) j pos) (tC (.str x)):=λ_ _ _ H _ I h=>Calls.Constant_str ⟨.str x,H,I.tok _,⟨_,rfl⟩,h⟩
noncomputable def Gl(X:Cx)(x:Str):Prop:=X.env.kindOf x=some .globalImplicit
theorem P9{E:Value->Shared->Prop}{pins:List (Addr×Obj)}{s:Shared}{Z:St}{H:Hp}{x:Str}{u:Value}{pos:Pos}{Q:Value->Shared->Prop}(I:Inv X pins Z H s)(hg:Gl X x)(hm:X.mg x=some u)(h:Q u s)(hd:(x==("__debug__":Str))=false:=by decide):wpAny (model X.prog X.w) X.A (eval (.Name x pos) X.env) Q E s :=
 ym I.ok.kind hg (Calls.loadGlobal_global (by rw[I.ok.glob];exact I.mod.glob.keeps I.bk) hm h) hd
theorem K9{E:Value->Shared->Prop}{pins:List (Addr×Obj)}{s:Shared}{Z:St}{H:Hp}{x:Str}{u:Value}{pos:Pos}{Q:Value->Shared->Prop}(I:Inv X pins Z H s)(hg:Gl X x)(hm:X.mg x=none)(hv:bootBuiltins x=some u)(h:Q u s)(hn:x≠"__name__":=by decide)(hd:(x==("__debug__":Str))=false:=by decide):wpAny (model X.prog X.w) X.A (eval (.Name x pos) X.env) Q E s:=by
 obtain⟨mb,h1,h2⟩:=I.mod.blt;exact ym I.ok.kind hg (Calls.loadGlobal_builtin (by rw[I.ok.glob];exact I.mod.glob.keeps I.bk) hm (by rw[I.ok.blt];exact h1.keeps I.bk) ((h2 x hn).trans hv) h) hd
theorem xO{x:Str}{v:V}{u:Value}{pos:Pos}(hg:Gl X x)(hm:X.mg x=some u)(r:RelV v u)(hd:(x==("__debug__":Str))=false:=by decide):PE X (.Name x pos) (tC v) :=
 λ_ _ _ H _ I h=>P9 I hg hm ⟨v,H,I,r,h⟩ hd
theorem Sy{x:Str}{v:V}{u:Value}{pos:Pos}(hg:Gl X x)(hm:X.mg x=none)(hv:bootBuiltins x=some u)(r:RelV v u)(hn:x≠"__name__":=by decide)(hd:(x==("__debug__":Str))=false:=by decide):PE X (.Name x pos) (tC v) :=
 λ_ _ _ H _ I h=>K9 I hg hm hv ⟨v,H,I,r,h⟩ hn hd
variable{a b:Expr}{ta tb:TE}{pos:Pos}
variable{tA vQ:TT}{rest:List Expr}
noncomputable def UY(t u:TT):TT:=λZ H Q=>t Z H λc H1=>if c=true then u Z H1 Q else Q false H1
noncomputable def KN(t u:TT):TT:=λZ H Q=>t Z H λc H1=>if c=true then Q true H1 else u Z H1 Q
noncomputable def Ve(t:TT):TT:=λZ H Q=>t Z H λc H1=>Q (!c) H1
theorem SR(ha:PT X a tA):PW X (.BoolOp .And [a] pos) tA:=by
 intro wh pins s Z H Q I h;refine isTrue_and (cy (ha pins s Z H Q I h) λc s1 e=>?_);cases c with
 |true=>exact isTrue_and_nil e
 |false=>exact e
theorem Qv(ha:PT X a tA):PW X (.BoolOp .Or [a] pos) tA:=by
 intro wh pins s Z H Q I h;refine isTrue_or (cy (ha pins s Z H Q I h) λc s1 e=>?_);cases c with
 |false=>exact isTrue_or_nil e
 |true=>exact e
theorem Qu(ha:PT X a tA)(hb:PW X (.BoolOp .And (b::rest) pos) vQ):PW X (.BoolOp .And (a::b::rest) pos) (UY tA vQ):=by
 intro wh pins s Z H Q I h;refine isTrue_and (cy (ha pins s Z H _ I h) λc s1 ⟨H1,I1,q1⟩=>?_);cases c with
 |true=>exact hb wh pins s1 Z H1 Q I1 q1
 |false=>exact⟨H1,I1,q1⟩
theorem Ww(ha:PT X a tA)(hb:PW X (.BoolOp .Or (b::rest) pos) vQ):PW X (.BoolOp .Or (a::b::rest) pos) (KN tA vQ):=by
 intro wh pins s Z H Q I h;refine isTrue_or (cy (ha pins s Z H _ I h) λc s1 ⟨H1,I1,q1⟩=>?_);cases c with
 |true=>exact⟨H1,I1,q1⟩
 |false=>exact hb wh pins s1 Z H1 Q I1 q1
theorem Qt(ha:PT X a tA):PT X (.UnaryOp .Not a pos) (Ve tA):=by
 intro pins s Z H Q I h;exact isTrue_not (ha pins s Z H (λc H1=>Q (!c) H1) I h)
noncomputable def Oj(ta tb:TE):TE:=λZ H Q=>ta Z H λx H1=>∃c,x=.bl c/\if c=true then tb Z H1 Q else Q (.bl false) H1
noncomputable def Vf(ta tb:TE):TE:=λZ H Q=>ta Z H λx H1=>∃c,x=.bl c/\if c=true then Q (.bl true) H1 else tb Z H1 Q
noncomputable def Ot(ta:TE):TE:=λZ H Q=>ta Z H λx H1=>∃c,x=.bl c/\Q (.bl (!c)) H1
theorem Qh{op}{t:TE}(h:PE X a t):PE X (.BoolOp op [a] pos) t:=λpins s Z H Q I hw=>BoolOp_one (h pins s Z H Q I hw)
theorem P'(ha:PE X a ta)(hb:PE X (.BoolOp .And (b::rest) pos) tb):PE X (.BoolOp .And (a::b::rest) pos) (Oj ta tb):=by
 intro pins s Z H Q I h;refine BoolOp_and (cy (ha pins s Z H _ I h) λv s1 ⟨x,H1,I1,r1,q1⟩=>?_);obtain⟨c,rfl,q1⟩:=q1;cases r1;refine cj ?_;cases c with
 |true=>exact hb pins s1 Z H1 Q I1 q1
 |false=>exact⟨.bl false,H1,I1,rfl,q1⟩
theorem Wr(ha:PE X a ta)(hb:PE X (.BoolOp .Or (b::rest) pos) tb):PE X (.BoolOp .Or (a::b::rest) pos) (Vf ta tb):=by
 intro pins s Z H Q I h;refine BoolOp_or (cy (ha pins s Z H _ I h) λv s1 ⟨x,H1,I1,r1,q1⟩=>?_);obtain⟨c,rfl,q1⟩:=q1;cases r1;refine cj ?_;cases c with
 |false=>exact hb pins s1 Z H1 Q I1 q1
 |true=>exact⟨.bl true,H1,I1,rfl,q1⟩
theorem Qg(ha:PE X a ta):PE X (.UnaryOp .Not a pos) (Ot ta):=by
 intro pins s Z H Q I h;refine UnaryOp_ (cy (ha pins s Z H _ I h) λv s1 ⟨x,H1,I1,r1,q1⟩=>?_);obtain⟨c,rfl,q1⟩:=q1;cases r1;exact not_of (cj ⟨.bl (!c),H1,I1,rfl,q1⟩)
noncomputable def KO(t:TT)(ta tb:TE):TE:=λZ H Q=>t Z H λc H1=>if c=true then ta Z H1 Q else tb Z H1 Q
theorem a28{c:Expr}(hc:PT X c tA)(ha:PE X a ta)(hb:PE X b tb):PE X (.IfExp c a b pos) (KO tA ta tb):=by
 intro pins s Z H Q I h;refine wpAny_IfExp (cy (hc pins s Z H _ I h) λd s1 ⟨H1,I1,q1⟩=>?_);cases d with
 |true=>exact ha pins s1 Z H1 Q I1 q1
 |false=>exact hb pins s1 Z H1 Q I1 q1
end
end L2
namespace L2
open PySem PySem.Spec PyProof.Rows
noncomputable def fm(K:PySem.W.Frag)(H:Hp)(a:Addr)(xs:List V):Prop :=
 Rd H a (.lst xs) \/
  ∃(o:Obj) (aT:Array Value) (n:Nat),K.lookup a=some o/\o.cls=.type "list"/\o.dict=none/\o.data=.seq aT n/\aT.size<=sizeLine/\Vals xs aT.toList
noncomputable def gX(K:PySem.W.Frag)(H:Hp)(a:Addr)(xs:List V):Prop :=
 Rd H a (.tup xs) \/
  ∃(o:Obj) (aT:Array Value) (n:Nat),K.lookup a=some o/\o.cls=.type "tuple"/\o.data=.seq aT n/\aT.size<=sizeLine/\Vals xs aT.toList
noncomputable def TU:Value->Option V
 |.none=>some .bD
 |.bool b=>some (.bl b)
 |.int i _=>some (.int i)
 |.str x _=>some (.str x)
 |.bytes b _=>some (.ku b)
 |.float b _=>some (.ql b)
 |.ref a=>some (.ref a)
 |.type n=>some (.ty n)
 |_=>none
theorem RelV.abs{x:V}{u:Value}(r:RelV x u):TU u=some x:=by
 cases x with
 |bD=>cases r;rfl
 |bl _=>cases r;rfl
 |int _=>obtain⟨t,rfl⟩:=r;rfl
 |str _=>obtain⟨t,rfl⟩:=r;rfl
 |ku _=>obtain⟨t,rfl⟩:=r;rfl
 |ql _=>obtain⟨t,rfl⟩:=r;rfl
 |ref _=>cases r;rfl
 |ty _=>cases r;rfl
theorem RelV.inj{x y:V}{u:Value}(r:RelV x u)(q:RelV y u):x=y:=aI (r.abs.symm.trans q.abs)
theorem Vals.inj:∀{xs ys:List V} {us:List Value},Vals xs us->Vals ys us->xs=ys
 |_,_,_,.nil,.nil=>rfl
 |_,_,_,.cons r t,.cons r' t'=>by rw[r.inj r',Vals.inj t t']
section
variable{X:Cx}{pins:List (Addr×Obj)}{Z:St}{H:Hp}{s:Shared}{a:Addr}{xs ys:List V}
theorem fm.of{K:PySem.W.Frag}(h:H a=some (.lst xs)):fm K H a xs:=.inl (.inl h)
theorem Inv.list(I:Inv X pins Z H s)(h:fm X.K H a xs):∃aT:List Value,Vals xs aT/\PlainL s.heap a aT.toArray/\xs.length<=sizeLine:=by
 rcases h with h|⟨o,aT,n,hk,hc,hd,hs,hz,r⟩
 ·obtain⟨z,aT,n,r,e⟩:=h.ok I.bE;exact⟨aT,r,⟨_,n,e,rfl,rfl,rfl⟩,z⟩
 ·refine⟨aT.toList,r,⟨o,n,I.gp a o hk,hc,hd,by simpa using hs⟩,?_⟩;have e:=r.length;simp only[Array.length_toList] at e;omega
theorem Inv.tuple(I:Inv X pins Z H s)(h:gX X.K H a xs):∃aT:List Value,Vals xs aT/\IsTup s.heap a aT.toArray/\xs.length<=sizeLine:=by
 rcases h with h|⟨o,aT,n,hk,hc,hs,hz,r⟩
 ·obtain⟨z,aT,r,p⟩:=h.ok I.bE;exact⟨aT,r,p.tup,z⟩
 ·refine⟨aT.toList,r,⟨o,I.gp a o hk,hc,n,by simpa using hs⟩,?_⟩;have e:=r.length;simp only[Array.length_toList] at e;omega
theorem Inv.Bw(I:Inv X pins Z H s)(h:fm X.K H a xs)(h':fm X.K H a ys):xs=ys:=by
 obtain⟨aT,r,⟨o,n,e,_,_,d⟩,_⟩:=I.list h;obtain⟨its',r',⟨o',n',e',_,_,d'⟩,_⟩:=I.list h';rw[e] at e';cases e';rw[d] at d';injection d' with d1 _;have:aT=its':=by simpa using fI Array.toList d1
 subst this;exact r.inj r'
theorem Inv.YD(I:Inv X pins Z H s)(h:gX X.K H a xs)(h':gX X.K H a ys):xs=ys:=by
 obtain⟨aT,r,⟨o,e,_,n,d⟩,_⟩:=I.tuple h;obtain⟨its',r',⟨o',e',_,n',d'⟩,_⟩:=I.tuple h';rw[e] at e';cases e';rw[d] at d';injection d' with d1 _;have:aT=its':=by simpa using fI Array.toList d1
 subst this;exact r.inj r'
end
noncomputable abbrev Cx.Y5(X:Cx)(E:Value->Shared->Prop):Cx:={ X with xe:=E }
theorem Cx.Ok.Y5{X:Cx}(ok:X.Ok)(E:Value->Shared->Prop):(X.Y5 E).Ok :=
 ⟨ok.mod,ok.kind,ok.glob,ok.blt,ok.above,ok.inj,ok.has,ok.qu,ok.hd,ok.frames,ok.qQ,ok.wM,ok.bs,ok.mR,ok.jV,ok.kQ,ok.L3,ok.nA⟩
theorem Cx.Ok.AS{X:Cx}{E:Value->Shared->Prop}(ok:(X.Y5 E).Ok):X.Ok :=
 ⟨ok.mod,ok.kind,ok.glob,ok.blt,ok.above,ok.inj,ok.has,ok.qu,ok.hd,ok.frames,ok.qQ,ok.wM,ok.bs,ok.mR,ok.jV,ok.kQ,ok.L3,ok.nA⟩
section
variable{X:Cx}{pins:List (Addr×Obj)}{Z:St}{H:Hp}{s:Shared}{E:Value->Shared->Prop}
theorem Inv.Y5(I:Inv X pins Z H s)(E:Value->Shared->Prop):Inv (X.Y5 E) pins Z H s:=⟨I.ok.Y5 E,I.os,I.bare,I.base,I.loc,I.cell,I.free,I.dZ,I.pin,I.bE,I.len⟩
theorem Inv.AS(I:Inv (X.Y5 E) pins Z H s):Inv X pins Z H s:=⟨I.ok.AS,I.os,I.bare,I.base,I.loc,I.cell,I.free,I.dZ,I.pin,I.bE,I.len⟩
end
section
variable{X:Cx}{st:Stmt}{rest:List Stmt}{t u:TS}{e:Expr}{te:TE}{pos:Pos}
noncomputable def JV:TS:=λD Z H=>D.nx Z H
noncomputable def Vi(t u:TS):TS:=λD Z H=>t { D with nx:=u D } Z H
theorem SN:iR X [] JV:=λ_ _ Z H _ I h=>sj ⟨Z,H,I,h⟩
theorem a18(h1:PS X st t)(h2:iR X rest u):iR X (st::rest) (Vi t u):=by
 intro pins s Z H D I h;refine wpAny_execs_cons (cy (h1 pins s Z H { D with nx:=u D } I h) λf s1 q=>?_);cases f with
 |next =>
  obtain⟨bN,H',I',q⟩:=q;exact h2 pins s1 bN H' D I' q
 |ret v=>exact q
 |brk=>exact q
 |cont=>exact q
theorem SK:PS X (.Pass pos) JV:=λ_ _ Z H _ I h=>wpAny_Pass ⟨Z,H,I,h⟩
theorem Inv.quiet{pins:List (Addr×Obj)}{Z:St}{H:Hp}{s:Shared}(I:Inv X pins Z H s):interactive X.env=false:=by simp[interactive,I.ok.kind]
noncomputable def Oq(te:TE):TS:=λD Z H=>te Z H λ_ H1=>D.nx Z H1
theorem SJ(he:PE X e te)(hs:swapsWith e none pos.line X.env=pure false:=by rfl):PS X (.Expr e pos) (Oq te):=by
 intro pins s Z H D I h;exact wpAny_Expr_any (cy (he pins s Z H _ I h) λv s1 ⟨x,H1,I1,r1,q1⟩=>⟨Z,H1,I1,q1⟩) I.quiet hs
noncomputable def Vh(te:TE):TS:=λD Z H=>te Z H D.rt
theorem Qs(he:PE X e te):PS X (.Return (some e) pos) (Vh te):=by
 intro pins s Z H D I h;exact wpAny_Return_some (cy (he pins s Z H _ I h) λv s1 ⟨x,H1,I1,r1,q1⟩=>⟨x,Z,H1,I1,r1,q1⟩)
noncomputable def Ov:TS:=λD _ H=>D.rt .bD H
theorem SM:PS X (.Return none pos) Ov:=λ_ _ Z H _ I h=>wpAny_Return_none ⟨.bD,Z,H,I,rfl,h⟩
noncomputable def Vc(c:TT)(t u:TS):TS:=λD Z H=>c Z H λb H1=>if b=true then t D Z H1 else u D Z H1
theorem Wv{c:Expr}{a b:List Stmt}{tc:TT}(hc:PT X c tc)(ha:iR X a t)(hb:iR X b u):PS X (.If c a b pos) (Vc tc t u):=by
 intro pins s Z H D I h;refine wpAny_If (cy (hc pins s Z H _ I h) λd s1 ⟨H1,I1,q1⟩=>?_);cases d with
 |true=>exact ha pins s1 Z H1 D I1 q1
 |false=>exact hb pins s1 Z H1 D I1 q1
end
noncomputable abbrev TG:=V->St->Hp->(St->Hp->Prop)->Prop
noncomputable abbrev oW:=List V->St->Hp->(St->Hp->Prop)->Prop
noncomputable def PG(X:Cx)(target:Expr)(t:TG):Prop :=
 ∀(pins:List (Addr×Obj)) (s:Shared) (Z:St) (H:Hp) (v:V) (u:Value) (Q:St->Hp->Prop),Inv X pins Z H s->RelV v u->t v Z H Q ->
  wpAny (model X.prog X.w) X.A (assign target X.env u) (λ_ s'=>∃bN H',Inv X pins bN H' s'/\Q bN H') X.xe s
noncomputable def vA(X:Cx)(ts:List Expr)(t:oW):Prop :=
 ∀(pins:List (Addr×Obj)) (s:Shared) (Z:St) (H:Hp) (vs:List V) (us:List Value) (Q:St->Hp->Prop),Inv X pins Z H s->Vals vs us->t vs Z H Q ->
  wpAny (model X.prog X.w) X.A (assignInOrder ((assignEach ts X.env).map (·.2)) us) (λ_ s'=>∃bN H',Inv X pins bN H' s'/\Q bN H') X.xe s
noncomputable abbrev CQ:=V->V->V->Hp->(Hp->Prop)->Prop
noncomputable def CP(X:Cx)(t:CQ):Prop :=
 ∀(pins:List (Addr×Obj)) (s:Shared) (Z:St) (H:Hp) (o i v:V) (ov iv u:Value) (Q:Hp->Prop),Inv X pins Z H s->RelV o ov->RelV i iv->RelV v u->t o i v H Q ->
  wpAny (model X.prog X.w) X.A (setItem ov iv u) (λ_ s'=>∃H',Inv X pins Z H' s'/\Q H') X.xe s
noncomputable abbrev Di:=V->V->Hp->VK->Prop
noncomputable def Kb(X:Cx)(op:Operator)(t:Di):Prop :=
 ∀(pins:List (Addr×Obj)) (s:Shared) (Z:St) (H:Hp) (x y:V) (v u:Value) (Q:VK),Inv X pins Z H s->RelV x v->RelV y u->t x y H Q ->
  wpAny (model X.prog X.w) X.A (inplaceOp op v u) (EP X pins Z Q) X.xe s
section
variable{X:Cx}{pos:Pos}
noncomputable def rV(i:Nat):TG:=λv Z H Q=>Q (Z.set i (some v)) H
theorem IX{i:Nat}{x:Str}(hN:X.N.Nodup)(hi:X.N[i]?=some x)(hx:Loc X.env.scope x)(hf:X.fn x=true\/X.env.scope.names.lookup x=some .local:=by first|exact .inl rfl|exact .inr rfl|assumption):PG X (.Name x pos) (rV i):=by
 intro pins s Z H v u Q I r h;exact wpAny_assign_Name (Q5 I hN hi hx r (λs' I'=>⟨_,H,I',h⟩) hf)
noncomputable def FT:oW:=λvs Z H Q=>vs=[]/\Q Z H
noncomputable def JE(t:TG)(u:oW):oW:=λvs Z H Q=>∃v r,vs=v::r/\t v Z H λbN H'=>u r bN H' Q
theorem SG:vA X [] FT:=by
 intro pins s Z H vs us Q I r h;obtain⟨e,h⟩:=h;subst e;cases r;exact assignInOrder_nil ⟨Z,H,I,h⟩
theorem a25{e:Expr}{es:List Expr}{t:TG}{u:oW}(h1:PG X e t)(h2:vA X es u)(hs:(assignEach (e::es) X.env).map (·.2)=assign e X.env::(assignEach es X.env).map (·.2):=by rfl):vA X (e::es) (JE t u):=by
 intro pins s Z H vs us Q I r h;obtain⟨v,vr,e1,h⟩:=h;subst e1;cases r with
 |cons r rr =>
  rw[hs];refine vH (cy (h1 pins s Z H _ _ _ I r h) λ_ s1 ⟨hU,H1,I1,q1⟩=>?_);exact h2 pins s1 hU H1 _ _ Q I1 rr q1
noncomputable def Um(K:PySem.W.Frag)(n:Nat)(t:oW):TG:=λv Z H Q=>∃a xs,v=.ref a/\gX K H a xs/\xs.length=n/\t xs Z H Q
theorem Ql{es:List Expr}{k:Nat}{t:oW}{n:Nat}(hc:X.calm=true)(h:vA X es t)(hn:(assignEach es X.env).length=n:=by rfl)(fq:(assignEach es X.env).findIdx? (·.1)=none:=by rfl):PG X (.Tuple es k pos) (Um X.K n t):=by
 intro pins s Z H v u Q I r hw;obtain⟨a,xs,e1,hq,hl,hw⟩:=hw;subst e1;cases r;obtain⟨aT,rv,ht,hz⟩:=I.tuple hq;refine assign_Tuple_tuple (I.ok.hd hc) ht (by simp[hn,<- hl,rv.length]) fq λh' hx=>?_;have I1:Inv X pins Z H { s with heap:=h' }:=I.kept (t':=s.toks) λb o e=>hx b o (aN (ay e)) e;exact h pins _ Z H xs _ Q I1 (by simpa using rv) hw
noncomputable def Ul(to ti:TE)(t:CQ):TG:=λv Z H Q=>to Z H λo H1=>ti Z H1 λi H2=>t o i v H2 λH3=>Q Z H3
theorem Qk{o i:Expr}{to ti:TE}{t:CQ}(ho:PE X o to)(hi:PE X i ti)(hs:CP X t)(ha:∀ v,assign (.Subscript o i pos) X.env v=(do
   let ov <- holding [v] (eval o X.env)
   let iv <- holding [v,ov] (eval i X.env)
   standAt pos
   holding [v,ov,iv] (setItem ov iv v)
   release [v,ov,iv] []):=by intro _;rfl):PG X (.Subscript o i pos) (Ul to ti t):=by
 intro pins s Z H v u Q I r h;rw[ha];refine ae (cg (cy (ho pins s Z H _ I h) λov s1 ⟨x,H1,I1,r1,q1⟩=>?_));refine ae (cg (cy (hi pins s1 Z H1 _ I1 q1) λiv s2 ⟨y,H2,I2,r2,q2⟩=>?_));refine ae (dB (ae (cg (cy (hs pins s2 Z H2 x y v ov iv u _ I2 r1 r2 r q2) λ_ s3 ⟨H3,I3,q3⟩=>?_))));exact wpAny_release ⟨Z,H3,I3,q3⟩
noncomputable def uX(te:TE)(g:TG):TS:=λD Z H=>te Z H λx H1=>g x Z H1 D.nx
theorem Ir{tg e:Expr}{te:TE}{g:TG}(he:PE X e te)(hg:PG X tg g)(hs:swapsWithSole [tg] e pos.line X.env=pure false:=by rfl)(hw:swappedStores [tg] e X.env=pure none:=by rfl)(h1:(assignEach [tg] X.env).map (·.2)=[assign tg X.env]:=by rfl):PS X (.Assign [tg] e pos) (uX te g):=by
 intro pins s Z H D I h;refine wpAny_Assign_stores (cy (he pins s Z H _ I h) λv s1 ⟨x,H1,I1,r1,q1⟩=>?_) hs hw;rw[h1];exact cy (hg pins s1 Z H1 x v _ I1 r1 q1) λ_ s2 q=>q
theorem Iu{i:Nat}{x:Str}{e:Expr}{te:TE}{pos':Pos}(hN:X.N.Nodup)(hi:X.N[i]?=some x)(hx:Loc X.env.scope x)(he:PE X e te)(hs:swapsWith e (some (.Name x pos')) pos.line X.env=pure false:=by rfl)(hf:X.fn x=true\/X.env.scope.names.lookup x=some .local:=by first|exact .inl rfl|exact .inr rfl|assumption) :
  PS X (.Assign [.Name x pos'] e pos) (uX te (rV i)):=by
 intro pins s Z H D I h;refine wpAny_Assign_Name (cy (he pins s Z H _ I h) λv s1 ⟨y,H1,I1,r1,q1⟩=>?_) hs;exact Q5 I1 hN hi hx r1 (λs2 I2=>⟨_,H1,I2,q1⟩) hf
noncomputable def Vg(i j:Nat)(ta:TA):TS:=λD Z H=>ta Z H λvs H1=>∃v w,vs=[v,w]/\D.nx ((Z.set i (some v)).set j (some w)) H1
theorem Qr{i j:Nat}{x y:Str}{a b:Expr}{ta:TA}{px py pt:Pos}{kt k2 nV}(hc:X.calm=true)(hN:X.N.Nodup)(hi:X.N[i]?=some x)(hj:X.N[j]?=some y)(iQ:i≠j)(hx:X.env.scope.names.lookup x=some .local)(hy:X.env.scope.names.lookup y=some .local)(ha:PA X [a,b] ta)(hw:swappedStores [.Tuple [.Name x px,.Name y py] kt pt] (.Tuple [a,b] k2 nV) X.env=pure (some [x,y]))(hs:swapsWithSole [.Tuple [.Name x px,.Name y py] kt pt] (.Tuple [a,b] k2 nV) pos.line X.env=pure false:=by rfl) :
  PS X (.Assign [.Tuple [.Name x px,.Name y py] kt pt] (.Tuple [a,b] k2 nV) pos) (Vg i j ta):=by
 intro pins s Z H D I h;rw[exec_Assign_arm];refine ae (dB ?_);rw[hs];refine ae (ao ?_);rw[az (by decide)];refine ae (Tuple_ (cy (ha _ pins s Z H _ I h) λus s1 ⟨vs,H1,I1,r1,q1⟩=>?_));obtain⟨v,w,e1,q1⟩:=q1;subst e1;obtain⟨u1,u2,rfl,rv,fz⟩:∃u1 u2,us=[u1,u2]/\RelV v u1/\RelV w u2:=by
  cases r1 with
  |cons p q =>
   cases q with
   |cons p' q' =>
    cases q';exact⟨_,_,rfl,p,p'⟩
 refine bX ?_ (by show 2<=sizeLine;decide);have I2:Inv X pins Z H1 { s1 with heap:=s1.heap.push { cls:=.type "tuple",data:=.seq [u1,u2].toArray } }:=I1.kept (t':=s1.toks) λb o e=>au _ e;rw[hw];refine ae (ao ?_);show wpAny (model X.prog X.w) X.A (do rule "assign.swapped-stores";let items <- unpackItems (.ref s1.heap.objs.size) 2 none;assignInOrder [λv=>bindName X.env y v,λv=>bindName X.env x v] items.reverse;pure Flow.next) _ _ _;refine ae (fC (ae (unpackItems_tuple (items:=#[u1,u2]) (I.ok.hd hc) (IsTup.new s1.heap _) λh' nh=>?_)));have I3:=I2.kept (h':=h') (t':=s1.toks) λb o e=>nh b o (aN (ay e)) e;show wpAny _ _ (assignInOrder [λv=>bindName X.env y v,λv=>bindName X.env x v] [u2,u1] >>= λ_=>pure Flow.next) _ _ _;refine ae (vH (wpAny_bindName (Q5 I3 hN hj (.inl hy) fz (λs2 I4=>?_) (.inr hy))));refine vH (wpAny_bindName (Q5 I4 hN hi (.inl hx) rv (λs3 I5=>assignInOrder_nil (ao ?_)) (.inr hx)));rw[List.set_comm _ _ (bC iQ)] at I5;exact⟨_,H1,I5,q1⟩
noncomputable def UZ(i:Nat)(te:TE)(ti:Di):TS:=λD Z H=>∃x,Z[i]?=some (some x)/\te Z H λy H1=>ti x y H1 λz H2=>D.nx (Z.set i (some z)) H2
theorem Qo{i:Nat}{x:Str}{e:Expr}{te:TE}{op:Operator}{ti:Di}{pos':Pos}(hN:X.N.Nodup)(hi:X.N[i]?=some x)(hx:Loc X.env.scope x)(he:PE X e te)(ho:Kb X op ti)(hf:X.fn x=true\/X.env.scope.names.lookup x=some .local:=by first|exact .inl rfl|exact .inr rfl|assumption) :
  PS X (.AugAssign (.Name x pos') op e pos) (UZ i te ti):=by
 intro pins s Z H D I h;obtain⟨v,e1,h⟩:=h;obtain⟨m,hn,hl⟩:=I.loc;have sN:vx X.env.scope x:=by rcases hx with k|k;exact .inl k;exact .inr (.inl k)
 obtain⟨u,r,l⟩:=hl i x v hi e1 sN;refine wpAny_AugAssign_Name ?_;have go:wpAny (model X.prog X.w) X.A (eval e X.env) (λw fQ=>wpAny (model X.prog X.w) X.A (inplaceOp op u w) (λr eE=>wpAny (model X.prog X.w) X.A (storeName X.env x r) (λ_=>SP X pins D .next) X.xe eE) X.xe fQ) X.xe s:=by
  refine cy (he pins s Z H _ I h) λw s1 ⟨y,H1,I1,r1,q1⟩=>?_;refine cy (ho pins s1 Z H1 v y u w _ I1 r r1 q1) λz s2 ⟨zv,H2,I2,r2,q2⟩=>?_;exact Q5 I2 hN hi hx r2 (λs3 I3=>⟨_,H2,I3,q2⟩) hf
 rcases l with⟨hk,hm⟩|⟨hk,c,hc,kn⟩
 ·exact wpAny_loadName_local I.ok.kind hk hn hm go
 ·rcases hk with hk|hk
  ·exact wpAny_loadName_cell I.ok.kind hk hc kn go
  ·rcases hx with k|k
   ·have:X.env.scope.names.lookup x=some .free:=hk;rw[k] at this;cases this
   ·have:X.env.scope.names.lookup x=some .free:=hk;rw[k] at this;cases this
end
section
variable{X:Cx}{pos:Pos}
noncomputable def Rn(c:TT)(tb:TS):TS:=λD Z H=>∃W:Nat->St->Hp->Prop,(∃m,W m Z H)/\∀m Z H,W m Z H ->
 c Z H λb H1=>if b=true then ∃N:St->Hp->Prop,(∀bN H',N bN H'->∃m',m'<m/\W m' bN H')/\tb { D with nx:=N,ct:=N,bk:=D.nx } Z H1 else D.nx Z H1
theorem a19{c:Expr}{body:List Stmt}{tc:TT}{tb:TS}(hp:PassesOwn (model X.prog X.w) X.A X.env X.xe)(hc:PT X c tc)(hb:iR X body tb):PS X (.While c body [] pos) (Rn tc tb):=by
 intro pins s Z H D I h;obtain⟨W,⟨m0,w0⟩,turn⟩:=h;refine wpAny_While (codeAny_whileLoop (λn s'=>∃bN H',Inv X pins bN H' s'/\W n bN H') ?_ m0 ⟨Z,H,I,w0⟩);rintro n s1 ⟨hU,H1,I1,w1⟩;refine dz hp (cy (hc pins s1 hU H1 _ I1 (turn n hU H1 w1)) λb s2 ⟨H2,I2,q2⟩=>?_);cases b with
 |true =>
  obtain⟨N,hN,q2⟩:=q2;rw[aF rfl];refine dz hp (cy (hb pins s2 hU H2 _ I2 q2) λf s3 q3=>?_);cases f with
  |next =>
   obtain⟨gT,H3,I3,n3⟩:=q3;obtain⟨m',hm,w3⟩:=hN gT H3 n3;exact⟨m',hm,gT,H3,I3,w3⟩
  |cont =>
   obtain⟨gT,H3,I3,n3⟩:=q3;obtain⟨m',hm,w3⟩:=hN gT H3 n3;exact⟨m',hm,gT,H3,I3,w3⟩
  |brk=>exact q3
  |ret v=>exact q3
 |false =>
  rw[az dq];exact sj ⟨hU,H2,I2,q2⟩
end
structure It where
 go:Nat->Hp->Prop
 pB:Nat->Hp->V->Hp->Prop
 stop:Nat->Hp->Prop
noncomputable def C1(X:Cx)(pins:List (Addr×Obj))(H:Hp)(b:Addr):Prop :=
 H b=none/\b≠X.env.locals/\b∉X.fs/\(b∈X.ex\/X.cU.heap.objs.size<=b)/\(∀x c,X.env.cells.lookup x=some c->c≠b)/\∀p∈X.pn++pins,p.1≠b
theorem Inv.oQ{X:Cx}{pins:List (Addr×Obj)}{Z:St}{H H':Hp}{s:Shared}{b:Addr}(I:Inv X pins Z H s)(hb:s.heap.objs.size<=b)(hn:H' b=none):C1 X pins H' b:=by
 refine⟨hn,bO (ax I.lt hb),I.uV hb,.inr (aG I.sz hb),λx c e z=>?_,λp hp z=>?_⟩
 ·obtain⟨v,q⟩:=I.cell x c e;exact absurd (ax q.lt (by rw[z];exact hb)) (bj _)
 ·exact absurd (ax (ay (I.pin p hp).1) (by rw[z];exact hb)) (bj _)
structure Turn(P:Program)(w:World)(K:PySem.W.Frag)(tg:Expr)(J:It)(fp:List Addr)(it:Addr)(tn:Nat->Heap->Prop):Prop where
 mem:it∈fp
 obj:∀i h,tn i h->∀b∈fp,∃o,h.get? b=some o/\∀v,o.data≠.cell v
 keep:∀i h h',tn i h->(∀b∈fp,∀o,h.get? b=some o->h'.get? b=some o)->tn i h'
 item:∀(X:Cx),X.prog=P->X.w=w->X.K=K->X.calm=true->∀(i:Nat) (pins:List (Addr×Obj)) (s:Shared) (Z:St) (H:Hp) (E:Value->Shared->Prop),Inv X pins Z H s->(∀b∈fp,C1 X pins H b)->tn i s.heap->J.go i H ->
  wpAny (model P w) X.A (pyNext (.ref it)) (λr s1=>∃ u,r=some u /\
   wpAny (model P w) X.A (letOwnedTupleGo tg (.ref it) u) (λ_ s2=>∃ x H',Inv X pins Z H' s2/\RelV x u/\J.pB i H x H'/\tn (i + 1) s2.heap/\∀ b ∈ fp,H' b=none) E s1) E s
 done:∀(X:Cx),X.prog=P->X.w=w->X.K=K->X.calm=true->∀(i:Nat) (pins:List (Addr×Obj)) (s:Shared) (Z:St) (H:Hp) (E:Value->Shared->Prop),Inv X pins Z H s->(∀b∈fp,C1 X pins H b)->tn i s.heap->J.stop i H ->
  wpAny (model P w) X.A (pyNext (.ref it)) (λr s1=>r=none/\Inv X pins Z H s1) E s
 self:∀(A:Around) (i:Nat) (s:Shared) (Q:Value->Shared->Prop) (E:Value->Shared->Prop),tn i s.heap->Q (.ref it) s->wpAny (model P w) A (pyIter (.ref it)) Q E s
noncomputable abbrev TI:=St->Hp->(It->Hp->Prop)->Prop
noncomputable def Kc(X:Cx)(pins:List (Addr×Obj))(Z:St)(tg:Expr)(R:It->Hp->Prop)(tO:Value)(s2:Shared):Prop :=
 ∃(it:Addr) (fp:List Addr) (tn:Nat->Heap->Prop) (J:It) (H':Hp),tO=.ref it/\Inv X pins Z H' s2/\Turn X.prog X.w X.K tg J fp it tn/\tn 0 s2.heap/\(∀b∈fp,C1 X pins H' b)/\R J H'
noncomputable def PI(X:Cx)(tg iter:Expr)(wi:TI):Prop :=
 ∀(pins:List (Addr×Obj)) (s:Shared) (Z:St) (H:Hp) (R:It->Hp->Prop),Inv X pins Z H s->wi Z H R ->
  wpAny (model X.prog X.w) X.A (eval iter X.env) (λv s1=>wpAny (model X.prog X.w) X.A (pyIter v) (Kc X pins Z tg R) X.xe s1) X.xe s
theorem xh{M:Model}{A:Around}{E:Value->Shared->Prop}{s:Shared}{tg:Expr}{it:Addr}{u:Value}{o:Obj}{n:String}{vs:Array Value}{Q:Unit->Shared->Prop}(ho:s.heap.get? it=some o)(hc:o.cls=.type n)(hd:o.data=.fields vs)(hn:["enumerate","zip","dict_itemiterator","dict_reverseitemiterator","odict_iterator","itertools.zip_longest","itertools.pairwise"].contains n=false)(hQ:Q () s):wpAny M A (letOwnedTupleGo tg (.ref it) u) Q E s:=by
  unfold letOwnedTupleGo;cases tg<;>first
    |exact ao hQ
    | (cases u <;> first
        |exact ao hQ
        | (refine ae (wpAny_load ho ?_)
           rw[hc,hd];show wpAny M A (if(["enumerate","zip","dict_itemiterator","dict_reverseitemiterator","odict_iterator","itertools.zip_longest","itertools.pairwise"].contains n&&vs[0]?==some (rawInt _))=true then _ else _) Q E s;rw[az (by intro h;rw[hn,Bool.false_and] at h;cases h)];exact ao hQ))
noncomputable def Dm(K:PySem.W.Frag)(a:Addr):It :=
 ⟨λi H=>∃xs x,fm K H a xs/\xs[i]?=some x,λi H x H'=>H'=H/\∀xs,fm K H a xs->xs[i]?=some x,λi H=>∃xs,fm K H a xs/\xs.length<=i⟩
noncomputable def Dk(K:PySem.W.Frag)(a:Addr):It :=
 ⟨λi H=>∃xs x,gX K H a xs/\xs[i]?=some x,λi H x H'=>H'=H/\∀xs,gX K H a xs->xs[i]?=some x,λi H=>∃xs,gX K H a xs/\xs.length<=i⟩
noncomputable def vC(lo:Int)(n:Nat):It:=⟨λi _=>i<n,λi H x H'=>H'=H/\x=.int (lo+i),λi _=>n<=i⟩
theorem YH{P:Program}{w:World}{K:PySem.W.Frag}{tg:Expr}(a it:Addr):Turn P w K tg (Dm K a) [it] it (λi h=>h.IsListIter it a i) where
 mem:=by simp
 obj:=λi h st b hb=>by
  have e:b=it:=by simpa using hb
  subst e;obtain⟨o,e,c,d⟩:=st;exact⟨o,e,λv z=>by rw[d] at z;cases z⟩
 keep:=λi h h' st k=>st.at λo e=>k it (by simp) o e
 item:=by
  intro X hP hw hK hc i pins s Z H E I hf st hg;subst hP hw hK;obtain⟨xs,x,hq,hx⟩:=hg;obtain⟨aT,rv,p,hz⟩:=I.list hq;obtain⟨u,hu,ru⟩:=rv.get hx;obtain⟨f0,f1,f2,f3,f4,f5⟩:=hf it (by simp);refine wpAny_pyNext_list_item st p.isList (x:=u) (by simpa using hu) λh' kH sb=>?_;have I1:Inv X pins Z H { s with heap:=h' }:=I.turned (t':=s.toks) (λb o hb e=>(sb.2 b hb).trans e) f0 f1 f3 f4 f5;obtain⟨o,e,c,d⟩:=id kH;exact⟨u,rfl,xh (s:={ s with heap:=h' }) e c d (by decide) ⟨x,H,I1,ru,⟨rfl,λys hy=>by rw[I.Bw hy hq];exact hx⟩,kH,λb hb=>(hf b hb).1⟩⟩
 done:=by
  intro X hP hw hK hc i pins s Z H E I hf st hg;subst hP hw hK;obtain⟨xs,hq,hx⟩:=hg;obtain⟨aT,rv,p,hz⟩:=I.list hq;obtain⟨f0,f1,f2,f3,f4,f5⟩:=hf it (by simp);have hl:=rv.length;exact wpAny_pyNext_list_end (I.ok.hd hc) st p.isList (by simp;omega) λh' eb=>⟨rfl,I.turned (t':=s.toks) (λb o hb e=>eb b o hb e) f0 f1 f3 f4 f5⟩
 self:=λ_ _ _ _ _ st h=>wpAny_pyIter_listiter st h
theorem Zy{P:Program}{w:World}{K:PySem.W.Frag}{tg:Expr}(a it:Addr):Turn P w K tg (Dk K a) [it] it (λi h=>h.IsTupleIter it a i) where
 mem:=by simp
 obj:=λi h st b hb=>by
  have e:b=it:=by simpa using hb
  subst e;obtain⟨o,e,c,d⟩:=st;exact⟨o,e,λv z=>by rw[d] at z;cases z⟩
 keep:=λi h h' st k=>st.at λo e=>k it (by simp) o e
 item:=by
  intro X hP hw hK hc i pins s Z H E I hf st hg;subst hP hw hK;obtain⟨xs,x,hq,hx⟩:=hg;obtain⟨aT,rv,p,hz⟩:=I.tuple hq;obtain⟨u,hu,ru⟩:=rv.get hx;obtain⟨f0,f1,f2,f3,f4,f5⟩:=hf it (by simp);refine wpAny_pyNext_tuple_item st (show s.heap.IsTuple a aT.toArray from p) (x:=u) (by simpa using hu) λh' kH sb=>?_;have I1:Inv X pins Z H { s with heap:=h' }:=I.turned (t':=s.toks) (λb o hb e=>(sb.2 b hb).trans e) f0 f1 f3 f4 f5;obtain⟨o,e,c,d⟩:=id kH;exact⟨u,rfl,xh (s:={ s with heap:=h' }) e c d (by decide) ⟨x,H,I1,ru,⟨rfl,λys hy=>by rw[I.YD hy hq];exact hx⟩,kH,λb hb=>(hf b hb).1⟩⟩
 done:=by
  intro X hP hw hK hc i pins s Z H E I hf st hg;subst hP hw hK;obtain⟨xs,hq,hx⟩:=hg;obtain⟨aT,rv,p,hz⟩:=I.tuple hq;obtain⟨f0,f1,f2,f3,f4,f5⟩:=hf it (by simp);have hl:=rv.length;exact wpAny_pyNext_tuple_end (I.ok.hd hc) st (show s.heap.IsTuple a aT.toArray from p) (by simp;omega) λh' eb=>⟨rfl,I.turned (t':=s.toks) (λb o hb e=>eb b o hb e) f0 f1 f3 f4 f5⟩
 self:=λ_ _ _ _ _ st h=>wpAny_pyIter_tupleiter st h
theorem Zw{P:Program}{w:World}{K:PySem.W.Frag}{tg:Expr}(it:Addr)(lo:Int)(n:Nat):Turn P w K tg (vC lo n) [it] it (λi h=>IsRangeIter h it (lo+(i:Nat)*1) ((n:Int)-(i:Nat)) 1) where
 mem:=by simp
 obj:=λi h st b hb=>by
  have e:b=it:=by simpa using hb
  subst e;exact ⟨_,st,λv z=>by
   have z':Data.fields _=Data.cell v:=z;cases z'⟩
 keep:=λi h h' st k=>k it (by simp) _ st
 item:=by
  intro X hP hw hK hc i pins s Z H E I hf st hg;subst hP hw hK;obtain⟨f0,f1,f2,f3,f4,f5⟩:=hf it (by simp);have W:=Walks.range (prog:=X.prog) (w:=X.w) (I.ok.hd hc) it lo 1 n;refine W.item i s _ _ hg st λv h' tk hv kH kk=>?_;obtain⟨t,rfl⟩:=hv;have I1:Inv X pins Z H { s with heap:=h',toks:=tk }:=I.turned (λb o hb e=>kk b o (by simpa using hb) e) f0 f1 f3 f4 f5;refine⟨_,rfl,xh (s:={ s with heap:=h',toks:=tk }) (n:="range_iterator") kH rfl rfl (by decide) ⟨.int (lo+i),H,I1,⟨t,?_⟩,⟨rfl,rfl⟩,kH,λb hb=>(hf b hb).1⟩⟩;rw[Int.mul_one]
 done:=by
  intro X hP hw hK hc i pins s Z H E I hf st hg;subst hP hw hK;obtain⟨f0,f1,f2,f3,f4,f5⟩:=hf it (by simp);exact wpAny_pyNext_range_end (I.ok.hd hc) st (by have:n<=i:=hg;omega) λh' eb=>⟨rfl,I.turned (t':=s.toks) (λb o hb e=>eb b o hb e) f0 f1 f3 f4 f5⟩
 self:=λ_ _ _ _ _ st h=>wpAny_pyIter_rangeiter st h
end L2
namespace L2
open PySem PySem.Spec PyProof.Rows
section
variable{X:Cx}{tg:Expr}
theorem Gp{pins:List (Addr×Obj)}{Z:St}{H:Hp}{s:Shared}{R:It->Hp->Prop}{E:Value->Shared->Prop}{lo hi:Int}{t u v:Tok}{tk:Nat}(I:Inv X pins Z H s)(h1:-(2 ^ 62)<=lo)(h2:lo<2 ^ 62)(h3:-(2 ^ 62)<=hi)(h4:hi<2 ^ 62)(q:R (vC lo (hi-lo).toNat) H):wpAny (model X.prog X.w) X.A (pyIter (.ref s.heap.objs.size)) (Kc X pins Z tg R) E { s with heap:=s.heap.push { cls:=.type "range",data:=.fields #[.int lo t,.int hi u,.int 1 v] },toks:=tk }:=by
 refine wpAny_pyIter_range (IsRange.new ..) (small_one h1 h2 h3 h4) ?_;have I1:Inv X pins Z H { s with heap:=s.heap.push { cls:=.type "range",data:=.fields #[.int lo t,.int hi u,.int 1 v] },toks:=tk }:=I.kept λb o e=>au _ e;refine ⟨(s.heap.push { cls:=.type "range",data:=.fields #[.int lo t,.int hi u,.int 1 v] }).objs.size,[(s.heap.push { cls:=.type "range",data:=.fields #[.int lo t,.int hi u,.int 1 v] }).objs.size],_,_,H,rfl,
  I1.kept (t':=tk) λb o e=>au _ e,Zw _ lo (hi - lo).toNat,?_,λb hb=>?_,q⟩
 ·have e1:lo+((0:Nat):Int)*1=lo:=by simp
  have e2:(((hi-lo).toNat:Nat):Int)-((0:Nat):Int)=Builtin.Range.rangeSize lo hi 1:=by rw[rangeSize_one];split<;>omega
  show IsRangeIter _ _ (lo+((0:Nat):Int)*1) ((((hi-lo).toNat:Nat):Int)-((0:Nat):Int)) 1;rw[e1,e2];exact aD _ rfl
 ·have e:b=(s.heap.push { cls:=.type "range",data:=.fields #[.int lo t,.int hi u,.int 1 v] }).objs.size:=by simpa using hb
  subst e;exact I1.oQ (av _) (I1.bE.fresh (av _))
noncomputable def VJ(ta:TA):TI:=λZ H R=>ta Z H λvs H1=>∃j:Int,vs=[.int j]/\-(2 ^ 62)<=j/\j<2 ^ 62/\R (vC 0 j.toNat) H1
noncomputable def VL(ta:TA):TI:=λZ H R=>ta Z H λvs H1=>∃i j:Int,vs=[.int i,.int j]/\(-(2 ^ 62)<=i/\i<2 ^ 62/\-(2 ^ 62)<=j/\j<2 ^ 62)/\R (vC i (j-i).toNat) H1
theorem Yp{a:Expr}{ta:TA}{p pos:Pos}(hg:Gl X "range")(hm:X.mg "range"=none)(ha:PA X [a] ta)(hs:starEach [a] X.env=[(false,eval a X.env)]:=by rfl):PI X tg (.Call (.Name "range" p) [a] [] pos) (VJ ta):=by
 intro pins s Z H R I h;refine Call_ (K9 I hg hm boot_range (bB (cy (ha pos pins s Z H _ I h) λus s1 ⟨vs,H1,I1,r1,q1⟩=>?_) hs rfl));obtain⟨j,e,q1,q2,q⟩:=q1;subst e;cases r1 with
 |cons r rr =>
  cases rr;obtain⟨t,rfl⟩:=r;exact call_range_1 (Gp I1 (by omega) (by omega) q1 q2 (by simpa using q))
theorem Yq{a b:Expr}{ta:TA}{p pos:Pos}(hg:Gl X "range")(hm:X.mg "range"=none)(ha:PA X [a,b] ta)(hs:starEach [a,b] X.env=[(false,eval a X.env),(false,eval b X.env)]:=by rfl)(iE:starEach [b] X.env=[(false,eval b X.env)]:=by rfl) :
  PI X tg (.Call (.Name "range" p) [a,b] [] pos) (VL ta):=by
 intro pins s Z H R I h;refine Call_ (K9 I hg hm boot_range (bB (cy (ha pos pins s Z H _ I h) λus s1 ⟨vs,H1,I1,r1,q1⟩=>?_) (by rw[hs,iE]) (by rw[iE];rfl)));obtain⟨i,j,e,⟨q1,q2,q3,q4⟩,q⟩:=q1;subst e;cases r1 with
 |cons r rr =>
  cases rr with
  |cons r' rr =>
   cases rr;obtain⟨t,rfl⟩:=r;obtain⟨t',rfl⟩:=r';exact call_range_2 (Gp I1 q1 q2 q3 q4 q)
noncomputable def Vb(wi:TI)(g:TG)(tb:TS):TS:=λD Z H=>wi Z H λJ H1=>∃W:Nat->Nat->St->Hp->Prop,(∃m,W 0 m Z H1)/\∀i m Z H,W i m Z H ->
 (J.stop i H/\D.nx Z H)\/(J.go i H/\∃N:St->Hp->Prop,(∀bN H',N bN H'->∃m',m'<m/\W (i+1) m' bN H')/\∀x H',J.pB i H x H'->g x Z H' λcb H2=>tb { D with nx:=N,ct:=N,bk:=D.nx } cb H2)
noncomputable def W7(fp:List Addr)(h:Heap):List (Addr×Obj):=fp.filterMap λb=>(h.get? b).map λo=>(b,o)
theorem P0{fp:List Addr}{h:Heap}{b:Addr}{o:Obj}(hb:b∈fp)(e:h.get? b=some o):(b,o)∈W7 fp h:=jk.mpr ⟨b,hb,by rw[e];rfl⟩
theorem Yh{fp:List Addr}{h:Heap}{p:Addr×Obj}(hp:p∈W7 fp h):p.1∈fp/\h.get? p.1=some p.2:=by
 obtain⟨b,hb,e⟩:=jk.mp hp;cases q:h.get? b with
 |none=>rw[q] at e;cases e
 |some o =>
  rw[q] at e;have e':(b,o)=p:=aI e;subst e';exact⟨hb,q⟩
theorem Inv.pinned{pins:List (Addr×Obj)}{Z:St}{H:Hp}{s:Shared}{fp:List Addr}(I:Inv X pins Z H s)(hf:∀b∈fp,C1 X pins H b)(ho:∀b∈fp,∃o,s.heap.get? b=some o/\∀v,o.data≠.cell v):Inv X (pins++W7 fp s.heap) Z H s :=
 I.J9 λp hp=>(aZ.mp hp).elim (λz=>I.pin p (bq _ z)) λz=>by
  obtain⟨hb,e⟩:=Yh z;obtain⟨f0,f1,f2,_⟩:=hf p.1 hb;obtain⟨o,e',d⟩:=ho p.1 hb;rw[e] at e';cases e';exact⟨e,f0,f1,f2,d⟩
theorem Inv.BD{pins pl:List (Addr×Obj)}{Z:St}{H:Hp}{s:Shared}(I:Inv X (pins++pl) Z H s):Inv X pins Z H s:=I.J9 λp hp=>I.pin p (bq _ (dA _ hp))
theorem Qq{iter:Expr}{body:List Stmt}{wi:TI}{g:TG}{tb:TS}{pos:Pos}(hp:PassesOwn (model X.prog X.w) X.A X.env X.xe)(hc:X.calm=true)(hi:PI X tg iter wi)(hg:PG X tg g)(hb:iR X body tb)(hs:∀x,foldedSetIterable iter X.env x=pure x:=by intro _;rfl):PS X (.For tg iter body [] pos) (Vb wi g tb):=by
 intro pins s Z H D I h;refine wpAny_For (cy (hi pins s Z H _ I h) λv s1 h1=>cy h1 λtO s2 h2=>?_) hs;obtain⟨it,fp,tn,J,H2,e,I2,T,jT,f2,W,⟨m0,w0⟩,turn⟩:=h2;subst e;have pD:∀{H':Hp},(∀b∈fp,H' b=none)->∀b∈fp,C1 X pins H' b:=λhn b hb=>⟨hn b hb,(f2 b hb).2⟩
 refine codeAny_forLoop_any (λn s'=>∃i bN H',Inv X pins bN H' s'/\tn i s'.heap/\(∀b∈fp,H' b=none)/\W i n bN H') ?_ m0 ⟨0,Z,H2,I2,jT,λb hb=>(f2 b hb).1,w0⟩;rintro n s3 ⟨i,gT,H3,I3,nT,oG,w3⟩;rcases turn i n gT H3 w3 with⟨stop,qn⟩|⟨go,N,hN,step⟩
 ·refine dz hp (cy (T.done X rfl rfl rfl hc i pins s3 gT H3 X.xe I3 (pD oG) nT stop) λr s4 ⟨hr,I4⟩=>?_);subst hr;exact sj ⟨gT,H3,I4,qn⟩
 ·refine dz hp (cy (T.item X rfl rfl rfl hc i pins s3 gT H3 X.xe I3 (pD oG) nT go) λr s4 ⟨u,hr,h4⟩=>?_);subst hr;refine dz hp (cy h4 λ_ s5 lX=>?_);obtain⟨x,H5,I5,r5,y5,lN,uG⟩:=lX;have vD:=I5.pinned (pD uG) (T.obj _ _ lN);refine dz hp (cy (hg _ s5 gT H5 x u _ vD r5 (step x H5 y5)) λ_ s6 ⟨kE,H6,I6,q6⟩=>?_);refine dz hp (cy (hb _ s6 kE H6 _ I6 q6) λf s7 q7=>?_);have again:∀{lH:St} {H7:Hp},Inv X (pins++W7 fp s5.heap) lH H7 s7->N lH H7->∃m,m<n/\∃i bN H',Inv X pins bN H' s7/\tn i s7.heap/\(∀b∈fp,H' b=none)/\W i m bN H':=λ{lH H7} I7 n7=>by
   obtain⟨m',hm,w7⟩:=hN lH H7 n7;refine⟨m',hm,i+1,lH,H7,I7.BD,T.keep _ _ _ lN λb hb o e=>(I7.pin (b,o) (bq _ (bq _ (P0 hb e)))).1,λb hb=>?_,w7⟩;obtain⟨o,e,d⟩:=T.obj _ _ lN b hb;exact(I7.pin (b,o) (bq _ (bq _ (P0 hb e)))).2.1
  cases f with
  |next=>obtain⟨lH,H7,I7,n7⟩:=q7;exact again I7 n7
  |cont=>obtain⟨lH,H7,I7,n7⟩:=q7;exact again I7 n7
  |brk=>obtain⟨lH,H7,I7,q7⟩:=q7;exact⟨lH,H7,I7.BD,q7⟩
  |ret v=>obtain⟨x7,lH,H7,I7,r7,q7⟩:=q7;exact⟨x7,lH,H7,I7.BD,r7,q7⟩
end
end L2
namespace L2
open PySem PySem.Spec PyProof.Rows
noncomputable abbrev R2:=V->V->Hp->VK->Prop
noncomputable def fc(X:Cx)(f:Value->Value->Sem Value)(r:R2):Prop :=
 ∀(pins:List (Addr×Obj)) (s:Shared) (Z:St) (H:Hp) (x y:V) (v u:Value) (Q:VK),Inv X pins Z H s->RelV x v->RelV y u->r x y H Q ->
  wpAny (model X.prog X.w) X.A (f v u) (EP X pins Z Q) X.xe s
noncomputable def yc(X:Cx)(f:Value->Sem Value)(r:V->Hp->VK->Prop):Prop :=
 ∀(pins:List (Addr×Obj)) (s:Shared) (Z:St) (H:Hp) (x:V) (v:Value) (Q:VK),Inv X pins Z H s->RelV x v->r x H Q ->
  wpAny (model X.prog X.w) X.A (f v) (EP X pins Z Q) X.xe s
noncomputable def m8(X:Cx)(f:Value)(r:List V->Hp->VK->Prop):Prop :=
 ∀(pins:List (Addr×Obj)) (s:Shared) (Z:St) (H:Hp) (xs:List V) (us:List Value) (Q:VK),Inv X pins Z H s->Vals xs us->r xs H Q ->
  wpAny (model X.prog X.w) X.A (call f us) (EP X pins Z Q) X.xe s
noncomputable def TQ(X:Cx)(r:V->Hp->(Bool->Hp->Prop)->Prop):Prop :=
 ∀(pins:List (Addr×Obj)) (s:Shared) (Z:St) (H:Hp) (x:V) (v:Value) (Q:Bool->Hp->Prop),Inv X pins Z H s->RelV x v->r x H Q ->
  wpAny (model X.prog X.w) X.A (truthy v) (TP X pins Z Q) X.xe s
noncomputable def qP(r:R2)(ta tb:TE):TE:=λZ H Q=>ta Z H λx H1=>tb Z H1 λy H2=>r x y H2 Q
noncomputable def KJ(r:V->Hp->VK->Prop)(ta:TE):TE:=λZ H Q=>ta Z H λx H1=>r x H1 Q
noncomputable def rI(C:Int->Int->Prop)(g:Int->Int->V):R2:=λx y H Q=>∃i j,x=.int i/\y=.int j/\C i j/\Q (g i j) H
noncomputable def lh(g:Int->Int->V):R2:=λx y H Q=>∃i j,x=.int i/\y=.int j/\Q (g i j) H
noncomputable def rU(g:Int->V):V->Hp->VK->Prop:=λx H Q=>∃i,x=.int i/\Q (g i) H
section
variable{X:Cx}{a b c:Expr}{ta tb tc:TE}{pos:Pos}
theorem CU(ha:PE X a ta)(hb:PE X b tb){pins:List (Addr×Obj)}{s:Shared}{Z:St}{H:Hp}{R:V->V->Hp->Prop}(I:Inv X pins Z H s)(h:ta Z H λx H1=>tb Z H1 λy H2=>R x y H2){Q:Value->Shared->Prop}{f:Value->Value->Sem Value}(hf:∀v u s2 x y H2,Inv X pins Z H2 s2->RelV x v->RelV y u->R x y H2->wpAny (model X.prog X.w) X.A (f v u) Q X.xe s2) :
  wpAny (model X.prog X.w) X.A (eval a X.env) (λv bQ=>wpAny (model X.prog X.w) X.A (eval b X.env) (λu fQ=>wpAny (model X.prog X.w) X.A (f v u) Q X.xe fQ) X.xe bQ) X.xe s:=by
 refine cy (ha pins s Z H _ I h) λv s1 ⟨x,H1,I1,r1,q1⟩=>?_;refine cy (hb pins s1 Z H1 _ I1 q1) λu s2 ⟨y,H2,I2,r2,q2⟩=>?_;exact hf v u s2 x y H2 I2 r1 r2 q2
theorem Wq{op:Operator}{r:R2}(ho:fc X (binaryOp op) r)(ha:PE X a ta)(hb:PE X b tb):PE X (.BinOp a op b pos) (qP r ta tb):=by
 intro pins s Z H Q I h;exact wpAny_BinOp (CU ha hb I h λv u s2 x y H2 I2 rx ry q=>ho pins s2 Z H2 x y v u Q I2 rx ry q)
theorem Ws{op:UnaryOp}{r:V->Hp->VK->Prop}(ho:yc X (unaryOp op) r)(ha:PE X a ta):PE X (.UnaryOp op a pos) (KJ r ta):=by
 intro pins s Z H Q I h;exact UnaryOp_ (cy (ha pins s Z H _ I h) λv s1 ⟨x,H1,I1,r1,q1⟩=>ho pins s1 Z H1 x v Q I1 r1 q1)
theorem sY{f:Value->Value->Sem Value}{C:Int->Int->Prop}{g:Int->Int->Int}(rule:∀(i j:Int) (t u:Tok) (s:Shared) (Q:Value->Shared->Prop) (E:Value->Shared->Prop),C i j->Q (.int (g i j) s.toks) { s with toks:=s.toks+1 }->wpAny (model X.prog X.w) X.A (f (.int i t) (.int j u)) Q E s) :
  fc X f (rI C λi j=>.int (g i j)):=by
 intro pins s Z H x y v u Q I rx ry h;obtain⟨i,j,rfl,rfl,hc,q⟩:=h;obtain⟨t,rfl⟩:=rx;obtain⟨t',rfl⟩:=ry;exact rule i j t t' s _ _ hc ⟨.int (g i j),H,I.tok _,⟨_,rfl⟩,q⟩
theorem rO{f:Value->Value->Sem Value}{g:Int->Int->Int}(rule:∀(i j:Int) (t u:Tok) (s:Shared) (Q:Value->Shared->Prop) (E:Value->Shared->Prop),Q (.int (g i j) s.toks) { s with toks:=s.toks+1 }->wpAny (model X.prog X.w) X.A (f (.int i t) (.int j u)) Q E s) :
  fc X f (lh λi j=>.int (g i j)):=by
 intro pins s Z H x y v u Q I rx ry h;obtain⟨i,j,rfl,rfl,q⟩:=h;obtain⟨t,rfl⟩:=rx;obtain⟨t',rfl⟩:=ry;exact rule i j t t' s _ _ ⟨.int (g i j),H,I.tok _,⟨_,rfl⟩,q⟩
theorem ya{f:Value->Value->Sem Value}{g:Int->Int->Bool}(rule:∀(i j:Int) (t u:Tok) (s:Shared) (Q:Value->Shared->Prop) (E:Value->Shared->Prop),Q (.bool (g i j)) s->wpAny (model X.prog X.w) X.A (f (.int i t) (.int j u)) Q E s) :
  fc X f (lh λi j=>.bl (g i j)):=by
 intro pins s Z H x y v u Q I rx ry h;obtain⟨i,j,rfl,rfl,q⟩:=h;obtain⟨t,rfl⟩:=rx;obtain⟨t',rfl⟩:=ry;exact rule i j t t' s _ _ ⟨.bl (g i j),H,I,rfl,q⟩
noncomputable def CO(i j:Int):Prop:=0<j/\j<1073741824
noncomputable def nE(i j:Int):Prop:=0<=j/\j<=1000000/\i.natAbs<2 ^ 64
noncomputable def qv(i j:Int):Prop:=(-(2 ^ 64)<i/\i<2 ^ 64)\/(-(2 ^ 64)<j/\j<2 ^ 64)
theorem qv.ok{i j:Int}(h:qv i j):IntMulOk i j:=by
 rcases h with⟨h1,h2⟩|⟨h1,h2⟩
 ·exact .of_left (intBits_le_64 h1 h2)
 ·exact .of_right (intBits_le_64 h1 h2)
theorem Px:fc X (binaryOp .Add) (lh λi j=>.int (i+j)):=rO λ_ _ _ _ _ _ _ q=>add_int q
theorem PU:fc X (binaryOp .Sub) (lh λi j=>.int (i-j)):=rO λ_ _ _ _ _ _ _ q=>sub_int q
theorem PK:fc X (binaryOp .Mult) (rI qv λi j=>.int (i*j)):=sY λ_ _ _ _ _ _ _ hc q=>mul_int q hc.ok
theorem Sr:fc X (binaryOp .FloorDiv) (rI CO λi j=>.int (i / j)):=sY λi j _ _ _ _ _ hc q=>by
 have h1:(0:Int)<j:=hc.1;have h2:j<1073741824:=hc.2;exact floordiv_int (by omega) (by rw[Int.fdiv_eq_ediv_of_nonneg i (by omega)];exact q) (.inl (PyProof.noPylong_small (by omega)))
theorem PJ:fc X (binaryOp .Mod) (rI (λ_ j=>0<j) λi j=>.int (i % j)):=sY λi j _ _ _ _ _ hc q=>by
 have h1:(0:Int)<j:=hc;exact mod_int' (by omega) (by rw[Int.fmod_eq_emod_of_nonneg i (by omega)];exact q)
theorem PL:fc X (binaryOp .Pow) (rI nE λi j=>.int (i ^ j.toNat)):=sY λ_ _ _ _ _ _ _ hc q=>pow_int_small hc.1 hc.2.1 hc.2.2 q
theorem PQ:fc X (binaryOp .LShift) (rI nE λi j=>.int (i*2 ^ j.toNat)):=sY λ_ _ _ _ _ _ _ hc q=>lshift_int_small hc.1 hc.2.1 hc.2.2 q
theorem Py:fc X (binaryOp .BitAnd) (lh λi j=>.int (Builtin.bitAnd i j)):=rO λ_ _ _ _ _ _ _ q=>and_int q
theorem Wj:fc X (binaryOp .BitOr) (lh λi j=>.int (Builtin.bitOr i j)):=rO λ_ _ _ _ _ _ _ q=>or_int q
theorem RV:fc X (inplaceOp .Add) (lh λi j=>.int (i+j)):=rO λ_ _ _ _ _ _ _ q=>iadd_int q
theorem RX:fc X (inplaceOp .Sub) (lh λi j=>.int (i-j)):=rO λ_ _ _ _ _ _ _ q=>isub_int q
theorem KI{f:Value->Sem Value}{g:Int->Int}(rule:∀(i:Int) (t:Tok) (s:Shared) (Q:Value->Shared->Prop) (E:Value->Shared->Prop),Q (.int (g i) s.toks) { s with toks:=s.toks+1 }->wpAny (model X.prog X.w) X.A (f (.int i t)) Q E s) :
  yc X f (rU λi=>.int (g i)):=by
 intro pins s Z H x v Q I rx h;obtain⟨i,rfl,q⟩:=h;obtain⟨t,rfl⟩:=rx;exact rule i t s _ _ ⟨.int (g i),H,I.tok _,⟨_,rfl⟩,q⟩
theorem Rv:yc X (unaryOp .USub) (rU λi=>.int (-i)):=KI λ_ _ _ _ _ q=>neg_int q
end
noncomputable def FZ:V->V->Bool
 |.bD,.bD=>true|.bD,.int _=>true|.int _,.bD=>true|.bD,.bl _=>true|.bl _,.bD=>true|.bD,.str _=>true|.str _,.bD=>true
 |.int _,.int _=>true|.bl _,.bl _=>true|.str _,.str _=>true|.ku _,.ku _=>true
 |.int _,.str _=>true|.str _,.int _=>true|.bl _,.str _=>true|.str _,.bl _=>true
 |_,_=>false
noncomputable def Le:R2:=λx y H Q=>FZ x y=true/\Q (.bl (decide (x=y))) H
noncomputable def Ld:R2:=λx y H Q=>FZ x y=true/\Q (.bl (!decide (x=y))) H
theorem xH{i j:Int}:decide (V.int i=V.int j)=(i==j):=by
 rw[bf];simp
theorem xu{i j:Bool}:decide (V.bl i=V.bl j)=(i==j):=by
 rw[bf];simp
theorem xI{i j:Str}:decide (V.str i=V.str j)=(i==j):=by
 rw[bf];simp
theorem IG{i j:Array UInt8}:decide (V.ku i=V.ku j)=(i.toList==j.toList):=by
 rw[bf];cases i;cases j;simp
section
variable{X:Cx}{a b c:Expr}{ta tb tc:TE}{pos:Pos}
theorem j5{pins:List (Addr×Obj)}{Z:St}{H:Hp}{s:Shared}{Q:VK}{k k':Bool}(I:Inv X pins Z H s)(q:Q (.bl k) H)(e:k=k'):EP X pins Z Q (.bool k') s:=by
 subst e;exact⟨.bl k,H,I,rfl,q⟩
theorem Cj:fc X (compareOp .Eq) Le:=by
 intro pins s Z H x y v u Q I rx ry h;obtain⟨hs,q⟩:=h;cases x with
 |bD =>
  cases rx;cases y with
  |bD=>cases ry;exact PySem.EqNone.eq_none_none (j5 I q (by simp))
  |bl j=>cases ry;exact PySem.EqNone.eq_none_bool (j5 I q (by simp))
  |int j=>obtain⟨t',rfl⟩:=ry;exact PySem.EqNone.eq_none_int (j5 I q (by simp))
  |str j=>obtain⟨t',rfl⟩:=ry;exact PySem.EqNone.eq_none_str (j5 I q (by simp))
  |_=>exact absurd (show false=true from hs) Bool.false_ne_true
 |bl i =>
  cases rx;cases y with
  |bD=>cases ry;exact PySem.EqNone.eq_bool_none (j5 I q (by simp))
  |bl j=>cases ry;exact eq_bool (j5 I q xu)
  |str j=>obtain⟨t',rfl⟩:=ry;exact PySem.EqMixed.eq_bool_str (j5 I q (by simp))
  |_=>exact absurd (show false=true from hs) Bool.false_ne_true
 |int i =>
  obtain⟨t,rfl⟩:=rx;cases y with
  |bD=>cases ry;exact PySem.EqNone.eq_int_none (j5 I q (by simp))
  |int j=>obtain⟨t',rfl⟩:=ry;exact eq_int (j5 I q xH)
  |str j=>obtain⟨t',rfl⟩:=ry;exact PySem.EqMixed.eq_int_str (j5 I q (by simp))
  |_=>exact absurd (show false=true from hs) Bool.false_ne_true
 |str i =>
  obtain⟨t,rfl⟩:=rx;cases y with
  |bD=>cases ry;exact PySem.EqNone.eq_str_none (j5 I q (by simp))
  |bl j=>cases ry;exact PySem.EqMixed.eq_str_bool (j5 I q (by simp))
  |int j=>obtain⟨t',rfl⟩:=ry;exact PySem.EqMixed.eq_str_int (j5 I q (by simp))
  |str j=>obtain⟨t',rfl⟩:=ry;exact eq_str (j5 I q xI)
  |_=>exact absurd (show false=true from hs) Bool.false_ne_true
 |ku i =>
  obtain⟨t,rfl⟩:=rx;cases y with
  |ku j=>obtain⟨t',rfl⟩:=ry;exact PySem.W.eq_bytes (j5 I q IG)
  |_=>exact absurd (show false=true from hs) Bool.false_ne_true
 |_=>cases y<;>exact absurd (show false=true from hs) dq
theorem Ck:fc X (compareOp .NotEq) Ld:=by
 intro pins s Z H x y v u Q I rx ry h;obtain⟨hs,q⟩:=h;cases x with
 |bD =>
  cases rx;cases y with
  |bD=>cases ry;exact PySem.EqNone.ne_none_none (j5 I q (by simp))
  |bl j=>cases ry;exact PySem.EqNone.ne_none_bool (j5 I q (by simp))
  |int j=>obtain⟨t',rfl⟩:=ry;exact PySem.EqNone.ne_none_int (j5 I q (by simp))
  |str j=>obtain⟨t',rfl⟩:=ry;exact PySem.EqNone.ne_none_str (j5 I q (by simp))
  |_=>exact absurd (show false=true from hs) Bool.false_ne_true
 |bl i =>
  cases rx;cases y with
  |bD=>cases ry;exact PySem.EqNone.ne_bool_none (j5 I q (by simp))
  |bl j=>cases ry;exact ne_bool (j5 I q (congrArg not xu))
  |str j=>obtain⟨t',rfl⟩:=ry;exact PySem.EqMixed.ne_bool_str (j5 I q (by simp))
  |_=>exact absurd (show false=true from hs) Bool.false_ne_true
 |int i =>
  obtain⟨t,rfl⟩:=rx;cases y with
  |bD=>cases ry;exact PySem.EqNone.ne_int_none (j5 I q (by simp))
  |int j=>obtain⟨t',rfl⟩:=ry;exact ne_int (j5 I q (congrArg not xH))
  |str j=>obtain⟨t',rfl⟩:=ry;exact PySem.EqMixed.ne_int_str (j5 I q (by simp))
  |_=>exact absurd (show false=true from hs) Bool.false_ne_true
 |str i =>
  obtain⟨t,rfl⟩:=rx;cases y with
  |bD=>cases ry;exact PySem.EqNone.ne_str_none (j5 I q (by simp))
  |bl j=>cases ry;exact PySem.EqMixed.ne_str_bool (j5 I q (by simp))
  |int j=>obtain⟨t',rfl⟩:=ry;exact PySem.EqMixed.ne_str_int (j5 I q (by simp))
  |str j=>obtain⟨t',rfl⟩:=ry;exact ne_str (j5 I q (congrArg not xI))
  |_=>exact absurd (show false=true from hs) Bool.false_ne_true
 |ku i =>
  obtain⟨t,rfl⟩:=rx;cases y with
  |ku j=>obtain⟨t',rfl⟩:=ry;exact PySem.W.ne_bytes (j5 I q (congrArg not IG))
  |_=>exact absurd (show false=true from hs) Bool.false_ne_true
 |_=>cases y<;>exact absurd (show false=true from hs) dq
theorem Wi:fc X (compareOp .Lt) (lh λi j=>.bl (decide (i<j))):=ya λ_ _ _ _ _ _ _ q=>lt_int q
theorem Wh:fc X (compareOp .LtE) (lh λi j=>.bl (decide (i<=j))):=ya λ_ _ _ _ _ _ _ q=>le_int q
theorem Wg:fc X (compareOp .Gt) (lh λi j=>.bl (decide (j<i))):=ya λ_ _ _ _ _ _ _ q=>gt_int q
theorem Wf:fc X (compareOp .GtE) (lh λi j=>.bl (decide (j<=i))):=ya λ_ _ _ _ _ _ _ q=>ge_int q
theorem PH:fc X (compareOp .Is) (λx y H Q=>y=.bD/\Q (.bl (decide (x=.bD))) H):=by
 intro pins s Z H x y v u Q I rx ry h;obtain⟨rfl,q⟩:=h;cases ry;refine is_none_gen (j5 I q ?_);cases x<;>first
  |(cases rx;rfl)
  |(obtain⟨t,rfl⟩:=rx;rfl)
theorem Ss:fc X (compareOp .IsNot) (λx y H Q=>y=.bD/\Q (.bl (!decide (x=.bD))) H):=by
 intro pins s Z H x y v u Q I rx ry h;obtain⟨rfl,q⟩:=h;cases ry;refine isnot_none_gen (j5 I q ?_);cases x<;>first
  |(cases rx;rfl)
  |(obtain⟨t,rfl⟩:=rx;rfl)
theorem IV{op:CmpOp}{r:R2}(ho:fc X (compareOp op) r)(ha:PE X a ta)(hb:PE X b tb)(hm:behindInMarks op b=false):PE X (.Compare a [op] [b] pos) (qP r ta tb):=by
 intro pins s Z H Q I h;exact wpAny_Compare1 (CU ha hb I h λv u s2 x y H2 I2 rx ry q=>ho pins s2 Z H2 x y v u Q I2 rx ry q) hm
noncomputable def Cq(t:TE):TT:=λZ H Q=>t Z H λx H'=>∃k,x=.bl k/\Q k H'
theorem IZ{op:CmpOp}{r:R2}(ho:fc X (compareOp op) r)(ha:PE X a ta)(hb:PE X b tb)(hm:behindInMarks op b=false):PT X (.Compare a [op] [b] pos) (Cq (qP r ta tb)):=by
 intro pins s Z H Q I h;refine wpAny_isTrue_Compare1 (cy (ha pins s Z H _ I h) λv s1 ⟨x,H1,I1,r1,q1⟩=>cy (hb pins s1 Z H1 _ I1 q1) λu s2 ⟨y,H2,I2,r2,q2⟩ =>
  cy (ho pins s2 Z H2 x y v u _ I2 r1 r2 q2) λc s3 ⟨z,H3,I3,r3,k,e,q3⟩=>?_) hm
 subst e;cases r3;exact cj ⟨H3,I3,q3⟩
noncomputable def AQ(r r':R2)(ta tb tc:TE):TE:=λZ H Q=>ta Z H λx H1=>tb Z H1 λy H2=>r x y H2 λz H3=>∃k,z=.bl k /\
 (if k=true then tc Z H3 λw' H4=>r' y w' H4 Q else Q (.bl false) H3)
theorem a30{op gQ:CmpOp}{r r':R2}(ho:fc X (compareOp op) r)(lZ:fc X (compareOp gQ) r')(ha:PE X a ta)(hb:PE X b tb)(hc:PE X c tc)(hm:lastMarks [op,gQ] [b,c]=false:=by with_unfolding_all rfl):PE X (.Compare a [op,gQ] [b,c] pos) (AQ r r' ta tb tc):=by
 intro pins s Z H Q I h;refine Compare_chain (cy (ha pins s Z H _ I h) λv s1 ⟨x,H1,I1,r1,q1⟩=>chain_link (cy (hb pins s1 Z H1 _ I1 q1) λu s2 ⟨y,H2,I2,r2,q2⟩ =>
  cy (ho pins s2 Z H2 x y v u _ I2 r1 r2 q2) λd s3 ⟨z,H3,I3,r3,k,e,q3⟩=>?_)) hm
 subst e;cases r3;refine cj ?_;cases k with
 |false=>exact ite_ff ⟨.bl false,H3,I3,rfl,q3⟩
 |true=>exact ite_tt (chain_last (cy (hc pins s3 Z H3 _ I3 q3) λw' s4 ⟨z',H4,I4,r4,q4⟩=>lZ pins s4 Z H4 y z' u w' Q I4 r2 r4 q4))
theorem a15{op gQ:CmpOp}{r r':R2}(ho:fc X (compareOp op) r)(lZ:fc X (compareOp gQ) r')(ha:PE X a ta)(hb:PE X b tb)(hc:PE X c tc)(hm:lastMarks [op,gQ] [b,c]=false:=by with_unfolding_all rfl):PT X (.Compare a [op,gQ] [b,c] pos) (Cq (AQ r r' ta tb tc)):=by
 intro pins s Z H Q I h;refine isTrue_chain (cy (ha pins s Z H _ I h) λv s1 ⟨x,H1,I1,r1,q1⟩=>test_link (cy (hb pins s1 Z H1 _ I1 q1) λu s2 ⟨y,H2,I2,r2,q2⟩ =>
  cy (ho pins s2 Z H2 x y v u _ I2 r1 r2 q2) λd s3 ⟨z,H3,I3,r3,k,e,q3⟩=>?_)) hm
 subst e;cases r3;refine cj ?_;cases k with
 |false =>
  obtain⟨k',e',q'⟩:=q3;cases e';exact ite_ff ⟨H3,I3,q'⟩
 |true =>
  refine ite_tt (test_last (cy (hc pins s3 Z H3 _ I3 q3) λw' s4 ⟨z',H4,I4,r4,q4⟩=>cy (lZ pins s4 Z H4 y z' u w' _ I4 r2 r4 q4) λd' s5 lX=>?_));obtain⟨z2,H5,I5,r5,k2,e2,q5⟩:=lX;subst e2;cases r5;exact cj ⟨H5,I5,q5⟩
noncomputable def CS(K:PySem.W.Frag)(x:V)(H:Hp)(k:Bool):Prop :=
 match x with
 |.bD=>k=false
 |.bl b=>k=b
 |.int i=>k=(i != 0)
 |.str y=>y.length<=sizeLine/\k=((y.length:Int) != 0)
 |.ku y=>y.size<=sizeLine/\k=((y.size:Int) != 0)
 |.ref p=>(∃xs,fm K H p xs/\k=!xs.isEmpty)\/(∃xs,gX K H p xs/\k=!xs.isEmpty)\/∃kvs,H p=some (.dK kvs)/\k=!kvs.isEmpty
 |_=>False
theorem YY{κ:Type}{kvs:List (κ×V)}{vs:List (κ×Value)}(r:KV kvs vs):(!vs.isEmpty)=!kvs.isEmpty:=by
 cases r<;>rfl
theorem Hv{xs:List V}{aT:List Value}(r:Vals xs aT):(!aT.toArray.isEmpty)=!xs.isEmpty:=by
 cases r<;>simp
theorem R8:(sizeLine:Nat)<2 ^ 63:=by rw[jN];decide
theorem Rt:TQ X (λx H Q=>∃k,CS X.K x H k/\Q k H):=by
 intro pins s Z H x v Q I rx h;obtain⟨k,e,q⟩:=h;have hl:=R8;have hs:sizeLine=16777216:=jN;cases x with
 |bD =>
  cases rx;have e':k=false:=e;subst e';exact truthy_none ⟨H,I,q⟩
 |bl b =>
  cases rx;have e':k=b:=e;subst e';exact cj ⟨H,I,q⟩
 |int i =>
  obtain⟨t,rfl⟩:=rx;have e':k=(i != 0):=e;subst e';exact PySem.P.truthy_int ⟨H,I,q⟩
 |str y =>
  obtain⟨t,rfl⟩:=rx;obtain⟨hy,e'⟩:y.length<=sizeLine/\k=((y.length:Int) != 0):=e;subst e';exact PySem.P.truthy_str (by omega) ⟨H,I.tok _,q⟩
 |ku y =>
  obtain⟨t,rfl⟩:=rx;obtain⟨hy,e'⟩:y.size<=sizeLine/\k=((y.size:Int) != 0):=e;subst e';exact PySem.W.truthy_bytes (by omega) ⟨H,I.tok _,q⟩
 |ref p =>
  cases rx;have e':(∃xs,fm X.K H p xs/\k=!xs.isEmpty)\/(∃xs,gX X.K H p xs/\k=!xs.isEmpty)\/∃kvs,H p=some (.dK kvs)/\k=!kvs.isEmpty:=e;rcases e' with⟨xs,hx,e'⟩|⟨xs,hx,e'⟩|⟨kvs,hx,e'⟩
  ·subst e';obtain⟨aT,r,pl,hz⟩:=I.list hx;have hlen:=r.length;exact wpAny_truthy_list pl.isList (by simp only[List.size_toArray];omega) ⟨H,I.tok _,by rw[Hv r];exact q⟩
  ·subst e';obtain⟨aT,r,pl,hz⟩:=I.tuple hx;have hlen:=r.length;exact truthy_tuple pl (by simp only[List.size_toArray];omega) ⟨H,I.tok _,by rw[Hv r];exact q⟩
  ·subst e';obtain⟨hz,hS,vs,r,m⟩:kvs.length<=sizeLine/\(p==sysModules)=false/\∃vs,KV kvs vs/\s.heap.DictOf (q8 X.prog X.w) p vs:=I.bE p _ hx;have hlen:kvs.length=vs.length:=kW r;exact wpAny_truthy_dict hS m (by omega) ⟨H,I.tok _,by rw[YY r];exact q⟩
 |_=>exact(show False from e).elim
theorem a13(ha:PE X a ta)(he:∀whole,isTrue a X.env whole=(do let v <- whole;standAt a.pos;holding [v] (truthy v))) :
  PT X a (λZ H Q=>ta Z H λx H'=>∃k,CS X.K x H' k/\Q k H'):=by
 intro pins s Z H Q I h;exact isTrue_plain (cy (ha pins s Z H _ I h) λv s1 ⟨x,H1,I1,r1,q1⟩=>Rt pins s1 Z H1 x v Q I1 r1 q1) (he _)
theorem Zk:fc X (binaryOp .Add) (λx y H Q=>∃i j,x=.str i/\y=.str j/\i.length+j.length<=sizeLine/\Q (.str (i++j)) H):=by
 intro pins s Z H x y v u Q I rx ry h;obtain⟨i,j,rfl,rfl,hz,q⟩:=h;obtain⟨t,rfl⟩:=rx;obtain⟨t',rfl⟩:=ry;exact add_str (λt' tk=>⟨.str (i++j),H,I.tok _,⟨_,rfl⟩,q⟩) hz
theorem vals1{x:V}{us:List Value}(r:Vals [x] us):∃u,us=[u]/\RelV x u:=by
 cases r with
 |cons r1 r2=>cases r2;exact⟨_,rfl,r1⟩
theorem vals2{x y:V}{us:List Value}(r:Vals [x,y] us):∃u w',us=[u,w']/\RelV x u/\RelV y w':=by
 cases r with
 |cons r1 r2 =>
  cases r2 with
  |cons r3 r4=>cases r4;exact⟨_,_,rfl,r1,r3⟩
theorem XF(hc:X.calm=true):m8 X (.builtin "max") (λxs H Q=>∃i j,xs=[.int i,.int j]/\Q (.int (if j>i then j else i)) H):=by
 intro pins s Z H xs us Q I r h;obtain⟨i,j,rfl,q⟩:=h;obtain⟨u,w',rfl,⟨t,rfl⟩,⟨t',rfl⟩⟩:=vals2 r;refine max_two_ints (I.ok.hd hc) λh' tk k=>⟨_,H,I.kept k,?_,q⟩
 by_cases hj:j>i
 ·rw[aF hj,aF hj];exact⟨_,rfl⟩
 ·rw[az hj,az hj];exact⟨_,rfl⟩
theorem XH(hc:X.calm=true):m8 X (.builtin "min") (λxs H Q=>∃i j,xs=[.int i,.int j]/\Q (.int (if j<i then j else i)) H):=by
 intro pins s Z H xs us Q I r h;obtain⟨i,j,rfl,q⟩:=h;obtain⟨u,w',rfl,⟨t,rfl⟩,⟨t',rfl⟩⟩:=vals2 r;refine min_two_ints (I.ok.hd hc) λh' tk k=>⟨_,H,I.kept k,?_,q⟩
 by_cases hj:j<i
 ·rw[aF hj,aF hj];exact⟨_,rfl⟩
 ·rw[az hj,az hj];exact⟨_,rfl⟩
theorem GJ:m8 X (.type "int") (λxs H Q=>(∃i,xs=[.int i]/\Q (.int i) H)\/∃k,xs=[.bl k]/\Q (.int (if k then 1 else 0)) H):=by
 intro pins s Z H xs us Q I r h;rcases h with⟨i,rfl,q⟩|⟨k,rfl,q⟩
 ·obtain⟨u,rfl,t,rfl⟩:=vals1 r;exact call_int_int ⟨.int i,H,I,⟨_,rfl⟩,q⟩
 ·obtain⟨u,rfl,r1⟩:=vals1 r;cases r1;exact call_int_bool ⟨.int (if k then 1 else 0),H,I.tok _,⟨_,rfl⟩,q⟩
end
end L2
namespace L2
open PySem PySem.Spec PyProof.Rows
structure rH(h:Heap)(x dx C:Addr)(mA:Str->Option Value):Prop where
 obj:h.get? x=some (PySem.W.instObj C dx)
 ns:h.Ns1 dx mA
 ne:dx≠x
theorem GV{h:Heap}{dx:Addr}{mA:Str->Option Value}(n:h.Ns1 dx mA):∃od,h.get? dx=some od/\∀name,PySem.W.lookIn name od=some (mA name):=by
 obtain⟨o,es,ep,ho,hd,hk,_,hm⟩:=n;refine⟨o,ho,λname=>?_⟩;have e:=hm name;unfold nsFind findBy at e;rw[<- Array.find?_toList] at e;unfold PySem.W.lookIn;rw[hd];dsimp only;split
 ·rename_i y q;rw[q] at e;exact fI some e
 ·rename_i q;rw[q] at e;have a:es.toList.any (·.refKey)=false:=by
   rw[List.any_eq_false];intro y hy;obtain⟨z,t,jy⟩:=hk y (Array.mem_toList_iff.mp hy);simp[DictEntry.refKey,jy]
  have a':¬es.toList.any (·.refKey)=true:=by rw[a];exact dq
  rw[az a'];exact fI some e
theorem rH.look{h:Heap}{x dx C:Addr}{mA:Str->Option Value}(I:rH h x dx C mA):∃od,PySem.W.InstAt h x (PySem.W.instObj C dx) C (some od)/\∀name,PySem.W.lookIn name od=some (mA name) :=
 let ⟨od,ho,hl⟩:=GV I.ns
 ⟨od,⟨I.obj,rfl,rfl,ho⟩,hl⟩
section
variable{prog:Program}{w:World}{A:Around}{E:Value->Shared->Prop}{s:Shared}{K:PySem.W.Frag}{x dx C f:Addr}{mA:Str->Option Value}{name:Str}{v:Value}
theorem get_map{expr:Bool}{Q:Value->Shared->Prop}(X:K.In s.heap)(I:rH s.heap x dx C mA)(hg:PySem.W.plainGet K C name=true)(hh:PySem.W.hasDictIn K C=true)(ha:PySem.W.findIn K (.ref C) name=some none)(hv:mA name=some v)(zh:PySem.W.handedIn v=true)(h:Q v { s with toks:=s.toks+1 }) :
  wpAny (model prog w) A (getAttr (.ref x) name expr) Q E s:=by
 obtain⟨od,J,hl⟩:=I.look;exact PySem.W.get_value X J (PySem.W.plainGet_of hg).1 (PySem.W.findObj_own hh ha rfl (by rw[hl,hv])) zh h
theorem Tg{ns:List Str}{Q:Unit->Shared->Prop}(X:K.In s.heap)(I:rH s.heap x dx C mA)(hs:PySem.W.findIn K (.ref C) "__setattr__"=some (some (.builtin "object.__setattr__")))(hp:PySem.W.plainOver K C=true)(ht:PySem.W.takerIn K C name=some none)(hh:PySem.W.hasDictIn K C=true)(hw:PySem.Within mA ns)(hsz:ns.length<=sizeLine)(h:∀h',rH h' x dx C (λy=>if y=name then some v else mA y)->Heap.SameBut dx s.heap h'->Q () { s with heap:=h',toks:=s.toks+2 }) :
  wpAny (model prog w) A (setAttr (.ref x) name v) Q E s:=by
 obtain⟨od,J,hl⟩:=I.look;refine PySem.W.set_plain X J hs (PySem.W.osa_open (s:={ s with toks:=s.toks+1 }) (r:=none) X J hp ht λb=>?_);obtain⟨cd,hc,zJ⟩:=PySem.W.any_some hh;have hx:s.heap.get? x=some ⟨.ref C,some dx,.plain,#[]⟩:=I.obj;refine ae (ao (ae (ae (wpAny_loadPart hx (ae (PySem.W.Looks.here (s:={ s with toks:=s.toks+1 }) (PySem.W.looks_clsIn X hc) ?_))))));rw[zJ];refine ao (a:=some dx) (ae (ao (ae ?_)));refine wpAny_nsSet1 (s:={ s with toks:=s.toks+1 }) I.ns λh' ot iE=>?_;obtain⟨oD,esD,epD,Md,MC,MF⟩:=ot.count (PySem.Within.cons name v hw);refine ae (wpAny_lookBehind Md (by rw[MC];exact pastItsLine_dict (aG MF (by rw[cY];omega))) ?_);exact ao (h _ ⟨(iE.2 _ (bC I.ne)).trans I.obj,ot,I.ne⟩ iE)
theorem a38{R:Result->Shared->Prop}{vs:List Value}{kw:List (Str×Value)}(X:K.In s.heap)(hm:PySem.W.makesIn K C=true)(hi:PySem.W.findIn K (.ref C) "__init__"=some (some (.ref f)))(hf:PySem.W.typeIn K (.ref f)=some (.type "function"))(h:codeAny (model prog w) (A.under (.builtin "type.__call__" ⟨.ref C :: vs,kw⟩)) (.call (.ref f) ⟨.ref (s.heap.objs.size + 1) :: vs,kw⟩) (PySem.W.InitBack (s.heap.objs.size + 1) R)
   { s with heap:=(s.heap.push PySem.W.emptyDict).push (PySem.W.instObj C s.heap.objs.size) }) :
  codeAny (model prog w) A (.call (.ref C) ⟨vs,kw⟩) R s:=by
 obtain⟨hh,g,d,t,os⟩:=s;exact PySem.W.make_core (PySem.W.makes_of X hm) (PySem.W.looks_findIn X hi) (λself=>PySem.W.bind_fn X self hf) (.inl rfl) h
end
noncomputable def A4(f:Str)(v:V):List (Str×V)->List (Str×V)
 |[]=>[(f,v)]
 |(g,x)::r=>if g=f then(g,v)::r else(g,x)::A4 f v r
theorem HK(f g:Str)(v:V):∀fs:List (Str×V),(A4 f v fs).lookup g=if g=f then some v else fs.lookup g
 |[]=>by
  show List.lookup g [(f,v)]=_;by_cases h:g=f
  ·have hb:(g==f)=true:=fJ.mpr h;simp only[List.lookup,hb,if_pos h]
  ·have hb:(g==f)=false:=cV.mpr h;simp only[List.lookup,hb,if_neg h]
 |(k,x)::r=>by
  have ih:=HK f g v r;rw[show A4 f v ((k,x)::r)=(if k=f then(k,v)::r else(k,x)::A4 f v r) from rfl];by_cases hk:k=f
  ·rw[aF hk];by_cases h:g=k
   ·have hb:(g==k)=true:=fJ.mpr h;simp only[List.lookup,hb,if_pos (h.trans hk)]
   ·have hb:(g==k)=false:=cV.mpr h;simp only[List.lookup,hb,if_neg (λe:g=f=>h (e.trans hk.symm))]
  ·rw[az hk];by_cases h:g=k
   ·have hb:(g==k)=true:=fJ.mpr h;simp only[List.lookup,hb,if_neg (λe:g=f=>hk (h.symm.trans e))]
   ·have hb:(g==k)=false:=cV.mpr h;simp only[List.lookup,hb];exact ih
theorem BI(f:Str)(v:V):∀fs:List (Str×V),f∈(A4 f v fs).map (·.1)/\∀g,g∈fs.map (·.1)->g∈(A4 f v fs).map (·.1)
 |[]=>⟨by simp[A4],λg h=>by simp at h⟩
 |(k,x)::r=>by
  obtain⟨i1,i2⟩:=BI f v r;rw[show A4 f v ((k,x)::r)=(if k=f then(k,v)::r else(k,x)::A4 f v r) from rfl];by_cases hk:k=f
  ·rw[aF hk];subst hk;exact⟨by simp,λg h=>by simpa using h⟩
  ·rw[az hk];refine⟨?_,λg h=>?_⟩
   ·rw[ba];exact bI _ i1
   ·rw[ba] at h ⊢;rcases aH.mp h with e|e
    ·exact aH.mpr (.inl e)
    ·exact bI _ (i2 g e)
theorem HJ(f:Str)(v:V):∀fs:List (Str×V),(A4 f v fs).length<=fs.length+1
 |[]=>by simp[A4]
 |(k,x)::r=>by
  have ih:=HJ f v r;rw[show A4 f v ((k,x)::r)=(if k=f then(k,v)::r else(k,x)::A4 f v r) from rfl];by_cases hk:k=f
  ·rw[aF hk,cY,cY];omega
  ·rw[az hk,cY,cY];omega
theorem E7.some_of{v:V}{o:Option Value}(r:E7 (some v) o):∃u,o=some u/\RelV v u:=by
 cases o with
 |none=>exact(show False from r).elim
 |some u=>exact⟨u,rfl,r⟩
theorem XS{v:V}{u:Value}(r:RelV v u):PySem.W.handedIn u=true:=by
 cases v with
 |bD=>cases (show u=Value.none from r);rfl
 |bl b=>cases (show u=Value.bool b from r);rfl
 |int i=>obtain⟨t,e⟩:=(show ∃t,u=Value.int i t from r);cases e;rfl
 |str x=>obtain⟨t,e⟩:=(show ∃t,u=Value.str x t from r);cases e;rfl
 |ku b=>obtain⟨t,e⟩:=(show ∃t,u=Value.bytes b t from r);cases e;rfl
 |ql b=>obtain⟨t,e⟩:=(show ∃t,u=Value.float b t from r);cases e;rfl
 |ref a=>cases (show u=Value.ref a from r);rfl
 |ty n=>cases (show u=Value.type n from r);rfl
section
variable{P:Program}{w:World}{H H':Hp}{h h':Heap}{a C dx:Addr}{fs qj:List (Str×V)}
theorem Bl(bE:fG P w H h)(e:H a=some (.ins C dx fs)):∃mA,rH h a dx C mA/\(∀f,E7 (fs.lookup f) (mA f))/\PySem.Within mA (fs.map (·.1))/\fs.length<=1000/\H dx=some (.own a):=by
 obtain⟨d,z,ne,ob,mA,n,r,q⟩:=(show m7 P w H h a (.ins C dx fs) from bE a _ e)
 exact⟨mA,⟨ob,n,ne⟩,r,q,z,d⟩
end
structure jh(K:PySem.W.Frag)(C:Addr):Prop where
 pg:PySem.W.plainGet K C Str.empty=true
 hd:PySem.W.hasDictIn K C=true
 po:PySem.W.plainOver K C=true
 sa:PySem.W.findIn K (.ref C) "__setattr__"=some (some (.builtin "object.__setattr__"))
theorem jh.get{K:PySem.W.Frag}{C:Addr}(c:jh K C)(f:Str):PySem.W.plainGet K C f=true:=c.pg
noncomputable def B5(K:PySem.W.Frag)(C:Addr)(f:Str):Prop:=PySem.W.findIn K (.ref C) f=some none
theorem B5.Ox{K:PySem.W.Frag}{C:Addr}{f:Str}(n:B5 K C f):PySem.W.takerIn K C f=some none:=by
 unfold PySem.W.takerIn;rw[show PySem.W.findIn K (.ref C) f=some none from n]
 rfl
structure Meth(K:PySem.W.Frag)(C:Addr)(m:Str)(f:Addr):Prop where
 at_:PySem.W.findIn K (.ref C) m=some (some (.ref f))
 fn:PySem.W.isFn K (.ref f)=true
 kp:PySem.W.keepIn K (.ref f)=true
section
variable{X:Cx}{pins:List (Addr×Obj)}{Z:St}{H:Hp}{s:Shared}{a C dx:Addr}{fs:List (Str×V)}{f:Str}{v:V}{A:Around}{E:Value->Shared->Prop}
theorem YX{b:Bool}{Q:Value->Shared->Prop}(I:Inv X pins Z H s)(e:H a=some (.ins C dx fs))(c:jh X.K C)(n:B5 X.K C f)(l:fs.lookup f=some v)(h:∀u s',Inv X pins Z H s'->RelV v u->Q u s'):wpAny (model X.prog X.w) A (getAttr (.ref a) f b) Q E s:=by
 obtain⟨mA,O,r,_,_,_⟩:=Bl I.bE e;obtain⟨u,hu,ru⟩:=E7.some_of (v:=v) (o:=mA f) (by rw[<- l];exact r f);exact get_map I.gp O (c.get f) c.hd n hu (XS ru) (h u _ (I.tok _) ru)
theorem Zq{y:V}{u:Value}{Q:Unit->Shared->Prop}(I:Inv X pins Z H s)(e:H a=some (.ins C dx fs))(c:jh X.K C)(n:B5 X.K C f)(hl:fs.length<1000)(ry:RelV y u)(h:∀s',Inv X pins Z (upd H a (.ins C dx (A4 f y fs))) s'->Q () s'):wpAny (model X.prog X.w) A (setAttr (.ref a) f u) Q E s:=by
 obtain⟨mA,O,r,wi,_,ho⟩:=Bl I.bE e;have hz:(fs.map (·.1)).length<=sizeLine:=by rw[ag,jN];omega
 refine Tg I.gp O c.sa c.po n.Ox c.hd wi hz λh' O' sb=>h _ ?_;have hd:∃o,h'.get? dx=some o:=let ⟨o,_,_,e',_⟩:=O'.ns;⟨o,e'⟩
 refine I.write (x:=a) (e:=dx) (by rw[e];exact True.intro) (.inr ho) (λb q hb z=>(sb.2 b hb).trans z) hd ?_;refine⟨by rw[i0 O.ne];exact ho,?_,O.ne,O'.obj,_,O'.ns,λg=>?_,λg hg=>?_⟩
 ·have:=HJ f y fs;omega
 ·show E7 ((A4 f y fs).lookup g) (if g=f then some u else mA g);rw[HK];by_cases q:g=f
  ·rw[aF q,aF q];exact ry
  ·rw[az q,az q];exact r g
 ·by_cases q:g=f
  ·rw[q];exact(BI f y fs).1
  ·refine(BI f y fs).2 g (wi g λz=>hg ?_);show(if g=f then some u else mA g)=none;rw[az q];exact z
theorem Inv.made(I:Inv X pins Z H s):Inv X pins Z (upd (upd H s.heap.objs.size (.own (s.heap.objs.size+1))) (s.heap.objs.size+1) (.ins C s.heap.objs.size []))
  { s with heap:=(s.heap.push PySem.W.emptyDict).push (PySem.W.instObj C s.heap.objs.size) }:=by
 have e1:(s.heap.push PySem.W.emptyDict).get? s.heap.objs.size=some PySem.W.emptyDict:=aD s.heap rfl;have e2:((s.heap.push PySem.W.emptyDict).push (PySem.W.instObj C s.heap.objs.size)).get? (s.heap.objs.size+1)=some (PySem.W.instObj C s.heap.objs.size):=by
  have:=aD (s.heap.push PySem.W.emptyDict) (o:=PySem.W.instObj C s.heap.objs.size) rfl
  rwa [dQ] at this
 have e3:(s.heap.push PySem.W.emptyDict).Ns s.heap.objs.size (λ_=>none):=⟨PySem.W.emptyDict,#[],_,e1,rfl,(λe he=>absurd he (by simp)),λ_=>rfl⟩
 have I1:=I.laid (a:=s.heap.objs.size) (o:=.own (s.heap.objs.size+1)) (h':=s.heap.push PySem.W.emptyDict) (t':=s.toks) (λb u q=>au _ q) (av _) ⟨_,e1⟩;refine I1.laid (a:=s.heap.objs.size+1) (o:=.ins C s.heap.objs.size []) (t':=s.toks) (λb u q=>au _ q) (Nat.le_of_eq (dQ _ _)) ?_;have ne:s.heap.objs.size≠s.heap.objs.size+1:=aN (eY _);refine⟨by rw[i0 ne,s9],cB _,ne,e2,λ_=>none,(Heap.Ns1.of_empty e3).at λo q=>au _ q,λ_=>True.intro,λy hy=>absurd rfl hy⟩
theorem RG{prog:Program}{w:World}{env:Env}{e:Expr}{f:Str}{pos:Pos}{s:Shared}{Q:Value->Shared->Prop}(hb:attributeBase e f env (eval e env)=eval e env)(h:wpAny (model prog w) A (eval e env) (λo bQ=>wpAny (model prog w) A (getAttr o f true) Q E bQ) E s):wpAny (model prog w) A (eval (.Attribute e f pos) env) Q E s :=
 Attribute_any_ h (by rw[arm_eval_Attribute,hb])
end
noncomputable def Va(K:PySem.W.Frag)(ta:TE)(f:Str):TE:=λZ H Q=>ta Z H λx H1=>∃a C dx fs v,x=.ref a/\H1 a=some (.ins C dx fs)/\jh K C/\B5 K C f/\fs.lookup f=some v/\Q v H1
noncomputable def UQ(K:PySem.W.Frag)(ta tv:TE)(f:Str):TS:=λD Z H=>tv Z H λy H1=>ta Z H1 λx H2=>∃a C dx fs,x=.ref a/\H2 a=some (.ins C dx fs)/\jh K C/\B5 K C f/\fs.length<1000 /\
 D.nx Z (upd H2 a (.ins C dx (A4 f y fs)))
noncomputable def FN(X:Cx)(op:Operator)(rd:V->V->Hp->VK->Prop):Prop :=
 ∀(pins:List (Addr×Obj)) (s:Shared) (Z:St) (H:Hp) (x y:V) (u v:Value) (Q:VK),Inv X pins Z H s->RelV x u->RelV y v->rd x y H Q->wpAny (model X.prog X.w) X.A (inplaceOp op u v) (EP X pins Z Q) X.xe s
section
variable{X:Cx}{o e value:Expr}{f:Str}{pos pos' yz:Pos}{ta tv:TE}
theorem Qb(he:PE X e ta)(hb:attributeBase e f X.env (eval e X.env)=eval e X.env):PE X (.Attribute e f pos) (Va X.K ta f):=by
 intro pins s Z H Q I h;refine RG hb (cy (he pins s Z H _ I h) λu s1 lX=>?_);obtain⟨x,H1,I1,rx,a,C,dx,fs,v,ex,ea,c,n,l,q⟩:=lX;subst ex;obtain rfl:u=Value.ref a:=rx;exact YX I1 ea c n l λu' s2 I2 ru=>⟨v,H1,I2,ru,q⟩
theorem Qp(ha:PE X o ta)(hv:PE X value tv)(hs:swapsWith value (some (.Attribute o f pos')) pos.line X.env=pure false):PS X (.Assign [.Attribute o f pos'] value pos) (UQ X.K ta tv f):=by
 intro pins s Z H D I h;refine plainObj_wpAny_Assign_Attribute (cy (hv pins s Z H _ I h) λu s1 ⟨y,H1,I1,ry,q⟩=>cy (ha pins s1 Z H1 _ I1 q) λov s2 lX=>?_) hs;obtain⟨x,H2,I2,rx,a,C,dx,fs,ex,ea,c,n,l,q2⟩:=lX;subst ex;obtain rfl:ov=Value.ref a:=rx;exact Zq I2 ea c n l ry λs3 I3=>⟨Z,_,I3,q2⟩
noncomputable def UG:V->V->Hp->VK->Prop:=λx y H Q=>∃i j,x=.int i/\y=.int j/\Q (.int (i+j)) H
theorem OU:FN X .Add UG:=by
 rintro pins s Z H x y u v Q I rx ry ⟨i,j,rfl,rfl,q⟩;obtain⟨t,rfl⟩:=(show ∃t,u=Value.int i t from rx)
 obtain⟨t',rfl⟩:=(show ∃t',v=Value.int j t' from ry)
 exact PyProof.Rows.iadd_int ⟨.int (i+j),H,I.tok _,⟨_,rfl⟩,q⟩
end
section
variable{X:Cx}{pins:List (Addr×Obj)}{Z:St}{H:Hp}{s:Shared}{A:Around}{E:Value->Shared->Prop}{Q:Value->Shared->Prop}{c:Value}{b:Bool}
inductive gw(K:PySem.W.Frag)(H:Hp):V->Value->Prop where
 |bD:gw K H .bD (.type "NoneType")
 |bl (x:Bool):gw K H (.bl x) (.type "bool")
 |int (i:Int):gw K H (.int i) (.type "int")
 |str (x:Str):gw K H (.str x) (.type "str")
 |ql (x:UInt64):gw K H (.ql x) (.type "float")
 |lst {a:Addr} {xs:List V} (e:H a=some (.lst xs)):gw K H (.ref a) (.type "list")
 |jb {a:Addr} {o:Obj} {xs:List V} (e:H a=some (.jb o (.lst xs))):gw K H (.ref a) (.type "list")
 |tup {a:Addr} {xs:List V} (e:H a=some (.tup xs)):gw K H (.ref a) (.type "tuple")
 |dK {a:Addr} {kvs:List (Key×V)} (e:H a=some (.dK kvs)):gw K H (.ref a) (.type "dict")
 |dT {a:Addr} {kvs:List (List Key×V)} (e:H a=some (.dT kvs)):gw K H (.ref a) (.type "dict")
 |ins {a C dx:Addr} {fs:List (Str×V)} (e:H a=some (.ins C dx fs)) (cl:jh K C) (ha:PySem.W.findIn K (.ref C) "__class__"=some (some (.builtin "object.__class__")))
   (hn:PySem.W.specialIn K (.builtin "object.__class__") "__get__"=some (some (.builtin "getset_descriptor.__get__"))) (wj:PySem.W.takesIn K (.builtin "object.__class__")=some true)
   (hm:PySem.W.mroIn K C (.type "object")=some true):gw K H (.ref a) (.ref C)
theorem XW{x:V}{u t:Value}(I:Inv X pins Z H s)(rx:RelV x u)(ty:gw X.K H x t)(e:PySem.W.kitOne X.K t c=some b)(h:∀tk,Q (.bool b) { s with toks:=tk }) :
  wpAny (model X.prog X.w) A (call (.builtin "isinstance") [u,c]) Q E s:=by
 cases ty with
 |bD=>cases (show u=Value.none from rx);exact bL PySem.W.kitx_none I.gp True.intro e (λz=>nomatch z) h
 |bl y=>cases (show u=Value.bool y from rx);exact bL PySem.W.kitx_bool I.gp True.intro e (λz=>nomatch z) h
 |int i=>obtain⟨t,q⟩:=(show ∃t,u=Value.int i t from rx);cases q;exact bL PySem.W.kitx_int I.gp True.intro e (λz=>nomatch z) h
 |str y=>obtain⟨t,q⟩:=(show ∃t,u=Value.str y t from rx);cases q;exact bL PySem.W.kitx_str I.gp True.intro e (λz=>nomatch z) h
 |ql y=>obtain⟨t,q⟩:=(show ∃t,u=Value.float y t from rx);cases q;exact bL PySem.W.kitx_float I.gp True.intro e (λz=>nomatch z) h
 |@lst a xs ea =>
  cases (show u=Value.ref a from rx);obtain⟨_,_,n,_,h1⟩:=(show m7 X.prog X.w H s.heap a (.lst xs) from I.bE a _ ea)
  exact bL PySem.W.kitx_list I.gp ⟨_,h1,rfl⟩ e (λz=>nomatch z) h
 |@jb a ob xs ea =>
  cases (show u=Value.ref a from rx);obtain⟨_,_,_,n,_,h1⟩:=(show m7 X.prog X.w H s.heap a (.jb ob (.lst xs)) from I.bE a _ ea)
  exact bL PySem.W.kitx_list I.gp ⟨_,h1,rfl⟩ e (λz=>nomatch z) h
 |@tup a xs ea =>
  cases (show u=Value.ref a from rx);obtain⟨_,_,_,p⟩:=(show m7 X.prog X.w H s.heap a (.tup xs) from I.bE a _ ea)
  obtain⟨o,h1,h2,_⟩:=p;exact bL Km I.gp ⟨o,h1,h2⟩ e (λz=>nomatch z) h
 |@dK a kvs ea =>
  cases (show u=Value.ref a from rx);obtain⟨_,_,vs,_,p⟩:=(show m7 X.prog X.w H s.heap a (.dK kvs) from I.bE a _ ea)
  obtain⟨o,es,ep,h1,h2,_⟩:=p;exact bL PySem.W.kitx_dict I.gp ⟨o,h1,h2.1⟩ e (λz=>nomatch z) h
 |@dT a kvs ea =>
  cases (show u=Value.ref a from rx);obtain⟨_,_,xs,_,o,es,ep,h1,h2,_⟩:=(show m7 X.prog X.w H s.heap a (.dT kvs) from I.bE a _ ea)
  exact bL PySem.W.kitx_dict I.gp ⟨o,h1,h2.1⟩ e (λz=>nomatch z) h
 |@ins a C dx fs ea cl ha hn wj hm =>
  cases (show u=Value.ref a from rx);obtain⟨mA,O,_⟩:=Bl I.bE ea;obtain⟨od,J,_⟩:=O.look;exact bL (PySem.W.kitx_own (cl.get _) cl.hd ha hn wj hm) I.gp J e (λz=>nomatch z) h
end
end L2
namespace L2
open PySem PySem.Spec PyProof.Rows
structure v9(k:Nat)(A:Around):Prop where
 hd:A.handled=none
 dp:A.depth+3*k+5<recursionLimit
 un:A.units+16*k+200<cLine
theorem v9.mono{j k:Nat}{A:Around}(r:v9 k A)(h:j<=k):v9 j A:=⟨r.hd,by have:=r.dp;omega,by have:=r.un;omega⟩
theorem v9.deeper{k:Nat}{A:Around}(r:v9 (k+1) A)(env:Env):v9 k (A.deeper env) :=
 ⟨r.hd,by have:=r.dp;show A.depth+1+3*k+5<_;omega,by have:=r.un;show A.units+3+16*k+200<_;omega⟩
theorem Zc{A:Around}{C:Addr}{us:List Value}{kw:List (Str×Value)}:(A.under (.builtin "type.__call__" ⟨.ref C::us,kw⟩)).depth=A.depth+1:=by
 first|rfl|simp[Around.under,Code.weight,Code.isCreation,Code.isGuard,Code.isCaller,Code.frames,Code.isFrame,guardIds]
theorem Zd{A:Around}{C:Addr}{us:List Value}{kw:List (Str×Value)}:(A.under (.builtin "type.__call__" ⟨.ref C::us,kw⟩)).units=A.units+1:=by
 first|rfl|simp[Around.under,Code.cUnits,Code.frames,Code.isFrame]
theorem v9.make{k:Nat}{A:Around}(r:v9 (k+1) A)(C:Addr)(us:List Value)(kw:List (Str×Value)):v9 k (A.under (.builtin "type.__call__" ⟨.ref C::us,kw⟩)) :=
 ⟨r.hd,by have:=r.dp;rw[Zc];omega,by have:=r.un;rw[Zd];omega⟩
theorem v9.depth{k:Nat}{A:Around}(r:v9 k A):A.depth<recursionLimit:=by have:=r.dp;omega
noncomputable def Ge:TA:=λ_ H Q=>Q [] H
noncomputable def Om(ta:TE)(tr:TA):TA:=λZ H Q=>ta Z H λx H1=>tr Z H1 λxs H2=>Q (x::xs) H2
section
variable{X:Cx}{e:Expr}{es:List Expr}{te:TE}{t:TA}{pos:Pos}
theorem W8:PA X [] Ge:=λ_ _ _ _ H Q I h=>Calls.spliced_nil ⟨[],H,I,.nil,h⟩
theorem P7(ha:PE X e te)(hr:PA X es t)(hs:starEach (e::es) X.env=(false,eval e X.env)::starEach es X.env:=by rfl):PA X (e::es) (Om te t):=by
 intro pos pins s Z H Q I h;rw[hs];show wpAny _ _ (spliced ((false,eval e X.env)::backTo pos (starEach es X.env))) _ _ s;refine Calls.spliced_cons (cy (ha pins s Z H _ I h) λu s1 ⟨x,H1,I1,r1,q1⟩=>?_);exact cy (hr pos pins s1 Z H1 _ I1 q1) λus s2 ⟨xs,H2,I2,r2,q2⟩=>⟨x::xs,H2,I2,.cons r1 r2,q2⟩
noncomputable def Vj(t:TA):TE:=λZ H Q=>t Z H λxs H1=>xs.length<=sizeLine/\∀p,H1 p=none->Q (.ref p) (upd H1 p (.tup xs))
noncomputable def Vd(t:TA):TE:=λZ H Q=>t Z H λxs H1=>xs.length<=sizeLine/\∀p,H1 p=none->Q (.ref p) (upd H1 p (.lst xs))
theorem Qi{x1}(h:PA X es t):PE X (.Tuple es x1 pos) (Vj t):=by
 intro pins s Z H Q I hq;refine wpAny_Tuple_spliced (cy (h pos pins s Z H _ I hq) λus s1 ⟨xs,H1,I1,r,z,q⟩=>⟨by rw[<- r.length];exact z,?_⟩);have hf:H1 s1.heap.objs.size=none:=I1.bE.fresh (av _);refine⟨.ref s1.heap.objs.size,upd H1 s1.heap.objs.size (.tup xs),I1.laid (t':=s1.toks) (λb u e=>au _ e) (av _) ?_,rfl,q _ hf⟩;exact⟨z,us,r,⟨_,aD _ rfl,rfl,⟨_,rfl⟩,rfl⟩⟩
theorem Qe(h:PA X es t):PE X (.List es pos) (Vd t):=by
 intro pins s Z H Q I hq;refine wpAny_List_spliced (cy (h pos pins s Z H _ I hq) λus s1 ⟨xs,H1,I1,r,z,q⟩=>⟨by rw[<- r.length];exact z,?_⟩);have hf:H1 s1.heap.objs.size=none:=I1.bE.fresh (av _);refine⟨.ref s1.heap.objs.size,upd H1 s1.heap.objs.size (.lst xs),I1.laid (t':=s1.toks) (λb u e=>au _ e) (av _) ?_,rfl,q _ hf⟩;exact⟨z,us,0,r,aD _ rfl⟩
end
noncomputable abbrev Sp:=List V->Hp->VK->XK->Prop
noncomputable abbrev mI:=List Env->Hp->Shared->XK->Value->Shared->Prop
structure qw(P:Program)(w:World)(K:PySem.W.Frag)(mg:Str->Option Value)(base:Heap)(A:Around)(outer:List Env)(s:Shared)(H:Hp):Prop where
 frames:A.frames=some outer
 mod:Mod K mg base
 bs:∀b o,base.get? b=some o->s.heap.get? b=some o/\H b=none
 mR:base.objs.size<=s.heap.objs.size
 L3:s.heap.FunFrames base outer
 nA:∀b∈fk outer,H b=none
 bE:fG P w H s.heap
 bare:AllBare s.gens
noncomputable def CE(outer:List Env)(P:Program)(w:World)(H:Hp)(s:Shared)(Q:VK)(u:Value)(s':Shared):Prop :=
 ∃v H',s'.os=s.os/\AllBare s'.gens/\Un (fk outer) [] H H' s.heap s'.heap/\fG P w H' s'.heap/\RelV v u/\Q v H'
noncomputable def CR(CX:mI)(outer:List Env)(P:Program)(w:World)(H:Hp)(s:Shared)(Q:VK)(E:XK)(r:Result)(s':Shared):Prop :=
 match r with
 |.ok (.ret u)=>CE outer P w H s Q u s'
 |.ok _=>False
 |.error e=>CX outer H s E e s'
structure gY(P:Program)(w:World)(K:PySem.W.Frag)(mg:Str->Option Value)(base:Heap)(CX:mI)(k:Nat)(f:Addr)(fd:FuncData)(ps:List Str)(sp:Sp):Prop where
 len:∀vs H Q E,sp vs H Q E->vs.length=ps.length
 run:∀(A:Around) (outer:List Env) (s:Shared) (H:Hp) (args:Args) (us:List Value) (vs:List V) (Q:VK) (E:XK),v9 k A->qw P w K mg base A outer s H->BindsTo s fd args (ps.zip us)->Vals vs us->sp vs H Q E ->
  codeAny (model P w) A (.call (.ref f) args) (CR CX outer P w H s Q E) s
theorem qw.make{P:Program}{w:World}{K:PySem.W.Frag}{mg:Str->Option Value}{base:Heap}{A:Around}{outer:List Env}{s:Shared}{H:Hp}(e:qw P w K mg base A outer s H)(C:Addr)(us:List Value)(kw:List (Str×Value)) :
  qw P w K mg base (A.under (.builtin "type.__call__" ⟨.ref C::us,kw⟩)) outer s H:=⟨by first|exact e.frames|(simpa[Around.under,Code.envs,Code.isFrame,pushEnvs] using e.frames),e.mod,e.bs,e.mR,e.L3,e.nA,e.bE,e.bare⟩
section
variable{X:Cx}{pins:List (Addr×Obj)}{Z:St}{H:Hp}{s s':Shared}
theorem Inv.FR(I:Inv X pins Z H s):qw X.prog X.w X.K X.mg X.base X.A X.stack s H :=
 ⟨I.ok.frames,I.ok.mod,I.bs,aG I.ok.mR I.sz,I.stack,I.xR,I.bE,I.bare⟩
theorem Inv.after{Q:VK}{u:Value}(I:Inv X pins Z H s)(h:CE X.stack X.prog X.w H s Q u s'):EP X pins Z Q u s':=by
 obtain⟨v,H',os,bare,un,bE,r,q⟩:=h;obtain⟨hh,g,d,t,sX⟩:=s';obtain rfl:sX=s.os:=os;exact⟨v,H',I.call (h':=hh) (g':=g) (d':=d) (t':=t) (ch:=[]) un bE bare (λb z=>absurd z (by simp)),r,q⟩
end
noncomputable def Ol(sp:Sp)(jB:List V)(E:XK)(t:TA):TE:=λZ H Q=>t Z H λvs H1=>sp (vs++jB) H1 Q E
noncomputable def JU(C:Addr)(sp:Sp)(jB:List V)(E:XK)(t:TA):TE:=λZ H Q=>t Z H λvs H1=>∀x dx,H1 x=none->H1 dx=none->dx≠x ->
 sp (.ref x::(vs++jB)) (upd (upd H1 dx (.own x)) x (.ins C dx [])) (λv H2=>v=.bD/\Q (.ref x) H2) E
noncomputable def Binds(K:PySem.W.Frag)(fd:FuncData)(ps:List Str)(ds:List Value):Prop :=
 ∀(s:Shared) (us:List Value),K.In s.heap->(us++ds).length=ps.length->BindsTo s fd ⟨us,[]⟩ (ps.zip (us++ds))
theorem Binds.all{K:PySem.W.Frag}{fd:FuncData}{ps:List Str}(h:∀us:List Value,us.length=ps.length->bindArgs fd ⟨us,[]⟩=pure (ps.zip us)):Binds K fd ps []:=λs us _ hl=>by
 rw[fo] at hl ⊢;exact .of_eq (h us hl)
noncomputable def Passes(CX:mI)(X:Cx)(E:XK):Prop:=∀(pins:List (Addr×Obj)) (Z:St) (H:Hp) (s:Shared) (e:Value) (s':Shared),Inv X pins Z H s->CX X.stack H s E e s'->X.xe e s'
section
variable{X:Cx}{CX:mI}{k:Nat}{f C:Addr}{fd:FuncData}{ps:List Str}{sp:Sp}{jB:List V}{ds:List Value}{E:XK}{x m:Str}{p pos apos:Pos}{e o:Expr}{es:List Expr}{ta:TE}{t:TA}
theorem Qy{pins:List (Addr×Obj)}{Z:St}{H:Hp}{s:Shared}{Q:VK}{us:List Value}{vs:List V}(F:gY X.prog X.w X.K X.mg X.base CX k f fd ps sp)(hr:v9 k X.A)(hb:Binds X.K fd ps ds)(hd:Vals jB ds)(hx:Passes CX X E)(I:Inv X pins Z H s)(r:Vals vs us)(h:sp (vs++jB) H Q E):wpAny (model X.prog X.w) X.A (call (.ref f) us) (EP X pins Z Q) X.xe s:=by
 have r2:Vals (vs++jB) (us++ds):=r.append hd;have hl:(us++ds).length=ps.length:=by rw[<- r2.length];exact F.len _ _ _ _ h
 refine wpAny_call (gf (F.run X.A X.stack s H ⟨us,[]⟩ (us++ds) (vs++jB) Q E hr I.FR (hb s us I.gp hl) r2 h) λr s' hq=>?_);cases r with
 |error e=>exact hx pins Z H s e s' I hq
 |ok fl =>
  cases fl with
  |ret u=>exact I.after hq
  |next=>exact False.elim hq
  |brk=>exact False.elim hq
  |cont=>exact False.elim hq
theorem Sz(F:gY X.prog X.w X.K X.mg X.base CX k f fd ps sp)(hr:v9 k X.A)(hg:Gl X x)(hm:X.mg x=some (.ref f))(hk:PySem.W.keepIn X.K (.ref f)=true)(hb:Binds X.K fd ps ds)(hd:Vals jB ds)(hx:Passes CX X E)(ha:PA X (e::es) t)(hX:(x==("__debug__":Str))=false:=by decide)(he:starEach (e::es) X.env=(false,eval e X.env)::starEach es X.env:=by rfl)(fS:(backTo pos (starEach es X.env)).any (·.1)=false:=by rfl) :
  PE X (.Call (.Name x p) (e::es) [] pos) (Ol sp jB E t):=by
 intro pins s Z H Q I h;refine cM (P9 I hg hm ?_ hX);refine Kn (h₀:=X.base) I.ok.mod.mM hk (cy (ha pos pins s Z H _ I h) λus s1 ⟨vs,H1,I1,r,q⟩=>⟨I1.gp,?_⟩) he fS;exact Qy F hr hb hd hx I1 r q
structure Mk(K:PySem.W.Frag)(C f:Addr):Prop where
 makes:PySem.W.makesIn K C=true
 init:PySem.W.findIn K (.ref C) "__init__"=some (some (.ref f))
 fn:PySem.W.isFn K (.ref f)=true
 kp:PySem.W.keepIn K (.ref C)=true
theorem Gu{pins:List (Addr×Obj)}{Z:St}{H:Hp}{s:Shared}{Q:VK}{us:List Value}{vs:List V}(M:Mk X.K C f)(F:gY X.prog X.w X.K X.mg X.base CX k f fd ps sp)(hr:v9 (k+1) X.A)(hb:Binds X.K fd ps ds)(hd:Vals jB ds)(hx:Passes CX X E)(I:Inv X pins Z H s)(r:Vals vs us)(h:∀x dx,H x=none->H dx=none->dx≠x->sp (.ref x::(vs++jB)) (upd (upd H dx (.own x)) x (.ins C dx [])) (λv H2=>v=.bD/\Q (.ref x) H2) E) :
  wpAny (model X.prog X.w) X.A (call (.ref C) us) (EP X pins Z Q) X.xe s:=by
 have hq:=h (s.heap.objs.size+1) s.heap.objs.size (I.bE.fresh (fX _)) (I.bE.fresh (av _)) (aN (eY _));have I2:=Inv.made (C:=C) I;have r2:Vals (V.ref (s.heap.objs.size+1)::(vs++jB)) (Value.ref (s.heap.objs.size+1)::(us++ds)):=.cons rfl (r.append hd);have hl:(Value.ref (s.heap.objs.size+1)::us++ds).length=ps.length:=by
  have e:=r2.length;rw[F.len _ _ _ _ hq] at e;exact e.symm
 refine wpAny_call (a38 (f:=f) I.gp M.makes M.init (fJ.mp M.fn) (gf (F.run _ X.stack _ _ ⟨Value.ref (s.heap.objs.size + 1) :: us,[]⟩ (Value.ref (s.heap.objs.size + 1) :: (us ++ ds)) _ _ E (hr.make C us [])
  (I2.FR.make C us []) (hb _ (Value.ref (s.heap.objs.size + 1) :: us) I2.gp hl) r2 hq) λr s' lY=>?_))
 cases r with
 |error e=>exact hx pins Z _ _ e s' I2 lY
 |ok fl =>
  cases fl with
  |ret u =>
   obtain⟨v,H',I3,rv,ev,q3⟩:=I2.after lY;subst ev;exact⟨rv,⟨V.ref (s.heap.objs.size+1),H',I3,rfl,q3⟩⟩
  |next=>exact False.elim lY
  |brk=>exact False.elim lY
  |cont=>exact False.elim lY
theorem SE(M:Mk X.K C f)(F:gY X.prog X.w X.K X.mg X.base CX k f fd ps sp)(hr:v9 (k+1) X.A)(hg:Gl X x)(hm:X.mg x=some (.ref C))(hb:Binds X.K fd ps ds)(hd:Vals jB ds)(hx:Passes CX X E)(ha:PA X (e::es) t)(hX:(x==("__debug__":Str))=false:=by decide)(he:starEach (e::es) X.env=(false,eval e X.env)::starEach es X.env:=by rfl)(fS:(backTo pos (starEach es X.env)).any (·.1)=false:=by rfl) :
  PE X (.Call (.Name x p) (e::es) [] pos) (JU C sp jB E t):=by
 intro pins s Z H Q I h;refine cM (P9 I hg hm ?_ hX);refine Kn (h₀:=X.base) I.ok.mod.mM M.kp (cy (ha pos pins s Z H _ I h) λus s1 ⟨vs,H1,I1,r,q⟩=>⟨I1.gp,?_⟩) he fS;exact Gu M F hr hb hd hx I1 r q
theorem a27(M:Mk X.K C f)(F:gY X.prog X.w X.K X.mg X.base CX k f fd ps sp)(hr:v9 (k+1) X.A)(hg:Gl X x)(hm:X.mg x=some (.ref C))(hb:Binds X.K fd ps ds)(hd:Vals jB ds)(hx:Passes CX X E)(hX:(x==("__debug__":Str))=false:=by decide):PE X (.Call (.Name x p) [] [] pos) (JU C sp jB E Ge):=by
 intro pins s Z H Q I h;refine cM (P9 I hg hm ?_ hX);exact PySem.W.callWith_K0 I.gp M.kp (Gu (us:=[]) M F hr hb hd hx I .nil h)
end
section
variable{X:Cx}{CX:mI}{k:Nat}{f C:Addr}{fd:FuncData}{ps ks:List Str}{sp:Sp}{E:XK}{x m:Str}{p pos apos LH:Pos}{e o:Expr}{es:List Expr}{iM:List Keyword}{te ta:TE}{t tk:TA}{nm:Option Str}
variable{g:List Value->List Value->List Value}{gV:List V->List V->List V}
end
structure hZ(N P:List Str)(sc:Scope):Prop where
 kind:sc.kind=.function
 co:sc.isCoroutine=false
 gen:sc.isGenerator=false
 nd:N.Nodup
 pre:N.take P.length=P
 par:∀x∈P,sc.names.lookup x=some .local\/sc.names.lookup x=some .cell
 lP:∀y∈sc.names,y.2≠.free
theorem GI{kindOf:Str->Option NameKind}{x:Str}:∀{binds:List (Str×Value)} {m:Str->Option Value},(∀v,(x,v)∉binds)->bindL kindOf binds m x=m x
 |[],_,_=>rfl
 |(n,v)::r,m,h=>by
  unfold bindL;rw[GI λw hw=>h w (bI _ hw)];split
  ·have:x≠n:=by rintro rfl;exact h v fM
   simp[this]
  ·rfl
theorem GG{kindOf:Str->Option NameKind}{x:Str}:∀{binds:List (Str×Value)} {m:Str->Option Value},(∀v,(x,v)∉binds)->bindC kindOf binds m x=m x
 |[],_,_=>rfl
 |(n,v)::r,m,h=>by
  unfold bindC;rw[GG λw hw=>h w (bI _ hw)];split
  ·rfl
  ·have:x≠n:=by rintro rfl;exact h v fM
   simp[this]
theorem GH{kindOf:Str->Option NameKind}{x:Str}{v:Value}:∀{P:List Str} {vs:List Value} {i:Nat} {m:Str->Option Value},P.Nodup->P[i]?=some x->vs[i]?=some v->kindOf x=some .local ->
  bindL kindOf (P.zip vs) m x=some v
 |[],_,_,_,_,h,_,_=>by simp at h
 |_::_,[],_,_,_,_,h,_=>by simp at h
 |p::P,w::vs,0,m,nd,h1,h2,hk=>by
  simp at h1 h2;subst h1;subst h2;show bindL kindOf ((p,w)::P.zip vs) m p=_;unfold bindL;rw[GI λv hv=>(cL.mp nd).1 (lD hv).1,aF hk];simp
 |p::P,w::vs,i+1,m,nd,h1,h2,hk=>by
  show bindL kindOf ((p,w)::P.zip vs) m x=_;unfold bindL;exact GH (i:=i) (cL.mp nd).2 (by simpa using h1) (by simpa using h2) hk
theorem GF{kindOf:Str->Option NameKind}{x:Str}{v:Value}:∀{P:List Str} {vs:List Value} {i:Nat} {m:Str->Option Value},P.Nodup->P[i]?=some x->vs[i]?=some v->kindOf x≠some .local ->
  bindC kindOf (P.zip vs) m x=some v
 |[],_,_,_,_,h,_,_=>by simp at h
 |_::_,[],_,_,_,_,h,_=>by simp at h
 |p::P,w::vs,0,m,nd,h1,h2,hk=>by
  simp at h1 h2;subst h1;subst h2;show bindC kindOf ((p,w)::P.zip vs) m p=_;unfold bindC;rw[GG λv hv=>(cL.mp nd).1 (lD hv).1,az hk];simp
 |p::P,w::vs,i+1,m,nd,h1,h2,hk=>by
  show bindC kindOf ((p,w)::P.zip vs) m x=_;unfold bindC;exact GF (i:=i) (cL.mp nd).2 (by simpa using h1) (by simpa using h2) hk
noncomputable def start(N:List Str)(vs:List V):St:=vs.map some++List.replicate (N.length-vs.length) none
noncomputable def nH(CX:mI)(P:Program)(w:World)(K:PySem.W.Frag)(mg:Str->Option Value)(base:Heap)(N:List Str)(qual:Str)(scope:Scope)(f:Addr)(cd:Value)(A:Around)(outer:List Env)(s:Shared)(H:Hp)(E:XK):Cx where
 prog:=P
 w:=w
 K:=K
 mg:=mg
 base:=base
 A:=A.deeper (envOfC qual scope s.heap.objs.size f cd)
 N:=N
 cU:=s
 iN:=H
 env:=envOfC qual scope s.heap.objs.size f cd
 outer:=outer
 stack:=envOfC qual scope s.heap.objs.size f cd::outer
 ex:=[]
 calm:=true
 fn:=λ_=>true
 pn:=[]
 xe:=λe s'=>wpAny (model P w) (A.deeper (envOfC qual scope s.heap.objs.size f cd)) (leaving (envOfC qual scope s.heap.objs.size f cd) e) (λ_ mX=>CX outer H s E e mX) (λe' mX=>CX outer H s E e' mX) s'
theorem Bt{sc:Scope}{n:Nat}{x:Str}(h:sc.names.lookup x=some .cell):∃c,(cellsFrom n sc.names []).lookup x=some c:=by
 have q:=dg sc.names n [] (.inl h);exact dP.mp q
theorem XU{CX:mI}{P:Program}{w:World}{K:PySem.W.Frag}{mg:Str->Option Value}{base:Heap}{N ps:List Str}{qual:Str}{scope:Scope}{f:Addr}{cd:Value}{A:Around}{outer:List Env}{s s1:Shared}{H:Hp}{E:XK}{us:List Value}{vs:List V}(S:hZ N ps scope)(hd:A.handled=none)(e0:qw P w K mg base A outer s H)(hl:vs.length=ps.length)(r:Vals vs us)(x:InCallC s s.heap.objs.size (bindL (envOfC qual scope s.heap.objs.size f cd).kindOf (ps.zip us) λ_=>none) (cellsFrom (s.heap.objs.size+1) scope.names []) (bindC (envOfC qual scope s.heap.objs.size f cd).kindOf (ps.zip us) λ_=>none) s1) :
  Inv (nH CX P w K mg base N qual scope f cd A outer s H E) [] (start N vs) H s1:=by
 have fS:ps.length<=N.length:=by have:=fI List.length S.pre;rw[cX] at this;omega
 obtain⟨h1,tk,rfl,hk⟩:=x.done;have tB:∀b:Addr,b∉(nH CX P w K mg base N qual scope f cd A outer s H E).ex:=λb z=>absurd (show b∈([]:List Addr) from z) (by simp);refine ⟨⟨e0.mod,S.kind,rfl,rfl,av _,λy z c h1 h2=>?_,λy hy=>?_,λy c _ h=>?_,λ_=>hd,Around.frames_deeper e0.frames,.inr ⟨rfl,rfl⟩,λb z=>absurd z (tB b),e0.bs,e0.mR,λb _ _=>tB b,λb z=>absurd z (tB b),e0.L3,e0.nA⟩,
  rfl,e0.bare,Un.kept hk,⟨_,x.toInCall.ns,λi y v h1 h2 h3=>?_⟩,λy c h=>⟨_,x.cell y c h⟩,e0.bE.fresh (av _),λy c h=>?_,λp hp=>absurd (show p ∈ ([]:List (Addr × Obj)) from hp) (by simp),e0.bE.kept hk,?_⟩
 ·exact name_of_addr x.apart (aM h1) (aM h2)
 ·have hy:scope.names.lookup y=some .cell\/scope.names.lookup y=some .free:=hy;rcases hy with hy|hy
  ·exact Bt hy
  ·exact absurd rfl (S.lP _ (aM hy))
 ·exact dE (x.above y c (aM h))
 ·have hi:i<vs.length:=by
   unfold start at h2;by_cases hi:i<vs.length
   ·exact hi
   ·rw[bu (by simpa using hi)] at h2;rw[cZ] at h2;split at h2<;>cases h2
  have ha:vs[i]?=some v:=by
   unfold start at h2;rw[aA (by simpa using hi),ak] at h2;cases e:vs[i]? with
   |none=>rw[e] at h2;cases h2
   |some a=>rw[e] at h2;cases h2;rfl
  obtain⟨u,hu,rv⟩:=r.get ha;have hp:ps[i]?=some y:=by
   rw[<- S.pre,cT (by omega)];exact h1
  have DW:ps.Nodup:=by rw[<- S.pre];exact S.nd.sublist (List.take_sublist _ _)
  refine⟨u,rv,?_⟩;rcases S.par y (aP hp) with k|k
  ·exact .inl ⟨k,GH DW hp hu k⟩
  ·obtain⟨c,e⟩:=Bt (n:=s.heap.objs.size+1) k;refine .inr ⟨.inl k,c,e,?_⟩;have q:=x.cell y c e;rw[GF DW hp hu (by show scope.names.lookup y≠_;rw[k];decide)] at q;exact q
 ·exact e0.bE.fresh (dE (x.above y c (aM h)))
 ·unfold start;show _=N.length;rw[bc,ag,ij];omega
theorem VG{CX:mI}{P:Program}{w:World}{K:PySem.W.Frag}{mg:Str->Option Value}{base:Heap}{k:Nat}{f:Addr}{name qual:Str}{params:Arguments}{body:List Stmt}{scope:Scope}{dV kV doc pm fi ct oc:Value}{an od:Option Addr}{lp:Array (Option Value)}{N ps:List Str}{sp:Sp}(lk:K.lookup f=some ⟨oc,od,.func (PySem.W.fnOf name qual params body scope dV kV doc pm an fi ct),lp⟩)(ka:PySem.W.codeIn K fi qual=true)(S:hZ N ps scope)(len:∀vs H Q E,sp vs H Q E->vs.length=ps.length)(ui:∀ (A:Around) (outer:List Env) (s:Shared) (H:Hp) (vs:List V) (Q:VK) (E:XK),v9 k (A.deeper (envOfC qual scope s.heap.objs.size f fi))->sp vs H Q E ->
   ∃ t,iR (nH CX P w K mg base N qual scope f fi A outer s H E) body t/\t { nx:=λ_ H'=>Q .bD H',rt:=Q } (start N vs) H) :
  gY P w K mg base CX (k+1) f (PySem.W.fnOf name qual params body scope dV kV doc pm an fi ct) ps sp:=by
 refine⟨len,λA outer s H args us vs Q E hr e0 hb r qY=>?_⟩;have hl:=len _ _ _ _ qY;have KX:K.In s.heap:=e0.mod.mM.keeps λb o e=>(e0.bs b o e).1;have lim:s.heap.NoLimit:=e0.mod.nolimit.keeps λb o e=>(e0.bs b o e).1;have ua:∀y∈ps.zip us,scope.names.lookup y.1=some .local\/(scope.names.lookup y.1=some .cell/\((cellsFrom (s.heap.objs.size+1) scope.names []).lookup y.1).isSome=true):=λ⟨n,v⟩ hy=>by
  rcases S.par n (lD hy).1 with q|q
  ·exact .inl q
  ·exact .inr ⟨q,dg _ _ _ (.inl q)⟩
 refine codeAny_call_function hr.depth (KX _ _ lk) rfl S.co S.gen rfl (PySem.W.codeRec_of KX ka) (hb _ _ _ _ ?_);refine wpAny_newFunctionEnv_cells S.kind ua λenv he s1 x=>?_;subst he;refine⟨lim.keeps x.toInCall.keep,codeAny_func ?_⟩;obtain⟨t,ht,hq⟩:=ui A outer s H vs Q E (hr.deeper _) qY;have I:Inv (nH CX P w K mg base N qual scope f fi A outer s H E) [] (start N vs) H s1:=XU S hr.hd e0 hl r x;refine bx (ht [] s1 (start N vs) H _ I hq) (λfl s' hs=>?_) λe s' hs=>hs;have fin:∀{bN:St} {H':Hp} {v:V} {u:Value},Inv (nH CX P w K mg base N qual scope f fi A outer s H E) [] bN H' s'->RelV v u->Q v H'->CE outer P w H s Q u s' :=
  λ{bN H' v u} J rv q=>⟨v,H',J.os,J.bare,J.base,J.bE,rv,q⟩
 cases fl with
 |ret u =>
  obtain⟨v,bN,H',J,rv,q⟩:=hs;exact fin J rv q
 |next =>
  obtain⟨bN,H',J,q⟩:=hs;exact fin (v:=V.bD) (u:=Value.none) J rfl q
 |brk =>
  obtain⟨_,_,_,q⟩:=hs;exact False.elim q
 |cont =>
  obtain⟨_,_,_,q⟩:=hs;exact False.elim q
end L2
namespace L2
open PySem PySem.Spec PyProof.Rows
section
variable{X:Cx}{x:Str}{p pos:Pos}{e:Expr}{es:List Expr}{t:TA}{id T:String}{r:List V->Hp->VK->Prop}
noncomputable def yD(r:List V->Hp->VK->Prop)(t:TA):TE:=λZ H Q=>t Z H λvs H1=>r vs H1 Q
theorem Y9(hc:m8 X (.builtin id) r)(hg:Gl X x)(hm:X.mg x=none)(hv:bootBuiltins x=some (.builtin id))(ha:PA X (e::es) t)(hn:x≠"__name__":=by decide)(hX:(x==("__debug__":Str))=false:=by decide)(he:starEach (e::es) X.env=(false,eval e X.env)::starEach es X.env:=by rfl)(fS:(backTo pos (starEach es X.env)).any (·.1)=false:=by rfl):PE X (.Call (.Name x p) (e::es) [] pos) (yD r t):=by
 intro pins s Z H Q I h;refine cM (K9 I hg hm hv ?_ hn hX);exact PyProof.Rows.callWith_builtin1 (cy (ha pos pins s Z H _ I h) λus s1 ⟨vs,H1,I1,r1,q1⟩=>hc pins s1 Z H1 vs us Q I1 r1 q1) he fS
theorem N8(hc:m8 X (.type T) r)(hg:Gl X x)(hm:X.mg x=none)(hv:bootBuiltins x=some (.type T))(ha:PA X (e::es) t)(hn:x≠"__name__":=by decide)(hX:(x==("__debug__":Str))=false:=by decide)(he:starEach (e::es) X.env=(false,eval e X.env)::starEach es X.env:=by rfl)(fS:(backTo pos (starEach es X.env)).any (·.1)=false:=by rfl):PE X (.Call (.Name x p) (e::es) [] pos) (yD r t):=by
 intro pins s Z H Q I h;refine cM (K9 I hg hm hv ?_ hn hX);exact bB (cy (ha pos pins s Z H _ I h) λus s1 ⟨vs,H1,I1,r1,q1⟩=>hc pins s1 Z H1 vs us Q I1 r1 q1) he fS
end
end L2

namespace HT
open PySem PyProof.Rows
section
open PySem.SeqAt
open PySem.AutoSeq1 (wpAny_loadPart')
open PySem.MeetsSeq PySem.MeetsSeq2 PySem.MeetsSeq3
end
section
variable{prog:Program}{w:World}{A:Around}{E:Value->Shared->Prop}{s:Shared}
theorem RH{t b:Addr}{vs ws:List Value}{Q:Value->Shared->Prop}(ht:IsTup s.heap t vs.toArray)(hb:IsTup s.heap b ws.toArray)(hv:vs≠[])(h1:ws=[]->Q (.ref t) s)(h2:ws≠[]->Q (.ref s.heap.objs.size) { s with heap:=s.heap.push { cls:=.type "tuple",data:=.seq (vs++ws).toArray } })(hsz:vs.length+ws.length<=sizeLine):wpAny (model prog w) A (binaryOp .Add (.ref t) (.ref b)) Q E s:=by
 obtain⟨⟨cls,dd,data,sl⟩,ho,hc,n,hd⟩:=id ht;obtain⟨⟨uR,oK,data2,kh⟩,jY,mx,n2,hd2⟩:=id hb;simp only at hc hd mx hd2;subst hc hd mx hd2;have e:vs.toArray++ws.toArray=(vs++ws).toArray:=by simp
 by_cases hw:ws=[]
 ·exact concat_meets ⟨_,ho,rfl⟩ ⟨_,jY,rfl⟩ iJ kT gR gE (gg _ _)
   (tuple_addW1 t b vs.toArray ws.toArray n n2 dd oK sl kh (by simpa using hv) (by simp[hw])) ⟨ho,jY,h1 hw⟩
 ·refine concat_meets ⟨_,ho,rfl⟩ ⟨_,jY,rfl⟩ iJ kT gR gE (gg _ _)
   (tuple_addW2 t b vs.toArray ws.toArray n n2 dd oK sl kh (by simpa using hv) (by simpa using hw) (by rw[aE,aE];exact hsz)) ⟨ho,jY,?_⟩
  rw[e];exact h2 hw
noncomputable def de(n d:Nat):Option Int->Nat
 |none=>d
 |some v=>if v<0 then(v+(n:Int)).toNat else min v.toNat n
theorem Qz(n d:Nat)(hd:d<=n)(o:Option Int):de n d o<=n:=by
 cases o with
 |none=>exact hd
 |some v =>
  show(if v<0 then(v+(n:Int)).toNat else min v.toNat n)<=n;by_cases hv:v<0
  ·rw[aF hv];omega
  ·rw[az hv];exact Nat.min_le_right _ _
theorem IF(v:Int)(n d:Nat):(if v<0 then max (v+(n:Int)) 0 else min v (n:Int))=((de n d (some v):Nat):Int):=by
 show(if v<0 then max (v+(n:Int)) 0 else min v (n:Int))=(((if v<0 then(v+(n:Int)).toNat else min v.toNat n):Nat):Int);by_cases hv:v<0
 ·simp only[if_pos hv];omega
 ·simp only[if_neg hv];omega
theorem YI(lo hi:Option Int)(n:Nat):Builtin.Slice.sliceAdjust lo hi 1 (n:Int)=(((de n 0 lo:Nat):Int),((de n n hi:Nat):Int)):=by
 have h1:¬((1:Int)<0):=by omega
 unfold Builtin.Slice.sliceAdjust;simp only[h1,if_false];refine Prod.ext ?_ ?_
 ·cases lo with
  |none=>rfl
  |some v=>exact IF v n 0
 ·cases hi with
  |none=>rfl
  |some v=>exact IF v n n
theorem Zm(i j:Nat):Builtin.Slice.slicePlaces (i:Int) (j:Int) 1=j-i:=by
 unfold Builtin.Slice.slicePlaces;have h1:(1:Int)>0:=by omega
 simp only[h1,if_true,Int.ediv_one];split<;>omega
theorem HB{v:Value}{o:Option Int}{Q:Option Int->Shared->Prop}(p:IsPart v o)(h:Q o s):wpAny (model prog w) A (Builtin.Slice.slicePartIndex v) Q E s:=by
 cases p with
 |none=>exact slicePart_none h
 |int i t=>exact slicePart_int h
theorem Q7{sl:Addr}{vl vu:Value}{lo hi:Option Int}{n:Nat}{Q:Int×Int×Nat->Shared->Prop}(hs:s.heap.IsSliceOf sl vl vu .none)(pl:IsPart vl lo)(pu:IsPart vu hi)(h:Q (((de n 0 lo:Nat):Int),1,de n n hi-de n 0 lo) s):wpAny (model prog w) A (Builtin.Slice.sliceApplied (.ref sl) (pure (n:Int))) Q E s:=by
 obtain⟨os,pP,wy,uf⟩:=id hs;unfold Builtin.Slice.sliceApplied Builtin.Slice.sliceFields;refine ae (ae (jM pP uf (x:=vl) rfl (ae (jM pP uf (x:=vu) rfl (ae (jM pP uf (x:=.none) rfl (ao ?_)))))));refine ae (slicePart_none ?_);show wpAny _ _ (if((1:Int)==0)=true then _ else _) _ _ s;rw[az (by decide)];refine ae (HB pl (ae (HB pu (ae (ao ?_)))));show wpAny _ _ (match Builtin.Slice.sliceAdjust lo hi 1 (n:Int) with|(lo,hi)=>pure (lo,(1:Int),Builtin.Slice.slicePlaces lo hi 1)) _ _ s;rw[YI lo hi n];show wpAny _ _ (pure (((de n 0 lo:Nat):Int),(1:Int),Builtin.Slice.slicePlaces ((de n 0 lo:Nat):Int) ((de n n hi:Nat):Int) 1)) _ _ s;rw[Zm];exact ao h
theorem a24(xs:Array Value)(i k:Nat):((List.range k).filterMap λ(m:Nat)=>xs[((i:Int)+(m:Int)*1).toNat]?).toArray=((xs.toList.drop i).take k).toArray:=by
 have e:(λ(m:Nat)=>xs[((i:Int)+(m:Int)*1).toNat]?)=λm=>xs[i+m]?:=by
  funext m
  have:((i:Int)+(m:Int)*1).toNat=i+m:=by omega
  rw[this]
 rw[e];have:=pick_run xs i k;rw[List.filterMap_map] at this;have e2:((λx=>xs[x]?) ∘ λx=>i+x)=λm=>xs[i+m]?:=rfl;rw[e2] at this;rw[this]
theorem Xd{t sl:Addr}{items:Array Value}{vl vu:Value}{lo hi:Option Int}{Q:Value->Shared->Prop}(ht:IsTup s.heap t items)(hs:s.heap.IsSliceOf sl vl vu .none)(pl:IsPart vl lo)(pu:IsPart vu hi)(hw:¬(de items.size 0 lo=0/\de items.size items.size hi=items.size))(h:Q (.ref s.heap.objs.size) { s with heap:=s.heap.push { cls:=.type "tuple",data:=.seq ((items.toList.drop (de items.size 0 lo)).take (de items.size items.size hi-de items.size 0 lo)).toArray } })(hsz:items.size<=sizeLine):wpAny (model prog w) A (getItem (.ref t) (.ref sl)) Q E s:=by
 have kj:sizeOk (.seq ((items.toList.drop (de items.size 0 lo)).take (de items.size items.size hi-de items.size 0 lo)).toArray):=by
  show((items.toList.drop (de items.size 0 lo)).take (de items.size items.size hi-de items.size 0 lo)).toArray.size<=sizeLine;rw[aE,cX,kD,bt];omega
 have hj:de items.size items.size hi<=items.size:=Qz _ _ (av _) hi;obtain⟨os,pP,wy,uf⟩:=id hs;have zS:s.TypeIs (.ref sl) "slice":=⟨os,pP,wy⟩
 unfold getItem
 try with_reducible refine cg ?_
 first|refine ae (ao ?_)|skip
 refine ae (wpAny_sequenceKey ht.typeIs (by decide) ?_);refine ae (eU (name:=Str.ofString "__getitem__") ht.typeIs bG
  (cC bG ht.typeIs entry_tuple_getitem ?_ (args_tuple_getitem _ _)))
 show wpAny _ _ (Builtin.Tuple.tupleItemsOf (.ref t) >>= _) _ _ s;refine ae (tupleItemsOf_ ht ?_);refine ae (eh zS ?_);rw[aF (by decide)];refine ae (Q7 hs pl pu ?_);have oq:¬((((de items.size 0 lo:Nat):Int)==0&&(1:Int)==1&&(de items.size items.size hi-de items.size 0 lo)==items.size)=true):=by
  intro q;rw[aU,aU] at q;have q1:((de items.size 0 lo:Nat):Int)=0:=eq_of_beq q.1.1;have q2:de items.size items.size hi-de items.size 0 lo=items.size:=eq_of_beq q.2;exact hw ⟨by omega,by omega⟩
 show wpAny _ _ (if(((de items.size 0 lo:Nat):Int)==0&&(1:Int)==1&&(de items.size items.size hi-de items.size 0 lo)==items.size)=true then _ else _) _ _ s;rw[az oq,a24]
 first
  |exact wpAny_bind (m:=Builtin.Tuple.tupleExact _) (wpAny_newObj_type (wpAny_pure ⟨_,rfl,wpAny_pure h⟩) kj)
  |exact wpAny_bind (m:=Builtin.Tuple.tupleExact _) (wpAny_newObj_type (wpAny_bind (wpAny_pure (wpAny_pure ⟨_,rfl,wpAny_pure h⟩))) kj)
  |exact wpAny_bind (wpAny_bind (m:=Builtin.Tuple.tupleExact _) (wpAny_newObj_type (wpAny_pure (wpAny_pure ⟨_,rfl,wpAny_pure h⟩)) kj))
  |exact wpAny_bind (wpAny_bind (m:=Builtin.Tuple.tupleExact _) (wpAny_newObj_type (wpAny_pure ⟨_,rfl,wpAny_pure h⟩) kj))
end
end HT
namespace L2
open PySem PySem.Spec PyProof.Rows
noncomputable abbrev TO:=St->Hp->(Option Int->Hp->Prop)->Prop
noncomputable def PO(X:Cx)(e:Option Expr)(t:TO):Prop :=
 ∀(pins:List (Addr×Obj)) (s:Shared) (Z:St) (H:Hp) (Q:Option Int->Hp->Prop),Inv X pins Z H s->t Z H Q ->
  wpAny (model X.prog X.w) X.A (evalPart e X.env) (λu s'=>∃o H',Inv X pins Z H' s'/\IsPart u o/\Q o H') X.xe s
noncomputable def Tw:TO:=λ_ H Q=>Q none H
noncomputable def Ou(t:TE):TO:=λZ H Q=>t Z H λx H1=>∃i,x=.int i/\Q (some i) H1
section
variable{X:Cx}{e:Expr}{te:TE}{lo hi:Option Expr}{tl th:TO}{pos p2:Pos}
theorem xP:PO X none Tw:=by
 intro pins s Z H Q I h;rw[evalPart_none];exact ao ⟨none,H,I,.none,h⟩
theorem IY(h:PE X e te):PO X (some e) (Ou te):=by
 intro pins s Z H Q I hw;rw[evalPart_some];refine cy (h pins s Z H _ I hw) λu s1 ⟨x,H1,I1,r1,q1⟩=>?_;obtain⟨i,rfl,q⟩:=q1;obtain⟨t,rfl⟩:=r1;exact⟨some i,H1,I1,.int i t,q⟩
noncomputable def vy(X:Cx)(r:V->Option Int->Option Int->Hp->VK->Prop):Prop :=
 ∀(pins:List (Addr×Obj)) (s:Shared) (Z:St) (H:Hp) (x:V) (v vl vu:Value) (lo hi:Option Int) (sl:Addr) (Q:VK),Inv X pins Z H s->RelV x v->s.heap.IsSliceOf sl vl vu .none->IsPart vl lo->IsPart vu hi->r x lo hi H Q ->
  ∃T id,typeLookup (.type T) "__getitem__"=pure (some (.builtin id))/\s.TypeIs v T/\wpAny (model X.prog X.w) X.A (getItem v (.ref sl)) (EP X pins Z Q) X.xe s
noncomputable def KL(r:V->Option Int->Option Int->Hp->VK->Prop)(te:TE)(tl th:TO):TE:=λZ H Q=>te Z H λx H1=>tl Z H1 λl H2=>th Z H2 λu H3=>r x l u H3 Q
theorem BA{r:V->Option Int->Option Int->Hp->VK->Prop}(hr:vy X r)(he:PE X e te)(hl:PO X lo tl)(hu:PO X hi th):PE X (.Subscript e (.Slice lo hi none p2) pos) (KL r te tl th):=by
 intro pins s Z H Q I h;refine Subscript_ (cy (he pins s Z H _ I h) λv s1 ⟨x,H1,I1,r1,q1⟩=>?_);refine wpAny_Slice (cy (hl pins s1 Z H1 _ I1 q1) λvl s2 ⟨l,H2,I2,pl,q2⟩=>cy (hu pins s2 Z H2 _ I2 q2) λvu s3 ⟨u,H3,I3,pu,q3⟩=>?_);rw[evalPart_none];refine ao ?_;have I4:Inv X pins Z H3 { s3 with heap:=s3.heap.push { cls:=.type "slice",data:=.fields #[vl,vu,.none] } }:=I3.kept (t':=s3.toks) λb ob q=>au _ q;obtain⟨T,id,hT,ht,hg⟩:=hr pins { s3 with heap:=s3.heap.push { cls:=.type "slice",data:=.fields #[vl,vu,.none] } } Z H3 x v vl vu l u s3.heap.objs.size Q I4 r1 (Heap.IsSliceOf.new ..) pl pu q3;show wpAny (model X.prog X.w) X.A (subscriptTail e (.Slice lo hi none p2) v (.ref s3.heap.objs.size)) (EP X pins Z Q) X.xe { s3 with heap:=s3.heap.push { cls:=.type "slice",data:=.fields #[vl,vu,.none] } };exact tail_any (ops:=[.ref s3.heap.objs.size,v]) ht hT hg (by with_unfolding_all rfl)
noncomputable def S7(xs:List V)(lo hi:Option Int):List V:=(xs.drop (HT.de xs.length 0 lo)).take (HT.de xs.length xs.length hi-HT.de xs.length 0 lo)
theorem HE(xs:List V)(lo hi:Option Int):(S7 xs lo hi).length<=xs.length:=by
 unfold S7;rw[cX,kD];omega
noncomputable def UO(K:PySem.W.Frag):V->Option Int->Option Int->Hp->VK->Prop:=λx lo hi H Q=>∃a xs,x=.ref a/\gX K H a xs /\
 ¬(HT.de xs.length 0 lo=0/\HT.de xs.length xs.length hi=xs.length)/\∀p,H p=none->Q (.ref p) (upd H p (.tup (S7 xs lo hi)))
theorem QQ:vy X (UO X.K):=by
 intro pins s Z H x v vl vu lo hi sl Q I rx hs pl pu h;obtain⟨a,xs,rfl,hx,hw,q⟩:=h;cases rx;obtain⟨aT,r,ht,hz⟩:=I.tuple hx;have hlen:aT.toArray.size=xs.length:=by rw[aE];exact r.length.symm
 refine⟨"tuple",_,bG.lookup,ht.typeIs,?_⟩;refine HT.Xd ht hs pl pu (by rw[hlen];exact hw) ?_ (by rw[hlen];exact hz);rw[hlen];refine⟨.ref s.heap.objs.size,_,I.laid (t':=s.toks) (o:=.tup (S7 xs lo hi)) (λb ob q=>au _ q) (av _) ?_,rfl,q _ (I.bE.fresh (av _))⟩;exact⟨aG (HE xs lo hi) hz,_,(r.drop (HT.de xs.length 0 lo)).take (HT.de xs.length xs.length hi-HT.de xs.length 0 lo),I9.new _ _⟩
noncomputable def Wz(K:PySem.W.Frag):R2:=λx y H Q=>∃a b xs ys,x=.ref a/\y=.ref b/\gX K H a xs/\gX K H b ys/\xs≠[]/\xs.length+ys.length<=sizeLine /\
 (ys=[]->Q (.ref a) H)/\(ys≠[]->∀p,H p=none->Q (.ref p) (upd H p (.tup (xs++ys))))
theorem Vals.P8{xs:List V}{us:List Value}(r:Vals xs us):us=[]↔xs=[]:=by
 cases r with
 |nil=>simp
 |cons _ _=>simp
theorem Sq:fc X (binaryOp .Add) (Wz X.K):=by
 intro pins s Z H x y v u Q I rx ry h;obtain⟨a,b,xs,ys,rfl,rfl,ha,hb,hx,hz,q1,q2⟩:=h;cases rx;cases ry;obtain⟨aT,r1,p1,_⟩:=I.tuple ha;obtain⟨lS,r2,p2,_⟩:=I.tuple hb;refine HT.RH p1 p2 (λz=>hx (r1.P8.mp z)) (λz=>⟨.ref a,H,I,rfl,q1 (r2.P8.mp z)⟩) (λz=>?_) (by rw[<- r1.length,<- r2.length];exact hz);refine⟨.ref s.heap.objs.size,_,I.laid (t':=s.toks) (o:=.tup (xs++ys)) (λb ob q=>au _ q) (av _) ?_,rfl,q2 (λw=>z (r2.P8.mpr w)) _ (I.bE.fresh (av _))⟩;exact⟨by rw[bc];exact hz,_,r1.append r2,I9.new _ _⟩
end
end L2
namespace L2
open PySem PySem.Spec PyProof.Rows
noncomputable def jW(n:Nat)(i:Int):Option Nat:=if 0<=i then(if i<n then some i.toNat else none) else if -(n:Int)<=i then some (i+n).toNat else none
noncomputable def fR{α:Type}(xs:List α)(i:Int):Option α:=(jW xs.length i).bind λj=>xs[j]?
theorem IP{n:Nat}{i:Int}{j:Nat}(h:jW n i=some j):seqIndex? i n=some j/\j<n/\-(n:Int)<=i/\i<n:=by
 unfold jW at h;by_cases h0:0<=i
 ·rw[aF h0] at h;by_cases h1:i<n
  ·rw[aF h1] at h;have e:i.toNat=j:=aI h;exact⟨by rw[seqIndex_of h0 h1,e],by omega,by omega,h1⟩
  ·rw[az h1] at h;cases h
 ·rw[az h0] at h;by_cases h1:-(n:Int)<=i
  ·rw[aF h1] at h;have e:(i+n).toNat=j:=aI h;exact⟨by rw[seqIndex_neg (by omega) h1,e],by omega,h1,by omega⟩
  ·rw[az h1] at h;cases h
theorem Be{α:Type}{xs:List α}{i:Int}{v:α}(h:fR xs i=some v):∃j,seqIndex? i xs.length=some j/\xs[j]?=some v/\j<xs.length/\-(xs.length:Int)<=i/\i<xs.length:=by
 unfold fR at h;cases e:jW xs.length i with
 |none=>rw[e] at h;cases h
 |some j =>
  rw[e] at h;obtain⟨h1,h2,h3,h4⟩:=IP e;exact⟨j,h1,h,h2,h3,h4⟩
theorem F8{α:Type}{xs:List α}{j:Nat}{v:α}(h:xs[j]?=some v):fR xs (j:Int)=some v:=by
 have hj:j<xs.length:=(aj.mp h).1;have e:jW xs.length (j:Int)=some j:=by
  unfold jW;rw[aF (by omega),aF (by omega)];simp
 unfold fR;rw[e];exact h
noncomputable def AZ(b:Expr):Prop:=∀o i,subscripted b false o i=operate [o,i] (getItem o i)
noncomputable def qI(X:Cx)(r:R2):Prop :=
 ∀(value slice:Expr) (pins:List (Addr×Obj)) (s:Shared) (Z:St) (H:Hp) (x y:V) (v u:Value) (Q:VK),Inv X pins Z H s->RelV x v->RelV y u->r x y H Q ->
  subscripted slice false v u=operate [v,u] (getItem v u)->wpAny (model X.prog X.w) X.A (subscriptTail value slice v u) (EP X pins Z Q) X.xe s
noncomputable def mH(X:Cx)(id:String)(r:V->List V->Hp->VK->Prop):Prop :=
 ∀(pins:List (Addr×Obj)) (s:Shared) (Z:St) (H:Hp) (x:V) (xs:List V) (v:Value) (us:List Value) (Q:VK),Inv X pins Z H s->RelV x v->Vals xs us->r x xs H Q ->
  wpAny (model X.prog X.w) X.A (call (.builtin id) (v::us)) (EP X pins Z Q) X.xe s
section
variable{X:Cx}{a b:Expr}{ta tb:TE}{pos:Pos}
theorem JK{r:R2}(hr:qI X r)(ha:PE X a ta)(hb:PE X b tb)(hs:AZ b):PE X (.Subscript a b pos) (qP r ta tb):=by
 intro pins s Z H Q I h;exact Subscript_ (CU ha hb I h λv u s2 x y H2 I2 rx ry q=>hr a b pins s2 Z H2 x y v u Q I2 rx ry q (hs _ _))
noncomputable def UI(K:PySem.W.Frag):R2:=λx y H Q=>∃p xs i v,x=.ref p/\y=.int i/\fm K H p xs/\fR xs i=some v/\Q v H
noncomputable def UK(K:PySem.W.Frag):R2:=λx y H Q=>∃p xs i v,x=.ref p/\y=.int i/\gX K H p xs/\fR xs i=some v/\Q v H
noncomputable def UJ:R2:=λx y H Q=>∃z i c,x=.str z/\y=.int i/\z.length<=sizeLine/\fR z.cps.toList i=some c/\Q (.str ⟨#[c]⟩) H
theorem Sa:qI X (UI X.K):=by
 intro value slice pins s Z H x y v u Q I rx ry h hs;obtain⟨p,xs,i,z,rfl,rfl,hq,he,q⟩:=h;cases rx;obtain⟨t,rfl⟩:=ry;obtain⟨aT,r,pl,hz⟩:=I.list hq;obtain⟨j,h1,h2,h3,h4,h5⟩:=Be he;obtain⟨w,ew,fz⟩:=r.get h2;have hl:=r.length;have hn:=R8;have fin:EP X pins Z Q w s:=⟨z,H,I,fz,q⟩
 by_cases h0:0<=i
 ·have hj:i.toNat=j:=by
   rw[seqIndex_of h0 h5] at h1;exact aI h1
  exact item_listR pl.isList h0 (by omega) (by rw[hj];simpa using ew) fin hs
 ·have hj:(i+(aT.toArray.size:Int)).toNat=j:=by
   rw[seqIndex_neg (by omega) h4] at h1;rw[aE,<- hl];exact aI h1
  exact subscriptTail_builtinR (x:=w) pl.isList.typeIs slot_list_getitem.lookup
   (wpAny_getItem_list_neg (Q:=λr s'=>r=w/\EP X pins Z Q r s') pl.isList (by omega) (by rw[aE]<;>omega) (by omega) (by rw[hj];simpa using ew) ⟨rfl,fin⟩) hs
theorem Pb:qI X (UK X.K):=by
 intro value slice pins s Z H x y v u Q I rx ry h hs;obtain⟨p,xs,i,z,rfl,rfl,hq,he,q⟩:=h;cases rx;obtain⟨t,rfl⟩:=ry;obtain⟨aT,r,pl,hz⟩:=I.tuple hq;obtain⟨j,h1,h2,h3,h4,h5⟩:=Be he;obtain⟨w,ew,fz⟩:=r.get h2;have hl:=r.length;have hn:=R8;have fin:EP X pins Z Q w s:=⟨z,H,I,fz,q⟩
 exact subscriptTail_builtinR (x:=w) pl.typeIs slot_tuple_getitem.lookup
  (getItem_tuple (j:=j) (Q:=λr s'=>r=w/\EP X pins Z Q r s') pl (by omega) (by omega) (by rw[aE,<- hl];exact h1) (by simpa using ew) ⟨rfl,fin⟩) hs
theorem Pa:qI X UJ:=by
 intro value slice pins s Z H x y v u Q I rx ry h hs;obtain⟨z,i,c,rfl,rfl,hz,he,q⟩:=h;obtain⟨t,rfl⟩:=rx;obtain⟨t',rfl⟩:=ry;obtain⟨j,h1,h2,h3,h4,h5⟩:=Be he;have hl:z.cps.toList.length=z.length:=by simp[Str.length]
 rw[hl] at h1 h4 h5;have hn:=R8;exact tail_any (typeIs_str s z t) slot_str_getitem.lookup (getItem_str (c:=c) (by
  have e1:decide (i < -(2 ^ 63:Int))=false:=aB (by omega);have e2:decide (i>=2 ^ 63)=false:=aB (by omega);rw [e1,e2,Bool.or_false]) (by rw [h1];simpa using h2) ⟨.str ⟨#[c]⟩,H,I.tok _,⟨_,rfl⟩,q⟩) hs
theorem Zf(aT:List Value)(n j:Nat)(u:Value):Obj.mapSeq (·.setIfInBounds j u) { cls:=.type "list",data:=.seq aT.toArray n }={ cls:=.type "list",data:=.seq (aT.set j u).toArray n }:=by
 simp[Obj.mapSeq]
theorem Inv.lst{pins:List (Addr×Obj)}{Z:St}{H:Hp}{s:Shared}{p:Addr}{xs:List V}(I:Inv X pins Z H s)(h:H p=some (.lst xs)) :
  ∃(aT:List Value) (n:Nat),Vals xs aT/\s.heap.get? p=some { cls:=.type "list",data:=.seq aT.toArray n }/\xs.length<=sizeLine:=by
 obtain⟨z,aT,n,r,e⟩:=I.bE p _ h;exact⟨aT,n,r,e,z⟩
theorem Inv.Po{pins:List (Addr×Obj)}{Z:St}{H:Hp}{s:Shared}{p:Addr}{xs ys:List V}{aT its':List Value}{n n':Nat}{f:Obj->Obj}(I:Inv X pins Z H s)(h:H p=some (.lst xs))(ho:s.heap.get? p=some { cls:=.type "list",data:=.seq aT.toArray n })(hf:f { cls:=.type "list",data:=.seq aT.toArray n }={ cls:=.type "list",data:=.seq its'.toArray n' })(r:Vals ys its')(hz:ys.length<=sizeLine)(t:Nat) :
  Inv X pins Z (upd H p (.lst ys)) { s with heap:=s.heap.update p f,toks:=t }:=by
 have e:(s.heap.update p f).get? p=some { cls:=.type "list",data:=.seq its'.toArray n' }:=by
  rw[aY f ho (by rw[hf]<;>rfl),hf]
 refine I.write (x:=p) (e:=p) (by rw[h];trivial) (.inl rfl) (λb u hb q=>(bV _ _ (bC hb)).trans q) ⟨_,e⟩ ?_;exact⟨hz,its',n',r,e⟩
noncomputable def WC:V->V->V->Hp->(Hp->Prop)->Prop:=λo i v H Q=>∃p xs k j,o=.ref p/\i=.int k/\H p=some (.lst xs)/\jW xs.length k=some j/\Q (upd H p (.lst (xs.set j v)))
theorem set_list:CP X WC:=by
 intro pins s Z H o i v ov iv u Q I ro ri rv h;obtain⟨p,xs,k,j,rfl,rfl,hp,hj,q⟩:=h;cases ro;obtain⟨t,rfl⟩:=ri;obtain⟨aT,n,r,ho,hz⟩:=I.lst hp;obtain⟨h1,h2,h3,h4⟩:=IP hj;have hl:=r.length;have hn:=R8;have I':Inv X pins Z (upd H p (.lst (xs.set j v))) { s with heap:=s.heap.update p (Obj.mapSeq (·.setIfInBounds j u)) } :=
  I.Po hp ho (Zf aT n j u) (r.set rv j) (by rw[List.length_set];exact hz) s.toks
 by_cases h0:0<=k
 ·have hk:k.toNat=j:=by
   rw[seqIndex_of h0 h4] at h1;exact aI h1
  exact PySem.W.ki_setAt ho h0 (by omega) (by rw[aE,<- hl];exact h4) (by rw[hk];exact⟨_,I',q⟩)
 ·have hk:(k+(aT.toArray.size:Int)).toNat=j:=by
   rw[seqIndex_neg (by omega) h3] at h1;rw[aE,<- hl];exact aI h1
  exact PySem.W.ki_setBack ho (by omega) (by rw[aE,<- hl];exact h3) (by omega) (by rw[hk];exact⟨_,I',q⟩)
theorem WI(lo hi:Option Int)(n:Nat):(sliceBounds lo hi none n).1=((HT.de n 0 lo:Nat):Int)/\(sliceBounds lo hi none n).2.1=((HT.de n n hi:Nat):Int)/\(sliceBounds lo hi none n).2.2=1:=by
 refine⟨?_,?_,rfl⟩
 ·cases lo with
  |none=>simp[sliceBounds,HT.de]
  |some i =>
   simp only[sliceBounds,HT.de,Option.getD_none,show(1:Int)>0 by decide,if_true];by_cases h:i<0
   ·simp only[h,if_true]<;>omega
   ·simp only[h,if_false]<;>omega
 ·cases hi with
  |none=>simp[sliceBounds,HT.de]
  |some i =>
   simp only[sliceBounds,HT.de,Option.getD_none,show(1:Int)>0 by decide,if_true];by_cases h:i<0
   ·simp only[h,if_true]<;>omega
   ·simp only[h,if_false]<;>omega
theorem WQ(aT:List Value)(lo hi:Option Int):slicePick aT.toArray lo hi none=((aT.drop (HT.de aT.length 0 lo)).take (HT.de aT.length aT.length hi-HT.de aT.length 0 lo)).toArray:=by
 obtain⟨h1,h2,h3⟩:=WI lo hi aT.toArray.size;unfold slicePick;rw[h1,h2,h3];simp only[sliceRange_one,pick_run,List.size_toArray]<;>rfl
noncomputable def UN(K:PySem.W.Frag):V->Option Int->Option Int->Hp->VK->Prop:=λx lo hi H Q=>∃a xs,x=.ref a/\fm K H a xs/\∀p,H p=none->Q (.ref p) (upd H p (.lst (S7 xs lo hi)))
theorem To:vy X (UN X.K):=by
 intro pins s Z H x v vl vu lo hi sl Q I rx hs pl pu h;obtain⟨a,xs,rfl,hx,q⟩:=h;cases rx;obtain⟨aT,r,ht,hz⟩:=I.list hx;have hlen:=r.length;refine⟨"list",_,slot_list_getitem.lookup,ht.isList.typeIs,?_⟩;refine wpAny_getItem_list_slice ht.isList hs pl pu .none (by simp) ?_ (by rw[aE]<;>omega);rw[WQ,<- hlen];refine⟨.ref s.heap.objs.size,_,I.laid (t':=s.toks) (o:=.lst (S7 xs lo hi)) (λb ob q=>au _ q) (av _) ?_,rfl,q _ (I.bE.fresh (av _))⟩;exact⟨aG (HE xs lo hi) hz,_,0,(r.drop (HT.de xs.length 0 lo)).take (HT.de xs.length xs.length hi-HT.de xs.length 0 lo),aD _ rfl⟩
noncomputable def Fj:V->V->Bool
 |.bD,.bD=>true
 |.bl a,.bl b=>a==b
 |.bl a,.int b=>(if a then 1 else 0)==b
 |.int a,.bl b=>a==(if b then 1 else 0)
 |.int a,.int b=>a==b
 |.str a,.str b=>a==b
 |_,_=>false
theorem ZY:m8 X (.builtin "len") (λxs H Q=>∃p ys,xs=[.ref p]/\(fm X.K H p ys\/gX X.K H p ys)/\Q (.int ys.length) H):=by
 intro pins s Z H xs us Q I r h;obtain⟨p,ys,rfl,hq,q⟩:=h;obtain⟨u,rfl,rx⟩:=vals1 r;cases rx;have hn:=R8;rcases hq with hq|hq
 ·obtain⟨aT,r',pl,hz⟩:=I.list hq;have hlen:=r'.length;exact Calls.call_len_list pl.isList (by simp only[List.size_toArray]<;>omega) ⟨.int ys.length,H,I.tok _,⟨s.toks+1,by rw[aE,hlen]⟩,q⟩
 ·obtain⟨aT,r',pl,hz⟩:=I.tuple hq;have hlen:=r'.length;exact len_tuple pl (by simp only[List.size_toArray]<;>omega) ⟨.int ys.length,H,I.tok _,⟨s.toks+1,by rw[aE,hlen]⟩,q⟩
theorem ZZ:m8 X (.builtin "len") (λxs H Q=>∃z,xs=[.str z]/\z.length<=sizeLine/\Q (.int z.length) H):=by
 intro pins s Z H xs us Q I r h;obtain⟨z,rfl,hz,q⟩:=h;obtain⟨u,rfl,t,rfl⟩:=vals1 r;have hn:=R8;exact len_str (by omega) ⟨.int z.length,H,I.tok _,⟨_,rfl⟩,q⟩
theorem Z':m8 X (.type "list") (λxs H Q=>∃p ys,xs=[.ref p]/\(fm X.K H p ys\/gX X.K H p ys)/\∀l,H l=none->Q (.ref l) (upd H l (.lst ys))):=by
 intro pins s Z H xs us Q I r h;obtain⟨p,ys,rfl,hq,q⟩:=h;obtain⟨u,rfl,rx⟩:=vals1 r;cases rx;have fin:∀(aT:List Value),Vals ys aT->ys.length<=sizeLine->∀(h':Heap) (c':Nat),(∀b o',s.heap.get? b=some o'->h'.get? b=some o') ->
   h'.get? s.heap.objs.size=some { cls:=.type "list",dict:=none,data:=.seq aT.toArray c',slots:=#[] }->EP X pins Z Q (.ref s.heap.objs.size) { s with heap:=h' }:=λaT r' hz h' c' kp e =>
  ⟨.ref s.heap.objs.size,_,I.laid (t':=s.toks) kp (av _) (show m7 X.prog X.w _ h' _ (.lst ys) from⟨hz,aT,c',r',e⟩),rfl,q _ (I.bE.fresh (av _))⟩
 rcases hq with hq|hq
 ·obtain⟨aT,r',pl,hz⟩:=I.list hq;have hlen:=r'.length;obtain⟨o,ho,hc,n,hd⟩:=pl.isList;exact call_list_seq p (.inl rfl) ho hc hd (λh' c' kp e=>fin aT r' hz h' c' kp e) (by simp only[List.size_toArray]<;>omega)
 ·obtain⟨aT,r',pl,hz⟩:=I.tuple hq;have hlen:=r'.length;obtain⟨o,ho,hc,n,hd⟩:=pl;exact call_list_seq p (.inr rfl) ho hc hd (λh' c' kp e=>fin aT r' hz h' c' kp e) (by simp only[List.size_toArray]<;>omega)
theorem WK:m8 X (.type "tuple") (λxs H Q=>∃p ys,xs=[.ref p]/\((fm X.K H p ys/\∀l,H l=none->Q (.ref l) (upd H l (.tup ys)))\/(gX X.K H p ys/\Q (.ref p) H))):=by
 intro pins s Z H xs us Q I r h;obtain⟨p,ys,rfl,h⟩:=h;obtain⟨u,rfl,rx⟩:=vals1 r;cases rx;rcases h with⟨hq,q⟩|⟨hq,q⟩
 ·obtain⟨aT,r',pl,hz⟩:=I.list hq;have hlen:=r'.length;refine call_tuple_list pl.isList (λh' kp=>?_) (by simp only[List.size_toArray]<;>omega);have I1:Inv X pins Z H { s with heap:=h' }:=I.kept (t':=s.toks) kp;have I2:Inv X pins Z (upd H h'.objs.size (.tup ys)) { s with heap:=h'.push { cls:=.type "tuple",data:=.seq aT.toArray } } :=
   I1.laid (t':=s.toks) (λb o e=>au _ e) (av _) (show m7 X.prog X.w _ _ _ (.tup ys) from⟨hz,aT,r',I9.new _ _⟩)
  exact⟨.ref h'.objs.size,_,I2,rfl,q _ (I1.bE.fresh (av _))⟩
 ·obtain⟨aT,r',pl,hz⟩:=I.tuple hq;exact call_tuple_same pl ⟨.ref p,H,I,rfl,q⟩
noncomputable def mL(K:PySem.W.Frag)(T:String)(x:V)(H:Hp):Prop:=match x with
 |.str _=>T="str"
 |.int _=>T="int"
 |.ref p=>(T="list"/\∃xs,fm K H p xs)\/(T="tuple"/\∃o,K.lookup p=some o/\o.cls=.type "tuple"/\o.dict=none) \/
   (T="dict"/\((∃kvs,H p=some (.dK kvs))\/∃kvs,H p=some (.dT kvs)))\/(T="set"/\∃S n,H p=some (.set S n))
 |_=>False
theorem IA{pins:List (Addr×Obj)}{Z:St}{H:Hp}{s:Shared}{T:String}{x:V}{v:Value}(I:Inv X pins Z H s)(r:RelV x v)(ty:mL X.K T x H) :
  s.TypeIs v T/\∀a,v=.ref a->∃ob,s.heap.get? a=some ob/\ob.dict=none:=by
 cases x with
 |str z =>
  obtain⟨t,rfl⟩:=r;cases (show T="str" from ty);exact⟨typeIs_str s z t,λ_ e=>nomatch e⟩
 |int i =>
  obtain⟨t,rfl⟩:=r;cases (show T="int" from ty);exact⟨lC s i t,λ_ e=>nomatch e⟩
 |ref p =>
  cases r;rcases ty with⟨rfl,xs,hq⟩|⟨rfl,o,hk,hc,hd⟩|⟨rfl,hk⟩|⟨rfl,S,n,hk⟩
  ·obtain⟨aT,_,pl,_⟩:=I.list hq;refine⟨pl.isList.typeIs,λa e=>?_⟩;cases e;obtain⟨o,n,e,c,hd,_⟩:=pl;exact⟨o,e,hd⟩
  ·refine⟨⟨o,I.gp p o hk,hc⟩,λa e=>?_⟩;cases e;exact⟨o,I.gp _ o hk,hd⟩
  ·have z:∃o,s.heap.get? p=some o/\o.ExactDict:=by
    rcases hk with⟨kvs,hk⟩|⟨kvs,hk⟩
    ·obtain⟨_,_,_,_,o,_,_,e,ex,_⟩:=I.bE p _ hk;exact⟨o,e,ex⟩
    ·obtain⟨_,_,_,_,o,_,_,e,ex,_⟩:=I.bE p _ hk;exact⟨o,e,ex⟩
   obtain⟨o,e,ex⟩:=z;refine⟨⟨o,e,ex.1⟩,λa e2=>?_⟩;cases e2;exact⟨o,e,ex.2.1⟩
  ·obtain⟨o,_,_,_,e,ex,_⟩:=I.bE p _ hk;refine⟨⟨o,e,ex.1⟩,λa e2=>?_⟩;cases e2;exact⟨o,e,ex.2.1⟩
 |_=>exact False.elim ty
noncomputable def U'(K:PySem.W.Frag)(T:String)(r:V->List V->Hp->VK->Prop)(to:TE):TE:=λZ H Q=>to Z H λx H1=>mL K T x H1/\r x [] H1 Q
noncomputable def KP(K:PySem.W.Frag)(T:String)(r:V->List V->Hp->VK->Prop)(to:TE)(t:TA):TE:=λZ H Q=>to Z H λx H1=>mL K T x H1/\t Z H1 λxs H2=>r x xs H2 Q
variable{o e:Expr}{es:List Expr}{to:TE}{t:TA}{name:Str}{apos ft:Pos}{T id:String}{r:V->List V->Hp->VK->Prop}
theorem Qa(pa:PlainAttrs T)(slot:Slot T name id)(ni:typeOf (.builtin id)=pure (.type "method_descriptor"))(hm:mH X id r)(ho:PE X o to)(iz:attributeBase o name X.env (eval o X.env)=eval o X.env:=by rfl)(iy:(apos.endLine==ft.line)=true:=by rfl):PE X (.Call (.Attribute o name apos) [] [] ft) (U' X.K T r to):=by
 intro pins s Z H Q I h;refine wpAny_Call_method0_late iz iy (cy (ho pins s Z H _ I h) λv s1 ⟨x,H1,I1,r1,ty,q1⟩=>?_);obtain⟨h1,h2⟩:=IA I1 r1 ty;exact⟨T,id,pa,slot,ni,h1,h2,Calls.callWith_builtin rfl (PySem.evalArgs_none (hm pins s1 Z H1 x [] v [] Q I1 r1 .nil q1))⟩
theorem Wn(pa:PlainAttrs T)(slot:Slot T name id)(ni:typeOf (.builtin id)=pure (.type "method_descriptor"))(hm:mH X id r)(ho:PE X o to)(ha:PA X (e::es) t)(iz:attributeBase o name X.env (eval o X.env)=eval o X.env:=by rfl)(pS:((backTo ft (starEach (e :: es) X.env)).all (λx=>!x.1) && (backToKw ft (keywordEach [] X.env)).all (λx=>x.1.isSome)
   && decide ((e :: es).length + ([]:List Keyword).length + (if ([]:List Keyword).isEmpty then 0 else 1) < 30))=true:=by rfl)(iy:(apos.endLine==ft.line)=true:=by rfl)(hs:starEach (e::es) X.env=(false,eval e X.env)::starEach es X.env:=by rfl)(fU:(backTo ft (starEach es X.env)).any (·.1)=false:=by rfl) :
  PE X (.Call (.Attribute o name apos) (e::es) [] ft) (KP X.K T r to t):=by
 intro pins s Z H Q I h;refine wpAny_Call_method_late iz pS iy rfl (cy (ho pins s Z H _ I h) λv s1 ⟨x,H1,I1,r1,ty,q1⟩=>?_);obtain⟨h1,h2⟩:=IA I1 r1 ty;refine⟨T,id,pa,slot,ni,h1,h2,?_⟩;have hA:=ha ft pins s1 Z H1 _ I1 q1;rw[hs] at hA ⊢;refine Calls.callWith_builtin (by show(false||(backTo ft (starEach es X.env)).any (·.1))=false;rw[fU]<;>rfl) (Calls.evalArgs_plain ?_);exact cy hA λus s2 ⟨vs,H2,I2,r2,q2⟩=>hm pins s2 Z H2 x vs v us Q I2 r1 r2 q2
end
end L2
namespace L2
open PySem PySem.Spec PyProof.Rows
noncomputable def Kd(X:Cx)(id:String)(r:V->List V->Hp->VK->Prop):Prop :=
 ∀(pins:List (Addr×Obj)) (s:Shared) (Z:St) (H:Hp) (x:V) (xs:List V) (v:Value) (us:List Value) (Q:VK),Inv X pins Z H s->RelV x v->Vals xs us->r x xs H Q ->
  wpAny (model X.prog X.w) X.A (call (.builtin id) (v::us)) (EP X pins Z Q) X.xe s
theorem Vals.one{x:V}{us:List Value}(h:Vals [x] us):∃u,us=[u]/\RelV x u:=by
 cases h with
 |cons r h =>
  cases h;exact⟨_,rfl,r⟩
theorem Vals.zero:∀{us:List Value},Vals [] us->us=[]
 |_,.nil=>rfl
theorem Vals.eraseIdx:∀{xs:List V} {us:List Value} (i:Nat),Vals xs us->Vals (xs.eraseIdx i) (us.eraseIdx i)
 |_,_,_,.nil=>.nil
 |_,_,0,.cons _ t=>t
 |_,_,i+1,.cons r t=>.cons r (Vals.eraseIdx i t)
theorem Vals.reverse{xs:List V}{us:List Value}(h:Vals xs us):Vals xs.reverse us.reverse:=by
 induction h with
 |nil=>exact .nil
 |cons r t ih=>rw[fY,fY];exact Vals.append ih (.cons r .nil)
theorem Vals.rep{xs:List V}{us:List Value}(h:Vals xs us):∀k:Nat,Vals (List.replicate k xs).flatten (List.replicate k us).flatten
 |0=>.nil
 |k+1=>by
  rw[bS,bS,cP,cP];exact Vals.append h (Vals.rep h k)
theorem GU{α:Type}:∀(l:List α) (i:Nat),(l.eraseIdx i).length<=l.length
 |[],_=>av _
 |_::_,0=>fX _
 |_::r,i+1=>Nat.succ_le_succ (GU r i)
theorem foldl_rep(aT:List Value):∀(k:Nat) (acc:List Value),
  List.foldl (λx1 x2=>x1++x2) acc.toArray (List.replicate k aT.toArray)=(acc++(List.replicate k aT).flatten).toArray
 |0,acc=>by simp
 |k+1,acc=>by
  have e:acc.toArray++aT.toArray=(acc++aT).toArray:=by simp
  have e2:(acc++aT)++(List.replicate k aT).flatten=acc++(List.replicate (k+1) aT).flatten:=by
   rw[bS,cP,fZ]
  rw[<- e2,<- foldl_rep aT k (acc++aT),<- e,bS,lE]
section
variable{X:Cx}{pins:List (Addr×Obj)}{Z:St}{H:Hp}{s:Shared}{l b:Addr}{xs ys zs:List V}
theorem Inv.rL{aT its':List Value}{n:Nat}{f:Array Value->Array Value}{t':Nat}(I:Inv X pins Z H s)(hH:H l=some (.lst xs))(e:s.heap.get? l=some { cls:=.type "list",data:=.seq aT.toArray n })(hf:f aT.toArray=its'.toArray)(hv:Vals ys its')(hz:ys.length<=sizeLine) :
  Inv X pins Z (upd H l (.lst ys)) { s with heap:=s.heap.update l (Obj.mapSeq f),toks:=t' }:=by
 have q:=PySem.IsL.update e f;rw[hf] at q;refine I.write (x:=l) (e:=l) (by rw[hH];exact trivial) (.inl rfl) (λb' u hb hu=>(bV s.heap (Obj.mapSeq f) (bC hb)).trans hu) ⟨_,q⟩ ?_;exact⟨hz,its',_,hv,q⟩
theorem Inv.FW{aT:List Value}{t':Nat}(I:Inv X pins Z H s)(hv:Vals ys aT)(hz:ys.length<=sizeLine) :
  Inv X pins Z (upd H s.heap.objs.size (.lst ys)) { s with heap:=s.heap.push { cls:=.type "list",data:=.seq aT.toArray },toks:=t' } :=
 I.laid (λ_ _ q=>au _ q) (av _) ⟨hz,aT,0,hv,aD _ rfl⟩
theorem Inv.fresh(I:Inv X pins Z H s):H s.heap.objs.size=none:=I.bE.fresh (av _)
theorem Inv.vw(I:Inv X pins Z H s)(hH:H l=some (.lst xs)):xs.length<=sizeLine/\∃(aT:List Value) (n:Nat),Vals xs aT/\xs.length=aT.length/\s.heap.get? l=some { cls:=.type "list",data:=.seq aT.toArray n }:=by
 obtain⟨z,aT,n,r,e⟩:=I.bE l _ hH;exact⟨z,aT,n,r,r.length,e⟩
theorem a33{n:Nat}(h:n<=sizeLine):Builtin.List.listTooLong n=false:=by
 unfold Builtin.List.listTooLong;exact aB (by omega)
end
section
variable{X:Cx}
noncomputable def SS:V->List V->Hp->VK->Prop:=λx vs H Q=>∃l xs y,x=.ref l/\vs=[y]/\H l=some (.lst xs)/\xs.length<sizeLine/\Q .bD (upd H l (.lst (xs++[y])))
theorem Ye:Kd X "list.append" SS:=by
 intro pins s Z H x vs v us Q I rx rv h;obtain⟨l,xs,y,rfl,rfl,hH,hz,q⟩:=h;cases rx;obtain⟨u,rfl,ru⟩:=rv.one;obtain⟨z,aT,n,r,hl,e⟩:=I.vw hH;refine eQ F.slot_list_append ⟨_,e,rfl⟩ F.entry_list_append (F.args_list_append_2 _ _) (PySem.list_append l aT.toArray n u (by rw[aE];omega)) ⟨e,?_⟩;refine⟨.bD,_,I.rL (its':=aT++[u]) hH e (by simp) (r.append (.cons ru .nil)) ?_,rfl,q⟩;rw[bc,eW];omega
noncomputable def Qx:V->List V->Hp->VK->Prop:=λx vs H Q=>∃l xs i k y,x=.ref l/\vs=[.int i]/\H l=some (.lst xs)/\-(2 ^ 63)<=i/\i<2 ^ 63/\seqIndex? i xs.length=some k/\xs[k]?=some y/\Q y (upd H l (.lst (xs.eraseIdx k)))
theorem a36:Kd X "list.pop" Qx:=by
 intro pins s Z H x vs v us Q I rx rv h;obtain⟨l,xs,i,k,y,rfl,rfl,hH,h1,h2,hk,hy,q⟩:=h;cases rx;obtain⟨u,rfl,ru⟩:=rv.one;obtain⟨t,rfl⟩:=ru;obtain⟨z,aT,n,r,hl,e⟩:=I.vw hH;obtain⟨w,hw,fz⟩:=r.get hy;refine eQ F.slot_list_pop ⟨_,e,rfl⟩ F.entry_list_pop (F.args_list_pop_2 _ _)
  (MeetsSeq.list_pop_at l aT.toArray n i t k w (fitsIndex_both h1 h2) (by rw[aE,<- hl];exact hk) (by rw[<- ik];exact hw) (by rw[aE];omega)) ⟨e,?_⟩
 refine⟨y,_,I.rL (its':=aT.eraseIdx k) hH e ?_ (r.eraseIdx k) ?_,fz,q⟩
 ·show aT.toArray.eraseIdxIfInBounds k=(aT.eraseIdx k).toArray;rw[List.eraseIdxIfInBounds_toArray]
 ·have:=GU xs k;omega
noncomputable def UH:R2:=λx y H Q=>∃l b xs zs,x=.ref l/\y=.ref b/\H l=some (.lst xs)/\H b=some (.lst zs)/\xs.length+zs.length<=sizeLine/\∀p,H p=none->Q (.ref p) (upd H p (.lst (xs++zs)))
theorem PD:fc X (binaryOp .Add) UH:=by
 intro pins s Z H x y v u Q I rx ry h;obtain⟨l,b,xs,zs,rfl,rfl,hH,hB,hz,q⟩:=h;cases rx;cases ry;obtain⟨z,aT,n,r,hl,e⟩:=I.vw hH;obtain⟨z2,lS,n2,r2,hl2,e2⟩:=I.vw hB;refine PySem.P.add_list e e2 ?_ (by rw[aE,aE];omega);have ea:aT.toArray++lS.toArray=(aT++lS).toArray:=by simp
 rw[ea];exact⟨.ref _,_,I.FW (t':=s.toks) (r.append r2) (by rw[bc];omega),rfl,q _ I.fresh⟩
noncomputable def UL:R2:=λx y H Q=>∃l k xs,x=.ref l/\y=.int k/\H l=some (.lst xs)/\-(2 ^ 63)<=k/\k<2 ^ 63/\xs.length*k.toNat<=sizeLine /\
 ∀p,H p=none->Q (.ref p) (upd H p (.lst (List.replicate k.toNat xs).flatten))
theorem len_rep{α:Type}(xs:List α)(k:Nat):(List.replicate k xs).flatten.length=k*xs.length:=by
 induction k with
 |zero=>simp
 |succ k ih=>rw[bS,cP,bc,ih,Nat.succ_mul,Nat.add_comm]
theorem PN:fc X (binaryOp .Mult) UL:=by
 intro pins s Z H x y v u Q I rx ry h;obtain⟨l,k,xs,rfl,rfl,hH,h1,h2,hz,q⟩:=h;cases rx;obtain⟨t,rfl⟩:=ry;obtain⟨z,aT,n,r,hl,e⟩:=I.vw hH;have hlen:aT.toArray.size*k.toNat<=sizeLine:=by rw[aE,<- hl];exact hz
 have zK:¬aT.toArray.size*k.toNat>(2 ^ 63-1) / 8:=by
  have:(sizeLine:Nat)<=(2 ^ 63-1) / 8:=by decide
  omega
 have zH:¬(!Builtin.List.listFitsIndex k)=true:=by
  rw[fitsIndex_both h1 h2];exact dq
 have tX:¬Builtin.List.listTooLong (aT.toArray.size*k.toNat)=true:=by
  rw[a33 hlen];exact dq
 have zt:List.foldl (λx1 x2=>x1++x2) #[] (List.replicate (if aT.toArray.isEmpty=true then 0 else k.toNat) aT.toArray)=(List.replicate k.toNat aT).flatten.toArray:=by
  have f0:∀m:Nat,List.foldl (λx1 x2=>x1++x2) #[] (List.replicate m aT.toArray)=(List.replicate m aT).flatten.toArray:=λm=>by
   have:=foldl_rep aT m [];rw[List.nil_append] at this;exact this
  rw[f0];cases aT with
  |nil=>simp
  |cons a r'=>rw[if_neg (by simp)]
 refine Dt (T:="list") (U:="int") (by decide) ⟨_,e,rfl⟩ (λs'=>lC s' k t) noFill_list_mul F.fills_int_mul je repeat_list F.slot_int_index.lookup
  (eQ je (lC s k t) F.entry_int_rmul (F.args_int_rmul_2 _ _) (int___rmul___int_list k t l aT.toArray n)
   ⟨e,rfl,⟨_,e,rfl⟩,eQ F.slot_list_mul ⟨_,e,rfl⟩ F.entry_list_mul (F.args_list_mul_2 _ _) (AutoListH.list___mul___list_int_3 l aT.toArray n k t zH zK tX) ⟨e,?_⟩⟩)
 rw[zt];exact⟨.ref _,_,I.FW (t':=s.toks) (r.rep k.toNat) (by rw[len_rep,sv];exact hz),rfl,q _ I.fresh⟩
end
section
variable{prog:Program}{w:World}{A:Around}{E:Value->Shared->Prop}{s:Shared}
end
section
variable{X:Cx}
end
end L2

namespace L2
open PySem PySem.Spec PyProof.Rows
section
variable{κ:Type}[DecidableEq κ]
noncomputable def K2(kvs:List (κ×V))(k:κ):Option V:=(kvs.find? λkv=>decide (kv.1=k)).map (·.2)
noncomputable def putK(kvs:List (κ×V))(k:κ)(v:V):List (κ×V) :=
 if(kvs.any λkv=>decide (kv.1=k))=true then kvs.map (λkv=>if kv.1=k then(kv.1,v) else kv) else kvs++[(k,v)]
theorem BG{p:κ×V}{r:List (κ×V)}{k:κ}(e:p.1=k):K2 (p::r) k=some p.2:=by simp[K2,List.find?_cons,e]
theorem BE{p:κ×V}{r:List (κ×V)}{k:κ}(e:¬p.1=k):K2 (p::r) k=K2 r k:=by simp[K2,List.find?_cons,e]
theorem GA(k:κ):∀kvs:List (κ×V),(kvs.any λkv=>decide (kv.1=k))=(K2 kvs k).isSome
 |[]=>rfl
 |p::r=>by
  rw[fb];by_cases e:p.1=k
  ·simp only[BG e,decide_eq_true e,Bool.true_or,Option.isSome_some]
  ·rw[BE e,aB e,pq];exact GA k r
theorem V5(kvs:List (κ×V))(k:κ)(v:V):(putK kvs k v).length<=kvs.length+1:=by
 unfold putK;split
 ·rw[ag];omega
 ·rw[bc,cY,List.length_nil];omega
theorem E7.O1{o:Option V}{u:Option Value}(r:E7 o u):o.isSome=u.isSome:=by
 cases o with
 |none=>cases u with
  |none=>rfl
  |some _=>exact(show False from r).elim
 |some _=>cases u with
  |none=>exact(show False from r).elim
  |some _=>rfl
theorem E7.getD{o:Option V}{u:Option Value}{d:V}{d':Value}(r:E7 o u)(rd:RelV d d'):RelV (o.getD d) (u.getD d'):=by
 cases o with
 |none=>cases u with
  |none=>exact rd
  |some _=>exact(show False from r).elim
 |some _=>cases u with
  |none=>exact(show False from r).elim
  |some _=>exact r
theorem KV.val{kvs:List (κ×V)}{vs:List (κ×Value)}(r:KV kvs vs)(k:κ):E7 (K2 kvs k) (valueAt vs k):=by
 unfold KV at r
 induction r with
 |nil=>exact True.intro
 |@cons p q ps qs h t ih =>
  obtain⟨h1,h2⟩:=h;by_cases e:p.1=k
  ·have e':q.1=k:=h1.symm.trans e;have b:valueAt (q::qs) k=some q.2:=by simp[valueAt,List.find?_cons,e']
   rw[BG e,b];exact h2
  ·have e':¬q.1=k:=λz=>e (h1.trans z);have b:valueAt (q::qs) k=valueAt qs k:=by simp[valueAt,List.find?_cons,e']
   rw[BE e,b];exact ih
theorem KV.any{kvs:List (κ×V)}{vs:List (κ×Value)}(r:KV kvs vs)(k:κ):(kvs.any λkv=>decide (kv.1=k))=vs.any λkv=>decide (kv.1=k):=by
 unfold KV at r
 induction r with
 |nil=>rfl
 |cons h t ih=>rw[fb,fb,ih,h.1]
theorem KV.Dh{kvs:List (κ×V)}{vs:List (κ×Value)}(r:KV kvs vs)(k:κ){y:V}{u:Value}(ry:RelV y u) :
  KV (kvs.map λkv=>if kv.1=k then(kv.1,y) else kv) (vs.map λkv=>if kv.1=k then(kv.1,u) else kv):=by
 unfold KV at r ⊢
 induction r with
 |nil=>exact .nil
 |@cons p q ps qs h t ih =>
  rw[ba,ba];refine .cons ?_ ih;obtain⟨h1,h2⟩:=h;by_cases e:p.1=k
  ·rw[aF e,aF (h1.symm.trans e)];exact⟨h1,ry⟩
  ·rw[az e,az (λz=>e (h1.trans z))];exact⟨h1,h2⟩
theorem KV.put{kvs:List (κ×V)}{vs:List (κ×Value)}(r:KV kvs vs)(k:κ){y:V}{u:Value}(ry:RelV y u):KV (putK kvs k y) (stored vs k u):=by
 unfold putK stored;rw[r.any k];by_cases e:(vs.any λkv=>decide (kv.1=k))=true
 ·rw[aF e,aF e];exact r.Dh k ry
 ·rw[az e,az e];exact Paired.snoc r ⟨rfl,ry⟩
theorem KV.keys{kvs:List (κ×V)}{vs:List (κ×Value)}(r:KV kvs vs):kvs.map (·.1)=vs.map (·.1):=by
 unfold KV at r
 induction r with
 |nil=>rfl
 |cons h t ih=>rw[ba,ba,ih,h.1]
theorem KV.length{kvs:List (κ×V)}{vs:List (κ×Value)}(r:KV kvs vs):kvs.length=vs.length:=kW r
end
theorem qH{P:Program}{w:World}{k:Key}{u:Value}(r:RelV (kV k) u):(q8 P w).is k u=true:=by
 cases k with
 |inl i=>obtain⟨t,e⟩:=(show ∃t,u=Value.int i t from r);subst e;exact ZO P w i t
 |inr x=>obtain⟨t,e⟩:=(show ∃t,u=Value.str x t from r);subst e;exact ZP P w x t
theorem GS{P:Program}{w:World}:∀{ks:List Key} {us:List Value},Vals (ks.map kV) us->ItemsAre (q8 P w) ks us
 |[],_,r=>by rw[sy] at r;cases r;exact .nil
 |k::ks,_,r=>by
  rw[ba] at r;cases r with
  |cons h t=>exact .cons (qH h) (GS t)
noncomputable abbrev KT(H:Hp):List (List Key×V)->List (List Key×Addr×Value)->Prop:=Paired λp q=>p.1=q.1/\H q.2.1=some (.tup (p.1.map kV))/\RelV p.2 q.2.2
theorem KT.val{H:Hp}{kvs:List (List Key×V)}{xs:List (List Key×Addr×Value)}(r:KT H kvs xs)(k:List Key):E7 (K2 kvs k) ((atKey xs k).map (·.2)):=by
 induction r with
 |nil=>exact True.intro
 |@cons p q ps qs h t ih =>
  obtain⟨h1,_,h2⟩:=h;by_cases e:p.1=k
  ·have e':q.1=k:=h1.symm.trans e;have b:atKey (q::qs) k=some q.2:=by simp[atKey,List.find?_cons,e']
   rw[BG e,b];exact h2
  ·have e':¬q.1=k:=λz=>e (h1.trans z);have b:atKey (q::qs) k=atKey qs k:=by simp[atKey,List.find?_cons,e']
   rw[BE e,b];exact ih
theorem KT.Dh{H:Hp}{kvs:List (List Key×V)}{xs:List (List Key×Addr×Value)}(r:KT H kvs xs)(k:List Key){y:V}{u:Value}(ry:RelV y u) :
  KT H (kvs.map λkv=>if kv.1=k then(kv.1,y) else kv) (xs.map (putAt k u)):=by
 induction r with
 |nil=>exact .nil
 |@cons p q ps qs h t ih =>
  rw[ba,ba];refine .cons ?_ ih;obtain⟨h1,h2,h3⟩:=h;unfold putAt;by_cases e:p.1=k
  ·rw[aF e,aF (h1.symm.trans e)];exact⟨h1,h2,ry⟩
  ·rw[az e,az (λz=>e (h1.trans z))];exact⟨h1,h2,h3⟩
theorem KT.put{H:Hp}{kvs:List (List Key×V)}{xs:List (List Key×Addr×Value)}(r:KT H kvs xs)(k:List Key){b:Addr}{y:V}{u:Value}(hb:H b=some (.tup (k.map kV)))(ry:RelV y u) :
  KT H (putK kvs k y) (storedH xs k b u):=by
 have e:(kvs.any λkv=>decide (kv.1=k))=(atKey xs k).isSome:=by
  rw[GA,(r.val k).O1,jO]
 unfold putK storedH;rw[e];by_cases q:(atKey xs k).isSome=true
 ·rw[aF q,aF q];exact r.Dh k ry
 ·rw[az q,az q];exact Paired.snoc r ⟨rfl,hb,ry⟩
theorem KT.keeps{H H':Hp}{kvs:List (List Key×V)}{xs:List (List Key×Addr×Value)}(r:KT H kvs xs)(ht:∀b ys,H b=some (.tup ys)->H' b=some (.tup ys)):KT H' kvs xs :=
 Paired.Df r λ_ _ z=>⟨z.1,ht _ _ z.2.1,z.2.2⟩
section
variable{P:Program}{w:World}{H:Hp}{h:Heap}{a:Addr}
theorem JN{u:HO}(ok:fG P w H h)(e:Rd H a u):m7 P w H h a u:=e.ok ok
theorem qG{kvs:List (Key×V)}(ok:fG P w H h)(e:Rd H a (.dK kvs)):kvs.length<=sizeLine/\(a==sysModules)=false/\∃vs,KV kvs vs/\h.DictOf (q8 P w) a vs :=
 show m7 P w H h a (.dK kvs) from JN ok e
theorem JB{kvs:List (Key×V)}(ok:fG P w H h)(e:H a=some (.dK kvs)):kvs.length<=sizeLine/\(a==sysModules)=false/\∃vs,KV kvs vs/\h.DictOf (q8 P w) a vs:=qG ok (.inl e)
theorem X6{ks:List Key}(ok:fG P w H h)(e:H a=some (.tup (ks.map kV))):(tupleKind (q8 P w)).is h ks a:=by
 obtain⟨_,aT,r,o,h1,h2,⟨n,h3⟩,_⟩:=(show m7 P w H h a (.tup (ks.map kV)) from ok a _ e)
 exact⟨o,aT.toArray,n,h1,h2,h3,by simpa using GS r⟩
theorem rT{kvs:List (List Key×V)}(ok:fG P w H h)(e:Rd H a (.dT kvs)):kvs.length<=sizeLine/\(a==sysModules)=false /\
  ∃xs,KT H kvs xs/\h.DictOfH (tupleKind (q8 P w)) a xs:=by
 obtain⟨z,y,xs,r,o,es,ep,h1,h2,h3,h4,h5⟩:=(show m7 P w H h a (.dT kvs) from JN ok e)
 refine⟨z,y,xs,r,o,es,ep,h1,h2,h3,h4,λx hx=>?_,h5⟩;have all:∀{l:List (List Key×V)} {m:List (List Key×Addr×Value)},KT H l m->∀x∈m,(tupleKind (q8 P w)).is h x.1 x.2.1:=by
  intro l m q
  induction q with
  |nil=>intro x hx;exact nomatch hx
  |@cons p q ps qs hq t ih =>
   intro x hx;rcases aH.mp hx with e|hx
   ·subst e;exact X6 ok (by rw[<- hq.1];exact hq.2.1)
   ·exact ih x hx
 exact all r x hx
theorem VF{kvs:List (List Key×V)}(ok:fG P w H h)(e:H a=some (.dT kvs)):kvs.length<=sizeLine/\(a==sysModules)=false /\
  ∃xs,KT H kvs xs/\h.DictOfH (tupleKind (q8 P w)) a xs:=rT ok (.inl e)
end
noncomputable def O5(H:Hp)(a:Addr)(y:V)(r:Option V):Prop :=
 (∃kvs k,Rd H a (.dK kvs)/\y=kV k/\r=K2 kvs k)\/∃kvs k b,Rd H a (.dT kvs)/\y=.ref b/\H b=some (.tup (k.map kV))/\r=K2 kvs k
noncomputable def xW(H:Hp)(a:Addr)(y v:V)(H':Hp):Prop :=
 (∃kvs k,H a=some (.dK kvs)/\y=kV k/\kvs.length<sizeLine/\H'=upd H a (.dK (putK kvs k v))) \/
 ∃kvs k b,H a=some (.dT kvs)/\y=.ref b/\H b=some (.tup (k.map kV))/\kvs.length<sizeLine/\H'=upd H a (.dT (putK kvs k v))
theorem O5.k{H:Hp}{a:Addr}{kvs:List (Key×V)}{k:Key}(e:H a=some (.dK kvs)):O5 H a (kV k) (K2 kvs k):=.inl ⟨kvs,k,.inl e,rfl,rfl⟩
theorem xW.k{H:Hp}{a:Addr}{kvs:List (Key×V)}{k:Key}{v:V}(e:H a=some (.dK kvs))(hl:kvs.length<sizeLine):xW H a (kV k) v (upd H a (.dK (putK kvs k v))):=.inl ⟨kvs,k,e,rfl,hl,rfl⟩
section
variable{X:Cx}{pins:List (Addr×Obj)}{Z:St}{H:Hp}{s:Shared}{a:Addr}{y v:V}{u r:Value}{o:Option V}{A:Around}{E:Value->Shared->Prop}
theorem Inv.big(I:Inv X pins Z H s):sysModules<s.heap.objs.size:=by
 have h:mainGlobals<s.heap.objs.size:=(I.mod.glob.keeps I.bk).lt;exact cI (by decide) h
theorem XN{Q:Value->Shared->Prop}(hu:A.units+1<cLine)(I:Inv X pins Z H s)(g:O5 H a y (some v))(ry:RelV y u)(h:∀w' s',Inv X pins Z H s'->RelV v w'->Q w' s') :
  wpAny (model X.prog X.w) A (getItem (.ref a) u) Q E s:=by
 rcases g with⟨kvs,k,e,ey,l⟩|⟨kvs,k,b,e,ey,eb,l⟩
 ·subst ey;obtain⟨z,hd,vs,rel,dd⟩:=qG I.bE e;obtain⟨w',hw,fz⟩:=E7.some_of (v:=v) (o:=valueAt vs k) (by rw[l];exact rel.val k);exact wpAny_getItem_of (qH ry) dd.mapOf hw (h w' _ (I.tok _) fz)
 ·subst ey;cases (show u=Value.ref b from ry);obtain⟨z,hd,xs,rel,dd⟩:=rT I.bE e;obtain⟨w',hw,fz⟩:=E7.some_of (v:=v) (o:=(atKey xs k).map (·.2)) (by rw[l];exact rel.val k);obtain⟨p,hp,tU⟩:=aa.mp hw;refine wpAny_getItem_heap (eP hu) (X6 I.bE eb) dd hp ?_;rw[tU];exact h w' _ (I.tok _) fz
theorem Ug{Q:Value->Shared->Prop}(hu:A.units+1<cLine)(I:Inv X pins Z H s)(g:O5 H a y o)(ry:RelV y u)(h:∀s',Inv X pins Z H s'->Q (.bool o.isSome) s') :
  wpAny (model X.prog X.w) A (compareOp .In u (.ref a)) Q E s:=by
 rcases g with⟨kvs,k,e,ey,l⟩|⟨kvs,k,b,e,ey,eb,l⟩
 ·subst ey;obtain⟨z,hd,vs,rel,dd⟩:=qG I.bE e;refine wpAny_in_of (qH ry) hd dd.mapOf ?_;rw[<- (rel.val k).O1,<- l];exact h _ (I.tok _)
 ·subst ey;cases (show u=Value.ref b from ry);obtain⟨z,hd,xs,rel,dd⟩:=rT I.bE e;refine wpAny_in_heap (eP hu) (X6 I.bE eb) hd dd ?_;have q:=(rel.val k).O1;rw[jO] at q;rw[<- q,<- l];exact h _ (I.tok _)
theorem RL{Q:Value->Shared->Prop}(hu:A.units+1<cLine)(I:Inv X pins Z H s)(g:O5 H a y o)(ry:RelV y u)(h:∀s',Inv X pins Z H s'->Q (.bool (!o.isSome)) s') :
  wpAny (model X.prog X.w) A (compareOp .NotIn u (.ref a)) Q E s:=by
 rcases g with⟨kvs,k,e,ey,l⟩|⟨kvs,k,b,e,ey,eb,l⟩
 ·subst ey;obtain⟨z,hd,vs,rel,dd⟩:=qG I.bE e;refine wpAny_notIn_of (qH ry) hd dd.mapOf ?_;rw[<- (rel.val k).O1,<- l];exact h _ (I.tok _)
 ·subst ey;cases (show u=Value.ref b from ry);obtain⟨z,hd,xs,rel,dd⟩:=rT I.bE e;refine wpAny_notIn_heap (eP hu) (X6 I.bE eb) hd dd ?_;have q:=(rel.val k).O1;rw[jO] at q;rw[<- q,<- l];exact h _ (I.tok _)
theorem Bi{h':Heap}{t':Nat}{ob:HO}(I:Inv X pins Z H s)(mu:vB (H a))(hs:Heap.SameBut a s.heap h')(he:∃q,h'.get? a=some q)(new:m7 X.prog X.w (upd H a ob) h' a ob) :
  Inv X pins Z (upd H a ob) { s with heap:=h',toks:=t' } :=
 I.write (x:=a) (e:=a) mu (.inl rfl) (λb q hb z=>(hs.2 b hb).trans z) he new
theorem Ij{P:Program}{w:World}{H':Hp}{h':Heap}{kvs:List (Key×V)}{vs:List (Key×Value)}(z:kvs.length<=sizeLine)(hd:(a==sysModules)=false)(rel:KV kvs vs)(dd:h'.DictOf (q8 P w) a vs) :
  m7 P w H' h' a (.dK kvs):=⟨z,hd,vs,rel,dd⟩
theorem XO{H':Hp}{Q:Unit->Shared->Prop}(hu:A.units+1<cLine)(I:Inv X pins Z H s)(g:xW H a y v H')(ry:RelV y u)(rv:RelV v r)(h:∀s',Inv X pins Z H' s'->Q () s') :
  wpAny (model X.prog X.w) A (setItem (.ref a) u r) Q E s:=by
 rcases g with⟨kvs,k,e,ey,l,eH⟩|⟨kvs,k,b,e,ey,eb,l,eH⟩
 ·subst ey eH;obtain⟨z,hd,vs,rel,dd⟩:=JB I.bE e;have hz:vs.length<=sizeLine:=by rw[<- rel.length];exact z
  have hl:(putK kvs k v).length<=sizeLine:=by have:=V5 kvs k v;omega
  refine wpAny_setItem_pairs (hsz:=hz) (qH ry) dd λh' qp hs=>h _ ?_;have he:∃q,h'.get? a=some q:=let ⟨q,_,_,hq,_⟩:=qp;⟨q,hq⟩
  exact Bi I (by rw[e];exact True.intro) hs he (Ij hl hd (rel.put k rv) qp)
 ·subst ey eH;cases (show u=Value.ref b from ry);obtain⟨z,hd,xs,rel,dd⟩:=VF I.bE e;have hz:xs.length<=sizeLine:=by rw[<- kW rel];exact z
  have hl:(putK kvs k v).length<=sizeLine:=by have:=V5 kvs k v;omega
  refine wpAny_setItem_heap (hsz:=hz) (eP hu) (X6 I.bE eb) dd λh' qp hs=>h _ ?_;obtain⟨q,es,ep,hq,h2,h3,h4,_,h5⟩:=qp;refine Bi I (by rw[e];exact True.intro) hs ⟨q,hq⟩ ⟨hl,hd,_,(rel.put k eb rv).keeps λc ys ec=>?_,q,es,ep,hq,h2,h3,h4,h5⟩;rw[i0 (Wd ec e (λz=>nomatch z))];exact ec
end
section
variable{X:Cx}{pins:List (Addr×Obj)}{Z:St}{H:Hp}{s:Shared}{a:Addr}{kvs:List (Key×V)}{k:Key}{u:Value}{A:Around}{E:Value->Shared->Prop}
theorem VD{Q:Value->Shared->Prop}(I:Inv X pins Z H s)(e:Rd H a (.dK kvs))(h:∀t s',Inv X pins Z H s'->Q (.int kvs.length t) s'):wpAny (model X.prog X.w) A (call (.builtin "len") [.ref a]) Q E s:=by
 obtain⟨z,hd,vs,rel,dd⟩:=qG I.bE e;refine call_len_dict hd dd (by rw[<- rel.length];rw[jN] at z;omega) ?_;rw[<- rel.length];exact h _ _ (I.tok _)
end
theorem ZI{X:Cx}{pins:List (Addr×Obj)}{Z:St}{H:Hp}{s:Shared}{a:Addr}{y:V}{o:Option V}(I:Inv X pins Z H s)(g:O5 H a y o):s.TypeIs (.ref a) "dict":=by
 rcases g with⟨kvs,k,e,_,_⟩|⟨kvs,k,b,e,_,_,_⟩
 ·obtain⟨_,_,vs,_,dd⟩:=qG I.bE e;exact dd.typeIs
 ·obtain⟨_,_,xs,_,dd⟩:=rT I.bE e;exact dd.typeIs
section
variable{X:Cx}{o i e value:Expr}{pos pos' yz:Pos}{td ty tv:TE}
end
theorem Jp{P:Program}{w:World}{H:Hp}(h:Heap)(hb:sysModules<h.objs.size):m7 P w H (h.push { cls:=.type "dict",data:=.dict #[] }) h.objs.size (.dK []) :=
 ⟨cB _,cV.mpr (bC (aN hb)),[],.nil,Heap.DictOf.new h⟩
noncomputable def Rj:TE:=λ_ H Q=>∀p,H p=none->Q (.ref p) (upd H p (.dK []))
section
variable{X:Cx}{pos:Pos}
theorem a29:PE X (.Dict [] [] pos) Rj:=λpins s Z H Q I h =>
 wpAny_Dict_empty ⟨.ref s.heap.objs.size,_,I.laid (a:=s.heap.objs.size) (o:=.dK []) (t':=s.toks) (λ_ _ q=>au _ q) (av _) (Jp s.heap I.big),rfl,h _ (I.bE.fresh (av _))⟩
end
noncomputable def xC:List (TE×TE)->St->Hp->(List (V×V)->Hp->Prop)->Prop
 |[],_,H,Q=>Q [] H
 |(tk,tv)::r,Z,H,Q=>tk Z H λx H1=>tv Z H1 λy H2=>xC r Z H2 λps H3=>Q ((x,y)::ps) H3
noncomputable abbrev VV:List (V×V)->List (Value×Value)->Prop:=Paired λp q=>RelV p.1 q.1/\RelV p.2 q.2
noncomputable def vz(X:Cx)(pos:Pos)(keys:List (Option Expr))(values:List Expr)(gO:List (TE×TE)):Prop :=
 ∀(pins:List (Addr×Obj)) (s:Shared) (Z:St) (H:Hp) (Q:List (V×V)->Hp->Prop),Inv X pins Z H s->xC gO Z H Q ->
  wpAny (model X.prog X.w) X.A (evalPairs (pairTrees keys values X.env pos)) (λvs s'=>∃ps H',Inv X pins Z H' s'/\VV ps vs/\Q ps H') X.xe s
theorem SI{X:Cx}{pos:Pos}:vz X pos [] [] []:=λpins s Z H Q I h=>pairTrees_nil_walk ⟨[],H,I,.nil,h⟩
theorem a21{X:Cx}{pos:Pos}{k v:Expr}{ks:List (Option Expr)}{vs:List Expr}{tk tv:TE}{gO:List (TE×TE)}(hk:PE X k tk)(hv:PE X v tv)(hr:vz X pos ks vs gO) :
  vz X pos (some k::ks) (v::vs) ((tk,tv)::gO):=λpins s Z H Q I h =>
 pairTrees_cons_walk (cy (hk pins s Z H _ I h) λu s1 ⟨x,H1,I1,rx,q1⟩=>cy (hv pins s1 Z H1 _ I1 q1) λw2 s2 ⟨y,H2,I2,ry,q2⟩ =>
  cy (hr pins s2 Z H2 _ I2 q2) λws s3 ⟨ps,H3,I3,rel,q3⟩=>⟨(x,y) :: ps,H3,I3,.cons ⟨rx,ry⟩ rel,q3⟩)
noncomputable def R0(kvs more:List (Key×V)):List (Key×V):=more.foldl (λacc kv=>putK acc kv.1 kv.2) kvs
theorem KV.merge:∀{more:List (Key×V)} {rs:List (Key×Value)} {kvs:List (Key×V)} {vs:List (Key×Value)},KV more rs->KV kvs vs->KV (R0 kvs more) (merged vs rs):=by
 intro more rs kvs vs r;unfold KV at r
 induction r generalizing kvs vs with
 |nil=>intro q;exact q
 |@cons p q ps qs h t ih =>
  intro r0;have e:KV (putK kvs p.1 p.2) (stored vs q.1 q.2):=by
   have:=r0.put p.1 h.2;rw[<- h.1];exact this
  exact ih e
theorem Ia:∀(more kvs:List (Key×V)),(R0 kvs more).length<=kvs.length+more.length
 |[],kvs=>by show kvs.length<=kvs.length+0;omega
 |p::r,kvs=>by
  have h1:=Ia r (putK kvs p.1 p.2);have h2:=V5 kvs p.1 p.2;show(R0 (putK kvs p.1 p.2) r).length<=_;rw[cY];omega
theorem Hn{P:Program}{w:World}:∀{kvs:List (Key×V)} {ws:List (Value×Value)},VV (kvs.map λkv=>(kV kv.1,kv.2)) ws->∃rs,Carries (q8 P w) ws rs/\KV kvs rs
 |[],_,r=>by rw[sy] at r;cases r;exact⟨[],True.intro,.nil⟩
 |p::kvs,_,r=>by
  rw[ba] at r;cases r with
  |@cons a b as bs h t =>
   obtain⟨rs,c,q⟩:=Hn (P:=P) (w:=w) t;obtain⟨b1,b2⟩:=b;exact⟨(p.1,b2)::rs,⟨qH h.1,rfl,c⟩,.cons ⟨rfl,h.2⟩ q⟩
noncomputable def Oo(gO:List (TE×TE)):TE:=λZ H Q=>∀p,H p=none->xC gO Z (upd H p (.dK [])) λps H2=>H2 p=some (.dK [])/\∃kvs:List (Key×V),ps=kvs.map (λkv=>(kV kv.1,kv.2))/\kvs.length<=15/\Q (.ref p) (upd H2 p (.dK (R0 [] kvs)))
theorem SA{X:Cx}{pos:Pos}{keys:List (Option Expr)}{values:List Expr}{gO:List (TE×TE)}(h:vz X pos keys values gO)(pZ:keys.all (·.isSome)=true)(hl:keys.length=values.length)(h0:keys≠[])(oy:keys.length<=15):PE X (.Dict keys values pos) (Oo gO):=by
 intro pins s Z H Q I q;have hn:=I.bE.fresh (av s.heap.objs.size);have I1:=I.laid (a:=s.heap.objs.size) (o:=.dK []) (h':=s.heap.push { cls:=.type "dict",data:=.dict #[] }) (t':=s.toks) (λ_ _ q=>au _ q) (av _) (Jp s.heap I.big);refine wpAny_Dict_walk (knd:=q8 X.prog X.w) pZ hl h0 oy (cy (h pins _ Z _ _ I1 (q _ hn)) λws s2 lX=>?_);obtain⟨ps,H2,I2,rel,e,kvs,ep,lk,q2⟩:=lX;subst ep;obtain⟨rs,c,rk⟩:=Hn (P:=X.prog) (w:=X.w) rel;obtain⟨z,hd,vs0,r0,dd⟩:=JB I2.bE e;cases r0;refine⟨rs,c,dd,λh' qp hs=>⟨.ref s.heap.objs.size,_,?_,rfl,q2⟩⟩;have hz:(R0 [] kvs).length<=sizeLine:=by
  have h1:=Ia kvs [];rw[List.length_nil] at h1;rw[jN];omega
 have he:∃q,h'.get? s.heap.objs.size=some q:=let ⟨q,_,_,hq,_⟩:=qp;⟨q,hq⟩
 exact Bi I2 (by rw[e];exact True.intro) hs he (Ij hz hd (rk.merge .nil) qp)
section
variable{X:Cx}{pins:List (Addr×Obj)}{Z:St}{H:Hp}{s:Shared}{a:Addr}{y d:V}{u r:Value}{o:Option V}{A:Around}{E:Value->Shared->Prop}
theorem OO{Q:Value->Shared->Prop}(hu:A.units+1<cLine)(I:Inv X pins Z H s)(g:O5 H a y o)(ry:RelV y u)(rd:RelV d r)(h:∀w' s',Inv X pins Z H s'->RelV (o.getD d) w'->Q w' s') :
  wpAny (model X.prog X.w) A (call (.builtin "dict.get") [.ref a,u,r]) Q E s:=by
 rcases g with⟨kvs,k,e,ey,l⟩|⟨kvs,k,b,e,ey,eb,l⟩
 ·subst ey;obtain⟨z,hd,vs,rel,dd⟩:=qG I.bE e;refine call_meetsIn ic dd.typeIs su (qL _ _ _) (meets_dict_get_default (q8 X.prog X.w) a (qH ry) hd r) ⟨_,dd.mapOf,h _ _ (I.tok _) ?_⟩;rw[l];exact(rel.val k).getD rd
 ·subst ey;cases (show u=Value.ref b from ry);obtain⟨z,hd,xs,rel,dd⟩:=rT I.bE e;refine call_meetsIn ic dd.typeIs su (qL _ _ _) (meetsH_dict_get_default (tupleKind (q8 X.prog X.w)) a b hd r) ⟨eP hu,k,xs,X6 I.bE eb,dd,h _ _ (I.tok _) ?_⟩;rw[l];exact(rel.val k).getD rd
end
section
variable{X:Cx}{o e f:Expr}{apos ft:Pos}{td ty tx:TE}
end
section
variable{X:Cx}{pins:List (Addr×Obj)}{Z:St}{H:Hp}{s:Shared}{a:Addr}{kvs:List (Key×V)}{A:Around}{E:Value->Shared->Prop}
end
section
variable{X:Cx}{pins:List (Addr×Obj)}{Z:St}{H:Hp}{s:Shared}{a:Addr}{y:V}{u:Value}{A:Around}{E:Value->Shared->Prop}
end
end L2

namespace Kj
open PySem PySem.W PySem.Calls PyProof.Rows
theorem Xa{P:Params}{h:Heap}:∀(ns:List Int) (vs:List Value),WellAll P h vs (ns.map WData.int)->IntsAre vs ns:=by
 intro ns
 induction ns with
 |nil =>
  intro vs w;rw[sy] at w;cases w;exact .nil
 |cons n ns ih =>
  intro vs w;rw[ba] at w;cases w with
  |cons a b =>
   cases a;exact .cons _ _ (ih _ b)
theorem Yx{l:OpenLaw}{n:Nat}(hn:l.most=some n){P:Params}{h:Heap}{args:List WData}{vals:List Value}(nk:l.row.toRowW.claim.pre args=true)(zg:WellAll P h vals args) :
  ∃a vs ns,vals=[Value.ref a]/\args=[WData.list (ns.map WData.int)]/\h.get? a=some { cls:=.type "list",data:=.seq vs.toArray }/\IntsAre vs ns/\ns.length<=n:=by
 have wm:WShape.hasAll [] args [.list .int]=true:=(pre_splitW nk).1;have hc:l.pre.holds [] { args:=args }=true:=(pre_splitW nk).2;obtain⟨d,r,rfl,h1,h2⟩:=hasAllW_cons wm;obtain rfl:=hasAllW_nil h2;obtain⟨xs,rfl,h3⟩:=hasW_list h1;obtain⟨ns,rfl⟩:=items_int h3;have hlen:ns.length<=n:=by
  unfold OpenLaw.pre at hc;have h4:(WTm.not (.lt (.lit (.int (n:Int))) (.len (.arg 0)))).holds [] { args:=[.list (ns.map .int)] }=true:=by
   have h4:=(holds_andW hc).1;rw[hn] at h4;exact h4
  have h5:=condW_of h4 (w_not (w_lt w_lit (w_len_list (w_arg rfl))));rw[ag] at h5;refine kA λq=>?_;have q':(n:Int)<((ns.length:Nat):Int):=by omega
  first
   |(rw[aC q'] at h5;exact absurd h5 (by decide))
   |(simp at h5;omega)
 cases zg with
 |cons w1 w2 =>
  cases w2;cases w1 with
  |list ho pZ=>exact⟨_,_,ns,rfl,rfl,ho,Xa ns _ pZ,hlen⟩
theorem Ys(l:OpenLaw)(args:List WData):l.row.toRowW.claim.post args (.bool true) args=true :=
 postW_of (r:=l.row.toRowW) (X:=(true==true))
  (show WShape.has [] (.bool true) .bool=true by first|rfl|decide|simp[WShape.has,WShape.arms,WShape.armsAll])
  (show(WTm.eq .res (.lit (.bool true))).value [] { args:=args,res:=some (.bool true),after:=args }=some (.bool (true==true)) from w_eq_bool (w_res rfl) w_lit) rfl
theorem ZF{l:OpenLaw}{n:Nat}{q:Program}{loose:List Str}{XP:(Str->Option Value)->Heap->Prop}{YP:World->Heap->Prop}{d:DefRec}(hn:l.most=some n)(ug:d.params.defaults=[])(call:∀ (w:World) (cU bQ:Shared) (mg mb:Str->Option Value) (fa:Addr) (o:Obj) (pm cd doc:Value) (a:Addr) (vs:List Value) (ns:List Int),
   Ground q loose [] XP w cU mg mb bQ.heap->YP w bQ.heap ->
   bQ.heap.get? fa=some o->o.data=.func (docDef d.name d.params d.body d.scope pm cd doc)->bQ.heap.CodeRec cd d.name->mg d.name=some (.ref fa) ->
   bQ.heap.get? a=some { cls:=.type "list",data:=.seq vs.toArray }->IntsAre vs ns->ns.length<=n->bQ.gens=#[] ->
   codeAny (model l.prog w) callerA (.call (.ref fa) ⟨[.ref a],[]⟩) (λr s'=>r=.ok (.ret (.bool true))/\OldK bQ.heap s'.heap/\s'.os=bQ.os/\AllBare s'.gens) bQ) :
  WalkO q loose XP YP l.row.toRowW d [] (λf vs=>PySem.call f vs):=by
 intro w cU bQ mg mb G Y fa o pm cd doc dV kV ho hd ka hD hmg hg args vals as nk Ml hrd zg Es;obtain rfl:dV=.none:=Dflts.none hD ug;obtain rfl:kV=.none:=Dflts.noKw hD;obtain⟨a,vs,ns,rfl,rfl,iw,hints,hlen⟩:=Yx hn nk zg;refine enter_call (gf (call w cU bQ mg mb fa o pm cd doc a vs ns G Y ho (fd_plain hd) ka hmg iw hints hlen hg) λr s' hq=>?_);obtain⟨rfl,h2,h3,h4⟩:=hq;exact⟨.inl ⟨.bool true,.bool true,[],rfl,λ_=>rfl,.bool true,Ys l _,λ_=>⟨List.Pairwise.nil,λ_ hm=>(nomatch hm)⟩⟩,h2,h3,h4⟩
section
variable{prog:Program}{w:World}{A:Around}{E:Value->Shared->Prop}{s:Shared}{K:Frag}
end
end Kj
namespace L2
open PySem PySem.Spec PyProof.Rows
theorem Hi:∀{vs:List Value} {ns:List Int},IntsAre vs ns->Vals (ns.map V.int) vs
 |_,_,.nil=>.nil
 |_,_,.cons n t h=>.cons ⟨t,rfl⟩ (Hi h)
noncomputable def xX(H:Hp):Prop:=∀b,H b=none\/∃o xs,H b=some (.jb o (.lst xs))
theorem a42{P:Program}{w:World}{K:PySem.W.Frag}{mg mb:Str->Option Value}{CX:mI}{k:Nat}{fa a:Addr}{fd:FuncData}{x:Str}{sp:Sp}{bQ:Shared}{vs:List Value}{ns:List Int}(KX:K.In bQ.heap)(pQ:bQ.heap.Ns mainGlobals mg)(hb:bQ.heap.Ns builtinsNs mb)(zM:∀x:Str,x≠"__name__"->mb x=bootBuiltins x)(zB:bQ.heap.NoLimit)(hg:bQ.gens=#[])(ha:bQ.heap.get? a=some { cls:=.type "list",data:=.seq vs.toArray })(hi:IntsAre vs ns)(hl:ns.length<=sizeLine)(hr:v9 k callerA)(F:∀base:Heap,K.In base->base.Ns mainGlobals mg->gY P w K mg base CX k fa fd [x] sp)(uj:∀(s:Shared) (u:Value),BindsTo s fd ⟨[u],[]⟩ [(x,u)])(qY:∀H:Hp,xX H->fm K H a (ns.map V.int)->sp [.ref a] H (λv _=>v=.bl true) λ_ _ _=>False)(Ac:∀H e s',CX [] H bQ (λ_ _ _=>False) e s'->False) :
  codeAny (model P w) callerA (.call (.ref fa) ⟨[.ref a],[]⟩) (λr s'=>r=.ok (.ret (.bool true))/\OldK bQ.heap s'.heap/\s'.os=bQ.os/\AllBare s'.gens) bQ:=by
 have rv:=Hi hi;have yV:=hi.length;have core:∀H:Hp,xX H->fm K H a (ns.map V.int)->fG P w H bQ.heap->(∀b,H b≠none->b=a)->(H a≠none->K.lookup a=none) ->
   codeAny (model P w) callerA (.call (.ref fa) ⟨[.ref a],[]⟩) (λr s'=>r=.ok (.ret (.bool true))/\OldK bQ.heap s'.heap/\s'.os=bQ.os/\AllBare s'.gens) bQ:=by
  intro H hO hS bE hA hK;have Q3:∀{b:Addr} {o:Obj},bQ.heap.get? b=some o->H b=none->(nK bQ.heap H).get? b=some o:=λe n=>a51 e n;have tB:∀{b:Addr} {o:Obj} {es:Array DictEntry} {ep:Nat},bQ.heap.get? b=some o->o.data=.dict es ep->H b=none:=λ{b o es ep} e d=>by
   cases q:H b with
   |none=>rfl
   |some u =>
    have e':b=a:=hA b (by rw[q];simp);subst e';rw[ha] at e;cases e;have d':Data.seq vs.toArray _=Data.dict es ep:=d;cases d'
  have wa:∀{b:Addr} {m:Str->Option Value},bQ.heap.Ns b m->(nK bQ.heap H).Ns b m:=λ{b m} ⟨o,es,ep,e,d,r⟩=>⟨o,es,ep,Q3 e (tB e d),d,r⟩
  have EV:K.In (nK bQ.heap H):=λb o e=>Q3 (KX b o e) (by
   cases q:H b with
   |none=>rfl
   |some u =>
    have e':b=a:=hA b (by rw[q];simp);subst e';rw [hK (by rw [q];simp)] at e;cases e)
  have hM:Mod K mg (nK bQ.heap H):=⟨EV,wa pQ,⟨mb,wa hb,zM⟩,let ⟨mc,h1,h2⟩:=zB;⟨mc,wa h1,h2⟩⟩
  have e0:qw P w K mg (nK bQ.heap H) callerA [] bQ H:=⟨rfl,hM,λb o e=>Sn e,Nat.le_of_eq (XT _ _),trivial,λb hb=>absurd (show b∈([]:List Addr) from hb) (by simp),bE,.of_eq hg⟩
  refine gf ((F _ EV (wa pQ)).run callerA [] bQ H ⟨[.ref a],[]⟩ [.ref a] [.ref a] _ _ hr e0 (uj bQ (.ref a)) (.cons rfl .nil) (qY H hO hS)) λr s' h=>?_;cases r with
  |error e=>exact(Ac H e s' h).elim
  |ok fl =>
   cases fl with
   |next=>exact False.elim h
   |brk=>exact False.elim h
   |cont=>exact False.elim h
   |ret u =>
    obtain⟨v,H',os,bare,un,zo,r',q⟩:=h;have q':v=.bl true:=q;subst q';obtain rfl:u=Value.bool true:=r';refine⟨rfl,OldK.of_keep λb o e=>?_,os,bare⟩;cases q:H b with
    |none=>exact un.keep b o e q (by intro z;exact absurd (show b∈([]:List Addr) from z) (by simp)) (by simp)
    |some u =>
     rcases hO b with z|⟨ob,xs,z⟩
     ·rw[q] at z;cases z
     ·have z2:=un.gs b ob _ z;obtain⟨e1,_⟩:=bE b _ z;obtain⟨e2,_⟩:=zo b _ z2;rw[e] at e1;cases e1;exact e2
 cases hk:K.lookup a with
 |some o =>
  have e:=KX a o hk;rw[ha] at e;cases e;refine core (λ_=>none) (λ_=>.inl rfl) (.inr ⟨_,vs.toArray,_,hk,rfl,rfl,rfl,by rw[aE,yV];exact hl,by simpa using rv⟩) (λb u z=>by have z':(none:Option HO)=some u:=z;cases z') (λb z=>absurd rfl z) λz=>absurd rfl z
 |none =>
  refine core (λb=>if b=a then some (.jb { cls:=.type "list",data:=.seq vs.toArray } (.lst (ns.map V.int))) else none) (λb=>?_) (.inl (.inr ⟨{ cls:=.type "list",data:=.seq vs.toArray },aF rfl⟩)) (λb u z=>?_) (λb z=>?_) λ_=>hk
  ·by_cases hb:b=a
   ·exact .inr ⟨_,_,aF hb⟩
   ·exact .inl (az hb)
  ·by_cases hb:b=a
   ·have z':=(aF hb).symm.trans z;cases z';subst hb;exact⟨ha,by rw[ag];exact hl,vs,_,rv,ha⟩
   ·have z':=(az hb).symm.trans z;cases z'
  ·by_cases hb:b=a
   ·exact hb
   ·exact absurd (az hb) z
end L2
namespace L2
open PySem PySem.Spec PyProof.Rows
theorem TH{l:PySem.W.OpenLaw}{n k:Nat}{q:Program}{loose:List Str}{XP:(Str->Option Value)->Heap->Prop}{YP:World->Heap->Prop}{d:DefRec}{K:Params->PySem.W.Frag}{CX:World->mI}{sp:World->Sp}{x:Str}(hn:l.most=some n)(ot:n<=sizeLine)(ug:d.params.defaults=[])(hr:v9 k callerA)(hY:∀(w:World) (h:Heap),YP w h->(K w.params).In h)(F:∀ (w:World) (mg:Str->Option Value) (fa:Addr) (h:Heap),(K w.params).In h->h.Ns mainGlobals mg->mg d.name=some (.ref fa) ->
   ∃fd:FuncData,(∀(s:Shared) (u:Value),BindsTo s fd ⟨[u],[]⟩ [(x,u)]) /\
    ∀ base:Heap,(K w.params).In base->base.Ns mainGlobals mg->gY l.prog w (K w.params) mg base (CX w) k fa fd [x] (sp w))(qY:∀(w:World) (H:Hp) (a:Addr) (ns:List Int),ns.length<=n->xX H->fm (K w.params) H a (ns.map V.int)->sp w [.ref a] H (λv _=>v=.bl true) λ_ _ _=>False)(Ac:∀(w:World) (H:Hp) (s:Shared) (e:Value) (s':Shared),CX w [] H s (λ_ _ _=>False) e s'->False) :
  PySem.W.WalkO q loose XP YP l.row.toRowW d [] (λf vs=>PySem.call f vs):=by
 refine Kj.ZF hn ug λw cU bQ mg mb fa o pm cd doc a vs ns G Y ho hd ka hmg iw hints hlen hg=>?_;have KX:=hY w _ Y;obtain⟨fd,hb,hF⟩:=F w mg fa _ KX G.T.g hmg;exact a42 KX G.T.g G.T.b G.T.builtins G.T.nolimit hg iw hints (aG hlen ot) hr hF hb (λH hO hS=>qY w H a ns hlen hO hS) λH e s'=>Ac w H bQ e s'
end L2
namespace L2
open PySem PySem.Spec PyProof.Rows
noncomputable def A7(s:Stmt):Arguments:=match s with
 |.FunctionDef _ a _ _ _ _ _ _ _ _=>a
 |_=>{ posonlyargs:=[],args:=[],vararg:=none,kwonlyargs:=[],kw_defaults:=[],kwarg:=none,defaults:=[] }
noncomputable def o8(s:Stmt):List Stmt:=match s with
 |.FunctionDef _ _ b _ _ _ _ _ _ _=>b
 |_=>[]
noncomputable def n9(s:Stmt):Scope:=match s with
 |.FunctionDef _ _ _ _ _ _ sc _ _ _=>sc
 |_=>{ kind:=.function,names:=[],isGenerator:=false,isCoroutine:=false }
structure oY(K:PySem.W.Frag)(x qual:Str)(st:Stmt)(f:Addr)(fd:FuncData):Prop where
 ex:∃(oc:Value) (od:Option Addr) (kV doc pm:Value) (an:Option Addr) (fi ct:Value) (lp:Array (Option Value)),
  fd=PySem.W.fnOf x qual (A7 st) (o8 st) (n9 st) .none kV doc pm an fi ct/\K.lookup f=some ⟨oc,od,.func fd,lp⟩/\PySem.W.codeIn K fi qual=true
 kp:PySem.W.keepIn K (.ref f)=true
section
variable{P:Program}{w:World}{K:PySem.W.Frag}{mg:Str->Option Value}{base:Heap}
theorem oY.binds{x qual:Str}{st:Stmt}{f:Addr}{fd:FuncData}{ps:List Str}(F:oY K x qual st f fd)(h:∀(kV doc pm:Value) (an:Option Addr) (fi ct:Value) (us:List Value),us.length=ps.length->bindArgs (PySem.W.fnOf x qual (A7 st) (o8 st) (n9 st) .none kV doc pm an fi ct) ⟨us,[]⟩=pure (ps.zip us)):Binds K fd ps []:=by
 obtain⟨oc,od,kV,doc,pm,an,fi,ct,lp,rfl,lk,ka⟩:=F.ex;exact .all (h kV doc pm an fi ct)
theorem Il{x qual:Str}{st:Stmt}{f:Addr}{oc:Value}{od an:Option Addr}{lp:Array (Option Value)}{kV doc pm fi ct:Value}(l:K.lookup f=some ⟨oc,od,.func (PySem.W.fnOf x qual (A7 st) (o8 st) (n9 st) .none kV doc pm an fi ct),lp⟩)(c:PySem.W.codeIn K fi qual=true)(k:PySem.W.keepIn K (.ref f)=true):oY K x qual st f (PySem.W.fnOf x qual (A7 st) (o8 st) (n9 st) .none kV doc pm an fi ct):=⟨⟨oc,od,kV,doc,pm,an,fi,ct,lp,rfl,l,c⟩,k⟩
end
section
variable{X:Cx}
theorem XE:m8 X (.builtin "len") (λxs H Q=>∃a kvs,xs=[V.ref a]/\H a=some (.dK kvs)/\Q (.int kvs.length) H):=by
 intro pins s Z H xs us Q I r h;obtain⟨a,kvs,rfl,ha,q⟩:=h;obtain⟨u,rfl,ru⟩:=vals1 r;cases ru;exact VD I (.inl ha) λt s' I'=>⟨.int kvs.length,H,I',⟨t,rfl⟩,q⟩
end
section
variable{κ:Type}[DecidableEq κ]
end
end L2

namespace L2
open PySem PySem.Spec PyProof.Rows
section
variable{prog:Program}{w:World}{A:Around}{R:Result->Shared->Prop}{s:Shared}
theorem aC5{elt target iter:Expr}{ifs:List Expr}{scope:Scope}{pos:Pos}{it acc:Value}{env:Env}(I:Nat->Shared->Prop)(turn:∀ n s,I n s->wpAny (model prog w) A (pyNext it) (λr bQ=>match r with
   |none=>R (.ok .next) bQ
   | some v=>wpAny (model prog w) A (letOwnedTupleGo target it v) (λ_ bQ=>wpAny (model prog w) A (assign target env v) (λ_ fQ =>
     wpAny (model prog w) A (forIn ifs true λc r=>if r=true then do let ok <- isTrue c env (eval c env);pure (ForInStep.yield ok) else pure (ForInStep.yield r)) (λok eE =>
      if ok=true then wpAny (model prog w) A (eval elt env) (λx iV =>
       wpAny (model prog w) A (call (.builtin "list.append") [acc,x]) (λ_ lM=>∃ m,m < n/\I m lM) (λ_ _=>False) iV) (notedBy (model prog w) A env λe s'=>R (.error e) s') eE
      else ∃ m,m < n/\I m eE) (λ_ _=>False) fQ) (λ_ _=>False) bQ) (λ_ _=>False) bQ) (λ_ _=>False) s)(n:Nat)(h:I n s) :
  codeAny (model prog w) A (.compLoop (.ListComp elt [⟨target,iter,ifs,0⟩] scope pos) 0 it acc env) R s:=by
 refine codeAny_loop rfl I (λn s hI=>?_) n h;show wpAny _ A ((compTurn (.ListComp elt [⟨target,iter,ifs,0⟩] scope pos) 0 it acc env).onRaise (λx=>do noteFrame x env;theTreesLotGoes x)) _ _ s;refine wpAny_noted ?_;rw[compTurn_list];refine ae (dB (ae (bx (turn n s hI) (λr bQ h₁=>?_) λ_ _ h'=>h'.elim)));cases r with
 |none=>exact ao h₁
 |some v =>
  refine ae (bx h₁ (λ_ bQ h₁=>?_) λ_ _ h'=>h'.elim);refine ae (bx h₁ (λ_ fQ iu=>ae (bx iu (λok eE lW=>?_) λ_ _ h'=>h'.elim)) λ_ _ h'=>h'.elim);cases ok with
  |false=>exact wpAny_pure ⟨rfl,lW⟩
  |true =>
   exact ae (ae (bx lW (λx iV pO=>ae (bx pO (λ_ lM pN=>ao (ao ⟨rfl,pN⟩)) λ_ _ h'=>h'.elim)) λ_ _ h'=>h'))
end
noncomputable def kz(X:Cx)(es:List Expr)(t:TT):Prop :=
 ∀(pins:List (Addr×Obj)) (s:Shared) (Z:St) (H:Hp) (Q:Bool->Hp->Prop),Inv X pins Z H s->t Z H Q ->
  wpAny (model X.prog X.w) X.A (forIn es true λc r=>if r=true then do let ok <- isTrue c X.env (eval c X.env);pure (ForInStep.yield ok) else pure (ForInStep.yield r)) (TP X pins Z Q) X.xe s
noncomputable def Vl:TT:=λ_ H Q=>Q true H
section
variable{X:Cx}
theorem SO:kz X [] Vl:=λpins s Z H Q I h=>ao ⟨H,I,h⟩
theorem SQ{c:Expr}{t:TT}(h:PT X c t):kz X [c] t:=by
 intro pins s Z H Q I q;simp only[List.forIn_cons,List.forIn_nil,if_true];exact ae (ae (bx (h pins s Z H Q I q) (λb s' hb=>ao (ao hb)) λ_ _ x=>x))
end
noncomputable def J6(scope:Scope)(cl:List (Str×Addr))(C:Addr):List (Str×Addr):=cellsFrom (C+1) scope.names []++cl
theorem C9:∀(names:List (Str×NameKind)) (n:Nat) (acc:List (Str×Addr)),cellsFrom n names acc=cellsFrom n names []++acc
 |[],_,_=>rfl
 |(y,k)::r,n,acc=>by
  unfold cellsFrom;split
  ·rw[C9 r (n+1) ((y,n)::acc),C9 r (n+1) [(y,n)],fZ]
   rfl
  ·exact C9 r n acc
theorem T1{x:Str}{c:Addr}:∀{names:List (Str×NameKind)} {n:Nat},(x,c)∈cellsFrom n names []->(x,NameKind.cell)∈names
 |[],_,h=>by simp[cellsFrom] at h
 |(y,k)::r,n,h=>by
  unfold cellsFrom at h;split at h
  ·rename_i hk;rw[C9] at h;rcases aZ.mp h with z|z
   ·exact bI _ (T1 z)
   ·cases aS.mp z;rw[show k=NameKind.cell from by simpa using hk];exact fM
  ·exact bI _ (T1 h)
theorem F4{α:Type}{x:Str}:∀{a b:List (Str×α)},(a++b).lookup x=(a.lookup x).or (b.lookup x)
 |[],_=>rfl
 |(y,v)::r,b=>by
  rw[List.cons_append,cw,cw];cases x==y
  ·exact F4
  ·rfl
theorem GK{scope:Scope}{cl:List (Str×Addr)}{C:Addr}{x:Str}(h:scope.names.lookup x=some .cell\/∃c,cl.lookup x=some c):∃c,(J6 scope cl C).lookup x=some c:=by
 unfold J6;rw[F4];cases e:(cellsFrom (C+1) scope.names []).lookup x with
 |some c=>exact⟨c,rfl⟩
 |none =>
  rcases h with h|h
  ·have q:=dg scope.names (C+1) [] (.inl h);rw[e] at q;cases q
  ·exact h
theorem L6{env:Env}:∀{names:List (Str×NameKind)} {x:Str},names.lookup x=some .cell ->
  (names.map λ(n,k)=>if(k==NameKind.free&&env.scope.kind==.function&&env.kindOf n==some .cell) then(n,NameKind.cell) else(n,k)).lookup x=some .cell
 |[],_,h=>by simp at h
 |(n,k)::r,x,h=>by
  have ih:=@L6 env r x;show List.lookup x ((if(k==NameKind.free&&env.scope.kind==.function&&env.kindOf n==some .cell)=true then(n,NameKind.cell) else(n,k))::_)=_;cases hx:x==n with
  |true =>
   simp only[List.lookup_cons,hx] at h;cases h;simp[List.lookup_cons,hx]
  |false =>
   simp only[List.lookup_cons,hx] at h;by_cases hc:(k==NameKind.free&&env.scope.kind==.function&&env.kindOf n==some .cell)=true
   ·rw[aF hc];simp only[List.lookup_cons,hx];exact ih h
   ·rw[az hc];simp only[List.lookup_cons,hx];exact ih h
theorem xU{scope:Scope}{cl:List (Str×Addr)}{C:Addr}{h:Heap}(ck:CellsOk h (C+1) (cellsFrom (C+1) scope.names [])){x:Str}{c:Addr}(e:(J6 scope cl C).lookup x=some c):C<c\/cl.lookup x=some c:=by
 unfold J6 at e;rw[F4] at e;cases e2:(cellsFrom (C+1) scope.names []).lookup x with
 |some c' =>
  rw[e2] at e;cases e;exact .inl (ck.empty x c (aM e2)).2
 |none =>
  rw[e2] at e;exact .inr e
theorem Ic{M:Model}{A:Around}{E:Value->Shared->Prop}{s:Shared}{scope:Scope}{globals:Addr}{cl:List (Str×Addr)}{qual:Str}{outer:Env}{Q:Env->Shared->Prop}(hQ:∀ h₁:Heap,h₁.Ns s.heap.objs.size (λ_=>none)->(∀ b o,s.heap.get? b=some o->h₁.get? b=some o)->CellsOk h₁ (s.heap.objs.size + 1) (cellsFrom (s.heap.objs.size + 1) scope.names []) ->
   Q (newEnv scope s.heap.objs.size globals (J6 scope cl s.heap.objs.size) qual none .none (some outer) builtinsNs) { s with heap:=h₁ }) :
  wpAny M A (newFunctionEnv scope globals cl [] qual none .none (some outer)) Q E s:=by
 simp only[newFunctionEnv,Option.isSome_some,if_true];refine ae (wpAny_alloc ?_);refine ae (wpAny_layCells _ (λname kind cells=>by cases Mt:kind==NameKind.cell<;>simp[Mt]) _ _ _ _ ?_);have ok:=cellsFrom_ok scope.names (s.heap.push { cls:=.type "dict",data:=.dict #[] }) (s.heap.objs.size+1) [] ⟨λ_ _ hm=>(nomatch hm),List.Pairwise.nil⟩ (by rw[dQ];exact av _);rw[dQ] at ok;rw[show({ s with heap:=s.heap.push { cls:=.type "dict",data:=.dict #[] } }:Shared).heap.objs.size=s.heap.objs.size+1 from dQ ..];rw[List.forIn_nil];refine ae (ao (ao ?_));rw[C9];exact hQ _ ((Heap.Ns.new s.heap (.type "dict")).keeps (pushCells_keeps _ _)) (λb o e=>pushCells_keeps _ _ b o (au _ e)) ok
noncomputable def f6(X:Cx)(pins:List (Addr×Obj))(scope:Scope)(N':List Str)(cl:List (Str×Addr))(C:Addr)(s:Shared)(H:Hp)(fp:List Addr):Cx where
 prog:=X.prog
 w:=X.w
 K:=X.K
 mg:=X.mg
 base:=X.base
 A:=X.A
 N:=N'
 cU:=s
 iN:=H
 env:=compEnvC scope (J6 scope cl C) C X.env
 outer:=X.stack
 stack:=X.stack
 ex:=fp
 calm:=true
 fn:=λx=>decide (scope.names.lookup x=some .cell)
 pn:=X.pn++pins
 xe:=λ_ _=>False
structure da(X:Cx)(scope:Scope)(N':List Str)(d6:List Nat)(cl:List (Str×Addr)):Prop where
 kind:scope.kind=.function
 cells:∀y∈scope.names,y.2=.cell->scope.names.lookup y.1=some .cell
 names:∀y∈scope.names,y.2=.local->scope.names.lookup y.1=some .local
 qr:closureFor scope X.env=pure cl
 cin:∀x c,cl.lookup x=some c->X.env.cells.lookup x=some c
 uS:∀x,scope.names.lookup x=some .free->∃c,cl.lookup x=some c
 nd:N'.Nodup
 NZ:∀(i j:Nat),d6[i]?=some j->∃x,N'[i]?=some x/\X.N[j]?=some x/\scope.names.lookup x=some .free/\(X.env.kindOf x=some .cell\/X.env.kindOf x=some .free)
 AK:d6.length<=N'.length
theorem E0{env:Env}:∀{names:List (Str×NameKind)} {x:Str},names.lookup x=some .free ->
  (names.map λ(n,k)=>if(k==NameKind.free&&env.scope.kind==.function&&env.kindOf n==some .cell) then(n,NameKind.cell) else(n,k)).lookup x=some .cell \/
  (names.map λ(n,k)=>if(k==NameKind.free&&env.scope.kind==.function&&env.kindOf n==some .cell) then(n,NameKind.cell) else(n,k)).lookup x=some .free
 |[],_,h=>by simp at h
 |(n,k)::r,x,h=>by
  have ih:=@E0 env r x;show List.lookup x ((if(k==NameKind.free&&env.scope.kind==.function&&env.kindOf n==some .cell)=true then(n,NameKind.cell) else(n,k))::_)=_\/List.lookup x ((if(k==NameKind.free&&env.scope.kind==.function&&env.kindOf n==some .cell)=true then(n,NameKind.cell) else(n,k))::_)=_;cases hx:x==n with
  |true =>
   simp only[List.lookup_cons,hx] at h;cases h;by_cases hc:(NameKind.free==NameKind.free&&env.scope.kind==.function&&env.kindOf n==some .cell)=true
   ·rw[aF hc];simp[List.lookup_cons,hx]
   ·rw[az hc];simp[List.lookup_cons,hx]
  |false =>
   simp only[List.lookup_cons,hx] at h;by_cases hc:(k==NameKind.free&&env.scope.kind==.function&&env.kindOf n==some .cell)=true
   ·rw[aF hc];simp only[List.lookup_cons,hx];exact ih h
   ·rw[az hc];simp only[List.lookup_cons,hx];exact ih h
theorem L7{env:Env}:∀{names:List (Str×NameKind)} {x:Str},((names.map λ(n,k)=>if(k==NameKind.free&&env.scope.kind==.function&&env.kindOf n==some .cell) then(n,NameKind.cell) else(n,k)).lookup x=some .cell \/
  (names.map λ(n,k)=>if (k == NameKind.free && env.scope.kind == .function && env.kindOf n == some .cell) then (n,NameKind.cell) else (n,k)).lookup x=some .free)->names.lookup x=some .free \/ names.lookup x=some .cell
 |[],_,h=>by simp at h
 |(n,k)::r,x,h=>by
  have ih:=@L7 env r x;rw[ba] at h;cases hx:x==n with
  |true =>
   simp only[List.lookup_cons,hx];by_cases hc:(k==NameKind.free&&env.scope.kind==.function&&env.kindOf n==some .cell)=true
   ·left;simp only[Bool.and_eq_true,beq_iff_eq] at hc;rw[hc.1.1]
   ·simp only[if_neg hc,List.lookup_cons,hx] at h;rcases h with h|h
    ·exact .inr h
    ·exact .inl h
  |false =>
   simp only[List.lookup_cons,hx];by_cases hc:(k==NameKind.free&&env.scope.kind==.function&&env.kindOf n==some .cell)=true
   ·simp only[if_pos hc,List.lookup_cons,hx] at h;exact ih h
   ·simp only[if_neg hc,List.lookup_cons,hx] at h;exact ih h
noncomputable def C0(Z:St)(d6:List Nat)(n:Nat):St:=d6.map (λj=>(Z[j]?).join)++List.replicate (n-d6.length) none
section
variable{X:Cx}{pins:List (Addr×Obj)}{Z:St}{H:Hp}{s:Shared}
theorem Inv.Hq{scope:Scope}{N':List Str}{d6:List Nat}{cl:List (Str×Addr)}{C:Addr}{h1:Heap}{fp:List Addr}{tk:Nat}(I:Inv X pins Z H s)(S:da X scope N' d6 cl)(hc:X.calm=true)(hf:∀b∈fp,C1 X pins H b)(ho:∀b∈fp,∃o,s.heap.get? b=some o)(hC:s.heap.objs.size<=C)(hn:∃m,h1.Ns C m)(k:∀b o,s.heap.get? b=some o->h1.get? b=some o)(ck:CellsOk h1 (C+1) (cellsFrom (C+1) scope.names [])) :
  Inv (f6 X pins scope N' cl C s H fp) [] (C0 Z d6 N'.length) H { s with heap:=h1,toks:=tk }:=by
 obtain⟨m,hm⟩:=hn;have Mr:(relabel scope X.env).kind=.function:=S.kind;have DT:∀b o,s.heap.get? b=some o->b≠C:=λb o e z=>absurd (ay e) (by rw[z];exact ji.mpr hC);have two:∀{x:Str} {c:Addr},(J6 scope cl C).lookup x=some c->(C<c/\h1.IsCell c none/\(x,c)∈cellsFrom (C+1) scope.names [])\/(cl.lookup x=some c/\(cellsFrom (C+1) scope.names []).lookup x=none):=λ{x c} h=>by
  unfold J6 at h;rw[F4] at h;cases e:(cellsFrom (C+1) scope.names []).lookup x with
  |some c' =>
   rw[e] at h;cases h;have hm:=aM e;exact .inl ⟨(ck.empty x c hm).2,(ck.empty x c hm).1,hm⟩
  |none =>
   rw[e] at h;exact .inr ⟨h,rfl⟩
 have sZ:∀{x:Str} {c:Addr},cl.lookup x=some c->c<s.heap.objs.size:=λ{x c} h=>by
  obtain⟨v,o,e,_⟩:=I.cell x c (S.cin x c h);exact ay e
 have frees:∀{x:Str},scope.names.lookup x=some .free->(J6 scope cl C).lookup x=cl.lookup x:=λ{x} h=>by
  unfold J6;rw[F4];cases e:(cellsFrom (C+1) scope.names []).lookup x with
  |some c' =>
   have:=S.cells _ (T1 (aM e)) rfl;rw[h] at this;cases this
  |none=>rfl
 refine⟨⟨I.mod,Mr,I.ok.glob,I.ok.blt,hC,?_,?_,?_,λ_=>I.ok.hd hc,I.ok.frames,.inl rfl,?_,I.bs,?_,?_,?_,I.stack,I.xR⟩,rfl,I.bare,Un.kept k,⟨m,hm,?_⟩,?_,?_,?_,?_,I.bE.kept k,?_⟩
 ·intro x y c h1 h2;rcases two h1 with⟨l1,_,q1⟩|⟨q1,_⟩<;>rcases two h2 with⟨l2,_,q2⟩|⟨q2,_⟩
  ·exact PySem.name_of_addr ck.apart q1 q2
  ·exact absurd (cI l1 (ax (sZ q2) hC)) (bj _)
  ·exact absurd (cI l2 (ax (sZ q1) hC)) (bj _)
  ·exact I.ok.inj x y c (S.cin x c q1) (S.cin y c q2)
 ·intro x hx;rcases L7 (env:=X.env) (names:=scope.names) hx with z|z
  ·obtain⟨c,hc⟩:=S.uS x z;exact⟨c,(frees z).trans hc⟩
  ·have q:=dg scope.names (C+1) [] (.inl z);obtain⟨c,hc⟩:=dP.mp q;refine⟨c,?_⟩;show(J6 scope cl C).lookup x=some c;unfold J6;rw[F4,hc]
   rfl
 ·intro x c hf h;have z:scope.names.lookup x=some .cell:=bp hf;have q:=dg scope.names (C+1) [] (.inl z);rcases two h with⟨l,_⟩|⟨_,e⟩
  ·exact dE (fL hC l)
  ·rw[e] at q;cases q
 ·intro b hb;obtain⟨f0,f1,f2,f3,f4,f5⟩:=hf b hb;obtain⟨o,e⟩:=ho b hb;refine⟨DT b o e,λx c h=>?_⟩;rcases two h with⟨l,_⟩|⟨q,_⟩
  ·intro z;subst z;exact absurd (cI l (ax (ay e) hC)) (bj _)
  ·exact f4 x c (S.cin x c q)
 ·exact aG I.ok.mR I.sz
 ·intro b o e hb;obtain⟨f0,f1,f2,f3,f4,f5⟩:=hf b hb;rcases f3 with f3|f3
  ·exact I.ok.jV b o e f3
  ·exact absurd (ay (I.ok.bs b o e).1) (ji.mpr f3)
 ·intro b hb z;obtain⟨f0,f1,f2,f3,f4,f5⟩:=hf b hb;rcases aH.mp (I.K5 b z) with z|z
  ·exact f1 z
  ·exact f2 z
 ·intro i x v Np h2 h3;have hi:i<d6.length:=by
   unfold C0 at h2;by_cases hi:i<d6.length
   ·exact hi
   ·rw[bu (by simpa using hi),cZ] at h2;split at h2<;>cases h2
  obtain⟨j,hj⟩:∃j,d6[i]?=some j:=⟨_,ai hi⟩
  have hs:Z[j]?=some (some v):=by
   unfold C0 at h2;rw[aA (by simpa using hi),ak,hj] at h2;simp only[Option.map_some] at h2;cases e:Z[j]? with
   |none=>rw[e] at h2;cases h2
   |some a=>rw[e] at h2;exact fI some (aI h2)
  obtain⟨y,LO,LM,ze,Eh⟩:=S.NZ i j hj;have ey:y=x:=by
   have uB:N'[i]?=some x:=Np;rw[LO] at uB;exact aI uB
  subst ey;obtain⟨m0,hm0,hl⟩:=I.loc;obtain ⟨u,ru,hu⟩:=hl j y v LM hs (by
   rcases Eh with z|z
   ·exact .inr (.inl z)
   ·exact .inr (.inr z))
  refine⟨u,ru,.inr ⟨E0 (env:=X.env) (names:=scope.names) ze,?_⟩⟩;rcases hu with⟨z,_⟩|⟨_,c,pV,mx⟩
  ·rcases Eh with z'|z'<;>(rw[z'] at z;cases z)
  ·obtain⟨c',ja⟩:=S.uS y ze;have e:=S.cin y c' ja;rw[pV] at e;cases e;obtain⟨o,e1,e2⟩:=mx;exact⟨c,(frees ze).trans ja,o,k _ _ e1,e2⟩
 ·intro x c h;rcases two h with⟨_,q,_⟩|⟨q,_⟩
  ·exact⟨none,q⟩
  ·obtain⟨v,o,e1,e2⟩:=I.cell x c (S.cin x c q);exact⟨v,o,k _ _ e1,e2⟩
 ·exact I.bE.fresh hC
 ·intro x c h;rcases two h with⟨l,_⟩|⟨q,_⟩
  ·exact I.bE.fresh (dE (fL hC l))
  ·exact I.dZ x c (S.cin x c q)
 ·intro p hp;have iZ:p∈X.pn++pins:=by simpa[f6] using hp
  obtain⟨p1,p2,p3,p4,p5⟩:=I.pin p iZ;refine⟨k _ _ p1,p2,DT _ _ p1,λz=>?_,p5⟩;rcases aH.mp (I.K5 _ z) with z|z
  ·exact p3 z
  ·exact p4 z
 ·unfold C0;show _=N'.length;rw[bc,ag,ij];have:=S.AK;omega
theorem Inv.Jn{scope:Scope}{N':List Str}{cl:List (Str×Addr)}{C:Addr}{fp:List Addr}{ip:List (Addr×Obj)}{bN:St}{H':Hp}{s':Shared}(I:Inv X pins Z H s)(hf:∀b∈fp,C1 X pins H b)(J:Inv (f6 X pins scope N' cl C s H fp) ip bN H' s'):Inv X pins Z H' s' :=
 I.Cb (ch:=fp) J.os J.base J.bE J.bare λb hb=>by
  obtain⟨f0,f1,f2,f3,f4,f5⟩:=hf b hb;exact⟨f3,f1,f4,f5⟩
theorem Inv.Oy{D:Addr}{ys:List V}{aT:List Value}{n:Nat}(I:Inv X pins Z H s)(f:C1 X pins H D)(hs:X.cU.heap.objs.size<=D)(hv:Vals ys aT)(hz:ys.length<=sizeLine)(ho:s.heap.get? D=some { cls:=.type "list",data:=.seq aT.toArray n }):Inv X pins Z (upd H D (.lst ys)) s:=by
 obtain⟨f0,f1,f2,f3,f4,f5⟩:=f;have dw:∀b o,X.cU.heap.get? b=some o->b≠D:=λb o e z=>absurd (ay e) (by rw[z];exact ji.mpr hs);have tup:∀b u,H b=some u->upd H D (.lst ys) b=some u:=λb u e=>by rw[i0 (k9 e f0)];exact e
 refine⟨I.ok,I.os,I.bare,⟨?_,?_,?_,I.base.there,?_,?_,?_⟩,I.loc,I.cell,?_,?_,?_,?_,I.len⟩
 ·exact λb o e n1 n2 n3=>I.base.keep b o e n1 n2 n3
 ·exact λb o e n1 n2 n3=>I.base.slot b o e n1 n2 n3
 ·exact λb o e n1 n2=>by rw[i0 (dw b o e)];exact I.base.free b o e n1 n2
 ·exact λb xs e=>tup _ _ (I.base.gK b xs e)
 ·exact λb o u e=>tup _ _ (I.base.gs b o u e)
 ·exact λb ps e=>by
   obtain⟨more,q⟩:=I.base.gL b ps e;exact⟨more,tup _ _ q⟩
 ·rw[i0 f1.symm];exact I.free
 ·exact λx c e=>by rw[i0 (f4 x c e)];exact I.dZ x c e
 ·intro p hp;obtain⟨p1,p2,p3⟩:=I.pin p hp;exact⟨p1,by rw[i0 (f5 p hp)];exact p2,p3⟩
 ·intro a o e;by_cases ha:a=D
  ·subst ha;rw[s9] at e;cases e;exact⟨hz,aT,n,hv,ho⟩
  ·rw[i0 ha] at e;have q:=I.bE a o e;refine q.Q6 (λb u _ h=>h) (λb hb=>tup _ _ hb) (λb xs hb=>tup _ _ hb)
end
end L2

namespace L2
open PySem PySem.Spec PyProof.Rows
noncomputable def Cp(wi:TI)(d6:List Nat)(n:Nat)(g:TG)(tc:TT)(te:TE):TE:=λZ H Q=>wi Z H λJ H1=>∃W:Nat->Nat->List V->St->Hp->Prop,(∃m,W 0 m [] (C0 Z d6 n) H1)/\∀i m ys Z H,W i m ys Z H ->
 (J.stop i H/\∀p,H p=none->Q (.ref p) (upd H p (.lst ys))) \/
 (J.go i H/\ys.length < sizeLine/\∀ x H',J.pB i H x H'->g x Z H' λcb H2=>tc cb H2 λb H3 =>
  if b=true then te cb H3 λy H4=>∃ m',m' < m/\W (i + 1) m' (ys ++ [y]) cb H4 else ∃ m',m' < m/\W (i + 1) m' ys cb H3)
noncomputable abbrev M0(aT:List Value)(n:Nat):Obj:={ cls:=.type "list",data:=.seq aT.toArray n }
section
variable{X:Cx}{pins:List (Addr×Obj)}{Z:St}{H:Hp}{s:Shared}
theorem Ho{elt tg iter:Expr}{ifs:List Expr}{scope:Scope}{N':List Str}{d6:List Nat}{cl:List (Str×Addr)}{pos:Pos}{it:Addr}{fp:List Addr}{tn:Nat->Heap->Prop}{J:It}{g:TG}{tc:TT}{te:TE}{xx:Addr->Shared->Hp->Value->Shared->Prop}{RR:Value->Addr->Result->Shared->Prop}{E:Value->Shared->Prop}{W:Nat->Nat->List V->St->Hp->Prop}{m0:Nat}{Q:VK}(S:da X scope N' d6 cl)(hc:X.calm=true)(hg:∀C s H,PG (f6 X pins scope N' cl C s H fp) tg g)(ht:∀C s H,kz (f6 X pins scope N' cl C s H fp) ifs tc)(he:∀C s H,PE ((f6 X pins scope N' cl C s H fp).Y5 (xx C s H)) elt te)(I:Inv X pins Z H s)(T:Turn X.prog X.w X.K tg J fp it tn)(st:tn 0 s.heap)(hf:∀b∈fp,C1 X pins H b)(w0:W 0 m0 [] (C0 Z d6 N'.length) H)(turn:∀ i m ys Z H,W i m ys Z H->(J.stop i H/\∀ p,H p=none->Q (.ref p) (upd H p (.lst ys))) \/
   (J.go i H/\ys.length < sizeLine/\∀ x H',J.pB i H x H'->g x Z H' λcb H2=>tc cb H2 λb H3 =>
    if b=true then te cb H3 λy H4=>∃ m',m' < m/\W (i + 1) m' (ys ++ [y]) cb H4 else ∃ m',m' < m/\W (i + 1) m' ys cb H3))(zU:∀D C s' H' m,Inv X pins Z H' s'->Q (.ref D) H'->s'.heap.Ns C m->H' C=none->s.heap.objs.size<=C->RR (.ref D) C (.ok .next) s')(MR:∀D C e s',s.heap.objs.size<=C->xx C s H e s'->notedBy (model X.prog X.w) X.A (compEnvC scope (J6 scope cl C) C X.env) (λe s'=>RR (.ref D) C (.error e) s') e s') :
  wpAny (model X.prog X.w) X.A (newList []) (λacc eE=>wpAny (model X.prog X.w) X.A (newFunctionEnv scope X.env.globals cl [] X.env.qual none .none (some X.env)) (λkS iV =>
   kS.frame=X.env.frame/\codeAny (model X.prog X.w) X.A (.compStart (.ListComp elt [⟨tg,iter,ifs,0⟩] scope pos) 0 (.ref it) acc { kS with scope:=relabel scope X.env }) (RR acc kS.locals) iV) E eE) E s:=by
 refine bX (Ic λh₁ fV fh mr=>?_);dsimp only at fV fh mr ⊢;generalize qb:s.heap.push { cls:=.type "list",dict:=none,data:=.seq ([]:List Value).toArray }=H2 at fV fh mr ⊢;generalize eD:s.heap.objs.size=D at *;have hC:H2.objs.size=D+1:=by rw[<- qb,dQ,eD]
 generalize eC:H2.objs.size=C at *;have uv:D≠C:=by omega
 have lt:∀b o,s.heap.get? b=some o->b<D:=λb o e=>by rw[<- eD];exact ay e
 have pL:D<=C:=by omega
 have nX:∀b o,s.heap.get? b=some o->b≠C:=λb o e=>aN (ax (lt b o e) pL);have lQ:∀b o,s.heap.get? b=some o->b≠D:=λb o e=>aN (lt b o e);have old:∀b o,s.heap.get? b=some o->h₁.get? b=some o:=λb o e=>fh b o (qb▸au _ e);have kc:h₁.get? D=some (M0 [] 0):=fh _ _ (by rw[<- qb,<- eD];exact aD _ rfl);have iw:∀b∈fp,∃o,s.heap.get? b=some o:=λb hb=>by
  obtain⟨o,e,_⟩:=T.obj _ _ st b hb;exact⟨o,e⟩
 have uu:D∉fp:=λhm=>by
  obtain⟨o,e⟩:=iw D hm;exact lQ D o e rfl
 have X1:Inv (f6 X pins scope N' cl C s H fp) [] (C0 Z d6 N'.length) H { s with heap:=h₁ } :=
  I.Hq S hc hf iw (by rw[eD];omega) ⟨_,fV⟩ old mr
 have sP:tn 0 h₁:=T.keep _ _ _ st λb _ o e=>old b o e;have Ar:∀{H':Hp},(∀b∈fp,H' b=none)->∀b∈fp,C1 (f6 X pins scope N' cl C s H fp) [] H' b:=λhn b hb=>by
  obtain⟨f0,f1,f2,f3,f4,f5⟩:=hf b hb;obtain⟨o,e⟩:=iw b hb;refine⟨hn b hb,?_,?_,.inl hb,λx c q=>(xU mr q).elim (λl z=>absurd (cI (z▸l) (ax (lt b o e) pL)) (bj _)) λq=>f4 x c (S.cin x c q),λp hp=>?_⟩
  ·exact nX b o e
  ·exact λz=>by
    rcases aH.mp (I.K5 b z) with z|z
    ·exact f1 z
    ·exact f2 z
  ·have iZ:p∈X.pn++pins:=by simpa[f6] using hp
   exact f5 p iZ
 have fD:∀{H':Hp},H' D=none->C1 (f6 X pins scope N' cl C s H fp) [] H' D:=λhn=>by
  refine⟨hn,uv,λz=>?_,.inr (by show s.heap.objs.size<=D;omega),λx c q=>?_,λp hp=>?_⟩
  ·exact absurd (I.uV (a:=D) (by omega)) λoq=>by
    rcases aH.mp (I.K5 D z) with z|z
    ·exact absurd I.lt (by rw[<- z,eD];exact bj _)
    ·exact oq z
  ·rcases xU mr q with l|q
   ·exact λz=>absurd (ax (z▸l) pL) (bj _)
   ·obtain⟨v,o,e,_⟩:=I.cell x c (S.cin x c q);exact lQ c o e
  ·have iZ:p∈X.pn++pins:=by simpa[f6] using hp
   exact lQ _ _ (I.pin p iZ).1
 have pI:∀{H':Hp} {s':Shared} {bN:St} {aT:List Value} {n:Nat},Inv (f6 X pins scope N' cl C s H fp) [] bN H' s'->H' D=none->s'.heap.get? D=some (M0 aT n) ->
   Inv (f6 X pins scope N' cl C s H fp) [(D,M0 aT n)] bN H' s':=λ{H' s' bN aT n} J0 hn e=>J0.J9 λp hp=>by
  have z:p=(D,M0 aT n):=by simpa using hp
  subst z;obtain⟨f0,f1,f2,_⟩:=fD hn;exact⟨e,f0,f1,f2,λv z=>nomatch z⟩
 have qk:∀{H':Hp} {aT:List Value} {n:Nat},(∀b∈fp,H' b=none)->∀b∈fp,C1 (f6 X pins scope N' cl C s H fp) [(D,M0 aT n)] H' b:=λ{H' aT n} hn b hb=>by
  obtain⟨f0,f1,f2,f3,f4,f5⟩:=Ar hn b hb;refine⟨f0,f1,f2,f3,f4,λp hp=>?_⟩;have iZ:p∈(f6 X pins scope N' cl C s H fp).pn\/p=(D,M0 aT n):=by simpa using hp
  rcases iZ with z|z
  ·exact f5 p (dA _ z)
  ·subst z;exact λz=>uu (by rw[show D=b from z];exact hb)
 have loop:∀eE:Shared,eE={ s with heap:=h₁ } ->
   codeAny (model X.prog X.w) X.A (.compLoop (.ListComp elt [⟨tg,iter,ifs,0⟩] scope pos) 0 (.ref it) (.ref D) (compEnvC scope (J6 scope cl C) C X.env)) (RR (.ref D) C) eE:=by
  rintro eE rfl;refine aC5 (λn s'=>∃ i ys bN H' aT nn,Inv (f6 X pins scope N' cl C s H fp) [] bN H' s'/\tn i s'.heap/\(∀ b ∈ fp,H' b=none)/\H' D=none/\Vals ys aT/\ys.length <= sizeLine /\
   s'.heap.get? D=some (M0 aT nn)/\W i n ys bN H') ?_ m0 ⟨0,[],_,H,[],0,X1,sP,λb hb=>(hf b hb).1,I.bE.fresh (by omega),.nil,cB _,kc,w0⟩
  rintro n s3 ⟨i,ys,gT,H3,aT,nn,I3,nT,oG,d3,v3,z3,o3,w3⟩;have vE:=pI I3 d3 o3;rcases turn i n ys gT H3 w3 with⟨stop,q⟩|⟨go,hz,step⟩
  ·refine cy (T.done (f6 X pins scope N' cl C s H fp) rfl rfl rfl rfl i _ s3 _ H3 _ vE (qk oG) nT stop) λr s4 ⟨hr,I4⟩=>?_;subst hr;have o4:=(I4.pin (D,M0 aT nn) (by simp)).1;have J4:Inv X pins Z H3 s4:=I.Jn hf I4;have As:C1 X pins H3 D:=by
    refine⟨d3,bO (by rw[<- eD];exact I.lt),I.uV (by omega),.inr (by have:=I.sz;omega),λx c q=>?_,λp hp=>?_⟩
    ·obtain⟨v,o,e,_⟩:=I.cell x c q;exact lQ c o e
    ·exact lQ _ _ (I.pin p hp).1
   obtain⟨mC,zw,_⟩:=I4.loc;exact zU D C s4 (upd H3 D (.lst ys)) mC (J4.Oy As (by have:=I.sz;omega) v3 z3 o4) (q D d3) zw (by rw[i0 uv.symm];exact I4.free) (by omega)
  ·refine cy (T.item (f6 X pins scope N' cl C s H fp) rfl rfl rfl rfl i _ s3 _ H3 _ vE (qk oG) nT go) λr s4 ⟨u,hr,h4⟩=>?_;subst hr;refine cy h4 λ_ s5 ⟨x,H5,I5,r5,y5,lN,uG⟩=>?_;have o5:=I5.pin (D,M0 aT nn) (by simp);have vD:=I5.pinned (qk uG) (T.obj _ _ lN);refine cy (hg C s H _ s5 _ H5 x u _ vD r5 (step x H5 y5)) λ_ s6 ⟨kE,H6,I6,q6⟩=>?_;refine cy (ht C s H _ s6 kE H6 _ I6 q6) λok s7 ⟨H7,I7,q7⟩=>?_;have back:∀{sE:St} {H8:Hp} {s8:Shared},Inv (f6 X pins scope N' cl C s H fp) ([(D,M0 aT nn)]++W7 fp s5.heap) sE H8 s8->(∀b∈fp,H8 b=none)/\tn (i+1) s8.heap/\H8 D=none/\s8.heap.get? D=some (M0 aT nn) :=
    λ{sE H8 s8} I8=>by
     have pf:∀b∈fp,∀o,s5.heap.get? b=some o->s8.heap.get? b=some o/\H8 b=none:=λb hb o e=>by
      have:=I8.pin (b,o) (bq _ (bq _ (P0 hb e)));exact⟨this.1,this.2.1⟩
     have pd:=I8.pin (D,M0 aT nn) (by simp);refine⟨λb hb=>?_,T.keep _ _ _ lN λb hb o e=>(pf b hb o e).1,pd.2.1,pd.1⟩;obtain⟨o,e,_⟩:=T.obj _ _ lN b hb;exact(pf b hb o e).2
   cases ok with
   |false =>
    obtain⟨m',hm,w7⟩:=q7;obtain⟨b1,b2,b3,b4⟩:=back I7;exact⟨m',hm,i+1,ys,kE,H7,aT,nn,I7.J9 λp hp=>absurd hp (by simp),b2,b1,b3,v3,z3,b4,w7⟩
   |true =>
    refine bx (he C s H _ s7 kE H7 _ (I7.Y5 _) q7) (λxv s8 lX=>?_) λe s' hx=>MR D C e s' (by omega) hx;obtain⟨y,H8,I8,r8,m',hm,w8⟩:=lX;have I8:=I8.AS;obtain⟨b1,b2,b3,b4⟩:=back I8;refine eQ F.slot_list_append ⟨_,b4,rfl⟩ F.entry_list_append (F.args_list_append_2 _ _) (PySem.list_append D aT.toArray nn xv (by rw[aE];have:=v3.length;omega)) ⟨b4,?_⟩;have q:∃n',(s8.heap.update D (Obj.mapSeq (·.push xv))).get? D=some (M0 (aT++[xv]) n'):=by
     have q0:=PySem.IsL.update b4 (·.push xv);have e0:aT.toArray.push xv=(aT++[xv]).toArray:=by simp
     rw[e0] at q0;exact⟨_,q0⟩
    obtain⟨n',q⟩:=q;have Dp:Inv (f6 X pins scope N' cl C s H fp) [] kE H8 s8:=I8.J9 λp hp=>absurd hp (by simp);obtain⟨f0,f1,f2,f3,f4,f5⟩:=fD (H':=H8) b3;have kp:∀b o,b≠D->s8.heap.get? b=some o->(s8.heap.update D (Obj.mapSeq (·.push xv))).get? b=some o:=λb' u hb hu=>(bV s8.heap (Obj.mapSeq (·.push xv)) (bC hb)).trans hu;refine⟨m',hm,i+1,ys++[y],kE,H8,aT++[xv],n',Dp.turned (it:=D) (t':=s8.toks) kp f0 f1 f3 f4 f5,T.keep _ _ _ b2 λb hb o e=>kp b o (λz=>uu (by rw[<- z];exact hb)) e,b1,b3,v3.append (.cons r8 .nil),?_,q,w8⟩;rw[bc,eW];omega
 exact⟨rfl,codeAny_compStart_list (loop _ rfl) (T.self _ 0 _ _ _ sP (loop _ rfl))⟩
theorem Inv.Cf{C:Addr}{h':Heap}{s2:Shared}{H2:Hp}(I:Inv X pins Z H s)(hC:s2.heap.objs.size<=C)(I2:Inv X pins Z H2 s2)(hn:H C=none)(sb:Heap.SameBut C s.heap h'):Inv X pins Z H { s with heap:=h' }:=by
 have f:=I2.oQ (b:=C) (H':=H) hC hn;obtain⟨f0,f1,f2,f3,f4,f5⟩:=f;exact I.turned (t':=s.toks) (λb o hb e=>sb.extBut b o hb e) f0 f1 f3 f4 f5
theorem Hs{M:Model}{A:Around}{E:Value->Shared->Prop}{s:Shared}{a:Sem Value}{b:Sem Env}{P:Env->Prop}{Q:Value->Env->Shared->Prop}(h:wpAny M A a (λx s1=>wpAny M A b (λy s2=>P y/\Q x y s2) E s1) E s):wpAny M A a (λx s1=>wpAny M A b (λy s2=>Q x y s2) E s1) E s :=
 bx h (λ_ _ h=>bx h (λ_ _ h=>h.2) λ_ _ z=>z) λ_ _ z=>z
theorem IW{elt tg iter:Expr}{ifs:List Expr}{scope:Scope}{N':List Str}{d6:List Nat}{cl:List (Str×Addr)}{pos:Pos}{wi:TI}{g:TG}{tc:TT}{te:TE}(S:da X scope N' d6 cl)(hc:X.calm=true)(hi:PI X tg iter wi)(hg:∀pins C s H fp,PG (f6 X pins scope N' cl C s H fp) tg g)(ht:∀pins C s H fp,kz (f6 X pins scope N' cl C s H fp) ifs tc)(he:∀pins C s H fp,PE (f6 X pins scope N' cl C s H fp) elt te)(hs:∀x,foldedSetIterable iter X.env x=pure x):PE X (.ListComp elt [⟨tg,iter,ifs,0⟩] scope pos) (Cp wi d6 N'.length g tc te):=by
 intro pins s Z H Q I h;rw[eval_ListComp];refine ia (use:=none) rfl hs S.qr S.kind S.names (cy (hi pins s Z H _ I h) λxv bQ h₁=>cy h₁ λtO fQ iu=>?_);obtain⟨it,fp,tn,J,H2,e,I2,T,jT,f2,W,⟨m0,w0⟩,turn⟩:=iu;subst e;refine Hs (Ho (xx:=λ_ _ _ _ _=>False) (RR:=λacc C=>compPost (model X.prog X.w) X.A X.xe none (EP X pins Z Q) acc C) S hc (λC s H=>hg pins C s H fp) (λC s H=>ht pins C s H fp) (λC s H=>he pins C s H fp) I2 T jT f2 w0 turn ?_ λ_ _ _ _ _ z=>z.elim);intro D C s' H' m I' q hn hC hsz;exact⟨m,hn,λh' sb=>⟨.ref D,H',I'.Cf hsz I2 hC sb,rfl,q⟩⟩
theorem ZR{elt tg iter:Expr}{ifs:List Expr}{scope:Scope}{N':List Str}{d6:List Nat}{cl:List (Str×Addr)}{pos sQ px:Pos}{wi:TI}{g:TG}{tc:TT}{te:TE}{i:Nat}{x:Str}(S:da X scope N' d6 cl)(hc:X.calm=true)(hi:PI X tg iter wi)(hg:∀pins C s H fp,PG (f6 X pins scope N' cl C s H fp) tg g)(ht:∀pins C s H fp,kz (f6 X pins scope N' cl C s H fp) ifs tc)(he:∀pins C s H fp,PE (f6 X pins scope N' cl C s H fp) elt te)(hs:∀x,foldedSetIterable iter X.env x=pure x)(hN:X.N.Nodup)(ud:X.N[i]?=some x)(hx:Loc X.env.scope x)(hf:X.fn x=true\/X.env.scope.names.lookup x=some .local) :
  PS X (.Assign [.Name x px] (.ListComp elt [⟨tg,iter,ifs,0⟩] scope pos) sQ) (uX (Cp wi d6 N'.length g tc te) (rV i)):=by
 intro pins s Z H D I h;have wk:∃b,swapsWith (.ListComp elt [⟨tg,iter,ifs,0⟩] scope pos) (some (.Name x px)) sQ.line X.env=pure b:=⟨_,rfl⟩
 obtain⟨b,wk⟩:=wk;cases b with
 |false=>exact Iu hN ud hx (IW S hc hi hg ht he hs) wk hf pins s Z H D I h
 |true =>
  rw[exec_Assign_Name_used _ _ _ _ wk];refine ae (dB (ae ?_));show wpAny _ X.A (do let _ <- comprehension (.ListComp elt [⟨tg,iter,ifs,0⟩] scope pos) scope X.env _ (newList []) false (eval iter X.env) (some (assign (.Name x px) X.env))) _ _ s;refine ae (bx (ia (use:=some (assign (.Name x px) X.env)) (Q:=λ_ s'=>SP X pins D .next s') rfl hs S.qr S.kind S.names
   (cy (hi pins s Z H _ I h) λxv bQ h₁=>cy h₁ λtO fQ iu=>?_)) (λ_ s' hq=>ao (ao hq)) λ_ _ e=>e)
  obtain⟨it,fp,tn,J,H2,e,I2,T,jT,f2,W,⟨m0,w0⟩,turn⟩:=iu;subst e;refine Hs (Ho (xx:=λ_ _ _ _ _=>False) (Q:=λv H1=>rV i v Z H1 D.nx) (RR:=λacc C=>compPost (model X.prog X.w) X.A X.xe (some (assign (.Name x px) X.env)) (λ_ s'=>SP X pins D .next s') acc C) S hc (λC s H=>hg pins C s H fp) (λC s H=>ht pins C s H fp) (λC s H=>he pins C s H fp) I2 T jT f2 w0 turn ?_ λ_ _ _ _ _ z=>z.elim);intro Dl C s' H' m I' q hn hC hsz;show wpAny _ X.A (assign (.Name x px) X.env (.ref Dl)) _ _ _;refine wpAny_assign_Name (Hh I' hN ud hx (v:=.ref Dl) rfl (λs3 I3 ⟨a,sb,ha⟩=>?_) hf);have MX:C≠a:=by
   obtain⟨f0,f1,f2,f3,f4,f5⟩:=I2.oQ (b:=C) (H':=H') hsz hC;rcases ha with z|z
   ·rw[z];exact f1
   ·exact λz'=>f4 _ _ z z'.symm
  obtain⟨f0,f1,f2,f3,f4,f5⟩:=I2.oQ (b:=C) (H':=H') hsz hC;refine⟨m,hn.sameBut sb MX,λh3 KZ=>⟨_,H',I3.turned (t':=s3.toks) (λb o hb e=>KZ.extBut b o hb e) f0 f1 f3 f4 f5,q⟩⟩
end
end L2

namespace HT
open PySem PyProof.Rows
section
variable{prog:Program}{w:World}{A:Around}{E:Value->Shared->Prop}{s:Shared}
theorem a57{t b:Addr}{ws:List Value}{Q:Value->Shared->Prop}(ht:IsTup s.heap t #[])(hb:IsTup s.heap b ws.toArray)(h1:Q (.ref b) s):wpAny (model prog w) A (binaryOp .Add (.ref t) (.ref b)) Q E s:=by
 obtain⟨⟨cls,dd,data,sl⟩,ho,hc,n,hd⟩:=id ht;obtain⟨⟨uR,oK,data2,kh⟩,jY,mx,n2,hd2⟩:=id hb;simp only at hc hd mx hd2;subst hc hd mx hd2;exact concat_meets ⟨_,ho,rfl⟩ ⟨_,jY,rfl⟩ iJ kT gR gE (gg _ _)
   (tuple_addW0 t b #[] ws.toArray n n2 dd oK sl kh rfl) ⟨ho,jY,h1⟩
theorem Xf{t sl:Addr}{items:Array Value}{vl vu:Value}{lo hi:Option Int}{Q:Value->Shared->Prop}(ht:IsTup s.heap t items)(hs:s.heap.IsSliceOf sl vl vu .none)(pl:IsPart vl lo)(pu:IsPart vu hi)(hw:de items.size 0 lo=0/\de items.size items.size hi=items.size)(h:Q (.ref t) s):wpAny (model prog w) A (getItem (.ref t) (.ref sl)) Q E s:=by
 obtain⟨os,pP,wy,uf⟩:=id hs;have zS:s.TypeIs (.ref sl) "slice":=⟨os,pP,wy⟩
 unfold getItem
 try with_reducible refine cg ?_
 first|refine ae (ao ?_)|skip
 refine ae (wpAny_sequenceKey ht.typeIs (by decide) ?_);refine ae (eU (name:=Str.ofString "__getitem__") ht.typeIs bG
  (cC bG ht.typeIs entry_tuple_getitem ?_ (args_tuple_getitem _ _)))
 show wpAny _ _ (Builtin.Tuple.tupleItemsOf (.ref t) >>= _) _ _ s;refine ae (tupleItemsOf_ ht ?_);refine ae (eh zS ?_);rw[aF (by decide)];refine ae (Q7 hs pl pu ?_);have zd:((((de items.size 0 lo:Nat):Int)==0&&(1:Int)==1&&(de items.size items.size hi-de items.size 0 lo)==items.size)=true):=by
  rw[hw.1,hw.2];simp
 show wpAny _ _ (if(((de items.size 0 lo:Nat):Int)==0&&(1:Int)==1&&(de items.size items.size hi-de items.size 0 lo)==items.size)=true then _ else _) _ _ s;rw[aF zd];obtain⟨o,ho,hc,_⟩:=id ht;unfold Builtin.Tuple.tupleIsExact;refine ae (ae (eh ht.typeIs (ao ?_)));rw[aF (by decide)]
 first
  |exact wpAny_bind (wpAny_rule (wpAny_bind (wpAny_pure ⟨_,rfl,wpAny_pure h⟩)))
  |exact wpAny_bind (wpAny_rule (wpAny_pure ⟨_,rfl,wpAny_pure h⟩))
  |exact wpAny_bind (wpAny_rule (wpAny_bind (wpAny_pure (wpAny_pure ⟨_,rfl,wpAny_pure h⟩))))
end
end HT
namespace L2
open PySem PySem.Spec PyProof.Rows
section
variable{X:Cx}
noncomputable def Qw(K:PySem.W.Frag):R2:=λx y H Q=>∃a b xs ys,x=.ref a/\y=.ref b/\gX K H a xs/\gX K H b ys/\xs.length+ys.length<=sizeLine /\
 (xs=[]->Q (.ref b) H)/\(ys=[]->Q (.ref a) H)/\(∀p,H p=none->Q (.ref p) (upd H p (.tup (xs++ys))))
theorem a32:fc X (binaryOp .Add) (Qw X.K):=by
 intro pins s Z H x y v u Q I rx ry h;obtain⟨a,b,xs,ys,rfl,rfl,ha,hb,hz,q0,q1,q2⟩:=h;by_cases hx:xs=[]
 ·subst hx;cases rx;cases ry;obtain⟨aT,r1,p1,_⟩:=I.tuple ha;obtain⟨lS,r2,p2,_⟩:=I.tuple hb;cases r1;exact HT.a57 p1 p2 ⟨.ref b,H,I,rfl,q0 rfl⟩
 ·exact Sq pins s Z H _ _ v u Q I rx ry ⟨a,b,xs,ys,rfl,rfl,ha,hb,hx,hz,q1,λ_=>q2⟩
noncomputable def WD(K:PySem.W.Frag):V->Option Int->Option Int->Hp->VK->Prop:=λx lo hi H Q=>∃a xs,x=.ref a/\gX K H a xs /\
 (S7 xs lo hi=xs->Q (.ref a) H)/\∀p,H p=none->Q (.ref p) (upd H p (.tup (S7 xs lo hi)))
theorem Tp:vy X (WD X.K):=by
 intro pins s Z H x v vl vu lo hi sl Q I rx hs pl pu h;obtain⟨a,xs,rfl,hx,q0,q⟩:=h;by_cases hw:HT.de xs.length 0 lo=0/\HT.de xs.length xs.length hi=xs.length
 ·cases rx;obtain⟨aT,r,ht,hz⟩:=I.tuple hx;have hlen:aT.toArray.size=xs.length:=by rw[aE];exact r.length.symm
  refine⟨"tuple",_,bG.lookup,ht.typeIs,?_⟩;exact HT.Xf ht hs pl pu (by rw[hlen];exact hw) ⟨.ref a,H,I,rfl,q0 (by unfold S7;rw[hw.1,hw.2];simp)⟩
 ·exact QQ pins s Z H _ v vl vu lo hi sl Q I rx hs pl pu ⟨a,xs,rfl,hx,hw,q⟩
theorem ZG:m8 X (.builtin "isinstance") (λxs H Q=>∃x t c b,xs=[x,.ty c]/\gw X.K H x t/\PySem.W.kitOne X.K t (.type c)=some b/\Q (.bl b) H):=by
 intro pins s Z H xs us Q I r h;obtain⟨x,t,c,b,rfl,hT,hk,q⟩:=h;obtain⟨u,w',rfl,ru,fz⟩:=vals2 r;cases (show w'=Value.type c from fz);exact XW I ru hT hk λtk=>⟨.bl b,H,I.tok tk,rfl,q⟩
theorem XC(hc:X.calm=true):m8 X (.builtin "all") (λxs H Q=>∃(a:Addr) (bs:List Bool),xs=[.ref a]/\fm X.K H a (bs.map V.bl)/\Q (.bl (bs.all id)) H):=by
 intro pins s Z H xs us Q I r h;obtain⟨a,bs,rfl,ha,q⟩:=h;obtain⟨u,rfl,ru⟩:=vals1 r;cases ru;obtain⟨aT,rv,p,hz⟩:=I.list ha;refine call_all_walk ?_;refine gZ p.isList ?_;have dw:a≠s.heap.objs.size:=by
  obtain⟨o,e,_⟩:=id p.isList;exact aN (ay e)
 have hl:=rv.length;rw[ag] at hl;refine⟨s.heap.objs.size,_,_,_,_,_,λi=>bs.getD i true,rfl,Walks.list (A:=X.A.in1) (I.ok.hd hc) _ a dw aT.toArray,⟨⟨_,aD _ rfl,rfl,rfl⟩,?_⟩,?_,λh' tk k=>?_⟩
 ·obtain⟨o,e,q1⟩:=id p.isList;exact⟨o,au _ e,q1⟩
 ·intro i v s' Q' E' hP hQ;have hv:aT[i]?=some v:=by simpa using hP
  have hi:i<bs.length:=by rw[hl];exact(aj.mp hv).1
  obtain⟨u',tR,yH⟩:=rv.get (i:=i) (x:=V.bl bs[i]) (by rw[ak,ai hi];rfl);rw[hv] at tR;cases tR;cases (show v=Value.bool bs[i] from yH);refine cj ?_;have:bs.getD i true=bs[i]:=by simp[List.getD,hi]
  dsimp only at hQ;rw[this] at hQ;exact hQ
 ·have e1:(List.range aT.toArray.size).all (λi=>bs.getD i true)=bs.all id:=by
   rw[aE,<- hl];rw[bf];simp only[List.all_eq_true,List.mem_range,id];constructor
   ·intro hh x hx;obtain⟨i,hi,rfl⟩:=bH.mp hx;have:=hh i hi;simpa[List.getD,hi] using this
   ·intro hh i hi;have:=hh bs[i] (cx hi);simpa[List.getD,hi] using this
  rw[e1];exact ⟨.bl (bs.all id),H,I.kept (t':=tk) λb o e=>k b o (by
   intro hb;have:b=s.heap.objs.size:=by simpa using hb
   exact absurd (ay e) (by rw [this];exact bj _)) (au _ e),rfl,q⟩
end
end L2

namespace HT
open PySem PyProof.Rows
section
variable{prog:Program}{w:World}{A:Around}{E:Value->Shared->Prop}{s:Shared}
end
end HT
namespace L2
open PySem PySem.Spec PyProof.Rows
section
variable{X:Cx}{e st:Expr}{te ts:TE}{pos p2:Pos}
end
end L2

namespace L2
open PySem PySem.Spec PyProof.Rows
theorem m7.get{P:Program}{w:World}{H:Hp}{h:Heap}{a:Addr}:∀{o:HO},m7 P w H h a o->∃ob,h.get? a=some ob
 |.lst _,x=>by obtain⟨_,_,_,_,e⟩:=x;exact⟨_,e⟩
 |.tup _,x=>by obtain⟨_,_,_,o,e,_⟩:=x;exact⟨o,e⟩
 |.dK _,x=>by obtain⟨_,_,_,_,o,es,ep,e,_⟩:=x;exact⟨o,e⟩
 |.dT _,x=>by obtain⟨_,_,_,_,o,es,ep,e,_⟩:=x;exact⟨o,e⟩
 |.set _ _,x=>by obtain⟨o,es,ep,t,e,_⟩:=x;exact⟨o,e⟩
 |.ins _ _ _,x=>by obtain⟨_,_,_,e,_⟩:=x;exact⟨_,e⟩
 |.own _,x=>x
 |.xd _,x=>by obtain⟨mA,n,_⟩:=x;obtain⟨od,e,_⟩:=GV n;exact⟨od,e⟩
 |.lg _ _,x=>by obtain⟨_,_,_,e⟩:=x;exact⟨_,e⟩
 |.jb _ _,x=>⟨_,x.1⟩
 |.nQ _,x=>⟨_,x⟩
 |.met _ _,x=>⟨_,x⟩
 |.ext _,x=>x.2.1
noncomputable def BW(H':Hp)(h0:Heap)(l:List Env)(e:Value)(C:Addr)(h:Heap):Prop :=
 ∃(ea:Addr) (a0:Value) (B:Heap),e=.ref ea/\Heap.FlyingW B l ea (.ref C) a0 h/\∀b o,h.get? b=some o->b∉fk l->(H' b≠none\/∃o0,h0.get? b=some o0)->B.get? b=some o
noncomputable def iG(P:Program)(w:World):mI:=λouter H s E e s'=>∃(C:Addr) (H':Hp),s'.os=s.os/\AllBare s'.gens/\Un (fk outer) [] H H' s.heap s'.heap/\fG P w H' s'.heap/\BW H' s.heap outer e C s'.heap/\E (.ref C) none H'
section
variable{X:Cx}{pins:List (Addr×Obj)}{Z:St}{H:Hp}{s s':Shared}{E:XK}{e:Value}
theorem Inv.flew(I:Inv X pins Z H s)(h:iG X.prog X.w X.stack H s E e s'):∃C H',Inv X pins Z H' s'/\BW H' s.heap X.stack e C s'.heap/\E (.ref C) none H':=by
 obtain⟨C,H',ho,hb,hu,bE,fl,hE⟩:=h;exact⟨C,H',I.Cb (ch:=[]) ho hu bE hb (by simp),fl,hE⟩
theorem xV(I:Inv X pins Z H s){b:Addr}(hb:b∈fk X.stack):∃o,s.heap.get? b=some o/\∀vs,o.data≠.fields vs:=(I.stack.mem hb).2
theorem Ce{mP:Heap}{B:Heap}{ea C:Addr}{a0:Value}(I:Inv X pins Z H s)(fq:X.stack=X.env::X.outer)(hex:X.ex=[])(hf:X.env.frame=some X.env.locals)(oi:∀b o,s.heap.get? b=some o->b∉fk X.stack->(H b≠none\/∃o0,X.cU.heap.get? b=some o0)->B.get? b=some o)(sl:∀b∈fk X.stack,∀o,s.heap.get? b=some o->∃sl,mP.get? b=some { o with slots:=sl })(fw:Heap.FlyingW B X.outer ea (.ref C) a0 mP)(hE:E (.ref C) none H):iG X.prog X.w X.outer X.iN X.cU E (.ref ea) { s with heap:=mP }:=by
 have zi:∀b,b∈fk X.outer->b∈fk X.stack:=λb hb=>by rw[fq];unfold fk at hb ⊢;rw[dJ,hf];exact bI _ hb
 have tu:∀b o,X.cU.heap.get? b=some o->b∉fk X.outer->b∉fk X.stack:=λb o e hb z=>by
  rcases aH.mp (I.K5 b z) with z|z
  ·exact absurd (ay e) (by rw[z];exact ji.mpr I.ok.above)
  ·exact hb z
 have mW:∀b u,H b=some u->b∉fk X.stack:=λb u e z=>by rw[I.xR b z] at e;cases e
 have kept:∀b o,s.heap.get? b=some o->b∉fk X.stack->(H b≠none\/∃o0,X.cU.heap.get? b=some o0)->mP.get? b=some o:=λb o e n q=>fw.1 b o (oi b o e n q);have tD:∀b,b∉X.ex:=λb=>by rw[hex];simp
 refine⟨C,H,I.os,I.bare,⟨?_,?_,?_,?_,I.base.gK,I.base.gs,I.base.gL⟩,?_,⟨ea,a0,B,rfl,fw,?_⟩,hE⟩
 ·exact λb o e n1 n2 _=>kept b o (I.base.keep b o e n1 n2 (tD b)) (tu b o e n2) (.inr ⟨o,e⟩)
 ·intro b o e n1 n2 _;obtain⟨KU,e1⟩:=I.base.slot b o e n1 n2 (tD b);obtain⟨kh,e2⟩:=sl b (zi b n2) _ e1;exact⟨kh,e2⟩
 ·exact λb o e n1 _=>I.base.free b o e n1 (tD b)
 ·intro b o e _;obtain⟨o1,e1⟩:=I.base.there b o e (tD b);by_cases hb:b∈fk X.stack
  ·obtain⟨kh,e2⟩:=sl b hb _ e1;exact⟨_,e2⟩
  ·exact⟨o1,kept b o1 e1 hb (.inr ⟨o,e⟩)⟩
 ·intro a o e;exact (I.bE a o e).Q6 (λb u hb q=>by
   have jJ:∃v,H b=some v:=by
    rcases hb with rfl|hb
    ·exact⟨o,e⟩
    ·exact⟨_,hb⟩
   obtain⟨v,hv⟩:=jJ;exact kept b u q (mW b v hv) (.inl (by rw [hv];simp))) (λb hb=>hb) (λb xs hb=>hb)
 ·intro b o e n q;rcases q with q|⟨o0,q⟩
  ·obtain⟨v,hv⟩:=mT.mp q;obtain⟨o1,e1⟩:=(I.bE b v hv).get;have z:=oi b o1 e1 (mW b v hv) (.inl (by rw[hv];simp));have z':=fw.1 b o1 z;have:o=o1:=by
    have e':mP.get? b=some o:=e;rw[z'] at e';exact(aI e').symm
   subst this;exact z
  ·obtain⟨o1,e1⟩:=I.base.there b o0 q (tD b);have z:=oi b o1 e1 (tu b o0 q n) (.inr ⟨o0,q⟩);have z':=fw.1 b o1 z;have:o=o1:=by
    have e':mP.get? b=some o:=e;rw[z'] at e';exact(aI e').symm
   subst this;exact z
theorem aA8{h0:Heap}{C:Addr}{Ex:Value->Shared->Prop}(I:Inv X pins Z H s)(fl:BW H h0 X.stack e C s.heap)(Nr:∀b o,X.cU.heap.get? b=some o->∃o',h0.get? b=some o')(fq:X.stack=X.env::X.outer)(hex:X.ex=[])(hf:X.env.frame=some X.env.locals)(hE:E (.ref C) none H):wpAny (model X.prog X.w) X.A (leaving X.env e) (λ_ mX=>iG X.prog X.w X.outer X.iN X.cU E e mX) Ex s:=by
 obtain⟨ea,a0,B,rfl,fw,hB⟩:=fl;have fw0:=fw;rw[fq] at fw;refine wpAny_leaves_onW (by rw[I.ok.frames,fq]) hf fw λmP wL us=>?_;refine Ce I fq hex hf (λb o e n q=>hB b o e n (q.imp id λ⟨o0,q⟩=>Nr b o0 q)) (λb hb o e=>?_) wL hE;obtain⟨o1,e1,nf⟩:=xV I hb;rw[e] at e1;cases e1;exact us b o e nf
theorem Za{h':Heap}{ea C:Addr}{vs:List Value}{Ex:Value->Shared->Prop}(I:Inv X pins Z H s)(hx:Heap.MadeExcOf s.heap h' ea (.ref C) vs)(fq:X.stack=X.env::X.outer)(hex:X.ex=[])(hf:X.env.frame=some X.env.locals)(hE:E (.ref C) none H):wpAny (model X.prog X.w) X.A (leaving X.env (.ref ea)) (λ_ mX=>iG X.prog X.w X.outer X.iN X.cU E (.ref ea) mX) Ex { s with heap:=h' }:=by
 have rj:=I.stack;rw[fq] at rj;have jI:∀env∈(X.env::X.outer),∀b,env.frame=some b->b∈fk X.stack:=λenv he b hb=>by rw[fq];exact jk.mpr ⟨env,he,hb⟩
 refine wpAny_leaves_madeW (s:={ s with heap:=h' }) (base:=PySem.W.hideAll s.heap (fk X.stack)) (h:=s.heap) (by rw[I.ok.frames,fq]) hf (λb o q=>Kl _ q) (PySem.W.funFrames_hide rj jI) hx λmP t fw _ _ us=>?_;refine(show iG X.prog X.w X.outer X.iN X.cU E (.ref ea) { s with heap:=mP } from Ce I fq hex hf (λb o e n _=>Du _ e n) (λb hb o e=>?_) fw hE);obtain⟨o1,e1,nf⟩:=xV I hb;rw[e] at e1;cases e1;exact us b o (hx.keeps b o e) nf
theorem Xv{l:List Env}{H H':Hp}{h0 h h1 B:Heap}{Pg:Program}{w:World}(u:Un (fk l) [] H H' h0 h)(ok:fG Pg w H' h)(hB:∀b o,h.get? b=some o->b∉fk l->(H' b≠none\/∃o0,h0.get? b=some o0)->B.get? b=some o)(st:B.StaysIn h1)(us:h.UpToSlots h1)(ED:∀b∈fk l,H' b=none/\∃o,h.get? b=some o/\∀vs,o.data≠.fields vs):Un (fk l) [] H H' h0 h1/\fG Pg w H' h1/\∀b o,h1.get? b=some o->b∉fk l->(H' b≠none\/∃o0,h0.get? b=some o0)->B.get? b=some o:=by
 have mW:∀b u,H' b=some u->b∉fk l:=λb u e z=>by rw[(ED b z).1] at e;cases e
 have kept:∀b o,h.get? b=some o->b∉fk l->(H' b≠none\/∃o0,h0.get? b=some o0)->h1.get? b=some o:=λb o e n q=>st b o (hB b o e n q);have Fe:∀b∈fk l,∀o,h.get? b=some o->∃sl,h1.get? b=some { o with slots:=sl }:=λb hb o e=>by
  obtain⟨_,o1,e1,nf⟩:=ED b hb;rw[e] at e1;cases e1;exact us b o e nf
 refine⟨⟨?_,?_,u.free,?_,u.gK,u.gs,u.gL⟩,?_,?_⟩
 ·exact λb o e n1 n2 n3=>kept b o (u.keep b o e n1 n2 n3) n2 (.inr ⟨o,e⟩)
 ·intro b o e n1 n2 n3;obtain⟨KU,e1⟩:=u.slot b o e n1 n2 n3;obtain⟨kh,e2⟩:=Fe b n2 _ e1;exact⟨kh,e2⟩
 ·intro b o e n;obtain⟨o1,e1⟩:=u.there b o e n;by_cases hb:b∈fk l
  ·obtain⟨kh,e2⟩:=Fe b hb _ e1;exact⟨_,e2⟩
  ·exact⟨o1,kept b o1 e1 hb (.inr ⟨o,e⟩)⟩
 ·intro a o e;exact (ok a o e).Q6 (λb u hb q=>by
   have jJ:∃v,H' b=some v:=by
    rcases hb with rfl|hb
    ·exact⟨o,e⟩
    ·exact⟨_,hb⟩
   obtain⟨v,hv⟩:=jJ;exact kept b u q (mW b v hv) (.inl (by rw [hv];simp))) (λb hb=>hb) (λb xs hb=>hb)
 ·intro b o e n q;have:∃o1,h.get? b=some o1:=by
   rcases q with q|⟨o0,q⟩
   ·obtain⟨v,hv⟩:=mT.mp q;exact(ok b v hv).get
   ·exact u.there b o0 q (by simp)
  obtain⟨o1,e1⟩:=this;have z:=hB b o1 e1 n q;rw[st b o1 z] at e;cases e;exact z
section
variable{s':Shared}
structure Lies(X:Cx)(H H':Hp)(s:Shared)(B:Heap)(ea C:Addr)(a0:Value)(s':Shared):Prop where
 os:s'.os=s.os
 bare:AllBare s'.gens
 un:Un (fk X.stack) [] H H' s.heap s'.heap
 bE:fG X.prog X.w H' s'.heap
 oi:∀b o,s'.heap.get? b=some o->b∉fk X.stack->(H' b≠none\/∃o0,s.heap.get? b=some o0)->B.get? b=some o
theorem Lies.inv{H':Hp}{B:Heap}{ea C:Addr}{a0:Value}(I:Inv X pins Z H s)(l:Lies X H H' s B ea C a0 s'):Inv X pins Z H' s':=I.Cb (ch:=[]) l.os l.un l.bE l.bare (by simp)
theorem leave_held{H':Hp}{B:Heap}{ea C:Addr}{a0:Value}{Ex:Value->Shared->Prop}(I:Inv X pins Z H s)(l:Lies X H H' s B ea C a0 s')(hh:Heap.HeldW B X.stack ea (.ref C) a0 X.env.locals s'.heap)(fq:X.stack=X.env::X.outer)(hex:X.ex=[])(hf:X.env.frame=some X.env.locals)(hE:E (.ref C) none H'):wpAny (model X.prog X.w) X.A (leaving X.env (.ref ea)) (λ_ mX=>iG X.prog X.w X.outer X.iN X.cU E (.ref ea) mX) Ex s':=by
 have J:=l.inv I;have zG:=hh;rw[fq] at zG;unfold leaving;refine ae (wpAny_noteFrame_againW hf zG.2.2.2 ?_);refine wpAny_landsW zG λmP fl us=>?_;obtain⟨k1,k2,⟨_,_,k3⟩,k4⟩:=fl;refine Ce J fq hex hf (λb o e n q=>l.oi b o e n (q.imp id λ⟨o0,q⟩=>I.base.there b o0 q (by rw[hex];simp))) (λb hb o e=>?_) ⟨k1,k2,k3,k4⟩ hE;obtain⟨o1,e1,nf⟩:=xV J hb;rw[e] at e1;cases e1;exact us b o e nf
end
noncomputable def xE(X:Cx)(Ξ:XK):Prop:=∀(pins:List (Addr×Obj)) (Z:St) (H:Hp) (s:Shared) (h':Heap) (ea C:Addr) (vs:List Value),Inv X pins Z H s->Heap.MadeExcOf s.heap h' ea (.ref C) vs->Ξ (.ref C) none H->X.xe (.ref ea) { s with heap:=h' }
noncomputable def xt(X:Cx)(Ξ:XK):Prop:=∀(pins:List (Addr×Obj)) (Z:St) (H H':Hp) (s s':Shared) (B:Heap) (ea C:Addr) (a0:Value),Inv X pins Z H s->Lies X H H' s B ea C a0 s'->Heap.HeldW B X.stack ea (.ref C) a0 X.env.locals s'.heap->Ξ (.ref C) none H'->X.xe (.ref ea) s'
noncomputable def Rk(C:Addr)(Ξ:XK)(t:TA):TS:=λ_ Z H=>t Z H λvs H1=>vs.length<=sizeLine/\Ξ (.ref C) none H1
theorem a20{x:Str}{C:Addr}{B newId fT:String}{bm:List Value}{np ft pos:Pos}{jc:Expr}{rest:List Expr}{t:TA}{Ξ:XK}(hc:X.calm=true)(O:OwnCls x C bm newId X.mg X.base)(FB:ExcBaseFacts B newId fT bm)(hg:Gl X x)(ha:PA X (jc::rest) t)(hr:xE X Ξ)(he:starEach (jc::rest) X.env=(false,eval jc X.env)::starEach rest X.env)(fU:(backTo ft (starEach rest X.env)).any (·.1)=false)(hd:(x==("__debug__":Str))=false) :
  PS X (.Raise (some (.Call (.Name x np) (jc::rest) [] ft)) none pos) (Rk C Ξ t):=by
 intro pins s Z H D I h;obtain⟨tl,N,nm,q,bs,hdct,sn,sub,ab,col,dd,k0,k1,k2,k3,k5,mN,hC,hN,wq,T⟩:=O.obj;refine wpAny_Raise_call_subT (C:=C) (nm:=nm) (q:=q) (N:=N) (bs:=bs) (bm:=tl) (hdct:=hdct) (sn:=sn) (sub:=sub) (ab:=ab) (col:=col) (dd:=dd) (k0:=k0) (k1:=k1) (k2:=k2) (k3:=k3) (k5:=k5)
  FB (mN:=mN) (T.hasType FB.hasBase) (I.ok.hd hc) (by rw[he];show(false||(backTo ft (starEach rest X.env)).any (·.1))=false;rw[fU];rfl) wq (P9 I hg O.bound ⟨rfl,?_⟩ hd)
 have h':=ha ft pins s Z H _ I h;rw[he] at h' ⊢;refine Calls.evalArgs_plain (bx h' (λvs fQ iu=>?_) λ_ _ y=>y);obtain⟨ws,H1,I1,rv,hz,hE⟩:=iu;exact⟨rfl,by rw[<- rv.length];exact hz,I1.bk _ _ hC,hN.keeps I1.bk,T.keeps I1.bk,λh2 ea hm=>hr pins Z H1 fQ h2 ea C vs I1 hm hE⟩
noncomputable def xo(X:Cx)(pins:List (Addr×Obj))(xe:Value->Shared->Prop):Cx:={ X with pn:=X.pn++pins,xe:=xe }
noncomputable def N9(X:Cx)(ea:Addr):Cx:={ X with A:=X.A.mark (some (.ref ea)),calm:=false,xe:=λ_ _=>False }
theorem Inv.se{xe:Value->Shared->Prop}{ip:List (Addr×Obj)}(I:Inv (xo X pins xe) ip Z H s):Inv X pins Z H s :=
 ⟨⟨I.ok.mod,I.ok.kind,I.ok.glob,I.ok.blt,I.ok.above,I.ok.inj,I.ok.has,I.ok.qu,I.ok.hd,I.ok.frames,I.ok.qQ,I.ok.wM,I.ok.bs,I.ok.mR,I.ok.jV,I.ok.kQ,I.ok.L3,I.ok.nA⟩,I.os,I.bare,I.base,I.loc,I.cell,I.free,I.dZ,
  λp hp=>I.pin p (dA _ hp),I.bE,I.len⟩
theorem Inv.Iz{ea:Addr}(I:Inv X pins Z H s):Inv (N9 X ea) pins Z H s :=
 ⟨⟨I.ok.mod,I.ok.kind,I.ok.glob,I.ok.blt,I.ok.above,I.ok.inj,I.ok.has,I.ok.qu,λz=>(by cases z),I.ok.frames,I.ok.qQ,I.ok.wM,I.ok.bs,I.ok.mR,I.ok.jV,I.ok.kQ,I.ok.L3,I.ok.nA⟩,I.os,I.bare,I.base,I.loc,I.cell,I.free,I.dZ,I.pin,I.bE,I.len⟩
theorem Inv.X2{ea:Addr}(J:X.Ok)(I:Inv (N9 X ea) pins Z H s):Inv X pins Z H s :=
 ⟨J,I.os,I.bare,I.base,I.loc,I.cell,I.free,I.dZ,I.pin,I.bE,I.len⟩
theorem SP.se{xe:Value->Shared->Prop}{D:Ends}{f:Flow}(h:SP (xo X pins xe) [] D f s):SP X pins D f s:=by
 cases f with
 |next=>obtain⟨a,b,I,q⟩:=h;exact⟨a,b,I.se,q⟩
 |brk=>obtain⟨a,b,I,q⟩:=h;exact⟨a,b,I.se,q⟩
 |cont=>obtain⟨a,b,I,q⟩:=h;exact⟨a,b,I.se,q⟩
 |ret u=>obtain⟨v,a,b,I,r,q⟩:=h;exact⟨v,a,b,I.se,r,q⟩
theorem SP.X2{ea:Addr}{D:Ends}{f:Flow}(J:X.Ok)(h:SP (N9 X ea) pins D f s):SP X pins D f s:=by
 cases f with
 |next=>obtain⟨a,b,I,q⟩:=h;exact⟨a,b,I.X2 J,q⟩
 |brk=>obtain⟨a,b,I,q⟩:=h;exact⟨a,b,I.X2 J,q⟩
 |cont=>obtain⟨a,b,I,q⟩:=h;exact⟨a,b,I.X2 J,q⟩
 |ret u=>obtain⟨v,a,b,I,r,q⟩:=h;exact⟨v,a,b,I.X2 J,r,q⟩
noncomputable def wY(X:Cx)(D:Ends)(C:Addr)(H:Hp):List ExceptHandler->Prop
 |.ExceptHandler (some (.Name x _)) none (uT::nR) _::rest=>Gl X x/\(x==("__debug__":Str))=false/\∃C' b,X.mg x=some (.ref C')/\PySem.W.exmOne X.K (.ref C) (.ref C')=some b /\
   (if b=true then ∃t:TS,(∀ea,iR (N9 X ea) (uT::nR) t)/\t D (List.replicate X.N.length none) H else wY X D C H rest)
 |[]=>∃Ξ:XK,xt X Ξ/\Ξ (.ref C) none H
 |_=>False
end
end L2

namespace L2
open PySem PySem.Spec PyProof.Rows
section
variable{X:Cx}{pins:List (Addr×Obj)}{Z:St}{H H':Hp}{s s':Shared}{e:Value}{D:Ends}
noncomputable def xp(X:Cx)(pins:List (Addr×Obj))(D:Ends)(hs:List ExceptHandler):Value->Shared->Prop:=λe bQ =>
 wpAny (model X.prog X.w) X.A (noteFrame e X.env) (λ_ fQ=>wpAny (model X.prog X.w) X.A (setFlight e none) (λ_ eE=>wpAny (model X.prog X.w) X.A (handleBy e X.env hs) (SP X pins D) X.xe eE) X.xe fQ) X.xe bQ
theorem Lies.step{B h1:Heap}{ea C:Addr}{a0:Value}(I:Inv X pins Z H s)(l:Lies X H H' s B ea C a0 s')(st:B.StaysIn h1)(us:s'.heap.UpToSlots h1):Lies X H H' s B ea C a0 { s' with heap:=h1 }:=by
 have J:=l.inv I;obtain⟨u,ok,ib⟩:=Xv l.un l.bE l.oi st us λb hb=>⟨J.xR b hb,xV J hb⟩
 exact⟨l.os,l.bare,u,ok,ib⟩
theorem ZM{s:Shared}{B:Heap}{l:List Env}{ea L:Addr}{cls a0:Value}{A:Around}{M:Model}{E:Value->Shared->Prop}{Q:Unit->Shared->Prop}(fw:Heap.FlyingW B l ea cls a0 s.heap)(h:∀h',Heap.HeldW B l ea cls a0 L h'->(∀b o,s.heap.get? b=some o->(∀vs,o.data≠.fields vs)->h'.get? b=some o)->Q () { s with heap:=h' }):wpAny M A (setFlight (.ref ea) (some L)) Q E s:=by
 obtain⟨f1,f2,f3,oe,vs,T,oT,ts,he,kL,hd,h1,rf,wD,hT,rm,h3⟩:=fw;have tT:3<ts.size:=(Array.getElem?_eq_some_iff.mp h3).1;have other:∀b,b≠T->(s.heap.update T (Obj.mapFields (·.setIfInBounds 3 ((some L).elim Value.none λf=>rawInt f)))).get? b=s.heap.get? b :=
  λb hb=>bV _ _ (bC hb)
 have ju:∀b o,s.heap.get? b=some o->(∀vs,o.data≠.fields vs)->b≠T:=λb o hb tW q=>by
  rw[q,hT] at hb;injection hb with hb;subst hb;exact tW ts rm
 unfold setFlight;refine ae (jM he hd h1 ?_);rw[aF (show(Value.ref T != Value.none)=true from by simp)];refine dt hT rm tT (h _ ⟨λb o zL=>(other b λq=>by rw [q,rf] at zL;cases zL).trans (f1 b o zL),f2,
  f3.of_keeps λb o hb tW=>⟨o,(other b (ju b o hb tW)).trans hb,rfl⟩,?_⟩ λb o hb tW=>(other b (ju b o hb tW)).trans hb)
 exact⟨oe,vs,T,_,_,(other ea (bC wD)).trans he,kL,hd,h1,rf,wD,aY _ hT (cS (br rm _)),br rm _,by simp[tT]⟩
theorem GP{B:Heap}{ea C:Addr}{a0:Value}(hf:X.env.frame=some X.env.locals):∀(hs:List ExceptHandler) (s':Shared),Inv X pins Z H s->Lies X H H' s B ea C a0 s'->Heap.FlyingW B X.stack ea (.ref C) a0 s'.heap->wY X D C H' hs ->
  wpAny (model X.prog X.w) X.A (handleBy (.ref ea) X.env hs) (SP X pins D) X.xe s'
 |[],s',I,l,fw,t=>by
  obtain⟨Ξ,hh,hE⟩:=t;refine wpAny_handleBy_nil ?_;unfold PySem.passOn;obtain⟨f1,f2,f3,oe,vs,T,oT,ts,he,kL,hd,h1,_⟩:=id fw;refine ae (jM he hd h1 ?_);rw[az (by simp),hf];refine ae (ZM fw λh2 held k=>wpAny_throw ?_);have l2:=l.step I held.1 (λb o hb hn=>⟨o.slots,k b o hb hn⟩);exact hh pins Z H H' s _ B ea C a0 I l2 held hE
 |.ExceptHandler none _ _ _::_,_,_,_,_,t=>t.elim
 |.ExceptHandler (some e) nm bd pos::rest,s',I,l,fw,t=>by
  cases e
  case Name x np =>
   cases nm with
   |some y=>exact t.elim
   |none =>
    cases bd with
    |nil=>exact t.elim
    |cons uT nR =>
     obtain⟨hg,hX,C',b,hm,hx,q⟩:=t;have J:=l.inv I;have JM:Inv (N9 X ea) pins Z H' s':=J.Iz;have LT:PySem.W.Looks (model X.prog X.w) s'.heap (typeOf (.ref ea)) (.ref C):=λA Q E s2 k q=>by
      obtain⟨ob,ho,hc⟩:=fw.there;exact wpAny_typeOf_ref (k _ _ ho) (by rw[hc];exact q)
     refine wpAny_handleBy_cons (codeAny_handlers_test ?_) (by intro z;cases z);refine P9 (X:=N9 X ea) JM hg hm ?_ hX;refine(PySem.W.exm_one (M:=model X.prog X.w) J.gp LT hx).here ?_;cases b with
     |false =>
      simp only[Bool.false_eq_true,if_false] at q;exact GP hf rest s' I l fw q
     |true =>
      simp only[if_true] at q;obtain⟨t,ht,hq⟩:=q;refine codeAny_handlers_suite ?_;refine wpAny_setFlight_noneW fw.1 fw.2.2.1 fw.2.2.2.at λh2 k1 k2 k3 k4=>?_;have l2:=l.step I k1 (λb o hb hn=>⟨o.slots,k4 b o hb hn⟩);have J2:=l2.inv I;have J3:Inv (N9 X ea) pins (List.replicate X.N.length none) H' { s' with heap:=h2 }:=(J2.weak (by rw [ij,J2.len]) λi v z=>by
       rw [cZ] at z;split at z <;> cases z).Iz
      refine bx (ht ea pins _ _ H' D J3 hq) (λf s2 hf=>hf.X2 I.ok) λ_ _ z=>z.elim
  all_goals exact t.elim
theorem a31{hs:List ExceptHandler}{Ξ:XK}(fq:X.stack=X.env::X.outer)(hf:X.env.frame=some X.env.locals)(hT:∀C H',Ξ (.ref C) none H'->wY X D C H' hs) :
  Passes (iG X.prog X.w) (xo X pins (xp X pins D hs)) Ξ:=by
 intro ip Z H s e s' I0 h;have I:Inv X pins Z H s:=I0.se;obtain⟨C,H',ho,hb,hu,bE,⟨ea,a0,B,rfl,fw,hB⟩,hE⟩:=h;have l:Lies X H H' s B ea C a0 s':=⟨ho,hb,hu,bE,hB⟩
 have fw:Heap.FlyingW B X.stack ea (.ref C) a0 s'.heap:=fw;show xp X pins D hs (.ref ea) s';unfold xp;have wL:=fw;rw[fq] at wL;refine wpAny_looks_onW (by rw[I.ok.frames,fq]) hf wL λh1 held us=>?_;have l1:=l.step I held.1 us;refine wpAny_landsW held λh2 fl KG=>?_;have l2:=l1.step I fl.1 KG;rw[<- fq] at fl;exact GP hf hs _ I l2 fl (hT C H' hE)
end
end L2

namespace L2
open PySem PySem.Spec PyProof.Rows
section
variable{M:Model}{A:Around}{E:Value->Shared->Prop}{env:Env}{s:Shared}
end
end L2

namespace L2
open PySem PySem.Spec PyProof.Rows
theorem HX{B B' h h2:Heap}{C:Addr}(hB:∀b,b≠C->B'.get? b=B.get? b)(hh:∀b,b≠C->h2.get? b=h.get? b){oC:Obj}(hC:B.get? C=some oC):∀{l:List Env},h.FunFrames B l->h2.FunFrames B' l
 |[],x=>x
 |env::r,⟨x1,⟨L,o,x2,x3,x4,x5⟩,x6⟩=>by
  have hL:L≠C:=λz=>by rw[z,hC] at x3;cases x3
  exact⟨x1,⟨L,o,x2,(hB L hL).trans x3,(hh L hL).trans x4,x5⟩,HX hB hh hC x6⟩
section
variable{X:Cx}{pins:List (Addr×Obj)}{Z:St}{H H':Hp}{s s':Shared}
theorem Lies.Cf{B h2:Heap}{ea Cc C L:Addr}{a0:Value}{o o2:Obj}(l:Lies X H H' s B ea Cc a0 s')(held:Heap.HeldW B X.stack ea (.ref Cc) a0 L s'.heap)(sb:Heap.SameBut C s'.heap h2)(wG:h2.get? C=some o2)(DS:o2.isFreed=false)(hn:H C=none)(hs:s.heap.get? C=some o)(nf:C∉fk X.stack) :
  ∃B',Lies X H H' { s with heap:=s.heap.update C λ_=>o2 } B' ea Cc a0 { s' with heap:=h2 }/\Heap.HeldW B' X.stack ea (.ref Cc) a0 L h2:=by
 obtain⟨oC,eC⟩:=l.un.there C o hs (by simp);have n':H' C=none:=l.un.free C o hs hn (by simp);have hB:B.get? C=some oC:=l.oi C oC eC nf (.inr ⟨o,hs⟩);have b1:(B.update C λ_=>o2).get? C=some o2:=aY _ hB DS;have b2:∀b,b≠C->(B.update C λ_=>o2).get? b=B.get? b:=λb hb=>bV _ _ (bC hb);have s1:(s.heap.update C λ_=>o2).get? C=some o2:=aY _ hs DS;have s2:∀b,b≠C->(s.heap.update C λ_=>o2).get? b=s.heap.get? b:=λb hb=>bV _ _ (bC hb);have nu:∀b,b≠C->h2.get? b=s'.heap.get? b:=sb.2;have ne:∀{b:Addr},B.get? b=none->b≠C:=λ{b} h z=>by rw[z,hB] at h;cases h
 obtain⟨f1,f2,f3,oe,vs,T,oT,ts,he,kL,hd,h1,rf,wD,hT,rm,h3⟩:=held;refine⟨B.update C λ_=>o2,⟨l.os,l.bare,⟨λb u e n1 n2 n3=>?_,λb u e n1 n2 n3=>?_,λb u e n1 n2=>?_,λb u e n1=>?_,l.un.gK,l.un.gs,l.un.gL⟩,?_,λb u e n1 q=>?_⟩,λb u e=>?_,(b2 ea (ne f2)).trans f2,HX b2 nu hB f3,oe,vs,T,oT,ts,(nu ea (ne f2)).trans he,kL,hd,h1,(b2 T (ne rf)).trans rf,wD,(nu T (ne rf)).trans hT,rm,h3⟩
 ·by_cases z:b=C
  ·subst z;rw[show({ s with heap:=s.heap.update b λ_=>o2 }:Shared).heap.get? b=_ from s1] at e;cases e;exact wG
  ·exact(nu b z).trans (l.un.keep b u ((s2 b z).symm.trans e) n1 n2 n3)
 ·have z:b≠C:=λz=>nf (z▸n2);obtain⟨sl,q⟩:=l.un.slot b u ((s2 b z).symm.trans e) n1 n2 n3;exact⟨sl,(nu b z).trans q⟩
 ·by_cases z:b=C
  ·subst z;exact n'
  ·exact l.un.free b u ((s2 b z).symm.trans e) n1 n2
 ·by_cases z:b=C
  ·subst z;exact⟨_,wG⟩
  ·obtain⟨w,q⟩:=l.un.there b u ((s2 b z).symm.trans e) n1;exact⟨w,(nu b z).trans q⟩
 ·intro a u e;exact (l.bE a u e).Q6 (λb w hb q=>by
   have:b≠C:=λz=>by
    rcases hb with rfl|hb
    ·rw[z,n'] at e;cases e
    ·rw[z,n'] at hb;cases hb
   exact (nu b this).trans q) (λb hb=>hb) (λb xs hb=>hb)
 ·by_cases z:b=C
  ·subst z;rw[show({ s' with heap:=h2 }:Shared).heap.get? b=_ from wG] at e;cases e;exact b1
  ·refine(b2 b z).trans (l.oi b u ((nu b z).symm.trans e) n1 ?_);rcases q with q|⟨o0,q⟩
   ·exact .inl q
   ·exact .inr ⟨o0,(s2 b z).symm.trans q⟩
 ·by_cases z:b=C
  ·subst z;rw[b1] at e;cases e;exact wG
  ·exact(nu b z).trans (f1 b u ((b2 b z).symm.trans e))
end
end L2

namespace L2
open PySem PySem.Spec PyProof.Rows
noncomputable def Dn(K:PySem.W.Frag)(a:Addr):It :=
 ⟨λi H=>∃xs x,fm K H a xs/\xs[i]?=some x,λi H v H'=>∃p x,H p=none/\v=.ref p/\(∀xs,fm K H a xs->xs[i]?=some x)/\H'=upd H p (.tup [.int i,x]),λi H=>∃xs,fm K H a xs/\xs.length<=i⟩
theorem YG{P:Program}{w:World}{K:PySem.W.Frag}{elts:List Expr}{x1:Nat}{tp:Pos}(a e it:Addr)(EG:e≠it):Turn P w K (.Tuple elts x1 tp) (Dn K a) [e,it] e (λi h=>(∃old,IsEnum h e it i old)/\h.IsListIter it a i) where
 mem:=by simp
 obj:=λi h st b hb=>by
  obtain⟨⟨old,h1⟩,o,h2,c,d⟩:=st;rcases aH.mp hb with z|z
  ·subst z;exact ⟨_,h1,λv z=>by
    have z':Data.fields _=Data.cell v:=z;cases z'⟩
  ·have z:b=it:=by simpa using z
   subst z;exact⟨o,h2,λv z=>by rw[d] at z;cases z⟩
 keep:=λi h h' st k=>by
  obtain⟨⟨old,h1⟩,h2⟩:=st;exact⟨⟨old,k e (by simp) _ h1⟩,h2.at λo x=>k it (by simp) o x⟩
 item:=by
  intro X hP hw hK hc i pins s Z H E I hf st hg;subst hP hw hK;obtain⟨⟨old,h1⟩,h2⟩:=st;obtain⟨xs,x,hq,hx⟩:=hg;obtain⟨aT,rv,p,hz⟩:=I.list hq;obtain⟨u,hu,ru⟩:=rv.get hx;obtain⟨e0,e1,e2,e3,e4,e5⟩:=hf e (by simp);obtain⟨f0,f1,f2,f3,f4,f5⟩:=hf it (by simp);refine wpAny_pyNext_enum_item h1 h2 p.isList (x:=u) (by simpa using hu) EG λh' ow zE tS hz' nr=>?_;refine⟨_,rfl,wpAny_letOwnedTupleGo_enum ow λuz MB iE=>?_⟩;have iE:Heap.SameBut e h' uz:=iE;have elt:e<s.heap.objs.size:=ay h1;have kp:∀b o,b≠e->b≠it->s.heap.get? b=some o->uz.get? b=some o:=λb o b1 b2 q=>(iE.2 b b1).trans (nr b o b1 b2 q);have hn:H s.heap.objs.size=none:=I.bE.fresh (av _);have yy:uz.get? s.heap.objs.size=some { cls:=.type "tuple",data:=.seq #[.int i s.toks,u] }:=(iE.2 _ (bO elt)).trans tS;have ne:∀b u',H b=some u'->b≠e/\b≠it:=λb u' q=>And.intro (λ(z:b=e)=>by rw[z,e0] at q;cases q) (λ(z:b=it)=>by rw[z,f0] at q;cases q);have bE:fG X.prog X.w (upd H s.heap.objs.size (.tup [.int i,x])) uz:=λb o q=>by
   by_cases hb:b=s.heap.objs.size
   ·subst hb;rw[s9] at q;cases q;exact⟨by show 2<=sizeLine;decide,[.int i s.toks,u],.cons ⟨_,rfl⟩ (.cons ru .nil),_,yy,rfl,⟨_,rfl⟩,rfl⟩
   ·rw[i0 hb] at q;refine(I.bE b o q).Q6 (λc v hc q'=>?_) (λc q'=>by rw[i0 (k9 q' hn)];exact q') λc ys q'=>by rw[i0 (k9 q' hn)];exact q'
    rcases hc with z|z
    ·subst z;exact kp _ _ (ne _ _ q).1 (ne _ _ q).2 q'
    ·exact kp _ _ (ne _ _ z).1 (ne _ _ z).2 q'
  have I2:Inv X pins Z (upd H s.heap.objs.size (.tup [.int i,x])) { s with heap:=uz,toks:=s.toks+1 }:=by
   refine I.step (g':=s.gens) (d':=s.drawn) (t':=s.toks+1) (ch:=[e,it]) (λb hb=>?_) (λb o _ _ hb q _=>kp b o (λz=>hb (by simp[z])) (λz=>hb (by simp[z])) q) (λb o _ _ hb q _=>⟨o.slots,kp b o (λz=>hb (by simp[z])) (λz=>hb (by simp[z])) q⟩)
    (λb o _ q n=>by rw[i0 (aN (ay q))];exact n) (λb o hb q=>⟨o,kp b o (λz=>hb (by simp[z])) (λz=>hb (by simp[z])) q⟩)
    (λb ys q=>by rw[i0 (k9 q hn)];exact q) (λb o' ys q=>by rw[i0 (k9 q hn)];exact q) (λb ps q=>⟨#[],by rw[i0 (k9 q hn),q];simp⟩) (λm hm=>?_) bE I.bare
   ·rcases aH.mp hb with z|z
    ·subst z;exact⟨e3,e1,e4,e5⟩
    ·have z:b=it:=by simpa using z
     subst z;exact⟨f3,f1,f4,f5⟩
   ·obtain⟨o,es,ep,ho,r⟩:=hm;exact⟨o,es,ep,kp _ o (bC e1) (bC f1) ho,r⟩
  refine⟨.ref s.heap.objs.size,_,I2,rfl,⟨s.heap.objs.size,x,hn,rfl,λys hy=>by rw[I.Bw hy hq];exact hx,rfl⟩,⟨⟨u,by simpa using MB⟩,zE.at λo y=>(iE.2 it EG.symm).trans y⟩,λb hb=>?_⟩;have jJ:b<s.heap.objs.size:=by
   rcases aH.mp hb with z|z
   ·subst z;exact elt
   ·have z:b=it:=by simpa using z
    subst z;obtain⟨o,h2,_⟩:=h2;exact ay h2
  rw[i0 (aN jJ)];exact(hf b hb).1
 done:=by
  intro X hP hw hK hc i pins s Z H E I hf st hg;subst hP hw hK;obtain⟨⟨old,h1⟩,h2⟩:=st;obtain⟨xs,hq,hx⟩:=hg;obtain⟨aT,rv,p,hz⟩:=I.list hq;obtain⟨f0,f1,f2,f3,f4,f5⟩:=hf it (by simp);have hl:=rv.length;exact wpAny_pyNext_enum_end (I.ok.hd hc) h1 h2 p.isList (by simp;omega) λh' eb=>⟨rfl,I.turned (t':=s.toks) (λb o hb e=>eb b o hb e) f0 f1 f3 f4 f5⟩
 self:=λ_ _ _ _ _ st h=>by
  obtain⟨⟨old,h1⟩,h2⟩:=st;exact wpAny_pyIter_enum h1 h
section
variable{X:Cx}
theorem SH{l:Expr}{ta:TA}{p pos tp:Pos}{elts:List Expr}{x1:Nat}(hg:Gl X "enumerate")(hm:X.mg "enumerate"=none)(ha:PA X [l] ta)(hs:starEach [l] X.env=[(false,eval l X.env)]) :
  PI X (.Tuple elts x1 tp) (.Call (.Name "enumerate" p) [l] [] pos) (λZ H R=>ta Z H λvs H1=>∃a,vs=[.ref a]/\(∃xs,fm X.K H1 a xs)/\R (Dn X.K a) H1):=by
 intro pins s Z H R I h;refine Call_ (K9 I hg hm PyProof.Rows.boot_enumerate (bB (cy (ha pos pins s Z H _ I h) λus s1 ⟨vs,H1,I1,r1,q1⟩=>?_) hs rfl));obtain⟨a,e,⟨xs,hq⟩,q⟩:=q1;subst e;cases r1 with
 |cons r rr =>
  cases rr;cases r;obtain⟨aT,rv,p,hz⟩:=I1.list hq;refine call_enumerate_list p.isList λh' he hit hsz hk=>wpAny_pyIter_enum he ?_;refine⟨s1.heap.objs.size+1,[s1.heap.objs.size+1,s1.heap.objs.size],_,_,H1,rfl,I1.kept (t':=s1.toks) hk,YG a _ _ (by simp),⟨⟨_,he⟩,hit⟩,λb hb=>?_,q⟩;have jJ:s1.heap.objs.size<=b:=by
   rcases aH.mp hb with z|z
   ·rw[z];exact fX _
   ·have z:b=s1.heap.objs.size:=by simpa using z
    rw[z];exact av _
  exact I1.oQ jJ (I1.bE.fresh jJ)
theorem Wo{e:Expr}{t:TE}{pos:Pos}(he:PE X e t):PE X (.FormattedValue e (-1) none pos) (λZ H Q=>t Z H λx H1=>(∃i,x=.int i/\i.natAbs.log2<1920/\Q (.str (toString i)) H1)\/∃y,x=.str y/\y.length<=sizeLine/\Q (.str y) H1):=by
 intro pins s Z H Q I h;refine wpAny_FormattedValue_plain (cy (he pins s Z H _ I h) λv s1 ⟨x,H1,I1,r1,q1⟩=>?_);rcases q1 with⟨i,rfl,hd,q⟩|⟨y,rfl,hy,q⟩
 ·obtain⟨t,rfl⟩:=r1;exact wpAny_formatField_int hd ⟨.str _,H1,I1.tok _,⟨_,rfl⟩,q⟩
 ·obtain⟨t,rfl⟩:=r1;exact wpAny_formatField_str ⟨.str _,H1,I1,⟨_,rfl⟩,q⟩ ⟨.str _,H1,I1.tok _,⟨_,rfl⟩,q⟩ hy
inductive si(X:Cx):List Expr->List TE->Prop
 |nil:si X [] []
 |cons {e:Expr} {t:TE} {es:List Expr} {ts:List TE} (h:PE X e t) (r:si X es ts):si X (e::es) (t::ts)
noncomputable def xn:List TE->St->Hp->Str->(Str->Hp->Prop)->Prop
 |[],_,H,acc,Q=>Q acc H
 |t::ts,Z,H,acc,Q=>t Z H λx H1=>∃y,x=.str y/\(acc++y).length<=sizeLine/\xn ts Z H1 (acc++y) Q
theorem Jt{pins:List (Addr×Obj)}{Z:St}{Q:Str->Hp->Prop}:∀{es:List Expr} {ts:List TE},si X es ts->∀{s:Shared} {H:Hp} {acc:Str},Inv X pins Z H s->xn ts Z H acc Q ->
  Joins (model X.prog X.w) X.A X.xe (evalEach es X.env) acc (λout s1=>∃H1,Inv X pins Z H1 s1/\Q out H1) s
 |_,_,.nil,s,H,acc,I,h=>⟨H,I,h⟩
 |_,_,.cons he r,s,H,acc,I,h=>by
  rw[arm_evalEach_cons];refine cy (he pins s Z H _ I h) λv s1 ⟨x,H1,I1,r1,y,ey,hy,q1⟩=>?_;subst ey;obtain⟨t,rfl⟩:=r1;exact⟨y,t,rfl,hy,Jt r I1 q1⟩
theorem Hk{M:Model}{A:Around}{E:Value->Shared->Prop}{Q Q':Str->Shared->Prop}(hq:∀x s,Q x s->Q' x s):∀{l:List (Sem Value)} {acc:Str} {s:Shared},Joins M A E l acc Q s->Joins M A E l acc Q' s
 |[],acc,s,h=>hq _ _ h
 |x::r,acc,s,h=>cy h λv s1 ⟨y,t,e,hz,h1⟩=>⟨y,t,e,hz,Hk hq h1⟩
theorem SD{kG kF:Expr}{rest:List Expr}{ts:List TE}{pos:Pos}(h:si X (kG::kF::rest) ts):PE X (.JoinedStr (kG::kF::rest) pos) (λZ H Q=>xn ts Z H Str.empty λout H1=>out.length<=sizeLine/\Q (.str out) H1):=by
 intro pins s Z H Q I hw;refine wpAny_JoinedStr (Hk (λx s1 ⟨H1,I1,hl,q⟩=>⟨hl,.str x,H1,I1.tok _,⟨_,rfl⟩,q⟩) (Jt h I hw))
theorem YZ{lo:Int}{acc:Array Value}{n:Nat}(h:ItemsOf (λi v=>∃t,v=.int (lo+i*1) t) acc n):Vals ((List.range n).map λ(k:Nat)=>V.int (lo+k)) acc.toList:=by
 have hl:acc.toList.length=n:=by
  have:=h.1;simpa using this
 have go:∀(m:Nat) (l:List Value),l.length<=n->m+l.length=n->(∀i v,l[i]?=some v->∃t,v=Value.int (lo+((m+i:Nat):Int)) t)->Vals ((List.range' m l.length).map λ(k:Nat)=>V.int (lo+k)) l:=by
  intro m l
  induction l generalizing m with
  |nil=>intro _ _ _;exact .nil
  |cons x r ih =>
   intro h1 h2 h3;simp only[List.length_cons,List.range'_succ,List.map_cons];refine .cons ?_ (ih (m+1) (by simp at h1;omega) (by simp at h2;omega) λi v hv=>?_)
   ·obtain⟨t,e⟩:=h3 0 x rfl;exact⟨t,by rw[e];simp⟩
   ·obtain⟨t,e⟩:=h3 (i+1) v (by simpa using hv);exact⟨t,by rw[e,show m+(i+1)=m+1+i by omega]⟩
 have:=go 0 acc.toList (by omega) (by omega) λi v hv=>?_
 ·rw[hl,<- List.range_eq_range'] at this;exact this
 ·have hi:i<n:=by
   have:=(aj.mp hv).1;omega
  have:acc[i]?=some v:=by rw[<- ik];exact hv
  obtain⟨t,e⟩:=h.2 i v this;refine⟨t,?_⟩;rw[e];simp
theorem HY(hc:X.calm=true):m8 X (.type "list") (λxs H Q=>∃a lo hi,xs=[.ref a]/\H a=some (.lg lo hi)/\(-(2 ^ 62)<=lo/\lo<2 ^ 62/\-(2 ^ 62)<=hi/\hi<2 ^ 62/\hi-lo<=100000)/\∀p,H p=none->Q (.ref p) (upd H p (.lst ((List.range (hi-lo).toNat).map λ(k:Nat)=>V.int (lo+k))))):=by
 intro pins s Z H xs us Q I r h;obtain⟨a,lo,hi,rfl,ha,⟨h1,h2,h3,h4,h5⟩,q⟩:=h;obtain⟨t,u,v,ho⟩:=I.bE a _ ha;cases r with
 |cons r rr =>
 cases rr;cases r;have hn:Builtin.Range.rangeSize lo hi 1=((hi-lo).toNat:Nat):=by rw[rangeSize_one];split<;>omega
 refine call_list_range (n:=(hi-lo).toNat) (I.ok.hd hc) ho (small_one h1 h2 h3 h4) hn (by omega) λh' lL acc c hk hS jz=>?_;have hp:H s.heap.objs.size=none:=I.bE.fresh (av _);refine⟨.ref _,_,I.laid (a:=s.heap.objs.size) (o:=.lst ((List.range (hi-lo).toNat).map λ(k:Nat)=>V.int (lo+k))) (t':=lL) hk (av _) ⟨?_,acc.toList,c,YZ jz,by simpa using hS⟩,rfl,q _ hp⟩;rw[ag,List.length_range];have:(hi-lo).toNat<=100000:=by omega
 exact aG this (by decide)
theorem Ym{a:Expr}{ta:TA}{p pos:Pos}(hg:Gl X "range")(hm:X.mg "range"=none)(ha:PA X [a] ta)(hs:starEach [a] X.env=[(false,eval a X.env)]):PE X (.Call (.Name "range" p) [a] [] pos) (λZ H Q=>ta Z H λvs H1=>∃j:Int,vs=[.int j]/\∀q,H1 q=none->Q (.ref q) (upd H1 q (.lg 0 j))):=by
 intro pins s Z H Q I h;refine cM (K9 I hg hm boot_range (bB (cy (ha pos pins s Z H _ I h) λus s1 ⟨vs,H1,I1,r1,q1⟩=>?_) hs rfl));obtain⟨j,e,q⟩:=q1;subst e;cases r1 with
 |cons r rr =>
  cases rr;obtain⟨t,rfl⟩:=r;exact call_range_1 ⟨.ref s1.heap.objs.size,_,I1.laid (a:=s1.heap.objs.size) (o:=.lg 0 j) (λb o e=>au _ e) (av _) ⟨_,_,_,aD _ rfl⟩,rfl,q _ (I1.bE.fresh (av _))⟩
theorem Yn{a b:Expr}{ta:TA}{p pos:Pos}(hg:Gl X "range")(hm:X.mg "range"=none)(ha:PA X [a,b] ta)(hs:starEach [a,b] X.env=[(false,eval a X.env),(false,eval b X.env)])(iE:starEach [b] X.env=[(false,eval b X.env)]):PE X (.Call (.Name "range" p) [a,b] [] pos) (λZ H Q=>ta Z H λvs H1=>∃i j:Int,vs=[.int i,.int j]/\∀q,H1 q=none->Q (.ref q) (upd H1 q (.lg i j))):=by
 intro pins s Z H Q I h;refine cM (K9 I hg hm boot_range (bB (cy (ha pos pins s Z H _ I h) λus s1 ⟨vs,H1,I1,r1,q1⟩=>?_) (by rw[hs,iE]) (by rw[iE];rfl)));obtain⟨i,j,e,q⟩:=q1;subst e;cases r1 with
 |cons r rr =>
  cases rr with
  |cons r' rr =>
   cases rr;obtain⟨t,rfl⟩:=r;obtain⟨t',rfl⟩:=r';exact call_range_2 ⟨.ref s1.heap.objs.size,_,I1.laid (a:=s1.heap.objs.size) (o:=.lg i j) (λb o e=>au _ e) (av _) ⟨_,_,_,aD _ rfl⟩,rfl,q _ (I1.bE.fresh (av _))⟩
noncomputable def vb(K:PySem.W.Frag)(P:Params)(a:Addr)(kvs:List (Str×V)):Prop :=
 ∃es n,K.lookup a=some ⟨.type "dict",none,.dict es n,#[]⟩/\PySem.W.KeysLit P es.toList/\(a==sysModules)=false/\∀x,E7 (kvs.lookup x) (findBy Value.isStrOf es x)
theorem Io{kvs:List (Str×V)}(neg:Bool):fc X (compareOp (if neg then .NotIn else .In)) (λx y H Q=>∃a z,y=.ref a/\vb X.K X.w.params a kvs/\x=.str z/\Q (.bl (xor neg (kvs.lookup z).isSome)) H):=by
 intro pins s Z H x y v u Q I rx ry h;obtain⟨a,z,rfl,⟨es,n,hl,hk,lo,hf⟩,rfl,q⟩:=h;obtain⟨t,rfl⟩:=rx;cases ry;have hm:=PySem.W.mapOf_K (prog:=X.prog) (w:=X.w) I.gp hl hk;have e:=hf z;have ee:(findBy Value.isStrOf es z).isSome=(kvs.lookup z).isSome:=by
  cases h1:kvs.lookup z<;>cases h2:findBy Value.isStrOf es z<;>rw[h1,h2] at e<;>first|rfl|exact e.elim
 cases neg
 ·exact wpAny_in_of (strKind_is X.prog X.w z t) lo hm ⟨.bl _,H,I.tok _,by rw[ee];rfl,by simpa using q⟩
 ·exact wpAny_notIn_of (strKind_is X.prog X.w z t) lo hm ⟨.bl _,H,I.tok _,by rw[ee];rfl,by simpa using q⟩
theorem VR{kvs:List (Str×V)}:qI X (λx y H Q=>∃a z v,x=.ref a/\vb X.K X.w.params a kvs/\y=.str z/\kvs.lookup z=some v/\Q v H):=by
 intro value slice pins s Z H x y v u Q I rx ry h hs;obtain⟨a,z,d,rfl,⟨es,n,hl,hk,lo,hf⟩,rfl,hz,q⟩:=h;cases rx;obtain⟨t,rfl⟩:=ry;have hm:=PySem.W.mapOf_K (prog:=X.prog) (w:=X.w) I.gp hl hk;have e:=hf z;rw[hz] at e;cases h2:findBy Value.isStrOf es z with
 |none=>rw[h2] at e;exact e.elim
 |some r =>
  rw[h2] at e;exact tail_any hm.typeIs slot_dict_getitem.lookup (wpAny_getItem_of (strKind_is X.prog X.w z t) hm h2 ⟨d,H,I.tok _,e,q⟩) hs
theorem RZ(hu:X.A.units+1<cLine):qI X (λx y H Q=>∃a v,x=.ref a/\O5 H a y (some v)/\Q v H):=by
 intro value slice pins s Z H x y v u Q I rx ry h hs;obtain⟨a,d,rfl,g,q⟩:=h;cases rx;exact tail_any (ZI I g) slot_dict_getitem.lookup (XN hu I g ry λw' s3 I3 fz=>⟨d,H,I3,fz,q⟩) hs
end
end L2

namespace ST
open PySem PyProof.Rows
noncomputable abbrev jK(xs:Array Nat):Prop:=xs.toList.Pairwise (· < ·)
theorem jK.lt{xs:Array Nat}(h:jK xs){i k:Nat}(ue:i<k)(hk:k<xs.size):xs.getD i 0<xs.getD k 0:=by
 have:=nM.mp h i k (by simpa using cI ue hk) (by simpa using hk) ue;simp only[Array.getElem_toList] at this;rw[<- dy (h:=cI ue hk),<- dy (h:=hk)];exact this
theorem jK.le{xs:Array Nat}(h:jK xs){i k:Nat}(ue:i<=k)(hk:k<xs.size):xs.getD i 0<=xs.getD k 0:=by
 rcases Nat.eq_or_lt_of_le ue with e|e
 ·rw[e];exact av _
 ·exact dE (h.lt e hk)
theorem Bk{xs:Array Nat}{j:Nat}(h:jK xs):∀(fuel lo hi:Nat),hi-lo<=fuel->lo<=hi->hi<=xs.size->(∀i,i<lo->xs.getD i 0<j)->(∀i,hi<=i->i<xs.size->j<=xs.getD i 0) ->
  SetTable.below.go xs j fuel lo hi<=xs.size/\(∀i,i<SetTable.below.go xs j fuel lo hi->xs.getD i 0<j)/\∀i,SetTable.below.go xs j fuel lo hi<=i->i<xs.size->j<=xs.getD i 0
 |0,lo,hi,h1,h2,h3,h4,h5=>by
  unfold SetTable.below.go;have:lo=hi:=by omega
  subst this;exact⟨h3,h4,h5⟩
 |fuel+1,lo,hi,h1,h2,h3,h4,h5=>by
  unfold SetTable.below.go;split
  ·rename_i hl;have hm:(lo+hi) / 2<xs.size:=by omega
   have em:xs.getD ((lo+hi) / 2) j=xs.getD ((lo+hi) / 2) 0:=by simp[Array.getD,hm]
   dsimp only;rw[em];by_cases hc:xs.getD ((lo+hi) / 2) 0<j
   ·rw[aF hc];exact Bk h fuel _ hi (by omega) (by omega) h3 (λi jz=>fL (h.le (by omega) hm) hc) h5
   ·rw[az hc];exact Bk h fuel lo _ (by omega) (by omega) (by omega) h4 λi jz hs=>aG (kA hc) (h.le jz hs)
  ·have:lo=hi:=by omega
   subst this;exact⟨h3,h4,h5⟩
theorem P4{xs:Array Nat}(j:Nat)(h:jK xs):SetTable.below xs j<=xs.size/\(∀i,i<SetTable.below xs j->xs.getD i 0<j)/\∀i,SetTable.below xs j<=i->i<xs.size->j<=xs.getD i 0 :=
 Bk h _ 0 _ (by omega) (by omega) (av _) (λi hi=>absurd hi (Nat.not_lt_zero _)) λi h1 h2=>absurd h2 (by omega)
theorem below_at{xs:Array Nat}(h:jK xs){i:Nat}(hi:i<xs.size):SetTable.below xs (xs.getD i 0)=i:=by
 obtain⟨h1,h2,h3⟩:=P4 (xs.getD i 0) h;rcases eG (SetTable.below xs (xs.getD i 0)) i with z|z|z
 ·exact absurd (h3 _ (av _) (by omega)) (Nat.not_le_of_lt (h.lt z hi))
 ·exact z
 ·exact absurd (h2 i z) (bj _)
theorem YL{xs:Array Nat}(h:jK xs){i:Nat}(hi:i<xs.size):SetTable.below xs (xs.getD i 0+1)=i+1:=by
 obtain⟨h1,h2,h3⟩:=P4 (xs.getD i 0+1) h;rcases eG (SetTable.below xs (xs.getD i 0+1)) (i+1) with z|z|z
 ·have:=h3 i (by omega) hi;omega
 ·exact z
 ·have:=h2 (i+1) z;have:=h.lt (eY i) (k:=i+1) (by omega);omega
theorem YN{xs:Array Nat}(h:jK xs):SetTable.below xs 0=0:=by
 obtain⟨_,h2,_⟩:=P4 0 h;rcases Nat.eq_zero_or_pos (SetTable.below xs 0) with z|z
 ·exact z
 ·exact absurd (h2 0 z) (Nat.not_lt_zero _)
theorem getD_mem{xs:Array Nat}{i:Nat}(hi:i<xs.size):xs[i]?=some (xs.getD i 0):=by simp[Array.getD,hi]
theorem Zs{t:SetTable}{j:Nat}(h:jK t.place)(hs:t.slot j=.empty):j∉t.place.toList:=by
 intro hm;obtain⟨i,hi,e⟩:=bH.mp hm;have jz:i<t.place.size:=by simpa using hi
 have ej:t.place.getD i 0=j:=by rw[<- dy (h:=jz)];simpa using e
 have hb:=below_at h jz;rw[ej] at hb;unfold SetTable.slot at hs;dsimp only at hs;rw[hb,getD_mem jz,ej] at hs;simp at hs
theorem Zo{xs:Array Nat}{j:Nat}(h:jK xs)(hj:j∉xs.toList):jK (SetTable.insertAt xs (SetTable.below xs j) j):=by
 obtain⟨h1,h2,h3⟩:=P4 j h;show(SetTable.insertAt xs (SetTable.below xs j) j).toList.Pairwise (· < ·);rw[SetTable.toList_insertAt,yi];have tk:∀a∈xs.toList.take (SetTable.below xs j),a<j:=λa ha=>by
  obtain⟨i,hi,e⟩:=bH.mp ha;rw[cX] at hi;rw[jP] at e;have hs:i<xs.size:=by simp at hi;omega
  have:=h2 i (by omega);rw[<- dy (h:=hs)] at this;simp at e;omega
 have dp:∀b∈xs.toList.drop (SetTable.below xs j),j<b:=λb hb=>by
  obtain⟨i,hi,e⟩:=bH.mp hb;rw[kD] at hi;rw[List.getElem_drop] at e;have hs:SetTable.below xs j+i<xs.size:=by simp at hi;omega
  have:=h3 (SetTable.below xs j+i) (by omega) hs;rw[<- dy (h:=hs)] at this;have dw:b≠j:=λz=>hj (by rw[<- z];exact yj hb);simp at e;omega
 refine⟨h.take,jj.mpr ⟨dp,h.drop⟩,λa ha b hb=>?_⟩;have kM:=tk a ha;rcases aH.mp hb with z|z
 ·omega
 ·have:=dp b z;omega
theorem Yw(n:Nat):jK (Array.range n):=by
 show(Array.range n).toList.Pairwise (· < ·);rw[Array.toList_range];exact sx
structure Well(L:Bool)(t:SetTable):Prop where
 vW:jK t.place
 AD:t.dummies=#[]
 led:t.led=L
theorem a34{t:SetTable}(hd:t.dummies=#[])(j:Nat):t.slot j≠.dummy:=by
 unfold SetTable.slot;dsimp only;split
 ·intro z;cases z
 ·rw[hd];split
  ·rename_i z;simp[SetTable.has] at z
  ·intro z;cases z
theorem HP{t:SetTable}(hd:t.dummies=#[]){hashAt:Nat->Int}{h:Int}:∀(fuel:Nat) (p:SetTable.Probe) {j:Nat} {dm:Option Nat},p.dummy=none->SetTable.probe.go t hashAt h fuel p=some (.empty j dm)->t.slot j=.empty/\dm=none
 |0,p,j,dm,_,e=>by simp[SetTable.probe.go] at e
 |fuel+1,p,j,dm,hp,e=>by
  unfold SetTable.probe.go at e;have ad:∀q:SetTable.Probe,q.dummy=none->(t.advance q).dummy=none:=λq hq=>by
   unfold SetTable.advance;split
   ·exact hq
   ·exact hq
  split at e
  ·rename_i hs;cases e;exact⟨hs,hp⟩
  ·rename_i hs;exact absurd hs (a34 hd _)
  ·split at e
   ·cases e
   ·exact HP hd fuel _ (ad p hp) e
theorem XQ{t:SetTable}(hd:t.dummies=#[]){h:Int}{j:Nat}{wd:Bool}(e:t.freeSlot h=some (j,wd)):t.slot j=.empty/\wd=false:=by
 unfold SetTable.freeSlot at e;split at e
 ·rename_i j' dm hp;obtain⟨h1,h2⟩:=HP hd _ _ rfl hp;subst h2;cases e;exact⟨h1,rfl⟩
 ·cases e
theorem K6{L:Bool}{t:SetTable}(h:Well L t)(n:Nat):Well L (t.standIn n):=⟨Yw n,rfl,h.led⟩
theorem ZN{L:Bool}{t:SetTable}{es:Array (Int×Value)}{h:Int}{x:Value}(hw:Well L t):Well L (layNew t es h x).2.1/\(layNew t es h x).2.2.1=false:=by
 unfold layNew;split
 ·rename_i slot wd e;obtain⟨h1,h2⟩:=XQ hw.AD e;refine⟨?_,h2⟩;have hd:SetTable.has t.dummies slot=false:=by rw[hw.AD];simp[SetTable.has]
  have w2:Well L (t.put slot).1:=⟨Zo hw.vW (Zs hw.vW h1),by simp only[SetTable.put,hd];exact hw.AD,hw.led⟩
  dsimp only;unfold SetTable.orStandIn;split
  ·exact w2
  ·exact K6 w2 _
 ·exact⟨K6 hw _,rfl⟩
theorem X'{L:Bool}{mask finger moves:Nat}{led plain:Bool}{hashes:Array Int}{t:SetTable}{o:Array Nat}(hl:led=L)(e:SetTable.laid mask finger moves led plain hashes=some (t,o)):Well L t:=by
 unfold SetTable.laid at e;cases ho:SetTable.layClean mask hashes with
 |none=>rw[ho] at e;cases e
 |some owner =>
  rw[ho] at e;simp only[Option.bind_eq_bind,Option.bind_some,Option.pure_def,Option.some.injEq,Prod.mk.injEq] at e;obtain⟨rfl,_⟩:=e;refine⟨?_,rfl,hl⟩;show(List.map _ _).toArray.toList.Pairwise (· < ·);rw[List.toList_toArray];have sub:((List.range (mask+1)).filterMap λj=>(owner.getD j none).map (j,·)).map (·.1) |>.Sublist (List.range (mask+1)):=by
   generalize List.range (mask+1)=l
   induction l with
   |nil=>simp
   |cons a r ih =>
    rw[dJ];cases owner.getD a none with
    |none=>exact ih.cons a
    |some k=>exact ih.cons_cons a
  exact List.Pairwise.sublist sub sx
theorem WN{L:Bool}{t:SetTable}{es:Array (Int×Value)}{n:Nat}(hw:Well L t):Well L (relayAll t es n).2.1:=by
 unfold relayAll;split
 ·rename_i t' order e;dsimp only;split
  ·exact X' hw.led e
  ·exact K6 hw _
 ·exact K6 hw _
end ST

namespace ST
open PySem PyProof.Rows
noncomputable def toI:Value->Int
 |.int k _=>k
 |_=>0
noncomputable def Led(w:World):Bool:=!(w.params.followText "set-order")
section
variable{prog:Program}{w:World}
noncomputable def u5(prog:Program)(w:World)(h:Heap)(a:Addr)(ks:List Int):Prop :=
 ∃o es ep t,h.get? a=some o/\o.ExactSet/\o.data=.set es ep t/\ElemsOf (intKind prog w) es.toList/\(es.toList.map λe=>toI e.2).Perm ks/\ks.Nodup/\es.size<scanBound/\t.fits es.size=true/\Well (Led w) t
theorem u5.at{h h':Heap}{a:Addr}{ks:List Int}(x:u5 prog w h a ks)(k:∀o,h.get? a=some o->h'.get? a=some o):u5 prog w h' a ks:=by
 obtain⟨o,es,ep,t,e,r⟩:=x;exact⟨o,es,ep,t,k o e,r⟩
theorem IH{e:Int×Value}{es:List (Int×Value)}(h:ElemsOf (intKind prog w) es)(he:e∈es):∃tk,e.2=.int (toI e.2) tk/\e.1=(intKind prog w).hash (toI e.2):=by
 obtain⟨⟨k,h1,h2⟩,_⟩:=h e he;obtain⟨t,ht⟩:=mS (k:=k) (v:=e.2) h1;refine⟨t,by rw[ht];rfl,?_⟩;rw[h2,ht]
 rfl
theorem Ik{e:Int×Value}{es:List (Int×Value)}(h:ElemsOf (intKind prog w) es)(he:e∈es)(k:Int):(intKind prog w).is k e.2=decide (toI e.2=k):=by
 obtain⟨t,ht,_⟩:=IH h he;show Value.isInt k e.2=_;rw[ht];generalize toI e.2=m;show Value.isInt k (.int m t)=decide (m=k);by_cases z:m=k
 ·subst z;simp[Value.isInt]
 ·rw[aB z];cases hv:Value.isInt k (.int m t) with
  |false=>rfl
  |true =>
   obtain⟨t',e'⟩:=mS hv;cases e';exact absurd rfl z
theorem u5.mem{a:Addr}{es:List (Int×Value)}{ks:List Int}(h:ElemsOf (intKind prog w) es)(hp:(es.map λe=>toI e.2).Perm ks)(k:Int):(es.findIdx? λe=>(intKind prog w).is k e.2).isSome=decide (k∈ks):=by
 rw[bf,ei,<- hp.mem_iff,aQ,dP];constructor
 ·rintro⟨i,hi⟩;obtain⟨h1,h2,_⟩:=jF.mp hi;have hm:=cx h1;rw[Ik h hm] at h2;exact⟨_,hm,bp h2⟩
 ·rintro⟨e,he,rfl⟩;cases hf:es.findIdx? λe'=>(intKind prog w).is (toI e.2) e'.2 with
  |some i=>exact⟨i,rfl⟩
  |none =>
   have:=List.findIdx?_eq_none_iff.mp hf e he;rw[Ik h he] at this;simp at this
variable{A:Around}{E:Value->Shared->Prop}{s:Shared}
noncomputable def C5(ks:List Int)(k:Int):List Int:=if k∈ks then ks else ks++[k]
theorem a66(ks:List Int)(k:Int):(C5 ks k).length<=ks.length+1:=by unfold C5;split<;>simp
theorem Jv{a:Addr}{ks:List Int}{k:Int}{tk:Tok}{Q:Bool->Shared->Prop}(hS:u5 prog w s.heap a ks)(hr:ks.length+1<scanBound)(h:∀h' b,Heap.SameBut a s.heap h'->u5 prog w h' a (C5 ks k)->Q b { s with heap:=h' }):wpAny (model prog w) A (setAddHashed a (.int k tk) ((intKind prog w).hash k)) Q E s:=by
 obtain⟨o,es,ep,t,ho,hx,hd,pT,hp,hn,hb,hf,hw⟩:=hS;have hlen:es.size=ks.length:=by rw[<- hp.length_eq];simp
 have jy:(intKind prog w).is k (.int k tk)=true:=fE _ _ _ _;have gv:∀(b:Bool) (s1:Shared) (Q':Unit->Shared->Prop),Q' () s1->wpAny (model prog w) A (match b with|true=>rule "set.scan.the-table-gave-way"|false=>pure ()) Q' E s1:=λb s1 Q' q=>by
  cases b
  ·exact ao q
  ·exact fC q
 unfold setAddHashed setAddHashedIn;refine cg (ae (cq ho hd hf ?_));dsimp only;rw[byScan_of rfl hb pT,aF rfl];unfold setAddByScan;refine ae (ae (fC (ae (wpAny_setScan_of jy ho hd hf pT ?_))));have hm:=u5.mem (a:=a) pT hp k;cases lx:es.toList.findIdx? (λe=>(intKind prog w).is k e.2) with
 |some j =>
  rw[lx] at hm;have hk:k∈ks:=by simpa using hm.symm
  refine ao (ao ?_);have e0:s={ s with heap:=s.heap }:=rfl;rw[e0];refine h s.heap _ (Heap.SameBut.refl a s.heap) ?_;unfold C5;rw[aF hk];exact⟨o,es,ep,t,ho,hx,hd,pT,hp,hn,hb,hf,hw⟩
 |none =>
  rw[lx] at hm;have hk:k∉ks:=by simpa using hm.symm
  dsimp only;have p1:=layNew_perm t es ((intKind prog w).hash k) (.int k tk);have f1:=layNew_fits t es ((intKind prog w).hash k) (.int k tk);obtain⟨w1,yw⟩:=ZN (es:=es) (h:=(intKind prog w).hash k) (x:=.int k tk) hw;generalize layNew t es ((intKind prog w).hash k) (.int k tk)=R1 at p1 f1 w1 yw ⊢;obtain⟨fW,t1,wd,Ny⟩:=R1;dsimp only at p1 f1 w1 yw ⊢;subst yw;rw[Array.toList_push] at p1;have Fl:ElemsOf (intKind prog w) fW.toList:=(pT.push jy rfl).perm p1;have sz1:fW.size=es.size+1:=by rw[<- bt,p1.length_eq];simp
  have k1:(fW.toList.map λe=>toI e.2).Perm (C5 ks k):=by
   unfold C5;rw[az hk];refine(p1.map _).trans ?_;rw[cE];exact hp.append_right _
  have n1:(C5 ks k).Nodup:=by
   unfold C5;rw[az hk,cO];exact⟨hn,by simp,λx hx y hy=>by simp at hy;subst hy;exact λz=>hk (z▸hx)⟩
  refine ae (gv _ _ _ ?_);have fin:∀ (t2:SetTable),t2.fits fW.size=true->Well (Led w) t2->wpAny (model prog w) A (do
    storeSet a fW t2
    if(!false&&t2.tooFull)=true then do
      (match(relayAll t2 fW (SetTable.grown fW.size)).2.2 with|true=>rule "set.scan.the-table-gave-way"|false=>pure ())
      storeSet a (relayAll t2 fW (SetTable.grown fW.size)).1 (relayAll t2 fW (SetTable.grown fW.size)).2.1
      pure (some true)
     else pure (some true)) (λr s'=>wpAny (model prog w) A (match r with | some added=>pure added | none=>setAddHashedIn a (.int k tk) ((intKind prog w).hash k) 99999) Q E s') E s:=λt2 f2 w2=>by
   have g1:(s.heap.update a (Obj.putSet fW t2)).get? a=some { o with data:=.set fW (ep+1) t2 }:=by
    have:=aY (Obj.putSet fW t2) ho (by rw[putSet_of fW t2 hd];rfl);rw[putSet_of fW t2 hd] at this;exact this
   refine ae (wpAny_storeSet_of ho hd ?_ (fits_of_scanBound (by omega)));have DI:=bW s.heap a (Obj.putSet fW t2);split
   ·have p2:=relayAll_perm t2 fW (SetTable.grown fW.size);have f3:=relayAll_fits t2 fW (SetTable.grown fW.size);have w3:=WN (es:=fW) (n:=SetTable.grown fW.size) w2;generalize relayAll t2 fW (SetTable.grown fW.size)=R2 at p2 f3 w3 ⊢;obtain⟨mE,t3,gv2⟩:=R2;dsimp only at p2 f3 w3 ⊢;have sz2:mE.size=fW.size:=by rw[<- bt,p2.length_eq,bt]
    refine ae (gv _ _ _ ?_);refine ae (wpAny_storeSet_of g1 rfl ?_ (fits_of_scanBound (by omega)));refine ao (ao (h _ _ (DI.trans (bW _ a _)) ?_));have g2:((s.heap.update a (Obj.putSet fW t2)).update a (Obj.putSet mE t3)).get? a=some { o with data:=.set mE (ep+1+1) t3 }:=by
     have:=aY (Obj.putSet mE t3) g1 (by rw[putSet_of mE t3 rfl];rfl);rw[putSet_of mE t3 rfl] at this;exact this
    exact⟨_,mE,_,t3,g2,hx,rfl,Fl.perm p2,(p2.map _).trans k1,n1,by omega,f3,w3⟩
   ·exact ao (ao (h _ _ DI ⟨_,fW,_,t2,g1,hx,rfl,Fl,k1,n1,by omega,f1 |> λ_=>f2,w2⟩))
  split
  ·refine ae (dO (hashByValue_scannable 8 rfl) ?_);exact fin _ f1 w1
  ·refine ae (ao ?_);exact fin _ f1 w1
end
end ST

namespace ST
open PySem PyProof.Rows
theorem aB9:entryFor table "set.__iter__"=some Builtin.«frozenset.__iter__» :=
 entryFor_alias (id':="frozenset.__iter__") (by kernel_rfl) rfl (by decide +kernel) (by kernel_rfl)
theorem B7:Slot "set_iterator" "__next__" "set_iterator.__next__" :=
 .of (owner:="set_iterator") (n:="__next__") (by rw[jd,fu];kernel_rfl) (by decide +kernel) (by decide +kernel) (by decide +kernel)
  (by first|exact .inl (by decide +kernel)|exact .inr (by decide +kernel)) (by rw[gC];kernel_rfl)
theorem HF:entryFor table "set_iterator.__next__"=some Builtin.«set_iterator.__next__»:=entryFor_of_tree (by kernel_rfl)
theorem HS(a:Value):argsOk "set_iterator.__next__" ⟨[a],[]⟩:=by
 unfold argsOk
 kernel_rfl
theorem HW:Slot "set_iterator" "__iter__" "set_iterator.__iter__" :=
 .of (owner:="set_iterator") (n:="__iter__") (by rw[jd,fu];kernel_rfl) (by decide +kernel) (by decide +kernel) (by decide +kernel)
  (by first|exact .inl (by decide +kernel)|exact .inr (by decide +kernel)) (by rw[gC];kernel_rfl)
theorem ZJ:entryFor table "set_iterator.__iter__"=some Builtin.«dict_keyiterator.__iter__» :=
 entryFor_alias (id':="dict_keyiterator.__iter__") (by kernel_rfl) rfl (by decide +kernel) (by kernel_rfl)
theorem ZW(a:Value):argsOk "set_iterator.__iter__" ⟨[a],[]⟩:=by
 unfold argsOk
 kernel_rfl
end ST

namespace ST
open PySem PyProof.Rows
inductive Rd|text|plain|drawn
structure Lies(h:Heap)(a:Addr)(es:Array (Int×Value))(ep:Nat)(t:SetTable):Prop where
 at_:∃o,h.get? a=some o/\o.cls=.type "set"/\o.data=.set es ep t
 fit:t.fits es.size=true
theorem Lies.at{h h':Heap}{a:Addr}{es:Array (Int×Value)}{ep:Nat}{t:SetTable}(x:Lies h a es ep t)(k:∀o,h.get? a=some o->h'.get? a=some o):Lies h' a es ep t :=
 ⟨let ⟨o,e,r⟩:=x.at_;⟨o,k o e,r⟩,x.fit⟩
noncomputable def C6(h:Heap)(I a:Addr)(f:Value)(i n ep:Nat):Prop:=∃o,h.get? I=some o/\o.cls=.type "set_iterator"/\o.data=.fields #[f,rawInt i,.ref a,rawInt n,rawInt ep]
theorem C6.at{h h':Heap}{I a:Addr}{f:Value}{i n ep:Nat}(x:C6 h I a f i n ep)(k:∀o,h.get? I=some o->h'.get? I=some o):C6 h' I a f i n ep:=let ⟨o,e,r⟩:=x;⟨o,k o e,r⟩
theorem C6.ty{s:Shared}{I a:Addr}{f:Value}{i n ep:Nat}(x:C6 s.heap I a f i n ep):s.TypeIs (.ref I) "set_iterator":=let ⟨o,e,c,_⟩:=x;⟨o,e,c⟩
noncomputable def vg(w:World)(a:Addr)(es:Array (Int×Value))(ep:Nat)(pl:List Nat):Rd->List Value
 |.text=>(pickOrder (w.params.setOrder a ep) es).toList.map (·.2)
 |.plain=>es.toList.map (·.2)
 |.drawn=>pl.map λj=>(es.getD j (0,.none)).2
noncomputable def slotAt(t:SetTable):Nat->Nat
 |0=>0
 |i+1=>t.place.getD i 0+1
noncomputable def M6(h:Heap)(t:SetTable)(b:Addr)(pl:List Nat)(i:Nat)(f:Value):Rd->Prop
 |.text=>∃k:Nat,f=rawInt k
 |.plain=>f=rawInt (slotAt t i)
 |.drawn=>f=.ref b/\∃o e,h.get? b=some o/\o.cls=.type "tuple"/\o.data=.seq (pl.map λj=>rawInt (j:Nat)).toArray e
noncomputable def rJ(w:World)(es:Array (Int×Value))(t:SetTable)(pl:List Nat):Rd->Prop
 |.text=>w.params.followText "set-order"=true
 |.plain=>w.params.followText "set-order"=false/\(t.plain=true\/es.size<=1)/\Well true t
 |.drawn=>w.params.followText "set-order"=false/\pl.Perm (List.range es.size)
section
variable{prog:Program}{w:World}{A:Around}{E:Value->Shared->Prop}{s:Shared}{a:Addr}{es:Array (Int×Value)}{ep:Nat}{t:SetTable}
theorem vi{Q:Bool->Shared->Prop}(h:Q (w.params.followText "set-order") s):wpAny (model prog w) A setsByText Q E s:=by
 unfold setsByText;exact ae (pb (ao h))
theorem GY(hL:Lies s.heap a es ep t)(ht:w.params.followText "set-order"=true){sl g:Nat}{Q:Option (Value×Nat)->Shared->Prop}(h:Q (((pickOrder (w.params.setOrder a ep) es)[g]?).map λe=>(e.2,sl)) s) :
  wpAny (model prog w) A (setNext a sl g ep) Q E s:=by
 obtain⟨o,ho,_,hd⟩:=hL.at_;unfold setNext;refine ae (cq ho hd hL.fit ?_);refine ae (vi ?_);rw[ht,aF rfl,az (by simp)];unfold setWalk;refine ae (ae (cq ho hd hL.fit ?_));refine ae (vi ?_);rw[ht,aF rfl];exact ae (pb (ao (ao h)))
theorem Hx(hL:Lies s.heap a es ep t)(ht:w.params.followText "set-order"=false)(hp:t.plain=true\/es.size<=1)(hl:t.led=true){sl g:Nat}{Q:Option (Value×Nat)->Shared->Prop}(h:Q (match es[SetTable.below t.place sl]?,t.place[SetTable.below t.place sl]? with|some (_,x),some j=>some (x,j+1)|_,_=>none) s):wpAny (model prog w) A (setNext a sl g ep) Q E s:=by
 obtain⟨o,ho,_,hd⟩:=hL.at_;unfold setNext;refine ae (cq ho hd hL.fit ?_);refine ae (vi ?_);rw[ht,az (by decide)];show wpAny _ _ (if(!t.plain&&decide (es.size>1))=true then _ else _) _ _ _;rw[az (by rcases hp with e|e<;>simp[e])];refine ae (dO (a:=()) ?_ (ao h));show((if(!t.led&&!es.isEmpty)=true then unsupported "set:maker-not-led" else pure ()):Sem Unit)=pure ();rw[hl]
 rfl
theorem Zj(hL:Lies s.heap a es ep t){j:Nat}(hj:j<es.size){Q:Value->Shared->Prop}(h:Q (es.getD j (0,.none)).2 s):wpAny (model prog w) A (setNextDrawn a j ep) Q E s:=by
 obtain⟨o,ho,_,hd⟩:=hL.at_;unfold setNextDrawn;refine ae (cq ho hd hL.fit ?_);dsimp only;rw[az (by simp)];have e:es[j]?=some (es.getD j (0,.none)):=by simp[Array.getD,hj]
 rw[e];exact ao h
end
end ST

namespace ST
open PySem PyProof.Rows
section
variable{prog:Program}{w:World}{A:Around}{E:Value->Shared->Prop}{s:Shared}{a I b:Addr}{es:Array (Int×Value)}{ep:Nat}{t:SetTable}{pl:List Nat}
theorem Gz(hL:Lies s.heap a es ep t):t.place.size=es.size:=by
 have:=hL.fit;unfold SetTable.fits at this;simp at this;exact this.1
theorem Hm(hw:jK t.place){i:Nat}(hi:i<=t.place.size):SetTable.below t.place (slotAt t i)=i:=by
 cases i with
 |zero=>exact YN hw
 |succ i=>exact YL hw (by omega)
theorem entries{Q:Array (Int×Value)->Shared->Prop}(hL:Lies s.heap a es ep t)(h:Q es s):wpAny (model prog w) A (setEntries a) Q E s:=by
 obtain⟨o,ho,_,hd⟩:=hL.at_;unfold setEntries;exact ae (cq ho hd hL.fit (ao h))
theorem Uj{f f':Value}{i n:Nat}{h:Heap}(hi:C6 h I a f i n ep){x:Value}(hx:x=rawInt ((i:Int)+1)):C6 ((h.update I (Obj.mapFields (·.setIfInBounds 0 f'))).update I (Obj.mapFields (·.setIfInBounds 1 x))) I a f' (i+1) n ep:=by
 obtain⟨o,ho,hc,hd⟩:=hi;have h1:=aY (Obj.mapFields (·.setIfInBounds 0 f')) ho (cS (br hd _));have d1:(Obj.mapFields (·.setIfInBounds 0 f') o).data=.fields #[f',rawInt i,.ref a,rawInt n,rawInt ep]:=by rw[br hd];simp
 have h2:=aY (Obj.mapFields (·.setIfInBounds 1 x)) h1 (cS (br d1 _));refine⟨_,h2,(mU ..).trans ((mU ..).trans hc),?_⟩;rw[br d1];subst hx;simp[rawInt]
theorem Ui{f:Value}{i n:Nat}{h:Heap}(hi:C6 h I a f i n ep){x:Value}(hx:x=rawInt ((i:Int)+1)):C6 (h.update I (Obj.mapFields (·.setIfInBounds 1 x))) I a f (i+1) n ep:=by
 obtain⟨o,ho,hc,hd⟩:=hi;have h2:=aY (Obj.mapFields (·.setIfInBounds 1 x)) ho (cS (br hd _));refine⟨_,h2,(mU ..).trans hc,?_⟩;rw[br hd];subst hx;simp[rawInt]
theorem Ga{α:Type}{f f' x:Value}{i n:Nat}{m:Sem α}{Q':α->Shared->Prop}(hi:C6 s.heap I a f i n ep)(hx:x=rawInt ((i:Int)+1))(h:∀h',C6 h' I a f' (i+1) n ep->Heap.SameBut I s.heap h'->wpAny (model prog w) A m Q' E { s with heap:=h' }) :
  wpAny (model prog w) A (do setField (.ref I) 0 f';setField (.ref I) 1 x;m) Q' E s:=by
 obtain⟨o,ho,hc,hd⟩:=id hi;refine ae (dt ho hd (by simp) ?_);have h1:=aY (Obj.mapFields (·.setIfInBounds 0 f')) ho (cS (br hd _));have d1:(Obj.mapFields (·.setIfInBounds 0 f') o).data=.fields #[f',rawInt i,.ref a,rawInt n,rawInt ep]:=by rw[br hd];simp
 refine ae (dt (s:={ s with heap:=_ }) h1 d1 (by simp) ?_);exact h _ (Uj hi hx) ((bW ..).trans (bW ..))
theorem UR{α:Type}{f x:Value}{i n:Nat}{m:Sem α}{Q':α->Shared->Prop}(hi:C6 s.heap I a f i n ep)(hx:x=rawInt ((i:Int)+1))(h:∀h',C6 h' I a f (i+1) n ep->Heap.SameBut I s.heap h'->wpAny (model prog w) A m Q' E { s with heap:=h' }) :
  wpAny (model prog w) A (do setField (.ref I) 1 x;m) Q' E s:=by
 obtain⟨o,ho,hc,hd⟩:=id hi;refine ae (dt ho hd (by simp) ?_);exact h _ (Ui hi hx) (bW ..)
theorem BB{α:Type}(next:Nat->Nat)(xs:Array α):(pickOrder next xs).toList.Perm xs.toList:=by
 have go:∀(fuel k:Nat) (left:List α) (out:Array α),fuel=left.length->(pickOrder.go next fuel k left out).toList.Perm (out.toList++left):=by
  intro fuel
  induction fuel with
  |zero =>
   intro k left out e;have:left=[]:=fe e.symm;subst this;simp[pickOrder.go]
  |succ n ih =>
   intro k left out e;have dN:next k % left.length<left.length:=Ko _ (by omega)
   unfold pickOrder.go;rw[ai dN];refine(ih _ _ _ (by rw[fN dN];omega)).trans ?_;rw[Array.toList_push,fZ];refine List.Perm.append_left _ ?_;have:left.Perm (left[next k % left.length]::left.eraseIdx (next k % left.length)):=by
    rw[kd]
    conv=>lhs;rw[<- ig (next k % left.length) left,dH dN]
    exact List.perm_middle
   exact this.symm
 have:=go xs.size 0 xs.toList #[] (by simp);simpa[pickOrder] using this
theorem next_item{r:Rd}{i:Nat}{f:Value}{Q:Option Value->Shared->Prop}(hL:Lies s.heap a es ep t)(hr:rJ w es t pl r)(hi:C6 s.heap I a f i es.size ep)(hf:M6 s.heap t b pl i f r)(dw:b≠I)(dN:i<es.size)(h:∀v h' f',(vg w a es ep pl r)[i]?=some v->C6 h' I a f' (i+1) es.size ep->M6 h' t b pl (i+1) f' r->Heap.SameBut I s.heap h'->Q (some v) { s with heap:=h' }):wpAny (model prog w) A (pyNext (.ref I)) Q E s:=by
 obtain⟨o,ho,hc,hd⟩:=id hi;unfold pyNext;refine ae (wpAny_attempt (eU (name:=Str.ofString "__next__") hi.ty B7 (cC B7 hi.ty HF ?_ (HS _))));unfold Builtin.«set_iterator.__next__»;refine ae (ao ?_);refine ae (wpAny_fieldsOf ho hd ?_);dsimp only[rawInt];refine ae (entries hL ?_);rw[az (by simp)];rw[bU,bU];cases r with
 |text =>
  obtain⟨k,rfl⟩:=hf;dsimp only[rawInt];refine ae (GY hL hr ?_);have hl:i<(pickOrder (w.params.setOrder a ep) es).size:=by
   have:=(BB (w.params.setOrder a ep) es).length_eq;simp at this;omega
  rw[nO hl];refine Ga hi rfl λh' h1 h2=>ao ⟨_,rfl,ao (h _ _ _ ?_ h1 ⟨_,rfl⟩ h2)⟩;show((pickOrder (w.params.setOrder a ep) es).toList.map (·.2))[i]?=_;simp[hl]
 |plain =>
  obtain⟨r1,r2,r3⟩:=hr;have hs:=Gz hL;obtain rfl:=hf;dsimp only[rawInt];rw[bU];refine ae (Hx hL r1 r2 r3.led ?_);rw[Hm r3.vW (by omega),nO dN,getD_mem (by omega)];refine Ga hi rfl λh' h1 h2=>ao ⟨_,rfl,ao (h _ _ _ ?_ h1 rfl h2)⟩;show(es.toList.map (·.2))[i]?=_;simp[dN]
 |drawn =>
  obtain⟨r1,r2⟩:=hr;obtain⟨rfl,ob,e,hb,EL,wA⟩:=hf;have fS:i<pl.length:=by rw[r2.length_eq];simpa using dN
  dsimp only;refine ae (wpAny_seqItems hb wA ?_);have hj:pl[i]<es.size:=by
   have:=r2.mem_iff.mp (cx fS);simpa using this
  have e1:(pl.map λj=>rawInt (j:Nat)).toArray[i]?=some (rawInt (pl[i]:Nat)):=by simp[fS]
  dsimp only;rw[e1];dsimp only[rawInt];rw[bU];refine ae (Zj hL hj ?_);refine UR hi rfl λh' h1 h2=>ao ⟨_,rfl,ao (h _ _ _ ?_ h1 ⟨rfl,ob,e,by rw[h2.2 b dw];exact hb,EL,wA⟩ h2)⟩;show(pl.map λj=>(es.getD j (0,.none)).2)[i]?=_;simp[fS]
theorem BC{Q:Option Value->Shared->Prop}{I:Addr}{h0:Heap}(hh:A.handled=none)(Nq:Heap.ExtBut I h0 s.heap)(h:∀h',Heap.ExtBut I h0 h'->Q none { s with heap:=h' }) :
  wpAny (model prog w) A.in1 (newExc (.type "StopIteration") [] >>= λe=>(raiseNew e:Sem Fin)) (λfin s'=>∃v,fin=Fin.done (Flow.ret v)/\wpAny (model prog w) A (pure (some v)) Q E s')
   (λe s'=>wpAny (model prog w) A (do
     let x <- isInstance e (Value.type "StopIteration")
     if x=true then pure none else throw e) Q E s') s:=by
 refine ae ?_;simp only[newExc,newTuple];refine ae (bX ?_ (by size_fits));refine ae (m:=firstArgMember _ _) (dO (a:=Value.none) (by first|rfl|(simp only[firstArgMember];rfl)) ?_);refine bX ?_ (by size_fits);simp only[raiseNew];refine ae (wpAny_handled ?_);rw[show A.in1.handled=none from hh];refine ae (ao (wpAny_throw ?_));refine ae (iH (T:="StopIteration") (b:=true) ⟨_,aD _ rfl,rfl⟩ isSubtype_stop ?_);exact ao (h _ ((Nq.push _).push _))
theorem next_end{r:Rd}{f:Value}{Q:Option Value->Shared->Prop}(hh:A.handled=none)(hL:Lies s.heap a es ep t)(hr:rJ w es t pl r)(hi:C6 s.heap I a f es.size es.size ep)(hf:M6 s.heap t b pl es.size f r)(dw:b≠I)(h:∀h',Heap.ExtBut I s.heap h'->Q none { s with heap:=h' }):wpAny (model prog w) A (pyNext (.ref I)) Q E s:=by
 obtain⟨o,ho,hc,hd⟩:=id hi;unfold pyNext;refine ae (wpAny_attempt (eU (name:=Str.ofString "__next__") hi.ty B7 (cC B7 hi.ty HF ?_ (HS _))));unfold Builtin.«set_iterator.__next__»;refine ae (ao ?_);refine ae (wpAny_fieldsOf ho hd ?_);dsimp only[rawInt];refine ae (entries hL ?_);rw[az (by simp)];rw[bU,bU];cases r with
 |text =>
  obtain⟨k,rfl⟩:=hf;dsimp only[rawInt];refine ae (GY hL hr ?_);have hl:(pickOrder (w.params.setOrder a ep) es).size<=es.size:=by
   have:=(BB (w.params.setOrder a ep) es).length_eq;simp at this;omega
  rw[sD hl];refine ae (dt ho hd (by simp) ?_);exact BC (s:={ s with heap:=_ }) hh (bW ..).extBut h
 |plain =>
  obtain⟨r1,r2,r3⟩:=hr;have hs:=Gz hL;obtain rfl:=hf;dsimp only[rawInt];rw[bU];refine ae (Hx hL r1 r2 r3.led ?_);rw[Hm r3.vW (by omega),sD (av _)];refine ae (dt ho hd (by simp) ?_);exact BC (s:={ s with heap:=_ }) hh (bW ..).extBut h
 |drawn =>
  obtain⟨r1,r2⟩:=hr;obtain⟨rfl,ob,e,hb,EL,wA⟩:=hf;have fS:pl.length=es.size:=by rw[r2.length_eq];simp
  dsimp only;refine ae (wpAny_seqItems hb wA ?_);have e1:(pl.map λj=>rawInt (j:Nat)).toArray[es.size]?=none:=by simp[fS]
  dsimp only;rw[e1];dsimp only[rawInt];refine ae (dt ho hd (by simp) ?_);have h1:=aY (Obj.mapFields (·.setIfInBounds 0 (Value.int 0 0))) ho (cS (br hd _));refine ae (dt (s:={ s with heap:=_ }) h1 (br hd _) (by simp) ?_);exact BC (s:={ s with heap:=_ }) hh ((bW ..).trans (bW ..)).extBut h
end
end ST

namespace ST
open PySem PyProof.Rows
section
variable{prog:Program}{w:World}{A:Around}{E:Value->Shared->Prop}{s:Shared}{a I b:Addr}{es:Array (Int×Value)}{ep:Nat}{t:SetTable}{pl:List Nat}
theorem Yo{α:Type}{l:List α}{k:Nat}(dN:k<l.length):(l[k]::l.eraseIdx k).Perm l:=by
 rw[kd]
 conv=>rhs;rw[<- ig k l,dH dN]
 exact List.perm_middle.symm
theorem Hr{α:Type}:∀(n:Nat) (xs:List α) (s:Shared) (Q:List α->Shared->Prop),n=xs.length->(∀ys d,ys.Perm xs->Q ys { s with drawn:=d })->wpAny (model prog w) A (drawOrder n xs) Q E s
 |0,xs,s,Q,e,h=>by
  have:xs=[]:=fe e.symm;subst this;exact ao (h [] s.drawn (List.Perm.refl _))
 |n+1,[],s,Q,e,h=>by simp at e
 |n+1,x::xs,s,Q,e,h=>by
  unfold drawOrder;refine ae ?_;intro Γ p hΓ;refine⟨by simp,?_⟩;generalize (model prog w).w.draws .order (s.drawn.get .order)=k;have dN:k % (x::xs).length<(x::xs).length:=Ko _ (by simp);have go:wpAny (model prog w) A (match (x :: xs)[k % (x :: xs).length]? with
   |some y=>do
    let ys <- drawOrder n ((x::xs).eraseIdx (k % (x::xs).length))
    pure (y::ys)
   | none=>unsupported "internal:drawOrder") Q E { s with drawn:=s.drawn.bump .order }:=by
   rw[ai dN];refine ae (Hr n _ _ _ (by rw[fN dN];simp at e ⊢;omega) λys d hp=>ao ?_);exact h _ d ((List.Perm.cons _ hp).trans (Yo dN))
  exact go
theorem Gn{r:Rd}(hr:rJ w es t pl r):(vg w a es ep pl r).Perm (es.toList.map (·.2)):=by
 cases r with
 |text=>exact(BB _ es).map _
 |plain=>exact List.Perm.refl _
 |drawn =>
  refine(hr.2.map _).trans ?_;have:(List.range es.size).map (λj=>(es.getD j (0,.none)).2)=es.toList.map (·.2):=by
   apply List.ext_getElem
   ·simp
   ·intro i h1 h2;simp at h1;simp[Array.getD,h1]
  rw[this]
theorem Lies.ty(hL:Lies s.heap a es ep t):s.TypeIs (.ref a) "set":=let ⟨o,e,c,_⟩:=hL.at_;⟨o,e,c⟩
theorem Xk(hL:Lies s.heap a es ep t)(hw:Well (Led w) t)(hz:es.size<=10000){Q:Value->Shared->Prop}(h:∀r pl b f I h' d',rJ w es t pl r->C6 h' I a f 0 es.size ep->M6 h' t b pl 0 f r->b≠I->(b=a\/s.heap.objs.size<=b)->(∀c o,s.heap.get? c=some o->h'.get? c=some o)->s.heap.objs.size<=I->s.heap.objs.size<=h'.objs.size->Q (.ref I) { s with heap:=h',drawn:=d' }) :
  wpAny (model prog w) A (pyIter (.ref a)) Q E s:=by
 obtain⟨o,ho,zq,hd⟩:=hL.at_;refine wpAny_pyIter_slot hL.ty F.slot_set_iter (cC F.slot_set_iter hL.ty aB9 ?_ (F.args_set_iter_1 _));unfold Builtin.«frozenset.__iter__»;refine ae (ao ?_);unfold Builtin.Frozenset.sizeOf;refine ae (ae (entries hL (ao ?_)));unfold setDrawn;refine ae (ae (cq ho hd hL.fit ?_));refine ae (vi (ao ?_));have dN:=ay ho;have fin:∀(r:Rd) (f:Value) (b:Addr) (pl:List Nat) (h1:Heap) (d1:Drawn),rJ w es t pl r->(∀h',(∀c o,h1.get? c=some o->h'.get? c=some o)->M6 h' t b pl 0 f r)->b<h1.objs.size->(b=a\/s.heap.objs.size<=b)->(∀c o,s.heap.get? c=some o->h1.get? c=some o)->s.heap.objs.size<=h1.objs.size ->
   wpAny (model prog w) A.in1 (do
    let e <- setEpoch a
    ret (<- newFields "set_iterator" [f,rawInt 0,.ref a,rawInt es.size,rawInt e])) (λfin s'=>∃ v,fin=Fin.done (Flow.ret v)/\∃ T' r,s'.TypeIs v T'/\typeLookup (.type T') "__next__"=pure (some r)/\Q v s') E { s with heap:=h1,drawn:=d1 }:=λr f b pl h1 d1 hr hf hb zN he hsz=>by
  have rA:Lies h1 a es ep t:=hL.at λo e=>he a o e;obtain⟨o1,Me,_,EJ⟩:=rA.at_;unfold setEpoch;refine ae (ae (cq (s:={ s with heap:=h1,drawn:=d1 }) Me EJ rA.fit (ao ?_)));refine ae (bX (ao ⟨_,rfl,"set_iterator",_,⟨_,aD _ rfl,rfl⟩,B7.lookup,?_⟩));refine h r pl b f h1.objs.size _ d1 hr ⟨_,aD _ rfl,rfl,rfl⟩ (hf _ λc o e=>au _ e) (aN hb) zN (λc o e=>au _ (he c o e)) hsz (by rw[vG];exact Nat.le_succ_of_le hsz)
 have e0:s={ s with heap:=s.heap,drawn:=s.drawn }:=rfl;cases hT:w.params.followText "set-order" with
 |true =>
  dsimp only[Bool.not_true,Bool.false_and];rw[az (by simp)];refine ae (ao ?_);rw[e0];exact fin .text (rawInt 0) a [] s.heap s.drawn hT (λh' _=>⟨0,rfl⟩) dN (.inl rfl) (λc o e=>e) (av _)
 |false =>
  show wpAny _ _ (if(!false&&(!t.plain&&decide (es.size>1)))=true then _ else _ ) _ _ _;by_cases hp:t.plain=true\/es.size<=1
  ·rw[az (by rcases hp with e|e<;>simp[e])];refine ae (ao ?_);rw[e0];refine fin .plain (rawInt 0) a [] s.heap s.drawn ⟨hT,hp,?_⟩ (λh' _=>rfl) dN (.inl rfl) (λc o e=>e) (av _);have:Led w=true:=by unfold Led;rw[hT];rfl
   rw[<- this];exact hw
  ·have h1:t.plain=false:=by cases hq:t.plain with|true=>exact absurd (.inl hq) hp|false=>rfl
   have h2:¬es.size<=1:=λz=>hp (.inr z);rw[aF (by simp[h1];omega)];refine ae (Hr _ _ _ _ (List.length_range).symm λys d hy=>?_);have hl:ys.length=es.size:=by rw[hy.length_eq];simp
   refine ae (bX ?_ (by show(List.map _ ys).toArray.size<=sizeLine;rw[aE,ag,hl];exact aG hz (by decide)));refine fin .drawn (.ref s.heap.objs.size) s.heap.objs.size ys _ d ⟨hT,hy⟩ (λh' hk=>⟨rfl,_,_,hk _ _ (aD _ rfl),rfl,rfl⟩) (by rw[vG];exact eY _) (.inr (av _)) (λc o e=>au _ e) (by rw[vG];exact fX _)
theorem Yz(hh:A.handled=none){r:Rd}(hr:rJ w es t pl r)(dw:b≠I)(Mg:a≠I) :
  Walks prog w A I [I,a,b] [I] es.size (λi v=>(vg w a es ep pl r)[i]?=some v) (λi h=>Lies h a es ep t/\∃f,C6 h I a f i es.size ep/\M6 h t b pl i f r) where
 sub:=λc hc=>by simp at hc;simp[hc]
 frame:=λi h h' st hk=>by
  obtain⟨hL,f,hi,hf⟩:=st;refine⟨hL.at λo e=>hk a (by simp) o e,f,hi.at λo e=>hk I (by simp) o e,?_⟩;cases r with
  |text=>exact hf
  |plain=>exact hf
  |drawn =>
   obtain⟨e1,o,e,h1,h2⟩:=hf;exact⟨e1,o,e,hk b (by simp) o h1,h2⟩
 item:=λi s Q E hi st hQ=>by
  obtain⟨hL,f,hI,hf⟩:=st;exact next_item hL hr hI hf dw hi λv h' f' hv h1 h2 h3=>hQ v h' s.toks hv ⟨hL.at λo e=>by rw[h3.2 a Mg];exact e,f',h1,h2⟩ λc o hc e=>h3.extBut c o (λz=>hc (by simp[z])) e
 done:=λs Q E st hQ=>by
  obtain⟨hL,f,hI,hf⟩:=st;exact next_end hh hL hr hI hf dw λh' he=>hQ h' s.toks λc o hc e=>he c o (λz=>hc (by simp[z])) e
 self:=λi s Q E st hQ=>by
  obtain⟨hL,f,hI,hf⟩:=st;refine wpAny_pyIter_slot hI.ty HW (cC HW hI.ty ZJ ?_ (ZW _));exact ae (ao (ao ⟨_,rfl,"set_iterator",_,hI.ty,B7.lookup,hQ⟩))
end
end ST

namespace ST
open PySem PyProof.Rows
theorem aA7:typeLookup (.type "set") "__len__"=pure (some (.builtin "set.__len__")):=by rw[jd,fu];kernel_rfl
section
variable{prog:Program}{w:World}{A:Around}{E:Value->Shared->Prop}{s:Shared}{a I b:Addr}{es:Array (Int×Value)}{ep:Nat}{t:SetTable}{pl:List Nat}
theorem ZT(hh:A.handled=none)(hL:Lies s.heap a es ep t)(hw:Well (Led w) t)(hz:es.size<=10000){Q:List Value->Shared->Prop}(h:∀(vs:List Value) h' d' lL,vs.Perm (es.toList.map (·.2))->(∀c o,s.heap.get? c=some o->h'.get? c=some o)->s.heap.objs.size<=h'.objs.size->s.toks<=lL->Q vs { s with heap:=h',drawn:=d',toks:=lL }) :
  wpAny (model prog w) A (collect (.ref a)) Q E s:=by
 have dN:a<s.heap.objs.size:=let ⟨o,ho,_⟩:=hL.at_;ay ho
 unfold collect;refine ae (wpAny_runValue (eO F.entry_proto_collect ?_));rw[dR F.plain_proto_collect _];show wpAny _ A.in1 (newList [] >>= λl=>again (.builtin "list.__iadd__" ⟨[l,.ref a],[]⟩)) _ _ s;refine ae (bX ?_);refine ao ⟨kU F.plain_list_iadd _,eO F.entry_list_iadd ?_⟩;rw[dR F.plain_list_iadd _];have rA:Lies (s.heap.push { cls:=.type "list",data:=.seq ([]:List Value).toArray }) a es ep t:=hL.at λo e=>au _ e;have MP:(s.heap.push { cls:=.type "list",data:=.seq ([]:List Value).toArray }).get? s.heap.objs.size=some { cls:=.type "list",data:=.seq ([]:List Value).toArray }:=aD _ rfl;have dw:s.heap.objs.size≠a:=bO dN;have h1:Builtin.List.listSameRef (.ref s.heap.objs.size) (.ref a)=false:=by simp[Builtin.List.listSameRef,dw]
 show wpAny _ A.in1 (Builtin.List.listExtendWith (.ref s.heap.objs.size) (.ref a) (.ref s.heap.objs.size)) _ _ _;unfold Builtin.List.listExtendWith;refine ae (eh (Lies.ty (s:={ s with heap:=_ }) rA) ?_);rw[az (by rw[h1];decide)];refine ae (Xk (s:={ s with heap:=_ }) rA hw hz λr pl b f I h2 d2 hr hI hf hb MJ he Aa h2z=>?_);have qa:Lies h2 a es ep t:=rA.at λo e=>he a o e;have uq:=he _ _ MP;refine ae (cg ?_);unfold Builtin.List.listLengthHint;refine ae (wpAny_specialOf (Lies.ty (s:={ s with heap:=h2,drawn:=d2 }) qa) aA7 ?_);generalize EA:("set.__len__":String)=LK;dsimp only;rw[show splitId LK=some ("set","__len__") from by subst EA;decide +kernel];dsimp only;refine ae (iH (b:=true) (Lies.ty (s:={ s with heap:=h2,drawn:=d2 }) qa) (by rw[gC];kernel_rfl) ?_);rw[az (by decide)];subst EA;rw[aF (by decide +kernel)];refine ae (eh (Lies.ty (s:={ s with heap:=h2,drawn:=d2 }) qa) ?_);refine ao ?_;rw[aF (by decide +kernel)];refine ae (fC ?_);refine ae ?_;show wpAny _ A.in1 (updateSeq s.heap.objs.size (·.push .none) >>= λ_=>updateSeq s.heap.objs.size (·.pop)) _ _ _;refine ae (wpAny_updateSeq (s:={ s with heap:=h2,drawn:=d2 }) uq rfl ?_);have ES:=aY (Obj.mapSeq (·.push Value.none)) uq rfl;refine wpAny_updateSeq (s:={ s with heap:=_,drawn:=d2 }) ES rfl ?_;have MO:=aY (Obj.mapSeq (·.pop)) ES rfl;have DP:∀c o,c≠s.heap.objs.size->h2.get? c=some o->((h2.update s.heap.objs.size (Obj.mapSeq (·.push Value.none))).update s.heap.objs.size (Obj.mapSeq (·.pop))).get? c=some o :=
  λc o hc e=>(bV _ _ (bC hc)).trans ((bV _ _ (bC hc)).trans e)
 have qW:s.heap.objs.size<(s.heap.push { cls:=.type "list",data:=.seq ([]:List Value).toArray }).objs.size:=by rw[vG];exact eY _
 have hSI:I≠s.heap.objs.size:=bO (ax qW Aa);have hSb:b≠s.heap.objs.size:=by
  rcases MJ with z|z
  ·rw[z];exact bC dw
  ·exact bO (ax qW z)
 have W:=(Yz (prog:=prog) (w:=w) (A:=A.in1) (a:=a) (b:=b) (I:=I) (es:=es) (ep:=ep) (t:=t) (pl:=pl) hh hr hb (aN (ax (cI dN qW) Aa))).toS;have st:Lies h2 a es ep t/\∃f,C6 h2 I a f 0 es.size ep/\M6 h2 t b pl 0 f r:=⟨qa,f,hI,hf⟩
 have jT:=W.frame 0 ({ s with heap:=h2,drawn:=d2 }:Shared) _ s.toks st (av _) λc hc o e=>DP c o (λz=>by simp at hc;rcases hc with y|y|y<;>simp_all) e;refine ao ⟨kU F.plain_extend_loop _,codeAny_extend_loopS W (aG hz (by decide)) _ (λz=>by simp at z;rcases z with y|y|y<;>simp_all) _ es.size 0 _ _ _ rfl (cB _) jT MO (ItemsOf.nil _) λs' vj c' hm ly kc=>?_⟩;show wpAny _ A (load s.heap.objs.size >>= _) _ _ s';refine ae (wpAny_load ly ?_);refine ao ?_;have eS:s'={ s with heap:=s'.heap,drawn:=d2,toks:=s'.toks }:=by
  obtain⟨iZ,g',d',lL,sX⟩:=s';have m1:g'=s.gens:=hm.gens;have m2:d'=d2:=hm.drawn;have m3:sX=s.os:=hm.os;subst m1;subst m2;subst m3
  rfl
 have eo:vj.toList=vg w a es ep pl r:=by
  have l1:(vg w a es ep pl r).length=es.size:=by rw[(Gn hr).length_eq];simp
  apply List.ext_getElem
  ·rw[l1];simpa using kc.1
  ·intro i h1 h2;have:=kc.2 i vj.toList[i] (by simp at h1 ⊢);dsimp only at this;rw[ai h2] at this;exact(aI this).symm
 rw[eo,eS];refine h _ _ d2 s'.toks (Gn hr) (λc o e=>?_) (dE (ay ly)) hm.toks;have hc:c<s.heap.objs.size:=ay e;have n1:c≠s.heap.objs.size:=aN hc;have n2:c≠I:=aN (ax (cI hc qW) Aa);exact hm.heap c o (by simp[n1,n2]) (DP c o n1 (he c o (au _ e)))
theorem Zu{ks:List Int}(hh:A.handled=none)(hS:u5 prog w s.heap a ks)(h64:ks.length<64){Q:Value->Shared->Prop}(h:∀(S:Addr) (vs:List Value) (ns:List Int) e h' d' lL,IntsAre vs ns->ns.Perm ks->ns.Pairwise (·<=·)->h'.get? S=some (seqObj "list" vs.toArray e)->s.heap.objs.size<=S->(∀c o,s.heap.get? c=some o->h'.get? c=some o)->s.toks<=lL->Q (.ref S) { s with heap:=h',drawn:=d',toks:=lL }) :
  wpAny (model prog w) A (call (.builtin "sorted") [.ref a]) Q E s:=by
 obtain⟨o,es,ep,t,ho,hx,hd,pT,hp,hn,hb,hf,hw⟩:=hS;have hL:Lies s.heap a es ep t:=⟨⟨o,ho,hx.1,hd⟩,hf⟩
 have hz:es.size=ks.length:=by rw[<- hp.length_eq];simp
 refine Calls.call_function_entry kind_sorted plain_sorted entry_sorted (args_sorted1 _) ?_;unfold Builtin.«sorted»;refine ae (m:=checkCount "sorted" 1 1 _) (ao ?_);refine ae (ZT (A:=A.in1) hh hL hw (by omega) λvs h1 d1 yA hv he qW wj=>?_);have hI:IntsAre vs (vs.map toI):=by
  have all:∀v∈vs,∃tk,v=.int (toI v) tk:=λv zh=>by
   obtain⟨e,zI,rfl⟩:=aQ.mp (hv.mem_iff.mp zh);obtain⟨tk,h1,_⟩:=IH pT zI;exact⟨tk,h1⟩
  clear hv
  induction vs with
  |nil=>exact .nil
  |cons v r ih =>
   obtain⟨tk,e⟩:=all v (by simp);have:=IntsAre.cons (toI v) tk (ih λu hu=>all u (by simp[hu]));rw[<- e] at this;exact this
 have hk:(vs.map toI).Perm ks:=by
  refine(hv.map toI).trans ?_;rw[cz];exact hp
 have hl:vs.length<64:=by rw[hv.length_eq];simp;omega
 refine ae (wpAny_newList (s:={ s with heap:=h1,drawn:=d1,toks:=yA }) ?_);have tV:(h1.push (seqObj "list" vs.toArray 0)).get? h1.objs.size=some (seqObj "list" vs.toArray 0):=aD _ rfl;refine ae (cg (cC (s:={ s with heap:=h1.push (seqObj "list" vs.toArray 0),drawn:=d1,toks:=yA }) slot_list_sort ⟨_,tV,rfl⟩ entry_list_sort (list_sort_tree tV hI hl λout yS a1 a2 a3=>⟨_,rfl,?_⟩) (args_list_sort _)));obtain⟨e,zI⟩:=sortedHeap_at (vs:=vs) (out:=out) tV;refine ao ⟨_,rfl,h h1.objs.size out.toList yS e _ d1 yA a1 (a2.trans hk) a3 zI qW (λc o' e'=>?_) wj⟩;have hc:=ay (he c o' e');rw[sortedHeap_old (aN hc) (by rw[vG];exact Nat.lt_succ_of_lt hc)];exact au _ (he c o' e')
end
end ST

namespace ST
open PySem PyProof.Rows
noncomputable def j6(ks xs:List Int):List Int:=xs.foldl C5 ks
theorem L5:∀(xs ks:List Int),(j6 ks xs).length<=ks.length+xs.length
 |[],ks=>by simp[j6]
 |x::xs,ks=>by
  have:=L5 xs (C5 ks x);have h2:=a66 ks x;show(j6 (C5 ks x) xs).length<=_;simp only[List.length_cons];omega
theorem Hw:∀(xs ks:List Int) (k:Int),k∈j6 ks xs↔k∈ks\/k∈xs
 |[],ks,k=>by simp[j6]
 |x::xs,ks,k=>by
  show k∈j6 (C5 ks x) xs↔_;rw[Hw xs];unfold C5;split
  ·rename_i h;constructor
   ·rintro(a|a)
    ·exact .inl a
    ·exact .inr (by simp[a])
   ·rintro(a|a)
    ·exact .inl a
    ·rcases aH.mp a with rfl|b
     ·exact .inl h
     ·exact .inr b
  ·simp[or_assoc]
theorem GX:∀(xs ks:List Int),ks.Nodup->(j6 ks xs).Nodup
 |[],ks,h=>h
 |x::xs,ks,h=>by
  show(j6 (C5 ks x) xs).Nodup;refine GX xs _ ?_;unfold C5;split
  ·exact h
  ·rename_i hk;rw[cO];exact⟨h,by simp,λa ha b hb=>by simp at hb;subst hb;exact λz=>hk (z▸ha)⟩
section
variable{prog:Program}{w:World}{A:Around}{E:Value->Shared->Prop}{s:Shared}{a:Addr}
theorem YW:Well (Led w) (SetTable.fresh 0 0 (Led w)):=⟨by simp[jK,SetTable.fresh],rfl,rfl⟩
theorem GN{h:Heap}(e:h.get? a=some { cls:=.type "set",dict:=none,data:=.set #[] 0 (.fresh 0 0 (Led w)) }):u5 prog w h a [] :=
 ⟨_,#[],0,_,e,⟨rfl,rfl,rfl⟩,rfl,(by intro e he;simp at he),by simp,by simp,by decide,by rfl,YW⟩
theorem Xw{R:Result->Shared->Prop}{I:Addr}{fp wr:List Addr}{G:Array GenState->Array GenState->Prop}{n:Nat}{P:Nat->Value->Prop}{St:Nat->Shared->Prop}(W:WalksS prog w A.in1 I fp wr G n P St)(ER:a∉fp){ns:List Int}(hn:n=ns.length)(hv:∀i v,P i v->∃tk,v=.int (ns.getD i 0) tk)(hb:n+1<scanBound):∀(k i:Nat) (s:Shared),i+k=n->St i s->u5 prog w s.heap a (j6 [] (ns.take i)) ->
   (∀s',Moved (a::wr) G s s'->u5 prog w s'.heap a (j6 [] ns)->R (.ok (.ret .none)) s')->codeAny (model prog w) A (.builtin "set.update.loop" ⟨[.ref a,.ref I],[]⟩) R s:=by
 have hw:a∉wr:=λh=>ER (W.sub _ h);have sO:∀b∈wr,b∈a::wr:=λb hb=>by simp[hb]
 intro k
 induction k with
 |zero =>
  intro i s e st hS hR;obtain rfl:i=n:=by omega
  refine eO iT ?_;rw[dR dI _];unfold Builtin.«set.update.loop»;refine ae (W.done s _ _ st λs' m=>ao (hR s' (m.mono sO) (u5.at ?_ λo e=>m.heap a o hw e)));rw[hn,cv] at hS;exact hS
 |succ k ih =>
  intro i s e st hS hR;have dN:i<ns.length:=by omega
  refine eO iT ?_;rw[dR dI _];unfold Builtin.«set.update.loop»;refine ae (W.item i s _ _ (by omega) st λv s' hP kH m=>?_);obtain⟨tk,rfl⟩:=hv i v hP;have ly:=u5.at hS λo e=>m.heap a o hw e;have hl:=L5 (ns.take i) [];rw[cX] at hl;simp only[List.length_nil] at hl;refine ae (cg ?_);unfold setAdd;refine cg (ae ((intKind prog w).pyHash (k:=ns.getD i 0) (fE _ _ _ _) ?_));refine Jv (s:={ s' with toks:=s'.toks+1 }) ly (by omega) λh' bb sb uq=>?_;have e2:C5 (j6 [] (ns.take i)) (ns.getD i 0)=j6 [] (ns.take (i+1)):=by
   unfold j6;rw[bz,List.foldl_append,ai dN];simp[List.getD,dN]
  rw[e2] at uq;refine ao ⟨kU dI _,ih (i+1) _ (by omega) (W.frame _ s' _ _ kH (fX _) λb hb o e=>by rw[sb.2 b λz=>ER (z▸hb)];exact e) uq λs2 m2 h2=>?_⟩;exact hR s2 (Moved.trans W.gtrans ((m.mono sO).then_heap (fX _) λb o hb e=>by rw[sb.2 b λz=>hb (by rw[z];simp)];exact e) m2) h2
end
end ST

namespace ST
open PySem PyProof.Rows
section
variable{prog:Program}{w:World}{A:Around}{E:Value->Shared->Prop}{s:Shared}{a:Addr}
noncomputable abbrev w9(w:World):Obj:={ cls:=.type "set",dict:=none,data:=.set #[] 0 (.fresh 0 0 (Led w)) }
theorem IU{Q:Value->Shared->Prop}(h:Q (.ref s.heap.objs.size) { s with heap:=s.heap.push (w9 w) }):wpAny (model prog w) A (newSet (.type "set")) Q E s:=by
 unfold newSet;refine ae (vi ?_);exact bX h (cB _)
theorem a55(x:Value){Q:Value->Shared->Prop}(h:Q (.ref s.heap.objs.size) { s with heap:=s.heap.push (w9 w) }):codeAny (model prog w) A (.call (.builtin "set.__new__") ⟨[.type "set",x],[]⟩) (wants Q E) s:=by
 refine sk (?_:wpAny _ A.in1 (do
  checkBuiltinCall "set.__new__" ⟨[.type "set",x],[]⟩
  again (.builtin "set.__new__" ⟨[.type "set",x],[]⟩)) _ _ s)
 refine ae (dO (F.newCall_set_1 x) (ao ⟨kU F.plain_set_new _,?_⟩));refine eO F.entry_set_new ?_;rw[dR F.plain_set_new _];unfold Builtin.«set.__new__»;have sub:=sub_set_self;refine ae (m:=Builtin.Frozenset.newClass "set" _) ?_;unfold Builtin.Frozenset.newClass;dsimp only;refine ae (dO (a:=true) (by first|rfl|(simp[isType];rfl)) ?_);rw[az (by decide)];refine ae (dO sub ?_);rw[az (by decide)];refine ao ?_;exact ae (IU (ao h))
theorem M4{vs:List Value}{ns:List Int}(h:IntsAre vs ns):vs.length=ns.length:=by
 induction h with
 |nil=>rfl
 |cons n t r ih=>simp[ih]
noncomputable def vp(h:Heap)(l:Addr)(items:Array Value):Prop:=h.IsList l items\/h.IsTuple l items
theorem vp.lt{h:Heap}{l:Addr}{items:Array Value}(x:vp h l items):l<h.objs.size:=by
 rcases x with⟨_,e,_⟩|⟨_,e,_⟩<;>exact ay e
theorem a48{l:Addr}{items:Array Value}{ns:List Int}{Q:Fin->Shared->Prop}(hh:A.handled=none)(hS:s.heap.get? a=some (w9 w))(hl:vp s.heap l items)(hi:IntsAre items.toList ns)(hb:items.size+1<scanBound)(dw:a≠l)(h:∀h' tk,u5 prog w h' a (j6 [] ns)->(∀b o,b≠a->s.heap.get? b=some o->h'.get? b=some o)->s.toks<=tk->wpAny (model prog w) A (ret .none) Q E { s with heap:=h',toks:=tk }) :
  wpAny (model prog w) A (Builtin.«set.__init__» ⟨[.ref a,.ref l],[]⟩) Q E s:=by
 have hT:s.TypeIs (.ref a) "set":=⟨_,hS,rfl⟩
 have hLi:Lies s.heap a #[] 0 (SetTable.fresh 0 0 (Led w)):=⟨⟨_,hS,rfl,rfl⟩,rfl⟩
 have dN:=hl.lt;have Er:l≠s.heap.objs.size:=aN dN;unfold Builtin.«set.__init__» noKeywords;dsimp only;refine ae (dO (a:=()) rfl ?_);have nm:∀{Q':String->Shared->Prop},(∀x,Q' x s)->wpAny (model prog w) A (typeNameOfCut 200 (.ref a)) Q' E s:=λ{Q'} q=>by
  unfold typeNameOfCut shownTypeOf;refine ae (ae (eh hT ?_));rw[az (by decide)];refine ao (dO (a:="set") ?_ (q _));unfold typeNameCut;dsimp only
  first|(unfold typeName;rw[find?_eq_fast];kernel_rfl)|kernel_rfl
 refine ae (nm λx=>?_);refine ae (m:=checkCount _ 0 1 _) (ao ?_);refine ae (m:=Builtin.Frozenset.addrOf _) (ao ?_);unfold setUsed;refine ae (ae (cq hS rfl rfl (ao ?_)));rw[az (by show ¬((SetTable.fill (SetTable.fresh 0 0 (Led w)) != 0)=true);unfold SetTable.fill;simp[SetTable.fresh])];unfold Builtin.Frozenset.updateFrom Builtin.Frozenset.isAnySet;obtain⟨c,rn,zT,it,hit,Ew,St,W,fq⟩:∃c:String,(c="list"\/c="tuple")/\s.TypeIs (.ref l) c/\∃it:Obj,(∀Q':Value->Shared->Prop,Q' (.ref s.heap.objs.size) { s with heap:=s.heap.push it }->wpAny (model prog w) A (pyIter (.ref l)) Q' E s) /\
   (∀b o,s.heap.get? b=some o->(s.heap.push it).get? b=some o)/\∃St:Nat->Shared->Prop,WalksS prog w A.in1 s.heap.objs.size [s.heap.objs.size,l] [s.heap.objs.size] (λa b=>b=a) items.size (λi v=>items[i]?=some v) St/\St 0 { s with heap:=s.heap.push it }:=by
  rcases hl with hl|hl
  ·obtain⟨o,ho,hc,_⟩:=id hl;exact⟨"list",.inl rfl,⟨o,ho,hc⟩,_,λQ' q=>gZ hl q,λb o e=>au _ e,_,(Walks.list (A:=A.in1) hh _ l Er items).toS,⟨⟨_,aD _ rfl,rfl,rfl⟩,hl.push _⟩⟩
  ·obtain⟨o,ho,hc,_⟩:=id hl;exact⟨"tuple",.inr rfl,⟨o,ho,hc⟩,_,λQ' q=>wpAny_pyIter_tuple hl q,λb o e=>au _ e,_,(Walks.tuple (A:=A.in1) hh _ l Er items).toS,⟨⟨_,aD _ rfl,rfl,rfl⟩,hl.push _⟩⟩
 refine ae (ae (ae (iH (b:=false) zT (by rcases rn with rfl|rfl<;>(rw[gC];kernel_rfl)) ?_)));show wpAny (model prog w) A (isInstance (Value.ref l) (Value.type "frozenset")) _ _ _;refine iH (b:=false) zT (by rcases rn with rfl|rfl<;>(rw[gC];kernel_rfl)) ?_;rw[az (by decide)];refine ae (eh zT ?_);rw[az (by rcases rn with rfl|rfl<;>decide)];refine ae (hit _ ?_);refine ae (wpAny_runValue ?_);have MM:a<s.heap.objs.size:=ay hS;have hsz:items.size=ns.length:=by rw[<- bt];exact M4 hi
 refine Xw (a:=a) (ns:=ns) W (by simp only[List.mem_cons,List.not_mem_nil,or_false,not_or];exact⟨aN MM,dw⟩) hsz (λi v hv=>IntsAre.int_at hi i v (by rw[ik];exact hv)) hb items.size 0 _ (by omega)
  fq (GN (Ew _ _ hS)) λs' m ly=>?_
 have eS:s'={ s with heap:=s'.heap,toks:=s'.toks }:=by
  obtain⟨iZ,g',d',lL,sX⟩:=s';have m1:g'=s.gens:=m.gens;have m2:d'=s.drawn:=m.drawn;have m3:sX=s.os:=m.os;subst m1;subst m2;subst m3
  rfl
 rw[eS];refine ao (h _ _ ly (λb o hb e=>?_) m.toks);exact m.heap b o (by simp only[List.mem_cons,List.not_mem_nil,or_false,not_or];exact⟨hb,aN (ay e)⟩) (Ew _ _ e)
theorem a58{l:Addr}{items:Array Value}{ns:List Int}{Q:Value->Shared->Prop}(hh:A.handled=none)(hl:vp s.heap l items)(hi:IntsAre items.toList ns)(hb:items.size+1<scanBound)(h:∀h' tk,u5 prog w h' s.heap.objs.size (j6 [] ns)->(∀b o,s.heap.get? b=some o->h'.get? b=some o)->s.toks<=tk->Q (.ref s.heap.objs.size) { s with heap:=h',toks:=tk }) :
  wpAny (model prog w) A (call (.type "set") [.ref l]) Q E s:=by
 have cs:=F.called_set;obtain⟨_,_,y1⟩:=cs.mro;have y2:=cs.made;have y3:=cs.sub;have y4:=cs.notType;have y5:=cs.canCreate;have y6:=F.typeCall_set_1 (.ref l);refine wpAny_call (sk (?_:wpAny _ _ (callAny (.type "set") _) _ _ _));refine ao ⟨Code.quiet_builtin _ (by decide +kernel),eO F.entry_type_call ?_⟩;rw[Around.under_plain (weight_type_call_type "set" [.ref l] []) rfl]
 repeat (any_goals (first|assumption|wp_step))
 refine gf (a55 (.ref l) (E:=E) (Q:=λv s1=>v=.ref s.heap.objs.size/\s1={ s with heap:=s.heap.push (w9 w) }) ⟨rfl,rfl⟩) ?_;rintro(e|fl) s1 hr
 ·exact hr
 cases fl with
 |next=>exact hr
 |brk=>exact hr
 |cont=>exact hr
 |ret v =>
 obtain⟨rfl,rfl⟩:=hr;have hS:(s.heap.push (w9 w)).get? s.heap.objs.size=some (w9 w):=aD _ rfl;have hT:Shared.TypeIs { s with heap:=s.heap.push (w9 w) } (.ref s.heap.objs.size) "set":=⟨_,hS,rfl⟩
 have y7:=cs.init.lookup;have y8:=cs.init.bind (.ref s.heap.objs.size)
 repeat (any_goals (first|assumption|wp_step))
 refine gf (codeAny_call_builtin (R:=wants (λv s2=>v=.none/\∃h' tk,s2={ s with heap:=h',toks:=tk }/\u5 prog w h' s.heap.objs.size (j6 [] ns)/\(∀b o,s.heap.get? b=some o->h'.get? b=some o)/\s.toks<=tk) E) cs.init.plain F.entry_set_init (check_set_init_1 hT ?_)) ?_
 ·have zC:vp (s.heap.push (w9 w)) l items:=hl.imp (·.push _) (·.push _);have zA:=hl.lt;refine a48 (s:={ s with heap:=s.heap.push (w9 w) }) (by simp[hh]) hS zC hi hb (bO zA) λh' tk h1 h2 h3=>ao ⟨rfl,h',tk,rfl,h1,λb o e=>h2 b o (aN (ay e)) (au _ e),h3⟩
 ·rintro(e|fl) s2 hr
  ·exact hr
  cases fl with
  |next=>exact hr
  |brk=>exact hr
  |cont=>exact hr
  |ret v =>
  obtain⟨rfl,h',tk,rfl,h1,h2,h3⟩:=hr
  repeat (any_goals (first|assumption|wp_step))
  exact h _ _ h1 h2 h3
end
end ST

namespace L2
open PySem PySem.Spec PyProof.Rows
noncomputable def qD(X:Cx)(a:Addr)(ks:List Int):HO:=.ext λh=>ST.u5 X.prog X.w h a ks
noncomputable def n6(ns:List Int):List Int:=(ST.j6 [] ns).mergeSort (λa b=>decide (a<=b))
theorem Hd:∀{a b:List Int},a.Perm b->a.Pairwise (·<=·)->b.Pairwise (·<=·)->a=b
 |[],b,h,_,_=>by rw[List.nil_perm.mp h]
 |x::a,[],h,_,_=>absurd h.length_eq (by simp)
 |x::a,y::b,h,h1,h2=>by
  rw[jj] at h1 h2;have e:x=y:=by
   have m1:=h.mem_iff (a:=y);have m2:=h.mem_iff (a:=x);simp only[List.mem_cons,true_or,true_iff,iff_true] at m1 m2;rcases m1 with z|z
   ·exact z.symm
   ·rcases m2 with z'|z'
    ·exact z'
    ·have:=h1.1 y z;have:=h2.1 x z';omega
  subst e;rw[Hd (h.cons_inv) h1.2 h2.2]
theorem Zt(ns:List Int):(n6 ns).Pairwise (·<=·):=by
 have:=List.pairwise_mergeSort (le:=λa b:Int=>decide (a<=b)) (λa b c h1 h2=>by simp at *;omega) (λa b=>by simp;omega) (ST.j6 [] ns);exact this.imp λh=>by simpa using h
theorem O7(ns:List Int):(n6 ns).Perm (ST.j6 [] ns):=List.mergeSort_perm _ _
theorem T4(ns:List Int):(n6 ns).length<=ns.length:=by
 rw[(O7 ns).length_eq];have:=ST.L5 ns [];simpa using this
section
variable{X:Cx}{pins:List (Addr×Obj)}{Z:St}{H:Hp}{s:Shared}
theorem Inv.draw(I:Inv X pins Z H s)(d:Drawn):Inv X pins Z H { s with drawn:=d } :=
 I.step (g':=s.gens) (t':=s.toks) (d':=d) (ch:=[]) (by simp) (λb o _ _ _ e _=>e) (λb o _ _ _ e _=>⟨o.slots,e⟩) (λb o _ _ e=>e) (λb o _ e=>⟨o,e⟩) (λ_ _ e=>e) (λ_ _ _ e=>e) (λb ps e=>⟨#[],by simp[e]⟩) (λm hm=>hm) I.bE I.bare
theorem Je{h:Heap}{H:Hp}{a:Addr}{ks:List Int}(x:ST.u5 X.prog X.w h a ks):m7 X.prog X.w H h a (qD X a ks) :=
 ⟨x,let ⟨o,_,_,_,e,_⟩:=x;⟨o,e⟩,λh1 h2 y k=>y.at k⟩
theorem HC:∀{ns:List Int} {vs:List Value},IntsAre vs ns->Vals (ns.map V.int) vs
 |_,_,.nil=>.nil
 |_,_,.cons n t r=>.cons ⟨t,rfl⟩ (HC r)
theorem L1:∀{ns:List Int} {vs:List Value},Vals (ns.map V.int) vs->IntsAre vs ns
 |[],_,h=>by cases h;exact .nil
 |n::ns,_,h=>by
  cases h with
  |cons r rr =>
   obtain⟨t,rfl⟩:=r;exact .cons n t (L1 rr)
theorem HU(hc:X.calm=true):m8 X (.type "set") (λxs H Q=>∃a ns,xs=[.ref a]/\fm X.K H a (ns.map V.int)/\ns.length<60/\∀p,H p=none->Q (.ref p) (upd H p (qD X p (ST.j6 [] ns)))):=by
 intro pins s Z H xs us Q I r h;obtain⟨a,ns,rfl,hq,hl,q⟩:=h;cases r with
 |cons r rr =>
 cases rr;cases r;obtain⟨aT,rv,p,hz⟩:=I.list hq;have hI:=L1 rv;have hlen:=ST.M4 hI;refine ST.a58 (ns:=ns) (I.ok.hd hc) (.inl p.isList) (by simpa using hI) (by rw[aE,hlen];exact ax (Nat.succ_lt_succ hl) (by decide)) λh' tk hS hk _=>?_;exact⟨.ref _,_,I.laid (a:=s.heap.objs.size) (t':=tk) hk (av _) (Je hS),rfl,q _ (I.bE.fresh (av _))⟩
theorem U5(hc:X.calm=true):m8 X (.builtin "sorted") (λxs H Q=>∃a ns,xs=[.ref a]/\H a=some (qD X a (ST.j6 [] ns))/\ns.length<60/\∀p,H p=none->Q (.ref p) (upd H p (.lst ((n6 ns).map V.int)))):=by
 intro pins s Z H xs us Q I r h;obtain⟨a,ns,rfl,ha,hl,q⟩:=h;cases r with
 |cons r rr =>
 cases rr;cases r;have hS:ST.u5 X.prog X.w s.heap a (ST.j6 [] ns):=(I.bE a _ ha).1;have hn:=ST.L5 ns [];simp only[List.length_nil] at hn;refine ST.Zu (I.ok.hd hc) hS (by omega) λS vs yS e h' d' lL h1 h2 h3 h4 h5 h6 _=>?_;have e1:yS=n6 ns:=Hd (h2.trans (O7 ns).symm) h3 (Zt ns);subst e1;have hz:=T4 ns;exact⟨.ref S,_,(I.laid (a:=S) (o:=.lst ((n6 ns).map V.int)) (t':=lL) h6 h5 ⟨by rw[ag];exact aG hz (aG (dE hl) (by decide)),vs,e,HC h1,h4⟩).draw d',rfl,q S (I.bE.fresh h5)⟩
end
end L2

namespace ST
open PySem PyProof.Rows
theorem a59{prog:Program}{w:World}{A:Around}{E:Value->Shared->Prop}{s:Shared}{a:Addr}{ks:List Int}{k:Int}{tk:Tok}{Q:Value->Shared->Prop}(hS:u5 prog w s.heap a ks)(hr:ks.length+1<scanBound)(h:∀h',Heap.SameBut a s.heap h'->u5 prog w h' a (C5 ks k)->Q .none { s with heap:=h',toks:=s.toks+1 }):wpAny (model prog w) A (call (.builtin "set.add") [.ref a,.int k tk]) Q E s:=by
 have hT:s.TypeIs (.ref a) "set":=let ⟨o,_,_,_,e,x,_⟩:=hS;⟨o,e,x.1⟩
 refine cC F.slot_set_add hT F.entry_set_add ?_ (F.args_set_add_2 _ _);have go:∀(Q':Fin->Shared->Prop),(∀h',Heap.SameBut a s.heap h'->u5 prog w h' a (C5 ks k)->wpAny (model prog w) A.in1 (ret .none) Q' E { s with heap:=h',toks:=s.toks+1 })->wpAny (model prog w) A.in1 (do let _ <- setAdd a (.int k tk);ret .none) Q' E s:=λQ' q=>by
  unfold setAdd;refine ae (cg (ae ((intKind prog w).pyHash (k:=k) (fE _ _ _ _) ?_)));exact Jv (s:={ s with toks:=s.toks+1 }) hS hr λh' b sb S2=>q h' sb S2
 unfold Builtin.«set.add» Builtin.Frozenset.oneOther;simp only[List.isEmpty_nil,bind_assoc];unfold Builtin.Frozenset.addrOf;refine ae (ao ?_)
 try dsimp only
 refine ae (ao ?_)
 try dsimp only
 exact go _ λh' sb S2=>ao ⟨_,rfl,h h' sb S2⟩
end ST
namespace L2
open PySem PySem.Spec PyProof.Rows
section
variable{prog:Program}{w:World}{A:Around}{R:Result->Shared->Prop}{s:Shared}
theorem Zx(elt target iter:Expr)(ifs:List Expr)(scope:Scope)(pos:Pos)(it acc:Value)(env:Env):compTurn (.SetComp elt [⟨target,iter,ifs,0⟩] scope pos) 0 it acc env=(do
      standAt iter.pos
      match <- pyNext it with
      |none=>pure (.done .next)
      |some v =>
        letOwnedTupleGo target it v
        assign target env v
        let mut ok:=true
        for c in ifs do if ok then ok <- isTrue c env (eval c env)
        if ok then(do let x <- eval elt env;standAt elt.pos;let _ <- call (.builtin "set.add") [acc,x])
        again (.compLoop (.SetComp elt [⟨target,iter,ifs,0⟩] scope pos) 0 it acc env)):=by rfl
theorem WO{elt target iter:Expr}{ifs:List Expr}{scope:Scope}{pos:Pos}{it acc:Value}{env:Env}(I:Nat->Shared->Prop)(turn:∀ n s,I n s->wpAny (model prog w) A (pyNext it) (λr bQ=>match r with
   |none=>R (.ok .next) bQ
   | some v=>wpAny (model prog w) A (letOwnedTupleGo target it v) (λ_ bQ=>wpAny (model prog w) A (assign target env v) (λ_ fQ =>
     wpAny (model prog w) A (forIn ifs true λc r=>if r=true then do let ok <- isTrue c env (eval c env);pure (ForInStep.yield ok) else pure (ForInStep.yield r)) (λok eE =>
      if ok=true then wpAny (model prog w) A (eval elt env) (λx iV =>
       wpAny (model prog w) A (call (.builtin "set.add") [acc,x]) (λ_ lM=>∃ m,m < n/\I m lM) (λ_ _=>False) iV) (λ_ _=>False) eE
      else ∃ m,m < n/\I m eE) (λ_ _=>False) fQ) (λ_ _=>False) bQ) (λ_ _=>False) bQ) (λ_ _=>False) s)(n:Nat)(h:I n s) :
  codeAny (model prog w) A (.compLoop (.SetComp elt [⟨target,iter,ifs,0⟩] scope pos) 0 it acc env) R s:=by
 refine codeAny_loop rfl I (λn s hI=>?_) n h;show wpAny _ A ((compTurn (.SetComp elt [⟨target,iter,ifs,0⟩] scope pos) 0 it acc env).onRaise (λx=>do noteFrame x env;theTreesLotGoes x)) _ _ s;refine wpAny_noted ?_;rw[Zx];refine ae (dB (ae (bx (turn n s hI) (λr bQ h₁=>?_) λ_ _ h'=>h'.elim)));cases r with
 |none=>exact ao h₁
 |some v =>
  refine ae (bx h₁ (λ_ bQ h₁=>?_) λ_ _ h'=>h'.elim);refine ae (bx h₁ (λ_ fQ iu=>ae (bx iu (λok eE lW=>?_) λ_ _ h'=>h'.elim)) λ_ _ h'=>h'.elim);cases ok with
  |false=>exact wpAny_pure ⟨rfl,lW⟩
  |true =>
   exact ae (ae (bx lW (λx iV pO=>ae (dB (ae (bx pO (λ_ lM pN=>ao (ao ⟨rfl,pN⟩)) λ_ _ h'=>h'.elim)))) λ_ _ h'=>h'.elim))
theorem Zp{elt target iter:Expr}{ifs:List Expr}{scope:Scope}{pos:Pos}{it acc:Value}{env:Env}(h0:codeAny (model prog w) A (.compLoop (.SetComp elt [⟨target,iter,ifs,0⟩] scope pos) 0 it acc env) R s)(h:wpAny (model prog w) A (pyIter it) (λEd s'=>codeAny (model prog w) A (.compLoop (.SetComp elt [⟨target,iter,ifs,0⟩] scope pos) 0 Ed acc env) R s') (notedBy (model prog w) A env λx s'=>R (.error x) s') s) :
  codeAny (model prog w) A (.compStart (.SetComp elt [⟨target,iter,ifs,0⟩] scope pos) 0 it acc env) R s:=by
 refine sk (?_:wpAny _ _ ((compStart (.SetComp elt [⟨target,iter,ifs,0⟩] scope pos) 0 it acc env).onRaise (λx=>do noteFrame x env;standAt theWindowsPlace)) _ _ s);refine wpAny_notedAt ?_;unfold compStart;refine ae (pb (wpAny_ite ?_));split
 ·first
   |exact ao ⟨rfl,h0⟩
   |exact ae (ao (ao ⟨rfl,h0⟩))
 ·refine ae (fC ?_);exact ae (dB (ae (bx h (λEd s' h'=>ao ⟨rfl,h'⟩) λ_ _ x=>x)))
end
noncomputable def Cz(o:Obj):Prop:=∀v,o.data≠.cell v
noncomputable def Rm(X:Cx)(wi:TI)(d6:List Nat)(n:Nat)(g:TG)(tc:TT)(te:TE):TE:=λZ H Q=>wi Z H λJ H1=>∃W:Nat->Nat->List Int->St->Hp->Prop,(∃m,W 0 m [] (C0 Z d6 n) H1)/\∀i m ys Z H,W i m ys Z H ->
 (J.stop i H/\∀p,H p=none->Q (.ref p) (upd H p (qD X p (ST.j6 [] ys)))) \/
 (J.go i H/\ys.length < 60/\∀ x H',J.pB i H x H'->g x Z H' λcb H2=>tc cb H2 λb H3 =>
  if b=true then te cb H3 λy H4=>∃ k,y=.int k/\∃ m',m' < m/\W (i + 1) m' (ys ++ [k]) cb H4 else ∃ m',m' < m/\W (i + 1) m' ys cb H3)
section
variable{X:Cx}{pins:List (Addr×Obj)}{Z:St}{H:Hp}{s:Shared}
theorem Inv.Rp{D:Addr}{φ:Heap->Prop}(I:Inv X pins Z H s)(f:C1 X pins H D)(hs:X.cU.heap.objs.size<=D)(ho:m7 X.prog X.w (upd H D (.ext φ)) s.heap D (.ext φ)):Inv X pins Z (upd H D (.ext φ)) s:=by
 obtain⟨f0,f1,f2,f3,f4,f5⟩:=f;have dw:∀b o,X.cU.heap.get? b=some o->b≠D:=λb o e z=>absurd (ay e) (by rw[z];exact ji.mpr hs);have tup:∀b u,H b=some u->upd H D (.ext φ) b=some u:=λb u e=>by rw[i0 (k9 e f0)];exact e
 refine⟨I.ok,I.os,I.bare,⟨?_,?_,?_,I.base.there,?_,?_,?_⟩,I.loc,I.cell,?_,?_,?_,?_,I.len⟩
 ·exact λb o e n1 n2 n3=>I.base.keep b o e n1 n2 n3
 ·exact λb o e n1 n2 n3=>I.base.slot b o e n1 n2 n3
 ·exact λb o e n1 n2=>by rw[i0 (dw b o e)];exact I.base.free b o e n1 n2
 ·exact λb xs e=>tup _ _ (I.base.gK b xs e)
 ·exact λb o u e=>tup _ _ (I.base.gs b o u e)
 ·exact λb ps e=>by
   obtain⟨more,q⟩:=I.base.gL b ps e;exact⟨more,tup _ _ q⟩
 ·rw[i0 f1.symm];exact I.free
 ·exact λx c e=>by rw[i0 (f4 x c e)];exact I.dZ x c e
 ·intro p hp;obtain⟨p1,p2,p3⟩:=I.pin p hp;exact⟨p1,by rw[i0 (f5 p hp)];exact p2,p3⟩
 ·intro a o e;by_cases ha:a=D
  ·subst ha;rw[s9] at e;cases e;exact ho
  ·rw[i0 ha] at e;have q:=I.bE a o e;refine q.Q6 (λb u _ h=>h) (λb hb=>tup _ _ hb) (λb xs hb=>tup _ _ hb)
theorem ZS{elt tg iter:Expr}{ifs:List Expr}{scope:Scope}{N':List Str}{d6:List Nat}{cl:List (Str×Addr)}{pos:Pos}{it:Addr}{fp:List Addr}{tn:Nat->Heap->Prop}{J:It}{g:TG}{tc:TT}{te:TE}{RR:Value->Addr->Result->Shared->Prop}{E:Value->Shared->Prop}{W:Nat->Nat->List Int->St->Hp->Prop}{m0:Nat}{Q:VK}(S:da X scope N' d6 cl)(hc:X.calm=true)(hg:∀C s H,PG (f6 X pins scope N' cl C s H fp) tg g)(ht:∀C s H,kz (f6 X pins scope N' cl C s H fp) ifs tc)(he:∀C s H,PE (f6 X pins scope N' cl C s H fp) elt te)(I:Inv X pins Z H s)(T:Turn X.prog X.w X.K tg J fp it tn)(st:tn 0 s.heap)(hf:∀b∈fp,C1 X pins H b)(w0:W 0 m0 [] (C0 Z d6 N'.length) H)(turn:∀ i m ys Z H,W i m ys Z H->(J.stop i H/\∀ p,H p=none->Q (.ref p) (upd H p (qD X p (ST.j6 [] ys)))) \/
   (J.go i H/\ys.length < 60/\∀ x H',J.pB i H x H'->g x Z H' λcb H2=>tc cb H2 λb H3 =>
    if b=true then te cb H3 λy H4=>∃ k,y=.int k/\∃ m',m' < m/\W (i + 1) m' (ys ++ [k]) cb H4 else ∃ m',m' < m/\W (i + 1) m' ys cb H3))(zU:∀D C s' H' m,Inv X pins Z H' s'->Q (.ref D) H'->s'.heap.Ns C m->H' C=none->s.heap.objs.size<=C->RR (.ref D) C (.ok .next) s') :
  wpAny (model X.prog X.w) X.A (newSet (.type "set")) (λacc eE=>wpAny (model X.prog X.w) X.A (newFunctionEnv scope X.env.globals cl [] X.env.qual none .none (some X.env)) (λkS iV =>
   codeAny (model X.prog X.w) X.A (.compStart (.SetComp elt [⟨tg,iter,ifs,0⟩] scope pos) 0 (.ref it) acc { kS with scope:=relabel scope X.env }) (RR acc kS.locals) iV) E eE) E s:=by
 refine ST.IU (Ic λh₁ fV fh mr=>?_);dsimp only at fV fh mr ⊢;generalize qb:s.heap.push (ST.w9 X.w)=H2 at fV fh mr ⊢;generalize eD:s.heap.objs.size=D at *;have hC:H2.objs.size=D+1:=by rw[<- qb,dQ,eD]
 generalize eC:H2.objs.size=C at *;have uv:D≠C:=by omega
 have lt:∀b o,s.heap.get? b=some o->b<D:=λb o e=>by rw[<- eD];exact ay e
 have pL:D<=C:=by omega
 have nX:∀b o,s.heap.get? b=some o->b≠C:=λb o e=>aN (ax (lt b o e) pL);have lQ:∀b o,s.heap.get? b=some o->b≠D:=λb o e=>aN (lt b o e);have old:∀b o,s.heap.get? b=some o->h₁.get? b=some o:=λb o e=>fh b o (qb▸au _ e);have kc:h₁.get? D=some (ST.w9 X.w):=fh _ _ (by rw[<- qb,<- eD];exact aD _ rfl);have iw:∀b∈fp,∃o,s.heap.get? b=some o:=λb hb=>by
  obtain⟨o,e,_⟩:=T.obj _ _ st b hb;exact⟨o,e⟩
 have uu:D∉fp:=λhm=>by
  obtain⟨o,e⟩:=iw D hm;exact lQ D o e rfl
 have X1:Inv (f6 X pins scope N' cl C s H fp) [] (C0 Z d6 N'.length) H { s with heap:=h₁ } :=
  I.Hq S hc hf iw (by rw[eD];omega) ⟨_,fV⟩ old mr
 have sP:tn 0 h₁:=T.keep _ _ _ st λb _ o e=>old b o e;have Ar:∀{H':Hp},(∀b∈fp,H' b=none)->∀b∈fp,C1 (f6 X pins scope N' cl C s H fp) [] H' b:=λhn b hb=>by
  obtain⟨f0,f1,f2,f3,f4,f5⟩:=hf b hb;obtain⟨o,e⟩:=iw b hb;refine⟨hn b hb,?_,?_,.inl hb,λx c q=>(xU mr q).elim (λl z=>absurd (cI (z▸l) (ax (lt b o e) pL)) (bj _)) λq=>f4 x c (S.cin x c q),λp hp=>?_⟩
  ·exact nX b o e
  ·exact λz=>by
    rcases aH.mp (I.K5 b z) with z|z
    ·exact f1 z
    ·exact f2 z
  ·have iZ:p∈X.pn++pins:=by simpa[f6] using hp
   exact f5 p iZ
 have fD:∀{H':Hp},H' D=none->C1 (f6 X pins scope N' cl C s H fp) [] H' D:=λhn=>by
  refine⟨hn,uv,λz=>?_,.inr (by show s.heap.objs.size<=D;omega),λx c q=>?_,λp hp=>?_⟩
  ·exact absurd (I.uV (a:=D) (by omega)) λoq=>by
    rcases aH.mp (I.K5 D z) with z|z
    ·exact absurd I.lt (by rw[<- z,eD];exact bj _)
    ·exact oq z
  ·rcases xU mr q with l|q
   ·exact λz=>absurd (ax (z▸l) pL) (bj _)
   ·obtain⟨v,o,e,_⟩:=I.cell x c (S.cin x c q);exact lQ c o e
  ·have iZ:p∈X.pn++pins:=by simpa[f6] using hp
   exact lQ _ _ (I.pin p iZ).1
 have pI:∀{H':Hp} {s':Shared} {bN:St} {oD:Obj},Cz oD->Inv (f6 X pins scope N' cl C s H fp) [] bN H' s'->H' D=none->s'.heap.get? D=some oD ->
   Inv (f6 X pins scope N' cl C s H fp) [(D,oD)] bN H' s':=λ{H' s' bN oD} jZ J0 hn e=>J0.J9 λp hp=>by
  have z:p=(D,oD):=by simpa using hp
  subst z;obtain⟨f0,f1,f2,_⟩:=fD hn;exact⟨e,f0,f1,f2,jZ⟩
 have qk:∀{H':Hp} {oD:Obj},(∀b∈fp,H' b=none)->∀b∈fp,C1 (f6 X pins scope N' cl C s H fp) [(D,oD)] H' b:=λ{H' oD} hn b hb=>by
  obtain⟨f0,f1,f2,f3,f4,f5⟩:=Ar hn b hb;refine⟨f0,f1,f2,f3,f4,λp hp=>?_⟩;have iZ:p∈(f6 X pins scope N' cl C s H fp).pn\/p=(D,oD):=by simpa using hp
  rcases iZ with z|z
  ·exact f5 p (dA _ z)
  ·subst z;exact λz=>uu (by rw[show D=b from z];exact hb)
 have loop:∀eE:Shared,eE={ s with heap:=h₁ } ->
   codeAny (model X.prog X.w) X.A (.compLoop (.SetComp elt [⟨tg,iter,ifs,0⟩] scope pos) 0 (.ref it) (.ref D) (compEnvC scope (J6 scope cl C) C X.env)) (RR (.ref D) C) eE:=by
  rintro eE rfl;refine WO (λn s'=>∃ (i:Nat) (ys:List Int) (bN:St) (H':Hp) (oD:Obj),Inv (f6 X pins scope N' cl C s H fp) [] bN H' s'/\tn i s'.heap/\(∀ b ∈ fp,H' b=none)/\H' D=none/\ys.length <= 60/\Cz oD /\
   s'.heap.get? D=some oD/\ST.u5 X.prog X.w s'.heap D (ST.j6 [] ys)/\W i n ys bN H') ?_ m0 ⟨0,[],_,H,ST.w9 X.w,X1,sP,λb hb=>(hf b hb).1,I.bE.fresh (by omega),cB _,(λv (z:Data.set _ _ _=_)=>by cases z),kc,ST.GN kc,w0⟩
  rintro n s3 ⟨i,ys,gT,H3,oD,I3,nT,oG,d3,z3,c3,o3,S3,w3⟩;have vE:=pI c3 I3 d3 o3;rcases turn i n ys gT H3 w3 with⟨stop,q⟩|⟨go,hz,step⟩
  ·refine cy (T.done (f6 X pins scope N' cl C s H fp) rfl rfl rfl rfl i _ s3 _ H3 _ vE (qk oG) nT stop) λr s4 ⟨hr,I4⟩=>?_;subst hr;have o4:=(I4.pin (D,oD) (by simp)).1;have J4:Inv X pins Z H3 s4:=I.Jn hf I4;have As:C1 X pins H3 D:=by
    refine⟨d3,bO (by rw[<- eD];exact I.lt),I.uV (by omega),.inr (by have:=I.sz;omega),λx c q=>?_,λp hp=>?_⟩
    ·obtain⟨v,o,e,_⟩:=I.cell x c q;exact lQ c o e
    ·exact lQ _ _ (I.pin p hp).1
   obtain⟨mC,zw,_⟩:=I4.loc;exact zU D C s4 (upd H3 D (qD X D (ST.j6 [] ys))) mC (J4.Rp As (by have:=I.sz;omega) (Je (S3.at λo e=>by rw[o3] at e;cases e;exact o4))) (q D d3) zw (by rw[i0 uv.symm];exact I4.free) (by omega)
  ·refine cy (T.item (f6 X pins scope N' cl C s H fp) rfl rfl rfl rfl i _ s3 _ H3 _ vE (qk oG) nT go) λr s4 ⟨u,hr,h4⟩=>?_;subst hr;refine cy h4 λ_ s5 ⟨x,H5,I5,r5,y5,lN,uG⟩=>?_;have o5:=I5.pin (D,oD) (by simp);have vD:=I5.pinned (qk uG) (T.obj _ _ lN);refine cy (hg C s H _ s5 _ H5 x u _ vD r5 (step x H5 y5)) λ_ s6 ⟨kE,H6,I6,q6⟩=>?_;refine cy (ht C s H _ s6 kE H6 _ I6 q6) λok s7 ⟨H7,I7,q7⟩=>?_;have back:∀{sE:St} {H8:Hp} {s8:Shared},Inv (f6 X pins scope N' cl C s H fp) ([(D,oD)]++W7 fp s5.heap) sE H8 s8->(∀b∈fp,H8 b=none)/\tn (i+1) s8.heap/\H8 D=none/\s8.heap.get? D=some oD :=
    λ{sE H8 s8} I8=>by
     have pf:∀b∈fp,∀o,s5.heap.get? b=some o->s8.heap.get? b=some o/\H8 b=none:=λb hb o e=>by
      have:=I8.pin (b,o) (bq _ (bq _ (P0 hb e)));exact⟨this.1,this.2.1⟩
     have pd:=I8.pin (D,oD) (by simp);refine⟨λb hb=>?_,T.keep _ _ _ lN λb hb o e=>(pf b hb o e).1,pd.2.1,pd.1⟩;obtain⟨o,e,_⟩:=T.obj _ _ lN b hb;exact(pf b hb o e).2
   cases ok with
   |false =>
    obtain⟨m',hm,w7⟩:=q7;obtain⟨b1,b2,b3,b4⟩:=back I7;exact⟨m',hm,i+1,ys,kE,H7,oD,I7.J9 λp hp=>absurd hp (by simp),b2,b1,b3,z3,c3,b4,S3.at λo e=>by rw[o3] at e;cases e;exact b4,w7⟩
   |true =>
    refine cy (he C s H _ s7 kE H7 _ I7 q7) λxv s8 ⟨y,H8,I8,r8,kk,ey,m',hm,w8⟩=>?_;subst ey;obtain⟨tk,rfl⟩:=r8;obtain⟨b1,b2,b3,b4⟩:=back I8;have S8:ST.u5 X.prog X.w s8.heap D (ST.j6 [] ys):=S3.at λo e=>by rw[o3] at e;cases e;exact b4
    have yW:=ST.L5 ys [];simp only[List.length_nil] at yW;refine ST.a59 S8 (ax (by omega:_<62) (by decide)) λh' sb S9=>?_;have e9:ST.C5 (ST.j6 [] ys) kk=ST.j6 [] (ys++[kk]):=by unfold ST.j6;rw[List.foldl_append];rfl
    rw[e9] at S9;obtain⟨o9,es9,ep9,t9,g9,x9,d9,r9⟩:=id S9;have c9:Cz o9:=λv z=>by rw[d9] at z;cases z
    have Dp:Inv (f6 X pins scope N' cl C s H fp) [] kE H8 s8:=I8.J9 λp hp=>absurd hp (by simp);obtain⟨f0,f1,f2,f3,f4,f5⟩:=fD (H':=H8) b3;have kp:∀b o,b≠D->s8.heap.get? b=some o->h'.get? b=some o:=λb' u hb hu=>by rw[sb.2 b' hb];exact hu
    refine⟨m',hm,i+1,ys++[kk],kE,H8,o9,Dp.turned (it:=D) (t':=s8.toks+1) kp f0 f1 f3 f4 f5,T.keep _ _ _ b2 λb hb o e=>kp b o (λz=>uu (by rw[<- z];exact hb)) e,b1,b3,?_,c9,g9,S9,w8⟩;rw[bc,eW];omega
 exact Zp (loop _ rfl) (T.self _ 0 _ _ _ sP (loop _ rfl))
theorem a26{elt tg iter:Expr}{ifs:List Expr}{scope:Scope}{N':List Str}{d6:List Nat}{cl:List (Str×Addr)}{pos:Pos}{wi:TI}{g:TG}{tc:TT}{te:TE}(S:da X scope N' d6 cl)(hc:X.calm=true)(hi:PI X tg iter wi)(hg:∀pins C s H fp,PG (f6 X pins scope N' cl C s H fp) tg g)(ht:∀pins C s H fp,kz (f6 X pins scope N' cl C s H fp) ifs tc)(he:∀pins C s H fp,PE (f6 X pins scope N' cl C s H fp) elt te)(hs:∀x,foldedSetIterable iter X.env x=pure x):PE X (.SetComp elt [⟨tg,iter,ifs,0⟩] scope pos) (Rm X wi d6 N'.length g tc te):=by
 intro pins s Z H Q I h;rw[arm_eval_SetComp];refine ia (use:=none) rfl hs S.qr S.kind S.names (cy (hi pins s Z H _ I h) λxv bQ h₁=>cy h₁ λtO fQ iu=>?_);obtain⟨it,fp,tn,J,H2,e,I2,T,jT,f2,W,⟨m0,w0⟩,turn⟩:=iu;subst e;refine ZS (RR:=λacc C=>compPost (model X.prog X.w) X.A X.xe none (EP X pins Z Q) acc C) S hc (λC s H=>hg pins C s H fp) (λC s H=>ht pins C s H fp) (λC s H=>he pins C s H fp) I2 T jT f2 w0 turn ?_;intro D C s' H' m I' q hn hC hsz;exact⟨m,hn,λh' sb=>⟨.ref D,H',I'.Cf hsz I2 hC sb,rfl,q⟩⟩
end
end L2

namespace HT
open PySem PyProof.Rows Builtin
theorem Xc:fillsNumberSlot (.type "tuple") "mul"=pure false :=
 PySem.fillsNumberSlot_seq (id:="tuple.__mul__") (r:=some (.builtin "tuple.__rmul__")) ph.lookup (by decide +kernel) F.slot_tuple_rmul.lookup (by decide +kernel)
theorem WH:seqRepeat? (.type "tuple")=pure (some (.builtin "tuple.__mul__")):=by
 unfold seqRepeat?;rw[PySem.seqSlot_of (T:="tuple") (name:="__mul__") (id:="tuple.__mul__") ph.lookup (by decide +kernel),PySem.seqSlot_of (T:="tuple") (name:="__rmul__") (id:="tuple.__rmul__") F.slot_tuple_rmul.lookup (by decide +kernel)]
 rfl
theorem WX(a:Int)(t:Tok)(l:Addr)(items:Array Value)(n:Nat)(dd:Option Addr)(sl:Array (Option Value)) :
  Meets (Builtin.«int.__rmul__» ⟨[.int a t,.ref l],[]⟩) (λ_ R s=>s.heap.get? l=some { cls:=.type "tuple",dict:=dd,data:=.seq items n,slots:=sl }/\R (.ok (.ret Value.notImplemented)) s) :=
 .of_wp λprog w A R s h=>by obtain⟨hp,g,d,tk,os⟩:=s;obtain⟨hl,h⟩:=h;wp_walk;exact⟨_,rfl,h⟩
theorem WY(t:Value)(c:Value):Builtin.«tuple.__mul__» ⟨[t,c],[]⟩=(do
 let n <- asIndex c
 if n < -(2 ^ 63)||n>=2 ^ 63 then
  rule "tuple.repeat.overflow";raiseError "OverflowError" s!"cannot fit '{<- typeNameOf c}' into an index-sized integer"
 let xs <- Builtin.Tuple.tupleItemsOf t
 if xs.isEmpty||n==1 then
  if <- Builtin.Tuple.tupleIsExact t then rule "tuple.repeat.same-object";return <- ret t
 if n<=0||xs.isEmpty then return <- ret (<- Builtin.Tuple.tupleExact #[])
 if xs.size*n>(2 ^ 63-1) / 8 then rule "tuple.repeat.no-memory";raiseNew (<- newExc (.type "MemoryError") [])
 if Builtin.Tuple.tupleTooMany (xs.size*n) then unsupported "tuple.__mul__:memory"
 ret (<- Builtin.Tuple.tupleExact ((List.replicate n.toNat xs).foldl (· ++ ·) #[]))):=rfl
section
variable{prog:Program}{w:World}{A:Around}{E:Value->Shared->Prop}{s:Shared}
theorem YU(aT:List Value):∀(m:Nat) (acc:Array Value),List.foldl (λx1 x2=>x1++x2) acc (List.replicate m aT.toArray)=acc++(List.replicate m aT).flatten.toArray:=by
 intro m
 induction m with
 |zero=>intro acc;simp
 |succ m ih=>intro acc;rw[bS,lE,ih,bS,cP];simp
theorem YE{a:Addr}{aT:List Value}{n:Int}{t:Tok}{Q:Value->Shared->Prop}(ht:IsTup s.heap a aT.toArray)(dw:aT≠[])(h1:1<=n)(h2:n<2 ^ 62)(hz:aT.length*n.toNat<=sizeLine)(q1:n=1->Q (.ref a) s)(q2:Q (.ref s.heap.objs.size) { s with heap:=s.heap.push { cls:=.type "tuple",data:=.seq (List.replicate n.toNat aT).flatten.toArray } }):wpAny (model prog w) A (binaryOp .Mult (.ref a) (.int n t)) Q E s:=by
 obtain⟨o,ho,hc,k,hd⟩:=id ht;obtain⟨cls,dict,data,slots⟩:=o;dsimp only at hc hd;subst hc hd;have he:aT.toArray.isEmpty=false:=by cases aT<;>first|exact absurd rfl dw|rfl
 refine Dt (T:="tuple") (U:="int") (by decide) ht.typeIs (λs'=>lC s' n t) Xc F.fills_int_mul je WH F.slot_int_index.lookup
  (eQ je (lC s n t) F.entry_int_rmul (F.args_int_rmul_2 _ _) (WX n t a aT.toArray k dict slots) ⟨ho,rfl,ht.typeIs,?_⟩)
 refine cC ph ht.typeIs F.entry_tuple_mul ?_ (F.args_tuple_mul_2 _ _);rw[WY];refine ae (dO (show asIndex (.int n t)=pure n from rfl) ?_);dsimp only;rw[az (by simp only[Bool.or_eq_true,decide_eq_true_eq];omega)];refine ae (tupleItemsOf_ ht ?_);have big:¬((aT.toArray.size:Int)*n>(2 ^ 63-1) / 8):=by
  rw[aE];have:((aT.length*n.toNat:Nat):Int)=(aT.length:Int)*n:=by rw[Int.natCast_mul];rw[show((n.toNat:Nat):Int)=n by omega]
  rw[<- this];have hs:sizeLine<2 ^ 59:=by decide
  omega
 have many:¬(Builtin.Tuple.tupleTooMany ((aT.toArray.size:Int)*n)=true):=by
  unfold Builtin.Tuple.tupleTooMany;rw[aE,ei];have:((aT.length*n.toNat:Nat):Int)=(aT.length:Int)*n:=by rw[Int.natCast_mul];rw[show((n.toNat:Nat):Int)=n by omega]
  rw[<- this];omega
 have hsz:sizeOk (.seq (List.replicate n.toNat aT).flatten.toArray):=by
  show(List.replicate n.toNat aT).flatten.toArray.size<=sizeLine;simp only[List.size_toArray,List.length_flatten,List.map_replicate,List.sum_replicate_nat];rw[sv];exact hz
 by_cases e1:n=1
 ·subst e1;rw[aF (by rw[he];rfl)];unfold Builtin.Tuple.tupleIsExact;refine ae (ae (eh ht.typeIs (ao ?_)));rw[aF (by decide)]
  first
   |exact ae (fC (ae (ao ⟨_,rfl,ao (q1 rfl)⟩)))
   |exact ae (fC (ao ⟨_,rfl,(q1 rfl)⟩))
   |exact ae (fC (ao ⟨_,rfl,ao (q1 rfl)⟩))
 ·rw[az (by rw[he];simpa using e1)];rw[az (by rw[he];simp;omega),az big,az many];rw[show List.foldl (λx1 x2=>x1++x2) #[] (List.replicate n.toNat aT.toArray)=(List.replicate n.toNat aT).flatten.toArray by rw[YU];simp]
  first
   |exact ae (m:=Builtin.Tuple.tupleExact _) (bX (ao ⟨_,rfl,q2⟩) hsz)
   |exact ae (m:=Builtin.Tuple.tupleExact _) (bX (ao ⟨_,rfl,ao q2⟩) hsz)
end
end HT
namespace L2
open PySem PySem.Spec PyProof.Rows
section
variable{X:Cx}
noncomputable def WB(K:PySem.W.Frag):R2:=λx y H Q=>∃(a:Addr) (n:Int) (xs:List V),x=.ref a/\y=.int n/\gX K H a xs/\xs≠[]/\1<=n/\n<2 ^ 62/\xs.length*n.toNat<=sizeLine /\
 (n=1->Q (.ref a) H)/\(∀p,H p=none->Q (.ref p) (upd H p (.tup (List.replicate n.toNat xs).flatten)))
theorem Su:fc X (binaryOp .Mult) (WB X.K):=by
 intro pins s Z H x y v u Q I rx ry h;obtain⟨a,n,xs,rfl,rfl,ha,dw,h1,h2,hz,q1,q2⟩:=h;cases rx;obtain⟨tk,rfl⟩:=ry;obtain⟨aT,r,p,_⟩:=I.tuple ha;refine HT.YE p (λz=>dw (r.P8.mp z)) h1 h2 (by rw[<- r.length];exact hz) (λe=>⟨.ref a,H,I,rfl,q1 e⟩) ?_;refine⟨.ref s.heap.objs.size,_,I.laid (t':=s.toks) (o:=.tup (List.replicate n.toNat xs).flatten) (λb ob q=>au _ q) (av _) ?_,rfl,q2 _ (I.bE.fresh (av _))⟩;exact⟨by rw[len_rep,sv];exact hz,_,r.rep _,I9.new _ _⟩
noncomputable def Sb(sep:Str)(ys:List Str):Nat:=ys.foldl (λn y=>n+y.length+sep.length) 0
end
end L2

namespace HT
open PySem PyProof.Rows Builtin PySem.SeqAt
section
variable{prog:Program}{w:World}{A:Around}{E:Value->Shared->Prop}{s:Shared}
theorem Yg:typeLookup (.type "tuple") (dunderI "add")=pure none:=by
 show typeLookup (.type "tuple") "__iadd__"=pure none;rw[jd,fu];kernel_rfl
theorem a50{t b:Addr}{vs ws:List Value}{Q:Value->Shared->Prop}(ht:IsTup s.heap t vs.toArray)(hb:IsTup s.heap b ws.toArray)(h0:vs=[]->Q (.ref b) s)(h1:ws=[]->Q (.ref t) s)(h2:Q (.ref s.heap.objs.size) { s with heap:=s.heap.push { cls:=.type "tuple",data:=.seq (vs++ws).toArray } })(hsz:vs.length+ws.length<=sizeLine):wpAny (model prog w) A (inplaceOp .Add (.ref t) (.ref b)) Q E s:=by
 obtain⟨⟨cls,dd,data,sl⟩,ho,hc,n,hd⟩:=id ht;obtain⟨⟨uR,oK,data2,kh⟩,jY,mx,n2,hd2⟩:=id hb;simp only at hc hd mx hd2;subst hc hd mx hd2;have e:vs.toArray++ws.toArray=(vs++ws).toArray:=by simp
 refine wpAny_inplaceOp_concat (T:="tuple") ⟨_,ho,rfl⟩ ⟨_,jY,rfl⟩ Yg iJ kT ?_;by_cases hv:vs=[]
 ·subst hv;exact eQ pj ⟨_,ho,rfl⟩ mV (lG _ _) (tuple_addW0 t b #[] ws.toArray n n2 dd oK sl kh rfl) ⟨ho,jY,h0 rfl⟩
 by_cases hw:ws=[]
 ·exact eQ pj ⟨_,ho,rfl⟩ mV (lG _ _) (tuple_addW1 t b vs.toArray ws.toArray n n2 dd oK sl kh (by simpa using hv) (by simp[hw])) ⟨ho,jY,h1 hw⟩
 ·refine eQ pj ⟨_,ho,rfl⟩ mV (lG _ _) (tuple_addW2 t b vs.toArray ws.toArray n n2 dd oK sl kh (by simpa using hv) (by simpa using hw) (by rw[aE,aE];exact hsz)) ⟨ho,jY,?_⟩;rw[e];exact h2
end
end HT
namespace L2
open PySem PySem.Spec PyProof.Rows
section
variable{X:Cx}
noncomputable def CT(K:PySem.W.Frag)(H:Hp)(a:Addr)(xs:List V):Prop :=
 H a=some (.tup xs)\/∃(o:Obj) (aT:Array Value) (n:Nat),K.lookup a=some o/\o.cls=.type "tuple"/\o.dict=none/\o.data=.seq aT n/\aT.size<=sizeLine/\Vals xs aT.toList
theorem CT.sq{K:PySem.W.Frag}{H:Hp}{a:Addr}{xs:List V}(h:CT K H a xs):gX K H a xs:=by
 rcases h with h|⟨o,aT,n,h1,h2,_,h3,h4,h5⟩
 ·exact .inl (.inl h)
 ·exact .inr ⟨o,aT,n,h1,h2,h3,h4,h5⟩
noncomputable def WA(K:PySem.W.Frag):V->V->Hp->VK->Prop:=λx y H Q=>(∃i j,x=.int i/\y=.int j/\Q (.int (i+j)) H) \/
 ∃a b xs ys,x=.ref a/\y=.ref b/\gX K H a xs/\gX K H b ys/\xs.length+ys.length<=sizeLine/\(xs=[]->Q (.ref b) H)/\(ys=[]->Q (.ref a) H)/\(∀p,H p=none->Q (.ref p) (upd H p (.tup (xs++ys))))
theorem RT:FN X .Add (WA X.K):=by
 rintro pins s Z H x y u v Q I rx ry h;rcases h with h|⟨a,b,xs,ys,rfl,rfl,ha,hb,hz,q0,q1,q2⟩
 ·exact OU pins s Z H x y u v Q I rx ry h
 ·cases rx;cases ry;obtain⟨aT,r1,p1,_⟩:=I.tuple ha;obtain⟨lS,r2,p2,_⟩:=I.tuple hb;refine HT.a50 p1 p2 (λz=>⟨.ref b,H,I,rfl,q0 (r1.P8.mp z)⟩) (λz=>⟨.ref a,H,I,rfl,q1 (r2.P8.mp z)⟩) ?_ (by rw[<- r1.length,<- r2.length];exact hz);refine⟨.ref s.heap.objs.size,_,I.laid (t':=s.toks) (o:=.tup (xs++ys)) (λb ob q=>au _ q) (av _) ?_,rfl,q2 _ (I.bE.fresh (av _))⟩;exact⟨by rw[bc];exact hz,_,r1.append r2,I9.new _ _⟩
end
end L2

namespace ST
open PySem PyProof.Rows
noncomputable def Spot(k:Int):Prop:=0<=k/\k<8
structure Own(mask:Nat)(owner:Array (Option Nat))(pre:List Int):Prop where
 sz:owner.size=mask+1
 fwd:∀(i:Nat) (k:Int),pre[i]?=some k->owner[k.toNat]?=some (some i)
 bwd:∀(j i:Nat),owner[j]?=some (some i)->pre[i]?=some (j:Int)
end ST

namespace ST
open PySem PyProof.Rows
section
variable{prog:Program}{w:World}{A:Around}{E:Value->Shared->Prop}{s:Shared}{a:Addr}
noncomputable def TM(prog:Program)(w:World)(h:Heap)(a:Addr)(ks:List Int):Prop :=
 ∃o es ep t,h.get? a=some o/\o.ExactSet/\o.data=.set es ep t/\ElemsOf (intKind prog w) es.toList/\(es.toList.map λe=>toI e.2).Perm ks/\ks.Nodup/\es.size<scanBound/\t.fits es.size=true/\Well (Led w) t/\(ks=[]->7<=t.mask)
theorem u5.toV{h:Heap}{ks:List Int}(x:u5 prog w h a ks)(hn:ks≠[]):TM prog w h a ks:=by
 obtain⟨o,es,ep,t,h1,h2,h3,h4,h5,h6,h7,h8,h9⟩:=x;exact⟨o,es,ep,t,h1,h2,h3,h4,h5,h6,h7,h8,h9,λz=>absurd z hn⟩
theorem u5.same{h:Heap}{ks us:List Int}(x:u5 prog w h a ks)(hp:ks.Perm us):u5 prog w h a us:=by
 obtain⟨o,es,ep,t,h1,h2,h3,h4,h5,h6,h7⟩:=x;exact⟨o,es,ep,t,h1,h2,h3,h4,h5.trans hp,hp.nodup_iff.mp h6,h7⟩
theorem above:∀n,n<300->7<SetTable.sizeAbove n/\n<SetTable.sizeAbove n/\SetTable.sizeAbove n<=sizeLine:=by decide +kernel
end
end ST
namespace L2
open PySem PySem.Spec PyProof.Rows
variable{X:Cx}
end L2

namespace ST
open PySem PyProof.Rows
section
variable{prog:Program}{w:World}{A:Around}{E:Value->Shared->Prop}{s:Shared}{a:Addr}{ep:Nat}{K:Type}[DecidableEq K]{knd:PySem.KeyKind prog w K}{kvs:List (K×Value)}
end
end ST
namespace L2
open PySem PySem.Spec PyProof.Rows
section
variable{X:Cx}
end
end L2

namespace L2
open PySem PySem.Spec PyProof.Rows
section
variable{X:Cx}
theorem V7{aT:List Value}{ns:List Int}(hi:IntsAre aT ns):∃xs,aT.toArray=intItems xs/\ns=xs.toList.map (·.1):=by
 obtain⟨xs,e⟩:=hi.allInts.items;exact⟨xs,e,by rw[<- hi.numsOf,<- nums_intItems,<- e]⟩
theorem XJ(hc:X.calm=true):m8 X (.builtin "sum") (λxs H Q=>∃a,∃ns:List Int,xs=[.ref a]/\fm X.K H a (ns.map V.int)/\Q (.int ns.sum) H):=by
 intro pins s Z H xs us Q I r h;obtain⟨a,ns,rfl,ha,q⟩:=h;obtain⟨u,rfl,ru⟩:=vals1 r;cases ru;obtain⟨aT,rv,p,hz⟩:=I.list ha;obtain⟨xs,e,en⟩:=V7 (L1 rv);refine sum_intListG (xs:=xs) (I.ok.hd hc) (by rw[<- e];exact p.isList) λh' tk t' k=>⟨.int ns.sum,H,I.kept k,⟨t',?_⟩,q⟩
 rw[preSum_eq,dh (by simp),en]
theorem XG(hc:X.calm=true):m8 X (.builtin "max") (λxs H Q=>∃a,∃(ns:List Int) (M:Int),xs=[.ref a]/\fm X.K H a (ns.map V.int)/\M∈ns/\(∀x∈ns,x<=M)/\Q (.int M) H):=by
 intro pins s Z H xs us Q I r h;obtain⟨a,ns,M,rfl,ha,hm,hM,q⟩:=h;obtain⟨u,rfl,ru⟩:=vals1 r;cases ru;obtain⟨aT,rv,p,hz⟩:=I.list ha;obtain⟨xs,e,en⟩:=V7 (L1 rv);have hsz:0<xs.size:=by
  have:=dj hm;rw[en,ag,bt] at this;exact this
 refine max_intList (xs:=xs) (I.ok.hd hc) (by rw[<- e];exact p.isList) hsz λv h' tk hv k=>?_;obtain⟨t,rfl⟩:=intItems_at hv;obtain⟨h1,h2⟩:=argBest_gt (numAt xs) (xs.size-1);generalize argBest (λi j=>decide (numAt xs i>numAt xs j)) (xs.size-1)=j0 at *;have m1:numAt xs j0∈ns:=by rw[en,numAt_eq];exact getD_mem (by rw[ag,bt];omega)
 have m2:M<=numAt xs j0:=by
  rw[en] at hm;obtain⟨j,hj,rfl⟩:=mem_getD hm;rw[ag,bt] at hj;rw[<- numAt_eq];exact h2 j (by omega)
 have e2:numAt xs j0=M:=Int.le_antisymm (hM _ m1) m2;exact⟨.int M,H,I.kept k,⟨t,by rw[e2]⟩,q⟩
theorem XI(hc:X.calm=true):m8 X (.builtin "min") (λxs H Q=>∃a,∃(ns:List Int) (M:Int),xs=[.ref a]/\fm X.K H a (ns.map V.int)/\M∈ns/\(∀x∈ns,M<=x)/\Q (.int M) H):=by
 intro pins s Z H xs us Q I r h;obtain⟨a,ns,M,rfl,ha,hm,hM,q⟩:=h;obtain⟨u,rfl,ru⟩:=vals1 r;cases ru;obtain⟨aT,rv,p,hz⟩:=I.list ha;obtain⟨xs,e,en⟩:=V7 (L1 rv);have hsz:0<xs.size:=by
  have:=dj hm;rw[en,ag,bt] at this;exact this
 refine min_intList (xs:=xs) (I.ok.hd hc) (by rw[<- e];exact p.isList) hsz λv h' tk hv k=>?_;obtain⟨t,rfl⟩:=intItems_at hv;obtain⟨h1,h2⟩:=argBest_lt (numAt xs) (xs.size-1);generalize argBest (λi j=>decide (numAt xs i<numAt xs j)) (xs.size-1)=j0 at *;have m1:numAt xs j0∈ns:=by rw[en,numAt_eq];exact getD_mem (by rw[ag,bt];omega)
 have m2:numAt xs j0<=M:=by
  rw[en] at hm;obtain⟨j,hj,rfl⟩:=mem_getD hm;rw[ag,bt] at hj;rw[<- numAt_eq];exact h2 j (by omega)
 have e2:numAt xs j0=M:=Int.le_antisymm m2 (hM _ m1);exact⟨.int M,H,I.kept k,⟨t,by rw[e2]⟩,q⟩
theorem XD(hc:X.calm=true):m8 X (.builtin "all") (λxs H Q=>∃(a:Addr) (ns:List Int),xs=[.ref a]/\fm X.K H a (ns.map V.int)/\Q (.bl (ns.all λn=>n != 0)) H):=by
 intro pins s Z H xs us Q I r h;obtain⟨a,ns,rfl,ha,q⟩:=h;obtain⟨u,rfl,ru⟩:=vals1 r;cases ru;obtain⟨aT,rv,p,hz⟩:=I.list ha;refine call_all_walk ?_;refine gZ p.isList ?_;have dw:a≠s.heap.objs.size:=by
  obtain⟨o,e,_⟩:=id p.isList;exact aN (ay e)
 have hl:=rv.length;rw[ag] at hl;refine⟨s.heap.objs.size,_,_,_,_,_,λi=>ns.getD i 1 != 0,rfl,Walks.list (A:=X.A.in1) (I.ok.hd hc) _ a dw aT.toArray,⟨⟨_,aD _ rfl,rfl,rfl⟩,?_⟩,?_,λh' tk k=>?_⟩
 ·obtain⟨o,e,q1⟩:=id p.isList;exact⟨o,au _ e,q1⟩
 ·intro i v s' Q' E' hP hQ;have hv:aT[i]?=some v:=by simpa using hP
  have hi:i<ns.length:=by rw[hl];exact(aj.mp hv).1
  obtain⟨u',tR,yH⟩:=rv.get (i:=i) (x:=V.int ns[i]) (by rw[ak,ai hi];rfl);rw[hv] at tR;cases tR;obtain⟨t,rfl⟩:=yH;refine truthy_int ?_;have:ns.getD i 1=ns[i]:=by simp[List.getD,hi]
  dsimp only at hQ;rw[this] at hQ;exact hQ
 ·have e1:(List.range aT.toArray.size).all (λi=>ns.getD i 1 != 0)=ns.all λn=>n != 0:=by
   rw[aE,<- hl];rw[bf];simp only[List.all_eq_true,List.mem_range];constructor
   ·intro hh x hx;obtain⟨i,hi,rfl⟩:=bH.mp hx;have:=hh i hi;simpa[List.getD,hi] using this
   ·intro hh i hi;have:=hh ns[i] (cx hi);simpa[List.getD,hi] using this
  rw[e1];exact ⟨.bl _,H,I.kept (t':=tk) λb o e=>k b o (by
   intro hb;have:b=s.heap.objs.size:=by simpa using hb
   exact absurd (ay e) (by rw [this];exact bj _)) (au _ e),rfl,q⟩
theorem WJ:m8 X (.builtin "len") (λxs H Q=>∃a,∃ks:List Int,xs=[.ref a]/\H a=some (qD X a ks)/\Q (.int ks.length) H):=by
 intro pins s Z H xs us Q I r h;obtain⟨a,ks,rfl,ha,q⟩:=h;obtain⟨u,rfl,ru⟩:=vals1 r;cases ru;have hS:ST.u5 X.prog X.w s.heap a ks:=(I.bE a _ ha).1;obtain⟨o,es,ep,t,e,ex,ed,_,hp,nd,hz,hf,_⟩:=hS;have hl:es.size=ks.length:=by have:=hp.length_eq;simpa using this
 refine call_len_set e ex ed hf (by have:scanBound<2 ^ 62:=(by decide);omega) ⟨.int ks.length,H,I.tok _,⟨_,by rw[hl]⟩,q⟩
end
end L2

namespace L2
open PySem PySem.Spec PyProof.Rows
section
variable{X:Cx}
theorem SF{i:Int}{j:Nat}{p pos:Pos}(mq:PySem.W.kdsCode X.K X.env.code=true):PE X (.Set [.Constant (.int i) j p] 0 pos) (λZ H Q=>∀q,H q=none->Q (.ref q) (upd H q (.set (λk=>decide (k=i)) 1))):=by
 intro pins s Z H Q I h;rw[arm_eval_Set];refine ae (dB ?_);refine ae (PySem.W.kds_main I.gp mq λb=>?_);rw[PySem.W.kds_star _ (by rfl),cz];refine PySem.W.kds_core (ts:=(evalEach [Expr.Constant (.int i) j p] X.env).map λt=>do let v <- t;standAt pos;pure v) (by rfl) (by rfl) (by show 1<=30;decide) (by rw[cz];rfl) λled=>?_;refine PySem.W.kds_all pos _ _ _ ?_;show wpAny _ _ (eval (.Constant (.int i) j p) X.env) _ _ _;refine wpAny_Constant_int ?_;refine PySem.W.kds_fill_cons ?_;have MQ:(s.heap.push { cls:=.type "set",dict:=none,data:=.set #[] 0 (.fresh 0 0 led) }).SetOf (intKind X.prog X.w) s.heap.objs.size (λ_=>false) 0:=(setObjOf_fresh led).setOf (aD _ rfl) (by decide);unfold setAdd;refine cg (ae ((intKind X.prog X.w).pyHash (k:=i) (fE _ _ _ _) ?_));refine wpAny_setAddHashed_of (knd:=intKind X.prog X.w) (fE _ _ _ _) rfl MQ (by decide) λh' zk ly=>?_;refine PySem.W.kds_fill_nil (by rfl) ?_;have kp:∀b u,s.heap.get? b=some u->h'.get? b=some u:=λb u e=>(zk.2 b (aN (ay e))).trans (au _ e);exact⟨.ref s.heap.objs.size,_,I.laid (a:=s.heap.objs.size) (o:=.set (λk=>decide (k=i)) 1) kp (av _) (by show Heap.SetOf _ _ _ _ _;simpa using ly),rfl,h _ (I.bE.fresh (av _))⟩
theorem Yi:fc X (compareOp .In) (λx y H Q=>∃i a S n,x=.int i/\y=.ref a/\H a=some (.set S n)/\Q (.bl (S i)) H):=by
 intro pins s Z H x y v u Q I rx ry h;obtain⟨i,a,S,n,rfl,rfl,ha,q⟩:=h;obtain⟨t,rfl⟩:=rx;cases ry;exact wpAny_inSet_of (knd:=intKind X.prog X.w) (k:=i) (fE _ _ _ _) rfl (I.bE a _ ha) ⟨.bl (S i),H,I.tok _,rfl,q⟩
theorem WG:fc X (compareOp .NotIn) (λx y H Q=>∃i a S n,x=.int i/\y=.ref a/\H a=some (.set S n)/\Q (.bl (!S i)) H):=by
 intro pins s Z H x y v u Q I rx ry h;obtain⟨i,a,S,n,rfl,rfl,ha,q⟩:=h;obtain⟨t,rfl⟩:=rx;cases ry;exact wpAny_notInSet_of (knd:=intKind X.prog X.w) (k:=i) (fE _ _ _ _) rfl (I.bE a _ ha) ⟨.bl (!S i),H,I.tok _,rfl,q⟩
theorem Zi:mH X "set.add" (λx xs H Q=>∃a i S n,x=.ref a/\xs=[.int i]/\H a=some (.set S n)/\n+1<4096/\Q .bD (upd H a (.set (λk=>S k||decide (k=i)) (if S i then n else n+1)))):=by
 intro pins s Z H x vs v us Q I rx rv h;obtain⟨a,i,S,n,rfl,rfl,ha,hn,q⟩:=h;cases rx;obtain⟨u,rfl,t,rfl⟩:=rv.one;refine call_set_add (knd:=intKind X.prog X.w) (k:=i) (fE _ _ _ _) rfl (I.bE a _ ha) (show n+1<scanBound from hn) λh' zk ly=>?_;obtain⟨o,es,ep,tb,ho,_⟩:=id ly;exact⟨.bD,_,I.write (x:=a) (e:=a) (o:=.set (λk=>S k||decide (k=i)) (if S i then n else n+1)) (by rw[ha];trivial) (.inl rfl) (λb u hb e=>(zk.2 b hb).trans e) ⟨o,ho⟩ ly,rfl,q⟩
noncomputable def Dj(K:PySem.W.Frag)(a:Addr)(n:Nat):It :=
 ⟨λi H=>∃xs x,fm K H a xs/\xs.length=n/\i<n/\xs[n-1-i]?=some x,λi H x H'=>H'=H/\∀xs,fm K H a xs->xs[n-1-i]?=some x,λi H=>n<=i⟩
theorem Xs{P:Program}{w:World}{K:PySem.W.Frag}{tg:Expr}(a it:Addr)(n:Nat):Turn P w K tg (Dj K a n) [it] it (λi h=>i<=n/\h.IsRevIter it a ((n:Int)-1-(i:Nat))) where
 mem:=by simp
 obj:=λi h st b hb=>by
  have e:b=it:=by simpa using hb
  subst e;obtain⟨o,e,c,d⟩:=st.2;exact⟨o,e,λv z=>by rw[d] at z;cases z⟩
 keep:=λi h h' st k=>⟨st.1,st.2.at λo e=>k it (by simp) o e⟩
 item:=by
  intro X hP hw hK hc i pins s Z H E I hf st hg;subst hP hw hK;obtain⟨xs,x,hq,hn,hi,hx⟩:=hg;obtain⟨aT,rv,p,hz⟩:=I.list hq;obtain⟨u,hu,ru⟩:=rv.get hx;obtain⟨f0,f1,f2,f3,f4,f5⟩:=hf it (by simp);have jT:=st.2;rw[show(n:Int)-1-(i:Nat)=((n-1-i:Nat):Int) by omega] at jT;refine wpAny_pyNext_rev_item jT p.isList (x:=u) (by simpa using hu) λh' kH sb=>?_;have I1:Inv X pins Z H { s with heap:=h' }:=I.turned (t':=s.toks) (λb o hb e=>(sb.2 b hb).trans e) f0 f1 f3 f4 f5;obtain⟨o,e,c,d⟩:=id kH;refine⟨u,rfl,xh (s:={ s with heap:=h' }) e c d (by decide) ⟨x,H,I1,ru,⟨rfl,λys hy=>by rw[I.Bw hy hq];exact hx⟩,⟨by omega,?_⟩,λb hb=>(hf b hb).1⟩⟩;rw[show(n:Int)-1-((i+1:Nat):Int)=((n-1-i:Nat):Int)-1 by omega];exact kH
 done:=by
  intro X hP hw hK hc i pins s Z H E I hf st hg;subst hP hw hK;obtain⟨f0,f1,f2,f3,f4,f5⟩:=hf it (by simp);have jT:=st.2;have:n<=i:=hg;rw[show(n:Int)-1-(i:Nat)=-1 by have:=st.1;omega] at jT;exact wpAny_pyNext_rev_end (I.ok.hd hc) jT λh' eb=>⟨rfl,I.turned (t':=s.toks) (λb o hb e=>eb b o hb e) f0 f1 f3 f4 f5⟩
 self:=λ_ _ _ _ _ st h=>wpAny_pyIter_revIter st.2 h
theorem boot_reversed:bootBuiltins "reversed"=some (.type "reversed"):=by decide +kernel
theorem Qm{tg l:Expr}{ta:TA}{p pos:Pos}(hg:Gl X "reversed")(hm:X.mg "reversed"=none)(ha:PA X [l] ta)(hs:starEach [l] X.env=[(false,eval l X.env)]) :
  PI X tg (.Call (.Name "reversed" p) [l] [] pos) (λZ H R=>ta Z H λvs H1=>∃a xs,vs=[.ref a]/\fm X.K H1 a xs/\R (Dj X.K a xs.length) H1):=by
 intro pins s Z H R I h;refine Call_ (K9 I hg hm boot_reversed (bB (cy (ha pos pins s Z H _ I h) λus s1 ⟨vs,H1,I1,r1,q1⟩=>?_) hs rfl));obtain⟨a,xs,e,hq,q⟩:=q1;subst e;cases r1 with
 |cons r rr =>
  cases rr;cases r;obtain⟨aT,rv,p,hz⟩:=I1.list hq;refine call_reversed_list p.isList ?_;have hl:=rv.length;have hit:(s1.heap.push (revObj a ((aT.toArray.size:Int)-1))).IsRevIter s1.heap.objs.size a ((xs.length:Int)-1-((0:Nat):Int)):=⟨_,aD _ rfl,rfl,by simp[revObj,hl]⟩
  refine wpAny_pyIter_revIter hit ?_;refine⟨s1.heap.objs.size,[s1.heap.objs.size],_,_,H1,rfl,I1.kept (t':=s1.toks) λb o e=>au _ e,Xs a _ xs.length,⟨cB _,hit⟩,λb hb=>?_,q⟩;have e:b=s1.heap.objs.size:=by simpa using hb
  subst e;exact I1.oQ (av _) (I1.bE.fresh (av _))
end
end L2

namespace ST
open PySem PyProof.Rows
section
variable{prog:Program}{w:World}{A:Around}{E:Value->Shared->Prop}{s:Shared}{a:Addr}
end
end ST
namespace L2
open PySem PyProof.Rows
noncomputable def Of(ns:List Int):List Int:=ns.mergeSort (λa b=>decide (a<=b))
section
variable{X:Cx}
end
end L2

namespace M
open PySem L2
inductive D where
 |bD|bl (b:Bool)|int (i:Int)|str (x:Str)|ty (n:String)|ref (i:Nat)|tup (l:List D)
inductive O where
 |lst (l:List D)|nz (l:List D)
 |dC (kvs:List (Key×D))
 |ins (c:Str) (fs:List (Str×D))
 |set (S:Int->Bool) (n:Nat)
noncomputable def O.mut:O->Bool
 |.nz _=>false
 |_=>true
noncomputable def V6:D->Option Key
 |.int i=>some (.inl i)
 |.str x=>some (.inr x)
 |_=>none
noncomputable def q9(kvs:List (Key×D))(k:Key):Option D:=(kvs.find? λkv=>decide (kv.1=k)).map (·.2)
noncomputable def putD(kvs:List (Key×D))(k:Key)(v:D):List (Key×D) :=
 if(kvs.any λkv=>decide (kv.1=k))=true then kvs.map (λkv=>if kv.1=k then(kv.1,v) else kv) else kvs++[(k,v)]
noncomputable def k6(f:Str)(v:D):List (Str×D)->List (Str×D)
 |[]=>[(f,v)]
 |(g,x)::r=>if g=f then(g,v)::r else(g,x)::k6 f v r
noncomputable def N4:List D->Str->Option D
 |.tup [.str y,v]::r,x=>if x=y then some v else N4 r x
 |_::_,_=>none
 |[],_=>none
noncomputable def U3:List D->Option Str
 |[]=>some Str.empty
 |.str x::r=>(U3 r).map λy=>x++y
 |_=>none
structure Xn where
 cls:Str
noncomputable abbrev G:=List O
noncomputable abbrev S:=List (Option D)
noncomputable abbrev KD:=D->G->Prop
noncomputable abbrev KX:=Xn->G->Prop
noncomputable abbrev iC:KX:=λ_ _=>False
noncomputable def CJ:Option O->Option (List D)
 |some (.lst l)=>some l
 |some (.nz l)=>some l
 |_=>none
noncomputable abbrev d7(g:G)(a:Nat):Option (List D):=CJ g[a]?
noncomputable def rd(g:G):Nat->D->Option PyData
 |_,.bD=>some .none
 |_,.bl b=>some (.bool b)
 |_,.int i=>some (.int i)
 |_,.str x=>some (.str x)
 |_,.ty _=>none
 |0,.ref _=>none
 |0,.tup _=>none
 |n+1,.ref a=>match d7 g a with
  |some l=>(l.mapM (rd g n)).map .list
  |none=>none
 |n+1,.tup l=>(l.mapM (rd g n)).map .tuple
noncomputable def Lb(g:G)(l:List D):Option (List PyData):=l.mapM (rd g 6)
noncomputable def R9(g:G):D->Option (List D)
 |.tup l=>some l
 |.ref a=>d7 g a
 |_=>none
noncomputable def L0:D->Bool
 |.bD=>true
 |_=>false
noncomputable def cut{α:Type}(xs:List α)(lo hi:Option Int):List α:=(xs.drop (HT.de xs.length 0 lo)).take (HT.de xs.length xs.length hi-HT.de xs.length 0 lo)
noncomputable def Dc(g:G)(x:D)(c:String):Option Bool:=match x with
 |.bD=>some (c=="NoneType")
 |.bl _=>some (c=="bool"||c=="int")
 |.int _=>some (c=="int")
 |.str _=>some (c=="str")
 |.tup _=>some (c=="tuple")
 |.ref a=>match g[a]? with
  |some (.lst _)=>some (c=="list")
  |_=>none
 |.ty _=>none
noncomputable def l6(lo:Int)(n:Nat):List D:=(List.range n).map λ(k:Nat)=>.int (lo+k)
noncomputable def U7:List D->Option Bool
 |[]=>some true
 |.bl b::r=>(U7 r).map λc=>b&&c
 |_=>none
inductive Pr where
 |bin (op:Operator)|un (op:UnaryOp)|cmp (op:CmpOp)
 |ix|kf (lo hi:Bool)|rev|tup|lst|nJ
 |len|list|tuple|isin|all|max|min|int|str|iP|jx|sset|KR|uL
 |Fb|uD|mD|fv|kP|fld (f:Str)
 |append|pop|get|index|join|iadd|clear|yO|extend|any|sR|sum|rL|lT|jr|jq (i:Int)
noncomputable abbrev DR:=List D->G->D->G->Prop
noncomputable def WR:Operator->Int->Int->Int->Prop
 |.Add,i,j,r=>r=i+j
 |.Sub,i,j,r=>r=i-j
 |.Mult,i,j,r=>qv i j/\r=i*j
 |.FloorDiv,i,j,r=>CO i j/\r=i / j
 |.Mod,i,j,r=>0<j/\r=i % j
 |.Pow,i,j,r=>nE i j/\r=i ^ j.toNat
 |.LShift,i,j,r=>nE i j/\r=i*2 ^ j.toNat
 |.BitAnd,i,j,r=>r=Builtin.bitAnd i j
 |.BitOr,i,j,r=>r=Builtin.bitOr i j
 |_,_,_,_=>False
noncomputable def TZ(op:Operator):DR:=λxs g d g' =>
 (∃i j r,xs=[.int i,.int j]/\WR op i j r/\d=.int r/\g'=g) \/
 (op=.Add/\((∃ l m,xs=[.tup l,.tup m]/\l.length + m.length <= 100000/\d=.tup (l ++ m)/\g'=g) \/
  (∃a b l m,xs=[.ref a,.ref b]/\g[a]?=some (.lst l)/\g[b]?=some (.lst m)/\l.length+m.length<=100000/\d=.ref g.length/\g'=g++[.lst (l++m)]) \/
  (∃ x y,xs=[.str x,.str y]/\x.length + y.length <= 100000/\d=.str (x ++ y)/\g'=g))) \/
 (op=.Mult/\((∃ a l n,xs=[.ref a,.int n]/\g[a]?=some (.lst l)/\-(2 ^ 62) <= n/\n < 2 ^ 62/\l.length * n.toNat <= 100000/\d=.ref g.length/\g'=g ++ [.lst (List.replicate n.toNat l).flatten]) \/
  (∃ l n,xs=[.tup l,.int n]/\l ≠ []/\1 <= n/\n < 2 ^ 62/\l.length * n.toNat <= 100000/\d=.tup (List.replicate n.toNat l).flatten/\g'=g)))
noncomputable def KH(op:UnaryOp):DR:=λxs g d g'=>op=.USub/\∃i,xs=[.int i]/\d=.int (-i)/\g'=g
noncomputable def uI(g:G)(x y:D)(b:Bool):Prop :=
 (∃i j,x=.int i/\y=.int j/\b=decide (i=j))\/(∃i j,x=.bl i/\y=.bl j/\b=(i==j))\/(∃i j,x=.str i/\y=.str j/\b=decide (i=j)) \/
 ∃p q,rd g 6 x=some p/\rd g 6 y=some q/\p.canLay0=true/\q.canLay0=true/\b=PyData.eqv p q
noncomputable def inR(g:G)(x y:D)(b:Bool):Prop :=
 (∃a kvs c,y=.ref a/\g[a]?=some (.dC kvs)/\V6 x=some c/\b=(q9 kvs c).isSome) \/
 ∃l ps p,R9 g y=some l/\Lb g l=some ps/\rd g 6 x=some p/\PyData.canLayAll0 ps=true/\p.canLay0=true/\b=(ps.any λq=>PyData.eqv q p)
noncomputable def Gd(g:G)(x y:D)(b:Bool):Prop:=∃a S n i,y=.ref a/\g[a]?=some (.set S n)/\x=.int i/\b=S i
noncomputable def FQ(g:G)(x y:D)(b:Bool):CmpOp->Prop
 |.Eq=>uI g x y b
 |.NotEq=>uI g x y (!b)
 |.In=>inR g x y b\/Gd g x y b
 |.NotIn=>inR g x y (!b)\/Gd g x y (!b)
 |.Lt=>∃i j,x=.int i/\y=.int j/\b=decide (i<j)
 |.LtE=>∃i j,x=.int i/\y=.int j/\b=decide (i<=j)
 |.Gt=>∃i j,x=.int i/\y=.int j/\b=decide (j<i)
 |.GtE=>∃i j,x=.int i/\y=.int j/\b=decide (j<=i)
 |.Is=>y=.bD/\b=L0 x
 |.IsNot=>y=.bD/\b=!L0 x
noncomputable def Ue(op:CmpOp):DR:=λxs g d g'=>∃x y b,xs=[x,y]/\FQ g x y b op/\d=.bl b/\g'=g
noncomputable def Gg(g:G)(x:D)(b:Bool):Prop :=
 (x=.bD/\b=false)\/x=.bl b\/(∃i,x=.int i/\b=(i != 0))\/(∃l,x=.tup l/\b=!l.isEmpty)\/∃a l,x=.ref a/\d7 g a=some l/\b=!l.isEmpty
noncomputable def LJ:DR:=λxs g d g'=>g'=g/\((∃x l i,xs=[x,.int i]/\R9 g x=some l/\fR l i=some d)\/(∃a kvs y c,xs=[.ref a,y]/\g[a]?=some (.dC kvs)/\V6 y=some c/\q9 kvs c=some d) \/
 ∃ x i c,xs=[.str x,.int i]/\x.length <= 100000/\fR x.cps.toList i=some c/\d=.str ⟨#[c]⟩)
noncomputable def sV(x:D)(lo hi:Option Int)(g:G)(d:D)(g':G):Prop:=(∃l,x=.tup l/\d=.tup (cut l lo hi)/\g'=g)\/∃a l,x=.ref a/\d7 g a=some l/\d=.ref g.length/\g'=g++[.lst (cut l lo hi)]
noncomputable def UT:Bool->Bool->DR
 |false,false,xs,g,d,g'=>∃x,xs=[x]/\sV x none none g d g'
 |true,false,xs,g,d,g'=>∃x i,xs=[x,.int i]/\sV x (some i) none g d g'
 |false,true,xs,g,d,g'=>∃x j,xs=[x,.int j]/\sV x none (some j) g d g'
 |true,true,xs,g,d,g'=>∃x i j,xs=[x,.int i,.int j]/\sV x (some i) (some j) g d g'
noncomputable def UP:DR:=λxs g d g'=>(∃l,xs=[.tup l]/\d=.tup l.reverse/\g'=g)\/∃a l,xs=[.ref a]/\d7 g a=some l/\d=.ref g.length/\g'=g++[.lst l.reverse]
noncomputable def Vo:DR:=λxs g d g'=>xs.length<=1000/\d=.tup xs/\g'=g
noncomputable def Uu:DR:=λxs g d g'=>xs.length<=1000/\d=.ref g.length/\g'=g++[.lst xs]
noncomputable def vq:List D->List (Key×D)->Option (List (Key×D))
 |[],kvs=>some kvs
 |k::v::r,kvs=>(V6 k).bind λc=>vq r (putD kvs c v)
 |_,_=>none
noncomputable def VE:DR:=λxs g d g'=>xs=[]/\d=.ref g.length/\g'=g++[.dC []]
noncomputable def Ut:DR:=λxs g d g'=>g'=g/\((∃x l,xs=[x]/\R9 g x=some l/\d=.int l.length)\/(∃a kvs,xs=[.ref a]/\g[a]?=some (.dC kvs)/\d=.int kvs.length)\/∃x,xs=[.str x]/\x.length<=100000/\d=.int x.length)
noncomputable def VZ:DR:=λxs g d g'=>∃x l,xs=[x]/\R9 g x=some l/\d=.ref g.length/\g'=g++[.lst l]
noncomputable def Ru:DR:=λxs g d g'=>∃x l,xs=[x]/\R9 g x=some l/\d=.tup l/\g'=g
noncomputable def VP:DR:=λxs g d g'=>∃x c b,xs=[x,.ty c]/\c∈["int","bool","str","tuple","list"]/\Dc g x c=some b/\d=.bl b/\g'=g
noncomputable def allR:DR:=λxs g d g'=>∃a l b,xs=[.ref a]/\d7 g a=some l/\(U7 l=some b\/∃ns:List Int,l=ns.map .int/\b=ns.all λn=>n != 0)/\d=.bl b/\g'=g
noncomputable def Jw:List D->Option Bool
 |[]=>some false
 |.bl b::r=>(Jw r).map λc=>b||c
 |_=>none
noncomputable def anyR:DR:=λxs g d g'=>∃a l b,xs=[.ref a]/\d7 g a=some l/\Jw l=some b/\d=.bl b/\g'=g
noncomputable def QR:DR:=λxs g d g'=>False\/∃ns:List Int,xs=[.tup (ns.map .int)]/\ns.length<60/\d=.ref g.length/\g'=g++[.lst ((Of ns).map .int)]
noncomputable def Uv:DR:=λxs g d g'=>g'=g/\((∃i j,xs=[.int i,.int j]/\d=.int (if j>i then j else i))\/∃a,∃(ns:List Int) (M:Int),xs=[.ref a]/\d7 g a=some (ns.map .int)/\M∈ns/\(∀x∈ns,x<=M)/\d=.int M)
noncomputable def Uw:DR:=λxs g d g'=>g'=g/\((∃i j,xs=[.int i,.int j]/\d=.int (if j<i then j else i))\/∃a,∃(ns:List Int) (M:Int),xs=[.ref a]/\d7 g a=some (ns.map .int)/\M∈ns/\(∀x∈ns,M<=x)/\d=.int M)
noncomputable def Ob:DR:=λxs g d g'=>∃a i S n,xs=[.ref a,.int i]/\g[a]?=some (.set S n)/\n+1<4096/\d=.bD/\g'=g.set a (.set (λk=>S k||decide (k=i)) (if S i then n else n+1))
noncomputable def QA(i:Int):DR:=λxs g d g'=>xs=[]/\d=.ref g.length/\g'=g++[.set (λk=>decide (k=i)) 1]
noncomputable def UW:DR:=λxs g d g'=>∃a,∃ns:List Int,xs=[.ref a]/\d7 g a=some (ns.map .int)/\d=.int ns.sum/\g'=g
noncomputable def V':DR:=λxs g d g'=>∃a,∃ns:List Int,xs=[.ref a]/\d7 g a=some (ns.map .int)/\ns.length<60/\d=.int (ST.j6 [] ns).length/\g'=g
noncomputable def VQ:DR:=λxs g d g'=>∃i j,xs=[.int i,.int j]/\d=.int (i-j)/\g'=g
noncomputable def Ur:DR:=λxs g d g'=>g'=g/\((∃i,xs=[.int i]/\d=.int i)\/∃b,xs=[.bl b]/\d=.int (if b then 1 else 0))
noncomputable def UU:DR:=λxs g d g'=>(∃i,xs=[.int i]/\i.natAbs.log2<1920/\d=.str (toString i)/\g'=g)\/∃x,xs=[.str x]/\d=.str x/\g'=g
noncomputable def Pm:DR:=λxs g d g'=>∃j,xs=[.int j]/\-(2 ^ 62)<=j/\j<=100000/\d=.ref g.length/\g'=g++[.lst (l6 0 j.toNat)]
noncomputable def Pn:DR:=λxs g d g'=>∃i j,xs=[.int i,.int j]/\(-(2 ^ 62)<=i/\i<2 ^ 62/\-(2 ^ 62)<=j/\j<2 ^ 62/\j-i<=100000)/\d=.ref g.length/\g'=g++[.lst (l6 i (j-i).toNat)]
noncomputable def Og:DR:=λxs g d g'=>∃a ns,xs=[.ref a]/\d7 g a=some (ns.map .int)/\ns.length<60/\d=.ref g.length/\g'=g++[.lst ((n6 ns).map .int)]
noncomputable def UX:DR:=λxs g d g'=>∃ns ms:List Int,xs=[.tup (ns.map .int),.tup (ms.map .int)]/\(∀k∈ns,ST.Spot k)/\(∀k∈ms,ST.Spot k)/\ns.length+ms.length<50/\d=.ref g.length/\g'=g++[.lst ((n6 (ns++ms)).map .int)]
noncomputable def CZ(neg:Bool):DR:=λxs g d g'=>∃kvs x,xs=[.tup kvs,.str x]/\d=.bl (xor neg (N4 kvs x).isSome)/\g'=g
noncomputable def VI:DR:=λxs g d g'=>∃kvs x,xs=[.tup kvs,.str x]/\N4 kvs x=some d/\g'=g
noncomputable def NC:DR:=λxs g d g'=>g'=g/\((∃i,xs=[.int i]/\i.natAbs.log2<1920/\d=.str (toString i))\/∃x,xs=[.str x]/\x.length<=2000/\d=.str x)
noncomputable def VH:DR:=λxs g d g'=>∃x,U3 xs=some x/\d=.str x/\g'=g
noncomputable def Uk(f:Str):DR:=λxs g d g'=>∃a c fs,xs=[.ref a]/\g[a]?=some (.ins c fs)/\fs.lookup f=some d/\g'=g
noncomputable def appendR:DR:=λxs g d g'=>∃a y l,xs=[.ref a,y]/\g[a]?=some (.lst l)/\l.length<100000/\d=.bD/\g'=g.set a (.lst (l++[y]))
noncomputable def UE:DR:=λxs g d g'=>∃a i l k,xs=[.ref a,.int i]/\g[a]?=some (.lst l)/\-(2 ^ 63)<=i/\i<2 ^ 63/\seqIndex? i l.length=some k/\l[k]?=some d/\g'=g.set a (.lst (l.eraseIdx k))
noncomputable def Uo:DR:=λxs g d g'=>∃a y z kvs c,xs=[.ref a,y,z]/\g[a]?=some (.dC kvs)/\V6 y=some c/\d=(q9 kvs c).getD z/\g'=g
noncomputable def JD:D->Bool
 |.bD=>true
 |.bl _=>true
 |.int _=>true
 |.str _=>true
 |_=>false
noncomputable def toV:D->V
 |.bl b=>.bl b
 |.int i=>.int i
 |.str x=>.str x
 |_=>.bD
noncomputable def OI(l:List D)(y:D)(n:Nat):Prop:=l.all JD=true/\JD y=true/\(∃z,l[n]?=some z/\Fj (toV z) (toV y)=true)/\∀(m:Nat) z,m<n->l[m]?=some z->Fj (toV z) (toV y)=false
noncomputable def OV:DR:=λxs g d g'=>∃x y l n,xs=[x,y]/\R9 g x=some l/\OI l y n/\l.length<=100000/\d=.int n/\g'=g
noncomputable def joinR:DR:=λxs g d g'=>∃sep a ys,xs=[.str sep,.ref a]/\d7 g a=some (ys.map .str)/\Sb sep ys<=100000/\d=.str (Builtin.Str.glued sep ys)/\g'=g
noncomputable def VM:DR:=λxs g d g'=>(∃i j,xs=[.int i,.int j]/\d=.int (i+j)/\g'=g)\/∃l m,xs=[.tup l,.tup m]/\l.length+m.length<=100000/\d=.tup (l++m)/\g'=g
noncomputable def ON:DR:=λxs g d g'=>∃a l,xs=[.ref a]/\g[a]?=some (.lst l)/\d=.bD/\g'=g.set a (.lst [])
noncomputable def Wu:DR:=λxs g d g'=>∃a l,xs=[.ref a]/\g[a]?=some (.lst (l++[d]))/\g'=g.set a (.lst l)
noncomputable def RN:DR:=λxs g d g'=>∃a b l m,xs=[.ref a,.ref b]/\g[a]?=some (.lst l)/\g[b]?=some (.lst m)/\l.length+m.length<=100000/\d=.bD/\g'=g.set a (.lst (l++m))
noncomputable def OP:DR:=λxs g d g'=>∃a kvs,xs=[.ref a]/\g[a]?=some (.dC kvs)/\d=.ref g.length/\g'=g++[.dC kvs]
noncomputable def PR:Pr->DR
 |.clear=>ON
 |.any=>anyR
 |.sum=>UW
 |.jr=>Ob
 |.jq i=>QA i
 |.rL=>V'
 |.lT=>VQ
 |.sR=>QR
 |.extend=>RN
 |.yO=>Wu
 |.uL=>OP
 |.bin op=>TZ op
 |.un op=>KH op
 |.cmp op=>Ue op
 |.ix=>LJ
 |.kf a b=>UT a b
 |.rev=>UP
 |.tup=>Vo
 |.lst=>Uu
 |.nJ=>VE
 |.len=>Ut
 |.list=>VZ
 |.tuple=>Ru
 |.isin=>VP
 |.all=>allR
 |.max=>Uv
 |.min=>Uw
 |.int=>Ur
 |.str=>UU
 |.iP=>Pm
 |.jx=>Pn
 |.sset=>Og
 |.KR=>UX
 |.Fb=>CZ false
 |.uD=>CZ true
 |.mD=>VI
 |.fv=>NC
 |.kP=>VH
 |.fld f=>Uk f
 |.append=>appendR
 |.pop=>UE
 |.get=>Uo
 |.index=>OV
 |.join=>joinR
 |.iadd=>VM
noncomputable def cH(p:Pr)(xs:List D)(g:G)(Q:KD):Prop:=∃d g',PR p xs g d g'/\Q d g'
noncomputable def uJ(g:G)(x y:D)(k:Bool->Prop):Prop:=∃b,uI g x y b/\k b
noncomputable def pM(g:G)(x y:D)(k:Bool->Prop):Prop:=∃b,inR g x y b/\k b
noncomputable def oU(g:G)(x:D)(k:Bool->Prop):Prop:=∃b,Gg g x b/\k b
noncomputable def US(x y v:D)(g g':G):Prop:=(∃a i l j,x=.ref a/\y=.int i/\g[a]?=some (.lst l)/\jW l.length i=some j/\g'=g.set a (.lst (l.set j v))) \/
 ∃a kvs c,x=.ref a/\g[a]?=some (.dC kvs)/\V6 y=some c/\kvs.length<100000/\g'=g.set a (.dC (putD kvs c v))
noncomputable def U8(x y v:D)(g:G)(k:G->Prop):Prop:=∃g',US x y v g g'/\k g'
noncomputable def JP(f:Str)(cs:List Str)(x v:D)(g g':G):Prop:=∃a c fs,x=.ref a/\g[a]?=some (.ins c fs)/\c∈cs/\fs.length<100/\g'=g.set a (.ins c (k6 f v fs))
noncomputable def vh(f:Str)(cs:List Str)(x v:D)(g:G)(k:G->Prop):Prop:=∃g',JP f cs x v g g'/\k g'
noncomputable def lq:Pr->D->G->Prop
 |.get,x,g=>∃a kvs,x=.ref a/\g[a]?=some (.dC kvs)
 |.join,x,g=>∃y,x=.str y
 |.jr,x,g=>∃a S n,x=.ref a/\g[a]?=some (.set S n)
 |.index,x,g=>(∃l,x=.tup l)\/∃a l,x=.ref a/\d7 g a=some l
 |_,x,g=>∃a l,x=.ref a/\d7 g a=some l
inductive IK where
 |fix (l:List D)|lst (a:Nat)|nB (a:Nat)|qT (a n:Nat)
noncomputable def IK.at:IK->Nat->G->Option (Option D)
 |.fix l,i,_=>some l[i]?
 |.lst a,i,g=>match d7 g a with
  |some l=>some l[i]?
  |none=>none
 |.nB a,i,g=>match d7 g a with
  |some l=>some (l[i]?.map λd=>.tup [.int i,d])
  |none=>none
 |.qT a n,i,g=>match d7 g a with
  |some l=>if l.length=n then some (if i<n then l[n-1-i]? else none) else none
  |none=>none
inductive MT where
 |one (i:Nat)|many (is:List Nat)
noncomputable def C8:List Nat->List D->S->Option S
 |[],[],Z=>some Z
 |i::is,d::ds,Z=>C8 is ds (Z.set i (some d))
 |_,_,_=>none
noncomputable def iO(t:MT)(x:D)(Z:S)(k:S->Prop):Prop:=match t with
 |.one i=>k (Z.set i (some x))
 |.many is=>∃l bN,x=.tup l/\C8 is l Z=some bN/\k bN
set_option genInjectivity false in
set_option genSizeOf false in
inductive ME where
 |var (i:Nat)|lit (d:D)
 |nil|cons (a b:ME)|prim (p:Pr) (es:ME)|eA (p:Pr) (o es:ME)|oN (es:ME)
 |chain (o1 o2:CmpOp) (a b c:ME)
 |dG (a b:ME)|jt (a b:ME)|eL (a:ME)|ite (c a b:ME)
 |call (f:Nat) (es:ME)|make (c:Str) (f:Nat) (es:ME)|jv (m:Str) (cs:List (Str×Nat)) (o es:ME)
 |comp (d6:List Nat) (n:Nat) (tg:MT) (it cond elt:ME)|gk (d6:List Nat) (n:Nat) (tg:MT) (it cond elt:ME)|js (d6:List Nat) (n:Nat) (tg:MT) (it cond elt:ME)
 |fB (e:ME)|fg (a:ME)|jX (a b:ME)|jH (e:ME)|nc (e:ME)|fP (e:ME)|no
noncomputable abbrev eT:=Nat->List D->G->KD->KX->Prop
noncomputable def C4(Z:S)(d6:List Nat)(n:Nat):S:=d6.map (λj=>(Z[j]?).join)++List.replicate (n-d6.length) none
noncomputable def turns(k:IK)(Z:S)(g:G)(fin:S->G->Prop)(turn:D->(S->G->Prop)->S->G->Prop):Prop :=
 ∃W:Nat->Nat->S->G->Prop,(∃m,W 0 m Z g)/\∀i m Z g,W i m Z g->(k.at i g=some none/\fin Z g)\/∃x,k.at i g=some (some x)/\∃N2:S->G->Prop,(∀bN g',N2 bN g'->∃m',m'<m/\W (i+1) m' bN g')/\turn x N2 Z g
noncomputable def xD(k:IK)(Z:S)(g:G)(fin:List D->G->Prop)(turn:D->(Option D->S->G->Prop)->S->G->Prop):Prop :=
 ∃W:Nat->Nat->List D->S->G->Prop,(∃m,W 0 m [] Z g)/\∀i m ys Z g,W i m ys Z g->(k.at i g=some none/\fin ys g) \/
  ∃x,k.at i g=some (some x)/\ys.length<100000/\turn x (λy bN g'=>∃m',m'<m/\W (i+1) m' (ys++y.toList) bN g') Z g
noncomputable def AR(k:IK)(Z:S)(g:G)(fin:List Int->G->Prop)(turn:D->(Option Int->S->G->Prop)->S->G->Prop):Prop :=
 ∃W:Nat->Nat->List Int->S->G->Prop,(∃m,W 0 m [] Z g)/\∀i m ys Z g,W i m ys Z g->(k.at i g=some none/\ys.length<60/\fin ys g) \/
  ∃x,k.at i g=some (some x)/\ys.length<60/\turn x (λy bN g'=>∃m',m'<m/\W (i+1) m' (ys++y.toList) bN g') Z g
mutual
noncomputable def aK(P:eT):ME->S->G->KD->KX->Prop
 |.var i,Z,g,Q,_=>∃d,Z[i]?=some (some d)/\Q d g
 |.lit d,_,g,Q,_=>Q d g
 |.prim p es,Z,g,Q,E=>cW P es Z g (λxs g1=>cH p xs g1 Q) E
 |.eA p o es,Z,g,Q,E=>aK P o Z g (λx g1=>lq p x g1/\cW P es Z g1 (λxs g2=>cH p (x::xs) g2 Q) E) E
 |.oN es,Z,g,Q,E=>cW P es Z (g++[.dC []]) (λxs g1=>∃kvs,vq xs []=some kvs/\xs.length<=30/\g1[g.length]?=some (.dC [])/\Q (.ref g.length) (g1.set g.length (.dC kvs))) E
 |.chain o1 o2 a b c,Z,g,Q,E=>aK P a Z g (λx g1=>aK P b Z g1 (λy g2=>cH (.cmp o1) [x,y] g2 λz g3=>∃t,z=.bl t/\if t=true then aK P c Z g3 (λw g4=>cH (.cmp o2) [y,w] g4 Q) E else Q (.bl false) g3) E) E
 |.dG a b,Z,g,Q,E=>aK P a Z g (λx g1=>∃t,x=.bl t/\if t=true then aK P b Z g1 Q E else Q (.bl false) g1) E
 |.jt a b,Z,g,Q,E=>aK P a Z g (λx g1=>∃t,x=.bl t/\if t=true then Q (.bl true) g1 else aK P b Z g1 Q E) E
 |.eL a,Z,g,Q,E=>aK P a Z g (λx g1=>∃t,x=.bl t/\Q (.bl (!t)) g1) E
 |.ite c a b,Z,g,Q,E=>cA P c Z g (λt g1=>if t=true then aK P a Z g1 Q E else aK P b Z g1 Q E) E
 |.call f es,Z,g,Q,E=>cW P es Z g (λxs g1=>P f xs g1 Q E) E
 |.make c f es,Z,g,Q,E=>cW P es Z g (λxs g1=>P f (.ref g1.length::xs) (g1++[.ins c []]) (λd g2=>d=.bD/\Q (.ref g1.length) g2) E) E
 |.jv m cs o es,Z,g,Q,E=>aK P o Z g (λx g1=>∃a c fs f,x=.ref a/\g1[a]?=some (.ins c fs)/\fs.lookup m=none/\cs.lookup c=some f/\cW P es Z g1 (λxs g2=>P f (x::xs) g2 Q E) E) E
 |.comp d6 n tg it cond elt,Z,g,Q,E=>eB P it Z g (λk g1=>xD k (C4 Z d6 n) g1 (λys g=>Q (.ref g.length) (g++[.lst ys])) λx N Z g=>iO tg x Z λcb=>cA P cond cb g (λb g3=>if b=true then aK P elt cb g3 (λy g4=>N (some y) cb g4) iC else N none cb g3) iC) E
 |.js d6 n tg it cond elt,Z,g,Q,E=>eB P it Z g (λk g1=>xD k (C4 Z d6 n) g1 (λys g=>Q (.ref g.length) (g++[.lst ys])) λx N Z g=>iO tg x Z λcb=>cA P cond cb g (λb g3=>if b=true then aK P elt cb g3 (λy g4=>N (some y) cb g4) E else N none cb g3) iC) E
 |.gk d6 n tg it cond elt,Z,g,Q,E=>eB P it Z g (λk g1=>AR k (C4 Z d6 n) g1 (λys g=>Q (.ref g.length) (g++[.lst ((n6 ys).map .int)])) λx N Z g=>iO tg x Z λcb=>cA P cond cb g (λb g3=>if b=true then aK P elt cb g3 (λy g4=>∃j,y=.int j/\N (some j) cb g4) iC else N none cb g3) iC) E
 |_,_,_,_,_=>False
noncomputable def cW(P:eT):ME->S->G->(List D->G->Prop)->KX->Prop
 |.nil,_,g,Q,_=>Q [] g
 |.cons a b,Z,g,Q,E=>aK P a Z g (λx g1=>cW P b Z g1 (λxs g2=>Q (x::xs) g2) E) E
 |_,_,_,_,_=>False
noncomputable def cA(P:eT):ME->S->G->(Bool->G->Prop)->KX->Prop
 |.dG a b,Z,g,Q,E=>cA P a Z g (λt g1=>if t=true then cA P b Z g1 Q E else Q false g1) E
 |.jt a b,Z,g,Q,E=>cA P a Z g (λt g1=>if t=true then Q true g1 else cA P b Z g1 Q E) E
 |.eL a,Z,g,Q,E=>cA P a Z g (λt g1=>Q (!t) g1) E
 |.no,_,g,Q,_=>Q true g
 |.fP e,Z,g,Q,E=>aK P e Z g (λx g1=>oU g1 x λb=>Q b g1) E
 |_,_,_,_,_=>False
noncomputable def eB(P:eT):ME->S->G->(IK->G->Prop)->KX->Prop
 |.fB e,Z,g,R,E=>aK P e Z g (λx g1=>(∃l,x=.tup l/\R (.fix l) g1)\/∃a l,x=.ref a/\d7 g1 a=some l/\R (.lst a) g1) E
 |.fg a,Z,g,R,E=>aK P a Z g (λx g1=>∃j:Int,x=.int j/\-(2 ^ 62)<=j/\j<2 ^ 62/\R (.fix (l6 0 j.toNat)) g1) E
 |.jX a b,Z,g,R,E=>aK P a Z g (λx g1=>aK P b Z g1 (λy g2=>∃i j:Int,x=.int i/\y=.int j/\(-(2 ^ 62)<=i/\i<2 ^ 62/\-(2 ^ 62)<=j/\j<2 ^ 62)/\R (.fix (l6 i (j-i).toNat)) g2) E) E
 |.jH e,Z,g,R,E=>aK P e Z g (λx g1=>∃a l,x=.ref a/\d7 g1 a=some l/\R (.nB a) g1) E
 |.nc e,Z,g,R,E=>aK P e Z g (λx g1=>∃a l,x=.ref a/\d7 g1 a=some l/\R (.qT a l.length) g1) E
 |_,_,_,_,_=>False
end
set_option genInjectivity false in
set_option genSizeOf false in
inductive MS where
 |pass|seq (a b:MS)|expr (e:ME)|set (i:Nat) (e:ME)|kZ (t:MT) (e:ME)|dM (o i v:ME)|gM (f:Str) (cs:List Str) (o v:ME)
 |uZ (f:Str) (cs:List Str) (o v:ME)|jC (i:Nat) (p:Pr) (v:ME)|vR (o1 i1 o2 i2 e:ME)
 |ifs (c:ME) (a b:MS)|dS (t:MT) (it:ME) (b:MS)|jn (c:ME) (b:MS)|ret (e:ME)|pF|brk|cont
 |raise (x:Str) (es:ME)|BS (b:MS) (hs:List (Str×ME))
structure Ends where
 nx:S->G->Prop
 rt:KD
 bk:S->G->Prop:=λ_ _=>False
 ct:S->G->Prop:=λ_ _=>False
noncomputable def sJ(P:eT)(N:Ends)(Z:S)(E:KX):List (Str×ME)->KX
 |[],x,g=>E x g
 |(y,e)::r,x,g=>if x.cls=y\/y="MintError" then aK P e Z g N.rt iC else sJ P N Z E r x g
noncomputable def wpS(P:eT):MS->Ends->S->G->KX->Prop
 |.pass,N,Z,g,_=>N.nx Z g
 |.seq a b,N,Z,g,E=>wpS P a { N with nx:=λhU g1=>wpS P b N hU g1 E } Z g E
 |.expr e,N,Z,g,E=>aK P e Z g (λ_ g1=>N.nx Z g1) E
 |.set i e,N,Z,g,E=>aK P e Z g (λx g1=>N.nx (Z.set i (some x)) g1) E
 |.kZ t e,N,Z,g,E=>aK P e Z g (λx g1=>iO t x Z λhU=>N.nx hU g1) E
 |.dM o i v,N,Z,g,E=>aK P v Z g (λx g1=>aK P o Z g1 (λy g2=>aK P i Z g2 (λz g3=>U8 y z x g3 λg4=>N.nx Z g4) E) E) E
 |.gM f cs o v,N,Z,g,E=>aK P v Z g (λx g1=>aK P o Z g1 (λy g2=>vh f cs y x g2 λg3=>N.nx Z g3) E) E
 |.uZ f cs o v,N,Z,g,E=>aK P o Z g (λy g1=>∃a c fs x,y=.ref a/\g1[a]?=some (.ins c fs)/\c∈cs/\fs.lookup f=some x/\aK P v Z g1 (λz g3=>cH .iadd [x,z] g3 λw g4=>∃qj,g4[a]?=some (.ins c qj)/\qj.length<100/\N.nx Z (g4.set a (.ins c (k6 f w qj)))) E) E
 |.vR o1 i1 o2 i2 e,N,Z,g,E=>aK P e Z g (λx g1=>∃u v,x=.tup [u,v]/\aK P o1 Z g1 (λy1 g2=>aK P i1 Z g2 (λz1 g3=>U8 y1 z1 u g3 λg4=>aK P o2 Z g4 (λy2 g5=>aK P i2 Z g5 (λz2 g6=>U8 y2 z2 v g6 λg7=>N.nx Z g7) E) E) E) E) E
 |.jC i p v,N,Z,g,E=>∃x,Z[i]?=some (some x)/\aK P v Z g (λz g1=>cH p [x,z] g1 λw g2=>N.nx (Z.set i (some w)) g2) E
 |.ifs c a b,N,Z,g,E=>cA P c Z g (λt g1=>if t=true then wpS P a N Z g1 E else wpS P b N Z g1 E) E
 |.dS t it b,N,Z,g,E=>eB P it Z g (λk g1=>turns k Z g1 N.nx λx N2 Z g=>iO t x Z λcb=>wpS P b { N with nx:=N2,ct:=N2,bk:=N.nx } cb g E) E
 |.jn c b,N,Z,g,E=>∃W:Nat->S->G->Prop,(∃m,W m Z g)/\∀m Z g,W m Z g->cA P c Z g (λt g1=>if t=true then ∃N2:S->G->Prop,(∀bN g',N2 bN g'->∃m',m'<m/\W m' bN g')/\wpS P b { N with nx:=N2,ct:=N2,bk:=N.nx } Z g1 E else N.nx Z g1) E
 |.ret e,N,Z,g,E=>aK P e Z g N.rt E
 |.pF,N,_,g,_=>N.rt .bD g
 |.brk,N,Z,g,_=>N.bk Z g
 |.cont,N,Z,g,_=>N.ct Z g
 |.raise x es,_,Z,g,E=>cW P es Z g (λvs g1=>vs.length<=1000/\E ⟨x⟩ g1) E
 |.BS b hs,N,Z,g,E=>wpS P b N Z g (sJ P N (Z.map λ_=>none) E hs)
structure aW where
 ar:Nat
 n:Nat
 body:MS
noncomputable def d8(m:aW)(ds:List D):S:=ds.map some++List.replicate (m.n-ds.length) none
noncomputable def d4(T:Nat->Option aW):Nat->eT
 |0,_,_,_,_,_=>False
 |k+1,f,ds,g,Q,E=>∃m,T f=some m/\ds.length=m.ar/\wpS (d4 T k) m.body ⟨λ_ g'=>Q .bD g',Q,λ_ _=>False,λ_ _=>False⟩ (d8 m ds) g E
end M

namespace M
open PySem L2
theorem t8{p xs}{g:G}{Q Q':KD}(h:∀d g,Q d g->Q' d g)(q:cH p xs g Q):cH p xs g Q':=by
 obtain⟨d,g',a,b⟩:=q;exact⟨d,g',a,h _ _ b⟩
theorem YC{x}{g:G}{k k':Bool->Prop}(h:∀b,k b->k' b)(q:oU g x k):oU g x k':=by
 obtain⟨b,a,z⟩:=q;exact⟨b,a,h _ z⟩
theorem T6{x y v}{g:G}{k k':G->Prop}(h:∀g,k g->k' g)(q:U8 x y v g k):U8 x y v g k':=by
 obtain⟨b,a,z⟩:=q;exact⟨b,a,h _ z⟩
theorem Zr{f cs x v}{g:G}{k k':G->Prop}(h:∀g,k g->k' g)(q:vh f cs x v g k):vh f cs x v g k':=by
 obtain⟨b,a,z⟩:=q;exact⟨b,a,h _ z⟩
theorem u9{t x Z}{k k':S->Prop}(h:∀Z,k Z->k' Z)(q:iO t x Z k):iO t x Z k':=by
 cases t with
 |one i=>exact h _ q
 |many is=>obtain⟨l,bN,a,b,c⟩:=q;exact⟨l,bN,a,b,h _ c⟩
theorem Zz{k Z g}{fin jA:S->G->Prop}{turn gN:D->(S->G->Prop)->S->G->Prop}(h:∀Z g,fin Z g->jA Z g)(h2:∀x N Z g,turn x N Z g->gN x N Z g)(q:turns k Z g fin turn):turns k Z g jA gN:=by
 obtain⟨W,w0,q⟩:=q;refine⟨W,w0,λi m Z g w=>?_⟩;rcases q i m Z g w with⟨a,b⟩|⟨x,a,N2,b,c⟩
 ·exact .inl ⟨a,h _ _ b⟩
 ·exact .inr ⟨x,a,N2,b,h2 _ _ _ _ c⟩
theorem HR{k Z g}{fin jA:List D->G->Prop}{turn gN:D->(Option D->S->G->Prop)->S->G->Prop}(h:∀ys g,fin ys g->jA ys g)(h2:∀x N Z g,turn x N Z g->gN x N Z g)(q:xD k Z g fin turn):xD k Z g jA gN:=by
 obtain⟨W,w0,q⟩:=q;refine⟨W,w0,λi m ys Z g w=>?_⟩;rcases q i m ys Z g w with⟨a,b⟩|⟨x,a,b,c⟩
 ·exact .inl ⟨a,h _ _ b⟩
 ·exact .inr ⟨x,a,b,h2 _ _ _ _ c⟩
theorem ZV{k Z g}{fin jA:List Int->G->Prop}{turn gN:D->(Option Int->S->G->Prop)->S->G->Prop}(h:∀ys g,fin ys g->jA ys g)(h2:∀x N Z g,turn x N Z g->gN x N Z g)(q:AR k Z g fin turn):AR k Z g jA gN:=by
 obtain⟨W,w0,q⟩:=q;refine⟨W,w0,λi m ys Z g w=>?_⟩;rcases q i m ys Z g w with⟨a,b,c⟩|⟨x,a,b,c⟩
 ·exact .inl ⟨a,b,h _ _ c⟩
 ·exact .inr ⟨x,a,b,h2 _ _ _ _ c⟩
theorem E5{t:Bool}{A B A' B':Prop}(h1:A->A')(h2:B->B')(q:if t=true then A else B):if t=true then A' else B':=by
 cases t
 ·exact h2 q
 ·exact h1 q
noncomputable def i7(P:eT):Prop:=∀f xs g Q Q' E E',(∀d g,Q d g->Q' d g)->(∀x g,E x g->E' x g)->P f xs g Q E->P f xs g Q' E'
mutual
theorem b9{P:eT}(hP:i7 P):∀(e:ME) (Z:S) (g:G) (Q Q':KD) (E E':KX),(∀d g,Q d g->Q' d g)->(∀x g,E x g->E' x g)->aK P e Z g Q E->aK P e Z g Q' E'
 |.var i,Z,g,Q,Q',E,E',h,hx,q=>by
  rw[aK] at q ⊢;obtain⟨d,a,b⟩:=q;exact⟨d,a,h _ _ b⟩
 |.lit d,Z,g,Q,Q',E,E',h,hx,q=>by rw[aK] at q ⊢;exact h _ _ q
 |.prim p es,Z,g,Q,Q',E,E',h,hx,q=>by
  rw[aK] at q ⊢;exact w6 hP es _ _ _ _ _ _ (λxs g1 q=>t8 h q) hx q
 |.eA p o es,Z,g,Q,Q',E,E',h,hx,q=>by
  rw[aK] at q ⊢;exact b9 hP o _ _ _ _ _ _ (λx g1 q=>⟨q.1,w6 hP es _ _ _ _ _ _ (λxs g2 q=>t8 h q) hx q.2⟩) hx q
 |.oN es,Z,g,Q,Q',E,E',h,hx,q=>by
  rw[aK] at q ⊢;exact w6 hP es _ _ _ _ _ _ (λxs g1 ⟨kvs,a,b,c,d⟩=>⟨kvs,a,b,c,h _ _ d⟩) hx q
 |.chain o1 o2 a b c,Z,g,Q,Q',E,E',h,hx,q=>by
  rw[aK] at q ⊢;refine b9 hP a _ _ _ _ _ _ (λx g1 q=>b9 hP b _ _ _ _ _ _ (λy g2 q=>t8 (λz g3 q=>?_) q) hx q) hx q;obtain⟨t,e,q⟩:=q;exact⟨t,e,E5 (λq=>b9 hP c _ _ _ _ _ _ (λw g4 q=>t8 h q) hx q) (h _ _) q⟩
 |.dG a b,Z,g,Q,Q',E,E',h,hx,q=>by
  rw[aK] at q ⊢;refine b9 hP a _ _ _ _ _ _ (λx g1 q=>?_) hx q;obtain⟨t,e,q⟩:=q;exact⟨t,e,E5 (λq=>b9 hP b _ _ _ _ _ _ h hx q) (h _ _) q⟩
 |.jt a b,Z,g,Q,Q',E,E',h,hx,q=>by
  rw[aK] at q ⊢;refine b9 hP a _ _ _ _ _ _ (λx g1 q=>?_) hx q;obtain⟨t,e,q⟩:=q;exact⟨t,e,E5 (h _ _) (λq=>b9 hP b _ _ _ _ _ _ h hx q) q⟩
 |.eL a,Z,g,Q,Q',E,E',h,hx,q=>by
  rw[aK] at q ⊢;refine b9 hP a _ _ _ _ _ _ (λx g1 q=>?_) hx q;obtain⟨t,e,q⟩:=q;exact⟨t,e,h _ _ q⟩
 |.ite c a b,Z,g,Q,Q',E,E',h,hx,q=>by
  rw[aK] at q ⊢;exact n8 hP c _ _ _ _ _ _ (λt g1 q=>E5 (λq=>b9 hP a _ _ _ _ _ _ h hx q) (λq=>b9 hP b _ _ _ _ _ _ h hx q) q) hx q
 |.call f es,Z,g,Q,Q',E,E',h,hx,q=>by
  rw[aK] at q ⊢;exact w6 hP es _ _ _ _ _ _ (λxs g1 q=>hP _ _ _ _ _ _ _ h hx q) hx q
 |.make c f es,Z,g,Q,Q',E,E',h,hx,q=>by
  rw[aK] at q ⊢;exact w6 hP es _ _ _ _ _ _ (λxs g1 q=>hP _ _ _ _ _ _ _ (λd g2 q=>⟨q.1,h _ _ q.2⟩) hx q) hx q
 |.jv m cs o es,Z,g,Q,Q',E,E',h,hx,q=>by
  rw[aK] at q ⊢;refine b9 hP o _ _ _ _ _ _ (λx g1 q=>?_) hx q;obtain⟨a,c,fs,f,q1,q2,q3,q4,q⟩:=q;exact⟨a,c,fs,f,q1,q2,q3,q4,w6 hP es _ _ _ _ _ _ (λxs g2 q=>hP _ _ _ _ _ _ _ h hx q) hx q⟩
 |.comp d6 n tg it cond elt,Z,g,Q,Q',E,E',h,hx,q=>by
  rw[aK] at q ⊢;exact w5 hP it _ _ _ _ _ _ (λk g1 q=>HR (λys g q=>h _ _ q) (λ_ _ _ _ q=>q) q) hx q
 |.js d6 n tg it cond elt,Z,g,Q,Q',E,E',h,hx,q=>by
  rw[aK] at q ⊢;exact w5 hP it _ _ _ _ _ _ (λk g1 q=>HR (λys g q=>h _ _ q) (λx N Z g q=>u9 (λcb q=>n8 hP cond _ _ _ _ _ _ (λb g3 q=>by
   cases b
   ·exact q
   ·exact b9 hP elt _ _ _ _ _ _ (λ_ _ z=>z) hx q) (λ_ _ z=>z) q) q) q) hx q
 |.gk d6 n tg it cond elt,Z,g,Q,Q',E,E',h,hx,q=>by
  rw[aK] at q ⊢;exact w5 hP it _ _ _ _ _ _ (λk g1 q=>ZV (λys g q=>h _ _ q) (λ_ _ _ _ q=>q) q) hx q
 |.nil,Z,g,Q,Q',E,E',h,hx,q=>(show False from q).elim
 |.cons _ _,Z,g,Q,Q',E,E',h,hx,q=>(show False from q).elim
 |.fB _,Z,g,Q,Q',E,E',h,hx,q=>(show False from q).elim
 |.fg _,Z,g,Q,Q',E,E',h,hx,q=>(show False from q).elim
 |.jX _ _,Z,g,Q,Q',E,E',h,hx,q=>(show False from q).elim
 |.jH _,Z,g,Q,Q',E,E',h,hx,q|.nc _,Z,g,Q,Q',E,E',h,hx,q=>(show False from q).elim
 |.fP _,Z,g,Q,Q',E,E',h,hx,q=>(show False from q).elim
 |.no,Z,g,Q,Q',E,E',h,hx,q=>(show False from q).elim
theorem w6{P:eT}(hP:i7 P):∀(e:ME) (Z:S) (g:G) (Q Q':List D->G->Prop) (E E':KX),(∀d g,Q d g->Q' d g)->(∀x g,E x g->E' x g)->cW P e Z g Q E->cW P e Z g Q' E'
 |.nil,Z,g,Q,Q',E,E',h,hx,q=>by rw[cW] at q ⊢;exact h _ _ q
 |.cons a b,Z,g,Q,Q',E,E',h,hx,q=>by
  rw[cW] at q ⊢;exact b9 hP a _ _ _ _ _ _ (λx g1 q=>w6 hP b _ _ _ _ _ _ (λxs g2 q=>h _ _ q) hx q) hx q
 |.var _,Z,g,Q,Q',E,E',h,hx,q|.lit _,Z,g,Q,Q',E,E',h,hx,q|.prim _ _,Z,g,Q,Q',E,E',h,hx,q|.eA _ _ _,Z,g,Q,Q',E,E',h,hx,q|.oN _,Z,g,Q,Q',E,E',h,hx,q|.chain _ _ _ _ _,Z,g,Q,Q',E,E',h,hx,q|.dG _ _,Z,g,Q,Q',E,E',h,hx,q|.jt _ _,Z,g,Q,Q',E,E',h,hx,q|.eL _,Z,g,Q,Q',E,E',h,hx,q|.ite _ _ _,Z,g,Q,Q',E,E',h,hx,q|.call _ _,Z,g,Q,Q',E,E',h,hx,q
 |.make _ _ _,Z,g,Q,Q',E,E',h,hx,q|.jv _ _ _ _,Z,g,Q,Q',E,E',h,hx,q|.comp _ _ _ _ _ _,Z,g,Q,Q',E,E',h,hx,q|.gk _ _ _ _ _ _,Z,g,Q,Q',E,E',h,hx,q|.js _ _ _ _ _ _,Z,g,Q,Q',E,E',h,hx,q|.fB _,Z,g,Q,Q',E,E',h,hx,q|.fg _,Z,g,Q,Q',E,E',h,hx,q|.jX _ _,Z,g,Q,Q',E,E',h,hx,q|.jH _,Z,g,Q,Q',E,E',h,hx,q|.nc _,Z,g,Q,Q',E,E',h,hx,q|.fP _,Z,g,Q,Q',E,E',h,hx,q|.no,Z,g,Q,Q',E,E',h,hx,q=>(show False from q).elim
theorem n8{P:eT}(hP:i7 P):∀(e:ME) (Z:S) (g:G) (Q Q':Bool->G->Prop) (E E':KX),(∀d g,Q d g->Q' d g)->(∀x g,E x g->E' x g)->cA P e Z g Q E->cA P e Z g Q' E'
 |.dG a b,Z,g,Q,Q',E,E',h,hx,q=>by
  rw[cA] at q ⊢;exact n8 hP a _ _ _ _ _ _ (λt g1 q=>E5 (λq=>n8 hP b _ _ _ _ _ _ h hx q) (h _ _) q) hx q
 |.jt a b,Z,g,Q,Q',E,E',h,hx,q=>by
  rw[cA] at q ⊢;exact n8 hP a _ _ _ _ _ _ (λt g1 q=>E5 (h _ _) (λq=>n8 hP b _ _ _ _ _ _ h hx q) q) hx q
 |.eL a,Z,g,Q,Q',E,E',h,hx,q=>by rw[cA] at q ⊢;exact n8 hP a _ _ _ _ _ _ (λt g1 q=>h _ _ q) hx q
 |.no,Z,g,Q,Q',E,E',h,hx,q=>by rw[cA] at q ⊢;exact h _ _ q
 |.fP e,Z,g,Q,Q',E,E',h,hx,q=>by rw[cA] at q ⊢;exact b9 hP e _ _ _ _ _ _ (λx g1 q=>YC (λb q=>h _ _ q) q) hx q
 |.var _,Z,g,Q,Q',E,E',h,hx,q|.lit _,Z,g,Q,Q',E,E',h,hx,q|.prim _ _,Z,g,Q,Q',E,E',h,hx,q|.eA _ _ _,Z,g,Q,Q',E,E',h,hx,q|.oN _,Z,g,Q,Q',E,E',h,hx,q|.chain _ _ _ _ _,Z,g,Q,Q',E,E',h,hx,q|.ite _ _ _,Z,g,Q,Q',E,E',h,hx,q|.call _ _,Z,g,Q,Q',E,E',h,hx,q|.nil,Z,g,Q,Q',E,E',h,hx,q|.cons _ _,Z,g,Q,Q',E,E',h,hx,q
 |.make _ _ _,Z,g,Q,Q',E,E',h,hx,q|.jv _ _ _ _,Z,g,Q,Q',E,E',h,hx,q|.comp _ _ _ _ _ _,Z,g,Q,Q',E,E',h,hx,q|.gk _ _ _ _ _ _,Z,g,Q,Q',E,E',h,hx,q|.js _ _ _ _ _ _,Z,g,Q,Q',E,E',h,hx,q|.fB _,Z,g,Q,Q',E,E',h,hx,q|.fg _,Z,g,Q,Q',E,E',h,hx,q|.jX _ _,Z,g,Q,Q',E,E',h,hx,q|.jH _,Z,g,Q,Q',E,E',h,hx,q|.nc _,Z,g,Q,Q',E,E',h,hx,q=>(show False from q).elim
theorem w5{P:eT}(hP:i7 P):∀(e:ME) (Z:S) (g:G) (Q Q':IK->G->Prop) (E E':KX),(∀d g,Q d g->Q' d g)->(∀x g,E x g->E' x g)->eB P e Z g Q E->eB P e Z g Q' E'
 |.fB e,Z,g,Q,Q',E,E',h,hx,q=>by
  rw[eB] at q ⊢;exact b9 hP e _ _ _ _ _ _ (λx g1 q=>q.imp (λ⟨l,a,b⟩=>⟨l,a,h _ _ b⟩) λ⟨i,l,a,b,c⟩=>⟨i,l,a,b,h _ _ c⟩) hx q
 |.fg a,Z,g,Q,Q',E,E',h,hx,q=>by
  rw[eB] at q ⊢;exact b9 hP a _ _ _ _ _ _ (λx g1 ⟨j,a,b,c,d⟩=>⟨j,a,b,c,h _ _ d⟩) hx q
 |.jX a b,Z,g,Q,Q',E,E',h,hx,q=>by
  rw[eB] at q ⊢;exact b9 hP a _ _ _ _ _ _ (λx g1 q=>b9 hP b _ _ _ _ _ _ (λy g2 ⟨i,j,a,b,c,d⟩=>⟨i,j,a,b,c,h _ _ d⟩) hx q) hx q
 |.jH e,Z,g,Q,Q',E,E',h,hx,q=>by
  rw[eB] at q ⊢;exact b9 hP e _ _ _ _ _ _ (λx g1 ⟨i,l,a,b,c⟩=>⟨i,l,a,b,h _ _ c⟩) hx q
 |.nc e,Z,g,Q,Q',E,E',h,hx,q=>by
  rw[eB] at q ⊢;exact b9 hP e _ _ _ _ _ _ (λx g1 ⟨i,l,a,b,c⟩=>⟨i,l,a,b,h _ _ c⟩) hx q
 |.var _,Z,g,Q,Q',E,E',h,hx,q|.lit _,Z,g,Q,Q',E,E',h,hx,q|.prim _ _,Z,g,Q,Q',E,E',h,hx,q|.eA _ _ _,Z,g,Q,Q',E,E',h,hx,q|.oN _,Z,g,Q,Q',E,E',h,hx,q|.chain _ _ _ _ _,Z,g,Q,Q',E,E',h,hx,q|.ite _ _ _,Z,g,Q,Q',E,E',h,hx,q|.call _ _,Z,g,Q,Q',E,E',h,hx,q|.nil,Z,g,Q,Q',E,E',h,hx,q|.cons _ _,Z,g,Q,Q',E,E',h,hx,q
 |.dG _ _,Z,g,Q,Q',E,E',h,hx,q|.jt _ _,Z,g,Q,Q',E,E',h,hx,q|.eL _,Z,g,Q,Q',E,E',h,hx,q|.fP _,Z,g,Q,Q',E,E',h,hx,q|.no,Z,g,Q,Q',E,E',h,hx,q
 |.make _ _ _,Z,g,Q,Q',E,E',h,hx,q|.jv _ _ _ _,Z,g,Q,Q',E,E',h,hx,q|.comp _ _ _ _ _ _,Z,g,Q,Q',E,E',h,hx,q|.gk _ _ _ _ _ _,Z,g,Q,Q',E,E',h,hx,q|.js _ _ _ _ _ _,Z,g,Q,Q',E,E',h,hx,q=>(show False from q).elim
end
structure Ends.le(N N':Ends):Prop where
 nx:∀Z g,N.nx Z g->N'.nx Z g
 rt:∀d g,N.rt d g->N'.rt d g
 bk:∀Z g,N.bk Z g->N'.bk Z g
 ct:∀Z g,N.ct Z g->N'.ct Z g
theorem GD{P:eT}(hP:i7 P){N N':Ends}{E E':KX}(h:N.le N')(hx:∀x g,E x g->E' x g){Z:S}:∀(hs:List (Str×ME)) x g,sJ P N Z E hs x g->sJ P N' Z E' hs x g
 |[],x,g,q=>hx x g q
 |(y,e)::r,x,g,q=>by
  unfold sJ at q ⊢;split
  ·rename_i hh;rw[aF hh] at q;exact b9 hP e _ _ _ _ _ _ h.rt (λ_ _ z=>z) q
  ·rename_i hh;rw[az hh] at q;exact GD hP h hx r x g q
theorem wpS_mono{P:eT}(hP:i7 P):∀(s:MS) (N N':Ends) (Z:S) (g:G) (E E':KX),N.le N'->(∀x g,E x g->E' x g)->wpS P s N Z g E->wpS P s N' Z g E'
 |.pass,N,N',Z,g,E,E',h,hx,q=>h.nx _ _ q
 |.seq a b,N,N',Z,g,E,E',h,hx,q=>wpS_mono hP a { N with nx:=λhU g1=>wpS P b N hU g1 E } { N' with nx:=λhU g1=>wpS P b N' hU g1 E' } _ _ _ _ ⟨λhU g1 q=>wpS_mono hP b _ _ _ _ _ _ h hx q,h.rt,h.bk,h.ct⟩ hx q
 |.expr e,N,N',Z,g,E,E',h,hx,q=>b9 hP e _ _ _ _ _ _ (λx g1 q=>h.nx _ _ q) hx q
 |.set i e,N,N',Z,g,E,E',h,hx,q=>b9 hP e _ _ _ _ _ _ (λx g1 q=>h.nx _ _ q) hx q
 |.kZ t e,N,N',Z,g,E,E',h,hx,q=>b9 hP e _ _ _ _ _ _ (λx g1 q=>u9 (λZ q=>h.nx _ _ q) q) hx q
 |.dM o i v,N,N',Z,g,E,E',h,hx,q=>b9 hP v _ _ _ _ _ _ (λx g1 q=>b9 hP o _ _ _ _ _ _ (λy g2 q=>b9 hP i _ _ _ _ _ _ (λz g3 q=>T6 (λg q=>h.nx _ _ q) q) hx q) hx q) hx q
 |.gM f cs o v,N,N',Z,g,E,E',h,hx,q=>b9 hP v _ _ _ _ _ _ (λx g1 q=>b9 hP o _ _ _ _ _ _ (λy g2 q=>Zr (λg q=>h.nx _ _ q) q) hx q) hx q
 | .uZ f cs o v,N,N',Z,g,E,E',h,hx,q=>b9 hP o _ _ _ _ _ _ (λy g1 q=>by
   obtain⟨a,c,fs,x,q1,q2,q3,q4,q⟩:=q;exact ⟨a,c,fs,x,q1,q2,q3,q4,b9 hP v _ _ _ _ _ _ (λz g3 q=>t8 (λw g4 q=>by
    obtain⟨qj,k1,k2,k3⟩:=q;exact ⟨qj,k1,k2,h.nx _ _ k3⟩) q) hx q⟩) hx q
 |.vR o1 i1 o2 i2 e,N,N',Z,g,E,E',h,hx,q=>b9 hP e _ _ _ _ _ _ (λx g1 q=>let ⟨u,v,q1,q⟩:=q;⟨u,v,q1,b9 hP o1 _ _ _ _ _ _ (λy g2 q=>b9 hP i1 _ _ _ _ _ _ (λz g3 q=>T6 (λg4 q=>b9 hP o2 _ _ _ _ _ _ (λy g5 q=>b9 hP i2 _ _ _ _ _ _ (λz g6 q=>T6 (λg q=>h.nx _ _ q) q) hx q) hx q) q) hx q) hx q⟩) hx q
 |.jC i p v,N,N',Z,g,E,E',h,hx,q=>let ⟨x,q1,q⟩:=q;⟨x,q1,b9 hP v _ _ _ _ _ _ (λz g1 q=>t8 (λw g2 q=>h.nx _ _ q) q) hx q⟩
 |.ifs c a b,N,N',Z,g,E,E',h,hx,q=>n8 hP c _ _ _ _ _ _ (λt g1 q=>E5 (λq=>wpS_mono hP a _ _ _ _ _ _ h hx q) (λq=>wpS_mono hP b _ _ _ _ _ _ h hx q) q) hx q
 |.dS t it b,N,N',Z,g,E,E',h,hx,q=>w5 hP it _ _ _ _ _ _ (λk g1 q=>Zz h.nx (λx N2 Z g q=>u9 (λcb q=>wpS_mono hP b { N with nx:=N2,ct:=N2,bk:=N.nx } { N' with nx:=N2,ct:=N2,bk:=N'.nx } _ _ _ _ ⟨λ_ _ z=>z,h.rt,h.nx,λ_ _ z=>z⟩ hx q) q) q) hx q
 |.jn c b,N,N',Z,g,E,E',h,hx,q=>by
  obtain⟨W,w0,q⟩:=q;refine⟨W,w0,λm Z g w=>n8 hP c _ _ _ _ _ _ (λt g1 q=>E5 (λq=>?_) (h.nx _ _) q) hx (q m Z g w)⟩;obtain⟨N2,a,q⟩:=q;exact⟨N2,a,wpS_mono hP b { N with nx:=N2,ct:=N2,bk:=N.nx } { N' with nx:=N2,ct:=N2,bk:=N'.nx } _ _ _ _ ⟨λ_ _ z=>z,h.rt,h.nx,λ_ _ z=>z⟩ hx q⟩
 |.ret e,N,N',Z,g,E,E',h,hx,q=>b9 hP e _ _ _ _ _ _ h.rt hx q
 |.pF,N,N',Z,g,E,E',h,hx,q=>h.rt _ _ q
 |.brk,N,N',Z,g,E,E',h,hx,q=>h.bk _ _ q
 |.cont,N,N',Z,g,E,E',h,hx,q=>h.ct _ _ q
 |.raise x es,N,N',Z,g,E,E',h,hx,q=>w6 hP es _ _ _ _ _ _ (λvs g1 q=>⟨q.1,hx _ _ q.2⟩) hx q
 |.BS b hs,N,N',Z,g,E,E',h,hx,q=>wpS_mono hP b _ _ _ _ _ _ h (λx g q=>GD hP h hx hs x g q) q
theorem b8(T:Nat->Option aW):∀k,i7 (d4 T k)
 |0=>λf xs g Q Q' E E' h hx q=>q.elim
 |k+1=>λf xs g Q Q' E E' h hx q=>by
  obtain⟨m,a,b,q⟩:=q;exact⟨m,a,b,wpS_mono (b8 T k) m.body ⟨λ_ g'=>Q .bD g',Q,λ_ _=>False,λ_ _=>False⟩ _ _ _ _ _ ⟨λ_ _ z=>h _ _ z,h,λ_ _ z=>z,λ_ _ z=>z⟩ hx q⟩
end M

namespace M
open PySem L2
noncomputable def TupAt(K:PySem.W.Frag)(H:Hp)(a:Addr)(vs:List V):Prop :=
 H a=some (.tup vs)\/∃(o:Obj) (aT:Array Value) (n:Nat),K.lookup a=some o/\o.cls=.type "tuple"/\o.dict=none/\o.data=.seq aT n/\aT.size<=sizeLine/\Vals vs aT.toList
theorem TupAt.d{K:PySem.W.Frag}{H:Hp}{a:Addr}{vs:List V}(h:TupAt K H a vs):CT K H a vs:=h
theorem TupAt.sq{K:PySem.W.Frag}{H:Hp}{a:Addr}{vs:List V}(h:TupAt K H a vs):gX K H a vs:=h.d.sq
mutual
inductive f7(K:PySem.W.Frag)(ρ:List Addr)(H:Hp):D->V->Prop
 |bD:f7 K ρ H .bD .bD
 |bl (b:Bool):f7 K ρ H (.bl b) (.bl b)
 |int (i:Int):f7 K ρ H (.int i) (.int i)
 |str (x:Str):f7 K ρ H (.str x) (.str x)
 |ty (n:String):f7 K ρ H (.ty n) (.ty n)
 |ref {i:Nat} {a:Addr} (h:ρ[i]?=some a):f7 K ρ H (.ref i) (.ref a)
 |tup {l:List D} {a:Addr} {vs:List V} (h:TupAt K H a vs) (r:c6 K ρ H l vs):f7 K ρ H (.tup l) (.ref a)
inductive c6(K:PySem.W.Frag)(ρ:List Addr)(H:Hp):List D->List V->Prop
 |nil:c6 K ρ H [] []
 |cons {d:D} {v:V} {ds:List D} {vs:List V} (h:f7 K ρ H d v) (r:c6 K ρ H ds vs):c6 K ρ H (d::ds) (v::vs)
end
structure Ext(ρ:List Addr)(H:Hp)(bA:List Addr)(H':Hp):Prop where
 pre:∃more,bA=ρ++more
 tup:∀a xs,H a=some (.tup xs)->H' a=some (.tup xs)
theorem Ext.refl(ρ:List Addr)(H:Hp):Ext ρ H ρ H:=⟨⟨[],by simp⟩,λ_ _ h=>h⟩
theorem Ext.trans{ρ H bJ H1 et H2}(a:Ext ρ H bJ H1)(b:Ext bJ H1 et H2):Ext ρ H et H2:=by
 obtain⟨⟨m,rfl⟩,t⟩:=a;obtain⟨⟨m',rfl⟩,t'⟩:=b;exact⟨⟨m++m',by simp⟩,λx xs h=>t' _ _ (t _ _ h)⟩
theorem Ext.get{ρ H bA H'}(e:Ext ρ H bA H'){i:Nat}{a:Addr}(h:ρ[i]?=some a):bA[i]?=some a:=by
 obtain⟨⟨m,rfl⟩,_⟩:=e;rw[aA (aj.mp h).1];exact h
theorem TupAt.ext{K ρ H bA H'}(e:Ext ρ H bA H'){a:Addr}{vs:List V}(h:TupAt K H a vs):TupAt K H' a vs:=h.elim (λz=>.inl (e.tup _ _ z)) .inr
mutual
theorem f7.ext{K ρ H bA H'}(e:Ext ρ H bA H'):∀{d v},f7 K ρ H d v->f7 K bA H' d v
 |_,_,.bD=>.bD
 |_,_,.bl b=>.bl b
 |_,_,.int i=>.int i
 |_,_,.str x=>.str x
 |_,_,.ty n=>.ty n
 |_,_,.ref h=>.ref (e.get h)
 |_,_,.tup h r=>.tup (h.ext e) (c6.ext e r)
theorem c6.ext{K ρ H bA H'}(e:Ext ρ H bA H'):∀{ds vs},c6 K ρ H ds vs->c6 K bA H' ds vs
 |_,_,.nil=>.nil
 |_,_,.cons h r=>.cons (f7.ext e h) (c6.ext e r)
end
theorem c6.length{K ρ H}:∀{ds vs},c6 K ρ H ds vs->ds.length=vs.length
 |_,_,.nil=>rfl
 |_,_,.cons _ r=>by simp[c6.length r]
theorem c6.get{K ρ H}:∀{ds vs} {i:Nat} {d:D},c6 K ρ H ds vs->ds[i]?=some d->∃v,vs[i]?=some v/\f7 K ρ H d v
 |_,_,_,_,.nil,h=>by simp at h
 |_,_,0,_,.cons h _,e=>by simp at e;subst e;exact⟨_,rfl,h⟩
 |_,_,i+1,d,.cons _ r,e=>by
  obtain⟨v,h1,h2⟩:=c6.get (i:=i) (d:=d) r (by simpa using e);exact⟨v,by simpa using h1,h2⟩
theorem c6.set{K ρ H}{d:D}{v:V}(h:f7 K ρ H d v):∀{ds vs} (i:Nat),c6 K ρ H ds vs->c6 K ρ H (ds.set i d) (vs.set i v)
 |_,_,_,.nil=>.nil
 |_,_,0,.cons _ r=>.cons h r
 |_,_,i+1,.cons q r=>.cons q (c6.set h i r)
theorem c6.append{K ρ H}:∀{ds es:List D} {vs ws:List V},c6 K ρ H ds vs->c6 K ρ H es ws->c6 K ρ H (ds++es) (vs++ws)
 |_,_,_,_,.nil,s=>s
 |_,_,_,_,.cons h r,s=>.cons h (c6.append r s)
theorem c6.rep{K ρ H}{ds:List D}{vs:List V}(r:c6 K ρ H ds vs):∀n,c6 K ρ H (List.replicate n ds).flatten (List.replicate n vs).flatten
 |0=>.nil
 |n+1=>by
  rw[bS,bS,cP,cP];exact c6.append r (c6.rep r n)
theorem c6.erase{K ρ H}:∀{ds:List D} {vs:List V} (i:Nat),c6 K ρ H ds vs->c6 K ρ H (ds.eraseIdx i) (vs.eraseIdx i)
 |_,_,_,.nil=>.nil
 |_,_,0,.cons _ r=>r
 |_,_,i+1,.cons q r=>.cons q (c6.erase i r)
theorem c6.take{K ρ H}:∀{ds:List D} {vs:List V} (n:Nat),c6 K ρ H ds vs->c6 K ρ H (ds.take n) (vs.take n)
 |_,_,0,_=>.nil
 |_,_,_+1,.nil=>.nil
 |_,_,n+1,.cons h r=>.cons h (c6.take n r)
theorem c6.drop{K ρ H}:∀{ds:List D} {vs:List V} (n:Nat),c6 K ρ H ds vs->c6 K ρ H (ds.drop n) (vs.drop n)
 |_,_,0,r=>r
 |_,_,_+1,.nil=>.nil
 |_,_,n+1,.cons _ r=>c6.drop n r
theorem c6.reverse{K ρ H}:∀{ds:List D} {vs:List V},c6 K ρ H ds vs->c6 K ρ H ds.reverse vs.reverse
 |_,_,.nil=>.nil
 |_,_,.cons h r=>by
  rw[fY,fY];exact c6.append (c6.reverse r) (.cons h .nil)
theorem c6.cut{K ρ H}{ds:List D}{vs:List V}(r:c6 K ρ H ds vs)(lo hi:Option Int):c6 K ρ H (M.cut ds lo hi) (S7 vs lo hi):=by
 unfold M.cut S7;rw[r.length];exact(r.drop _).take _
theorem c6.ints{K ρ H}:∀{ns:List Int} {vs:List V},c6 K ρ H (ns.map D.int) vs->vs=ns.map V.int
 |[],_,.nil=>rfl
 |_::_,_,.cons h r=>by cases h;rw[c6.ints r];rfl
theorem c6.ofInts{K ρ H}:∀(ns:List Int),c6 K ρ H (ns.map D.int) (ns.map V.int)
 |[]=>.nil
 |n::r=>.cons (.int n) (c6.ofInts r)
noncomputable def rQ(K:PySem.W.Frag)(H:Hp)(a:Addr)(vs:List V):Prop :=
 (∃o,H a=some (.jb o (.lst vs)))\/∃(o:Obj) (aT:Array Value) (n:Nat),K.lookup a=some o/\o.cls=.type "list"/\o.dict=none/\o.data=.seq aT n/\aT.size<=sizeLine/\Vals vs aT.toList
theorem rQ.sq{K:PySem.W.Frag}{H:Hp}{a:Addr}{vs:List V}(h:rQ K H a vs):fm K H a vs:=h.elim (λ⟨o,z⟩=>.inl (.inr ⟨o,z⟩)) .inr
inductive i6{α:Type}(K:PySem.W.Frag)(ρ:List Addr)(H:Hp):List (α×D)->List (α×V)->Prop
 |nil:i6 K ρ H [] []
 |cons {k:α} {d:D} {v:V} {ds:List (α×D)} {vs:List (α×V)} (h:f7 K ρ H d v) (r:i6 K ρ H ds vs):i6 K ρ H ((k,d)::ds) ((k,v)::vs)
theorem i6.ext{α:Type}{K ρ H bA H'}(e:Ext ρ H bA H'){ds:List (α×D)}{vs:List (α×V)}(h:i6 K ρ H ds vs):i6 K bA H' ds vs:=by
 induction h with
 |nil=>exact .nil
 |cons h r ih=>exact .cons (h.ext e) ih
theorem i6.length{α:Type}{K ρ H}{ds:List (α×D)}{vs:List (α×V)}(h:i6 K ρ H ds vs):ds.length=vs.length:=by
 induction h with
 |nil=>rfl
 |cons h r ih=>simp[ih]
noncomputable def qE(K:PySem.W.Frag)(ρ:List Addr)(H:Hp):Option D->Option V->Prop
 |some d,some v=>f7 K ρ H d v
 |none,none=>True
 |_,_=>False
theorem i6.val{K ρ H}:∀{ds vs} (k:Key),i6 K ρ H ds vs->qE K ρ H (q9 ds k) (K2 vs k)
 |_,_,k,.nil=>trivial
 |_,_,k,.cons (k:=k') h r=>by
  unfold q9 K2;rw[dW,dW];by_cases e:k'=k
  ·simp only[e,decide_true];exact h
  ·simp only[e,decide_false];exact i6.val k r
theorem i6.Jx{K ρ H}:∀{ds vs} (k:Key),i6 K ρ H ds vs->(ds.any λkv=>decide (kv.1=k))=(vs.any λkv=>decide (kv.1=k))
 |_,_,k,.nil=>rfl
 |_,_,k,.cons h r=>by simp only[List.any_cons,i6.Jx k r]
theorem i6.snoc{K ρ H}{k:Key}{d:D}{v:V}(h:f7 K ρ H d v):∀{ds vs},i6 K ρ H ds vs->i6 K ρ H (ds++[(k,d)]) (vs++[(k,v)])
 |_,_,.nil=>.cons h .nil
 |_,_,.cons q r=>.cons q (i6.snoc h r)
theorem i6.CM{K ρ H}{k:Key}{d:D}{v:V}(h:f7 K ρ H d v):∀{ds vs},i6 K ρ H ds vs->i6 K ρ H (ds.map λkv=>if kv.1=k then(kv.1,d) else kv) (vs.map λkv=>if kv.1=k then(kv.1,v) else kv)
 |_,_,.nil=>.nil
 |_,_,.cons (k:=k') q r=>by
  simp only[List.map_cons];by_cases e:k'=k
  ·rw[aF e,aF e];exact .cons h (i6.CM h r)
  ·rw[az e,az e];exact .cons q (i6.CM h r)
theorem i6.put{K ρ H}{k:Key}{d:D}{v:V}(h:f7 K ρ H d v){ds vs}(r:i6 K ρ H ds vs):i6 K ρ H (putD ds k d) (putK vs k v):=by
 unfold putD putK;rw[r.Jx k];split
 ·exact r.CM h
 ·exact r.snoc h
noncomputable abbrev u4(K:PySem.W.Frag)(x:Str)(C:Addr):Prop:=PySem.W.nsIn K mainGlobals x=some (some (.ref C))
theorem i6.look{K ρ H}{ds:List (Str×D)}{vs:List (Str×V)}(f:Str)(h:i6 K ρ H ds vs):qE K ρ H (ds.lookup f) (vs.lookup f):=by
 induction h with
 |nil=>trivial
 |cons h r ih =>
  rename_i k d v ds vs;rw[cw,cw];cases f==k
  ·exact ih
  ·exact h
theorem i6.A4{K ρ H}{f:Str}{d:D}{v:V}(h:f7 K ρ H d v){ds:List (Str×D)}{vs:List (Str×V)}(r:i6 K ρ H ds vs):i6 K ρ H (k6 f d ds) (L2.A4 f v vs):=by
 induction r with
 |nil=>exact .cons h .nil
 |cons q r ih =>
  unfold k6 L2.A4;split
  ·exact .cons h r
  ·exact .cons q ih
theorem HA{f:Str}{d:D}{p:Str->Prop}(hf:p f):∀{ds:List (Str×D)},(∀x∈ds,p x.1)->∀x∈k6 f d ds,p x.1
 |[],_,x,hx=>by
  have:x=(f,d):=by simpa[k6] using hx
  rw[this];exact hf
 |(k,e)::r,h,x,hx=>by
  unfold k6 at hx;split at hx
  ·rcases aH.mp hx with z|z
   ·rw[z];exact h (k,e) (by simp)
   ·exact h x (by simp[z])
  ·rcases aH.mp hx with z|z
   ·rw[z];exact h (k,e) (by simp)
   ·exact HA hf (λy hy=>h y (by simp[hy])) x z
noncomputable def OH(K:PySem.W.Frag)(ρ:List Addr)(H:Hp):O->HO->Prop
 |.lst l,.lst vs=>c6 K ρ H l vs
 |.dC kvs,.dK vs=>i6 K ρ H kvs vs
 |.set S n,.set S' n'=>S=S'/\n=n'
 |.ins c fs,.ins C _ vs=>u4 K c C/\jh K C/\i6 K ρ H fs vs/\∀x∈fs,B5 K C x.1
 |_,_=>False
theorem OH.ext{K ρ H bA H'}(e:Ext ρ H bA H'){o:O}{u:HO}(h:OH K ρ H o u):OH K bA H' o u:=by
 cases o<;>cases u<;>first|exact h.elim|exact c6.ext e h|exact i6.ext e h|exact⟨h.1,h.2.1,h.2.2.1.ext e,h.2.2.2⟩|exact h
theorem OH.rZ{K ρ H}{o:O}{xs:List V}(h:OH K ρ H o (.tup xs)):False:=by cases o<;>exact h
theorem OH.We{K ρ H}{o:O}{ob:Obj}{u:HO}(h:OH K ρ H o (.jb ob u)):False:=by cases o<;>exact h
noncomputable def F9(K:PySem.W.Frag)(ρ:List Addr)(H:Hp)(o:O)(a:Addr):Prop:=match o with
 |.nz l=>∃vs,rQ K H a vs/\c6 K ρ H l vs
 |o=>∃u,H a=some u/\OH K ρ H o u
theorem F9.of{K ρ H}{o:O}{a:Addr}{u:HO}(hu:H a=some u)(h:OH K ρ H o u):F9 K ρ H o a:=by
 cases o<;>first|exact⟨u,hu,h⟩|(cases u<;>exact h.elim)
theorem F9.inv{K ρ H}{o:O}{a:Addr}(m:o.mut=true)(h:F9 K ρ H o a):∃u,H a=some u/\OH K ρ H o u:=by
 cases o<;>first|exact h|cases m
theorem F9.lst{K ρ H}{l:List D}{a:Addr}(h:F9 K ρ H (.lst l) a):∃vs,H a=some (.lst vs)/\c6 K ρ H l vs:=by
 obtain⟨u,h1,h2⟩:=h;cases u<;>first|exact⟨_,h1,h2⟩|exact h2.elim
theorem F9.dC{K ρ H}{l:List (Key×D)}{a:Addr}(h:F9 K ρ H (.dC l) a):∃vs,H a=some (.dK vs)/\i6 K ρ H l vs:=by
 obtain⟨u,h1,h2⟩:=h;cases u<;>first|exact⟨_,h1,h2⟩|exact h2.elim
theorem F9.set{K ρ H}{S:Int->Bool}{n:Nat}{a:Addr}(h:F9 K ρ H (.set S n) a):H a=some (.set S n):=by
 obtain⟨u,h1,h2⟩:=h;cases u<;>first|(obtain⟨rfl,rfl⟩:=(show _/\_ from h2);exact h1)|exact h2.elim
theorem F9.ins{K ρ H}{c:Str}{fs:List (Str×D)}{a:Addr}(h:F9 K ρ H (.ins c fs) a):∃C dx vs,H a=some (.ins C dx vs)/\u4 K c C/\jh K C/\i6 K ρ H fs vs/\∀x∈fs,B5 K C x.1:=by
 obtain⟨u,h1,h2⟩:=h;cases u<;>first|exact⟨_,_,_,h1,h2⟩|exact h2.elim
structure Rl(K:PySem.W.Frag)(ρ:List Addr)(g:G)(H:Hp):Prop where
 len:ρ.length=g.length
 obj:∀(i:Nat) o a,g[i]?=some o->ρ[i]?=some a->F9 K ρ H o a
 nd:∀(i j:Nat) o o' a,g[i]?=some o->g[j]?=some o'->o.mut=true->o'.mut=true->ρ[i]?=some a->ρ[j]?=some a->i=j
section
variable{K:PySem.W.Frag}{ρ:List Addr}{g:G}{H:Hp}
theorem Rl.lst(R:Rl K ρ g H){i:Nat}{l:List D}{a:Addr}(h:g[i]?=some (.lst l))(ha:ρ[i]?=some a):∃vs,H a=some (.lst vs)/\c6 K ρ H l vs:=(R.obj _ _ _ h ha).lst
theorem Rl.dC(R:Rl K ρ g H){i:Nat}{l:List (Key×D)}{a:Addr}(h:g[i]?=some (.dC l))(ha:ρ[i]?=some a):∃vs,H a=some (.dK vs)/\i6 K ρ H l vs:=(R.obj _ _ _ h ha).dC
theorem Rl.set(R:Rl K ρ g H){i:Nat}{S:Int->Bool}{n:Nat}{a:Addr}(h:g[i]?=some (.set S n))(ha:ρ[i]?=some a):H a=some (.set S n):=(R.obj _ _ _ h ha).set
theorem Rl.ins(R:Rl K ρ g H){i:Nat}{c:Str}{fs:List (Str×D)}{a:Addr}(h:g[i]?=some (.ins c fs))(ha:ρ[i]?=some a):∃C dx vs,H a=some (.ins C dx vs)/\u4 K c C/\jh K C/\i6 K ρ H fs vs/\∀x∈fs,B5 K C x.1:=(R.obj _ _ _ h ha).ins
theorem Rl.items(R:Rl K ρ g H){i:Nat}{l:List D}{a:Addr}(h:d7 g i=some l)(ha:ρ[i]?=some a):∃vs,fm K H a vs/\c6 K ρ H l vs:=by
 cases e:g[i]? with
 |none=>rw[d7,e] at h;cases h
 |some o =>
  rw[d7,e] at h;have q:=R.obj _ _ _ e ha;cases o with
  |lst m=>cases h;obtain⟨vs,z,r⟩:=q.lst;exact⟨vs,fm.of z,r⟩
  |nz m=>cases h;obtain⟨vs,z,r⟩:=q;exact⟨vs,z.sq,r⟩
  |_=>cases h
theorem A6{p:Addr}{o:HO}(hp:H p=none):Ext ρ H ρ (upd H p o):=⟨⟨[],by simp⟩,λa xs h=>by rw[i0 (k9 h hp)];exact h⟩
theorem rQ.upd{p a:Addr}{o:HO}{vs:List V}(h:rQ K H a vs)(hp:∀ob u,H p≠some (.jb ob u)):rQ K (upd H p o) a vs:=by
 rcases h with⟨ob,z⟩|z
 ·refine .inl ⟨ob,?_⟩;rw[i0 ?_]
  ·exact z
  ·intro e;subst e;exact hp _ _ z
 ·exact .inr z
theorem F9.upd{p a:Addr}{o:O}{u:HO}{bA:List Addr}(h:F9 K ρ H o a)(dw:o.mut=true->a≠p)(hp:∀ob u,H p≠some (.jb ob u))(e:Ext ρ H bA (L2.upd H p u)):F9 K bA (L2.upd H p u) o a:=by
 cases hm:o.mut with
 |true =>
  obtain⟨u',h1,h2⟩:=h.inv hm;exact .of (by rw[i0 (dw hm)];exact h1) (h2.ext e)
 |false =>
  cases o<;>first|cases hm|skip
  obtain⟨vs,z,r⟩:=h;exact⟨vs,z.upd hp,r.ext e⟩
theorem Rl.grow{p:Addr}{o:HO}(R:Rl K ρ g H)(hp:H p=none):Rl K ρ g (upd H p o):=by
 have e:Ext ρ H ρ (upd H p o):=A6 hp;refine⟨R.len,λi ob a h1 h2=>?_,R.nd⟩;have q:=R.obj _ _ _ h1 h2;refine q.upd (λhm=>?_) (λob u z=>by rw[hp] at z;cases z) e;obtain⟨u,h1,_⟩:=q.inv hm;exact k9 h1 hp
theorem Rl.C2(R:Rl K ρ g H)(p:Addr):(ρ++[p])[g.length]?=some p:=by rw[<- R.len];simp
theorem M5{p:Addr}{o:HO}(hp:H p=none):Ext ρ H (ρ++[p]) (upd H p o):=⟨⟨[p],rfl⟩,(A6 (ρ:=ρ) hp).tup⟩
theorem Rl.new{p:Addr}{o:O}{u:HO}(R:Rl K ρ g H)(hp:H p=none)(r:OH K ρ H o u):Rl K (ρ++[p]) (g++[o]) (upd H p u):=by
 have e:Ext ρ H (ρ++[p]) (upd H p u):=M5 hp;have old:∀{i:Nat} {ob:O} {a:Addr},g[i]?=some ob->(ρ++[p])[i]?=some a->ρ[i]?=some a:=λ{i ob a} h1 h2=>by
  rw[aA (by rw[R.len];exact(aj.mp h1).1)] at h2;exact h2
 have split:∀{i:Nat} {ob:O},(g++[o])[i]?=some ob->g[i]?=some ob\/(i=g.length/\ob=o):=λ{i ob} h=>by
  rcases eG i g.length with q|q|q
  ·rw[aA q] at h;exact .inl h
  ·subst q;simp at h;exact .inr ⟨rfl,h.symm⟩
  ·rw[aX (by simp;omega)] at h;cases h
 refine⟨by simp[R.len],λi ob a h1 h2=>?_,λi j o1 o2 a h1 h2 m1 m2 h3 h4=>?_⟩
 ·rcases split h1 with q|⟨rfl,rfl⟩
  ·have z:=R.obj _ _ _ q (old q h2);refine z.upd (λhm=>?_) (λob u z=>by rw[hp] at z;cases z) e;obtain⟨u,h1,_⟩:=z.inv hm;exact k9 h1 hp
  ·rw[R.C2] at h2;cases h2;exact .of s9 (r.ext e)
 ·have nq:∀{i:Nat} {o:O} {a:Addr},g[i]?=some o->o.mut=true->ρ[i]?=some a->a≠p:=λ{i o a} h1 hm h2=>by
   obtain⟨u,z,_⟩:=(R.obj _ _ _ h1 h2).inv hm;exact k9 z hp
  rcases split h1 with q|⟨rfl,_⟩
  ·rcases split h2 with q'|⟨rfl,_⟩
   ·exact R.nd _ _ _ _ _ q q' m1 m2 (old q h3) (old q' h4)
   ·rw[R.C2] at h4;cases h4;exact absurd rfl (nq q m1 (old q h3))
  ·rcases split h2 with q'|⟨rfl,_⟩
   ·rw[R.C2] at h3;cases h3;exact absurd rfl (nq q' m2 (old q' h4))
   ·rfl
theorem Rl.alloc{p:Addr}{l:List D}{vs:List V}(R:Rl K ρ g H)(hp:H p=none)(r:c6 K ρ H l vs):Rl K (ρ++[p]) (g++[.lst l]) (upd H p (.lst vs)):=R.new hp r
theorem Rl.put{i:Nat}{a:Addr}{o o':O}{u:HO}(R:Rl K ρ g H)(h:g[i]?=some o)(hm:o.mut=true)(ha:ρ[i]?=some a)(r:OH K ρ H o' u) :
  Rl K ρ (g.set i o') (upd H a u)/\Ext ρ H ρ (upd H a u):=by
 obtain⟨u0,z0,DQ⟩:=(R.obj _ _ _ h ha).inv hm;have e:Ext ρ H ρ (upd H a u):=⟨⟨[],by simp⟩,λb xs q=>by rw[i0];exact q;intro z;subst z;rw[z0] at q;cases q;exact DQ.rZ⟩
 refine⟨⟨by simp[R.len],λj ob b h1 h2=>?_,λj k o1 o2 b h1 h2 m1 m2 h3 h4=>?_⟩,e⟩
 ·by_cases iQ:i=j
  ·subst iQ;rw[ha] at h2;cases h2;have hi:i<g.length:=(aj.mp h).1;rw[aR hi] at h1;cases h1;exact .of s9 (r.ext e)
  ·rw[aw iQ] at h1;refine(R.obj _ _ _ h1 h2).upd (λrg ez=>?_) (λob u z=>by rw[z0] at z;cases z;exact DQ.We) e;subst ez;exact iQ (R.nd _ _ _ _ _ h h1 hm rg ha h2)
 ·have back:∀{j:Nat} {m:O},(g.set i o')[j]?=some m->m.mut=true->∃m',g[j]?=some m'/\m'.mut=true:=λ{j m} q rg=>by
   by_cases iQ:i=j
   ·subst iQ;exact⟨o,h,hm⟩
   ·rw[aw iQ] at q;exact⟨m,q,rg⟩
  obtain⟨_,q1,n1⟩:=back h1 m1;obtain⟨_,q2,n2⟩:=back h2 m2;exact R.nd _ _ _ _ _ q1 q2 n1 n2 h3 h4
theorem Rl.write{i:Nat}{a:Addr}{l l':List D}{vs:List V}(R:Rl K ρ g H)(h:g[i]?=some (.lst l))(ha:ρ[i]?=some a)(r:c6 K ρ H l' vs) :
  Rl K ρ (g.set i (.lst l')) (upd H a (.lst vs))/\Ext ρ H ρ (upd H a (.lst vs)):=R.put h rfl ha r
end
structure n5(K:PySem.W.Frag)(ρ:List Addr)(H:Hp)(Z:S)(bR:St):Prop where
 len:Z.length=bR.length
 val:∀(i:Nat) d,Z[i]?=some (some d)->∃v,bR[i]?=some (some v)/\f7 K ρ H d v
section
variable{K:PySem.W.Frag}{ρ bA:List Addr}{H H':Hp}
theorem n5.ext{Z bR}(e:Ext ρ H bA H')(r:n5 K ρ H Z bR):n5 K bA H' Z bR:=⟨r.len,λi d h=>let ⟨v,a,b⟩:=r.val i d h;⟨v,a,b.ext e⟩⟩
theorem n5.set{Z bR d v}(r:n5 K ρ H Z bR)(i:Nat)(h:f7 K ρ H d v):n5 K ρ H (Z.set i (some d)) (bR.set i (some v)):=by
 refine⟨by simp[r.len],λj e q=>?_⟩;by_cases iQ:i=j
 ·subst iQ;have hi:i<Z.length:=by
   have:=(aj.mp q).1;simpa using this
  rw[aR hi] at q;cases q;exact⟨v,by rw[aR (by rw[<- r.len];exact hi)],h⟩
 ·rw[aw iQ] at q ⊢;exact r.val j e q
theorem n5.start{ds vs}{n:Nat}(r:c6 K ρ H ds vs):n5 K ρ H (ds.map some++List.replicate (n-ds.length) none) (vs.map some++List.replicate (n-vs.length) none):=by
 refine⟨by simp[r.length],λi d h=>?_⟩;by_cases hi:i<ds.length
 ·rw[aA (by simpa using hi),ak] at h;cases e:ds[i]? with
  |none=>rw[e] at h;cases h
  |some x =>
   rw[e] at h;cases h;obtain⟨v,h1,h2⟩:=r.get e;refine⟨v,?_,h2⟩;rw[aA (by rw[ag,<- r.length];exact hi),ak,h1]
   rfl
 ·rw[bu (by simpa using hi),cZ] at h;split at h<;>cases h
theorem n5.d6{Z bR}(r:n5 K ρ H Z bR)(d6:List Nat)(n:Nat):n5 K ρ H (C4 Z d6 n) (C0 bR d6 n):=by
 refine⟨by simp[C4,C0],λi d h=>?_⟩;unfold C4 at h;unfold C0;by_cases hi:i<d6.length
 ·rw[aA (by simpa using hi),ak,ai hi] at h;rw[aA (by simpa using hi),ak,ai hi];simp only[Option.map_some] at h ⊢;cases e:Z[d6[i]]? with
  |none=>rw[e] at h;cases h
  |some x =>
   rw[e] at h;have hx:x=some d:=aI h;subst hx;obtain⟨v,h1,h2⟩:=r.val _ _ e;exact⟨v,by rw[h1];rfl,h2⟩
 ·rw[bu (by simpa using hi),cZ] at h;split at h<;>cases h
end
end M

namespace M
open PySem L2 PySem.Spec PyProof.Rows
noncomputable def LQ(K:PySem.W.Frag)(ρ:List Addr)(H:Hp)(Q:VK):KD:=λd g'=>∀bA H' v,Ext ρ H bA H'->Rl K bA g' H'->f7 K bA H' d v->Q v H'
theorem LQ.ext{K ρ H bJ H1 Q d g}(e:Ext ρ H bJ H1)(h:LQ K ρ H Q d g):LQ K bJ H1 Q d g:=λbA H' v e' R r=>h bA H' v (e.trans e') R r
theorem LQ.now{K ρ H Q d g v}(h:LQ K ρ H Q d g)(R:Rl K ρ g H)(r:f7 K ρ H d v):Q v H:=h ρ H v (.refl _ _) R r
theorem LQ.new{K ρ H Q}{g:G}{l:List D}{vs:List V}{p:Addr}(h:LQ K ρ H Q (.ref g.length) (g++[.lst l]))(R:Rl K ρ g H)(hp:H p=none)(r:c6 K ρ H l vs):Q (.ref p) (upd H p (.lst vs)) :=
 h (ρ++[p]) _ _ (M5 hp) (R.alloc hp r) (.ref (R.C2 p))
theorem LQ.tup{K ρ H Q}{g:G}{l:List D}{vs:List V}{p:Addr}(h:LQ K ρ H Q (.tup l) g)(R:Rl K ρ g H)(hp:H p=none)(r:c6 K ρ H l vs):Q (.ref p) (upd H p (.tup vs)) :=
 h ρ _ _ (A6 hp) (R.grow hp) (.tup (.inl s9) (r.ext (A6 hp)))
noncomputable def r2(K:PySem.W.Frag)(p:Pr):R2:=λx y H Q=>∃d e g ρ,Rl K ρ g H/\f7 K ρ H d x/\f7 K ρ H e y/\cH p [d,e] g (LQ K ρ H Q)
noncomputable def r1(K:PySem.W.Frag)(p:Pr):V->Hp->VK->Prop:=λx H Q=>∃d g ρ,Rl K ρ g H/\f7 K ρ H d x/\cH p [d] g (LQ K ρ H Q)
noncomputable def rN(K:PySem.W.Frag)(p:Pr):List V->Hp->VK->Prop:=λxs H Q=>∃ds g ρ,Rl K ρ g H/\c6 K ρ H ds xs/\cH p ds g (LQ K ρ H Q)
theorem m5{n:Nat}(h:n<=100000):n<=sizeLine:=aG h (by decide)
theorem Bn{n:Nat}(h:n<100000):n<sizeLine:=ax h (by decide)
theorem f7.i8{K ρ H i v}(h:f7 K ρ H (.int i) v):v=.int i:=by cases h;rfl
theorem f7.C7{K ρ H i v}(h:f7 K ρ H (.str i) v):v=.str i:=by cases h;rfl
theorem f7.L4{K ρ H i v}(h:f7 K ρ H (.bl i) v):v=.bl i:=by cases h;rfl
theorem f7.xw{K ρ H v}(h:f7 K ρ H .bD v):v=.bD:=by cases h;rfl
theorem f7.OA{K ρ H n v}(h:f7 K ρ H (.ty n) v):v=.ty n:=by cases h;rfl
theorem f7.j8{K ρ H i v}(h:f7 K ρ H (.ref i) v):∃a,v=.ref a/\ρ[i]?=some a:=by cases h;exact⟨_,rfl,by assumption⟩
theorem f7.K3{K ρ H l v}(h:f7 K ρ H (.tup l) v):∃a vs,v=.ref a/\TupAt K H a vs/\c6 K ρ H l vs:=by cases h;exact⟨_,_,rfl,by assumption,by assumption⟩
theorem c6.one{K ρ H d vs}(h:c6 K ρ H [d] vs):∃v,vs=[v]/\f7 K ρ H d v:=by
 cases h with
 |cons r rr=>cases rr;exact⟨_,rfl,r⟩
theorem c6.two{K ρ H d e vs}(h:c6 K ρ H [d,e] vs):∃v w,vs=[v,w]/\f7 K ρ H d v/\f7 K ρ H e w:=by
 cases h with
 |cons r rr=>obtain⟨w,rfl,q⟩:=rr.one;exact⟨_,_,rfl,r,q⟩
theorem z9{a b c d:D}(h:[a,b]=[c,d]):a=c/\b=d:=by cases h;exact⟨rfl,rfl⟩
section
variable{X:Cx}
theorem Pz(op:Operator):fc X (binaryOp op) (r2 X.K (.bin op)):=by
 intro pins s Z H x y v u Q I rx ry h;obtain⟨d,e,g,ρ,R,rd,re,d',g',h,q⟩:=h;rcases h with⟨i,j,r,ex,ha,rfl,rfl⟩|⟨rfl,h⟩|⟨rfl,h⟩
 ·obtain⟨rfl,rfl⟩:=z9 ex;obtain rfl:=rd.i8;obtain rfl:=re.i8;have fin:=q.now R (.int r);cases op<;>first|exact(show False from ha).elim|skip
  ·cases ha;exact Px pins s Z H _ _ v u Q I rx ry ⟨i,j,rfl,rfl,fin⟩
  ·cases ha;exact PU pins s Z H _ _ v u Q I rx ry ⟨i,j,rfl,rfl,fin⟩
  ·obtain⟨hc,rfl⟩:=ha;exact PK pins s Z H _ _ v u Q I rx ry ⟨i,j,rfl,rfl,hc,fin⟩
  ·obtain⟨hc,rfl⟩:=ha;exact PJ pins s Z H _ _ v u Q I rx ry ⟨i,j,rfl,rfl,hc,fin⟩
  ·obtain⟨hc,rfl⟩:=ha;exact PL pins s Z H _ _ v u Q I rx ry ⟨i,j,rfl,rfl,hc,fin⟩
  ·obtain⟨hc,rfl⟩:=ha;exact PQ pins s Z H _ _ v u Q I rx ry ⟨i,j,rfl,rfl,hc,fin⟩
  ·cases ha;exact Wj pins s Z H _ _ v u Q I rx ry ⟨i,j,rfl,rfl,fin⟩
  ·cases ha;exact Py pins s Z H _ _ v u Q I rx ry ⟨i,j,rfl,rfl,fin⟩
  ·obtain⟨hc,rfl⟩:=ha;exact Sr pins s Z H _ _ v u Q I rx ry ⟨i,j,rfl,rfl,hc,fin⟩
 ·rcases h with⟨l,m,ex,hz,rfl,rfl⟩|⟨a,b,l,m,ex,ha,hb,hz,rfl,rfl⟩|⟨x',y',ex,hz,rfl,rfl⟩
  ·obtain⟨rfl,rfl⟩:=z9 ex;obtain⟨a,vs,rfl,ta,rs⟩:=rd.K3;obtain⟨b,ws,rfl,tb,rt⟩:=re.K3;refine a32 pins s Z H _ _ v u Q I rx ry ⟨a,b,vs,ws,rfl,rfl,ta.sq,tb.sq,?_,λz=>?_,λz=>?_,λp hp=>q.tup R hp (rs.append rt)⟩
   ·rw[<- rs.length,<- rt.length];exact m5 hz
   ·subst z;cases rs;exact q.now R (.tup tb rt)
   ·subst z;cases rt;rw[fo] at q;exact q.now R (.tup ta rs)
  ·obtain⟨rfl,rfl⟩:=z9 ex;obtain⟨a',rfl,ra⟩:=rd.j8;obtain⟨b',rfl,rb⟩:=re.j8;obtain⟨vs,z1,rs⟩:=R.lst ha ra;obtain⟨ws,z2,rt⟩:=R.lst hb rb;exact PD pins s Z H _ _ v u Q I rx ry ⟨_,_,vs,ws,rfl,rfl,z1,z2,by rw[<- rs.length,<- rt.length];exact m5 hz,λp hp=>q.new R hp (rs.append rt)⟩
  ·obtain⟨rfl,rfl⟩:=z9 ex;obtain rfl:=rd.C7;obtain rfl:=re.C7;exact Zk pins s Z H _ _ v u Q I rx ry ⟨_,_,rfl,rfl,m5 hz,q.now R (.str _)⟩
 ·rcases h with⟨a,l,n,ex,ha,h1,h2,hz,rfl,rfl⟩|⟨l,n,ex,dw,h1,h2,hz,rfl,rfl⟩
  rotate_left
  ·obtain⟨rfl,rfl⟩:=z9 ex;obtain⟨a',vs,rfl,ta,rs⟩:=rd.K3;obtain rfl:=re.i8;refine Su pins s Z H _ _ v u Q I rx ry ⟨_,_,vs,rfl,rfl,ta.sq,λz=>?_,h1,h2,by rw[<- rs.length];exact m5 hz,λz=>?_,λp hp=>q.tup R hp (rs.rep _)⟩
   ·subst z;cases rs;exact dw rfl
   ·subst z;have:(List.replicate (Int.toNat 1) l).flatten=l:=by simp
    rw[this] at q;exact q.now R (.tup ta rs)
  obtain⟨rfl,rfl⟩:=z9 ex;obtain⟨a',rfl,ra⟩:=rd.j8;obtain rfl:=re.i8;obtain⟨vs,z1,rs⟩:=R.lst ha ra;exact PN pins s Z H _ _ v u Q I rx ry ⟨_,_,vs,rfl,rfl,z1,by omega,by omega,by rw[<- rs.length];exact m5 hz,λp hp=>q.new R hp (rs.rep _)⟩
theorem Wk(op:UnaryOp):yc X (unaryOp op) (r1 X.K (.un op)):=by
 intro pins s Z H x v Q I rx h;obtain⟨d,g,ρ,R,rd,d',g',⟨rfl,i,ex,rfl,rfl⟩,q⟩:=h;cases ex;obtain rfl:=rd.i8;exact Rv pins s Z H _ v Q I rx ⟨_,rfl,q.now R (.int _)⟩
section
variable{ρ:List Addr}{g:G}{H:Hp}{pins:List (Addr×Obj)}{Z:L2.St}{s:Shared}
theorem HQ(I:Inv X pins Z H s)(R:Rl X.K ρ g H)(n:Nat)(ih:∀{d:D} {v:V} {u:Value} {p:PyData},rd g n d=some p->f7 X.K ρ H d v->RelV v u->∃as,Reads s.heap u p as/\p.depth<=n){l:List D}:∀{vs:List V} {us:List Value} {ps:List PyData},l.mapM (rd g n)=some ps->c6 X.K ρ H l vs->Vals vs us->∃as,ReadsAll s.heap us ps as/\PyData.depthAll ps<=n:=by
 induction l with
 |nil =>
  intro vs us ps h rs rv;cases rs;cases rv;simp at h;subst h;exact⟨_,.nil,cB _⟩
 |cons d l il =>
  intro vs us ps h rs rv;cases rs with
  |cons gP rs =>
   cases rv with
   |cons ru rv =>
    rw[List.mapM_cons] at h;cases e:rd g n d with
    |none=>rw[e] at h;cases h
    |some p =>
     rw[e] at h;cases e2:l.mapM (rd g n) with
     |none=>rw[e2] at h;cases h
     |some qs =>
      rw[e2] at h;cases h;obtain⟨as,q1,d1⟩:=ih e gP ru;obtain⟨bs,q2,d2⟩:=il e2 rs rv;refine⟨_,.cons q1 q2,?_⟩;simp only[PyData.depthAll];omega
theorem Q9(I:Inv X pins Z H s)(R:Rl X.K ρ g H)(n:Nat):∀{d:D} {v:V} {u:Value} {p:PyData},rd g n d=some p->f7 X.K ρ H d v->RelV v u->∃as,Reads s.heap u p as/\p.depth<=n:=by
 induction n with
 |zero =>
  intro d v u p h r ru;cases r with
  |bD=>simp only[rd] at h;cases h;cases ru;exact⟨_,.none,Nat.zero_le _⟩
  |bl b=>simp only[rd] at h;cases h;cases ru;exact⟨_,.bool b,Nat.zero_le _⟩
  |int i=>simp only[rd] at h;cases h;obtain⟨t,rfl⟩:=ru;exact⟨_,.int i t,Nat.zero_le _⟩
  |str x=>simp only[rd] at h;cases h;obtain⟨t,rfl⟩:=ru;exact⟨_,.str x t,Nat.zero_le _⟩
  |_=>simp only[rd] at h;cases h
 |succ n ih =>
  intro d v u p h r ru;cases r with
  |bD=>simp only[rd] at h;cases h;cases ru;exact⟨_,.none,Nat.zero_le _⟩
  |bl b=>simp only[rd] at h;cases h;cases ru;exact⟨_,.bool b,Nat.zero_le _⟩
  |int i=>simp only[rd] at h;cases h;obtain⟨t,rfl⟩:=ru;exact⟨_,.int i t,Nat.zero_le _⟩
  |str x=>simp only[rd] at h;cases h;obtain⟨t,rfl⟩:=ru;exact⟨_,.str x t,Nat.zero_le _⟩
  |ty x=>simp only[rd] at h;cases h
  |ref ha =>
   rename_i i a;simp only[rd] at h;cases e:d7 g i with
   |none=>rw[e] at h;cases h
   |some l =>
    rw[e] at h;dsimp only at h;cases e2:l.mapM (rd g n) with
    |none=>rw[e2] at h;cases h
    |some ps =>
     rw[e2] at h;cases h;cases ru;obtain⟨vs,hq,rs⟩:=R.items e ha;obtain⟨aT,rv,p,hz⟩:=I.list hq;obtain⟨as,q,hd⟩:=HQ I R n ih e2 rs rv;obtain⟨o,ho,hc,k,pU⟩:=p.isList;refine⟨_,.list ho hc pU (by simpa using q),?_⟩;simp only[PyData.depth];omega
  |tup ht rs =>
   rename_i l a vs;simp only[rd] at h;cases e2:l.mapM (rd g n) with
   |none=>rw[e2] at h;cases h
   |some ps =>
    rw[e2] at h;cases h;cases ru;obtain⟨aT,rv,pt,hz⟩:=I.tuple ht.sq;obtain⟨as,q,hd⟩:=HQ I R n ih e2 rs rv;obtain⟨o,ho,hc,k,pU⟩:=id pt;refine⟨_,.tuple ho hc pU (by simpa using q),?_⟩;simp only[PyData.depth];omega
end
end
section
variable{X:Cx}
theorem xG{α:Type}[BEq α][LawfulBEq α][DecidableEq α](a b:α):decide (a=b)=(a==b):=by
 by_cases e:a=b
 ·subst e;simp
 ·rw[aB e];exact(cV.mpr e).symm
theorem X5{K ρ H}{d:D}{v:V}{c:Key}(h:V6 d=some c)(r:f7 K ρ H d v):v=kV c:=by
 cases r<;>first|(cases h;rfl)|cases h
theorem qE.some{K ρ H}{o:Option V}{d:D}(h:qE K ρ H (some d) o):∃v,o=some v/\f7 K ρ H d v:=by
 cases o with
 |none=>exact h.elim
 |some v=>exact⟨v,rfl,h⟩
theorem qE.isSome{K ρ H}{o:Option V}{d:Option D}(h:qE K ρ H d o):d.isSome=o.isSome:=by
 cases o<;>cases d<;>first|rfl|exact h.elim
theorem JC{pins:List (Addr×Obj)}{s:Shared}{Z:L2.St}{H:Hp}{ρ:List Addr}{g:G}{d e:D}{x y:V}{v u:Value}{b:Bool}{Q:VK}(hu:X.A.units+100<cLine)(I:Inv X pins Z H s)(rx:RelV x v)(ry:RelV y u)(R:Rl X.K ρ g H)(gP:f7 X.K ρ H d x)(re:f7 X.K ρ H e y)(h:uI g d e b)(neg:Bool)(q:Q (.bl (xor neg b)) H):wpAny (model X.prog X.w) X.A (compareOp (if neg then .NotEq else .Eq) v u) (EP X pins Z Q) X.xe s:=by
 rcases h with⟨i,j,rfl,rfl,rfl⟩|⟨i,j,rfl,rfl,rfl⟩|⟨i,j,rfl,rfl,rfl⟩|⟨p,p',h1,h2,c1,c2,rfl⟩
 ·obtain rfl:=gP.i8;obtain rfl:=re.i8;cases neg
  ·exact Cj pins s Z H _ _ v u Q I rx ry ⟨rfl,by rw[xH];simpa[xG] using q⟩
  ·exact Ck pins s Z H _ _ v u Q I rx ry ⟨rfl,by rw[xH];simpa[xG] using q⟩
 ·obtain rfl:=gP.L4;obtain rfl:=re.L4;cases neg
  ·exact Cj pins s Z H _ _ v u Q I rx ry ⟨rfl,by rw[xu];simpa using q⟩
  ·exact Ck pins s Z H _ _ v u Q I rx ry ⟨rfl,by rw[xu];simpa using q⟩
 ·obtain rfl:=gP.C7;obtain rfl:=re.C7;cases neg
  ·exact Cj pins s Z H _ _ v u Q I rx ry ⟨rfl,by rw[xI];simpa[xG] using q⟩
  ·exact Ck pins s Z H _ _ v u Q I rx ry ⟨rfl,by rw[xI];simpa[xG] using q⟩
 ·obtain⟨as,q1,d1⟩:=Q9 I R 6 h1 gP rx;obtain⟨bs,q2,d2⟩:=Q9 I R 6 h2 re ry;have hr:X.A.units+min p.depth p'.depth<cLine:=by omega
  cases neg
  ·exact SeqAt.compareEq_reads q1 q2 c1 c2 hr ⟨.bl _,H,I,rfl,by simpa using q⟩
  ·exact SeqAt.compareNe_reads q1 q2 c1 c2 hr ⟨.bl _,H,I,rfl,by simpa using q⟩
theorem in_of{pins:List (Addr×Obj)}{s:Shared}{Z:L2.St}{H:Hp}{ρ:List Addr}{g:G}{d e:D}{x y:V}{v u:Value}{b:Bool}{Q:VK}(hu:X.A.units+100<cLine)(I:Inv X pins Z H s)(rx:RelV x v)(ry:RelV y u)(R:Rl X.K ρ g H)(gP:f7 X.K ρ H d x)(re:f7 X.K ρ H e y)(h:inR g d e b)(neg:Bool)(q:Q (.bl (xor neg b)) H):wpAny (model X.prog X.w) X.A (compareOp (if neg then .NotIn else .In) v u) (EP X pins Z Q) X.xe s:=by
 rcases h with⟨a,kvs,c,rfl,ha,hc,rfl⟩|⟨l,ps,p,h0,h1,h2,c1,c2,rfl⟩
 ·obtain⟨a',rfl,ra⟩:=re.j8;obtain⟨vs,z,rs⟩:=R.dC ha ra;have:=X5 hc gP;subst this;cases ry;rw[(rs.val c).isSome] at q;cases neg
  ·exact Ug (by omega) I (O5.k z) rx λs' I'=>⟨.bl _,H,I',rfl,by simpa using q⟩
  ·exact RL (by omega) I (O5.k z) rx λs' I'=>⟨.bl _,H,I',rfl,by simpa using q⟩
 ·obtain⟨as,q1,d1⟩:=Q9 I R 6 h2 gP rx;cases e with
  |tup m =>
   cases h0;have h3:rd g 7 (.tup l)=some (.tuple ps):=by simp only[rd];rw[show l.mapM (rd g 6)=some ps from h1];rfl
   obtain⟨bs,q2,d2⟩:=Q9 I R 7 h3 re ry;have hr:X.A.units+1+min (PyData.depthAll ps) p.depth<cLine:=by omega
   cases neg
   ·exact SeqAt.in_tuple_reads q2 q1 c1 c2 hr ⟨.bl _,H,I,rfl,by simpa using q⟩
   ·exact SeqAt.notIn_tuple_reads q2 q1 c1 c2 hr ⟨.bl _,H,I,rfl,by simpa using q⟩
  |ref a =>
   have h3:rd g 7 (.ref a)=some (.list ps):=by
    simp only[rd];rw[show d7 g a=some l from h0];dsimp only;rw[show l.mapM (rd g 6)=some ps from h1]
    rfl
   obtain⟨bs,q2,d2⟩:=Q9 I R 7 h3 re ry;have hr:X.A.units+1+min (PyData.depthAll ps) p.depth<cLine:=by omega
   cases neg
   ·exact SeqAt.in_list_reads q2 q1 c1 c2 hr ⟨.bl _,H,I,rfl,by simpa using q⟩
   ·exact SeqAt.notIn_list_reads q2 q1 c1 c2 hr ⟨.bl _,H,I,rfl,by simpa using q⟩
  |_=>cases h0
theorem X0(hu:X.A.units+100<cLine)(op:CmpOp):fc X (compareOp op) (r2 X.K (.cmp op)):=by
 intro pins s Z H x y v u Q I rx ry h;obtain⟨d,e,g,ρ,R,gP,re,d',g',⟨x',y',b,ex,h,rfl,rfl⟩,q⟩:=h;obtain⟨rfl,rfl⟩:=z9 ex;have fin:=q.now R (.bl b);have ng:∀{P:Int->Int->Bool},(∃i j,d=.int i/\e=.int j/\b=P i j)->∃i j,x=.int i/\y=.int j/\b=P i j:=λhh=>by
  obtain⟨i,j,z1,z2,z3⟩:=hh;exact⟨i,j,(z1▸gP).i8,(z2▸re).i8,z3⟩
 cases op
 ·exact JC hu I rx ry R gP re h false (by simpa using fin)
 ·exact JC hu I rx ry R gP re h true (by simpa using fin)
 ·obtain⟨i,j,e1,e2,e3⟩:=ng (P:=λi j=>decide (i<j)) h;exact Wi pins s Z H _ _ v u Q I rx ry ⟨i,j,e1,e2,by subst e3;exact fin⟩
 ·obtain⟨i,j,e1,e2,e3⟩:=ng (P:=λi j=>decide (i<=j)) h;exact Wh pins s Z H _ _ v u Q I rx ry ⟨i,j,e1,e2,by subst e3;exact fin⟩
 ·obtain⟨i,j,e1,e2,e3⟩:=ng (P:=λi j=>decide (j<i)) h;exact Wg pins s Z H _ _ v u Q I rx ry ⟨i,j,e1,e2,by subst e3;exact fin⟩
 ·obtain⟨i,j,e1,e2,e3⟩:=ng (P:=λi j=>decide (j<=i)) h;exact Wf pins s Z H _ _ v u Q I rx ry ⟨i,j,e1,e2,by subst e3;exact fin⟩
 ·obtain⟨rfl,rfl⟩:=(show _/\_ from h)
  obtain rfl:=re.xw;refine PH pins s Z H _ _ v u Q I rx ry ⟨rfl,?_⟩;have e:L0 d=decide (x=V.bD):=by cases gP<;>simp[L0]
  rw[<- e];exact fin
 ·obtain⟨rfl,rfl⟩:=(show _/\_ from h)
  obtain rfl:=re.xw;refine Ss pins s Z H _ _ v u Q I rx ry ⟨rfl,?_⟩;have e:L0 d=decide (x=V.bD):=by cases gP<;>simp[L0]
  rw[<- e];exact fin
 ·rcases h with h|⟨a,S,n,i,rfl,ha,rfl,rfl⟩
  ·exact in_of hu I rx ry R gP re h false (by simpa using fin)
  ·obtain⟨a',rfl,ra⟩:=re.j8;obtain rfl:=gP.i8;exact Yi pins s Z H _ _ v u Q I rx ry ⟨i,a',S,n,rfl,rfl,R.set ha ra,fin⟩
 ·rcases h with h|⟨a,S,n,i,rfl,ha,rfl,hb⟩
  ·exact in_of hu I rx ry R gP re h true (by simpa using fin)
  ·obtain⟨a',rfl,ra⟩:=re.j8;obtain rfl:=gP.i8;exact WG pins s Z H _ _ v u Q I rx ry ⟨i,a',S,n,rfl,rfl,R.set ha ra,by rw[<- hb,sC];exact fin⟩
theorem empty_eq{K ρ H}{l:List D}{vs:List V}(r:c6 K ρ H l vs):l.isEmpty=vs.isEmpty:=by cases r<;>rfl
theorem Rq{K:PySem.W.Frag}{ρ:List Addr}{g:G}{H:Hp}{d:D}{x:V}{b:Bool}(R:Rl K ρ g H)(r:f7 K ρ H d x)(h:Gg g d b):CS K x H b:=by
 rcases h with⟨rfl,rfl⟩|rfl|⟨i,rfl,rfl⟩|⟨l,rfl,rfl⟩|⟨a,l,rfl,hl,rfl⟩
 ·obtain rfl:=r.xw;rfl
 ·obtain rfl:=r.L4;rfl
 ·obtain rfl:=r.i8;rfl
 ·obtain⟨a,vs,rfl,ht,rs⟩:=r.K3;exact .inr (.inl ⟨_,ht.sq,by rw[empty_eq rs]⟩)
 ·obtain⟨a',rfl,ha⟩:=r.j8;obtain⟨vs,hq,rs⟩:=R.items hl ha;exact .inl ⟨_,hq,by rw[empty_eq rs]⟩
theorem RD{K ρ H}{l:List D}{vs:List V}{i:Int}{d:D}(r:c6 K ρ H l vs)(h:fR l i=some d):∃v,fR vs i=some v/\f7 K ρ H d v:=by
 unfold fR at h ⊢;rw[<- r.length];cases e:jW l.length i with
 |none=>rw[e] at h;cases h
 |some j =>
  rw[e] at h;exact r.get h
theorem xA{K ρ H}{g:G}{x:D}{v:V}{l:List D}(R:Rl K ρ g H)(r:f7 K ρ H x v)(h:R9 g x=some l):∃a vs,v=.ref a/\c6 K ρ H l vs/\((∃i,x=.ref i/\ρ[i]?=some a)/\fm K H a vs\/x=.tup l/\TupAt K H a vs):=by
 cases r with
 |tup ht rs=>cases h;exact⟨_,_,rfl,rs,.inr ⟨rfl,ht⟩⟩
 |ref ha=>obtain⟨vs,hq,rs⟩:=R.items h ha;exact⟨_,_,rfl,rs,.inl ⟨⟨_,rfl,ha⟩,hq⟩⟩
 |_=>cases h
theorem VS(hu:X.A.units+100<cLine):qI X (r2 X.K .ix):=by
 intro value slice pins s Z H x y v u Q I rx ry h hs;obtain⟨d,e,g,ρ,R,gP,re,d',g',⟨rfl,h⟩,q⟩:=h;rcases h with⟨x',l,i,ex,hl,ha⟩|⟨a,kvs,y',c,ex,ha,hc,hv⟩|⟨x',i,c,ex,h0,h1,rfl⟩
 ·obtain⟨rfl,rfl⟩:=z9 ex;obtain rfl:=re.i8;obtain⟨a,vs,rfl,rs,h⟩:=xA R gP hl;obtain⟨w,hw,fz⟩:=RD rs ha;rcases h with⟨_,hq⟩|⟨_,ht⟩
  ·exact Sa value slice pins s Z H _ _ v u Q I rx ry ⟨_,_,i,w,rfl,rfl,hq,hw,q.now R fz⟩ hs
  ·exact Pb value slice pins s Z H _ _ v u Q I rx ry ⟨_,_,i,w,rfl,rfl,ht.sq,hw,q.now R fz⟩ hs
 ·obtain⟨rfl,rfl⟩:=z9 ex;obtain⟨a',rfl,ra⟩:=gP.j8;obtain⟨vs,z,rs⟩:=R.dC ha ra;have:=X5 hc re;subst this;have q2:=rs.val c;rw[hv] at q2;obtain⟨w,hw,fz⟩:=q2.some;exact RZ (by omega) value slice pins s Z H _ _ v u Q I rx ry ⟨_,w,rfl,by have:=O5.k (k:=c) z;rw[hw] at this;exact this,q.now R fz⟩ hs
 ·obtain⟨rfl,rfl⟩:=z9 ex;obtain rfl:=gP.C7;obtain rfl:=re.i8;exact Pa value slice pins s Z H _ _ v u Q I rx ry ⟨x',i,c,rfl,rfl,m5 h0,h1,q.now R (.str _)⟩ hs
end
end M

namespace M
open PySem L2 PySem.Spec PyProof.Rows
section
variable{X:Cx}
noncomputable def Lc(K:PySem.W.Frag):V->Option Int->Option Int->Hp->VK->Prop:=λx lo hi H Q=>∃d g ρ d' g',Rl K ρ g H/\f7 K ρ H d x/\sV d lo hi g d' g'/\LQ K ρ H Q d' g'
theorem Co:vy X (Lc X.K):=by
 intro pins s Z H x v vl vu lo hi sl Q I rx hs pl pu h;obtain⟨d,g,ρ,d',g',R,gP,h,q⟩:=h;rcases h with⟨l,rfl,rfl,rfl⟩|⟨a,l,rfl,hl,rfl,rfl⟩
 ·obtain⟨a,vs,rfl,ht,rs⟩:=gP.K3;refine Tp pins s Z H _ v vl vu lo hi sl Q I rx hs pl pu ⟨_,_,rfl,ht.sq,λz=>?_,λp hp=>q.tup R hp (rs.cut lo hi)⟩;refine q.now R (.tup ht ?_);have:=rs.cut lo hi;rw[z] at this;exact this
 ·obtain⟨a',rfl,ha⟩:=gP.j8;obtain⟨vs,hq,rs⟩:=R.items hl ha;exact To pins s Z H _ v vl vu lo hi sl Q I rx hs pl pu ⟨_,_,rfl,hq,λp hp=>q.new R hp (rs.cut lo hi)⟩
noncomputable def UM(K:PySem.W.Frag):V->V->V->Hp->(Hp->Prop)->Prop:=λo i v H Q=>∃AE di dv g ρ,Rl K ρ g H/\f7 K ρ H AE o/\f7 K ρ H di i/\f7 K ρ H dv v/\U8 AE di dv g (λg'=>∀bA H',Ext ρ H bA H'->Rl K bA g' H'->Q H')
theorem QL(hu:X.A.units+100<cLine):CP X (UM X.K):=by
 intro pins s Z H o i v ov iv u Q I ro ri rv h;obtain⟨AE,di,dv,g,ρ,R,r1,r2,r3,g',h,q⟩:=h;rcases h with⟨a,i',l,j,rfl,rfl,hl,hj,rfl⟩|⟨a,kvs,c,rfl,ha,hc,hz,rfl⟩
 ·obtain⟨a',rfl,ha⟩:=r1.j8;obtain rfl:=r2.i8;obtain⟨vs,z,rs⟩:=R.lst hl ha;obtain⟨R',e'⟩:=R.write hl ha (rs.set r3 j);exact set_list pins s Z H _ _ _ ov iv u Q I ro ri rv ⟨_,vs,_,j,rfl,rfl,z,by rw[<- rs.length];exact hj,q ρ _ e' R'⟩
 ·obtain⟨a',rfl,ra⟩:=r1.j8;obtain⟨vs,z,rs⟩:=R.dC ha ra;have:=X5 hc r2;subst this;obtain⟨R',e'⟩:=R.put (o':=.dC (putD kvs c dv)) (u:=.dK (putK vs c v)) ha rfl ra (rs.put r3);cases ro;exact XO (by omega) I (xW.k z (by rw[<- rs.length];exact Bn hz)) ri rv λs' I'=>⟨_,I',q ρ _ e' R'⟩
theorem Pk:m8 X (.builtin "len") (rN X.K .len):=by
 intro pins s Z H xs us Q I r h;obtain⟨ds,g,ρ,R,rs,d',g',⟨rfl,h⟩,q⟩:=h;rcases h with⟨x,l,rfl,hl,rfl⟩|⟨a,kvs,rfl,ha,rfl⟩|⟨x,rfl,hz,rfl⟩
 ·obtain⟨v,rfl,rv⟩:=rs.one;obtain⟨a,vs,rfl,rl,h⟩:=xA R rv hl;refine ZY pins s Z H _ us Q I r ⟨_,_,rfl,?_,by rw[<- rl.length];exact q.now R (.int _)⟩;exact h.imp (λz=>z.2) (λz=>z.2.sq)
 ·obtain⟨v,rfl,rv⟩:=rs.one;obtain⟨a',rfl,ra⟩:=rv.j8;obtain⟨vs,z,rk⟩:=R.dC ha ra;exact XE pins s Z H _ us Q I r ⟨_,_,rfl,z,by rw[<- rk.length];exact q.now R (.int _)⟩
 ·obtain⟨v,rfl,rv⟩:=rs.one;obtain rfl:=rv.C7;exact ZZ pins s Z H _ us Q I r ⟨_,rfl,m5 hz,q.now R (.int _)⟩
theorem Se:m8 X (.type "list") (rN X.K .list):=by
 intro pins s Z H xs us Q I r h;obtain⟨ds,g,ρ,R,rs,d',g',⟨x,l,rfl,hl,rfl,rfl⟩,q⟩:=h;obtain⟨v,rfl,rv⟩:=rs.one;obtain⟨a,vs,rfl,rl,h⟩:=xA R rv hl;exact Z' pins s Z H _ us Q I r ⟨_,_,rfl,h.imp (λz=>z.2) (λz=>z.2.sq),λp hp=>q.new R hp rl⟩
theorem Xr:m8 X (.type "tuple") (rN X.K .tuple):=by
 intro pins s Z H xs us Q I r h;obtain⟨ds,g,ρ,R,rs,d',g',⟨x,l,rfl,hl,rfl,rfl⟩,q⟩:=h;obtain⟨v,rfl,rv⟩:=rs.one;obtain⟨a,vs,rfl,rl,h⟩:=xA R rv hl;refine WK pins s Z H _ us Q I r ⟨a,vs,rfl,?_⟩;exact h.imp (λz=>⟨z.2,λp hp=>q.tup R hp rl⟩) (λz=>⟨z.2.sq,q.now R (.tup z.2 rl)⟩)
theorem RY:m8 X (.builtin "isinstance") (rN X.K .isin):=by
 intro pins s Z H xs us Q I r h;obtain⟨ds,g,ρ,R,rs,d',g',⟨x,c,b,rfl,hc,hb,rfl,rfl⟩,q⟩:=h;obtain⟨v,w,rfl,r1,r2⟩:=rs.two;obtain rfl:=r2.OA;have fin:=q.now R (.bl b);have go:∀(t:Value) (v:V),gw X.K H v t->PySem.W.kitOne X.K t (.type c)=some b->Vals [v,V.ty c] us->wpAny (model X.prog X.w) X.A (call (.builtin "isinstance") us) (EP X pins Z Q) X.xe s :=
  λt v ht hk r=>ZG pins s Z H _ us Q I r ⟨v,t,c,b,rfl,ht,hk,fin⟩
 simp only[List.mem_cons,List.mem_nil_iff,or_false] at hc;cases r1 with
 |bD=>refine go _ _ .bD ?_ r;cases hb;rcases hc with rfl|rfl|rfl|rfl|rfl<;>rfl
 |bl y=>refine go _ _ (.bl y) ?_ r;cases hb;rcases hc with rfl|rfl|rfl|rfl|rfl<;>rfl
 |int y=>refine go _ _ (.int y) ?_ r;cases hb;rcases hc with rfl|rfl|rfl|rfl|rfl<;>rfl
 |str y=>refine go _ _ (.str y) ?_ r;cases hb;rcases hc with rfl|rfl|rfl|rfl|rfl<;>rfl
 |ty _=>cases hb
 |tup ht rs =>
  cases hb;rcases ht with ht|ht
  ·refine go _ _ (.tup ht) ?_ r;rcases hc with rfl|rfl|rfl|rfl|rfl<;>rfl
  ·obtain⟨o,aT,n,lk,jZ,_⟩:=ht;obtain⟨u,w',rfl,ru,fz⟩:=vals2 r;cases (show w'=Value.type c from fz);cases ru;have hk:PySem.W.kitOne X.K (.type "tuple") (.type c)=some (c=="tuple"):=by rcases hc with rfl|rfl|rfl|rfl|rfl<;>rfl
   exact bL Km I.gp ⟨o,I.gp _ _ lk,jZ⟩ hk (λz=>nomatch z) λtk=>⟨.bl _,H,I.tok tk,rfl,fin⟩
 |@ref i a ha =>
  have uk:∃m,g'[i]?=some (.lst m)/\b=(c=="list"):=by
   simp only[Dc] at hb;split at hb
   ·exact⟨_,by assumption,(aI hb).symm⟩
   ·cases hb
  obtain⟨m,e,rfl⟩:=uk;obtain⟨vs,z,_⟩:=R.lst e ha;refine go _ _ (.lst z) ?_ r;rcases hc with rfl|rfl|rfl|rfl|rfl<;>rfl
theorem YJ:∀{l:List D} {b:Bool},U7 l=some b->∃bs:List Bool,l=bs.map D.bl/\b=bs.all id:=by
 intro l
 induction l with
 |nil=>intro b h;cases h;exact⟨[],rfl,rfl⟩
 |cons d r ih =>
  intro b h;cases d<;>first|(cases h;done)|skip
  rename_i c;simp only[U7] at h;cases e:U7 r with
  |none=>rw[e] at h;cases h
  |some b' =>
   rw[e] at h;cases h;obtain⟨bs,rfl,rfl⟩:=ih e;exact⟨c::bs,rfl,by simp⟩
theorem c6.QW{K ρ H}:∀{bs:List Bool} {vs:List V},c6 K ρ H (bs.map D.bl) vs->vs=bs.map V.bl:=by
 intro bs
 induction bs with
 |nil=>intro vs h;cases h;rfl
 |cons b r ih =>
  intro vs h;cases h with
  |cons h rr=>rw[ih rr,h.L4];rfl
theorem OL(hc:X.calm=true):m8 X (.builtin "all") (rN X.K .all):=by
 intro pins s Z H xs us Q I r h;obtain⟨ds,g,ρ,R,rs,d',g',⟨a,l,b,rfl,hl,hb,rfl,rfl⟩,q⟩:=h;obtain⟨v,rfl,rv⟩:=rs.one;obtain⟨a',rfl,ra⟩:=rv.j8;obtain⟨vs,hq,rs⟩:=R.items hl ra;rcases hb with hb|⟨ns,rfl,rfl⟩
 rotate_left
 ·have:=rs.ints;subst this;exact XD hc pins s Z H _ us Q I r ⟨_,ns,rfl,hq,q.now R (.bl _)⟩
 obtain⟨bs,rfl,rfl⟩:=YJ hb;have:=rs.QW;subst this;exact XC hc pins s Z H _ us Q I r ⟨_,bs,rfl,hq,q.now R (.bl _)⟩
theorem i6.keys{α:Type}{K ρ H}{ds:List (α×D)}{vs:List (α×V)}(h:i6 K ρ H ds vs):ds.map (·.1)=vs.map (·.1):=by
 induction h with
 |nil=>rfl
 |cons _ _ ih=>rw[ba,ba,ih]
theorem Pq(hc:X.calm=true):m8 X (.builtin "max") (rN X.K .max):=by
 intro pins s Z H xs us Q I r h;obtain⟨ds,g,ρ,R,rs,d',g',⟨rfl,⟨i,j,rfl,rfl⟩|⟨a,ns,M,rfl,hl,h1,h2,rfl⟩⟩,q⟩:=h
 rotate_left
 ·obtain⟨v,rfl,rv⟩:=rs.one;obtain⟨a',rfl,ra⟩:=rv.j8;obtain⟨vs,hq,rs⟩:=R.items hl ra;have:=rs.ints;subst this;exact XG hc pins s Z H _ us Q I r ⟨_,ns,M,rfl,hq,h1,h2,q.now R (.int _)⟩
 obtain⟨v,w,rfl,r1,r2⟩:=rs.two;obtain rfl:=r1.i8;obtain rfl:=r2.i8;exact XF hc pins s Z H _ us Q I r ⟨i,j,rfl,q.now R (.int _)⟩
theorem Pt(hc:X.calm=true):m8 X (.builtin "min") (rN X.K .min):=by
 intro pins s Z H xs us Q I r h;obtain⟨ds,g,ρ,R,rs,d',g',⟨rfl,⟨i,j,rfl,rfl⟩|⟨a,ns,M,rfl,hl,h1,h2,rfl⟩⟩,q⟩:=h
 rotate_left
 ·obtain⟨v,rfl,rv⟩:=rs.one;obtain⟨a',rfl,ra⟩:=rv.j8;obtain⟨vs,hq,rs⟩:=R.items hl ra;have:=rs.ints;subst this;exact XI hc pins s Z H _ us Q I r ⟨_,ns,M,rfl,hq,h1,h2,q.now R (.int _)⟩
 obtain⟨v,w,rfl,r1,r2⟩:=rs.two;obtain rfl:=r1.i8;obtain rfl:=r2.i8;exact XH hc pins s Z H _ us Q I r ⟨i,j,rfl,q.now R (.int _)⟩
theorem Rb(hc:X.calm=true):m8 X (.builtin "sum") (rN X.K .sum):=by
 intro pins s Z H xs us Q I r h;obtain⟨ds,g,ρ,R,rs,d',g',⟨a,ns,rfl,hl,rfl,rfl⟩,q⟩:=h;obtain⟨v,rfl,rv⟩:=rs.one;obtain⟨a',rfl,ra⟩:=rv.j8;obtain⟨vs,hq,rs⟩:=R.items hl ra;have:=rs.ints;subst this;exact XJ hc pins s Z H _ us Q I r ⟨_,ns,rfl,hq,q.now R (.int _)⟩
theorem OX:m8 X (.type "int") (rN X.K .int):=by
 intro pins s Z H xs us Q I r h;obtain⟨ds,g,ρ,R,rs,d',g',⟨rfl,h⟩,q⟩:=h;rcases h with⟨i,rfl,rfl⟩|⟨b,rfl,rfl⟩
 ·obtain⟨v,rfl,rv⟩:=rs.one;obtain rfl:=rv.i8;exact GJ pins s Z H _ us Q I r (.inl ⟨i,rfl,q.now R (.int _)⟩)
 ·obtain⟨v,rfl,rv⟩:=rs.one;obtain rfl:=rv.L4;exact GJ pins s Z H _ us Q I r (.inr ⟨b,rfl,q.now R (.int _)⟩)
noncomputable def rM(K:PySem.W.Frag)(p:Pr):V->List V->Hp->VK->Prop:=λx xs H Q=>∃d ds g ρ,Rl K ρ g H/\f7 K ρ H d x/\c6 K ρ H ds xs/\cH p (d::ds) g (LQ K ρ H Q)
theorem xT{a b:D}{l m:List D}(h:a::l=b::m):a=b/\l=m:=by cases h;exact⟨rfl,rfl⟩
theorem Xz:mH X "list.append" (rM X.K .append):=by
 intro pins s Z H x xs v us Q I rx r h;obtain⟨d,ds,g,ρ,R,rd,rs,d',g',⟨a,y,l,ex,ha,hz,rfl,rfl⟩,q⟩:=h;obtain⟨rfl,rfl⟩:=xT ex;obtain⟨a',rfl,ra⟩:=rd.j8;obtain⟨w,rfl,fz⟩:=rs.one;obtain⟨vs,z1,rv⟩:=R.lst ha ra;obtain⟨R2,e2⟩:=R.write ha ra (rv.append (.cons fz .nil));exact Ye pins s Z H _ _ v us Q I rx r ⟨_,vs,_,rfl,rfl,z1,by rw[<- rv.length];exact Bn hz,q ρ _ _ e2 R2 .bD⟩
theorem OS(hu:X.A.units+100<cLine):mH X "dict.get" (rM X.K .get):=by
 intro pins s Z H x xs v us Q I rx r h;obtain⟨d,ds,g,ρ,R,rd,rs,d',g',⟨a,y,z,kvs,c,ex,ha,hc,rfl,rfl⟩,q⟩:=h;obtain⟨rfl,rfl⟩:=xT ex;obtain⟨a',rfl,ra⟩:=rd.j8;obtain⟨w1,w2,rfl,r1,r2⟩:=rs.two;obtain⟨vs,z1,rv⟩:=R.dC ha ra;have:=X5 hc r1;subst this;obtain⟨u1,u2,rfl,p1,p2⟩:=vals2 r;cases rx;refine OO (by omega) I (O5.k z1) p1 p2 λw' s4 I4 fz=>⟨_,H,I4,fz,q.now R ?_⟩
 have q:=rv.val c;cases e1:q9 kvs c with
 |none =>
  rw[e1] at q;cases e2:K2 vs c with
  |none=>exact r2
  |some w=>rw[e2] at q;exact q.elim
 |some d' =>
  rw[e1] at q;obtain⟨w,hw,q⟩:=q.some;rw[hw];exact q
theorem a23:mH X "list.pop" (rM X.K .pop):=by
 intro pins s Z H x xs v us Q I rx r h;obtain⟨d,ds,g,ρ,R,rd,rs,y,g',⟨a,i,l,k,ex,ha,h1,h2,hk,hy,rfl⟩,q⟩:=h;obtain⟨rfl,rfl⟩:=xT ex;obtain⟨a',rfl,ra⟩:=rd.j8;obtain⟨w,rfl,fz⟩:=rs.one;obtain rfl:=fz.i8;obtain⟨vs,z1,rv⟩:=R.lst ha ra;obtain⟨w,hw,fz⟩:=rv.get hy;obtain⟨R2,e2⟩:=R.write ha ra (rv.erase k);exact a36 pins s Z H _ _ v us Q I rx r ⟨_,vs,i,k,w,rfl,rfl,z1,h1,h2,by rw[<- rv.length];exact hk,hw,q ρ _ _ e2 R2 (fz.ext e2)⟩
theorem c6.strs{K ρ H}:∀{ys:List Str} {vs:List V},c6 K ρ H (ys.map D.str) vs->vs=ys.map V.str
 |[],_,.nil=>rfl
 |_::_,_,.cons h r=>by cases h;rw[c6.strs r];rfl
theorem ty_list{d:D}{v:V}{g:G}{ρ:List Addr}{H:Hp}(R:Rl X.K ρ g H)(r:f7 X.K ρ H d v)(h:∃a l,d=.ref a/\d7 g a=some l):mL X.K "list" v H:=by
 obtain⟨a,l,rfl,hl⟩:=h;obtain⟨a',rfl,ra⟩:=r.j8;obtain⟨vs,hq,_⟩:=R.items hl ra;exact .inl ⟨rfl,vs,hq⟩
theorem SV:mH X "set.add" (rM X.K .jr):=by
 intro pins s Z H x xs v us Q I rx r h;obtain⟨d,ds,g,ρ,R,rd,rs,d',g',⟨a,i,S,n,ex,ha,hn,rfl,rfl⟩,q⟩:=h;obtain⟨rfl,rfl⟩:=xT ex;obtain⟨a',rfl,ra⟩:=rd.j8;obtain⟨w,rfl,fz⟩:=rs.one;obtain rfl:=fz.i8;obtain⟨R2,e2⟩:=R.put (o':=.set (λk=>S k||decide (k=i)) (if S i then n else n+1)) (u:=.set (λk=>S k||decide (k=i)) (if S i then n else n+1)) ha rfl ra ⟨rfl,rfl⟩;exact Zi pins s Z H _ _ v us Q I rx r ⟨_,i,S,n,rfl,rfl,R.set ha ra,hn,q ρ _ _ e2 R2 .bD⟩
theorem ty_set{d:D}{v:V}{g:G}{ρ:List Addr}{H:Hp}(R:Rl X.K ρ g H)(r:f7 X.K ρ H d v)(h:lq .jr d g):mL X.K "set" v H:=by
 obtain⟨a,S,n,rfl,hl⟩:=h;obtain⟨a',rfl,ra⟩:=r.j8;exact .inr (.inr (.inr ⟨rfl,S,n,R.set hl ra⟩))
theorem ty_dict{d:D}{v:V}{g:G}{ρ:List Addr}{H:Hp}(R:Rl X.K ρ g H)(r:f7 X.K ρ H d v)(h:lq .get d g):mL X.K "dict" v H:=by
 obtain⟨a,l,rfl,hl⟩:=h;obtain⟨a',rfl,ra⟩:=r.j8;obtain⟨vs,hq,_⟩:=R.dC hl ra;exact .inr (.inr (.inl ⟨rfl,.inl ⟨vs,hq⟩⟩))
end
end M

namespace M
open PySem L2 PySem.Spec PyProof.Rows
noncomputable abbrev gA:=List Str×XK
noncomputable def LX(K:PySem.W.Frag)(ρ:List Addr)(H:Hp)(Ξ:gA):KX:=λx g'=>∀bA H' C,Ext ρ H bA H'->Rl K bA g' H'->x.cls∈Ξ.1->u4 K x.cls C->Ξ.2 (.ref C) none H'
theorem LX.ext{K:PySem.W.Frag}{ρ bJ:List Addr}{H H1:Hp}{Ξ:gA}(e:Ext ρ H bJ H1){x:Xn}{g:G}(h:LX K ρ H Ξ x g):LX K bJ H1 Ξ x g:=λbA H' C e' R hm c=>h bA H' C (e.trans e') R hm c
noncomputable abbrev oV(ex:List Str):gA:=(ex,λ_ _ _=>False)
noncomputable def LE(K:PySem.W.Frag)(Ξ:gA)(t:S->G->KD->KX->Prop):TE:=λbR H Q=>∃Z g ρ,n5 K ρ H Z bR/\Rl K ρ g H/\t Z g (LQ K ρ H Q) (LX K ρ H Ξ)
noncomputable def LT(K:PySem.W.Frag)(Ξ:gA)(t:S->G->(Bool->G->Prop)->KX->Prop):TT:=λbR H Q=>∃Z g ρ,n5 K ρ H Z bR/\Rl K ρ g H/\t Z g (λb g'=>∀bA H',Ext ρ H bA H'->Rl K bA g' H'->Q b H') (LX K ρ H Ξ)
noncomputable def LA(K:PySem.W.Frag)(Ξ:gA)(t:S->G->(List D->G->Prop)->KX->Prop):TA:=λbR H Q=>∃Z g ρ,n5 K ρ H Z bR/\Rl K ρ g H/\t Z g (λds g'=>∀bA H' vs,Ext ρ H bA H'->Rl K bA g' H'->c6 K bA H' ds vs->Q vs H') (LX K ρ H Ξ)
noncomputable def W3(K:PySem.W.Frag)(fy:List Addr)(H0:Hp)(k:IK)(J:It):Prop:=∀ρ g H,Ext fy H0 ρ H->Rl K ρ g H->∀i,(k.at i g=some none->J.stop i H) /\
 ∀d,k.at i g=some (some d)->J.go i H/\∀v H',J.pB i H v H'->Ext ρ H ρ H'/\Rl K ρ g H'/\f7 K ρ H' d v
noncomputable def LI(K:PySem.W.Frag)(Ξ:gA)(t:S->G->(IK->G->Prop)->KX->Prop):TI:=λbR H R=>∃Z g ρ,n5 K ρ H Z bR/\Rl K ρ g H/\t Z g (λk g'=>∀bA H' J,Ext ρ H bA H'->Rl K bA g' H'->W3 K bA H' k J->R J H') (LX K ρ H Ξ)
noncomputable def LG(K:PySem.W.Frag)(t:MT):TG:=λv bR H Q=>∃d Z g ρ,n5 K ρ H Z bR/\Rl K ρ g H/\f7 K ρ H d v/\iO t d Z (λbN=>∀cQ,n5 K ρ H bN cQ->Q cQ H)
noncomputable def LN(K:PySem.W.Frag)(ρ:List Addr)(H:Hp)(N:L2.Ends):Ends where
 nx:=λbN g'=>∀bA H' cQ,Ext ρ H bA H'->Rl K bA g' H'->n5 K bA H' bN cQ->N.nx cQ H'
 rt:=LQ K ρ H N.rt
 bk:=λbN g'=>∀bA H' cQ,Ext ρ H bA H'->Rl K bA g' H'->n5 K bA H' bN cQ->N.bk cQ H'
 ct:=λbN g'=>∀bA H' cQ,Ext ρ H bA H'->Rl K bA g' H'->n5 K bA H' bN cQ->N.ct cQ H'
noncomputable def LS(K:PySem.W.Frag)(Ξ:gA)(t:Ends->S->G->KX->Prop):TS:=λN bR H=>∃Z g ρ,n5 K ρ H Z bR/\Rl K ρ g H/\t (LN K ρ H N) Z g (LX K ρ H Ξ)
end M
namespace L2
open PySem PySem.Spec PyProof.Rows
section
variable{X:Cx}{e:Expr}
theorem PE.imp{t t':TE}(h:PE X e t)(i:∀Z H Q,t' Z H Q->t Z H Q):PE X e t':=λpins s Z H Q I q=>h pins s Z H Q I (i Z H Q q)
theorem PT.imp{t t':TT}(h:PT X e t)(i:∀Z H Q,t' Z H Q->t Z H Q):PT X e t':=λpins s Z H Q I q=>h pins s Z H Q I (i Z H Q q)
theorem PW.imp{t t':TT}(h:PW X e t)(i:∀Z H Q,t' Z H Q->t Z H Q):PW X e t':=λw pins s Z H Q I q=>h w pins s Z H Q I (i Z H Q q)
theorem PA.imp{es:List Expr}{t t':TA}(h:PA X es t)(i:∀Z H Q,t' Z H Q->t Z H Q):PA X es t':=λp pins s Z H Q I q=>h p pins s Z H Q I (i Z H Q q)
theorem kz.imp{es:List Expr}{t t':TT}(h:kz X es t)(i:∀Z H Q,t' Z H Q->t Z H Q):kz X es t':=λpins s Z H Q I q=>h pins s Z H Q I (i Z H Q q)
theorem PI.imp{tg:Expr}{t t':TI}(h:PI X tg e t)(i:∀Z H Q,t' Z H Q->t Z H Q):PI X tg e t':=λpins s Z H Q I q=>h pins s Z H Q I (i Z H Q q)
theorem PG.imp{t t':TG}(h:PG X e t)(i:∀v Z H Q,t' v Z H Q->t v Z H Q):PG X e t':=λpins s Z H v u Q I r q=>h pins s Z H v u Q I r (i v Z H Q q)
theorem PS.imp{st:Stmt}{t t':TS}(h:PS X st t)(i:∀N Z H,t' N Z H->t N Z H):PS X st t':=λpins s Z H N I q=>h pins s Z H N I (i N Z H q)
theorem iR.imp{st:List Stmt}{t t':TS}(h:iR X st t)(i:∀N Z H,t' N Z H->t N Z H):iR X st t':=λpins s Z H N I q=>h pins s Z H N I (i N Z H q)
end
end L2
namespace M
open PySem L2 PySem.Spec PyProof.Rows
section
variable{K:PySem.W.Frag}{Ξ:gA}{P:eT}(hP:i7 P){ρ fy:List Addr}{H H0:Hp}{Z:S}{bR:L2.St}{g:G}{m:ME}
include hP
theorem eX{Q0:KD}{Q:VK}(s:n5 K ρ H Z bR)(R:Rl K ρ g H)(e0:Ext fy H0 ρ H)(h:aK P m Z g Q0 (LX K fy H0 Ξ))(k:∀x g1 bJ H1 v1,Ext ρ H bJ H1->Rl K bJ g1 H1->f7 K bJ H1 x v1->Q0 x g1->Q v1 H1):LE K Ξ (aK P m) bR H Q :=
 ⟨Z,g,ρ,s,R,b9 hP m _ _ _ _ _ _ (λx g1 h bJ H1 v1 e1 R1 r1=>k x g1 bJ H1 v1 e1 R1 r1 h) (λ_ _ z=>LX.ext e0 z) h⟩
theorem jo{Q0:List D->G->Prop}{Q:List V->Hp->Prop}(s:n5 K ρ H Z bR)(R:Rl K ρ g H)(e0:Ext fy H0 ρ H)(h:cW P m Z g Q0 (LX K fy H0 Ξ))(k:∀x g1 bJ H1 v1,Ext ρ H bJ H1->Rl K bJ g1 H1->c6 K bJ H1 x v1->Q0 x g1->Q v1 H1):LA K Ξ (cW P m) bR H Q :=
 ⟨Z,g,ρ,s,R,w6 hP m _ _ _ _ _ _ (λx g1 h bJ H1 v1 e1 R1 r1=>k x g1 bJ H1 v1 e1 R1 r1 h) (λ_ _ z=>LX.ext e0 z) h⟩
theorem nP{Q0:Bool->G->Prop}{Q:Bool->Hp->Prop}(s:n5 K ρ H Z bR)(R:Rl K ρ g H)(e0:Ext fy H0 ρ H)(h:cA P m Z g Q0 (LX K fy H0 Ξ))(k:∀t g1 bJ H1,Ext ρ H bJ H1->Rl K bJ g1 H1->Q0 t g1->Q t H1):LT K Ξ (cA P m) bR H Q :=
 ⟨Z,g,ρ,s,R,n8 hP m _ _ _ _ _ _ (λt g1 h bJ H1 e1 R1=>k t g1 bJ H1 e1 R1 h) (λ_ _ z=>LX.ext e0 z) h⟩
theorem qO{ms:MS}{N:L2.Ends}{N0:Ends}(s:n5 K ρ H Z bR)(R:Rl K ρ g H)(e0:Ext fy H0 ρ H)(h:wpS P ms N0 Z g (LX K fy H0 Ξ))(k:N0.le (LN K ρ H N)):LS K Ξ (wpS P ms) N bR H :=
 ⟨Z,g,ρ,s,R,wpS_mono hP ms _ _ _ _ _ _ k (λ_ _ z=>LX.ext e0 z) h⟩
end
theorem c6.lg{K ρ H}(lo:Int)(n:Nat):c6 K ρ H (l6 lo n) ((List.range n).map λ(k:Nat)=>V.int (lo+k)):=by
 unfold l6;have:∀l:List Nat,c6 K ρ H (l.map λ(k:Nat)=>D.int (lo+k)) (l.map λ(k:Nat)=>V.int (lo+k)):=by
  intro l
  induction l with
  |nil=>exact .nil
  |cons x r ih=>exact .cons (.int _) ih
 exact this _
section
variable{X:Cx}{Ξ:gA}{P:eT}(hP:i7 P){a b c e:Expr}{ma mb mc:ME}{pos:Pos}{p:Pr}
include hP
theorem AO(h:PE X e (qP (r2 X.K p) (LE X.K Ξ (aK P ma)) (LE X.K Ξ (aK P mb)))):PE X e (LE X.K Ξ (aK P (.prim p (.cons ma (.cons mb .nil))))) :=
 h.imp λbR H Q ⟨Z,g,ρ,s,R,h⟩=>by
  simp only[aK,cW] at h;exact eX hP s R (.refl _ _) h λx g1 bJ H1 v1 e1 R1 r1 h=>eX hP (s.ext e1) R1 e1 h λy g2 et H2 v2 e2 R2 r2 h =>
   ⟨x,y,g2,et,R2,r1.ext e2,r2,t8 (λd g' h=>h.ext (e1.trans e2)) h⟩
theorem QZ{op:CmpOp}(h:PT X e (Cq (qP (r2 X.K (.cmp op)) (LE X.K Ξ (aK P ma)) (LE X.K Ξ (aK P mb))))):PT X e (LT X.K Ξ (cA P (.fP (.prim (.cmp op) (.cons ma (.cons mb .nil)))))) :=
 h.imp λbR H Q ⟨Z,g,ρ,s,R,h⟩=>by
  simp only[cA,aK,cW] at h;refine eX hP s R (.refl _ _) h λx g1 bJ H1 v1 e1 R1 r1 h=>eX hP (s.ext e1) R1 e1 h λy g2 et H2 v2 e2 R2 r2 h=>?_;obtain⟨d',g',h,q⟩:=h;obtain⟨x',y',t,ex,hc,rfl,rfl⟩:=id h;refine⟨x,y,g',et,R2,r1.ext e2,r2,_,_,h,λbA H' v e' R' r'=>?_⟩;obtain⟨t',ht,q⟩:=q;rcases ht with⟨z,_⟩|z|⟨i,z,_⟩|⟨l,z,_⟩|⟨a,l,z,_⟩<;>cases z
  exact⟨_,r'.L4,q bA H' (e1.trans (e2.trans e')) R'⟩
theorem Oe{op:UnaryOp}(ha:PE X a (LE X.K Ξ (aK P ma))):PE X (.UnaryOp op a pos) (LE X.K Ξ (aK P (.prim (.un op) (.cons ma .nil)))) :=
 (Ws (Wk op) ha).imp λbR H Q ⟨Z,g,ρ,s,R,h⟩=>by
  simp only[aK,cW] at h;exact eX hP s R (.refl _ _) h λx g1 bJ H1 v1 e1 R1 r1 h=>⟨x,g1,bJ,R1,r1,t8 (λd g' h=>h.ext e1) h⟩
theorem Jm{op gQ:CmpOp}:∀bR H Q,LE X.K Ξ (aK P (.chain op gQ ma mb mc)) bR H Q->AQ (r2 X.K (.cmp op)) (r2 X.K (.cmp gQ)) (LE X.K Ξ (aK P ma)) (LE X.K Ξ (aK P mb)) (LE X.K Ξ (aK P mc)) bR H Q:=λbR H Q ⟨Z,g,ρ,s,R,h⟩=>by
 simp only[aK] at h;refine eX hP s R (.refl _ _) h λx g1 bJ H1 v1 e1 R1 r1 h=>eX hP (s.ext e1) R1 e1 h λy g2 et H2 v2 e2 R2 r2 h=>?_;refine⟨x,y,g2,et,R2,r1.ext e2,r2,t8 (λd g3 h iL H3 v3 e3 R3 r3=>?_) h⟩;obtain⟨t,rfl,h⟩:=h;obtain rfl:=r3.L4;refine⟨t,rfl,?_⟩;cases t
 ·exact h iL H3 _ (e1.trans (e2.trans e3)) R3 (.bl _)
 ·exact eX hP (s.ext (e1.trans (e2.trans e3))) R3 (e1.trans (e2.trans e3)) h λz g4 pz H4 v4 e4 R4 r4 h =>
   ⟨y,z,g4,pz,R4,r2.ext (e3.trans e4),r4,t8 (λd g' h=>h.ext (e1.trans (e2.trans (e3.trans e4)))) h⟩
theorem a04{op gQ:CmpOp}(hu:X.A.units+100<cLine)(ha:PE X a (LE X.K Ξ (aK P ma)))(hb:PE X b (LE X.K Ξ (aK P mb)))(hc:PE X c (LE X.K Ξ (aK P mc)))(hm:lastMarks [op,gQ] [b,c]=false) :
  PE X (.Compare a [op,gQ] [b,c] pos) (LE X.K Ξ (aK P (.chain op gQ ma mb mc))):=(a30 (X0 hu op) (X0 hu gQ) ha hb hc hm).imp (Jm hP)
theorem a56{op gQ:CmpOp}{Z:S}{g:G}{Q:Bool->G->Prop}{E:KX}(h:cA P (.fP (.chain op gQ ma mb mc)) Z g Q E):aK P (.chain op gQ ma mb mc) Z g (λd g'=>∃t,d=.bl t/\Q t g') E:=by
 have one:∀{o:CmpOp} {xs:List D} {g:G},cH (.cmp o) xs g (λd g1=>oU g1 d λb=>Q b g1)->cH (.cmp o) xs g λd g'=>∃t,d=.bl t/\Q t g':=by
  intro o xs g h;obtain⟨d',g',h,t',ht,q⟩:=h;obtain⟨x',y',t,ex,hc,rfl,rfl⟩:=id h;refine⟨_,_,h,t',?_,q⟩;rcases ht with⟨z,_⟩|z|⟨i,z,_⟩|⟨l,z,_⟩|⟨a,l,z,_⟩<;>first|exact z|cases z
 simp only[cA,aK] at h ⊢;refine b9 hP ma _ _ _ _ _ _ (λx g1 h=>b9 hP mb _ _ _ _ _ _ (λy g2 h=>t8 (λz g3 h=>?_) h) (λ_ _ z=>z) h) (λ_ _ z=>z) h;obtain⟨t,rfl,h⟩:=h;refine⟨t,rfl,?_⟩;cases t
 ·obtain⟨b,hb,q⟩:=(show oU g3 (.bl false) λb=>Q b g3 from h)
  rcases hb with⟨z,_⟩|z|⟨i,z,_⟩|⟨l,z,_⟩|⟨a,l,z,_⟩<;>first|(cases z;exact⟨_,rfl,q⟩)|cases z
 ·exact b9 hP mc _ _ _ _ _ _ (λw g4 h=>one h) (λ_ _ z=>z) h
theorem Xm{op gQ:CmpOp}(hu:X.A.units+100<cLine)(ha:PE X a (LE X.K Ξ (aK P ma)))(hb:PE X b (LE X.K Ξ (aK P mb)))(hc:PE X c (LE X.K Ξ (aK P mc)))(hm:lastMarks [op,gQ] [b,c]=false) :
  PT X (.Compare a [op,gQ] [b,c] pos) (LT X.K Ξ (cA P (.fP (.chain op gQ ma mb mc)))) :=
 (a15 (X0 hu op) (X0 hu gQ) ha hb hc hm).imp λbR H Q ⟨Z,g,ρ,s,R,h⟩ =>
  Jm hP bR H _ (eX hP s R (.refl _ _) (a56 hP h) λx g1 bJ H1 v1 e1 R1 r1 h=>by
   obtain⟨t,rfl,h⟩:=h;exact ⟨t,r1.L4,h bJ H1 e1 R1⟩)
theorem QB{rest:List Expr}(ha:PE X a (LE X.K Ξ (aK P ma)))(hb:PE X (.BoolOp .And (b::rest) pos) (LE X.K Ξ (aK P mb))):PE X (.BoolOp .And (a::b::rest) pos) (LE X.K Ξ (aK P (.dG ma mb))) :=
 (P' ha hb).imp λbR H Q ⟨Z,g,ρ,s,R,h⟩=>by
  simp only[aK] at h;refine eX hP s R (.refl _ _) h λx g1 bJ H1 v1 e1 R1 r1 h=>?_;obtain⟨t,rfl,h⟩:=h;refine⟨t,r1.L4,?_⟩;cases t
  ·exact h bJ H1 _ e1 R1 (.bl _)
  ·exact eX hP (s.ext e1) R1 e1 h λy g2 et H2 v2 e2 R2 r2 h=>h et H2 v2 (e1.trans e2) R2 r2
theorem Od{rest:List Expr}(ha:PE X a (LE X.K Ξ (aK P ma)))(hb:PE X (.BoolOp .Or (b::rest) pos) (LE X.K Ξ (aK P mb))):PE X (.BoolOp .Or (a::b::rest) pos) (LE X.K Ξ (aK P (.jt ma mb))) :=
 (Wr ha hb).imp λbR H Q ⟨Z,g,ρ,s,R,h⟩=>by
  simp only[aK] at h;refine eX hP s R (.refl _ _) h λx g1 bJ H1 v1 e1 R1 r1 h=>?_;obtain⟨t,rfl,h⟩:=h;refine⟨t,r1.L4,?_⟩;cases t
  ·exact eX hP (s.ext e1) R1 e1 h λy g2 et H2 v2 e2 R2 r2 h=>h et H2 v2 (e1.trans e2) R2 r2
  ·exact h bJ H1 _ e1 R1 (.bl _)
theorem QI(ha:PE X a (LE X.K Ξ (aK P ma))):PE X (.UnaryOp .Not a pos) (LE X.K Ξ (aK P (.eL ma))) :=
 (Qg ha).imp λbR H Q ⟨Z,g,ρ,s,R,h⟩=>by
  simp only[aK] at h;refine eX hP s R (.refl _ _) h λx g1 bJ H1 v1 e1 R1 r1 h=>?_;obtain⟨t,rfl,h⟩:=h;exact⟨t,r1.L4,h bJ H1 _ e1 R1 (.bl _)⟩
theorem QG(hc:PT X c (LT X.K Ξ (cA P mc)))(ha:PE X a (LE X.K Ξ (aK P ma)))(hb:PE X b (LE X.K Ξ (aK P mb))):PE X (.IfExp c a b pos) (LE X.K Ξ (aK P (.ite mc ma mb))) :=
 (a28 hc ha hb).imp λbR H Q ⟨Z,g,ρ,s,R,h⟩=>by
  simp only[aK] at h;refine nP hP s R (.refl _ _) h λt g1 bJ H1 e1 R1 h=>?_;cases t
  ·exact eX hP (s.ext e1) R1 e1 h λy g2 et H2 v2 e2 R2 r2 h=>h et H2 v2 (e1.trans e2) R2 r2
  ·exact eX hP (s.ext e1) R1 e1 h λy g2 et H2 v2 e2 R2 r2 h=>h et H2 v2 (e1.trans e2) R2 r2
theorem QJ{es:List Expr}{gz:ME}{k:Nat}(h:PA X es (LA X.K Ξ (cW P gz))):PE X (.Tuple es k pos) (LE X.K Ξ (aK P (.prim .tup gz))) :=
 (Qi h).imp λbR H Q ⟨Z,g,ρ,s,R,h⟩=>by
  simp only[aK] at h;refine jo hP s R (.refl _ _) h λds g1 bJ H1 vs e1 R1 r1 h=>?_;obtain⟨d',g',⟨hz,rfl,rfl⟩,q⟩:=h;exact⟨by rw[<- r1.length];exact m5 (aG hz (by decide)),λp hp=>(q.ext e1).tup R1 hp r1⟩
theorem QH{es:List Expr}{gz:ME}(h:PA X es (LA X.K Ξ (cW P gz))):PE X (.List es pos) (LE X.K Ξ (aK P (.prim .lst gz))) :=
 (Qe h).imp λbR H Q ⟨Z,g,ρ,s,R,h⟩=>by
  simp only[aK] at h;refine jo hP s R (.refl _ _) h λds g1 bJ H1 vs e1 R1 r1 h=>?_;obtain⟨d',g',⟨hz,rfl,rfl⟩,q⟩:=h;exact⟨by rw[<- r1.length];exact m5 (aG hz (by decide)),λp hp=>(q.ext e1).new R1 hp r1⟩
theorem K7:PA X [] (LA X.K Ξ (cW P .nil)) :=
 (W8 (X:=X)).imp λbR H Q ⟨Z,g,ρ,s,R,h⟩=>by
  simp only[cW] at h;exact h ρ H [] (.refl _ _) R .nil
theorem B8{es:List Expr}{gz:ME}(ha:PE X a (LE X.K Ξ (aK P ma)))(h:PA X es (LA X.K Ξ (cW P gz)))(hs:starEach (a::es) X.env=(false,eval a X.env)::starEach es X.env):PA X (a::es) (LA X.K Ξ (cW P (.cons ma gz))) :=
 (P7 ha h hs).imp λbR H Q ⟨Z,g,ρ,s,R,h⟩=>by
  simp only[cW] at h;exact eX hP s R (.refl _ _) h λx g1 bJ H1 v1 e1 R1 r1 h=>jo hP (s.ext e1) R1 e1 h λxs g2 et H2 vs e2 R2 r2 h=>h et H2 _ (e1.trans e2) R2 (.cons (r1.ext e2) r2)
theorem Xh{p2:Pos}(ha:PE X a (LE X.K Ξ (aK P ma))):PE X (.Subscript a (.Slice none none none p2) pos) (LE X.K Ξ (aK P (.prim (.kf false false) (.cons ma .nil)))) :=
 (BA Co ha xP xP).imp λbR H Q ⟨Z,g,ρ,s,R,h⟩=>by
  simp only[aK,cW] at h;refine eX hP s R (.refl _ _) h λx g1 bJ H1 v1 e1 R1 r1 h=>?_;obtain⟨d',g',⟨x',ex,h⟩,q⟩:=h;cases ex;exact⟨x,g1,bJ,d',g',R1,r1,h,q.ext e1⟩
theorem Xj{p2:Pos}(ha:PE X a (LE X.K Ξ (aK P ma)))(hb:PE X b (LE X.K Ξ (aK P mb))):PE X (.Subscript a (.Slice (some b) none none p2) pos) (LE X.K Ξ (aK P (.prim (.kf true false) (.cons ma (.cons mb .nil))))) :=
 (BA Co ha (IY hb) xP).imp λbR H Q ⟨Z,g,ρ,s,R,h⟩=>by
  simp only[aK,cW] at h;refine eX hP s R (.refl _ _) h λx g1 bJ H1 v1 e1 R1 r1 h=>eX hP (s.ext e1) R1 e1 h λy g2 et H2 v2 e2 R2 r2 h=>?_;obtain⟨d',g',⟨x',i,ex,h⟩,q⟩:=h;cases ex;exact⟨i,r2.i8,x,g2,et,d',g',R2,r1.ext e2,h,q.ext (e1.trans e2)⟩
theorem Xi{p2:Pos}(ha:PE X a (LE X.K Ξ (aK P ma)))(hb:PE X b (LE X.K Ξ (aK P mb))):PE X (.Subscript a (.Slice none (some b) none p2) pos) (LE X.K Ξ (aK P (.prim (.kf false true) (.cons ma (.cons mb .nil))))) :=
 (BA Co ha xP (IY hb)).imp λbR H Q ⟨Z,g,ρ,s,R,h⟩=>by
  simp only[aK,cW] at h;refine eX hP s R (.refl _ _) h λx g1 bJ H1 v1 e1 R1 r1 h=>eX hP (s.ext e1) R1 e1 h λy g2 et H2 v2 e2 R2 r2 h=>?_;obtain⟨d',g',⟨x',i,ex,h⟩,q⟩:=h;cases ex;exact⟨i,r2.i8,x,g2,et,d',g',R2,r1.ext e2,h,q.ext (e1.trans e2)⟩
theorem Ra(ha:PE X a (LE X.K Ξ (aK P ma)))(he:∀whole,isTrue a X.env whole=(do let v <- whole;standAt a.pos;holding [v] (truthy v))):PT X a (LT X.K Ξ (cA P (.fP ma))) :=
 (a13 ha he).imp λbR H Q ⟨Z,g,ρ,s,R,h⟩=>by
  simp only[cA] at h;refine eX hP s R (.refl _ _) h λx g1 bJ H1 v1 e1 R1 r1 h=>?_;obtain⟨b,h1,h2⟩:=h;exact⟨b,Rq R1 r1 h1,h2 bJ H1 e1 R1⟩
theorem QY(ha:PT X a (LT X.K Ξ (cA P ma))):PT X (.UnaryOp .Not a pos) (LT X.K Ξ (cA P (.eL ma))) :=
 (Qt ha).imp λbR H Q ⟨Z,g,ρ,s,R,h⟩=>by
  simp only[cA] at h;exact nP hP s R (.refl _ _) h λt g1 bJ H1 e1 R1 h=>h bJ H1 e1 R1
theorem Rc{rest:List Expr}(ha:PT X a (LT X.K Ξ (cA P ma)))(hb:PW X (.BoolOp .And (b::rest) pos) (LT X.K Ξ (cA P mb))):PW X (.BoolOp .And (a::b::rest) pos) (LT X.K Ξ (cA P (.dG ma mb))) :=
 (Qu ha hb).imp λbR H Q ⟨Z,g,ρ,s,R,h⟩=>by
  simp only[cA] at h;refine nP hP s R (.refl _ _) h λt g1 bJ H1 e1 R1 h=>?_;cases t
  ·exact h bJ H1 e1 R1
  ·exact nP hP (s.ext e1) R1 e1 h λt g2 et H2 e2 R2 h=>h et H2 (e1.trans e2) R2
theorem Oh{rest:List Expr}(ha:PT X a (LT X.K Ξ (cA P ma)))(hb:PW X (.BoolOp .Or (b::rest) pos) (LT X.K Ξ (cA P mb))):PW X (.BoolOp .Or (a::b::rest) pos) (LT X.K Ξ (cA P (.jt ma mb))) :=
 (Ww ha hb).imp λbR H Q ⟨Z,g,ρ,s,R,h⟩=>by
  simp only[cA] at h;refine nP hP s R (.refl _ _) h λt g1 bJ H1 e1 R1 h=>?_;cases t
  ·exact nP hP (s.ext e1) R1 e1 h λt g2 et H2 e2 R2 h=>h et H2 (e1.trans e2) R2
  ·exact h bJ H1 e1 R1
theorem Ts:kz X [] (LT X.K Ξ (cA P .no)) :=
 (SO (X:=X)).imp λbR H Q ⟨Z,g,ρ,s,R,h⟩=>by
  simp only[cA] at h;exact h ρ H (.refl _ _) R
theorem QC{x:Str}{v:Value}{es:List Expr}{gz:ME}{q:Pos}(hv:(∃id,v=.builtin id)\/∃T,v=.type T)(hc:m8 X v (rN X.K p))(hg:Gl X x)(hm:X.mg x=none)(hb:bootBuiltins x=some v)(ha:PA X (e::es) (LA X.K Ξ (cW P gz)))(hn:x≠"__name__")(hd:(x==("__debug__":Str))=false)(fq:starEach (e::es) X.env=(false,eval e X.env)::starEach es X.env)(fS:(backTo pos (starEach es X.env)).any (·.1)=false):PE X (.Call (.Name x q) (e::es) [] pos) (LE X.K Ξ (aK P (.prim p gz))):=by
 have base:PE X (.Call (.Name x q) (e::es) [] pos) (yD (rN X.K p) (LA X.K Ξ (cW P gz))):=by
  rcases hv with⟨id,rfl⟩|⟨T,rfl⟩
  ·exact Y9 hc hg hm hb ha hn hd fq fS
  ·exact N8 hc hg hm hb ha hn hd fq fS
 refine base.imp λbR H Q ⟨Z,g,ρ,s,R,h⟩=>?_;simp only[aK] at h;exact jo hP s R (.refl _ _) h λxs g1 bJ H1 vs e1 R1 r1 h=>⟨xs,g1,bJ,R1,r1,t8 (λd g' h=>h.ext e1) h⟩
theorem Td{o:Expr}{es:List Expr}{mo gz:ME}{T:String}{name:Str}{id:String}{apos:Pos}(pa:PlainAttrs T)(slot:Slot T name id)(ni:typeOf (.builtin id)=pure (.type "method_descriptor"))(hm:mH X id (rM X.K p))(hk:∀{d:D} {v:V} {g:G} {ρ:List Addr} {H:Hp},Rl X.K ρ g H->f7 X.K ρ H d v->lq p d g->mL X.K T v H)(ho:PE X o (LE X.K Ξ (aK P mo)))(ha:PA X (e::es) (LA X.K Ξ (cW P gz)))(iz:attributeBase o name X.env (eval o X.env)=eval o X.env)(pS:((backTo pos (starEach (e::es) X.env)).all (λx=>!x.1)&&(backToKw pos (keywordEach [] X.env)).all (λx=>x.1.isSome)&&decide ((e::es).length+([]:List Keyword).length+(if([]:List Keyword).isEmpty then 0 else 1)<30))=true)(iy:(apos.endLine==pos.line)=true)(hs:starEach (e::es) X.env=(false,eval e X.env)::starEach es X.env)(fU:(backTo pos (starEach es X.env)).any (·.1)=false) :
  PE X (.Call (.Attribute o name apos) (e::es) [] pos) (LE X.K Ξ (aK P (.eA p mo gz))) :=
 (Wn pa slot ni hm ho ha iz pS iy hs fU).imp λbR H Q ⟨Z,g,ρ,s,R,h⟩=>by
  simp only[aK] at h;exact eX hP s R (.refl _ _) h λx g1 bJ H1 v1 e1 R1 r1 h=>⟨hk R1 r1 h.1,jo hP (s.ext e1) R1 e1 h.2 λxs g2 et H2 ws e2 R2 r2 h =>
   ⟨x,xs,g2,et,R2,r1.ext e2,r2,t8 (λd g' h=>h.ext (e1.trans e2)) h⟩⟩
theorem a00{o:Expr}{mo:ME}{T:String}{name:Str}{id:String}{apos:Pos}(pa:PlainAttrs T)(slot:Slot T name id)(ni:typeOf (.builtin id)=pure (.type "method_descriptor"))(hm:mH X id (rM X.K p))(hk:∀{d:D} {v:V} {g:G} {ρ:List Addr} {H:Hp},Rl X.K ρ g H->f7 X.K ρ H d v->lq p d g->mL X.K T v H)(ho:PE X o (LE X.K Ξ (aK P mo)))(iz:attributeBase o name X.env (eval o X.env)=eval o X.env)(iy:(apos.endLine==pos.line)=true) :
  PE X (.Call (.Attribute o name apos) [] [] pos) (LE X.K Ξ (aK P (.eA p mo .nil))) :=
 (Qa pa slot ni hm ho iz iy).imp λbR H Q ⟨Z,g,ρ,s,R,h⟩=>by
  simp only[aK,cW] at h;exact eX hP s R (.refl _ _) h λx g1 bJ H1 v1 e1 R1 r1 h=>⟨hk R1 r1 h.1,x,[],g1,bJ,R1,r1,.nil,t8 (λd g' h=>h.ext e1) h.2⟩
theorem a03{q p2 iW:Pos}(hc:X.calm=true)(ha:PE X a (LE X.K Ξ (aK P ma)))(ml:Gl X "list")(mh:X.mg "list"=none)(hg:Gl X "range")(hm:X.mg "range"=none)(hs:starEach [a] X.env=[(false,eval a X.env)]) :
  PE X (.Call (.Name "list" p2) [.Call (.Name "range" q) [a] [] pos] [] iW) (LE X.K Ξ (aK P (.prim .iP (.cons ma .nil)))) :=
 (N8 (HY hc) ml mh (by first|exact eF|decide +kernel) (P7 (Ym hg hm (B8 hP ha (K7 hP) (by rw[hs];rfl)) hs) W8)).imp λbR H Q ⟨Z,g,ρ,s,R,h⟩=>by
  simp only[aK] at h;refine jo hP s R (.refl _ _) h λxs g1 bJ H1 vs e1 R1 r1 h=>?_;obtain⟨d',g',⟨j,rfl,h1,h2,rfl,rfl⟩,q⟩:=h;obtain⟨v,rfl,rv⟩:=r1.one;obtain rfl:=rv.i8;refine⟨j,rfl,λq' hq=>⟨q',0,j,rfl,s9,⟨by omega,by omega,h1,by omega,by omega⟩,λp hp=>?_⟩⟩;rw[show(j-0).toNat=j.toNat by omega];exact(q.ext (e1.trans (A6 hq))).new (R1.grow hq) hp (c6.lg 0 _)
theorem a02{q p2 iW:Pos}(hc:X.calm=true)(ha:PE X a (LE X.K Ξ (aK P ma)))(hb:PE X b (LE X.K Ξ (aK P mb)))(ml:Gl X "list")(mh:X.mg "list"=none)(hg:Gl X "range")(hm:X.mg "range"=none)(hs:starEach [a,b] X.env=[(false,eval a X.env),(false,eval b X.env)])(iE:starEach [b] X.env=[(false,eval b X.env)]) :
  PE X (.Call (.Name "list" p2) [.Call (.Name "range" q) [a,b] [] pos] [] iW) (LE X.K Ξ (aK P (.prim .jx (.cons ma (.cons mb .nil))))) :=
 (N8 (HY hc) ml mh (by first|exact eF|decide +kernel) (P7 (Yn hg hm (B8 hP ha (B8 hP hb (K7 hP) (by rw[iE];rfl)) (by rw[hs,iE])) hs iE) W8)).imp λbR H Q ⟨Z,g,ρ,s,R,h⟩=>by
  simp only[aK] at h;refine jo hP s R (.refl _ _) h λxs g1 bJ H1 vs e1 R1 r1 h=>?_;obtain⟨d',g',⟨i,j,rfl,hb,rfl,rfl⟩,q⟩:=h;obtain⟨v,w,rfl,rv,fz⟩:=r1.two;obtain rfl:=rv.i8;obtain rfl:=fz.i8;exact⟨i,j,rfl,λq' hq=>⟨q',i,j,rfl,s9,hb,λp hp=>(q.ext (e1.trans (A6 hq))).new (R1.grow hq) hp (c6.lg i _)⟩⟩
theorem Tf{q p2 iW:Pos}(hc:X.calm=true)(ha:PE X a (LE X.K Ξ (aK P ma)))(ml:Gl X "sorted")(mh:X.mg "sorted"=none)(hg:Gl X "set")(hm:X.mg "set"=none)(hs:starEach [a] X.env=[(false,eval a X.env)]) :
  PE X (.Call (.Name "sorted" p2) [.Call (.Name "set" q) [a] [] pos] [] iW) (LE X.K Ξ (aK P (.prim .sset (.cons ma .nil)))) :=
 (Y9 (U5 hc) ml mh (by first|exact pe|decide +kernel) (P7 (N8 (HU hc) hg hm (by first|exact vI|decide +kernel) (B8 hP ha (K7 hP) (by rw[hs];rfl)) (by decide) (by decide) (by rw[hs];rfl) rfl) W8)).imp λbR H Q ⟨Z,g,ρ,s,R,h⟩=>by
  simp only[aK] at h;refine jo hP s R (.refl _ _) h λxs g1 bJ H1 vs e1 R1 r1 h=>?_;obtain⟨d',g',⟨i,ns,rfl,hl,hz,rfl,rfl⟩,q⟩:=h;obtain⟨v,rfl,rv⟩:=r1.one;obtain⟨a',rfl,ra⟩:=rv.j8;obtain⟨ws,hq,rs⟩:=R1.items hl ra;obtain rfl:=rs.ints;refine⟨_,ns,rfl,hq,hz,λq' lY=>⟨q',ns,rfl,s9,hz,λp hp=>?_⟩⟩;exact(q.ext (e1.trans (A6 lY))).new (R1.grow lY) hp (c6.ofInts _)
theorem Tb{q p2 iW:Pos}(hc:X.calm=true)(ha:PE X a (LE X.K Ξ (aK P ma)))(ml:Gl X "len")(mh:X.mg "len"=none)(hg:Gl X "set")(hm:X.mg "set"=none)(hs:starEach [a] X.env=[(false,eval a X.env)]) :
  PE X (.Call (.Name "len" p2) [.Call (.Name "set" q) [a] [] pos] [] iW) (LE X.K Ξ (aK P (.prim .rL (.cons ma .nil)))) :=
 (Y9 WJ ml mh PySem.boot_len (P7 (N8 (HU hc) hg hm (by first|exact vI|decide +kernel) (B8 hP ha (K7 hP) (by rw[hs];rfl)) (by decide) (by decide) (by rw[hs];rfl) rfl) W8)).imp λbR H Q ⟨Z,g,ρ,s,R,h⟩=>by
  simp only[aK] at h;refine jo hP s R (.refl _ _) h λxs g1 bJ H1 vs e1 R1 r1 h=>?_;obtain⟨d',g',⟨i,ns,rfl,hl,hz,rfl,rfl⟩,q⟩:=h;obtain⟨v,rfl,rv⟩:=r1.one;obtain⟨a',rfl,ra⟩:=rv.j8;obtain⟨ws,hq,rs⟩:=R1.items hl ra;obtain rfl:=rs.ints;refine⟨_,ns,rfl,hq,hz,λq' lY=>⟨q',_,rfl,s9,?_⟩⟩;exact(q.ext (e1.trans (A6 lY))).now (R1.grow lY) (.int _)
theorem Te{i:Int}{j:Nat}{q:Pos}(mq:PySem.W.kdsCode X.K X.env.code=true):PE X (.Set [.Constant (.int i) j q] 0 pos) (LE X.K Ξ (aK P (.prim (.jq i) .nil))) :=
 (SF mq).imp λbR H Q ⟨Z,g,ρ,s,R,h⟩=>by
  simp only[aK,cW] at h;obtain⟨d',g',⟨_,rfl,rfl⟩,q⟩:=h;exact λp hp=>q (ρ++[p]) _ _ (M5 hp) (R.new hp (o:=.set (λk=>decide (k=i)) 1) (u:=.set (λk=>decide (k=i)) 1) ⟨rfl,rfl⟩) (.ref (R.C2 p))
theorem QE{f:Str}(ha:PE X a (LE X.K Ξ (aK P ma)))(hb:attributeBase a f X.env (eval a X.env)=eval a X.env):PE X (.Attribute a f pos) (LE X.K Ξ (aK P (.prim (.fld f) (.cons ma .nil)))) :=
 (Qb ha hb).imp λbR H Q ⟨Z,g,ρ,s,R,h⟩=>by
  simp only[aK,cW] at h;refine eX hP s R (.refl _ _) h λx g1 bJ H1 v1 e1 R1 r1 h=>?_;obtain⟨d',g',⟨i,c,fs,ex,hi,hf,rfl⟩,q⟩:=h;cases ex;obtain⟨a',rfl,ra⟩:=r1.j8;obtain⟨C,dx,vs,hH,_,hC,rk,na⟩:=R1.ins hi ra;have lk:=rk.look f;rw[hf] at lk;obtain⟨v,hv,rv⟩:=lk.some;exact⟨a',C,dx,vs,v,rfl,hH,hC,na _ (aM hf),hv,q bJ H1 v e1 R1 rv⟩
end
section
variable{X:Cx}{Ξ:gA}{P:eT}{a b c:Expr}{ma mb mc:ME}{pos:Pos}
theorem QK{i:Nat}{x:Str}(hN:X.N[i]?=some x)(hv:vx X.env.scope x)(hd:(x==("__debug__":Str))=false)(ka:(x==("__classdict__":Str))=false):PE X (.Name x pos) (LE X.K Ξ (aK P (.var i))) :=
 (Qj hN hv hd ka).imp λbR H Q ⟨Z,g,ρ,s,R,h⟩=>by
  simp only[aK] at h;obtain⟨d,e,h⟩:=h;obtain⟨v,h1,h2⟩:=s.val _ _ e;exact⟨v,h1,h.now R h2⟩
theorem Q8{e:Expr}{d:D}{v:V}(h:PE X e (tC v))(r:∀ρ H,f7 X.K ρ H d v):PE X e (LE X.K Ξ (aK P (.lit d))) :=
 h.imp λbR H Q ⟨Z,g,ρ,s,R,h⟩=>by
  simp only[aK] at h;exact LQ.now h R (r ρ H)
theorem SX:PE X (.Dict [] [] pos) (LE X.K Ξ (aK P (.prim .nJ .nil))) :=
 (a29 (X:=X)).imp λbR H Q ⟨Z,g,ρ,s,R,h⟩ p hp=>by
  simp only[aK,cW] at h;obtain⟨d',g',⟨_,rfl,rfl⟩,q⟩:=h;exact q (ρ++[p]) _ _ (M5 hp) (R.new hp (o:=.dC []) (u:=.dK []) i6.nil) (.ref (R.C2 p))
end
end M

namespace L2
open PySem PySem.Spec PyProof.Rows
section
variable{X:Cx}{m:Str}{pos apos:Pos}{e o:Expr}{es:List Expr}{ta:TE}{t:TA}
end
end L2
namespace M
open PySem L2 PySem.Spec PyProof.Rows
inductive oO(K:PySem.W.Frag):List D->List (Str×V)->Prop
 |nil:oO K [] []
 |cons {x:Str} {d:D} {v:V} {ds:List D} {vs:List (Str×V)} (h:∀ρ H,f7 K ρ H d v) (r:oO K ds vs):oO K (.tup [.str x,d]::ds) ((x,v)::vs)
theorem oO.look{K:PySem.W.Frag}{ρ:List Addr}{H:Hp}{ds vs}(x:Str)(h:oO K ds vs):qE K ρ H (N4 ds x) (vs.lookup x):=by
 induction h with
 |nil=>trivial
 |cons h r ih =>
  rename_i y d v ds vs;unfold N4;rw[cw];by_cases e:x=y
  ·rw[aF e,show(x==y)=true from by simp[e]];exact h ρ H
  ·rw[az e,show(x==y)=false from by simpa using e];exact ih
noncomputable def wX(X:Cx)(x:Str)(kvs:List D):Prop:=∃A vs,X.mg x=some (.ref A)/\vb X.K X.w.params A vs/\oO X.K kvs vs
noncomputable def xg(neg:Bool):Pr:=if neg then .uD else .Fb
theorem IL{neg:Bool}:PR (xg neg)=CZ neg:=by cases neg<;>rfl
theorem YA(a b c:Str):a++b++c=a++(b++c):=by
 cases a;cases b;cases c;show Str.mk _=Str.mk _;exact fI Str.mk (Ks ..)
theorem Tr(x:Str):x++Str.empty=x:=by cases x;show Str.mk _=_;simp[Str.empty]
theorem Sm(x:Str):Str.empty++x=x:=by cases x;show Str.mk _=_;simp[Str.empty]
section
variable{X:Cx}{Ξ:gA}{P:eT}(hP:i7 P){a b c:Expr}{ma mb mc:ME}{pos:Pos}
include hP
theorem QF{x:Str}{p:Pos}{kvs:List D}{neg:Bool}(hg:Gl X x)(hd:(x==("__debug__":Str))=false)(hG:wX X x kvs)(ha:PE X a (LE X.K Ξ (aK P ma)))(hm:behindInMarks (if neg then .NotIn else .In) (.Name x p)=false) :
  PE X (.Compare a [if neg then .NotIn else .In] [.Name x p] pos) (LE X.K Ξ (aK P (.prim (xg neg) (.cons (.lit (.tup kvs)) (.cons ma .nil))))):=by
 obtain⟨A,vs,hmg,hk,gr⟩:=hG;refine(IV (Io (kvs:=vs) neg) ha (xO (v:=.ref A) hg hmg rfl hd) hm).imp λbR H Q ⟨Z,g,ρ,s,R,h⟩=>?_;simp only[aK,cW] at h;refine eX hP s R (.refl _ _) h λd g1 bJ H1 v1 e1 R1 r1 h=>?_;obtain⟨d',g',h,q⟩:=h;rw[IL] at h;obtain⟨ir,z,ex,rfl,rfl⟩:=h;cases ex;obtain rfl:=r1.C7;refine⟨A,z,rfl,hk,rfl,?_⟩;rw[<- (gr.look (ρ:=bJ) (H:=H1) z).isSome];exact q bJ H1 _ e1 R1 (.bl _)
theorem QV{x:Str}{p:Pos}{kvs:List D}{neg:Bool}(hg:Gl X x)(hd:(x==("__debug__":Str))=false)(hG:wX X x kvs)(ha:PE X a (LE X.K Ξ (aK P ma)))(hm:behindInMarks (if neg then .NotIn else .In) (.Name x p)=false) :
  PT X (.Compare a [if neg then .NotIn else .In] [.Name x p] pos) (LT X.K Ξ (cA P (.fP (.prim (xg neg) (.cons (.lit (.tup kvs)) (.cons ma .nil)))))):=by
 obtain⟨A,vs,hmg,hk,gr⟩:=hG;refine(IZ (Io (kvs:=vs) neg) ha (xO (v:=.ref A) hg hmg rfl hd) hm).imp λbR H Q ⟨Z,g,ρ,s,R,h⟩=>?_;simp only[cA,aK,cW] at h;refine eX hP s R (.refl _ _) h λd g1 bJ H1 v1 e1 R1 r1 h=>?_;obtain⟨d',g',h,t,ht,q⟩:=h;rw[IL] at h;obtain⟨ir,z,ex,rfl,rfl⟩:=h;cases ex;obtain rfl:=r1.C7;refine⟨A,z,rfl,hk,rfl,t,?_,q bJ H1 e1 R1⟩;rw[<- (gr.look (ρ:=bJ) (H:=H1) z).isSome];rcases ht with⟨z,_⟩|z|⟨i,z,_⟩|⟨l,z,_⟩|⟨a,l,z,_⟩<;>cases z
 rfl
theorem Ta{x:Str}{p:Pos}{kvs:List D}(hg:Gl X x)(hd:(x==("__debug__":Str))=false)(hG:wX X x kvs)(ha:PE X a (LE X.K Ξ (aK P ma)))(hs:AZ a):PE X (.Subscript (.Name x p) a pos) (LE X.K Ξ (aK P (.prim .mD (.cons (.lit (.tup kvs)) (.cons ma .nil))))):=by
 obtain⟨A,vs,hmg,hk,gr⟩:=hG;refine(JK (VR (kvs:=vs)) (xO (v:=.ref A) hg hmg rfl hd) ha hs).imp λbR H Q ⟨Z,g,ρ,s,R,h⟩=>?_;simp only[aK,cW] at h;refine eX hP s R (.refl _ _) h λd g1 bJ H1 v1 e1 R1 r1 h=>?_;obtain⟨d',g',⟨ir,z,ex,hz,rfl⟩,q⟩:=h;cases ex;obtain rfl:=r1.C7;have lk:=gr.look (ρ:=bJ) (H:=H1) z;rw[hz] at lk;obtain⟨w,hw,lk⟩:=lk.some;exact⟨A,z,w,rfl,hk,rfl,hw,q bJ H1 _ e1 R1 lk⟩
theorem Oc(ha:PE X a (LE X.K Ξ (aK P ma))):PE X (.FormattedValue a (-1) none pos) (LE X.K Ξ (aK P (.prim .fv (.cons ma .nil)))) :=
 (Wo ha).imp λbR H Q ⟨Z,g,ρ,s,R,h⟩=>by
  simp only[aK,cW] at h;refine eX hP s R (.refl _ _) h λd g1 bJ H1 v1 e1 R1 r1 h=>?_;obtain⟨d',g',⟨rfl,h⟩,q⟩:=h;rcases h with⟨i,ex,h1,rfl⟩|⟨z,ex,h1,rfl⟩
  ·cases ex;exact .inl ⟨i,r1.i8,h1,q bJ H1 _ e1 R1 (.str _)⟩
  ·cases ex;exact .inr ⟨z,r1.C7,m5 (by omega),q bJ H1 _ e1 R1 (.str _)⟩
omit hP in
inductive lA(X:Cx)(Ξ:gA)(P:eT):List Expr->ME->List TE->Prop
 |nil:lA X Ξ P [] .nil []
 |lit {x:Str} {j:Nat} {p:Pos} {es:List Expr} {ms:ME} {ts:List TE} (hx:x.length<=2000) (r:lA X Ξ P es ms ts):lA X Ξ P (.Constant (.str x) j p::es) (.cons (.lit (.str x)) ms) (LE X.K Ξ (aK P (.lit (.str x)))::ts)
 |val {e:Expr} {m:ME} {p:Pos} {es:List Expr} {ms:ME} {ts:List TE} (he:PE X e (LE X.K Ξ (aK P m))) (r:lA X Ξ P es ms ts):lA X Ξ P (.FormattedValue e (-1) none p::es) (.cons (.prim .fv (.cons m .nil)) ms) (LE X.K Ξ (aK P (.prim .fv (.cons m .nil)))::ts)
theorem lA.Lj{es ms ts}(h:lA X Ξ P es ms ts):si X es ts:=by
 induction h with
 |nil=>exact .nil
 |lit hx r ih=>exact .cons (Q8 Ip λ_ _=>.str _) ih
 |val he r ih=>exact .cons (Oc hP he) ih
theorem lA.join{bR:L2.St}{Q:Str->Hp->Prop}{es ms ts}(hf:lA X Ξ P es ms ts):∀{Z:S} {g:G} {ρ:List Addr} {H:Hp} {acc:Str},acc.length+2000*es.length<=100000->n5 X.K ρ H Z bR->Rl X.K ρ g H ->
  cW P ms Z g (λds g1=>∃x,U3 ds=some x/\∀bA H',Ext ρ H bA H'->Rl X.K bA g1 H'->Q (acc++x) H') (LX X.K ρ H Ξ)->xn ts bR H acc (λout H1=>out.length<=sizeLine/\Q out H1):=by
 have tl:∀{acc y:Str} {ρ:List Addr} {H:Hp} {bJ:List Addr} {H1:Hp} {ds:List D} {g1:G},Ext ρ H bJ H1->(∃x,U3 (.str y::ds)=some x/\∀bA H',Ext ρ H bA H'->Rl X.K bA g1 H'->Q (acc++x) H')->∃x,U3 ds=some x/\∀bA H',Ext bJ H1 bA H'->Rl X.K bA g1 H'->Q (acc++y++x) H':=by
  intro acc y ρ H bJ H1 ds g1 e1 h;obtain⟨x,hx,h⟩:=h;simp only[U3] at hx;cases hj:U3 ds with
  |none=>rw[hj] at hx;cases hx
  |some x' =>
   rw[hj] at hx;cases hx;refine⟨x',rfl,λbA H' e' R'=>?_⟩;rw[YA];exact h bA H' (e1.trans e') R'
 induction hf with
 |nil =>
  intro Z g ρ H acc ha s R h;simp only[cW] at h;obtain⟨x,hx,h⟩:=h;cases hx;rw[Tr] at h;exact⟨m5 (by simpa using ha),h ρ H (.refl _ _) R⟩
 |lit hx r ih =>
  rename_i y j p es ms ts;intro Z g ρ H acc ha s R h;simp only[cW,aK] at h;refine⟨Z,g,ρ,s,R,?_⟩;simp only[aK];intro bJ H1 v1 e1 R1 r1;obtain rfl:=r1.C7;have hl:(acc++y).length<=acc.length+2000:=by rw[strLen_append];omega
  simp only[List.length_cons] at ha;exact⟨y,rfl,m5 (by omega),ih (by omega) (s.ext e1) R1 (w6 hP _ _ _ _ _ _ _ (λds g1 h=>tl e1 h) (λ_ _ z=>LX.ext e1 z) h)⟩
 |val he r ih =>
  rename_i e m p es ms ts;intro Z g ρ H acc ha s R h;simp only[cW,aK] at h;refine⟨Z,g,ρ,s,R,?_⟩;simp only[aK,cW];simp only[List.length_cons] at ha;refine b9 hP m _ _ _ _ _ _ (λd g1 h=>?_) (λ_ _ z=>z) h;obtain⟨d',g',⟨rfl,h⟩,q⟩:=h;have hy:∃y,d'=.str y/\y.length<=2000:=by
   rcases h with⟨i,ex,h1,rfl⟩|⟨z,ex,h1,rfl⟩
   ·exact⟨_,rfl,by rw[PySem.ofString_length];have:=int_text_length_le (k:=1920) (by decide) h1;omega⟩
   ·exact⟨z,rfl,h1⟩
  obtain⟨y,rfl,hy⟩:=hy;refine⟨_,_,⟨rfl,h⟩,λbJ H1 v1 e1 R1 r1=>?_⟩;obtain rfl:=r1.C7;have hl:(acc++y).length<=acc.length+2000:=by rw[strLen_append];omega
  exact⟨y,rfl,m5 (by omega),ih (by omega) (s.ext e1) R1 (w6 hP _ _ _ _ _ _ _ (λds g1 h=>tl e1 h) (λ_ _ z=>LX.ext e1 z) q)⟩
theorem SY{kG kF:Expr}{rest:List Expr}{ms:ME}{ts:List TE}(h:lA X Ξ P (kG::kF::rest) ms ts)(hl:(kG::kF::rest).length<=40):PE X (.JoinedStr (kG::kF::rest) pos) (LE X.K Ξ (aK P (.prim .kP ms))) :=
 (SD (h.Lj hP)).imp λbR H Q ⟨Z,g,ρ,s,R,hw⟩=>by
  simp only[aK] at hw;refine lA.join hP h (Q:=λout H1=>Q (.str out) H1) (acc:=Str.empty) ?_ s R (w6 hP ms _ _ _ _ _ _ (λds g1 hw=>?_) (λ_ _ z=>z) hw)
  ·have:Str.empty.length=0:=rfl;omega
  ·obtain⟨d',g',⟨x,hx,rfl,rfl⟩,q⟩:=hw;refine⟨x,hx,λbA H' e' R'=>?_⟩;rw[Sm];exact q bA H' _ e' R' (.str _)
omit hP in
noncomputable def nU(ex:List Str)(K:PySem.W.Frag)(n:Nat)(t:List D->G->KD->KX->Prop):Sp:=λvs H Q E=>vs.length=n/\∃ds g ρ,c6 K ρ H ds vs/\Rl K ρ g H/\t ds g (LQ K ρ H Q) (LX K ρ H (ex,E))
omit hP in
noncomputable def oZ(X:Cx)(P:eT)(ex:List Str)(k f:Nat)(fa:Addr)(fd:FuncData)(ps:List Str):Prop :=
 gY X.prog X.w X.K X.mg X.base (iG X.prog X.w) k fa fd ps (nU ex X.K ps.length (P f))/\Binds X.K fd ps []/\∀ds g Q E,P f ds g Q E->ds.length=ps.length
theorem JQ{k f:Nat}{fa:Addr}{fd:FuncData}{ps:List Str}(F:oZ X P Ξ.1 k f fa fd ps){ρ fy:List Addr}{H H0:Hp}{g:G}{xs:List D}{vs:List V}{Q0:KD}{Q:VK}(e0:Ext fy H0 ρ H)(R:Rl X.K ρ g H)(r:c6 X.K ρ H xs vs)(h:P f xs g Q0 (LX X.K fy H0 Ξ))(k:∀d g',Q0 d g'->LQ X.K ρ H Q d g'):nU Ξ.1 X.K ps.length (P f) (vs++[]) H Q Ξ.2:=by
 rw[fo];exact⟨by rw[<- r.length];exact F.2.2 _ _ _ _ h,xs,g,ρ,r,R,hP _ _ _ _ _ _ _ k (λ_ _ z=>LX.ext e0 z) h⟩
theorem SW{k f:Nat}{x:Str}{fa:Addr}{fd:FuncData}{ps:List Str}{es:List Expr}{e:Expr}{gz:ME}{p:Pos}(hx:Passes (iG X.prog X.w) X Ξ.2)(F:oZ X P Ξ.1 k f fa fd ps)(hr:v9 k X.A)(hg:Gl X x)(hm:X.mg x=some (.ref fa))(hk:PySem.W.keepIn X.K (.ref fa)=true)(ha:PA X (e::es) (LA X.K Ξ (cW P gz)))(hd:(x==("__debug__":Str))=false)(fq:starEach (e::es) X.env=(false,eval e X.env)::starEach es X.env)(fS:(backTo pos (starEach es X.env)).any (·.1)=false):PE X (.Call (.Name x p) (e::es) [] pos) (LE X.K Ξ (aK P (.call f gz))) :=
 (Sz F.1 hr hg hm hk F.2.1 .nil hx ha hd fq fS).imp λbR H Q ⟨Z,g,ρ,s,R,h⟩=>by
  simp only[aK] at h;exact jo hP s R (.refl _ _) h λxs g1 bJ H1 vs e1 R1 r1 h=>JQ hP F e1 R1 r1 h λd g' h=>h.ext e1
theorem IQ{c:Str}{f k:Nat}{C fa:Addr}{fd:FuncData}{ps:List Str}(F:oZ X P Ξ.1 k f fa fd ps)(hC:u4 X.K c C)(hc:jh X.K C){ρ fy:List Addr}{H H0:Hp}{g1:G}{xs:List D}{vs:List V}{Q:VK}(e0:Ext fy H0 ρ H)(R:Rl X.K ρ g1 H)(r:c6 X.K ρ H xs vs)(h:P f (.ref g1.length::xs) (g1++[.ins c []]) (λd g2=>d=.bD/\LQ X.K fy H0 Q (.ref g1.length) g2) (LX X.K fy H0 Ξ)):∀x dx,H x=none->H dx=none->dx≠x->nU Ξ.1 X.K ps.length (P f) (.ref x::(vs++[])) (upd (upd H dx (.own x)) x (.ins C dx [])) (λv H2=>v=.bD/\Q (.ref x) H2) Ξ.2:=by
 intro x dx hx EH dw;have oj:upd H dx (.own x) x=none:=by rw[i0 (bC dw)];exact hx
 have R2:=R.grow (o:=.own x) EH;have e2:Ext ρ H ρ (upd H dx (.own x)):=A6 EH;have R3:=R2.new (o:=.ins c []) (u:=.ins C dx []) oj ⟨hC,hc,.nil,λx hx=>absurd hx (by simp)⟩;have e3:Ext ρ (upd H dx (.own x)) (ρ++[x]) (upd (upd H dx (.own x)) x (.ins C dx [])):=M5 oj;have:=JQ hP F (e0.trans (e2.trans e3)) R3 (.cons (.ref (R.C2 x)) (r.ext (e2.trans e3))) h (Q:=λv H2=>v=.bD/\Q (.ref x) H2) λd g' q bA H' v e' R' r'=>by
  obtain⟨rfl,q⟩:=q;exact⟨r'.xw,q bA H' _ (e0.trans (e2.trans (e3.trans e'))) R' (.ref (e'.get (R.C2 x)))⟩
 exact this
theorem Tc{k f:Nat}{x:Str}{C fa:Addr}{fd:FuncData}{ps:List Str}{es:List Expr}{e:Expr}{gz:ME}{p:Pos}(hx:Passes (iG X.prog X.w) X Ξ.2)(F:oZ X P Ξ.1 k f fa fd ps)(M:Mk X.K C fa)(hC:u4 X.K x C)(hc:jh X.K C)(hr:v9 (k+1) X.A)(hg:Gl X x)(hm:X.mg x=some (.ref C))(ha:PA X (e::es) (LA X.K Ξ (cW P gz)))(hd:(x==("__debug__":Str))=false)(fq:starEach (e::es) X.env=(false,eval e X.env)::starEach es X.env)(fS:(backTo pos (starEach es X.env)).any (·.1)=false):PE X (.Call (.Name x p) (e::es) [] pos) (LE X.K Ξ (aK P (.make x f gz))) :=
 (SE M F.1 hr hg hm F.2.1 .nil hx ha hd fq fS).imp λbR H Q ⟨Z,g,ρ,s,R,h⟩=>by
  simp only[aK] at h;exact jo hP s R (.refl _ _) h λxs g1 bJ H1 vs e1 R1 r1 h=>IQ hP F hC hc e1 R1 r1 h
theorem a01{k f:Nat}{x:Str}{C fa:Addr}{fd:FuncData}{ps:List Str}{p:Pos}(hx:Passes (iG X.prog X.w) X Ξ.2)(F:oZ X P Ξ.1 k f fa fd ps)(M:Mk X.K C fa)(hC:u4 X.K x C)(hc:jh X.K C)(hr:v9 (k+1) X.A)(hg:Gl X x)(hm:X.mg x=some (.ref C))(hd:(x==("__debug__":Str))=false):PE X (.Call (.Name x p) [] [] pos) (LE X.K Ξ (aK P (.make x f .nil))) :=
 (a27 M F.1 hr hg hm F.2.1 .nil hx hd).imp λbR H Q ⟨Z,g,ρ,s,R,h⟩=>by
  simp only[aK,cW] at h;exact IQ hP F hC hc (.refl _ _) R .nil h
end
end M

namespace M
open PySem L2 PySem.Spec PyProof.Rows
inductive jE(K:PySem.W.Frag)(ρ:List Addr)(H:Hp):List D->List (V×V)->Prop
 |nil:jE K ρ H [] []
 |cons {k d:D} {x y:V} {ds:List D} {ps:List (V×V)} (h1:f7 K ρ H k x) (h2:f7 K ρ H d y) (r:jE K ρ H ds ps):jE K ρ H (k::d::ds) ((x,y)::ps)
theorem OQ{K ρ H}{xs:List D}{ps:List (V×V)}(r:jE K ρ H xs ps):∀{acc kvs:List (Key×D)} {accV:List (Key×V)},vq xs acc=some kvs->i6 K ρ H acc accV->∃more:List (Key×V),ps=more.map (λkv=>(kV kv.1,kv.2))/\2*more.length=xs.length/\i6 K ρ H kvs (R0 accV more):=by
 induction r with
 |nil =>
  intro acc kvs accV h ra;cases h;exact⟨[],rfl,rfl,ra⟩
 |cons h1 h2 r ih =>
  rename_i k d x y ds ps;intro acc kvs accV h ra;simp only[vq] at h;cases hk:V6 k with
  |none=>rw[hk] at h;cases h
  |some c =>
   rw[hk] at h;obtain⟨more,e1,e2,r2⟩:=ih (show vq ds (putD acc c d)=some kvs from h) (ra.put h2);have ex:=X5 hk h1;subst ex;refine⟨(c,y)::more,by rw[ba,<- e1],by simp only[List.length_cons];omega,r2⟩
section
variable{X:Cx}{Ξ:gA}{P:eT}(hP:i7 P){pos:Pos}
inductive lB(X:Cx)(Ξ:gA)(P:eT):List (Option Expr)->List Expr->ME->List (TE×TE)->Prop
 |nil:lB X Ξ P [] [] .nil []
 |cons {k v:Expr} {ks:List (Option Expr)} {vs:List Expr} {mk mv ms:ME} {gO:List (TE×TE)} (hk:PE X k (LE X.K Ξ (aK P mk))) (hv:PE X v (LE X.K Ξ (aK P mv))) (r:lB X Ξ P ks vs ms gO) :
   lB X Ξ P (some k::ks) (v::vs) (.cons mk (.cons mv ms)) ((LE X.K Ξ (aK P mk),LE X.K Ξ (aK P mv))::gO)
theorem lB.Li{ks vs ms gO}(h:lB X Ξ P ks vs ms gO):vz X pos ks vs gO:=by
 induction h with
 |nil=>exact SI
 |cons hk hv r ih=>exact a21 hk hv ih
theorem lB.len{ks vs ms gO}(h:lB X Ξ P ks vs ms gO):ks.all (·.isSome)=true/\ks.length=vs.length:=by
 induction h with
 |nil=>exact⟨rfl,rfl⟩
 |cons hk hv r ih=>exact⟨by simpa using ih.1,by simp[ih.2]⟩
include hP
theorem lB.pairs{ks vs ms gO}(hd:lB X Ξ P ks vs ms gO):∀{bR:L2.St} {Z:S} {g:G} {ρ fy:List Addr} {H H0:Hp} {Qd:List D->G->Prop} {Q:List (V×V)->Hp->Prop},n5 X.K ρ H Z bR->Rl X.K ρ g H->Ext fy H0 ρ H->cW P ms Z g Qd (LX X.K fy H0 Ξ) ->
  (∀ds g' bA H' ps,Ext ρ H bA H'->Rl X.K bA g' H'->jE X.K bA H' ds ps->Qd ds g'->Q ps H')->xC gO bR H Q:=by
 induction hd with
 |nil =>
  intro bR Z g ρ fy H H0 Qd Q s R e0 h k;simp only[cW] at h;exact k [] g ρ H [] (.refl _ _) R .nil h
 |cons hk hv r ih =>
  intro bR Z g ρ fy H H0 Qd Q s R e0 h k;simp only[cW] at h;refine eX hP s R e0 h λx g1 bJ H1 v1 e1 R1 r1 h=>eX hP (s.ext e1) R1 (e0.trans e1) h λy g2 et H2 v2 e2 R2 r2 h=>?_;refine ih (s.ext (e1.trans e2)) R2 (e0.trans (e1.trans e2)) h λds g' bA H' ps e' R' rp hq=>?_;exact k _ g' bA H' _ (e1.trans (e2.trans e')) R' (.cons (r1.ext (e2.trans e')) (r2.ext e') rp) hq
theorem QD{ks:List (Option Expr)}{vs:List Expr}{ms:ME}{gO:List (TE×TE)}(hd:lB X Ξ P ks vs ms gO)(h0:ks≠[])(oy:ks.length<=15):PE X (.Dict ks vs pos) (LE X.K Ξ (aK P (.oN ms))) :=
 (SA hd.Li hd.len.1 hd.len.2 h0 oy).imp λbR H Q ⟨Z,g,ρ,s,R,h⟩ p hp=>by
  simp only[aK] at h;have e1:Ext ρ H (ρ++[p]) (upd H p (.dK [])):=M5 hp;refine lB.pairs hP hd (s.ext e1) (R.new hp (o:=.dC []) (u:=.dK []) i6.nil) e1 h λds g2 et H2 ps e2 R2 rp hq=>?_;obtain⟨kvs,hk,hz,hg,q⟩:=hq;have tU:et[g.length]?=some p:=e2.get (R.C2 p);obtain⟨vs',hv,rv⟩:=R2.dC hg tU;cases rv;obtain⟨more,em,hl,rk⟩:=OQ rp hk (accV:=[]) .nil;refine⟨hv,more,em,by omega,?_⟩;obtain⟨R3,e3⟩:=R2.put (o':=.dC kvs) (u:=.dK (R0 [] more)) hg rfl tU rk;exact q et _ _ (e1.trans (e2.trans e3)) R3 (.ref tU)
end
end M

namespace M
open PySem L2 PySem.Spec PyProof.Rows
theorem VX{K:PySem.W.Frag}{fy:List Addr}{H0:Hp}{a:Addr}{l:List D}{vs:List V}(ht:TupAt K H0 a vs)(rs:c6 K fy H0 l vs):W3 K fy H0 (.fix l) (Dk K a):=by
 intro ρ g H e R i;have tS:=ht.ext e;have DK:=rs.ext e;refine⟨λh=>⟨vs,tS.sq,?_⟩,λd h=>?_⟩
 ·simp only[IK.at] at h;have:=cK.mp (aI h);rw[<- DK.length];exact this
 ·simp only[IK.at] at h;obtain⟨v,hv,rv⟩:=DK.get (aI h);refine⟨⟨vs,v,tS.sq,hv⟩,λw H' y=>?_⟩;obtain⟨rfl,y⟩:=y;have:=y vs tS.sq;rw[hv] at this;cases this;exact⟨.refl _ _,R,rv⟩
theorem VU{K:PySem.W.Frag}{fy:List Addr}{H0:Hp}{a:Addr}{j:Nat}(ha:fy[j]?=some a):W3 K fy H0 (.lst j) (Dm K a):=by
 intro ρ g H e R i;have kM:=e.get ha;refine⟨λh=>?_,λd h=>?_⟩
 ·simp only[IK.at] at h;cases el:d7 g j with
  |none=>rw[el] at h;cases h
  |some l =>
   rw[el] at h;obtain⟨vs,hq,rs⟩:=R.items el kM;refine⟨vs,hq,?_⟩;have:=cK.mp (aI h);rw[<- rs.length];exact this
 ·simp only[IK.at] at h;cases el:d7 g j with
  |none=>rw[el] at h;cases h
  |some l =>
   rw[el] at h;obtain⟨vs,hq,rs⟩:=R.items el kM;obtain⟨v,hv,rv⟩:=rs.get (aI h);refine⟨⟨vs,v,hq,hv⟩,λw H' y=>?_⟩;obtain⟨rfl,y⟩:=y;have:=y vs hq;rw[hv] at this;cases this;exact⟨.refl _ _,R,rv⟩
theorem JH{K:PySem.W.Frag}{fy:List Addr}{H0:Hp}{lo:Int}{n:Nat}:W3 K fy H0 (.fix (l6 lo n)) (vC lo n):=by
 unfold l6;intro ρ g H e R i;refine⟨λh=>?_,λd h=>?_⟩
 ·simp only[IK.at] at h;have:=cK.mp (aI h);show n<=i;simpa using this
 ·simp only[IK.at] at h;have h:=aI h;have hi:i<n:=by
   have:=(aj.mp h).1;simpa using this
  rw[ak,cG hi] at h;cases h;refine⟨hi,λw H' y=>?_⟩;obtain⟨rfl,rfl⟩:=y;exact⟨.refl _ _,R,.int _⟩
theorem VW{K:PySem.W.Frag}{fy:List Addr}{H0:Hp}{a:Addr}{j n:Nat}(ha:fy[j]?=some a):W3 K fy H0 (.qT j n) (Dj K a n):=by
 intro ρ g H e R i;have kM:=e.get ha;refine⟨λh=>?_,λd h=>?_⟩
 ·simp only[IK.at] at h;cases el:d7 g j with
  |none=>rw[el] at h;cases h
  |some l =>
   rw[el] at h;dsimp only at h;by_cases hl:l.length=n
   ·rw[aF hl] at h;have h:=aI h;by_cases hi:i<n
    ·rw[aF hi] at h;have:=cK.mp h;omega
    ·exact kA hi
   ·rw[az hl] at h;cases h
 ·simp only[IK.at] at h;cases el:d7 g j with
  |none=>rw[el] at h;cases h
  |some l =>
   rw[el] at h;dsimp only at h;by_cases hl:l.length=n
   ·rw[aF hl] at h;have h:=aI h;by_cases hi:i<n
    ·rw[aF hi] at h;obtain⟨vs,hq,rs⟩:=R.items el kM;obtain⟨v,hv,rv⟩:=rs.get h;refine⟨⟨vs,v,hq,by rw[<- rs.length];exact hl,hi,hv⟩,λw H' y=>?_⟩;obtain⟨rfl,y⟩:=y;have:=y vs hq;rw[hv] at this;cases this;exact⟨.refl _ _,R,rv⟩
    ·rw[az hi] at h;cases h
   ·rw[az hl] at h;cases h
theorem VT{K:PySem.W.Frag}{fy:List Addr}{H0:Hp}{a:Addr}{j:Nat}(ha:fy[j]?=some a):W3 K fy H0 (.nB j) (Dn K a):=by
 intro ρ g H e R i;have kM:=e.get ha;refine⟨λh=>?_,λd h=>?_⟩
 ·simp only[IK.at] at h;cases el:d7 g j with
  |none=>rw[el] at h;cases h
  |some l =>
   rw[el] at h;obtain⟨vs,hq,rs⟩:=R.items el kM;refine⟨vs,hq,?_⟩;have h:=aI h;rw[Option.map_eq_none_iff] at h;have:=cK.mp h;rw[<- rs.length];exact this
 ·simp only[IK.at] at h;cases el:d7 g j with
  |none=>rw[el] at h;cases h
  |some l =>
   rw[el] at h;obtain⟨vs,hq,rs⟩:=R.items el kM;have h:=aI h;rw[aa] at h;obtain⟨d',hd,rfl⟩:=h;obtain⟨v,hv,rv⟩:=rs.get hd;refine⟨⟨vs,v,hq,hv⟩,λw H' y=>?_⟩;obtain⟨p,x,hp,rfl,y,rfl⟩:=y;have:=y vs hq;rw[hv] at this;cases this;exact⟨A6 hp,R.grow hp,.tup (.inl s9) (.cons (.int _) (.cons (rv.ext (A6 hp)) .nil))⟩
end M
namespace L2
open PySem PySem.Spec PyProof.Rows
theorem Qn{X:Cx}{tg l:Expr}{tl:TE}(hl:PE X l tl):PI X tg l (λZ H R=>tl Z H λx H1=>(∃a,x=.ref a/\(∃xs,fm X.K H1 a xs)/\R (Dm X.K a) H1)\/(∃a,x=.ref a/\(∃xs,gX X.K H1 a xs)/\R (Dk X.K a) H1)):=by
 intro pins s Z H R I h;refine cy (hl pins s Z H _ I h) λv s1 ⟨x,H1,I1,r1,q1⟩=>?_;rcases q1 with⟨a,e,⟨xs,hq⟩,q⟩|⟨a,e,⟨xs,hq⟩,q⟩
 ·subst e;cases r1;obtain⟨aT,rv,p,hz⟩:=I1.list hq;refine gZ p.isList ?_;refine⟨s1.heap.objs.size,[s1.heap.objs.size],_,_,H1,rfl,I1.kept (t':=s1.toks) λb o e=>au _ e,YH a _,⟨_,aD _ rfl,rfl,rfl⟩,λb hb=>?_,q⟩;have e:b=s1.heap.objs.size:=by simpa using hb
  subst e;exact I1.oQ (av _) (I1.bE.fresh (av _))
 ·subst e;cases r1;obtain⟨aT,rv,p,hz⟩:=I1.tuple hq;refine wpAny_pyIter_tuple (show s1.heap.IsTuple a aT.toArray from p) ?_;refine⟨s1.heap.objs.size,[s1.heap.objs.size],_,_,H1,rfl,I1.kept (t':=s1.toks) λb o e=>au _ e,Zy a _,⟨_,aD _ rfl,rfl,rfl⟩,λb hb=>?_,q⟩;have e:b=s1.heap.objs.size:=by simpa using hb
  subst e;exact I1.oQ (av _) (I1.bE.fresh (av _))
end L2
namespace M
open PySem L2 PySem.Spec PyProof.Rows
section
variable{X:Cx}{Ξ:gA}{P:eT}(hP:i7 P){a b c tg:Expr}{ma mb mc:ME}{pos p:Pos}
include hP
theorem QO(ha:PE X a (LE X.K Ξ (aK P ma))):PI X tg a (LI X.K Ξ (eB P (.fB ma))) :=
 (Qn ha).imp λbR H R ⟨Z,g,ρ,s,Rr,h⟩=>by
  simp only[eB] at h;refine eX hP s Rr (.refl _ _) h λx g1 bJ H1 v1 e1 R1 r1 h=>?_;rcases h with⟨l,rfl,h⟩|⟨i,l,rfl,hl,h⟩
  ·obtain⟨a',vs,rfl,ht,rs⟩:=r1.K3;exact .inr ⟨_,rfl,⟨_,ht.sq⟩,h bJ H1 _ e1 R1 (VX ht rs)⟩
  ·obtain⟨a',rfl,kM⟩:=r1.j8;obtain⟨vs,hq,rs⟩:=R1.items hl kM;exact .inl ⟨_,rfl,⟨_,hq⟩,h bJ H1 _ e1 R1 (VU kM)⟩
theorem Ti{elts:List Expr}{x1:Nat}{tp:Pos}(ha:PE X a (LE X.K Ξ (aK P ma)))(hg:Gl X "enumerate")(hm:X.mg "enumerate"=none)(hs:starEach [a] X.env=[(false,eval a X.env)]):PI X (.Tuple elts x1 tp) (.Call (.Name "enumerate" p) [a] [] pos) (LI X.K Ξ (eB P (.jH ma))) :=
 (SH hg hm (B8 hP ha (K7 hP) (by rw[hs];rfl)) hs).imp λbR H R ⟨Z,g,ρ,s,Rr,h⟩=>by
  simp only[eB] at h;refine jo hP (m:=.cons ma .nil) s Rr (.refl _ _) (Q0:=λxs g1=>∃a l,xs=[.ref a]/\d7 g1 a=some l/\∀bA H' J,Ext ρ H bA H'->Rl X.K bA g1 H'->W3 X.K bA H' (.nB a) J->R J H') ?_ λxs g1 bJ H1 vs e1 R1 r1 h=>?_
  ·simp only[cW];exact b9 hP ma _ _ _ _ _ _ (λx g1 ⟨i,l,e,hl,h⟩=>⟨i,l,by rw[e],hl,h⟩) (λ_ _ z=>z) h
  ·obtain⟨j,l,rfl,hl,h⟩:=h;obtain⟨v,rfl,rv⟩:=r1.one;obtain⟨a',rfl,ra⟩:=rv.j8;obtain⟨vs,hq,rs⟩:=R1.items hl ra;exact⟨_,rfl,⟨_,hq⟩,h bJ H1 _ e1 R1 (VT ra)⟩
theorem QN(ha:PE X a (LE X.K Ξ (aK P ma)))(hg:Gl X "reversed")(hm:X.mg "reversed"=none)(hs:starEach [a] X.env=[(false,eval a X.env)]):PI X tg (.Call (.Name "reversed" p) [a] [] pos) (LI X.K Ξ (eB P (.nc ma))) :=
 (Qm hg hm (B8 hP ha (K7 hP) (by rw[hs];rfl)) hs).imp λbR H R ⟨Z,g,ρ,s,Rr,h⟩=>by
  simp only[eB] at h;refine jo hP (m:=.cons ma .nil) s Rr (.refl _ _) (Q0:=λxs g1=>∃a l,xs=[.ref a]/\d7 g1 a=some l/\∀bA H' J,Ext ρ H bA H'->Rl X.K bA g1 H'->W3 X.K bA H' (.qT a l.length) J->R J H') ?_ λxs g1 bJ H1 vs e1 R1 r1 h=>?_
  ·simp only[cW];exact b9 hP ma _ _ _ _ _ _ (λx g1 ⟨i,l,e,hl,h⟩=>⟨i,l,by rw[e],hl,h⟩) (λ_ _ z=>z) h
  ·obtain⟨j,l,rfl,hl,h⟩:=h;obtain⟨v,rfl,rv⟩:=r1.one;obtain⟨a',rfl,ra⟩:=rv.j8;obtain⟨vs,hq,rs⟩:=R1.items hl ra;exact⟨_,vs,rfl,hq,h bJ H1 _ e1 R1 (by rw[rs.length];exact VW ra)⟩
theorem Tj(ha:PE X a (LE X.K Ξ (aK P ma)))(hg:Gl X "range")(hm:X.mg "range"=none)(hs:starEach [a] X.env=[(false,eval a X.env)]):PI X tg (.Call (.Name "range" p) [a] [] pos) (LI X.K Ξ (eB P (.fg ma))) :=
 (Yp hg hm (B8 hP ha (K7 hP) (by rw[hs];rfl)) hs).imp λbR H R ⟨Z,g,ρ,s,Rr,h⟩=>by
  simp only[eB] at h;refine jo hP (m:=.cons ma .nil) s Rr (.refl _ _) (Q0:=λxs g1=>∃j:Int,xs=[.int j]/\-(2 ^ 62)<=j/\j<2 ^ 62/\∀bA H' J,Ext ρ H bA H'->Rl X.K bA g1 H'->W3 X.K bA H' (.fix (l6 0 j.toNat)) J->R J H') ?_ λxs g1 bJ H1 vs e1 R1 r1 h=>?_
  ·simp only[cW];exact b9 hP ma _ _ _ _ _ _ (λx g1 ⟨j,e,h1,h2,h⟩=>⟨j,by rw[e],h1,h2,h⟩) (λ_ _ z=>z) h
  ·obtain⟨j,rfl,h1,h2,h⟩:=h;obtain⟨v,rfl,rv⟩:=r1.one;obtain rfl:=rv.i8;exact⟨_,rfl,h1,h2,h bJ H1 _ e1 R1 JH⟩
theorem Tn(ha:PE X a (LE X.K Ξ (aK P ma)))(hb:PE X b (LE X.K Ξ (aK P mb)))(hg:Gl X "range")(hm:X.mg "range"=none)(hs:starEach [a,b] X.env=[(false,eval a X.env),(false,eval b X.env)])(iE:starEach [b] X.env=[(false,eval b X.env)]) :
  PI X tg (.Call (.Name "range" p) [a,b] [] pos) (LI X.K Ξ (eB P (.jX ma mb))) :=
 (Yq hg hm (B8 hP ha (B8 hP hb (K7 hP) (by rw[iE];rfl)) (by rw[hs,iE])) hs iE).imp λbR H R ⟨Z,g,ρ,s,Rr,h⟩=>by
  simp only[eB] at h;refine jo hP (m:=.cons ma (.cons mb .nil)) s Rr (.refl _ _) (Q0:=λxs g1=>∃i j:Int,xs=[.int i,.int j]/\(-(2 ^ 62)<=i/\i<2 ^ 62/\-(2 ^ 62)<=j/\j<2 ^ 62)/\∀bA H' J,Ext ρ H bA H'->Rl X.K bA g1 H'->W3 X.K bA H' (.fix (l6 i (j-i).toNat)) J->R J H') ?_ λxs g1 bJ H1 vs e1 R1 r1 h=>?_
  ·simp only[cW];exact b9 hP ma _ _ _ _ _ _ (λx g1 h=>b9 hP mb _ _ _ _ _ _ (λy g2 ⟨i,j,e,e',h1,h⟩=>⟨i,j,by rw[e,e'],h1,h⟩) (λ_ _ z=>z) h) (λ_ _ z=>z) h
  ·obtain⟨i,j,rfl,h1,h⟩:=h;obtain⟨v,w,rfl,rv,fz⟩:=r1.two;obtain rfl:=rv.i8;obtain rfl:=fz.i8;exact⟨_,_,rfl,h1,h bJ H1 _ e1 R1 JH⟩
end
section
variable{X:Cx}{pos:Pos}
theorem QM{i:Nat}{x:Str}(hN:X.N.Nodup)(hi:X.N[i]?=some x)(hx:Loc X.env.scope x)(hf:X.fn x=true\/X.env.scope.names.lookup x=some .local):PG X (.Name x pos) (LG X.K (.one i)) :=
 (IX hN hi hx hf).imp λv bR H Q ⟨d,Z,g,ρ,s,R,r,h⟩=>h _ (s.set i r)
inductive fj(X:Cx):List Expr->List Nat->Prop
 |nil:fj X [] []
 |cons {x:Str} {p:Pos} {i:Nat} {es:List Expr} {is:List Nat} (hi:X.N[i]?=some x) (hx:Loc X.env.scope x) (hf:X.fn x=true\/X.env.scope.names.lookup x=some .local) (r:fj X es is):fj X (.Name x p::es) (i::is)
noncomputable def CI:List Nat->oW
 |[]=>FT
 |i::is=>JE (rV i) (CI is)
theorem He(hN:X.N.Nodup):∀{es:List Expr} {is:List Nat},fj X es is->vA X es (CI is)
 |_,_,.nil=>SG
 |_,_,.cons hi hx hf r=>a25 (IX hN hi hx hf) (He hN r) rfl
theorem BR:∀{es:List Expr} {is:List Nat},fj X es is->(assignEach es X.env).length=is.length/\(assignEach es X.env).findIdx? (·.1)=none
 |_,_,.nil=>⟨rfl,rfl⟩
 |_,_,.cons (x:=x) (p:=p) (es:=es) hi hx hf r=>by
  obtain⟨h1,h2⟩:=BR r;have e:assignEach (.Name x p::es) X.env=(false,assign (.Name x p) X.env)::assignEach es X.env:=rfl;rw[e];refine⟨by simp[h1],?_⟩;rw[List.findIdx?_cons,h2]
  rfl
theorem GO{K:PySem.W.Frag}{ρ:List Addr}{H:Hp}{k:S->Prop}{Q:L2.St->Hp->Prop}:∀{is:List Nat} {l:List D} {vs:List V} {Z bN:S} {bR:L2.St},C8 is l Z=some bN->c6 K ρ H l vs->n5 K ρ H Z bR->(∀cQ,n5 K ρ H bN cQ->Q cQ H)->CI is vs bR H Q
 |[],_,_,_,_,_,h,.nil,s,q=>by
  simp only[C8] at h;cases h;exact⟨rfl,q _ s⟩
 |[],_,_,_,_,_,h,.cons _ _,s,q=>by simp only[C8] at h;cases h
 |i::is,_,_,_,_,_,h,.nil,s,q=>by simp only[C8] at h;cases h
 |i::is,_,_,_,_,_,h,.cons r rr,s,q=>by
  simp only[C8] at h;exact⟨_,_,rfl,GO (k:=k) h rr (s.set i r) q⟩
theorem Y8:∀{is:List Nat} {l:List D} {Z bN:S},C8 is l Z=some bN->l.length=is.length
 |[],[],_,_,_=>rfl
 |[],_::_,_,_,h=>by simp only[C8] at h;cases h
 |_::_,[],_,_,h=>by simp only[C8] at h;cases h
 |_::is,_::l,_,_,h=>by simp only[C8] at h;simp[Y8 h]
theorem Jf{es:List Expr}{is:List Nat}{k:Nat}(hc:X.calm=true)(hN:X.N.Nodup)(hs:fj X es is):PG X (.Tuple es k pos) (LG X.K (.many is)) :=
 (Ql hc (He hN hs) (BR hs).1 (BR hs).2).imp λv bR H Q ⟨d,Z,g,ρ,s,R,r,h⟩=>by
  obtain⟨l,bN,rfl,e,h⟩:=h;obtain⟨a',vs,rfl,ht,rs⟩:=r.K3;exact⟨_,_,rfl,ht.sq,by rw[<- rs.length];exact Y8 e,GO (k:=λ_=>True) e rs s h⟩
end
theorem LN.ext{K ρ H N bJ H1}(e:Ext ρ H bJ H1):(LN K ρ H N).le (LN K bJ H1 N) :=
 ⟨λZ g h bA H' cQ e' R s=>h bA H' cQ (e.trans e') R s,λd g h=>h.ext e,λZ g h bA H' cQ e' R s=>h bA H' cQ (e.trans e') R s,λZ g h bA H' cQ e' R s=>h bA H' cQ (e.trans e') R s⟩
section
variable{X:Cx}{Ξ:gA}{P:eT}(hP:i7 P){a b c tg:Expr}{ma mb mc:ME}{st:Stmt}{rest:List Stmt}{yU lR:MS}{pos p:Pos}
include hP
theorem QS:iR X [] (LS X.K Ξ (wpS P .pass)) :=
 (SN (X:=X)).imp λN bR H ⟨Z,g,ρ,s,R,h⟩=>h ρ H bR (.refl _ _) R s
theorem Tq(h1:PS X st (LS X.K Ξ (wpS P yU)))(h2:iR X rest (LS X.K Ξ (wpS P lR))):iR X (st::rest) (LS X.K Ξ (wpS P (.seq yU lR))) :=
 (a18 h1 h2).imp λN bR H ⟨Z,g,ρ,s,R,h⟩ =>
  qO hP s R (.refl _ _) (show wpS P yU { LN X.K ρ H N with nx:=λhU g1=>wpS P lR (LN X.K ρ H N) hU g1 (LX X.K ρ H Ξ) } Z g (LX X.K ρ H Ξ) from h) ⟨λhU g1 h bJ H1 Kt e1 R1 s1=>qO hP s1 R1 e1 h (LN.ext e1),λ_ _ z=>z,λ_ _ z=>z,λ_ _ z=>z⟩
theorem Tu(ha:PE X a (LE X.K Ξ (aK P ma)))(hs:swapsWith a none pos.line X.env=pure false):PS X (.Expr a pos) (LS X.K Ξ (wpS P (.expr ma))) :=
 (SJ ha hs).imp λN bR H ⟨Z,g,ρ,s,R,h⟩=>eX hP s R (.refl _ _) h λx g1 bJ H1 v1 e1 R1 r1 h=>h bJ H1 bR e1 R1 (s.ext e1)
theorem Iy{i:Nat}{x:Str}{p:Pos}(h0:PS X (.Assign [.Name x p] a pos) (uX (LE X.K Ξ (aK P ma)) (rV i))):PS X (.Assign [.Name x p] a pos) (LS X.K Ξ (wpS P (.set i ma))) :=
 h0.imp λN bR H ⟨Z,g,ρ,s,R,h⟩=>eX hP s R (.refl _ _) h λx g1 bJ H1 v1 e1 R1 r1 h=>h bJ H1 _ e1 R1 ((s.ext e1).set i r1)
theorem Ri{t:MT}(h0:PS X (.Assign [tg] a pos) (uX (LE X.K Ξ (aK P ma)) (LG X.K t))):PS X (.Assign [tg] a pos) (LS X.K Ξ (wpS P (.kZ t ma))) :=
 h0.imp λN bR H ⟨Z,g,ρ,s,R,h⟩=>eX hP s R (.refl _ _) h λx g1 bJ H1 v1 e1 R1 r1 h=>⟨x,Z,g1,bJ,s.ext e1,R1,r1,u9 (λbN h cQ s'=>h bJ H1 cQ e1 R1 s') h⟩
theorem Xp(hu:X.A.units+100<cLine){o i:Expr}{mo mi:ME}{tp:Pos}(ha:PE X a (LE X.K Ξ (aK P ma)))(ho:PE X o (LE X.K Ξ (aK P mo)))(hi:PE X i (LE X.K Ξ (aK P mi)))(hs:swapsWithSole [.Subscript o i tp] a pos.line X.env=pure false)(kM:∀ v,assign (.Subscript o i tp) X.env v=(do
   let ov <- holding [v] (eval o X.env)
   let iv <- holding [v,ov] (eval i X.env)
   standAt tp
   holding [v,ov,iv] (setItem ov iv v)
   release [v,ov,iv] [])):PS X (.Assign [.Subscript o i tp] a pos) (LS X.K Ξ (wpS P (.dM mo mi ma))) :=
 (Ir ha (Qk ho hi (QL hu) kM) hs).imp λN bR H ⟨Z,g,ρ,s,R,h⟩ =>
  eX hP s R (.refl _ _) h λx g1 bJ H1 v1 e1 R1 r1 h=>eX hP (s.ext e1) R1 e1 h λy g2 et H2 v2 e2 R2 r2 h=>eX hP (s.ext (e1.trans e2)) R2 (e1.trans e2) h λz g3 iL H3 v3 e3 R3 r3 h =>
   ⟨y,z,x,g3,iL,R3,r2.ext e3,r3,r1.ext (e2.trans e3),T6 (λg4 h pz H4 e4 R4=>h pz H4 bR (e1.trans (e2.trans (e3.trans e4))) R4 (s.ext (e1.trans (e2.trans (e3.trans e4))))) h⟩
omit hP in
noncomputable def Cy(K:PySem.W.Frag)(f:Str)(cs:List Str):Prop:=∀c C,c∈cs->u4 K c C->B5 K C f
omit hP in
theorem Th{f:Str}{cs:List Str}(hF:Cy X.K f cs){ρ:List Addr}{H:Hp}{g g':G}{x v:D}{xv vv:V}(R:Rl X.K ρ g H)(rx:f7 X.K ρ H x xv)(rv:f7 X.K ρ H v vv)(h:JP f cs x v g g') :
  ∃a C dx fs,xv=.ref a/\H a=some (.ins C dx fs)/\jh X.K C/\B5 X.K C f/\fs.length<1000/\Rl X.K ρ g' (upd H a (.ins C dx (A4 f vv fs)))/\Ext ρ H ρ (upd H a (.ins C dx (A4 f vv fs))):=by
 obtain⟨i,c,fs,rfl,hi,hc,hz,rfl⟩:=h;obtain⟨a',rfl,ra⟩:=rx.j8;obtain⟨C,dx,vs,hH,hC,jZ,rk,na⟩:=R.ins hi ra;obtain⟨R',e'⟩:=R.put (o':=.ins c (k6 f v fs)) (u:=.ins C dx (A4 f vv vs)) hi rfl ra ⟨hC,jZ,rk.A4 rv,HA (p:=λy=>B5 X.K C y) (hF c C hc hC) na⟩;exact⟨a',C,dx,vs,rfl,hH,jZ,hF c C hc hC,by rw[<- rk.length];omega,R',e'⟩
theorem Tv{f:Str}{cs:List Str}{o:Expr}{mo:ME}{tp:Pos}(hF:Cy X.K f cs)(ho:PE X o (LE X.K Ξ (aK P mo)))(ha:PE X a (LE X.K Ξ (aK P ma)))(hs:swapsWith a (some (.Attribute o f tp)) pos.line X.env=pure false):PS X (.Assign [.Attribute o f tp] a pos) (LS X.K Ξ (wpS P (.gM f cs mo ma))) :=
 (Qp ho ha hs).imp λN bR H ⟨Z,g,ρ,s,R,h⟩=>eX hP s R (.refl _ _) h λx g1 bJ H1 v1 e1 R1 r1 h=>eX hP (s.ext e1) R1 e1 h λy g2 et H2 v2 e2 R2 r2 h=>by
  obtain⟨g3,h,q⟩:=h;obtain⟨a',C,dx,fs,hx,hH,jZ,na,hz,R3,e3⟩:=Th hF R2 r2 (r1.ext e2) h;exact⟨a',C,dx,fs,hx,hH,jZ,na,hz,q et _ bR (e1.trans (e2.trans e3)) R3 (s.ext (e1.trans (e2.trans e3)))⟩
theorem Tt{i:Nat}{x:Str}{tp:Pos}{op:Operator}{p:Pr}(Mb:(op=.Add/\p=.iadd)\/(op=.Sub/\p=.lT))(hN:X.N.Nodup)(hi:X.N[i]?=some x)(hx:Loc X.env.scope x)(hf:X.fn x=true\/X.env.scope.names.lookup x=some .local)(ha:PE X a (LE X.K Ξ (aK P ma))):PS X (.AugAssign (.Name x tp) op a pos) (LS X.K Ξ (wpS P (.jC i p ma))):=by
 have ho:Kb X op (r2 X.K p):=by
  intro pins s Z H x y v u Q I rx ry h;obtain⟨d,e,g,ρ,R,rd,re,d',g',hr,q⟩:=h;rcases Mb with⟨rfl,rfl⟩|⟨rfl,rfl⟩
  ·rcases hr with⟨i,j,ex,rfl,rfl⟩|⟨l,m,ex,hz,rfl,rfl⟩
   ·obtain⟨rfl,rfl⟩:=z9 ex;obtain rfl:=rd.i8;obtain rfl:=re.i8;exact RV pins s Z H _ _ v u Q I rx ry ⟨i,j,rfl,rfl,q.now R (.int _)⟩
   ·obtain⟨rfl,rfl⟩:=z9 ex;obtain⟨p1,KC,rfl,t1,vV⟩:=rd.K3;obtain⟨p2,KA,rfl,t2,vU⟩:=re.K3;refine RT pins s Z H _ _ v u Q I rx ry (.inr ⟨p1,p2,KC,KA,rfl,rfl,t1.sq,t2.sq,by rw[<- vV.length,<- vU.length];exact m5 hz,λz=>?_,λz=>?_,λp hp=>q.tup R hp (vV.append vU)⟩)
    ·subst z;cases vV;exact q.now R (.tup t2 vU)
    ·subst z;cases vU;rw[fo] at q;exact q.now R (.tup t1 vV)
  ·obtain⟨i,j,ex,rfl,rfl⟩:=hr;obtain⟨rfl,rfl⟩:=z9 ex;obtain rfl:=rd.i8;obtain rfl:=re.i8;exact RX pins s Z H _ _ v u Q I rx ry ⟨i,j,rfl,rfl,q.now R (.int _)⟩
 refine(Qo hN hi hx ha ho hf).imp λN bR H ⟨Z,g,ρ,s,R,h⟩=>?_;obtain⟨xd,LP,h⟩:=h;obtain⟨xv,hv,rx⟩:=s.val _ _ LP;refine⟨xv,hv,eX hP s R (.refl _ _) h λz g1 bJ H1 v1 e1 R1 r1 h=>?_⟩;refine⟨xd,z,g1,bJ,R1,rx.ext e1,r1,t8 (λw g2 q=>?_) h⟩;exact λet H2 v2 e2 R2 r2=>q et H2 _ (e1.trans e2) R2 ((s.ext (e1.trans e2)).set i r2)
theorem Oi{sa sb:List Stmt}{DY msb:MS}(hc:PT X c (LT X.K Ξ (cA P mc)))(ha:iR X sa (LS X.K Ξ (wpS P DY)))(hb:iR X sb (LS X.K Ξ (wpS P msb))):PS X (.If c sa sb pos) (LS X.K Ξ (wpS P (.ifs mc DY msb))) :=
 (Wv hc ha hb).imp λN bR H ⟨Z,g,ρ,s,R,h⟩=>nP hP s R (.refl _ _) h λt g1 bJ H1 e1 R1 h=>by
  cases t
  ·exact qO hP (s.ext e1) R1 e1 h (LN.ext e1)
  ·exact qO hP (s.ext e1) R1 e1 h (LN.ext e1)
theorem Rh(ha:PE X a (LE X.K Ξ (aK P ma))):PS X (.Return (some a) pos) (LS X.K Ξ (wpS P (.ret ma))) :=
 (Qs ha).imp λN bR H ⟨Z,g,ρ,s,R,h⟩=>⟨Z,g,ρ,s,R,h⟩
theorem Xq{body:List Stmt}{mb:MS}(hp:PassesOwn (model X.prog X.w) X.A X.env X.xe)(hc:PT X c (LT X.K Ξ (cA P mc)))(hb:iR X body (LS X.K Ξ (wpS P mb))):PS X (.While c body [] pos) (LS X.K Ξ (wpS P (.jn mc mb))) :=
 (a19 hp hc hb).imp λN bR H ⟨Z,g,ρ,s,R,h⟩=>by
  obtain⟨W,⟨m0,w0⟩,h⟩:=h;refine⟨λm cQ H'=>∃bN g' bA,Ext ρ H bA H'/\n5 X.K bA H' bN cQ/\Rl X.K bA g' H'/\W m bN g',⟨m0,Z,g,ρ,.refl _ _,s,R,w0⟩,?_⟩;rintro m cQ H' ⟨bN,g',bA,e1,s',R',w'⟩;refine nP hP s' R' e1 (h m bN g' w') λt g1 bJ H1 e2 R1 q=>?_;cases t
  ·exact q bJ H1 cQ (e1.trans e2) R1 (s'.ext e2)
  ·obtain⟨N2,zX,q⟩:=q;refine⟨λjm H2=>∃cb g2 et,Ext ρ H et H2/\n5 X.K et H2 cb jm/\Rl X.K et g2 H2/\N2 cb g2,?_,?_⟩
   ·rintro jm H2 ⟨cb,g2,et,e3,s2,R2,n2⟩;obtain⟨m',hm,w2⟩:=zX cb g2 n2;exact⟨m',hm,cb,g2,et,e3,s2,R2,w2⟩
   ·refine qO hP (s'.ext e2) R1 (e1.trans e2) q ⟨?_,?_,?_,?_⟩
    ·exact λgT g3 n3 iL H3 jS e3 R3 s3=>⟨gT,g3,iL,(e1.trans e2).trans e3,s3,R3,n3⟩
    ·exact λd g3 h=>h.ext (e1.trans e2)
    ·exact λgT g3 h iL H3 jS e3 R3 s3=>h iL H3 jS ((e1.trans e2).trans e3) R3 s3
    ·exact λgT g3 n3 iL H3 jS e3 R3 s3=>⟨gT,g3,iL,(e1.trans e2).trans e3,s3,R3,n3⟩
theorem Rf{iter:Expr}{mi:ME}{body:List Stmt}{mb:MS}{t:MT}(hp:PassesOwn (model X.prog X.w) X.A X.env X.xe)(hc:X.calm=true)(hi:PI X tg iter (LI X.K Ξ (eB P mi)))(hg:PG X tg (LG X.K t))(hb:iR X body (LS X.K Ξ (wpS P mb)))(hs:∀x,foldedSetIterable iter X.env x=pure x):PS X (.For tg iter body [] pos) (LS X.K Ξ (wpS P (.dS t mi mb))) :=
 (Qq hp hc hi hg hb hs).imp λN bR H ⟨Z,g,ρ,s,R,h⟩=>by
  refine⟨Z,g,ρ,s,R,w5 hP mi _ _ _ _ _ _ (λk g1 h bJ H1 J e1 R1 j1=>?_) (λ_ _ z=>z) h⟩;obtain⟨W,⟨m0,w0⟩,h⟩:=h;refine⟨λi m cQ H'=>∃bN g' bA,Ext bJ H1 bA H'/\n5 X.K bA H' bN cQ/\Rl X.K bA g' H'/\W i m bN g',⟨m0,Z,g1,bJ,.refl _ _,s.ext e1,R1,w0⟩,?_⟩;rintro i m cQ H' ⟨bN,g',bA,e',s',R',w'⟩;obtain⟨tN,tM⟩:=j1 bA g' H' e' R' i;rcases h i m bN g' w' with⟨ek,q⟩|⟨x,ek,N2,zX,q⟩
  ·exact .inl ⟨tN ek,q bA H' cQ (e1.trans e') R' s'⟩
  ·obtain⟨go,yl⟩:=tM x ek;refine .inr ⟨go,λjm H2=>∃cb g2 et,Ext bJ H1 et H2/\n5 X.K et H2 cb jm/\Rl X.K et g2 H2/\N2 cb g2,?_,?_⟩
   ·rintro jm H2 ⟨cb,g2,et,e2,s2,R2,n2⟩;obtain⟨m',hm,w2⟩:=zX cb g2 n2;exact⟨m',hm,cb,g2,et,e2,s2,R2,w2⟩
   ·intro v H2 y;obtain⟨e2,R2,r2⟩:=yl v H2 y;refine⟨x,bN,g',bA,s'.ext e2,R2,r2,u9 (λcb q jm s2=>?_) q⟩;refine qO hP s2 R2 (e1.trans (e'.trans e2)) q ⟨?_,?_,?_,?_⟩
    ·exact λgT g3 n3 iL H3 jS e3 R3 s3=>⟨gT,g3,iL,(e'.trans e2).trans e3,s3,R3,n3⟩
    ·exact λd g3 h=>h.ext (e1.trans (e'.trans e2))
    ·exact λgT g3 h iL H3 jS e3 R3 s3=>h iL H3 jS (e1.trans ((e'.trans e2).trans e3)) R3 s3
    ·exact λgT g3 n3 iL H3 jS e3 R3 s3=>⟨gT,g3,iL,(e'.trans e2).trans e3,s3,R3,n3⟩
theorem Jo{d6:List Nat}{n:Nat}{t:MT}{mi iq me:ME}:∀bR H Q,LE X.K Ξ (aK P (.comp d6 n t mi iq me)) bR H Q->Cp (LI X.K Ξ (eB P mi)) d6 n (LG X.K t) (LT X.K (oV Ξ.1) (cA P iq)) (LE X.K (oV Ξ.1) (aK P me)) bR H Q:=λbR H Q ⟨Z,g,ρ,s,R,h⟩=>by
 simp only[aK] at h;refine⟨Z,g,ρ,s,R,w5 hP mi _ _ _ _ _ _ (λk g1 h bJ H1 J e1 R1 j1=>?_) (λ_ _ z=>z) h⟩;obtain⟨W,⟨m0,w0⟩,h⟩:=h;refine⟨λi m Dy cQ H'=>∃ys bN g' bA,Ext bJ H1 bA H'/\n5 X.K bA H' bN cQ/\Rl X.K bA g' H'/\c6 X.K bA H' ys Dy/\W i m ys bN g',⟨m0,[],_,g1,bJ,.refl _ _,(s.ext e1).d6 d6 n,R1,.nil,w0⟩,?_⟩;rintro i m Dy cQ H' ⟨ys,bN,g',bA,e',s',R',ry,w'⟩;obtain⟨tN,tM⟩:=j1 bA g' H' e' R' i;rcases h i m ys bN g' w' with⟨ek,q⟩|⟨x,ek,hz,q⟩
 ·exact .inl ⟨tN ek,λp hp=>(q.ext (e1.trans e')).new R' hp ry⟩
 ·obtain⟨go,yl⟩:=tM x ek;refine .inr ⟨go,by rw[<- ry.length];exact Bn hz,λv H2 y=>?_⟩;obtain⟨e2,R2,r2⟩:=yl v H2 y;refine⟨x,bN,g',bA,s'.ext e2,R2,r2,u9 (λcb q jm s2=>?_) q⟩;refine⟨cb,g',bA,s2,R2,n8 hP iq _ _ _ _ _ _ (λb g3 q iL H3 e3 R3=>?_) (λ_ _ z=>z.elim) q⟩;cases b
  ·obtain⟨m',hm,w3⟩:=q;exact⟨m',hm,ys,cb,g3,iL,(e'.trans e2).trans e3,s2.ext e3,R3,(ry.ext e2).ext e3,by simpa using w3⟩
  ·refine⟨cb,g3,iL,s2.ext e3,R3,b9 hP me _ _ _ _ _ _ (λz g4 q pz H4 v4 e4 R4 r4=>?_) (λ_ _ z=>z.elim) q⟩;obtain⟨m',hm,w4⟩:=q;exact⟨m',hm,ys++[z],cb,g4,pz,(e'.trans e2).trans (e3.trans e4),(s2.ext e3).ext e4,R4,(((ry.ext e2).ext e3).ext e4).append (.cons r4 .nil),by simpa using w4⟩
theorem Xg{elt tg iter:Expr}{ifs:List Expr}{scope:Scope}{N':List Str}{d6:List Nat}{cl:List (Str×Addr)}{pos p2 iW:Pos}{t:MT}{mi iq me:ME}(S:da X scope N' d6 cl)(hc:X.calm=true)(hi:PI X tg iter (LI X.K Ξ (eB P mi)))(hg:∀pins C s H fp,PG (f6 X pins scope N' cl C s H fp) tg (LG X.K t))(ht:∀pins C s H fp,kz (f6 X pins scope N' cl C s H fp) ifs (LT X.K (oV Ξ.1) (cA P iq)))(he:∀pins C s H fp,PE (f6 X pins scope N' cl C s H fp) elt (LE X.K (oV Ξ.1) (aK P me)))(hs:∀x,foldedSetIterable iter X.env x=pure x)(ml:Gl X "sorted")(mh:X.mg "sorted"=none):PE X (.Call (.Name "sorted" p2) [.SetComp elt [⟨tg,iter,ifs,0⟩] scope pos] [] iW) (LE X.K Ξ (aK P (.gk d6 N'.length t mi iq me))) :=
 (Y9 (U5 hc) ml mh (by first|exact pe|decide +kernel) (P7 (a26 S hc hi hg ht he hs) W8)).imp λbR H Q ⟨Z,g,ρ,s,R,h⟩=>by
  simp only[aK] at h;refine⟨Z,g,ρ,s,R,w5 hP mi _ _ _ _ _ _ (λk g1 h bJ H1 J e1 R1 j1=>?_) (λ_ _ z=>z) h⟩;obtain⟨W,⟨m0,w0⟩,h⟩:=h;refine⟨λi m ys cQ H'=>∃bN g' bA,Ext bJ H1 bA H'/\n5 X.K bA H' bN cQ/\Rl X.K bA g' H'/\W i m ys bN g',⟨m0,_,g1,bJ,.refl _ _,(s.ext e1).d6 d6 _,R1,w0⟩,?_⟩;rintro i m ys cQ H' ⟨bN,g',bA,e',s',R',w'⟩;obtain⟨tN,tM⟩:=j1 bA g' H' e' R' i;rcases h i m ys bN g' w' with⟨ek,hz,q⟩|⟨x,ek,hz,q⟩
  ·exact .inl ⟨tN ek,λp hp=>⟨p,ys,rfl,s9,hz,λp' iZ=>(q.ext ((e1.trans e').trans (A6 hp))).new (R'.grow hp) iZ (c6.ofInts _)⟩⟩
  ·obtain⟨go,yl⟩:=tM x ek;refine .inr ⟨go,hz,λv H2 y=>?_⟩;obtain⟨e2,R2,r2⟩:=yl v H2 y;refine⟨x,bN,g',bA,s'.ext e2,R2,r2,u9 (λcb q jm s2=>?_) q⟩;refine⟨cb,g',bA,s2,R2,n8 hP iq _ _ _ _ _ _ (λb g3 q iL H3 e3 R3=>?_) (λ_ _ z=>z.elim) q⟩;cases b
   ·obtain⟨m',hm,w3⟩:=q;exact⟨m',hm,cb,g3,iL,(e'.trans e2).trans e3,s2.ext e3,R3,by simpa using w3⟩
   ·refine⟨cb,g3,iL,s2.ext e3,R3,b9 hP me _ _ _ _ _ _ (λz g4 q pz H4 v4 e4 R4 r4=>?_) (λ_ _ z=>z.elim) q⟩;obtain⟨j,rfl,m',hm,w4⟩:=q;obtain rfl:=r4.i8;exact⟨j,rfl,m',hm,cb,g4,pz,(e'.trans e2).trans (e3.trans e4),(s2.ext e3).ext e4,R4,by simpa using w4⟩
end
end M

namespace M
open PySem L2 PySem.Spec PyProof.Rows
section
variable{X:Cx}{Ξ:gA}{P:eT}(hP:i7 P)
include hP
theorem Xo{x:Str}{C:Addr}{B newId fT:String}{bm:List Value}{np ft pos:Pos}{jc:Expr}{rest:List Expr}{gz:ME}(hc:X.calm=true)(O:OwnCls x C bm newId X.mg X.base)(FB:ExcBaseFacts B newId fT bm)(hg:Gl X x)(ha:PA X (jc::rest) (LA X.K Ξ (cW P gz)))(hr:xE X Ξ.2)(hx:x∈Ξ.1)(hC:u4 X.K x C)(he:starEach (jc::rest) X.env=(false,eval jc X.env)::starEach rest X.env)(fU:(backTo ft (starEach rest X.env)).any (·.1)=false)(hd:(x==("__debug__":Str))=false):PS X (.Raise (some (.Call (.Name x np) (jc::rest) [] ft)) none pos) (LS X.K Ξ (wpS P (.raise x gz))) :=
 (a20 hc O FB hg ha hr he fU hd).imp λN bR H ⟨Z,g,ρ,s,R,h⟩=>by
  refine jo hP s R (.refl _ _) h λds g1 bJ H1 vs e1 R1 r1 h=>?_;exact⟨by rw[<- r1.length];exact m5 (aG h.1 (by decide)),h.2 bJ H1 C e1 R1 hx hC⟩
noncomputable def Vr(X:Cx)(ex:List Str)(D:L2.Ends)(hs:List ExceptHandler):gA:=(ex,λv _ H=>∃C,v=.ref C/\wY X D C H hs)
inductive qJ(X:Cx)(Ξ:gA)(P:eT):List ExceptHandler->List (Str×ME)->Prop
 |nil (hh:xt X Ξ.2):qJ X Ξ P [] []
 |cons {y:Str} {C':Addr} {p p1 p2:Pos} {e:Expr} {me:ME} {hs:List ExceptHandler} {ms:List (Str×ME)} (hg:Gl X y) (hd:(y==("__debug__":Str))=false) (hm:X.mg y=some (.ref C'))
   (hx:∀x C,x∈Ξ.1->u4 X.K x C->PySem.W.exmOne X.K (.ref C) (.ref C')=some (decide (x=y\/y="MintError"))) (he:∀ea,PE (N9 X ea) e (LE X.K (oV Ξ.1) (aK P me))) (r:qJ X Ξ P hs ms) :
   qJ X Ξ P (.ExceptHandler (some (.Name y p)) none [.Return (some e) p1] p2::hs) ((y,me)::ms)
end
end M

namespace M
open PySem L2 PySem.Spec PyProof.Rows
structure i4 where
 N:List Str
 nm:List (Str×NameKind)
 lz:Bool
 fns:List (Str×Nat)
 con:List (Str×D)
 blt:List Str
 exc:List Str
 gd:List (Str×List D)
 cls:List (Str×Nat)
 nY:List (Str×Str×Nat)
 mQ:List (Str×Str)
 jU:Bool
 lK:Bool
noncomputable def fA:Expr->Bool
 |.Set ..=>false
 |.Starred ..=>false
 |.Slice ..=>false
 |_=>true
noncomputable def v8:Expr->Bool
 |.ListComp ..=>false
 |.SetComp ..=>false
 |.DictComp ..=>false
 |_=>true
noncomputable def rZ:Expr->Bool
 |.Tuple ..=>false
 |_=>true
noncomputable def BQ:Expr->Bool
 |.Name ..=>true
 |.Call ..=>true
 |.Subscript ..=>true
 |.Constant ..=>true
 |.Attribute ..=>true
 |.BinOp ..=>true
 |_=>false
noncomputable def xy:Expr->Bool
 |.Call (.Name ..) ..=>false
 |_=>true
noncomputable def i4.idx(c:i4)(x:Str):Option Nat:=c.N.findIdx? λy=>decide (y=x)
noncomputable def i4.sN(c:i4)(x:Str):Bool:=match c.nm.lookup x with
 |some .local=>true
 |some .cell=>true
 |some .free=>true
 |_=>false
noncomputable def i4.gl(c:i4)(x:Str):Bool:=decide (c.nm.lookup x=some .globalImplicit)
noncomputable def i4.y9(c:i4)(x:Str):Bool:=decide (c.nm.lookup x=some .local)||decide (c.nm.lookup x=some .cell)
noncomputable def oS(x:Str):Bool:=(x==("__debug__":Str))==false&&(x==("__classdict__":Str))==false&&decide (x≠"__name__")
noncomputable def Cr:List (Str×String):=[("int","int"),("bool","bool"),("str","str"),("tuple","tuple"),("list","list")]
noncomputable def CC:List (Str×Pr):=[("len",.len),("list",.list),("tuple",.tuple),("isinstance",.isin),("all",.all),("max",.max),("min",.min),("int",.int),("sum",.sum)]
noncomputable def xN:List (Str×Pr):=[]
noncomputable def CN:List (Str×Pr):=[("append",.append),("pop",.pop),("get",.get),("add",.jr)]
noncomputable def Bb:Expr->Option (Str×List Expr)
 |.Call (.Name x _) args [] _=>some (x,args)
 |_=>none
noncomputable def Jy:Expr->Bool
 |.Tuple ..=>true
 |_=>false
noncomputable def asName:Expr->Option Str
 |.Name x _=>some x
 |_=>none
noncomputable def frees(sc:Scope):List Str:=(sc.names.filter λy=>decide (y.2=.free)).map (·.1)
noncomputable def locals(sc:Scope):List Str:=(sc.names.filter λy=>decide (y.2=.local)||decide (y.2=.cell)).map (·.1)
noncomputable def i4.inner(c:i4)(sc:Scope):i4:={ c with N:=frees sc++locals sc,nm:=sc.names,lz:=false,jU:=false,lK:=false }
noncomputable def i4.d6(c:i4)(sc:Scope):List Nat:=(frees sc).map λx=>(c.idx x).getD 0
noncomputable def i4.Br(c:i4)(sc:Scope):Bool :=
 decide (sc.kind=.function)&&sc.names.all (λy=>!decide (y.2=.cell)||decide (sc.names.lookup y.1=some .cell))&&sc.names.all (λy=>!decide (y.2=.local)||decide (sc.names.lookup y.1=some .local)) &&
 decide (frees sc++locals sc).Nodup&&(frees sc).all (λx=>(c.idx x).isSome&&decide (sc.names.lookup x=some .free)&&(decide (c.nm.lookup x=some .cell)||decide (c.nm.lookup x=some .free)))
noncomputable def i4.slot(c:i4)(e:Expr):Option Nat:=(asName e).bind λx=>if c.y9 x then c.idx x else none
noncomputable def i4.slots(c:i4):List Expr->Option (List Nat)
 |[]=>some []
 |e::r=>(c.slot e).bind λi=>(c.slots r).map λis=>i::is
noncomputable def i4.tg(c:i4)(e:Expr):Option MT:=((c.slot e).map .one).orElse λ_=>match e with
 |.Tuple es _ _=>(c.slots es).map .many
 |_=>none
noncomputable def Cd:Const->Option D
 |.int i=>some (.int i)
 |.bool b=>some (.bl b)
 |.none=>some .bD
 |.str x=>some (.str x)
 |_=>none
structure CF where
 e:i4->Expr->Option ME
 t:i4->Expr->Option ME
 s:i4->Stmt->Option MS
section
variable(r:CF)(c:i4)
noncomputable def c1(p:Pr)(a:Expr):Option ME:=(r.e c a).map λm=>.prim p (.cons m .nil)
noncomputable def c2(p:Pr)(a b:Expr):Option ME:=(r.e c a).bind λma=>(r.e c b).map λmb=>.prim p (.cons ma (.cons mb .nil))
noncomputable def F7:List Expr->Option ME
 |[]=>some .nil
 |e::es=>if fA e then(r.e c e).bind λm=>(F7 es).map λms=>.cons m ms else none
noncomputable def Ig:Expr->Option Str
 |.Constant (.str x) _ _=>some x
 |_=>none
noncomputable def FO:Expr->Option Expr
 |.FormattedValue e k none _=>if k=-1 then some e else none
 |_=>none
noncomputable def rS:List Expr->Option ME
 |[]=>some .nil
 |e::es=>((Ig e).bind λx=>if x.length<=2000 then(rS es).map λms=>.cons (.lit (.str x)) ms else none).orElse λ_ =>
   (FO e).bind λa=>(r.e c a).bind λm=>(rS es).map λms=>.cons (.prim .fv (.cons m .nil)) ms
noncomputable def vd:List (Option Expr)->List Expr->Option ME
 |[],[]=>some .nil
 |some k::ks,v::vs=>(r.e c k).bind λmk=>(r.e c v).bind λmv=>(vd ks vs).map λms=>.cons mk (.cons mv ms)
 |_,_=>none
noncomputable def xb(op:BoolOp):List Expr->Option ME
 |[]=>none
 |[a]=>r.e c a
 |a::b::rs=>(r.e c a).bind λma=>(xb op (b::rs)).map λmb=>match op with
  |.And=>.dG ma mb
  |.Or=>.jt ma mb
noncomputable def xc(op:BoolOp):List Expr->Option ME
 |[]=>none
 |[a]=>r.t c a
 |a::b::rs=>(r.t c a).bind λma=>(xc op (b::rs)).map λmb=>match op with
  |.And=>.dG ma mb
  |.Or=>.jt ma mb
noncomputable def Ii:List Expr->Option ME
 |[]=>some .no
 |[e]=>r.t c e
 |_=>none
noncomputable def x8:List Stmt->Option MS
 |[]=>some .pass
 |s::rs=>(r.s c s).bind λm=>(x8 rs).map λms=>.seq m ms
noncomputable def Cw(x:Str):Option ME :=
 if oS x then(if c.sN x then(c.idx x).map .var else if c.gl x then((c.con.lookup x).map .lit).orElse λ_=>if c.blt.contains x then(Cr.lookup x).map λt=>.lit (.ty t) else none else none) else none
noncomputable def yo(op:UnaryOp)(a:Expr):Option ME:=if op=.Not then(r.e c a).map .eL else c1 r c (.un op) a
noncomputable def i4.xZ(b:Expr):Option (List D):=(asName b).bind λx=>if c.gl x&&oS x then c.gd.lookup x else none
noncomputable def Uq:CmpOp->Option Bool
 |.In=>some false
 |.NotIn=>some true
 |_=>none
noncomputable def uY(a:Expr)(ops:List CmpOp)(bs:List Expr):Option ME:=match ops,bs with
 |[op],[b]=>if behindInMarks op b then none else((Uq op).bind λneg=>(c.xZ b).bind λkvs=>(r.e c a).map λma=>.prim (xg neg) (.cons (.lit (.tup kvs)) (.cons ma .nil))).orElse λ_=>c2 r c (.cmp op) a b
 |[op,gQ],[b,d]=>if lastMarks [op,gQ] [b,d] then none else(r.e c a).bind λma=>(r.e c b).bind λmb=>(r.e c d).map λmd=>.chain op gQ ma mb md
 |_,_=>none
noncomputable def TY:Expr->Option (Option Expr×Option Expr×Option Expr)
 |.Slice lo hi st _=>some (lo,hi,st)
 |_=>none
noncomputable def Dz(a:Expr):Option Expr->Option Expr->Option Expr->Option ME
 |none,none,none=>c1 r c (.kf false false) a
 |some b,none,none=>c2 r c (.kf true false) a b
 |none,some b,none=>c2 r c (.kf false true) a b
 |_,_,_=>none
noncomputable def BV(a b:Expr):Option ME:=((TY b).bind λq=>Dz r c a q.1 q.2.1 q.2.2).orElse λ_=>if fA b then((c.xZ a).bind λkvs=>(r.e c b).map λmb=>.prim .mD (.cons (.lit (.tup kvs)) (.cons mb .nil))).orElse λ_=>c2 r c .ix a b else none
noncomputable def yp(x:Str)(e:Expr):Option ME:=(Bb e).bind λq =>
 if x="list" && q.1="range" && c.blt.contains "list" && c.blt.contains "range" && c.gl "range" then (match q.2 with
  |[a]=>if fA a then c1 r c .iP a else none
  |[a,b]=>if fA a&&fA b then c2 r c .jx a b else none
  | _=>none)
 else if x="sorted" && q.1="set" && c.blt.contains "sorted" && c.blt.contains "set" && c.gl "set" then (match q.2 with
  |[a]=>if fA a then c1 r c .sset a else none
  | _=>none)
 else if x="len" && q.1="set" && c.blt.contains "len" && c.blt.contains "set" && c.gl "set" then (match q.2 with
  |[a]=>if fA a then c1 r c .rL a else none
  | _=>none)
 else none
noncomputable def Vq(x:Str)(e:Expr):List Expr->Option ME
 |[]=>yp r c x e
 |_=>none
noncomputable def AV(x:Str):Option ME:=if oS x&&c.gl x then(c.cls.lookup x).map λf=>.make x f .nil else none
noncomputable def AW(x:Str)(e:Expr)(es:List Expr):Option ME:=if oS x&&c.gl x then(Vq r c x e es).orElse λ_=>(F7 r c (e::es)).bind λms=>((c.fns.lookup x).map λf=>.call f ms).orElse λ_=>((c.cls.lookup x).map λf=>.make x f ms).orElse λ_=>if c.blt.contains x then(CC.lookup x).map λp=>.prim p ms else none else none
noncomputable def IE(x:Str):List Expr->Option ME
 |[]=>AV c x
 |e::es=>AW r c x e es
noncomputable def AX(o:Expr)(m:Str)(apos pos:Pos)(args:List Expr):Option ME :=
 if xy o && (apos.endLine == pos.line) && decide (args.length < 20) then (r.e c o).bind λmo=>(F7 r c args).bind λms=>if m="index" then none else if args.isEmpty && (xN.lookup m).isSome then (xN.lookup m).map λp=>.eA p mo ms else (match CN.lookup m with
  |some p=>if args.isEmpty then none else some (.eA p mo ms)
  | none=>none) else none
noncomputable def Cv(f:Expr)(args:List Expr)(iM:List Keyword)(pos:Pos):Option ME:=if iM.isEmpty then(match f with
 |.Name x _=>IE r c x args
 |.Attribute o m apos=>AX r c o m apos pos args
 | _=>none) else none
noncomputable def ve(tg e:Expr):Option ME:=(((Bb e).bind λq =>
  if q.1="enumerate" then (match q.2 with
   |[a]=>if c.gl "enumerate"&&c.blt.contains "enumerate"&&fA a&&Jy tg then(r.e c a).map .jH else none
   | _=>none)
  else if q.1="reversed" then (match q.2 with
   |[a]=>if c.gl "reversed"&&c.blt.contains "reversed"&&fA a then(r.e c a).map .nc else none
   | _=>none)
  else if q.1="range" then (match q.2 with
   |[a]=>if c.gl "range"&&c.blt.contains "range"&&fA a then(r.e c a).map .fg else none
   |[a,b]=>if c.gl "range"&&c.blt.contains "range"&&fA a&&fA b then(r.e c a).bind λma=>(r.e c b).map λmb=>.jX ma mb else none
   | _=>none)
  else none):Option ME).orElse λ_=>if fA e then (r.e c e).map .fB else none
noncomputable def Y4(elt:Expr)(gens:List Comprehension)(sc:Scope):Option ME:=match gens with
 |[⟨tg,it,ifs,Ef⟩]=>if c.Br sc&&decide (Ef=0)&&fA it then((c.inner sc).tg tg).bind λt=>(ve r c tg it).bind λmi=>(Ii r (c.inner sc) ifs).bind λmc=>(r.e (c.inner sc) elt).map λme=>.comp (c.d6 sc) (frees sc++locals sc).length t mi mc me else none
 |_=>none
noncomputable def TV:Expr->Option Str
 |.Name x _=>some x
 |_=>none
noncomputable def TX:Expr->Option (Expr×List Comprehension×Scope)
 |.SetComp elt gens sc _=>some (elt,gens,sc)
 |_=>none
noncomputable def Vn:ME->Option ME
 |.comp a n t i k e=>some (.gk a n t i k e)
 |_=>none
noncomputable def yq(f:Expr)(args:List Expr)(iM:List Keyword):Option ME:=match args with
 |[a]=>if iM.isEmpty&&decide (TV f=some "sorted")&&c.gl "sorted"&&c.blt.contains "sorted" then(TX a).bind λq=>(Y4 r c q.1 q.2.1 q.2.2).bind Vn else none
 |_=>none
noncomputable def vN(f:Expr)(args:List Expr)(iM:List Keyword):Option ME:=(λ(_:i4)=>none) c
noncomputable def BU(es:List Expr)(k:Nat):Option ME:=if c.lz&&decide (k=0) then(match es with
 |[.Constant (.int i) _ _]=>some (.prim (.jq i) .nil)
 | _=>none) else none
noncomputable def JR:Expr->Option ME
 |.Name x _=>Cw c x
 |.Constant k _ _=>(Cd k).map .lit
 |.BinOp a op b _=>c2 r c (.bin op) a b
 |.UnaryOp op a _=>yo r c op a
 |.Compare a ops bs _=>uY r c a ops bs
 |.BoolOp op vs _=>xb r c op vs
 |.IfExp t a b _=>(r.t c t).bind λmt=>(r.e c a).bind λma=>(r.e c b).map λmb=>.ite mt ma mb
 |.Tuple es _ _=>(F7 r c es).map (.prim .tup)
 |.List es _=>(F7 r c es).map (.prim .lst)
 |.Subscript a b _=>BV r c a b
 |.Dict ks vs _=>if ks.isEmpty&&vs.isEmpty then some (.prim .nJ .nil) else if decide (ks.length<=15) then(vd r c ks vs).map .oN else none
 |.JoinedStr vs _=>if decide (2<=vs.length)&&decide (vs.length<=40) then(rS r c vs).map (.prim .kP) else none
 |.Attribute o f _=>if xy o then c1 r c (.fld f) o else none
 |.Call f args iM pos=>(yq r c f args iM).orElse λ_=>(vN c f args iM).orElse λ_=>Cv r c f args iM pos
 |.ListComp elt gens sc _=>Y4 r c elt gens sc
 |.Set es k _=>BU c es k
 |_=>none
noncomputable def stepT:Expr->Option ME
 |.UnaryOp op a _=>if op=.Not then(r.t c a).map .eL else none
 |.BoolOp op vs _=>xc r c op vs
 |.Compare a ops bs _=>(uY r c a ops bs).map .fP
 |e=>if BQ e then(r.e c e).map .fP else none
noncomputable def i4.xl:List Expr->Expr->Bool
 |[.Name x px,.Name y py],.Tuple [a,b] _ _=>decide (c.nm.lookup x=some .local)&&decide (c.nm.lookup y=some .local)&&decide (x≠y)&&decide (py.line=px.line)&&fA a&&fA b&&!([a,b].all (foldedForSure 8))&&!([a,b].all (constantsAlone 8))
 |_,_=>false
noncomputable def Bc:Option Expr->Option Expr->Option (Str×Expr×List Expr)
 |some (.Call (.Name x _) (e::es) [] _),none=>some (x,e,es)
 |_,_=>none
noncomputable def i4.xY(f:Str):List Str:=(c.mQ.filter λy=>decide (y.1=f)).map (·.2)
noncomputable def CA:List Expr->Option (Expr×Expr×Expr×Expr)
 |_=>none
noncomputable def FY(tg e:Expr):Option MS:=match tg with
 |.Name x _=>if c.y9 x then(c.idx x).bind λi=>(r.e c e).map λm=>.set i m else none
 |.Tuple es _ _=>(CA es).elim (if(rZ e&&v8 e)||c.xl es e then(c.slots es).bind λis=>(r.e c e).map λm=>.kZ (.many is) m else none) λq=>if v8 e&&fA q.2.1&&fA q.2.2.2 then(r.e c q.1).bind λm1=>(r.e c q.2.1).bind λn1=>(r.e c q.2.2.1).bind λm2=>(r.e c q.2.2.2).bind λn2=>(r.e c e).map λm=>.vR m1 n1 m2 n2 m else none
 |.Subscript o i _=>if fA i&&v8 e then(r.e c o).bind λmo=>(r.e c i).bind λmi=>(r.e c e).map λm=>.dM mo mi m else none
 |.Attribute o f _=>if v8 e then(r.e c o).bind λmo=>(r.e c e).map λm=>.gM f (c.xY f) mo m else none
 |_=>none
noncomputable def Jz:Operator->Option Pr
 |.Add=>some .iadd
 |.Sub=>some .lT
 |_=>none
noncomputable def toR(e:Expr)(m:ME):ME:=(λ(_:i4)=>m) c
noncomputable def JS:Stmt->Option MS
 |.Expr e _=>if v8 e then(r.e c e).map .expr else none
 | .Assign yB e _=>(match yB with
  |[tg]=>FY r c tg e
  | _=>none)
 | .AugAssign tg op e _=>(match tg with
  |.Name x _=>if c.y9 x then(Jz op).bind λp=>(c.idx x).bind λi=>(r.e c e).map λm=>.jC i p m else none
  | _=>none)
 |.If t a b _=>(r.t c t).bind λmt=>(x8 r c a).bind λma=>(x8 r c b).map λmb=>.ifs mt ma mb
 |.For tg it body nC _=>if c.lz&&(nC.isEmpty&&fA it) then(c.tg tg).bind λt=>(ve r c tg it).bind λmi=>(x8 r c body).map λmb=>.dS t mi mb else none
 |.While t body nC _=>if c.lz&&nC.isEmpty then(r.t c t).bind λmt=>(x8 r c body).map λmb=>.jn mt mb else none
 | .Return e _=>(match e with
  |some e=>(r.e c e).map λm=>.ret (toR c e m)
  | none=>some .pF)
 |.Pass _=>some .pass
 |.Raise e f _=>(Bc e f).bind λq=>if c.jU&&c.exc.contains q.1&&c.gl q.1&&oS q.1 then(F7 r c (q.2.1::q.2.2)).map (.raise q.1) else none
 |_=>none
end
noncomputable def comp:Nat->CF
 |0=>⟨λ_ _=>none,λ_ _=>none,λ_ _=>none⟩
 |n+1=>⟨JR (comp n),stepT (comp n),JS (comp n)⟩
end M

namespace M
open PySem L2 PySem.Spec PyProof.Rows
structure gB(X:Cx)(c:i4)(P:eT)(Ξ:gA):Prop where
 N:X.N=c.N
 nd:c.N.Nodup
 loc:∀x,c.nm.lookup x=some .local->X.env.scope.names.lookup x=some .local
 wV:∀x,c.nm.lookup x=some .cell->X.env.scope.names.lookup x=some .cell
 Aq:∀x,c.nm.lookup x=some .free->X.env.scope.names.lookup x=some .cell\/X.env.scope.names.lookup x=some .free
 EZ:∀x,c.nm.lookup x=some .globalImplicit->X.env.scope.names.lookup x=some .globalImplicit
 cells:∀x,(c.nm.lookup x=some .cell\/c.nm.lookup x=some .free)->∃a,X.env.cells.lookup x=some a
 lz:∀x,c.nm.lookup x=some .cell->X.fn x=true
 calm:X.calm=true
 units:X.A.units+100<cLine
 own:c.lz=true->PassesOwn (model X.prog X.w) X.A X.env X.xe
 mono:i7 P
 con:∀x d,c.con.lookup x=some d->∃v u,X.mg x=some u/\RelV v u/\∀ρ H,f7 X.K ρ H d v
 blt:∀x,c.blt.contains x=true->X.mg x=none
 fns:∀x f,c.fns.lookup x=some f->∃k fa fd ps,oZ X P Ξ.1 k f fa fd ps/\v9 k X.A/\X.mg x=some (.ref fa)/\PySem.W.keepIn X.K (.ref fa)=true
 cls:∀x f,c.cls.lookup x=some f->∃k C fa fd ps,oZ X P Ξ.1 k f fa fd ps/\v9 (k+1) X.A/\X.mg x=some (.ref C)/\u4 X.K x C/\jh X.K C/\Mk X.K C fa
 nY:∀m y f C,(m,y,f)∈c.nY->u4 X.K y C->∃k fa fd ps,Meth X.K C m fa/\oZ X P Ξ.1 k f fa fd ps/\v9 k X.A
 mQ:∀f y C,(f,y)∈c.mQ->u4 X.K y C->B5 X.K C f
 Au:Ξ.1=c.exc
 pass:Passes (iG X.prog X.w) X Ξ.2
 jU:c.jU=true->xE X Ξ.2
 lK:c.lK=true->X.stack=X.env::X.outer/\X.env.frame=some X.env.locals/\xt X Ξ.2
 exc:∀x,c.exc.contains x=true->∃C,X.mg x=some (.ref C)/\u4 X.K x C/\∃B newId fT bm,OwnCls x C bm newId X.mg X.base/\ExcBaseFacts B newId fT bm
 Ff:∀x y C C',c.exc.contains x=true->c.exc.contains y=true->u4 X.K x C->u4 X.K y C'->PySem.W.exmOne X.K (.ref C) (.ref C')=some (decide (x=y\/y="MintError"))
 uE:∀x kvs,c.gd.lookup x=some kvs->wX X x kvs
 code:c.lz=true->PySem.W.kdsCode X.K X.env.code=true
section
variable{X:Cx}{c:i4}{P:eT}{Ξ:gA}
theorem RS{c:i4}{x:Str}{i:Nat}(h:c.idx x=some i):c.N[i]?=some x:=by
 unfold i4.idx at h;rw[jF] at h;obtain⟨h1,h2,_⟩:=h;rw[ai h1,bp h2]
theorem gB.OD(C:gB X c P Ξ){x:Str}(h:c.sN x=true):vx X.env.scope x:=by
 unfold i4.sN at h;split at h
 ·rename_i e;exact .inl (C.loc x e)
 ·rename_i e;exact .inr (.inl (C.wV x e))
 ·rename_i e;rcases C.Aq x e with z|z
  ·exact .inr (.inl z)
  ·exact .inr (.inr z)
 ·cases h
theorem gB.A5(C:gB X c P Ξ){x:Str}(h:c.gl x=true):Gl X x:=C.EZ x (bp h)
theorem gB.y9(C:gB X c P Ξ){x:Str}(h:c.y9 x=true):Loc X.env.scope x/\(X.fn x=true\/X.env.scope.names.lookup x=some .local):=by
 unfold i4.y9 at h;rw[cF] at h;rcases h with h|h
 ·have:=C.loc x (bp h);exact⟨.inl this,.inr this⟩
 ·exact⟨.inr (C.wV x (bp h)),.inl (C.lz x (bp h))⟩
theorem gB.qy(C:gB X c P Ξ){x:Str}{i:Nat}(h:c.idx x=some i):X.N[i]?=some x:=by rw[C.N];exact RS h
theorem gB.pK(C:gB X c P Ξ):X.N.Nodup:=by rw[C.N];exact C.nd
theorem Hl{e:Expr}{x:Str}(h:asName e=some x):∃p,e=.Name x p:=by
 cases e<;>first|(cases h;exact⟨_,rfl⟩)|cases h
theorem Gv{e:Expr}{i:Nat}(h:c.slot e=some i):∃x p,e=.Name x p/\c.y9 x=true/\c.idx x=some i:=by
 unfold i4.slot at h;obtain⟨x,hx,h2⟩:=ah.mp h;obtain⟨p,rfl⟩:=Hl hx;split at h2
 ·exact⟨x,p,rfl,by assumption,h2⟩
 ·cases h2
theorem gB.slots(C:gB X c P Ξ):∀{es:List Expr} {is:List Nat},c.slots es=some is->fj X es is:=by
 intro es
 induction es with
 |nil=>intro is h;cases h;exact .nil
 |cons e r ih =>
  intro is h;unfold i4.slots at h;obtain⟨i,hi,h⟩:=ah.mp h;obtain⟨is',hs,rfl⟩:=aa.mp h;obtain⟨x,p,rfl,hl,hx⟩:=Gv hi;exact .cons (C.qy hx) (C.y9 hl).1 (C.y9 hl).2 (ih hs)
theorem orElse_some{α:Type}{a:Option α}{b:Unit->Option α}{m:α}(h:a.orElse b=some m):a=some m\/b ()=some m:=by
 cases a with
 |none=>exact .inr h
 |some x=>exact .inl h
theorem gB.Gf(C:gB X c P Ξ){tg:Expr}{t:MT}(h:c.tg tg=some t):PG X tg (LG X.K t):=by
 unfold i4.tg at h;rcases orElse_some h with h|h
 ·obtain⟨i,hi,rfl⟩:=aa.mp h;obtain⟨x,p,rfl,hl,hx⟩:=Gv hi;exact QM C.pK (C.qy hx) (C.y9 hl).1 (C.y9 hl).2
 ·cases tg<;>first|(cases h;done)|skip
  obtain⟨is,hs,rfl⟩:=aa.mp (show(c.slots _).map MT.many=some t from h);exact Jf C.calm C.pK (C.slots hs)
theorem n4{e:Expr}{es:List Expr}{env:Env}(h:fA e=true):starEach (e::es) env=(false,eval e env)::starEach es env:=by
 cases e<;>first|rfl|cases h
theorem Z0{e:Expr}{env:Env}(h:fA e=true):∀x,foldedSetIterable e env x=pure x:=by
 intro x;cases e<;>first|rfl|cases h
theorem Im{e:Expr}(h:fA e=true):AZ e:=by
 intro o i;cases e<;>first|rfl|cases h
theorem So{o i:Expr}{tp:Pos}{env:Env}(h:fA i=true):∀v,assign (.Subscript o i tp) env v=(do
      let ov <- holding [v] (eval o env)
      let iv <- holding [v,ov] (eval i env)
      standAt tp
      holding [v,ov,iv] (setItem ov iv v)
      release [v,ov,iv] []):=by
  intro v;cases i<;>first|rfl|cases h
theorem T8{e:Expr}{t:Option Expr}{n:Nat}{env:Env}(h:v8 e=true):swapsWith e t n env=pure false:=by
 cases e<;>first|rfl|cases h
theorem a35{e:Expr}{es:List Expr}{k:Nat}{p:Pos}{env:Env}(h:rZ e=true):swappedStores [.Tuple es k p] e env=pure none:=by
 cases e<;>first|rfl|cases h
theorem Yr{e:Expr}{env:Env}(h:BQ e=true):∀whole,isTrue e env whole=(do let v <- whole;standAt e.pos;holding [v] (truthy v)):=by
 intro w;cases e<;>first|rfl|cases h
theorem HD{e:Expr}{q:Str×List Expr}(h:Bb e=some q):∃p pos,e=.Call (.Name q.1 p) q.2 [] pos:=by
 cases e<;>first|(cases h;done)|skip
 rename_i f as iM pos;cases f<;>first|(cases h;done)|skip
 cases iM<;>first|(cases h;done)|skip
 cases h;exact⟨_,_,rfl⟩
theorem XA{e:Expr}(h:Jy e=true):∃es k p,e=.Tuple es k p:=by
 cases e<;>first|exact⟨_,_,_,rfl⟩|cases h
theorem Jq{b:Expr}{kvs:List D}(h:c.xZ b=some kvs):∃x p,b=.Name x p/\c.gl x=true/\oS x=true/\c.gd.lookup x=some kvs:=by
 unfold i4.xZ at h;obtain⟨x,hx,h2⟩:=ah.mp h;obtain⟨p,rfl⟩:=Hl hx;split at h2
 ·rename_i hc;rw[aU] at hc;exact⟨x,p,rfl,hc.1,hc.2,h2⟩
 ·cases h2
theorem Q3{o:Expr}{f:Str}{env:Env}(h:xy o=true):attributeBase o f env (eval o env)=eval o env:=by
 cases o<;>first|rfl|skip
 rename_i f as iM pos;cases f<;>first|rfl|cases h
theorem Bh{env:Env}:∀(names:List (Str×NameKind)) (acc:List (Str×Addr)),(∀y∈names,y.2=.free->∃a,env.cells.lookup y.1=some a)->(∀x a,acc.lookup x=some a->env.cells.lookup x=some a) ->
  ∃ cl,(forIn names acc λ(y:Str × NameKind) (cs:List (Str × Addr))=>(match y with
   |(name,kind)=>if(kind==NameKind.free)=true then do
     let __do_lift <- cellOf env name
     pure (ForInStep.yield ((name,__do_lift)::cs))
    else pure (ForInStep.yield cs):Sem (ForInStep (List (Str × Addr)))))=pure cl/\(∀ x a,cl.lookup x=some a->env.cells.lookup x=some a)/\(∀ y ∈ names,y.2=.free->∃ a,cl.lookup y.1=some a)/\∀ x a,acc.lookup x=some a->∃ a',cl.lookup x=some a'
 |[],acc,_,h2=>⟨acc,rfl,h2,λy hy=>absurd hy (by simp),λx a h=>⟨a,h⟩⟩
 |(n,k)::r,acc,h1,h2=>by
  rw[List.forIn_cons];by_cases hk:k=.free
  ·subst hk;obtain⟨a,ha⟩:=h1 (n,.free) (by simp) rfl;have hc:cellOf env n=pure a:=by unfold cellOf;rw[ha]
   obtain ⟨cl,e,q1,q2,q3⟩:=Bh r ((n,a) :: acc) (λy hy=>h1 y (by simp [hy])) (λx b hb=>by
    rw[cw] at hb;cases hx:x==n with
    |true=>rw[hx] at hb;cases hb;rw[eq_of_beq hx];exact ha
    | false=>rw [hx] at hb;exact h2 x b hb)
   refine⟨cl,?_,q1,λy hy hf=>?_,λx b hb=>?_⟩
   ·simp only[beq_self_eq_true,if_true,hc];exact e
   ·rcases aH.mp hy with z|z
    ·subst z;exact q3 n a (by simp[List.lookup_cons])
    ·exact q2 y z hf
   ·cases hx:x==n with
    |true=>exact q3 x a (by rw[cw,hx])
    |false=>exact q3 x b (by rw[cw,hx];exact hb)
  ·have hb:(k==NameKind.free)=false:=by simpa using hk
   obtain⟨cl,e,q1,q2,q3⟩:=Bh r acc (λy hy=>h1 y (by simp[hy])) h2;refine⟨cl,?_,q1,λy hy hf=>?_,q3⟩
   ·simp only[hb,Bool.false_eq_true,if_false];exact e
   ·rcases aH.mp hy with z|z
    ·subst z;exact absurd hf hk
    ·exact q2 y z hf
end
end M

namespace M
open PySem L2 PySem.Spec PyProof.Rows
theorem Yl{P:Program}{w:World}{X:Cx}:Passes (iG P w) X (λ_ _ _=>False):=λ_ _ _ _ _ _ _ h=>by
 obtain⟨_,_,_,_,_,_,_,z⟩:=h;exact z.elim
theorem O6{env:Env}:∀{names:List (Str×NameKind)} {x:Str},names.lookup x=some .globalImplicit ->
  (names.map λ(n,k)=>if(k==NameKind.free&&env.scope.kind==.function&&env.kindOf n==some .cell) then(n,NameKind.cell) else(n,k)).lookup x=some .globalImplicit
 |[],_,h=>by simp at h
 |(n,k)::r,x,h=>by
  have ih:=@O6 env r x;show List.lookup x ((if(k==NameKind.free&&env.scope.kind==.function&&env.kindOf n==some .cell)=true then(n,NameKind.cell) else(n,k))::_)=_;cases hx:x==n with
  |true =>
   simp only[List.lookup_cons,hx] at h;cases h;simp[List.lookup_cons,hx]
  |false =>
   simp only[List.lookup_cons,hx] at h;by_cases hc:(k==NameKind.free&&env.scope.kind==.function&&env.kindOf n==some .cell)=true
   ·rw[aF hc];simp only[List.lookup_cons,hx];exact ih h
   ·rw[az hc];simp only[List.lookup_cons,hx];exact ih h
section
variable{X:Cx}{c:i4}{P:eT}{Ξ:gA}
theorem gB.comp(C:gB X c P Ξ){sc:Scope}(h:c.Br sc=true):∃cl,da X sc (frees sc++locals sc) (c.d6 sc) cl/\∀pins A s H fp,gB (f6 X pins sc (frees sc++locals sc) cl A s H fp) (c.inner sc) P (oV Ξ.1):=by
 unfold i4.Br at h;simp only[Bool.and_eq_true,decide_eq_true_eq,List.all_eq_true] at h;obtain⟨⟨⟨⟨h1,h2⟩,h3⟩,h4⟩,h5⟩:=h;have mn:∀x,sc.names.lookup x=some .free->x∈frees sc:=λx hx=>by
  unfold frees;exact aQ.mpr ⟨(x,.free),aO.mpr ⟨aM hx,by simp⟩,rfl⟩
 have fr:∀x∈frees sc,(∃i,c.idx x=some i)/\sc.names.lookup x=some .free/\(c.nm.lookup x=some .cell\/c.nm.lookup x=some .free):=λx hx=>by
  have:=h5 x hx;rw[dP,cF] at this;simp only[decide_eq_true_eq] at this;exact⟨this.1.1,this.1.2,this.2⟩
 have qt:∀y∈sc.names,y.2=.free->∃a,X.env.cells.lookup y.1=some a:=λy hy hf=>by
  have hm:y.1∈frees sc:=aQ.mpr ⟨y,aO.mpr ⟨hy,by simp[hf]⟩,rfl⟩;exact C.cells y.1 (fr y.1 hm).2.2
 obtain⟨cl,e,q1,q2,_⟩:=Bh sc.names [] qt (λx a h=>by simp at h);have h2:∀y∈sc.names,y.2=.cell->sc.names.lookup y.1=some .cell:=λy hy hl=>by
  have:=h2 y hy;rw[cF] at this;simp only[Bool.not_eq_true',decide_eq_false_iff_not,decide_eq_true_eq] at this;exact this.resolve_left λz=>z hl
 refine⟨cl,⟨h1,h2,λy hy hl=>?_,?_,q1,λx hx=>q2 (x,.free) (aM hx) rfl,h4,λi j iQ=>?_,?_⟩,λpins A s H fp=>?_⟩
 ·have:=h3 y hy;rw[cF] at this;simp only[Bool.not_eq_true',decide_eq_false_iff_not,decide_eq_true_eq] at this;exact this.resolve_left λz=>z hl
 ·simp only[closureFor];rw[e]
  rfl
 ·unfold i4.d6 at iQ;rw[ak] at iQ;cases ex:(frees sc)[i]? with
  |none=>rw[ex] at iQ;cases iQ
  |some x =>
   rw[ex] at iQ;have hx:x∈frees sc:=aP ex;obtain⟨⟨k,hk⟩,hl,hc⟩:=fr x hx;have hj:k=j:=by
    have:=aI iQ;dsimp only at this;rw[hk] at this;exact this
   subst hj;refine⟨x,?_,C.qy hk,hl,?_⟩
   ·rw[aA (aj.mp ex).1];exact ex
   ·rcases hc with z|z
    ·exact .inl (C.wV x z)
    ·exact C.Aq x z
 ·unfold i4.d6;rw[ag,bc];omega
 ·refine⟨rfl,h4,λx hx=>lookup_relabel_local hx,λx hx=>?_,λx hx=>E0 hx,λx hx=>O6 hx,λx hx=>?_,λx _=>?_,rfl,C.units,(λ_=>PassesOwn.never),C.mono,C.con,C.blt,C.fns,C.cls,C.nY,C.mQ,C.Au,Yl,(λz=>by cases z),(λz=>by cases z),C.exc,C.Ff,C.uE,(λz=>by cases z)⟩
  ·exact L6 hx
  ·rcases hx with hx|hx
   ·exact GK (.inl hx)
   ·exact GK (.inr (q2 (x,.free) (aM hx) rfl))
  ·exact aC ‹_›
theorem M1{x:Str}(h:oS x=true):(x==("__debug__":Str))=false/\(x==("__classdict__":Str))=false/\x≠"__name__":=by
 unfold oS at h;simp only[Bool.and_eq_true,decide_eq_true_eq,beq_iff_eq] at h;exact⟨h.1.1,h.1.2,h.2⟩
theorem Xu{x:Str}{t:String}(h:Cr.lookup x=some t):bootBuiltins x=some (.type t):=by
 have hm:=aM h;simp only[Cr,List.mem_cons,List.mem_nil_iff,or_false] at hm;rcases hm with z|z|z|z|z<;>(cases z;first|exact vJ|exact PyProof.Rows.boot_bool|exact PyProof.Rows.boot_str|exact qN|exact eF|decide +kernel|rfl)
theorem XB{x:Str}{p:Pr}(hc:X.calm=true)(h:CC.lookup x=some p):∃v,((∃id,v=.builtin id)\/∃T,v=.type T)/\bootBuiltins x=some v/\m8 X v (rN X.K p):=by
 have hm:=aM h;simp only[CC,List.mem_cons,List.mem_nil_iff,or_false] at hm;rcases hm with z|z|z|z|z|z|z|z|z
 ·cases z;exact⟨.builtin "len",.inl ⟨_,rfl⟩,PySem.boot_len,Pk⟩
 ·cases z;exact⟨.type "list",.inr ⟨_,rfl⟩,by first|exact eF|decide +kernel,Se⟩
 ·cases z;exact⟨.type "tuple",.inr ⟨_,rfl⟩,by first|exact qN|decide +kernel,Xr⟩
 ·cases z;exact⟨.builtin "isinstance",.inl ⟨_,rfl⟩,by first|exact PyProof.Rows.boot_isinstance|decide +kernel,RY⟩
 ·cases z;exact⟨.builtin "all",.inl ⟨_,rfl⟩,by first|exact PyProof.Rows.boot_all|decide +kernel,OL hc⟩
 ·cases z;exact⟨.builtin "max",.inl ⟨_,rfl⟩,by first|exact PyProof.Rows.boot_max|decide +kernel,Pq hc⟩
 ·cases z;exact⟨.builtin "min",.inl ⟨_,rfl⟩,by first|exact PyProof.Rows.boot_min|decide +kernel,Pt hc⟩
 ·cases z;exact⟨.type "int",.inr ⟨_,rfl⟩,by first|exact vJ|decide +kernel,OX⟩
 ·cases z;exact⟨.builtin "sum",.inl ⟨_,rfl⟩,by first|exact PyProof.Rows.boot_sum|decide +kernel,Rb hc⟩
theorem Zh{x:Str}{p:Pr}(h:xN.lookup x=some p):∃T id,PlainAttrs T/\Slot T x id/\typeOf (.builtin id)=pure (.type "method_descriptor")/\mH X id (rM X.K p) /\
  ∀{d:D} {v:V} {g:G} {ρ:List Addr} {H:Hp},Rl X.K ρ g H->f7 X.K ρ H d v->lq p d g->mL X.K T v H:=by
 cases h
theorem Yd{x:Str}{p:Pr}(hu:X.A.units+100<cLine)(h:CN.lookup x=some p):∃T id,PlainAttrs T/\Slot T x id/\typeOf (.builtin id)=pure (.type "method_descriptor")/\mH X id (rM X.K p) /\
  ∀{d:D} {v:V} {g:G} {ρ:List Addr} {H:Hp},Rl X.K ρ g H->f7 X.K ρ H d v->lq p d g->mL X.K T v H:=by
 have hm:=aM h;simp only[CN,List.mem_cons,List.mem_nil_iff,or_false] at hm;rcases hm with z|z|z|z
 ·cases z;exact⟨_,_,qK,PySem.F.slot_list_append,PySem.F.type_list_append,Xz,λR r h=>ty_list R r h⟩
 ·cases z;exact⟨_,_,qK,PySem.F.slot_list_pop,PySem.F.type_list_pop,a23,λR r h=>ty_list R r h⟩
 ·cases z;exact⟨_,_,PySem.F.plainAttrs_dict,ic,PySem.F.type_dict_get,OS hu,λR r h=>ty_dict R r h⟩
 ·cases z;exact⟨_,_,PySem.F.plainAttrs_set,PySem.F.slot_set_add,PySem.F.type_set_add,SV,λR r h=>ty_set R r h⟩
theorem Gy{pos:Pos}{env:Env}:∀{es:List Expr},(∀e∈es,fA e=true)->(backTo pos (starEach es env)).all (λx=>!x.1)=true
 |[],_=>rfl
 |e::es,h=>by
  rw[n4 (h e (by simp))];have ih:=Gy (pos:=pos) (env:=env) (es:=es) λx hx=>h x (by simp[hx]);unfold backTo at ih ⊢;rw[ba,List.all_cons,ih]
  rfl
theorem Y6{pos:Pos}{env:Env}:∀{es:List Expr},(∀e∈es,fA e=true)->(backTo pos (starEach es env)).any (·.1)=false
 |[],_=>rfl
 |e::es,h=>by
  rw[n4 (h e (by simp))];have ih:=Y6 (pos:=pos) (env:=env) (es:=es) λx hx=>h x (by simp[hx]);unfold backTo at ih ⊢;rw[ba,fb,ih]
  rfl
theorem Bu{r:CF}:∀{es:List Expr} {m:ME},F7 r c es=some m->∀e∈es,fA e=true:=by
 intro es
 induction es with
 |nil=>intro m _ e he;exact absurd he (by simp)
 |cons a es ih =>
  intro m h e he;unfold F7 at h;split at h
  ·obtain⟨m1,h1,h⟩:=ah.mp h;obtain⟨m2,h2,_⟩:=aa.mp h;rcases aH.mp he with z|z
   ·rw[z];assumption
   ·exact ih h2 e z
  ·cases h
end
theorem YK{a:Expr}{x:Str}(h:Ig a=some x):∃j p,a=.Constant (.str x) j p:=by
 cases a with
 |Constant k j p=>cases k with
  |str y=>cases h;exact⟨_,_,rfl⟩
  |_=>cases h
 |_=>cases h
theorem a65{a e:Expr}(h:FO a=some e):∃p,a=.FormattedValue e (-1) none p:=by
 cases a with
 |FormattedValue v k f p=>cases f with
  |none =>
   have h2:(if k=-1 then some v else none)=some e:=h;split at h2
   ·rename_i hk;cases h2;rw[hk];exact⟨_,rfl⟩
   ·cases h2
  |some _=>cases h
 |_=>cases h
structure oX(P:eT)(r:CF):Prop where
 e:∀X c Ξ,gB X c P Ξ->∀e m,r.e c e=some m->PE X e (LE X.K Ξ (aK P m))
 t:∀X c Ξ,gB X c P Ξ->∀e m,r.t c e=some m->PT X e (LT X.K Ξ (cA P m))
 s:∀X c Ξ,gB X c P Ξ->∀st m,r.s c st=some m->PS X st (LS X.K Ξ (wpS P m))
section
variable{X:Cx}{c:i4}{P:eT}{Ξ:gA}{r:CF}(S:oX P r)(C:gB X c P Ξ){a b d e:Expr}{m:ME}{pos:Pos}
include S C
theorem Y3{p:Pr}(h:c1 r c p a=some m):∃ma,PE X a (LE X.K Ξ (aK P ma))/\m=.prim p (.cons ma .nil):=by
 obtain⟨ma,ha,rfl⟩:=aa.mp h;exact⟨ma,S.e X c Ξ C _ _ ha,rfl⟩
theorem Y2{p:Pr}(h:c2 r c p a b=some m):∃ma mb,PE X a (LE X.K Ξ (aK P ma))/\PE X b (LE X.K Ξ (aK P mb))/\m=.prim p (.cons ma (.cons mb .nil)):=by
 obtain⟨ma,ha,h⟩:=ah.mp h;obtain⟨mb,hb,rfl⟩:=aa.mp h;exact⟨ma,mb,S.e X c Ξ C _ _ ha,S.e X c Ξ C _ _ hb,rfl⟩
theorem qV:∀{es:List Expr} {m:ME},F7 r c es=some m->PA X es (LA X.K Ξ (cW P m)):=by
 intro es
 induction es with
 |nil=>intro m h;cases h;exact K7 C.mono
 |cons a es ih =>
  intro m h;unfold F7 at h;split at h
  ·rename_i bE;obtain⟨m1,h1,h⟩:=ah.mp h;obtain⟨m2,h2,rfl⟩:=aa.mp h;exact B8 C.mono (S.e X c Ξ C _ _ h1) (ih h2) (n4 bE)
  ·cases h
theorem Lr:∀{es:List Expr} {m:ME},rS r c es=some m->∃ts,lA X Ξ P es m ts:=by
 intro es
 induction es with
 |nil=>intro m h;cases h;exact⟨_,.nil⟩
 |cons a es ih =>
  intro m h;unfold rS at h;rcases orElse_some h with h1|h1
  ·obtain⟨x,hx,h2⟩:=ah.mp h1;obtain⟨j,p,rfl⟩:=YK hx;split at h2
   ·obtain⟨m2,h3,rfl⟩:=aa.mp h2;obtain⟨ts,F⟩:=ih h3;exact⟨_,.lit (by assumption) F⟩
   ·cases h2
  ·obtain⟨x,hx,h2⟩:=ah.mp h1;obtain⟨m1,h3,h4⟩:=ah.mp h2;obtain⟨m2,h5,rfl⟩:=aa.mp h4;obtain⟨p,rfl⟩:=a65 hx;obtain⟨ts,F⟩:=ih h5;exact⟨_,.val (S.e X c Ξ C _ _ h3) F⟩
theorem Lu:∀{ks:List (Option Expr)} {vs:List Expr} {m:ME},vd r c ks vs=some m->∃gO,lB X Ξ P ks vs m gO:=by
 intro ks
 induction ks with
 |nil=>intro vs m h;cases vs<;>first|(cases h;exact⟨_,.nil⟩)|cases h
 |cons k ks ih =>
  intro vs m h;cases k<;>first|(cases h;done)|skip
  cases vs<;>first|(cases h;done)|skip
  unfold vd at h;obtain⟨m1,h1,h⟩:=ah.mp h;obtain⟨m2,h2,h⟩:=ah.mp h;obtain⟨m3,h3,rfl⟩:=aa.mp h;obtain⟨gO,D⟩:=ih h3;exact⟨_,.cons (S.e X c Ξ C _ _ h1) (S.e X c Ξ C _ _ h2) D⟩
theorem Lv{op:BoolOp}:∀{vs:List Expr} {m:ME},xb r c op vs=some m->PE X (.BoolOp op vs pos) (LE X.K Ξ (aK P m)):=by
 intro vs
 induction vs with
 |nil=>intro m h;cases h
 |cons a vs ih =>
  intro m h;cases vs with
  |nil=>exact Qh (S.e X c Ξ C _ _ h)
  |cons b vs =>
   unfold xb at h;obtain⟨m1,h1,h⟩:=ah.mp h;obtain⟨m2,h2,rfl⟩:=aa.mp h;cases op
   ·exact QB C.mono (S.e X c Ξ C _ _ h1) (ih h2)
   ·exact Od C.mono (S.e X c Ξ C _ _ h1) (ih h2)
theorem Ln{op:BoolOp}:∀{vs:List Expr} {m:ME},xc r c op vs=some m->PW X (.BoolOp op vs pos) (LT X.K Ξ (cA P m)):=by
 intro vs
 induction vs with
 |nil=>intro m h;cases h
 |cons a vs ih =>
  intro m h;cases vs with
  |nil =>
   cases op
   ·exact SR (S.t X c Ξ C _ _ h)
   ·exact Qv (S.t X c Ξ C _ _ h)
  |cons b vs =>
   unfold xc at h;obtain⟨m1,h1,h⟩:=ah.mp h;obtain⟨m2,h2,rfl⟩:=aa.mp h;cases op
   ·exact Rc C.mono (S.t X c Ξ C _ _ h1) (ih h2)
   ·exact Oh C.mono (S.t X c Ξ C _ _ h1) (ih h2)
theorem UB{es:List Expr}(h:Ii r c es=some m):kz X es (LT X.K Ξ (cA P m)):=by
 rcases es with _|⟨e,_|⟨_,_⟩⟩
 ·cases h;exact Ts C.mono
 ·exact SQ (S.t X c Ξ C _ _ h)
 ·cases h
theorem uU:∀{DF:List Stmt} {m:MS},x8 r c DF=some m->iR X DF (LS X.K Ξ (wpS P m)):=by
 intro es
 induction es with
 |nil=>intro m h;cases h;exact QS C.mono
 |cons a es ih =>
  intro m h;unfold x8 at h;obtain⟨m1,h1,h⟩:=ah.mp h;obtain⟨m2,h2,rfl⟩:=aa.mp h;exact Tq C.mono (S.s X c Ξ C _ _ h1) (ih h2)
end
theorem HL{e t:Expr}{n:Nat}{env:Env}(h:v8 e=true):swapsWithSole [t] e n env=pure false:=by
 show swapsWith e (some t) n env=pure false;exact T8 h
theorem Zl{x y:Str}{px py pt nV:Pos}{kt k2:Nat}{a b:Expr}{env:Env}(hk:env.scope.kind=.function)(hx:env.kindOf x=some .local)(hy:env.kindOf y=some .local)(dw:x≠y)(hl:py.line=px.line)(ha:fA a=true)(hb:fA b=true)(h1:[a,b].all (foldedForSure 8)=false)(h2:[a,b].all (constantsAlone 8)=false):swappedStores [.Tuple [.Name x px,.Name y py] kt pt] (.Tuple [a,b] k2 nV) env=pure (some [x,y]):=by
 have MK:env.blockKind=.function:=by simp[Env.blockKind,hk,ScopeKind.isAnnotationScope]
 have hd:[x,y].eraseDups.length=2:=by
  have:(y==x)=false:=by simpa using bC dw
  simp[List.eraseDups_cons,this]
 have nh:(env.kindOf x==some NameKind.local&&px.line==px.line)=true:=by simp[hx]
 have zf:(env.kindOf y==some NameKind.local&&py.line==px.line)=true:=by simp[hy,hl]
 have hp:Expr.pos (.Name x px)=px:=rfl;unfold swappedStores;simp only[List.length_cons,List.length_nil,MK,List.head?_cons,Option.map_some,Option.getD_some,hp,List.filterMap_cons,List.filterMap_nil,nh,zf,if_true,hd,h1,h2];rw[az (by decide),az ?_]
 ·rfl
 ·simp only[List.any_cons,List.any_nil,Bool.or_false,Bool.or_eq_true,not_or];constructor
  ·cases a<;>first|(intro h;cases h;done)|cases ha
  ·cases b<;>first|(intro h;cases h;done)|cases hb
theorem Rg{X:Cx}{Ξ:gA}{P:eT}(hP:i7 P){i j:Nat}{x y:Str}{a b:Expr}{px py pt nV pos:Pos}{kt k2:Nat}{gz:ME}(hc:X.calm=true)(hN:X.N.Nodup)(hi:X.N[i]?=some x)(hj:X.N[j]?=some y)(dw:x≠y)(hl:py.line=px.line)(hx:X.env.scope.names.lookup x=some .local)(hy:X.env.scope.names.lookup y=some .local)(oa:fA a=true)(ob:fA b=true)(h1:[a,b].all (foldedForSure 8)=false)(h2:[a,b].all (constantsAlone 8)=false)(ha:PA X [a,b] (LA X.K Ξ (cW P gz))):PS X (.Assign [.Tuple [.Name x px,.Name y py] kt pt] (.Tuple [a,b] k2 nV) pos) (LS X.K Ξ (wpS P (.kZ (.many [i,j]) (.prim .tup gz)))):=by
 intro pins s bR H D I h;have iQ:i≠j:=by
  rintro rfl;rw[hi] at hj;cases hj;exact dw rfl
 refine Qr hc hN hi hj iQ hx hy ha (Zl I.ok.kind hx hy dw hl oa ob h1 h2) rfl pins s bR H D I ?_;obtain⟨Z,g,ρ,sr,R,h⟩:=h;refine jo hP sr R (.refl _ _) (show cW P gz Z g (λxs g1=>cH .tup xs g1 _) _ from h) λds g1 bJ H1 vs e1 R1 r1 h=>?_;obtain⟨d',g',⟨_,rfl,rfl⟩,l,bN,ex,hs,h⟩:=h;cases ex;have hl:=Y8 hs;have e2:∃d1 d2,ds=[d1,d2]:=by
  rcases ds with _|⟨d1,_|⟨d2,_|⟨d3,r⟩⟩⟩<;>first|exact⟨_,_,rfl⟩|(simp at hl;done)|(simp at hl;omega)
 obtain⟨d1,d2,rfl⟩:=e2;obtain⟨v,w,rfl,q1,q2⟩:=r1.two;cases hs;exact⟨_,_,rfl,h bJ H1 _ e1 R1 (((sr.ext e1).set i q1).set j q2)⟩
theorem gB.BS{X:Cx}{c:i4}{Ξ:gA}{P:eT}(C:gB X c P Ξ)(fq:X.stack=X.env::X.outer)(hf:X.env.frame=some X.env.locals)(pins:List (Addr×Obj))(D:L2.Ends)(hs:List ExceptHandler) :
  gB (xo X pins (xp X pins D hs)) { c with jU:=false,lK:=false } P (Vr X Ξ.1 D hs) :=
 ⟨C.N,C.nd,C.loc,C.wV,C.Aq,C.EZ,C.cells,C.lz,C.calm,C.units,(λ_=>PassesOwn.looking),C.mono,C.con,C.blt,C.fns,C.cls,C.nY,C.mQ,C.Au,a31 fq hf λC H' ⟨C',e,z⟩=>(by cases e;exact z),(λz=>by cases z),(λz=>by cases z),C.exc,C.Ff,C.uE,C.code⟩
end M

namespace M
open PySem L2 PySem.Spec PyProof.Rows
section
variable{X:Cx}{c:i4}{P:eT}{Ξ:gA}{r:CF}(S:oX P r)(C:gB X c P Ξ){a b d e:Expr}{m:ME}{pos:Pos}
include C
theorem Pw{x:Str}(h:Cw c x=some m):PE X (.Name x pos) (LE X.K Ξ (aK P m)):=by
 unfold Cw at h;split at h
 ·rename_i hX;obtain⟨d1,d2,d3⟩:=M1 hX;split at h
  ·rename_i hv;obtain⟨i,hi,rfl⟩:=aa.mp h;exact QK (C.qy hi) (C.OD hv) d1 d2
  ·split at h
   ·rename_i hg;rcases orElse_some h with h|h
    ·obtain⟨d,hd,rfl⟩:=aa.mp h;obtain⟨v,u,hm,r,rr⟩:=C.con x d hd;exact Q8 (xO (C.A5 hg) hm r d1) rr
    ·split at h
     ·rename_i hb;obtain⟨t,ht,rfl⟩:=aa.mp h;exact Q8 (v:=.ty t) (Sy (C.A5 hg) (C.blt x hb) (Xu ht) rfl d3 d1) λ_ _=>.ty t
     ·cases h
   ·cases h
 ·cases h
omit C in
theorem Lq{k:Const}{j:Nat}{d:D}(h:Cd k=some d):PE X (.Constant k j pos) (LE X.K Ξ (aK P (.lit d))):=by
 cases k<;>first|(cases h;done)|skip
 ·cases h;exact Q8 Qf λ_ _=>.bD
 ·cases h;exact Q8 Wm λ_ _=>.bl _
 ·cases h;exact Q8 Qc λ_ _=>.int _
 ·cases h;exact Q8 Ip λ_ _=>.str _
include S
theorem UC{op:UnaryOp}(h:yo r c op a=some m):PE X (.UnaryOp op a pos) (LE X.K Ξ (aK P m)):=by
 unfold yo at h;split at h
 ·rename_i ho;subst ho;obtain⟨ma,ha,rfl⟩:=aa.mp h;exact QI C.mono (S.e X c Ξ C _ _ ha)
 ·obtain⟨ma,ha,rfl⟩:=Y3 S C h;exact Oe C.mono ha
theorem JJ{ops:List CmpOp}{bs:List Expr}(h:uY r c a ops bs=some m):PE X (.Compare a ops bs pos) (LE X.K Ξ (aK P m))/\PT X (.Compare a ops bs pos) (LT X.K Ξ (cA P (.fP m))):=by
 unfold uY at h;split at h
 ·rename_i op b;split at h
  ·cases h
  ·rename_i hm;have hm:behindInMarks op b=false:=by simpa using hm
   rcases orElse_some h with h|h
   ·obtain⟨neg,hn,h⟩:=ah.mp h;obtain⟨kvs,hk,h⟩:=ah.mp h;obtain⟨ma,ha,rfl⟩:=aa.mp h;obtain⟨x,p,rfl,hg,hd,hk⟩:=Jq hk;have ho:op=if neg then .NotIn else .In:=by cases op<;>cases hn<;>rfl
    subst ho;exact⟨QF C.mono (C.A5 hg) (M1 hd).1 (C.uE x kvs hk) (S.e X c Ξ C _ _ ha) hm,QV C.mono (C.A5 hg) (M1 hd).1 (C.uE x kvs hk) (S.e X c Ξ C _ _ ha) hm⟩
   ·obtain⟨ma,mb,ha,hb,rfl⟩:=Y2 S C h;exact⟨AO C.mono (IV (X0 C.units op) ha hb hm),QZ C.mono (IZ (X0 C.units op) ha hb hm)⟩
 ·split at h
  ·cases h
  ·rename_i hm;obtain⟨ma,ha,h⟩:=ah.mp h;obtain⟨mb,hb,h⟩:=ah.mp h;obtain⟨md,hd,rfl⟩:=aa.mp h;exact⟨a04 C.mono C.units (S.e X c Ξ C _ _ ha) (S.e X c Ξ C _ _ hb) (S.e X c Ξ C _ _ hd) (by simpa using hm),Xm C.mono C.units (S.e X c Ξ C _ _ ha) (S.e X c Ξ C _ _ hb) (S.e X c Ξ C _ _ hd) (by simpa using hm)⟩
 ·cases h
theorem Uz{lo hi st:Option Expr}{p2:Pos}(h:Dz r c a lo hi st=some m):PE X (.Subscript a (.Slice lo hi st p2) pos) (LE X.K Ξ (aK P m)):=by
 cases lo<;>cases hi<;>cases st<;>first|(cases h;done)|skip
 ·obtain⟨ma,ha,rfl⟩:=Y3 S C h;exact Xh C.mono ha
 ·obtain⟨ma,mb,ha,hb,rfl⟩:=Y2 S C h;exact Xi C.mono ha hb
 ·obtain⟨ma,mb,ha,hb,rfl⟩:=Y2 S C h;exact Xj C.mono ha hb
theorem Wc(h:BV r c a b=some m):PE X (.Subscript a b pos) (LE X.K Ξ (aK P m)):=by
 unfold BV at h;rcases orElse_some h with h|h
 ·obtain⟨q,hq,h⟩:=ah.mp h;have eb:∃p,b=.Slice q.1 q.2.1 q.2.2 p:=by cases b<;>first|(cases hq;exact⟨_,rfl⟩)|cases hq
  obtain⟨p,rfl⟩:=eb;exact Uz S C h
 ·split at h
  ·rename_i hb;rcases orElse_some h with h|h
   ·obtain⟨kvs,hk,h⟩:=ah.mp h;obtain⟨mb,jJ,rfl⟩:=aa.mp h;obtain⟨x,p,rfl,hg,hd,hk⟩:=Jq hk;exact Ta C.mono (C.A5 hg) (M1 hd).1 (C.uE x kvs hk) (S.e X c Ξ C _ _ jJ) (Im hb)
   ·obtain⟨ma,mb,ha,jJ,rfl⟩:=Y2 S C h;exact AO C.mono (JK (VS C.units) ha jJ (Im hb))
  ·cases h
theorem UA{x:Str}{px:Pos}(hg:c.gl x=true)(h:yp r c x e=some m):PE X (.Call (.Name x px) [e] [] pos) (LE X.K Ξ (aK P m)):=by
 unfold yp at h;obtain⟨q,hq,h'⟩:=ah.mp h;clear h;have h:=h';clear h';obtain⟨p,pos',rfl⟩:=HD hq;obtain⟨y,as⟩:=q;dsimp only at h ⊢;split at h
 ·rename_i hc;simp only[Bool.and_eq_true,decide_eq_true_eq] at hc;obtain⟨⟨⟨⟨rfl,rfl⟩,hl⟩,hr⟩,rh⟩:=hc;rcases as with _|⟨a,_|⟨b,_|⟨_,_⟩⟩⟩
  ·cases h
  ·dsimp only at h;split at h
   ·rename_i ho;obtain⟨ma,ha,rfl⟩:=Y3 S C h;exact a03 C.mono C.calm ha (C.A5 hg) (C.blt _ hl) (C.A5 rh) (C.blt _ hr) (n4 ho)
   ·cases h
  ·dsimp only at h;split at h
   ·rename_i ho;rw[aU] at ho;obtain⟨ma,mb,ha,hb,rfl⟩:=Y2 S C h;exact a02 C.mono C.calm ha hb (C.A5 hg) (C.blt _ hl) (C.A5 rh) (C.blt _ hr) (by rw[n4 ho.1,n4 ho.2];rfl) (n4 ho.2)
   ·cases h
  ·cases h
 ·split at h
  ·rename_i hc;simp only[Bool.and_eq_true,decide_eq_true_eq] at hc;obtain⟨⟨⟨⟨rfl,rfl⟩,hl⟩,hr⟩,rh⟩:=hc;rcases as with _|⟨a,_|⟨_,_⟩⟩
   ·cases h
   ·dsimp only at h;split at h
    ·rename_i ho;obtain⟨ma,ha,rfl⟩:=Y3 S C h;exact Tf C.mono C.calm ha (C.A5 hg) (C.blt _ hl) (C.A5 rh) (C.blt _ hr) (n4 ho)
    ·cases h
   ·cases h
  ·split at h
   ·rename_i hc;simp only[Bool.and_eq_true,decide_eq_true_eq] at hc;obtain⟨⟨⟨⟨rfl,rfl⟩,hl⟩,hr⟩,rh⟩:=hc;rcases as with _|⟨a,_|⟨_,_⟩⟩
    ·cases h
    ·dsimp only at h;split at h
     ·rename_i ho;obtain⟨ma,ha,rfl⟩:=Y3 S C h;exact Tb C.mono C.calm ha (C.A5 hg) (C.blt _ hl) (C.A5 rh) (C.blt _ hr) (n4 ho)
     ·cases h
    ·cases h
   ·cases h
theorem Sk{x:Str}{px:Pos}{args:List Expr}(h:IE r c x args=some m):PE X (.Call (.Name x px) args [] pos) (LE X.K Ξ (aK P m)):=by
 cases args with
 |nil =>
  have h2:AV c x=some m:=h;unfold AV at h2;split at h2
  ·rename_i hX;rw[aU] at hX;obtain⟨f,hf,rfl⟩:=aa.mp h2;obtain⟨k,C',fa,fd,ps,F,hr,hm,hC,jZ,M⟩:=C.cls x f hf;exact a01 C.mono C.pass F M hC jZ hr (C.A5 hX.2) hm (M1 hX.1).1
  ·cases h2
 |cons e es =>
  have h0:AW r c x e es=some m:=h;clear h;have h:=h0;clear h0;unfold AW at h;split at h
  ·rename_i hX;rw[aU] at hX;obtain⟨d1,d2,d3⟩:=M1 hX.1;rcases orElse_some h with h|h
   ·cases es with
    |nil=>exact UA S C hX.2 h
    |cons _ _=>cases h
   ·obtain⟨ms,ou,h⟩:=ah.mp h;have ok:=Bu ou;have pa:=qV S C ou;have fq:=n4 (env:=X.env) (es:=es) (ok e (by simp));have fS:=Y6 (pos:=pos) (env:=X.env) (es:=es) λz hz=>ok z (by simp[hz]);rcases orElse_some h with h|h
    ·obtain⟨f,hf,rfl⟩:=aa.mp h;obtain⟨k,fa,fd,ps,F,hr,hm,hk⟩:=C.fns x f hf;exact SW C.mono C.pass F hr (C.A5 hX.2) hm hk pa d1 fq fS
    ·rcases orElse_some h with h|h
     ·obtain⟨f,hf,rfl⟩:=aa.mp h;obtain⟨k,C',fa,fd,ps,F,hr,hm,hC,jZ,M⟩:=C.cls x f hf;exact Tc C.mono C.pass F M hC jZ hr (C.A5 hX.2) hm pa d1 fq fS
     ·split at h
      ·rename_i hb;obtain⟨p,hp,rfl⟩:=aa.mp h;obtain⟨v,hv,zM,hc⟩:=XB (X:=X) C.calm hp;exact QC C.mono hv hc (C.A5 hX.2) (C.blt x hb) zM pa d3 d1 fq fS
      ·cases h
  ·cases h
theorem Sj{o:Expr}{mt:Str}{apos:Pos}{args:List Expr}(h:AX r c o mt apos pos args=some m):PE X (.Call (.Attribute o mt apos) args [] pos) (LE X.K Ξ (aK P m)):=by
 unfold AX at h;split at h
 ·rename_i hc;simp only[Bool.and_eq_true,decide_eq_true_eq] at hc;obtain⟨⟨hb,hl⟩,hn⟩:=hc;obtain⟨mo,ho,h⟩:=ah.mp h;obtain⟨ms,ou,h⟩:=ah.mp h;have ok:=Bu ou;have pa:=qV S C ou;have po:=S.e X c Ξ C _ _ ho;have hf:methodCallForm args.length (backTo pos (starEach args X.env)) (backToKw pos (keywordEach [] X.env))=true:=by
   unfold methodCallForm;rw[Gy ok];have:args.length+0<30:=by omega
   show(true&&true&&decide (args.length+0<30))=true;rw[aC this]
   rfl
  by_cases ud:mt="index"
  ·subst ud;rw[aF rfl] at h;cases h
  rw[az ud] at h;cases args with
  |nil =>
   cases ou;by_cases h0:(xN.lookup mt).isSome=true
   ·rw[aF (by rw[h0];rfl)] at h;obtain⟨p,hp,rfl⟩:=aa.mp h;obtain⟨T,id,yP,sl,ty,yT,hk⟩:=Zh (X:=X) hp;exact a00 C.mono yP sl ty yT hk po (Q3 hb) hl
   rw[az (by rw[aU];exact λz=>h0 z.2)] at h;split at h
   ·cases h
   ·cases h
  |cons e es =>
   have fq:=n4 (env:=X.env) (es:=es) (ok e (by simp));have fS:=Y6 (pos:=pos) (env:=X.env) (es:=es) λz hz=>ok z (by simp[hz]);rw[az (by simp)] at h;split at h
   ·rename_i p hp;cases h;obtain⟨T,id,yP,sl,ty,yT,hk⟩:=Yd (X:=X) C.units hp;exact Td C.mono yP sl ty yT hk po pa (Q3 hb) hf hl fq fS
   ·cases h
 ·cases h
theorem DX{tg:Expr}(h:ve r c tg e=some m):PI X tg e (LI X.K Ξ (eB P m)):=by
 unfold ve at h;rcases orElse_some h with h|h
 ·obtain⟨q,hq,h'⟩:=ah.mp h;rename_i h0;clear h h0;have h:=h';clear h';obtain⟨p,pos',rfl⟩:=HD hq;obtain⟨y,as⟩:=q;dsimp only at h ⊢;split at h
  ·rename_i hy;subst hy;rcases as with _|⟨a,_|⟨_,_⟩⟩
   ·cases h
   ·dsimp only at h;split at h
    ·rename_i hc;simp only[Bool.and_eq_true] at hc;obtain⟨⟨⟨hg,hb⟩,ho⟩,ht⟩:=hc;obtain⟨ma,ha,rfl⟩:=aa.mp h;obtain⟨es,k,tp,rfl⟩:=XA ht;exact Ti C.mono (S.e X c Ξ C _ _ ha) (C.A5 hg) (C.blt _ hb) (n4 ho)
    ·cases h
   ·cases h
  ·split at h
   ·rename_i hy;subst hy;rcases as with _|⟨a,_|⟨_,_⟩⟩
    ·cases h
    ·dsimp only at h;split at h
     ·rename_i hc;simp only[Bool.and_eq_true] at hc;obtain⟨⟨hg,hb⟩,ho⟩:=hc;obtain⟨ma,ha,rfl⟩:=aa.mp h;exact QN C.mono (S.e X c Ξ C _ _ ha) (C.A5 hg) (C.blt _ hb) (n4 ho)
     ·cases h
    ·cases h
   split at h
   ·rename_i hy;subst hy;rcases as with _|⟨a,_|⟨b,_|⟨_,_⟩⟩⟩
    ·cases h
    ·dsimp only at h;split at h
     ·rename_i hc;simp only[Bool.and_eq_true] at hc;obtain⟨⟨hg,hb⟩,ho⟩:=hc;obtain⟨ma,ha,rfl⟩:=aa.mp h;exact Tj C.mono (S.e X c Ξ C _ _ ha) (C.A5 hg) (C.blt _ hb) (n4 ho)
     ·cases h
    ·dsimp only at h;split at h
     ·rename_i hc;simp only[Bool.and_eq_true] at hc;obtain⟨⟨⟨hg,hb⟩,ho⟩,jY⟩:=hc;obtain⟨ma,ha,h⟩:=ah.mp h;obtain⟨mb,jJ,rfl⟩:=aa.mp h;exact Tn C.mono (S.e X c Ξ C _ _ ha) (S.e X c Ξ C _ _ jJ) (C.A5 hg) (C.blt _ hb) (by rw[n4 ho,n4 jY];rfl) (n4 jY)
     ·cases h
    ·cases h
   ·cases h
 ·split at h
  ·obtain⟨ma,ha,rfl⟩:=aa.mp h;exact QO C.mono (S.e X c Ξ C _ _ ha)
  ·cases h
theorem Bq{elt:Expr}{gens:List Comprehension}{sc:Scope}(h:Y4 r c elt gens sc=some m):∃tg it ifs t mi mc me cl,gens=[⟨tg,it,ifs,0⟩]/\m=.comp (c.d6 sc) (frees sc++locals sc).length t mi mc me/\fA it=true /\
  da X sc (frees sc++locals sc) (c.d6 sc) cl/\PI X tg it (LI X.K Ξ (eB P mi))/\(∀pins A s H fp,PG (f6 X pins sc (frees sc++locals sc) cl A s H fp) tg (LG X.K t)) /\
   (∀pins A s H fp,kz (f6 X pins sc (frees sc++locals sc) cl A s H fp) ifs (LT X.K (oV Ξ.1) (cA P mc)))/\(∀pins A s H fp,PE (f6 X pins sc (frees sc++locals sc) cl A s H fp) elt (LE X.K (oV Ξ.1) (aK P me))):=by
 unfold Y4 at h;rcases gens with _|⟨⟨tg,it,ifs,Ef⟩,_|⟨_,_⟩⟩
 ·cases h
 ·dsimp only at h;split at h
  ·rename_i hs;simp only[Bool.and_eq_true,decide_eq_true_eq] at hs;obtain⟨⟨hs,rfl⟩,hit⟩:=hs;obtain⟨t,h1,h⟩:=ah.mp h;obtain⟨mi,h2,h⟩:=ah.mp h;obtain⟨mc,h3,h⟩:=ah.mp h;obtain⟨me,h4,rfl⟩:=aa.mp h;obtain⟨cl,Sc,I⟩:=C.comp hs;exact⟨tg,it,ifs,t,mi,mc,me,cl,rfl,rfl,hit,Sc,DX S C h2,λpins A s H fp=>(I pins A s H fp).Gf h1,λpins A s H fp=>UB S (I pins A s H fp) h3,λpins A s H fp=>S.e _ _ _ (I pins A s H fp) elt me h4⟩
  ·cases h
 ·cases h
omit S in
theorem Uy{f:Expr}{args:List Expr}{iM:List Keyword}(h:vN c f args iM=some m):PE X (.Call f args iM pos) (LE X.K Ξ (aK P m)):=by
 unfold vN at h;cases h
theorem Ls:∀e m,JR r c e=some m->PE X e (LE X.K Ξ (aK P m)):=by
 intro e m h;cases e with
 |Name x p=>exact Pw C h
 |Constant k j p =>
  obtain⟨d,hd,rfl⟩:=aa.mp (show(Cd k).map ME.lit=some m from h);exact Lq hd
 |BinOp a op b p =>
  obtain⟨ma,mb,ha,hb,rfl⟩:=Y2 S C h;exact AO C.mono (Wq (Pz op) ha hb)
 |UnaryOp op a p=>exact UC S C h
 |Compare a ops bs p=>exact(JJ S C h).1
 |BoolOp op vs p=>exact Lv S C h
 |IfExp t a b p =>
  obtain⟨mt,ht,h⟩:=ah.mp h;obtain⟨ma,ha,h⟩:=ah.mp h;obtain⟨mb,hb,rfl⟩:=aa.mp h;exact QG C.mono (S.t X c Ξ C _ _ ht) (S.e X c Ξ C _ _ ha) (S.e X c Ξ C _ _ hb)
 |Tuple es k p =>
  obtain⟨ma,ha,rfl⟩:=aa.mp h;exact QJ C.mono (qV S C ha)
 |List es p =>
  obtain⟨ma,ha,rfl⟩:=aa.mp h;exact QH C.mono (qV S C ha)
 |Subscript a b p=>exact Wc S C h
 |Dict ks vs p =>
  have h2:(if ks.isEmpty&&vs.isEmpty then some (ME.prim .nJ .nil) else if decide (ks.length<=15) then(vd r c ks vs).map .oN else none)=some m:=h;split at h2
  ·rename_i hc;cases ks<;>cases vs<;>first|(cases hc;done)|skip
   cases h2;exact SX
  ·rename_i hc;split at h2
   ·rename_i hl;obtain⟨ms,hm,rfl⟩:=aa.mp h2;obtain⟨gO,D⟩:=Lu S C hm;refine QD C.mono D (λz=>hc ?_) (bp hl);have:=D.len.2;subst z;cases vs<;>first|rfl|cases this
   ·cases h2
 |JoinedStr vs p =>
  have h2:(if decide (2<=vs.length)&&decide (vs.length<=40) then(rS r c vs).map (ME.prim .kP) else none)=some m:=h;split at h2
  ·rename_i hc;simp only[Bool.and_eq_true,decide_eq_true_eq] at hc;obtain⟨ms,hm,rfl⟩:=aa.mp h2;obtain⟨ts,F⟩:=Lr S C hm;rcases vs with _|⟨v1,_|⟨v2,vs⟩⟩
   ·simp at hc
   ·simp at hc
   ·exact SY C.mono F hc.2
  ·cases h2
 |Attribute o f p =>
  have h2:(if xy o then c1 r c (.fld f) o else none)=some m:=h;split at h2
  ·rename_i hb;obtain⟨ma,ha,rfl⟩:=Y3 S C h2;exact QE C.mono ha (Q3 hb)
  ·cases h2
 |Call f args iM pos =>
  have h1:((yq r c f args iM).orElse λ_=>(vN c f args iM).orElse λ_=>Cv r c f args iM pos)=some m:=h;rcases orElse_some h1 with h2|h2
  ·unfold yq at h2;rcases args with _|⟨a,_|⟨_,_⟩⟩
   ·cases h2
   ·dsimp only at h2;split at h2
    ·rename_i hk;simp only[Bool.and_eq_true,decide_eq_true_eq] at hk;obtain⟨⟨⟨hk,hf⟩,ml⟩,hb⟩:=hk;cases iM<;>first|(cases hk;done)|skip
     obtain⟨q,hq,h3⟩:=ah.mp h2;obtain⟨m1,h4,h5⟩:=ah.mp h3;cases f<;>first|(cases hf;done)|skip
     cases a<;>first|(cases hq;done)|skip
     cases hf;cases hq;obtain⟨tg,it,ifs,t,mi,mc,me,cl,eg,rfl,hit,Sc,q1,q2,q3,q4⟩:=Bq S C h4;dsimp only at eg;subst eg;cases h5;exact Xg C.mono Sc C.calm q1 q2 q3 q4 (Z0 hit) (C.A5 ml) (C.blt _ hb)
    ·cases h2
   ·cases h2
  clear h h1;rcases orElse_some h2 with h3|h3
  ·exact Uy C h3
  clear h2;unfold Cv at h3;split at h3
  ·rename_i hk;cases iM<;>first|(cases hk;done)|skip
   cases f with
   |Name x p=>exact Sk S C h3
   |Attribute o a p=>exact Sj S C h3
   |_=>cases h3
  ·cases h3
 |Set es k p =>
  have h2:BU c es k=some m:=h;unfold BU at h2;split at h2
  ·rename_i hc;rw[aU] at hc;obtain rfl:=bp hc.2;split at h2
   ·cases h2;exact Te C.mono (C.code hc.1)
   ·cases h2
  ·cases h2
 |ListComp elt gens sc p =>
  obtain⟨tg,it,ifs,t,mi,mc,me,cl,rfl,rfl,hit,Sc,q1,q2,q3,q4⟩:=Bq S C h;exact(IW Sc C.calm q1 q2 q3 q4 (Z0 hit)).imp λZ H Q h=>Jo C.mono Z H Q h
 |_=>cases h
theorem Lo:∀e m,stepT r c e=some m->PT X e (LT X.K Ξ (cA P m)):=by
 intro e m h;have plain:∀{e:Expr} {m:ME},(if BQ e then(r.e c e).map ME.fP else none)=some m->PT X e (LT X.K Ξ (cA P m)):=λ{e m} h=>by
  split at h
  ·rename_i hp;obtain⟨ma,ha,rfl⟩:=aa.mp h;exact Ra C.mono (S.e X c Ξ C _ _ ha) (Yr hp)
  ·cases h
 cases e with
 |UnaryOp op a p =>
  have h2:(if op=.Not then(r.t c a).map ME.eL else none)=some m:=h;split at h2
  ·rename_i ho;subst ho;obtain⟨ma,ha,rfl⟩:=aa.mp h2;exact QY C.mono (S.t X c Ξ C _ _ ha)
  ·cases h2
 |BoolOp op vs p=>exact(Ln S C h).pt
 |Compare a ops bs p =>
  obtain⟨ma,ha,rfl⟩:=aa.mp (show(uY r c a ops bs).map ME.fP=some m from h);exact(JJ S C ha).2
 |_=>exact plain h
end
end M

namespace M
open PySem L2 PySem.Spec PyProof.Rows
section
variable{X:Cx}{c:i4}{P:eT}{Ξ:gA}
theorem ZE{e f:Option Expr}{q:Str×Expr×List Expr}(h:Bc e f=some q):f=none/\∃p p',e=some (.Call (.Name q.1 p) (q.2.1::q.2.2) [] p'):=by
 unfold Bc at h;split at h
 ·cases h;exact⟨rfl,_,_,rfl⟩
 ·cases h
theorem RP(C:gB X c P Ξ){f:Str}:Cy X.K f (c.xY f):=λy C' h hC=>by
 unfold i4.xY at h;obtain⟨⟨f',y'⟩,h1,h2⟩:=aQ.mp h;obtain⟨h3,h4⟩:=aO.mp h1;cases h2;have:f'=f:=by simpa using h4
 subst this;exact C.mQ f' y' C' h3 hC
variable{r:CF}(S:oX P r)(C:gB X c P Ξ){pos:Pos}
include S C
theorem Wb{tg e:Expr}{m:MS}(hS:∀e m,r.e c e=some m->v8 e=false->∃elt gens sc p,e=.ListComp elt gens sc p/\∃r',oX P r'/\Y4 r' c elt gens sc=some m)(hT:∀a b k p m,r.e c (.Tuple [a,b] k p)=some m->∃r' ms,oX P r'/\F7 r' c [a,b]=some ms/\m=.prim .tup ms)(h:FY r c tg e=some m):PS X (.Assign [tg] e pos) (LS X.K Ξ (wpS P m)):=by
 cases tg with
 |Name x px =>
  have h2:(if c.y9 x then(c.idx x).bind λi=>(r.e c e).map λm=>MS.set i m else none)=some m:=h;split at h2
  ·rename_i hl;obtain⟨i,hi,h2⟩:=ah.mp h2;obtain⟨me,he,rfl⟩:=aa.mp h2;cases hn:v8 e with
   |true=>exact Iy C.mono (Iu C.pK (C.qy hi) (C.y9 hl).1 (S.e X c Ξ C _ _ he) (T8 hn) (C.y9 hl).2)
   |false =>
    obtain⟨elt,gens,sc,p,rfl,r',S',hx⟩:=hS e me he hn;obtain⟨tg,it,ifs,t,mi,mc,me,cl,rfl,rfl,hit,Sc,q1,q2,q3,q4⟩:=Bq S' C hx;refine Iy C.mono ?_;exact(ZR Sc C.calm q1 q2 q3 q4 (Z0 hit) C.pK (C.qy hi) (C.y9 hl).1 (C.y9 hl).2).imp λN Z H h=>Jo C.mono Z H _ h
  ·cases h2
 |Tuple es k pt =>
  have h0:((CA es).elim (if(rZ e&&v8 e)||c.xl es e then(c.slots es).bind λis=>(r.e c e).map λm=>MS.kZ (.many is) m else none) λq=>if v8 e&&fA q.2.1&&fA q.2.2.2 then(r.e c q.1).bind λm1=>(r.e c q.2.1).bind λn1=>(r.e c q.2.2.1).bind λm2=>(r.e c q.2.2.2).bind λn2=>(r.e c e).map λm=>MS.vR m1 n1 m2 n2 m else none)=some m:=h;cases hq:CA es with
  |some q =>
   rw[hq] at h0;dsimp only[Option.elim] at h0;split at h0
   ·cases hq
   ·cases h0
  |none =>
  rw[hq] at h0;have h2:(if(rZ e&&v8 e)||c.xl es e then(c.slots es).bind λis=>(r.e c e).map λm=>MS.kZ (.many is) m else none)=some m:=h0;split at h2
  ·rename_i hn;rw[cF,aU] at hn;obtain⟨is,hs,h2⟩:=ah.mp h2;obtain⟨me,he,rfl⟩:=aa.mp h2;rcases hn with hn|hn
   ·exact Ri C.mono (Ir (S.e X c Ξ C _ _ he) (Jf C.calm C.pK (C.slots hs)) (HL hn.2) (a35 hn.1))
   ·unfold i4.xl at hn;split at hn
    ·rename_i x px y py a b k2 nV _;simp only[Bool.and_eq_true,decide_eq_true_eq,Bool.not_eq_true'] at hn;obtain⟨⟨⟨⟨⟨⟨⟨l1,l2⟩,dw⟩,hl⟩,oa⟩,ob⟩,f1⟩,f2⟩:=hn;obtain⟨r',ms,S',ou,rfl⟩:=hT _ _ _ _ _ he;have so:=C.slots hs;cases so with
     |cons hi _ _ so =>
     cases so with
     |cons hj _ _ so =>
     cases so;exact Rg C.mono C.calm C.pK hi hj dw hl (C.loc x l1) (C.loc y l2) oa ob f1 f2 (qV S' C ou)
    ·cases hn
  ·cases h2
 |Subscript o i pt =>
  have h2:(if fA i&&v8 e then(r.e c o).bind λmo=>(r.e c i).bind λmi=>(r.e c e).map λm=>MS.dM mo mi m else none)=some m:=h;split at h2
  ·rename_i hn;rw[aU] at hn;obtain⟨mo,ho,h2⟩:=ah.mp h2;obtain⟨mi,hi,h2⟩:=ah.mp h2;obtain⟨me,he,rfl⟩:=aa.mp h2;exact Xp C.mono C.units (S.e X c Ξ C _ _ he) (S.e X c Ξ C _ _ ho) (S.e X c Ξ C _ _ hi) (HL hn.2) (So hn.1)
  ·cases h2
 |Attribute o f pt =>
  have h2:(if v8 e then(r.e c o).bind λmo=>(r.e c e).map λm=>MS.gM f (c.xY f) mo m else none)=some m:=h;split at h2
  ·rename_i hn;obtain⟨mo,ho,h2⟩:=ah.mp h2;obtain⟨me,he,rfl⟩:=aa.mp h2;exact Tv C.mono (RP C) (S.e X c Ξ C _ _ ho) (S.e X c Ξ C _ _ he) (T8 hn)
  ·cases h2
 |_=>cases h
theorem Lp(hS:∀e m,r.e c e=some m->v8 e=false->∃elt gens sc p,e=.ListComp elt gens sc p/\∃r',oX P r'/\Y4 r' c elt gens sc=some m)(hT:∀a b k p m,r.e c (.Tuple [a,b] k p)=some m->∃r' ms,oX P r'/\F7 r' c [a,b]=some ms/\m=.prim .tup ms) :
  ∀st m,JS r c st=some m->PS X st (LS X.K Ξ (wpS P m)):=by
 intro st m h;have hP:=C.mono;cases st with
 |AugAssign tg op e p =>
  cases tg with
  |Name x tp =>
   have h2:(if c.y9 x then(Jz op).bind λp=>(c.idx x).bind λi=>(r.e c e).map λm=>MS.jC i p m else none)=some m:=h;split at h2
   ·rename_i hl;obtain⟨p,hp,h2⟩:=ah.mp h2;obtain⟨i,hi,h2⟩:=ah.mp h2;obtain⟨me,he,rfl⟩:=aa.mp h2;refine Tt C.mono ?_ C.pK (C.qy hi) (C.y9 hl).1 (C.y9 hl).2 (S.e X c Ξ C _ _ he);cases op<;>first|(cases hp;done)|skip
    ·cases hp;exact .inl ⟨rfl,rfl⟩
    ·cases hp;exact .inr ⟨rfl,rfl⟩
   ·cases h2
  |_=>cases h
 |Expr e p =>
  have h2:(if v8 e then(r.e c e).map MS.expr else none)=some m:=h;split at h2
  ·rename_i hn;obtain⟨me,he,rfl⟩:=aa.mp h2;exact Tu hP (S.e X c Ξ C _ _ he) (T8 hn)
  ·cases h2
 |Assign yB e p =>
  rcases yB with _|⟨tg,_|⟨_,_⟩⟩
  ·cases h
  ·exact Wb S C hS hT h
  ·cases h
 |If t a b p =>
  obtain⟨mt,ht,h⟩:=ah.mp h;obtain⟨ma,ha,h⟩:=ah.mp h;obtain⟨mb,hb,rfl⟩:=aa.mp h;exact Oi hP (S.t X c Ξ C _ _ ht) (uU S C ha) (uU S C hb)
 |For tg it body nC p =>
  have h2:(if c.lz&&(nC.isEmpty&&fA it) then(c.tg tg).bind λt=>(ve r c tg it).bind λmi=>(x8 r c body).map λmb=>MS.dS t mi mb else none)=some m:=h;split at h2
  ·rename_i hc;rw[aU,aU] at hc;cases nC<;>first|(cases hc.2.1;done)|skip
   obtain⟨t,h1,h2⟩:=ah.mp h2;obtain⟨mi,h3,h2⟩:=ah.mp h2;obtain⟨mb,h4,rfl⟩:=aa.mp h2;exact Rf hP (C.own hc.1) C.calm (DX S C h3) (C.Gf h1) (uU S C h4) (Z0 hc.2.2)
  ·cases h2
 |While t body nC p =>
  have h2:(if c.lz&&nC.isEmpty then(r.t c t).bind λmt=>(x8 r c body).map λmb=>MS.jn mt mb else none)=some m:=h;split at h2
  ·rename_i hc;rw[aU] at hc;cases nC<;>first|(cases hc.2;done)|skip
   obtain⟨mt,h1,h2⟩:=ah.mp h2;obtain⟨mb,h4,rfl⟩:=aa.mp h2;exact Xq hP (C.own hc.1) (S.t X c Ξ C _ _ h1) (uU S C h4)
  ·cases h2
 |Return e p =>
  cases e with
  |none=>cases h;exact(SM (X:=X)).imp λN bR H ⟨Z,g,ρ,s,R,h⟩=>LQ.now h R .bD
  |some e =>
   obtain⟨me,he,rfl⟩:=aa.mp (show(r.e c e).map (λm=>MS.ret (toR c e m))=some m from h);refine Rh hP ?_;exact S.e X c Ξ C _ _ he
 |Raise e f p =>
  obtain⟨q,hq,h2⟩:=ah.mp h;clear h;obtain⟨rfl,px,p2,rfl⟩:=ZE hq;obtain⟨x,e,es⟩:=q;dsimp only at h2 ⊢;split at h2
  ·rename_i hc;simp only[Bool.and_eq_true] at hc;obtain⟨ma,ha,rfl⟩:=aa.mp h2;have ok:=Bu ha;obtain⟨C',hm,hi,B,nI,iI,bm,O,FB⟩:=C.exc x hc.1.1.2;exact Xo hP C.calm O FB (C.A5 hc.1.2) (qV S C ha) (C.jU hc.1.1.1) (by rw[C.Au];simpa using hc.1.1.2) hi (n4 (ok e (by simp))) (Y6 λz hz=>ok z (by simp[hz])) (M1 hc.2).1
  ·cases h2
 |Pass p=>cases h;exact(SK (X:=X)).imp λN bR H ⟨Z,g,ρ,s,R,h⟩=>h ρ H bR (.refl _ _) R s
 |_=>cases h
end
theorem ZH{n:Nat}{c:i4}{e:Expr}{m:ME}(h:(comp (n+1)).e c e=some m)(hn:v8 e=false):∃elt gens sc p,e=.ListComp elt gens sc p/\Y4 (comp n) c elt gens sc=some m:=by
 cases e<;>first|(cases hn;done)|(cases h;done)|exact⟨_,_,_,_,rfl,h⟩
theorem snd{P:eT}:∀n,(∀k,k<=n->oX P (comp k)):=by
 intro n
 induction n with
 |zero =>
  intro k hk;obtain rfl:=Nat.le_zero.mp hk;exact⟨λ_ _ _ _ _ _ h=>(by cases h),λ_ _ _ _ _ _ h=>(by cases h),λ_ _ _ _ _ _ h=>(by cases h)⟩
 |succ n ih =>
  intro k hk;rcases fF k (n+1) with dN|hge
  ·exact ih k (by omega)
  obtain rfl:k=n+1:=by omega
  have I:=ih n (av n);refine⟨λX c Ξ C e m h=>Ls I C e m h,λX c Ξ C e m h=>Lo I C e m h,λX c Ξ C st m h=>Lp I C (λe m he hn=>?_) (λa b k p m he=>?_) st m h⟩
  ·cases n with
   |zero=>cases he
   |succ n =>
    obtain⟨elt,gens,sc,p,rfl,hx⟩:=ZH he hn;exact⟨_,_,_,_,rfl,comp n,ih n (by omega),hx⟩
  ·cases n with
   |zero=>cases he
   |succ n =>
    obtain⟨ms,hm,rfl⟩:=aa.mp (show(F7 (comp n) c [a,b]).map (ME.prim .tup)=some m from he);exact⟨comp n,ms,ih n (by omega),hm,rfl⟩
end M

namespace M
open PySem L2 PySem.Spec PyProof.Rows
structure nL where
 nm:Str
 qn:Str
 N:List Str
 ps:List Str
 st:Stmt
noncomputable def i4.at(c:i4)(d:nL):i4:={ c with N:=d.N,nm:=(n9 d.st).names,lz:=true,jU:=true,lK:=true }
structure iS(K:PySem.W.Frag)(c:i4)(d:nL)(m:aW)(f:Addr)(fd:FuncData):Prop where
 fn:oY K d.nm d.qn d.st f fd
 bi:Binds K fd d.ps []
 sc:hZ d.N d.ps (n9 d.st)
 co:x8 (comp 60) (c.at d) (o8 d.st)=some m.body
 ar:m.ar=d.ps.length
 nn:m.n=d.N.length
structure mF(w:World)(K:PySem.W.Frag)(mg:Str->Option Value)(c:i4)(T:Nat->Option aW):Prop where
 fns:∀x i,c.fns.lookup x=some i->∃d m f fd,T i=some m/\iS K c d m f fd/\mg x=some (.ref f)
 cls:∀x i,c.cls.lookup x=some i->∃C d m f fd,T i=some m/\iS K c d m f fd/\mg x=some (.ref C)/\u4 K x C/\jh K C/\Mk K C f
 nY:∀x y i C,(x,y,i)∈c.nY->u4 K y C->∃d m f fd,T i=some m/\iS K c d m f fd/\Meth K C x f
 mQ:∀f y C,(f,y)∈c.mQ->u4 K y C->B5 K C f
 con:∀x d,c.con.lookup x=some d->∃v u,mg x=some u/\RelV v u/\∀ρ H,f7 K ρ H d v
 blt:∀x,c.blt.contains x=true->mg x=none
 Aw:∀x,c.exc.contains x=true->∃C,mg x=some (.ref C)/\u4 K x C/\∀base:Heap,K.In base->base.Ns mainGlobals mg->∃B newId fT bm,OwnCls x C bm newId mg base/\ExcBaseFacts B newId fT bm
 Av:∀x y C C',c.exc.contains x=true->c.exc.contains y=true->u4 K x C->u4 K y C'->PySem.W.exmOne K (.ref C) (.ref C')=some (decide (x=y\/y="MintError"))
 qi:∀x kvs,c.gd.lookup x=some kvs->∃A vs,mg x=some (.ref A)/\vb K w.params A vs/\oO K kvs vs
section
variable{Pg:Program}{w:World}{K:PySem.W.Frag}{mg:Str->Option Value}{base:Heap}{c:i4}{T:Nat->Option aW}
theorem Pc{K:PySem.W.Frag}{cd:Value}{q:Str}(h:PySem.W.codeIn K cd q=true):PySem.W.kdsCode K cd=true:=by
 unfold PySem.W.codeIn at h;unfold PySem.W.kdsCode;split at h
 ·dsimp only;split at h
  ·rename_i e;rw[e]
  ·cases h
 ·cases h
theorem Sx{N:List Str}{qual:Str}{scope:Scope}{f:Addr}{cd:Value}{A:Around}{outer:List Env}{s:Shared}{H:Hp}{E:XK}:Passes (iG Pg w) (nH (iG Pg w) Pg w K mg base N qual scope f cd A outer s H E) E:=λpins Z H1 s1 e s' I h=>by
 obtain⟨C,H',J,fl,hE⟩:=I.flew h;exact aA8 J fl (λb o q=>I.base.there b o q (by intro z;cases z)) rfl rfl rfl hE
theorem a07{N:List Str}{qual:Str}{scope:Scope}{f:Addr}{cd:Value}{A:Around}{outer:List Env}{s:Shared}{H:Hp}{E:XK}:xE (nH (iG Pg w) Pg w K mg base N qual scope f cd A outer s H E) E:=λpins Z H1 s1 h' ea C vs I hm hE =>
 Za I hm rfl rfl rfl hE
theorem RQ{N:List Str}{qual:Str}{scope:Scope}{f:Addr}{cd:Value}{A:Around}{outer:List Env}{s:Shared}{H:Hp}{E:XK}:xt (nH (iG Pg w) Pg w K mg base N qual scope f cd A outer s H E) E:=λpins Z H1 H2 s1 s2 B ea C a0 I l hh hE =>
 leave_held I l hh rfl rfl rfl hE
theorem Bg{k i:Nat}{m:aW}(hT:T i=some m){ds:List D}{g:G}{Q:KD}{E:KX}(h:d4 T k i ds g Q E):ds.length=m.ar:=by
 cases k with
 |zero=>exact h.elim
 |succ k =>
  obtain⟨m',e,h,_⟩:=h;rw[hT] at e;cases e;exact h
theorem OK(mM:K.In base)(uC:base.Ns mainGlobals mg)(A:mF w K mg c T):∀(k i:Nat) d m f fd,T i=some m->iS K c d m f fd->gY Pg w K mg base (iG Pg w) (2*k) f fd d.ps (nU c.exc K d.ps.length (d4 T k i)):=by
 intro k
 induction k with
 |zero =>
  intro i d m f fd hm O;refine⟨λvs H Q E h=>h.1,λA outer s H args us vs Q E _ _ _ _ h=>?_⟩;obtain⟨_,_,_,_,_,_,q⟩:=h;exact q.elim
 |succ k ih =>
  intro i d m f fd hm O;obtain⟨oc,od,kV,doc,pm,an,fi,ct,lp,rfl,lk,ka⟩:=O.fn.ex;refine VG (k:=2*k+1) lk ka O.sc (λvs H Q E h=>h.1) (λA0 outer s H vs Q E hr h=>?_);obtain⟨hl,xs,g,ρ,rs,R,q⟩:=h;have C:gB (nH (iG Pg w) Pg w K mg base d.N d.qn (n9 d.st) f fi A0 outer s H E) (c.at d) (d4 T k) (c.exc,E):=by
   refine⟨rfl,O.sc.nd,λx h=>h,λx h=>h,λx h=>.inr h,λx h=>h,λx h=>?_,λ_ _=>rfl,rfl,?_,(λ_=>PassesOwn.leaving),b8 T k,A.con,A.blt,λx j hj=>?_,λx j hj=>?_,λx y j C' hj hC=>?_,A.mQ,rfl,Sx,λ_=>a07,λ_=>⟨rfl,rfl,RQ⟩,λx hx=>?_,A.Av,A.qi,λ_=>Pc ka⟩
   ·rcases h with h|h
    ·exact Bt h
    ·exact absurd rfl (O.sc.lP _ (aM h))
   ·have:=hr.un;show(A0.deeper _).units+100<cLine;omega
   ·obtain⟨d',m',f',oH,hT,O',hmg⟩:=A.fns x j hj;exact⟨2*k,f',oH,d'.ps,⟨ih j d' m' f' oH hT O',O'.bi,λFv g' Q' E' h'=>(Bg hT h').trans O'.ar⟩,hr.mono (by omega),hmg,O'.fn.kp⟩
   ·obtain⟨C',d',m',f',oH,hT,O',hmg,hC,jZ,M⟩:=A.cls x j hj;exact⟨2*k,C',f',oH,d'.ps,⟨ih j d' m' f' oH hT O',O'.bi,λFv g' Q' E' h'=>(Bg hT h').trans O'.ar⟩,hr,hmg,hC,jZ,M⟩
   ·obtain⟨d',m',f',oH,hT,O',M⟩:=A.nY x y j C' hj hC;exact⟨2*k,f',oH,d'.ps,M,⟨ih j d' m' f' oH hT O',O'.bi,λFv g' Q' E' h'=>(Bg hT h').trans O'.ar⟩,hr.mono (by omega)⟩
   ·obtain⟨C,h1,h2,h3⟩:=A.Aw x hx;exact⟨C,h1,h2,h3 base mM uC⟩
  refine⟨_,uU (snd (P:=d4 T k) 60 60 (av _)) C O.co,?_⟩;obtain⟨m',e,q1,q⟩:=q;rw[hm] at e;cases e;refine⟨d8 m xs,g,ρ,?_,R,wpS_mono (b8 T k) m.body ⟨λ_ g'=>LQ K ρ H Q .bD g',LQ K ρ H Q,λ_ _=>False,λ_ _=>False⟩ _ _ _ _ _ ⟨λZ g' h bA H' cQ e R' s'=>h bA H' _ e R' .bD,λd g' h=>h,λ_ _ h=>h.elim,λ_ _ h=>h.elim⟩ (λ_ _ z=>z) q⟩;have:=n5.start (n:=d.N.length) rs;unfold d8 L2.start;rw[O.nn];exact this
theorem Pj{L k0:Nat}{H:Hp}{a:Addr}{ns:List Int}(hO:xX H)(hS:fm K H a (ns.map V.int))(h:d4 T k0 L [.ref 0] [.nz (ns.map .int)] (λd _=>d=.bl true) iC) :
  nU exc K 1 (d4 T k0 L) [.ref a] H (λv _=>v=.bl true) λ_ _ _=>False:=by
 refine⟨rfl,[.ref 0],[.nz (ns.map .int)],[a],.cons (.ref rfl) .nil,⟨rfl,λi o b h1 h2=>?_,λi j l m b h1 h2 m1=>?_⟩,b8 T k0 _ _ _ _ _ _ _ (λd g' e bA H' v _ _ r=>?_) (λ_ _ z=>z.elim) h⟩
 ·cases i with
  |zero =>
   cases h1;cases h2;refine⟨_,?_,c6.ofInts ns⟩;rcases hS with(z|⟨o,z⟩)|z
   ·rcases hO a with q|⟨o,xs,q⟩
    ·rw[z] at q;cases q
    ·rw[z] at q;cases q
   ·exact .inl ⟨o,z⟩
   ·exact .inr z
  |succ i=>simp at h1
 ·cases i with
  |zero=>cases h1;cases m1
  |succ i=>simp at h1
 ·subst e;cases r
  rfl
end
end M

namespace M
open PySem L2
section
variable{P:eT}{Z:S}{g:G}{Q:KD}{E:KX}{N:Ends}{a b c o:ME}{x y:MS}{p:Pr}
theorem Q4(h:N.nx Z g):wpS P .pass N Z g E:=h
theorem Ct(h:wpS P x ⟨λhU g1=>wpS P y N hU g1 E,N.rt,N.bk,N.ct⟩ Z g E):wpS P (.seq x y) N Z g E:=h
theorem vo(h:wpS P x N Z g E):wpS P (.seq x .pass) N Z g E:=h
theorem Rw(h:aK P a Z g (λ_ g1=>N.nx Z g1) E):wpS P (.expr a) N Z g E:=h
theorem xq{i:Nat}(h:aK P a Z g (λx g1=>N.nx (Z.set i (some x)) g1) E):wpS P (.set i a) N Z g E:=h
theorem OG{t:MT}(h:aK P a Z g (λx g1=>iO t x Z λhU=>N.nx hU g1) E):wpS P (.kZ t a) N Z g E:=h
theorem Jh{o i:ME}(h:aK P a Z g (λx g1=>aK P o Z g1 (λy g2=>aK P i Z g2 (λz g3=>U8 y z x g3 λg4=>N.nx Z g4) E) E) E):wpS P (.dM o i a) N Z g E:=h
theorem RA{f:Str}{cs:List Str}(h:aK P a Z g (λx g1=>aK P o Z g1 (λy g2=>vh f cs y x g2 λg3=>N.nx Z g3) E) E):wpS P (.gM f cs o a) N Z g E:=h
theorem JW(h:cA P c Z g (λt g1=>if t=true then wpS P x N Z g1 E else wpS P y N Z g1 E) E):wpS P (.ifs c x y) N Z g E:=h
theorem OE(h:aK P a Z g N.rt E):wpS P (.ret a) N Z g E:=h
theorem Tz{x:Str}(h:cW P a Z g (λvs g1=>vs.length<=1000/\E ⟨x⟩ g1) E):wpS P (.raise x a) N Z g E:=h
theorem w_var{i:Nat}{d:D}(e:Z[i]?=some (some d))(h:Q d g):aK P (.var i) Z g Q E:=by rw[aK];exact⟨d,e,h⟩
theorem w_lit{d:D}(h:Q d g):aK P (.lit d) Z g Q E:=by rw[aK];exact h
theorem Rz(h:cW P a Z g (λxs g1=>cH p xs g1 Q) E):aK P (.prim p a) Z g Q E:=by rw[aK];exact h
theorem Vp(h:cH p [] g Q):aK P (.prim p .nil) Z g Q E:=by rw[aK,cW];exact h
theorem Gh(h:aK P a Z g (λx g1=>cH p [x] g1 Q) E):aK P (.prim p (.cons a .nil)) Z g Q E:=by simp only[aK,cW];exact h
theorem Gi(h:aK P a Z g (λx g1=>aK P b Z g1 (λy g2=>cH p [x,y] g2 Q) E) E):aK P (.prim p (.cons a (.cons b .nil))) Z g Q E:=by simp only[aK,cW];exact h
theorem Tx{o1 o2:CmpOp}(h:aK P a Z g (λx g1=>aK P b Z g1 (λy g2=>cH (.cmp o1) [x,y] g2 λz g3=>∃t,z=.bl t/\if t=true then aK P c Z g3 (λw g4=>cH (.cmp o2) [y,w] g4 Q) E else Q (.bl false) g3) E) E):aK P (.chain o1 o2 a b c) Z g Q E:=by rw[aK];exact h
theorem w_and(h:aK P a Z g (λx g1=>∃t,x=.bl t/\if t=true then aK P b Z g1 Q E else Q (.bl false) g1) E):aK P (.dG a b) Z g Q E:=by rw[aK];exact h
theorem w_or(h:aK P a Z g (λx g1=>∃t,x=.bl t/\if t=true then Q (.bl true) g1 else aK P b Z g1 Q E) E):aK P (.jt a b) Z g Q E:=by rw[aK];exact h
theorem w_not(h:aK P a Z g (λx g1=>∃t,x=.bl t/\Q (.bl (!t)) g1) E):aK P (.eL a) Z g Q E:=by rw[aK];exact h
theorem w_ite(h:cA P c Z g (λt g1=>if t=true then aK P a Z g1 Q E else aK P b Z g1 Q E) E):aK P (.ite c a b) Z g Q E:=by rw[aK];exact h
theorem AU{f:Nat}(h:cW P a Z g (λxs g1=>P f xs g1 Q E) E):aK P (.call f a) Z g Q E:=by rw[aK];exact h
theorem Rx{f:Nat}{c:Str}(h:cW P a Z g (λxs g1=>P f (.ref g1.length::xs) (g1++[.ins c []]) (λd g2=>d=.bD/\Q (.ref g1.length) g2) E) E):aK P (.make c f a) Z g Q E:=by rw[aK];exact h
theorem Ry(h:aK P o Z g (λx g1=>lq p x g1/\cW P a Z g1 (λxs g2=>cH p (x::xs) g2 Q) E) E):aK P (.eA p o a) Z g Q E:=by rw[aK];exact h
theorem Cs{Q:List D->G->Prop}(h:Q [] g):cW P .nil Z g Q E:=by rw[cW];exact h
theorem vn{Q:List D->G->Prop}(h:aK P a Z g (λx g1=>cW P b Z g1 (λxs g2=>Q (x::xs) g2) E) E):cW P (.cons a b) Z g Q E:=by rw[cW];exact h
theorem RB{Q:Bool->G->Prop}(h:cA P a Z g (λt g1=>if t=true then cA P b Z g1 Q E else Q false g1) E):cA P (.dG a b) Z g Q E:=by rw[cA];exact h
theorem OF{Q:Bool->G->Prop}(h:cA P a Z g (λt g1=>if t=true then Q true g1 else cA P b Z g1 Q E) E):cA P (.jt a b) Z g Q E:=by rw[cA];exact h
theorem RC{Q:Bool->G->Prop}(h:cA P a Z g (λt g1=>Q (!t) g1) E):cA P (.eL a) Z g Q E:=by rw[cA];exact h
theorem Cu{Q:Bool->G->Prop}(h:Q true g):cA P .no Z g Q E:=by rw[cA];exact h
theorem JX{Q:Bool->G->Prop}(h:aK P a Z g (λx g1=>oU g1 x λb=>Q b g1) E):cA P (.fP a) Z g Q E:=by rw[cA];exact h
end
section
variable{g:G}{Q:KD}{i j:Int}{kb:Bool->Prop}{t s:Bool}{l m:List D}
theorem Vs(h:Q (.int (i+j)) g):cH (.bin .Add) [.int i,.int j] g Q:=⟨_,_,.inl ⟨i,j,_,rfl,rfl,rfl,rfl⟩,h⟩
theorem Vt(h:Q (.int (i-j)) g):cH (.bin .Sub) [.int i,.int j] g Q:=⟨_,_,.inl ⟨i,j,_,rfl,rfl,rfl,rfl⟩,h⟩
theorem P5(c:qv i j)(h:Q (.int (i*j)) g):cH (.bin .Mult) [.int i,.int j] g Q:=⟨_,_,.inl ⟨i,j,_,rfl,⟨c,rfl⟩,rfl,rfl⟩,h⟩
theorem P6(c:0<j)(h:Q (.int (i % j)) g):cH (.bin .Mod) [.int i,.int j] g Q:=⟨_,_,.inl ⟨i,j,_,rfl,⟨c,rfl⟩,rfl,rfl⟩,h⟩
theorem wZ(c:CO i j)(h:Q (.int (i / j)) g):cH (.bin .FloorDiv) [.int i,.int j] g Q:=⟨_,_,.inl ⟨i,j,_,rfl,⟨c,rfl⟩,rfl,rfl⟩,h⟩
theorem OJ(h1:0<j)(h2:j<1073741824)(h:Q (.int (i / j)) g):cH (.bin .FloorDiv) [.int i,.int j] g Q:=wZ ⟨h1,h2⟩ h
theorem BY(c:nE i j)(h:Q (.int (i ^ j.toNat)) g):cH (.bin .Pow) [.int i,.int j] g Q:=⟨_,_,.inl ⟨i,j,_,rfl,⟨c,rfl⟩,rfl,rfl⟩,h⟩
theorem xa{i j:Nat}(hi:g[i]?=some (.lst l))(hj:g[j]?=some (.lst m))(hl:l.length+m.length<=100000)(h:Q (.ref g.length) (g++[.lst (l++m)])):cH (.bin .Add) [.ref i,.ref j] g Q:=⟨_,_,.inr (.inl ⟨rfl,.inr (.inl ⟨i,j,l,m,rfl,hi,hj,hl,rfl,rfl⟩)⟩),h⟩
theorem OB(h:Q (.int (-i)) g):cH (.un .USub) [.int i] g Q:=⟨_,_,⟨rfl,i,rfl,rfl,rfl⟩,h⟩
theorem T2{op:CmpOp}{x y:D}{b:Bool}(hb:FQ g x y b op)(h:Q (.bl b) g):cH (.cmp op) [x,y] g Q:=⟨_,_,⟨x,y,b,rfl,hb,rfl,rfl⟩,h⟩
theorem Ud(h:Q (.bl (decide (i<j))) g):cH (.cmp .Lt) [.int i,.int j] g Q:=T2 ⟨i,j,rfl,rfl,rfl⟩ h
theorem Uc(h:Q (.bl (decide (i<=j))) g):cH (.cmp .LtE) [.int i,.int j] g Q:=T2 ⟨i,j,rfl,rfl,rfl⟩ h
theorem Ub(h:Q (.bl (decide (j<i))) g):cH (.cmp .Gt) [.int i,.int j] g Q:=T2 ⟨i,j,rfl,rfl,rfl⟩ h
theorem Ua(h:Q (.bl (decide (j<=i))) g):cH (.cmp .GtE) [.int i,.int j] g Q:=T2 ⟨i,j,rfl,rfl,rfl⟩ h
theorem CV{x y:D}(h:uJ g x y λb=>Q (.bl b) g):cH (.cmp .Eq) [x,y] g Q:=let ⟨_,hb,h⟩:=h;T2 hb h
theorem FP{x y:D}(h:uJ g x y λb=>Q (.bl (!b)) g):cH (.cmp .NotEq) [x,y] g Q:=let ⟨b,hb,h⟩:=h;T2 (b:=!b) (show uI g x y (!(!b)) from by rw[sC];exact hb) h
theorem CW{x y:D}(h:pM g x y λb=>Q (.bl b) g):cH (.cmp .In) [x,y] g Q:=let ⟨_,hb,h⟩:=h;T2 (.inl hb) h
theorem Vz{a n:Nat}{S:Int->Bool}(hg:g[a]?=some (.set S n))(h:Q (.bl (S i)) g):cH (.cmp .In) [.int i,.ref a] g Q:=T2 (.inr ⟨a,S,n,i,rfl,hg,rfl,rfl⟩) h
theorem Ca{x y:D}(h:pM g x y λb=>Q (.bl (!b)) g):cH (.cmp .NotIn) [x,y] g Q:=let ⟨b,hb,h⟩:=h;T2 (b:=!b) (.inl (show inR g x y (!(!b)) from by rw[sC];exact hb)) h
theorem JL(h:kb (decide (i=j))):uJ g (.int i) (.int j) kb:=⟨_,.inl ⟨i,j,rfl,rfl,rfl⟩,h⟩
theorem Wx{x y:Str}(h:kb (decide (x=y))):uJ g (.str x) (.str y) kb:=⟨_,.inr (.inr (.inl ⟨x,y,rfl,rfl,rfl⟩)),h⟩
theorem Vw(h:Q (.bl (decide (i=j))) g):cH (.cmp .Eq) [.int i,.int j] g Q:=CV (JL h)
theorem VC(h:Q (.bl (!decide (i=j))) g):cH (.cmp .NotEq) [.int i,.int j] g Q:=FP (JL h)
theorem Vx{p q:Str}(h:Q (.bl (decide (p=q))) g):cH (.cmp .Eq) [.str p,.str q] g Q:=CV (Wx h)
theorem CY{d:D}(h:Q (.bl (L0 d)) g):cH (.cmp .Is) [d,.bD] g Q:=T2 ⟨rfl,rfl⟩ h
theorem JA{d:D}(h:Q (.bl (!L0 d)) g):cH (.cmp .IsNot) [d,.bD] g Q:=T2 ⟨rfl,rfl⟩ h
theorem VA(h:Q (.bl true) g):cH (.cmp .Is) [.bD,.bD] g Q:=CY h
theorem VB{n:Nat}(h:Q (.bl false) g):cH (.cmp .Is) [.ref n,.bD] g Q:=CY h
theorem Vy(h:Q (.bl false) g):cH (.cmp .IsNot) [.bD,.bD] g Q:=JA h
theorem Vm(h:kb t):oU g (.bl t) kb:=⟨t,.inr (.inl rfl),h⟩
theorem Ow(h:kb (i != 0)):oU g (.int i) kb:=⟨_,.inr (.inr (.inl ⟨i,rfl,rfl⟩)),h⟩
theorem Bf{t:Bool}{p:Bool->Prop}(h:p t):∃s,D.bl t=D.bl s/\p s:=⟨t,rfl,h⟩
theorem OW{p:Int->Prop}(h:p i):∃s,D.int i=D.int s/\p s:=⟨i,rfl,h⟩
theorem if2{c:Prop}[Decidable c]{A B:Prop}(h1:c->A)(h2:¬c->B):if decide c=true then A else B:=by
 by_cases h:c
 ·rw[aF (aC h)];exact h1 h
 ·rw[az (by rw[aB h];decide)];exact h2 h
theorem lU{A B:Prop}(h:A):if true=true then A else B:=by rw[aF rfl];exact h
theorem qz{A B:Prop}(h:B):if false=true then A else B:=by rw[az (by decide)];exact h
theorem FU{A B:Prop}(h:A):if(!false)=true then A else B:=by rw[aF (show(!false)=true from rfl)];exact h
theorem Up{A B:Prop}(h:B):if(!true)=true then A else B:=by rw[az (by decide)];exact h
theorem gb{b:Bool}{A B:Prop}(hb:b=false)(h:B):if b=true then A else B:=by rw[hb];exact qz h
theorem gW{b:Bool}{A B:Prop}(hb:b=true)(h:A):if b=true then A else B:=by rw[hb];exact lU h
theorem u6{a:Nat}{d:D}(hl:d7 g a=some l)(h2:fR l i=some d)(h:Q d g):cH .ix [.ref a,.int i] g Q:=⟨_,_,⟨rfl,.inl ⟨_,l,i,rfl,hl,h2⟩⟩,h⟩
theorem E4{d:D}(h2:fR l i=some d)(h:Q d g):cH .ix [.tup l,.int i] g Q:=⟨_,_,⟨rfl,.inl ⟨_,l,i,rfl,rfl,h2⟩⟩,h⟩
theorem vt{i:Nat}{kvs:List (Key×D)}{y v:D}{k:Key}(hg:g[i]?=some (.dC kvs))(hk:V6 y=some k)(hv:q9 kvs k=some v)(h:Q v g):cH .ix [.ref i,y] g Q:=⟨_,_,⟨rfl,.inr (.inl ⟨i,kvs,y,k,rfl,hg,hk,hv⟩)⟩,h⟩
theorem T5{a n:Nat}{v:D}{kg:G->Prop}(hl:g[a]?=some (.lst l))(hn:jW l.length i=some n)(h:kg (g.set a (.lst (l.set n v)))):U8 (.ref a) (.int i) v g kg:=⟨_,.inl ⟨a,i,l,n,rfl,rfl,hl,hn,rfl⟩,h⟩
theorem JO{i:Nat}{kvs:List (Key×D)}{y v:D}{k:Key}{kg:G->Prop}(hg:g[i]?=some (.dC kvs))(hk:V6 y=some k)(hl:kvs.length<100000)(h:kg (g.set i (.dC (putD kvs k v)))):U8 (.ref i) y v g kg:=⟨_,.inr ⟨i,kvs,k,rfl,hg,hk,hl,rfl⟩,h⟩
theorem Y7{f c:Str}{cs:List Str}{a:Nat}{fs:List (Str×D)}{v:D}{kg:G->Prop}(hg:g[a]?=some (.ins c fs))(hc:c∈cs)(hl:fs.length<100)(h:kg (g.set a (.ins c (k6 f v fs)))):vh f cs (.ref a) v g kg:=⟨_,⟨a,c,fs,rfl,hg,hc,hl,rfl⟩,h⟩
theorem S4{f c:Str}{a:Nat}{fs:List (Str×D)}{d:D}(hg:g[a]?=some (.ins c fs))(hf:fs.lookup f=some d)(h:Q d g):cH (.fld f) [.ref a] g Q:=⟨_,_,⟨a,c,fs,rfl,hg,hf,rfl⟩,h⟩
theorem b0{a:Nat}(h:g[a]?=some (.lst l)):d7 g a=some l:=by simp only[d7,h,CJ]
theorem XX{a:Nat}(h:g[a]?=some (.nz l)):d7 g a=some l:=by simp only[d7,h,CJ]
theorem U2{a:Nat}(hl:d7 g a=some l)(h:Q (.int l.length) g):cH .len [.ref a] g Q:=⟨_,_,⟨rfl,.inl ⟨_,l,rfl,hl,rfl⟩⟩,h⟩
theorem QP{a:Nat}(hl:d7 g a=some l)(h:Q (.ref g.length) (g++[.lst (cut l (some i) none)])):cH (.kf true false) [.ref a,.int i] g Q:=⟨_,_,⟨_,i,rfl,.inr ⟨a,l,rfl,hl,rfl,rfl⟩⟩,h⟩
theorem xB{a:Nat}(hl:d7 g a=some l)(h:Q (.ref g.length) (g++[.lst (cut l none (some i))])):cH (.kf false true) [.ref a,.int i] g Q:=⟨_,_,⟨_,i,rfl,.inr ⟨a,l,rfl,hl,rfl,rfl⟩⟩,h⟩
theorem Cn(hl:l.length<=1000)(h:Q (.tup l) g):cH .tup l g Q:=⟨_,_,⟨hl,rfl,rfl⟩,h⟩
theorem Cm(hl:l.length<=1000)(h:Q (.ref g.length) (g++[.lst l])):cH .lst l g Q:=⟨_,_,⟨hl,rfl,rfl⟩,h⟩
theorem JI{a:Nat}(hl:d7 g a=some l)(h:Q (.ref g.length) (g++[.lst l])):cH .list [.ref a] g Q:=⟨_,_,⟨_,l,rfl,hl,rfl,rfl⟩,h⟩
theorem Oz{a:Nat}(hl:d7 g a=some l)(h:Q (.tup l) g):cH .tuple [.ref a] g Q:=⟨_,_,⟨_,l,rfl,hl,rfl,rfl⟩,h⟩
theorem Ee{d:D}{c:String}{b:Bool}(hc:c∈["int","bool","str","tuple","list"])(hb:Dc g d c=some b)(h:Q (.bl b) g):cH .isin [d,.ty c] g Q:=⟨_,_,⟨d,c,b,rfl,hc,hb,rfl,rfl⟩,h⟩
theorem T9{i:Nat}{y:D}(hg:g[i]?=some (.lst l))(hl:l.length<100000)(h:Q .bD (g.set i (.lst (l++[y])))):cH .append [.ref i,y] g Q:=⟨_,_,⟨i,y,l,rfl,hg,hl,rfl,rfl⟩,h⟩
theorem Wa{i j:Nat}{y:D}{n:Int}(hg:g[i]?=some (.lst l))(hn:n=j)(hj:l[j]?=some y)(hl:l.length<100000)(h:Q y (g.set i (.lst (l.eraseIdx j)))):cH .pop [.ref i,.int n] g Q:=by
 have dN:=(aj.mp hj).1;refine⟨_,_,⟨i,n,l,j,rfl,hg,by omega,by omega,?_,hj,rfl⟩,h⟩;rw[hn];exact PySem.StrLaws.seqIndex_nonneg (by omega) (by omega) |>.trans (by simp)
theorem Cg{i:Nat}{kvs:List (Key×D)}{y z:D}{k:Key}(hg:g[i]?=some (.dC kvs))(hk:V6 y=some k)(h:Q ((q9 kvs k).getD z) g):cH .get [.ref i,y,z] g Q:=⟨_,_,⟨i,y,z,kvs,k,rfl,hg,hk,rfl,rfl⟩,h⟩
theorem OT{i j:Int}(h:Q (.int (i+j)) g):cH .iadd [.int i,.int j] g Q:=⟨_,_,.inl ⟨i,j,rfl,rfl,rfl⟩,h⟩
theorem vk{i:Nat}(hg:g[i]?=some (.lst l)):lq .append (.ref i) g:=⟨i,l,rfl,b0 hg⟩
theorem Pu{i:Nat}(hg:g[i]?=some (.lst l)):lq .pop (.ref i) g:=⟨i,l,rfl,b0 hg⟩
theorem Ux{i:Nat}{l:List (Key×D)}(hg:g[i]?=some (.dC l)):lq .get (.ref i) g:=⟨i,l,rfl,hg⟩
theorem Ea{j:Int}(h1:-(2 ^ 62)<=j)(h2:j<=100000)(h:Q (.ref g.length) (g++[.lst (l6 0 j.toNat)])):cH .iP [.int j] g Q:=⟨_,_,⟨j,rfl,h1,h2,rfl,rfl⟩,h⟩
theorem Lx{i j:Int}(h1:-(2 ^ 62)<=i/\i<2 ^ 62/\-(2 ^ 62)<=j/\j<2 ^ 62/\j-i<=100000)(h:Q (.ref g.length) (g++[.lst (l6 i (j-i).toNat)])):cH .jx [.int i,.int j] g Q:=⟨_,_,⟨i,j,rfl,h1,rfl,rfl⟩,h⟩
theorem PZ{a:Nat}{ns:List Int}(hl:d7 g a=some (ns.map .int))(hz:ns.length<60)(h:Q (.ref g.length) (g++[.lst ((n6 ns).map .int)])):cH .sset [.ref a] g Q:=⟨_,_,⟨a,ns,rfl,hl,hz,rfl,rfl⟩,h⟩
theorem nJ(h:Q (.ref g.length) (g++[.dC []])):cH .nJ [] g Q:=⟨_,_,⟨rfl,rfl,rfl⟩,h⟩
theorem max2{i j:Int}(h:Q (.int (if j>i then j else i)) g):cH .max [.int i,.int j] g Q:=⟨_,_,⟨rfl,.inl ⟨i,j,rfl,rfl⟩⟩,h⟩
theorem Pp{a n:Nat}{i:Int}{S:Int->Bool}(hg:g[a]?=some (.set S n))(hn:n+1<4096)(h:Q .bD (g.set a (.set (λk=>S k||decide (k=i)) (if S i then n else n+1)))):cH .jr [.ref a,.int i] g Q:=⟨_,_,⟨a,i,S,n,rfl,hg,hn,rfl,rfl⟩,h⟩
theorem Si{a n:Nat}{S:Int->Bool}(hg:g[a]?=some (.set S n)):lq .jr (.ref a) g:=⟨a,S,n,rfl,hg⟩
theorem Sw{i:Int}(h:Q (.ref g.length) (g++[.set (λk=>decide (k=i)) 1])):cH (.jq i) [] g Q:=⟨_,_,⟨rfl,rfl,rfl⟩,h⟩
theorem JT{a:Nat}{ns:List Int}(hl:d7 g a=some (ns.map .int))(h:Q (.int ns.sum) g):cH .sum [.ref a] g Q:=⟨_,_,⟨a,ns,rfl,hl,rfl,rfl⟩,h⟩
theorem Vv{a:Nat}{ns:List Int}(hl:d7 g a=some (ns.map .int))(h:Q (.bl (ns.all λn=>n != 0)) g):cH .all [.ref a] g Q:=⟨_,_,⟨a,_,_,rfl,hl,.inr ⟨ns,rfl,rfl⟩,rfl,rfl⟩,h⟩
theorem BZ{i j:Int}(c:nE i j)(h:Q (.int (i*2 ^ j.toNat)) g):cH (.bin .LShift) [.int i,.int j] g Q:=⟨_,_,.inl ⟨i,j,_,rfl,⟨c,rfl⟩,rfl,rfl⟩,h⟩
theorem vc{i j:Int}(h:Q (.int (Builtin.bitAnd i j)) g):cH (.bin .BitAnd) [.int i,.int j] g Q:=⟨_,_,.inl ⟨i,j,_,rfl,rfl,rfl,rfl⟩,h⟩
theorem TR{i j:Int}(h:Q (.int (Builtin.bitOr i j)) g):cH (.bin .BitOr) [.int i,.int j] g Q:=⟨_,_,.inl ⟨i,j,_,rfl,rfl,rfl,rfl⟩,h⟩
theorem IC{P:eT}{Z:S}{E:KX}{N:Ends}{i:Nat}{p:Pr}{v:ME}{x:D}(e:Z[i]?=some (some x))(h:aK P v Z g (λz g1=>cH p [x,z] g1 λw g2=>N.nx (Z.set i (some w)) g2) E):wpS P (.jC i p v) N Z g E:=⟨x,e,h⟩
theorem OY{i j:Int}(h:Q (.int (i-j)) g):cH .lT [.int i,.int j] g Q:=⟨_,_,⟨i,j,rfl,rfl,rfl⟩,h⟩
theorem min2{i j:Int}(h:Q (.int (if j<i then j else i)) g):cH .min [.int i,.int j] g Q:=⟨_,_,⟨rfl,.inl ⟨i,j,rfl,rfl⟩⟩,h⟩
theorem VN{v:Bool}(h:Q (.int (if v then 1 else 0)) g):cH .int [.bl v] g Q:=⟨_,_,⟨rfl,.inr ⟨v,rfl,rfl⟩⟩,h⟩
theorem JF{kvs:List D}{x:Str}{v:D}(hv:N4 kvs x=some v)(h:Q v g):cH .mD [.tup kvs,.str x] g Q:=⟨_,_,⟨kvs,x,rfl,hv,rfl⟩,h⟩
theorem Uh{i:Int}(hi:i.natAbs.log2<1920)(h:Q (.str (toString i)) g):cH .fv [.int i] g Q:=⟨_,_,⟨rfl,.inl ⟨i,rfl,hi,rfl⟩⟩,h⟩
theorem PY{x:Str}(hx:U3 l=some x)(h:Q (.str x) g):cH .kP l g Q:=⟨_,_,⟨x,hx,rfl,rfl⟩,h⟩
theorem Vu{i:Nat}{v:Bool}(hl:d7 g i=some l)(hv:U7 l=some v)(h:Q (.bl v) g):cH .all [.ref i] g Q:=⟨_,_,⟨i,l,v,rfl,hl,.inl hv,rfl,rfl⟩,h⟩
theorem p0{i:Nat}{x:D}{Z:S}{k:S->Prop}(h:k (Z.set i (some x))):iO (.one i) x Z k:=h
theorem A1{is:List Nat}{Z bN:S}{k:S->Prop}(e:C8 is l Z=some bN)(h:k bN):iO (.many is) (.tup l) Z k:=⟨l,bN,rfl,e,h⟩
end
theorem Xy:∀(bs:List Bool),U7 (bs.map D.bl)=some (bs.all id):=by
 intro bs
 induction bs with
 |nil=>rfl
 |cons b r ih=>simp[U7,ih]
theorem call_of{T:Nat->Option aW}{k f:Nat}{m:aW}{ds:List D}{g:G}{Q:KD}{E:KX}(hT:T f=some m)(hl:ds.length=m.ar)(h:wpS (d4 T k) m.body ⟨λ_ g'=>Q .bD g',Q,λ_ _=>False,λ_ _=>False⟩ (d8 m ds) g E):d4 T (k+1) f ds g Q E:=⟨m,hT,hl,h⟩
noncomputable def IK.Is(k:IK)(l:List D)(g:G):Prop:=∀i,k.at i g=some l[i]?
theorem B0{l:List D}{g:G}:(IK.fix l).Is l g:=λ_=>rfl
theorem u7{a:Nat}{l:List D}{g:G}(h:d7 g a=some l):(IK.lst a).Is l g:=λi=>by simp only[IK.at,h]
noncomputable def kr(l:List D):List D:=l.mapIdx λi d=>.tup [.int i,d]
theorem X7{a:Nat}{l:List D}{g:G}(h:d7 g a=some l):(IK.nB a).Is (kr l) g:=λi=>by
 simp only[IK.at,h,kr,List.getElem?_mapIdx]
theorem OZ{a:Nat}{l:List D}{g:G}(h:d7 g a=some l):(IK.qT a l.length).Is l.reverse g:=λi=>by
 simp only[IK.at,h,if_true];by_cases hi:i<l.length
 ·rw[aF hi,List.getElem?_reverse hi]
 ·rw[az hi,aX (by simpa using hi)]
theorem F6(l:List D):(kr l).length=l.length:=by simp[kr]
theorem Q1{l:List D}{i:Nat}{x:D}(h:(kr l)[i]?=some x):∃d,l[i]?=some d/\x=.tup [.int i,d]:=by
 rw[kr,List.getElem?_mapIdx,aa] at h;obtain⟨d,h1,h2⟩:=h;exact⟨d,h1,h2.symm⟩
theorem J8{lo:Int}{n i:Nat}{x:D}(h:(l6 lo n)[i]?=some x):i<n/\x=.int (lo+i):=by
 unfold l6 at h;have hi:i<n:=by
  have:=(aj.mp h).1;simpa using this
 rw[ak,cG hi] at h;cases h;exact⟨hi,rfl⟩
theorem o6(lo:Int)(n:Nat):(l6 lo n).length=n:=by simp[l6]
section
variable{P:eT}{Z:S}{g:G}{E:KX}{N:Ends}{it a b c o:ME}{s:MS}{t:MT}{Q:KD}
theorem Xt{k:IK}{l:List D}{fin:S->G->Prop}{turn:D->(S->G->Prop)->S->G->Prop}(I:Nat->S->G->Prop)(hk:∀i Z g,I i Z g->k.Is l g)(h0:I 0 Z g)(hs:∀i x Z g,l[i]?=some x->I i Z g->turn x (I (i+1)) Z g)(hd:∀Z g,I l.length Z g->fin Z g):turns k Z g fin turn:=by
 refine⟨λi m Z g=>m=l.length-i/\i<=l.length/\I i Z g,⟨l.length,by simp,cB _,h0⟩,?_⟩;rintro i m Z g ⟨rfl,hi,p⟩;rw[hk i Z g p i];by_cases dN:i<l.length
 ·rw[ai dN];exact .inr ⟨_,rfl,I (i+1),λbN g' p'=>⟨l.length-(i+1),by omega,rfl,dN,p'⟩,hs i l[i] Z g (ai dN) p⟩
 ·have e:i=l.length:=by omega
  subst e;rw[aX (av _)];exact .inl ⟨rfl,hd Z g p⟩
theorem B6(hP:i7 P)(h:eB P it Z g (λk g1=>∃(l:List D) (I:Nat->S->G->Prop),(∀i Z g,I i Z g->k.Is l g)/\I 0 Z g1 /\
      (∀ i x Z g,l[i]?=some x->I i Z g->iO t x Z λcb=>wpS P s ⟨I (i + 1),N.rt,N.nx,I (i + 1)⟩ cb g E)/\∀ Z g,I l.length Z g->N.nx Z g) E):wpS P (.dS t it s) N Z g E :=
  w5 hP it _ _ _ _ _ _ (λk g1 ⟨l,I,hk,h0,hs,hd⟩=>Xt I hk h0 hs hd) (λ_ _ z=>z) h
theorem G0{d6:List Nat}{n:Nat}{cond elt:ME}(hP:i7 P)(h:eB P it Z g (λk g1=>∃(l:List D) (I:Nat->List D->S->G->Prop),l.length<=1000/\(∀i ys Z g,I i ys Z g->k.Is l g/\ys.length<=i)/\I 0 [] (C4 Z d6 n) g1 /\
      (∀i x ys Z g,l[i]?=some x->I i ys Z g->iO t x Z λcb=>cA P cond cb g (λc g3=>if c=true then aK P elt cb g3 (λy g4=>I (i+1) (ys++[y]) cb g4) iC else I (i+1) ys cb g3) iC) /\
      ∀ ys Z g,I l.length ys Z g->Q (.ref g.length) (g ++ [.lst ys])) E):aK P (.comp d6 n t it cond elt) Z g Q E:=by
  rw[aK];refine w5 hP it _ _ _ _ _ _ (λk g1 h=>?_) (λ_ _ z=>z) h;obtain⟨l,I,hl,hk,h0,hs,hd⟩:=h;refine⟨λi m ys Z g=>m=l.length-i/\i<=l.length/\I i ys Z g,⟨l.length,by simp,cB _,h0⟩,?_⟩;rintro i m ys Z g ⟨rfl,hi,p⟩;obtain⟨nr,hy⟩:=hk i ys Z g p;rw[nr i];by_cases dN:i<l.length
  · rw[ai dN];refine .inr ⟨_,rfl,by omega,u9 (λcb q=>n8 hP cond _ _ _ _ _ _ (λc g3 q=>?_) (λ_ _ z=>z) q) (hs i l[i] ys Z g (ai dN) p)⟩;cases c
    · exact⟨l.length-(i+1),by omega,rfl,dN,by simpa using(show I (i+1) ys cb g3 from q)⟩
    · exact b9 hP elt _ _ _ _ _ _ (λy g4 q=>⟨l.length-(i+1),by omega,rfl,dN,by simpa using q⟩) (λ_ _ z=>z) q
  · have e:i=l.length:=by omega
    subst e;rw[aX (av _)];exact .inl ⟨rfl,hd ys Z g p⟩
theorem TC{d6:List Nat}{n:Nat}{cond elt:ME}(hP:i7 P)(h:eB P it Z g (λk g1=>∃(l:List D) (I:Nat->List Int->S->G->Prop),l.length<60/\(∀i ys Z g,I i ys Z g->k.Is l g/\ys.length<=i)/\I 0 [] (C4 Z d6 n) g1 /\
      (∀i x ys Z g,l[i]?=some x->I i ys Z g->iO t x Z λcb=>cA P cond cb g (λc g3=>if c=true then aK P elt cb g3 (λy g4=>∃j,y=.int j/\I (i+1) (ys++[j]) cb g4) iC else I (i+1) ys cb g3) iC) /\
      ∀ ys Z g,I l.length ys Z g->Q (.ref g.length) (g ++ [.lst ((n6 ys).map .int)])) E):aK P (.gk d6 n t it cond elt) Z g Q E:=by
  rw[aK];refine w5 hP it _ _ _ _ _ _ (λk g1 h=>?_) (λ_ _ z=>z) h;obtain⟨l,I,hl,hk,h0,hs,hd⟩:=h;refine⟨λi m ys Z g=>m=l.length-i/\i<=l.length/\I i ys Z g,⟨l.length,by simp,cB _,h0⟩,?_⟩;rintro i m ys Z g ⟨rfl,hi,p⟩;obtain⟨nr,hy⟩:=hk i ys Z g p;rw[nr i];by_cases dN:i<l.length
  · rw[ai dN];refine .inr ⟨_,rfl,by omega,u9 (λcb q=>n8 hP cond _ _ _ _ _ _ (λc g3 q=>?_) (λ_ _ z=>z) q) (hs i l[i] ys Z g (ai dN) p)⟩;cases c
    · exact⟨l.length-(i+1),by omega,rfl,dN,by simpa using(show I (i+1) ys cb g3 from q)⟩
    · refine b9 hP elt _ _ _ _ _ _ (λy g4 q=>?_) (λ_ _ z=>z) q;obtain⟨j,e,q⟩:=q;exact⟨j,e,l.length-(i+1),by omega,rfl,dN,by simpa using q⟩
  · have e:i=l.length:=by omega
    subst e;rw[aX (av _)];exact .inl ⟨rfl,by omega,hd ys Z g p⟩
theorem ZA{d6:List Nat}{n:Nat}{cond elt:ME}(hP:i7 P)(h:aK P a Z g (λx g1=>∃j:Nat,x=.int j/\j<=1000/\∃I:Nat->List D->S->G->Prop,I 0 [] (C4 Z d6 n) g1/\(∀i ys Z g,I i ys Z g->ys.length<=i) /\
      (∀(i:Nat) ys Z g,i<j->I i ys Z g->iO t (.int i) Z λcb=>cA P cond cb g (λc g3=>if c=true then aK P elt cb g3 (λy g4=>I (i+1) (ys++[y]) cb g4) iC else I (i+1) ys cb g3) iC) /\
      ∀ ys Z g,I j ys Z g->Q (.ref g.length) (g ++ [.lst ys])) E):aK P (.comp d6 n t (.fg a) cond elt) Z g Q E:=by
  refine G0 hP ?_;rw[eB];refine b9 hP a _ _ _ _ _ _ (λx g1 h=>?_) (λ_ _ z=>z) h;obtain⟨j,rfl,hj,I,h0,hz,hs,hd⟩:=h;refine⟨j,rfl,by omega,by omega,_,I,by rw[o6];simpa using hj,λi ys Z g p=>⟨B0,hz i ys Z g p⟩,h0,λi x ys Z g hx p=>?_,λys Z g p=>hd ys Z g (by rw[o6] at p;simpa using p)⟩;obtain⟨hi,rfl⟩:=J8 hx;rw[show(0:Int)+(i:Int)=i by omega];exact hs i ys Z g (by simpa using hi) p
theorem ZC{d6:List Nat}{n:Nat}{cond elt:ME}(hP:i7 P)(h:aK P a Z g (λx g1=>∃l,x=.tup l/\l.length<=1000/\∃I:Nat->List D->S->G->Prop,I 0 [] (C4 Z d6 n) g1/\(∀i ys Z g,I i ys Z g->ys.length<=i) /\
      (∀(i:Nat) x ys Z g,l[i]?=some x->I i ys Z g->iO t x Z λcb=>cA P cond cb g (λc g3=>if c=true then aK P elt cb g3 (λy g4=>I (i+1) (ys++[y]) cb g4) iC else I (i+1) ys cb g3) iC) /\
      ∀ ys Z g,I l.length ys Z g->Q (.ref g.length) (g ++ [.lst ys])) E):aK P (.comp d6 n t (.fB a) cond elt) Z g Q E:=by
  refine G0 hP ?_;rw[eB];refine b9 hP a _ _ _ _ _ _ (λx g1 h=>?_) (λ_ _ z=>z) h;obtain⟨l,rfl,hj,I,h0,hz,hs,hd⟩:=h;exact .inl ⟨l,rfl,_,I,hj,λi ys Z g p=>⟨B0,hz i ys Z g p⟩,h0,hs,hd⟩
theorem Ji(I:Nat->S->G->Prop)(m0:Nat)(h0:I m0 Z g)(hs:∀m Z g,I m Z g->cA P c Z g (λt g1=>if t=true then wpS P s ⟨λbN g'=>∃m',m'<m/\I m' bN g',N.rt,N.nx,λbN g'=>∃m',m'<m/\I m' bN g'⟩ Z g1 E else N.nx Z g1) E)(hP:i7 P):wpS P (.jn c s) N Z g E:=by
 refine⟨I,⟨m0,h0⟩,λm Z g p=>n8 hP c _ _ _ _ _ _ (λt g1 q=>?_) (λ_ _ z=>z) (hs m Z g p)⟩;cases t
 ·exact q
 ·exact⟨_,λ_ _ z=>z,q⟩
theorem qx(hP:i7 P){R:IK->G->Prop}(h:aK P a Z g (λx g1=>∃j:Int,x=.int j/\-(2 ^ 62)<=j/\j<2 ^ 62/\R (.fix (l6 0 j.toNat)) g1) E):eB P (.fg a) Z g R E:=by rw[eB];exact h
theorem wg(hP:i7 P){R:IK->G->Prop}(h:aK P a Z g (λx g1=>∃l,x=.tup l/\R (.fix l) g1) E):eB P (.fB a) Z g R E:=by
 rw[eB];exact b9 hP a _ _ _ _ _ _ (λx g1 h=>.inl h) (λ_ _ z=>z) h
theorem lV(hP:i7 P){R:IK->G->Prop}(h:aK P a Z g (λx g1=>∃i l,x=.ref i/\d7 g1 i=some l/\R (.lst i) g1) E):eB P (.fB a) Z g R E:=by
 rw[eB];exact b9 hP a _ _ _ _ _ _ (λx g1 h=>.inr h) (λ_ _ z=>z) h
theorem LL{R:IK->G->Prop}(h:aK P a Z g (λx g1=>∃i l,x=.ref i/\d7 g1 i=some l/\R (.qT i l.length) g1) E):eB P (.nc a) Z g R E:=by rw[eB];exact h
theorem tP{R:IK->G->Prop}(h:aK P a Z g (λx g1=>∃i l,x=.ref i/\d7 g1 i=some l/\R (.nB i) g1) E):eB P (.jH a) Z g R E:=by rw[eB];exact h
end
end M

namespace M
open PySem L2 PySem.Spec PyProof.Rows
structure RF where
 id:Nat
 nm:Str
 N:List Str
 k:Nat
 i:Nat
 m:aW
structure RM where
 id:Nat
 cl:Str
 nm:Str
 qn:Str
 N:List Str
 k:Nat
 i:Nat
 j:Nat
 m:aW
noncomputable def RF.d(tp:Nat->Stmt)(r:RF):nL:=⟨r.nm,r.nm,r.N,r.N.take r.k,tp r.i⟩
noncomputable def RM.d(mt:Nat->Nat->Stmt)(r:RM):nL:=⟨r.nm,r.qn,r.N,r.N.take r.k,mt r.i r.j⟩
noncomputable def rP(F:List RF)(M:List RM)(i:Nat):Option aW:=match F.find? λr=>Nat.beq r.id i with
 |some r=>some r.m
 |none=>(M.find? λr=>Nat.beq r.id i).map (·.m)
section
variable(tp:Nat->Stmt)(mt:Nat->Nat->Stmt)(K:PySem.W.Frag)
noncomputable def PF:List RF->Prop
 |[]=>True
 |r::l=>(∃f fd,PySem.W.nsIn K mainGlobals r.nm=some (some (.ref f))/\oY K r.nm r.nm (tp r.i) f fd)/\PF l
noncomputable def PM:List RM->Prop
 |[]=>True
 |r::l=>(∃C f fd,PySem.W.nsIn K mainGlobals r.cl=some (some (.ref C))/\Meth K C r.nm f/\oY K r.nm r.qn (mt r.i r.j) f fd)/\PM l
noncomputable def PC:List (Str×Nat)->Prop
 |[]=>True
 |r::l=>(∃C,PySem.W.nsIn K mainGlobals r.1=some (some (.ref C))/\jh K C/\PySem.W.makesIn K C=true/\PySem.W.keepIn K (.ref C)=true)/\PC l
noncomputable def PA:List (Str×Str)->Prop
 |[]=>True
 |r::l=>(∃C,PySem.W.nsIn K mainGlobals r.2=some (some (.ref C))/\PySem.W.findIn K (.ref C) r.1=some none)/\PA l
noncomputable def PB:List Str->Prop
 |[]=>True
 |r::l=>PySem.W.nsIn K mainGlobals r=some none/\PB l
noncomputable def PX:List Str->Prop
 |[]=>True
 |r::l=>(∃C,PySem.W.nsIn K mainGlobals r=some (some (.ref C))/\PySem.W.excIn K C [.type "ValueError",.type "Exception",.type "BaseException",.type "object"] "ValueError.__new__"=true)/\PX l
noncomputable def BF:List RF->Prop
 |[]=>True
 |r::l=>(∀(kV doc pm:Value) (an:Option Addr) (fi ct:Value) (us:List Value),us.length=(r.N.take r.k).length->bindArgs (PySem.W.fnOf r.nm r.nm (A7 (tp r.i)) (o8 (tp r.i)) (n9 (tp r.i)) .none kV doc pm an fi ct) ⟨us,[]⟩=pure ((r.N.take r.k).zip us))/\BF l
noncomputable def BM:List RM->Prop
 |[]=>True
 |r::l=>(∀(kV doc pm:Value) (an:Option Addr) (fi ct:Value) (us:List Value),us.length=(r.N.take r.k).length->bindArgs (PySem.W.fnOf r.nm r.qn (A7 (mt r.i r.j)) (o8 (mt r.i r.j)) (n9 (mt r.i r.j)) .none kV doc pm an fi ct) ⟨us,[]⟩=pure ((r.N.take r.k).zip us))/\BM l
noncomputable def YF(c:i4):List RF->Prop
 |[]=>True
 |r::l=>x8 (comp 60) (c.at (r.d tp)) (o8 (tp r.i))=some r.m.body/\YF c l
noncomputable def YM(c:i4):List RM->Prop
 |[]=>True
 |r::l=>x8 (comp 60) (c.at (r.d mt)) (o8 (mt r.i r.j))=some r.m.body/\YM c l
end
section
variable{tp:Nat->Stmt}{mt:Nat->Nat->Stmt}{K:PySem.W.Frag}{c:i4}{id k i j:Nat}{cl nm qn x:Str}{N:List Str}{m:aW}{f C:Addr}{oc kV doc pm fi ct:Value}{od an:Option Addr}{lp:Array (Option Value)}
theorem PF.nil:PF tp K []:=trivial
theorem PF.cons{l:List RF}(a:PySem.W.nsIn K mainGlobals nm=some (some (.ref f)))(lk:K.lookup f=some ⟨oc,od,.func (PySem.W.fnOf nm nm (A7 (tp i)) (o8 (tp i)) (n9 (tp i)) .none kV doc pm an fi ct),lp⟩)(cd:PySem.W.codeIn K fi nm=true)(kp:PySem.W.keepIn K (.ref f)=true)(h:PF tp K l):PF tp K (⟨id,nm,N,k,i,m⟩::l):=⟨⟨f,_,a,Il lk cd kp⟩,h⟩
theorem PM.nil:PM mt K []:=trivial
theorem PM.cons{l:List RM}(c0:PySem.W.nsIn K mainGlobals cl=some (some (.ref C)))(a:PySem.W.findIn K (.ref C) nm=some (some (.ref f)))(af:PySem.W.isFn K (.ref f)=true)(lk:K.lookup f=some ⟨oc,od,.func (PySem.W.fnOf nm qn (A7 (mt i j)) (o8 (mt i j)) (n9 (mt i j)) .none kV doc pm an fi ct),lp⟩)(cd:PySem.W.codeIn K fi qn=true)(kp:PySem.W.keepIn K (.ref f)=true)(h:PM mt K l):PM mt K (⟨id,cl,nm,qn,N,k,i,j,m⟩::l):=⟨⟨C,f,_,c0,⟨a,af,kp⟩,Il lk cd kp⟩,h⟩
theorem PC.nil:PC K []:=trivial
theorem PC.cons{l:List (Str×Nat)}(cn:PySem.W.nsIn K mainGlobals x=some (some (.ref C)))(cp:PySem.W.plainGet K C Str.empty=true)(NW:PySem.W.hasDictIn K C=true)(NT:PySem.W.plainOver K C=true)(NS:PySem.W.findIn K (.ref C) "__setattr__"=some (some (.builtin "object.__setattr__")))(NU:PySem.W.makesIn K C=true)(NV:PySem.W.keepIn K (.ref C)=true)(h:PC K l):PC K ((x,i)::l):=⟨⟨C,cn,⟨cp,NW,NT,NS⟩,NU,NV⟩,h⟩
theorem PA.nil:PA K []:=trivial
theorem PA.cons{l:List (Str×Str)}(cn:PySem.W.nsIn K mainGlobals x=some (some (.ref C)))(fl:PySem.W.findIn K (.ref C) nm=some none)(h:PA K l):PA K ((nm,x)::l):=⟨⟨C,cn,fl⟩,h⟩
theorem PB.nil:PB K []:=trivial
theorem PB.cons{l:List Str}(cn:PySem.W.nsIn K mainGlobals x=some none)(h:PB K l):PB K (x::l):=⟨cn,h⟩
theorem PX.nil:PX K []:=trivial
theorem PX.cons{l:List Str}(cn:PySem.W.nsIn K mainGlobals x=some (some (.ref C)))(q:PySem.W.excIn K C [.type "ValueError",.type "Exception",.type "BaseException",.type "object"] "ValueError.__new__"=true)(h:PX K l):PX K (x::l):=⟨⟨C,cn,q⟩,h⟩
theorem BF.nil:BF tp []:=trivial
theorem BF.cons{l:List RF}(h:∀(kV doc pm:Value) (an:Option Addr) (fi ct:Value) (us:List Value),us.length=(N.take k).length->bindArgs (PySem.W.fnOf nm nm (A7 (tp i)) (o8 (tp i)) (n9 (tp i)) .none kV doc pm an fi ct) ⟨us,[]⟩=pure ((N.take k).zip us))(h2:BF tp l):BF tp (⟨id,nm,N,k,i,m⟩::l):=⟨h,h2⟩
theorem BM.nil:BM mt []:=trivial
theorem BM.cons{l:List RM}(h:∀(kV doc pm:Value) (an:Option Addr) (fi ct:Value) (us:List Value),us.length=(N.take k).length->bindArgs (PySem.W.fnOf nm qn (A7 (mt i j)) (o8 (mt i j)) (n9 (mt i j)) .none kV doc pm an fi ct) ⟨us,[]⟩=pure ((N.take k).zip us))(h2:BM mt l):BM mt (⟨id,cl,nm,qn,N,k,i,j,m⟩::l):=⟨h,h2⟩
theorem YF.nil:YF tp c []:=trivial
theorem YF.cons{l:List RF}(h:x8 (comp 60) (c.at ⟨nm,nm,N,N.take k,tp i⟩) (o8 (tp i))=some m.body)(h2:YF tp c l):YF tp c (⟨id,nm,N,k,i,m⟩::l):=⟨h,h2⟩
theorem YM.nil:YM mt c []:=trivial
theorem YM.cons{l:List RM}(h:x8 (comp 60) (c.at ⟨nm,qn,N,N.take k,mt i j⟩) (o8 (mt i j))=some m.body)(h2:YM mt c l):YM mt c (⟨id,cl,nm,qn,N,k,i,j,m⟩::l):=⟨h,h2⟩
theorem YF.get:∀{l:List RF},YF tp c l->∀r∈l,x8 (comp 60) (c.at (r.d tp)) (o8 (tp r.i))=some r.m.body
 |_::_,h,r,hr=>(aH.mp hr).elim (λz=>z▸h.1) (YF.get h.2 r)
theorem YM.get:∀{l:List RM},YM mt c l->∀r∈l,x8 (comp 60) (c.at (r.d mt)) (o8 (mt r.i r.j))=some r.m.body
 |_::_,h,r,hr=>(aH.mp hr).elim (λz=>z▸h.1) (YM.get h.2 r)
theorem PF.get:∀{l:List RF},PF tp K l->∀r∈l,∃f fd,PySem.W.nsIn K mainGlobals r.nm=some (some (.ref f))/\oY K r.nm r.nm (tp r.i) f fd
 |_::_,h,r,hr=>(aH.mp hr).elim (λz=>z▸h.1) (PF.get h.2 r)
theorem PM.get:∀{l:List RM},PM mt K l->∀r∈l,∃C f fd,PySem.W.nsIn K mainGlobals r.cl=some (some (.ref C))/\Meth K C r.nm f/\oY K r.nm r.qn (mt r.i r.j) f fd
 |_::_,h,r,hr=>(aH.mp hr).elim (λz=>z▸h.1) (PM.get h.2 r)
theorem PC.get:∀{l:List (Str×Nat)},PC K l->∀r∈l,∃C,PySem.W.nsIn K mainGlobals r.1=some (some (.ref C))/\jh K C/\PySem.W.makesIn K C=true/\PySem.W.keepIn K (.ref C)=true
 |_::_,h,r,hr=>(aH.mp hr).elim (λz=>z▸h.1) (PC.get h.2 r)
theorem PA.get:∀{l:List (Str×Str)},PA K l->∀r∈l,∃C,PySem.W.nsIn K mainGlobals r.2=some (some (.ref C))/\PySem.W.findIn K (.ref C) r.1=some none
 |_::_,h,r,hr=>(aH.mp hr).elim (λz=>z▸h.1) (PA.get h.2 r)
theorem PB.get:∀{l:List Str},PB K l->∀r∈l,PySem.W.nsIn K mainGlobals r=some none
 |_::_,h,r,hr=>(aH.mp hr).elim (λz=>z▸h.1) (PB.get h.2 r)
theorem PX.get:∀{l:List Str},PX K l->∀r∈l,∃C,PySem.W.nsIn K mainGlobals r=some (some (.ref C))/\PySem.W.excIn K C [.type "ValueError",.type "Exception",.type "BaseException",.type "object"] "ValueError.__new__"=true
 |_::_,h,r,hr=>(aH.mp hr).elim (λz=>z▸h.1) (PX.get h.2 r)
theorem BF.get:∀{l:List RF},BF tp l->∀r∈l,∀(kV doc pm:Value) (an:Option Addr) (fi ct:Value) (us:List Value),us.length=(r.N.take r.k).length->bindArgs (PySem.W.fnOf r.nm r.nm (A7 (tp r.i)) (o8 (tp r.i)) (n9 (tp r.i)) .none kV doc pm an fi ct) ⟨us,[]⟩=pure ((r.N.take r.k).zip us)
 |_::_,h,r,hr=>(aH.mp hr).elim (λz=>z▸h.1) (BF.get h.2 r)
theorem BM.get:∀{l:List RM},BM mt l->∀r∈l,∀(kV doc pm:Value) (an:Option Addr) (fi ct:Value) (us:List Value),us.length=(r.N.take r.k).length->bindArgs (PySem.W.fnOf r.nm r.qn (A7 (mt r.i r.j)) (o8 (mt r.i r.j)) (n9 (mt r.i r.j)) .none kV doc pm an fi ct) ⟨us,[]⟩=pure ((r.N.take r.k).zip us)
 |_::_,h,r,hr=>(aH.mp hr).elim (λz=>z▸h.1) (BM.get h.2 r)
end
noncomputable def vT(N P:List Str)(sc:Scope):Bool:=decide (sc.kind=.function)&&!sc.isCoroutine&&!sc.isGenerator&&decide N.Nodup&&decide (N.take P.length=P)&&P.all (λx=>decide (sc.names.lookup x=some .local)||decide (sc.names.lookup x=some .cell))&&sc.names.all λy=>decide (y.2≠.free)
theorem Iv{N P:List Str}{sc:Scope}(h:vT N P sc=true):hZ N P sc:=by
 unfold vT at h;simp only[Bool.and_eq_true,decide_eq_true_eq,Bool.not_eq_true',List.all_eq_true,Bool.or_eq_true] at h;obtain⟨⟨⟨⟨⟨⟨h1,h2⟩,h3⟩,h4⟩,h5⟩,h6⟩,h7⟩:=h;exact⟨h1,h2,h3,h4,h5,h6,h7⟩
theorem Yk{K:PySem.W.Frag}{h₀:Heap}{mg:Str->Option Value}{x:Str}{C:Addr}{Gb:List Value}{newId:String}(X:K.In h₀)(G:h₀.Ns mainGlobals mg)(e:PySem.W.nsIn K mainGlobals x=some (some (.ref C)))(q:PySem.W.excIn K C Gb newId=true):PyProof.Rows.OwnCls x C Gb newId mg h₀:=by
 refine⟨bK X G e,?_⟩;unfold PySem.W.excIn at q;split at q
 ·rename_i dd cd sl ho;split at q
  ·rename_i C' bm k0 k1 k2 k3 n k5 hm hs;simp only[Bool.and_eq_true,beq_iff_eq,Bool.not_eq_true'] at q;obtain⟨⟨⟨⟨⟨z1,z2⟩,uh⟩,ht⟩,bE⟩,wq⟩:=q;subst z1;subst z2;obtain⟨nm,bs,mro,ns,qn,hd,sn,sub,ab,col,del⟩:=cd;dsimp only at hm uh bE wq;subst hm uh;have om:sl=#[k0,k1,k2,k3,some (.builtin n),k5]:=by
    obtain⟨l⟩:=sl;simp only at hs;rw[hs]
   subst om;exact⟨bm,ns,nm,qn,bs,hd,sn,sub,ab,col,dd,k0,k1,k2,k3,k5,_,X _ _ ho,.of_isNs (PySem.W.isNs_of_in X bE),PySem.W.nsMap_none_of_in X bE wq,PySem.W.tail_of_in X ht⟩
  ·cases q
 ·cases q
noncomputable def Q2(K:PySem.W.Frag)(x:Str):Addr:=match PySem.W.nsIn K mainGlobals x with
 |some (some (.ref C))=>C
 |_=>0
noncomputable def II(K:PySem.W.Frag)(exc:List Str):Bool:=exc.all λx=>exc.all λy=>decide (PySem.W.exmOne K (.ref (Q2 K x)) (.ref (Q2 K y))=some (decide (x=y\/y="MintError")))
theorem OR{K:PySem.W.Frag}{exc:List Str}(h:II K exc=true){x y:Str}{C C':Addr}(hx:exc.contains x=true)(hy:exc.contains y=true)(hC:u4 K x C)(Ad:u4 K y C'):PySem.W.exmOne K (.ref C) (.ref C')=some (decide (x=y\/y="MintError")):=by
 have h1:=aV.mp h x (by simpa using hx);have h2:=bp (aV.mp h1 y (by simpa using hy));have e1:Q2 K x=C:=by unfold Q2;rw[show PySem.W.nsIn K mainGlobals x=_ from hC]
 have e2:Q2 K y=C':=by unfold Q2;rw[show PySem.W.nsIn K mainGlobals y=_ from Ad]
 rw[e1,e2] at h2;exact h2
theorem Bj{α:Type}{f:α->Nat}:∀{l:List α},(l.map f).Nodup->∀r∈l,l.find? (λx=>Nat.beq (f x) (f r))=some r
 |y::l,nd,r,hr=>by
  rw[ba,cL] at nd;rcases aH.mp hr with rfl|hr
  ·rw[List.find?_cons_of_pos];exact Nat.beq_refl _
  ·rw[List.find?_cons_of_neg]
   ·exact Bj nd.2 r hr
   ·intro z;exact nd.1 (aQ.mpr ⟨r,hr,(ie z).symm⟩)
theorem RO{α β:Type}{f:α->Nat}{g:β->Nat}{l:List α}{r:β}(h:g r∉l.map f):l.find? (λx=>Nat.beq (f x) (g r))=none:=by
 rw[jl];intro x hx z;exact h (aQ.mpr ⟨x,hx,ie z⟩)
section
variable{w:World}{K:PySem.W.Frag}{h₀:Heap}{mg:Str->Option Value}{c:i4}{F:List RF}{M:List RM}{tp:Nat->Stmt}{mt:Nat->Nat->Stmt}
structure ky(K:PySem.W.Frag)(c:i4)(F:List RF)(M:List RM)(tp:Nat->Stmt)(mt:Nat->Nat->Stmt):Prop where
 qF:PF tp K F
 qM:PM mt K M
 qC:PC K c.cls
 qA:PA K c.mQ
 qB:PB K c.blt
 qX:PX K c.exc
 xm:II K c.exc=true
structure kx(c:i4)(F:List RF)(M:List RM)(tp:Nat->Stmt)(mt:Nat->Nat->Stmt):Prop where
 cf:c.fns=F.map λr=>(r.nm,r.id)
 cm:c.nY=M.map λr=>(r.nm,r.cl,r.id)
 ci:c.cls.all (λy=>M.any λr=>decide (r.cl=y.1)&&decide (r.nm="__init__")&&Nat.beq r.id y.2)=true
 nd:(F.map (·.id)++M.map (·.id)).Nodup
 sF:F.all (λr=>vT r.N (r.N.take r.k) (n9 (tp r.i))&&decide (r.m.ar=(r.N.take r.k).length)&&decide (r.m.n=r.N.length))=true
 sM:M.all (λr=>vT r.N (r.N.take r.k) (n9 (mt r.i r.j))&&decide (r.m.ar=(r.N.take r.k).length)&&decide (r.m.n=r.N.length))=true
 oF:YF tp c F
 oM:YM mt c M
 bF:BF tp F
 bM:BM mt M
theorem Jc(I:ky K c F M tp mt)(X:kx c F M tp mt)(r:RF)(hr:r∈F):∃f fd,iS K c (r.d tp) r.m f fd/\PySem.W.nsIn K mainGlobals r.nm=some (some (.ref f))/\rP F M r.id=some r.m:=by
 obtain⟨f,fd,a,q⟩:=I.qF.get r hr;have s:=aV.mp X.sF r hr;simp only[Bool.and_eq_true,decide_eq_true_eq] at s;have o:=X.oF.get r hr;refine⟨f,fd,⟨q,q.binds (X.bF.get r hr),Iv s.1.1,o,s.1.2,s.2⟩,a,?_⟩;unfold rP;rw[Bj (f:=(·.id)) (cO.mp X.nd).1 r hr]
theorem Jd(I:ky K c F M tp mt)(X:kx c F M tp mt)(r:RM)(hr:r∈M):∃C f fd,iS K c (r.d mt) r.m f fd/\PySem.W.nsIn K mainGlobals r.cl=some (some (.ref C))/\Meth K C r.nm f/\rP F M r.id=some r.m:=by
 obtain⟨C,f,fd,a,q1,q⟩:=I.qM.get r hr;have s:=aV.mp X.sM r hr;simp only[Bool.and_eq_true,decide_eq_true_eq] at s;have o:=X.oM.get r hr;refine⟨C,f,fd,⟨q,q.binds (X.bM.get r hr),Iv s.1.1,o,s.1.2,s.2⟩,a,q1,?_⟩;have nd:=cO.mp X.nd;unfold rP;rw[RO (f:=λr:RF=>r.id) (g:=λr:RM=>r.id) (r:=r) (λz=>nd.2.2 _ z _ (aQ.mpr ⟨r,hr,rfl⟩) rfl),Bj (f:=λr:RM=>r.id) nd.2.1 r hr]
 rfl
theorem Ro(I:ky K c F M tp mt)(Y:kx c F M tp mt)(X:K.In h₀)(G:h₀.Ns mainGlobals mg)(con:∀x d,c.con.lookup x=some d->∃v u,mg x=some u/\RelV v u/\∀ρ H,f7 K ρ H d v)(qi:∀x kvs,c.gd.lookup x=some kvs->∃A vs,mg x=some (.ref A)/\vb K w.params A vs/\oO K kvs vs):mF w K mg c (rP F M):=by
 refine⟨λx i hx=>?_,λx i hx=>?_,λx y i C hx hC=>?_,λf y C hx hC=>?_,con,λx hx=>?_,λx hx=>?_,λx y C C' hx hy hC Ad=>OR I.xm hx hy hC Ad,qi⟩
 ·have hm:=aM hx;rw[Y.cf] at hm;obtain⟨r,hr,e⟩:=aQ.mp hm;cases e;obtain⟨f,fd,O,a,t⟩:=Jc I Y r hr;exact⟨_,_,f,fd,t,O,bK X G a⟩
 ·have hm:=aM hx;have h1:=aV.mp Y.ci _ hm;obtain⟨r,hr,e⟩:=bP.mp h1;simp only[Bool.and_eq_true,decide_eq_true_eq] at e;obtain⟨⟨e1,e2⟩,e3⟩:=e;have e3:=ie e3;obtain⟨C,f,fd,O,a,q,t⟩:=Jd I Y r hr;obtain⟨C',a',hc,mk,kp⟩:=I.qC.get _ hm;rw[e1] at a;cases a.symm.trans a';rw[e2] at q;rw[e3] at t;exact⟨C,_,_,f,fd,t,O,bK X G a,a,hc,⟨mk,q.at_,q.fn,kp⟩⟩
 ·rw[Y.cm] at hx;obtain⟨r,hr,e⟩:=aQ.mp hx;cases e;obtain⟨C',f,fd,O,a,q,t⟩:=Jd I Y r hr;cases a.symm.trans hC;exact⟨_,_,f,fd,t,O,q⟩
 ·obtain⟨C',a,q⟩:=I.qA.get _ hx;cases a.symm.trans hC;exact q
 ·exact PySem.W.mg_none_of X G (I.qB.get x (by simpa using hx))
 ·obtain⟨C,a,q⟩:=I.qX.get x (by simpa using hx);exact⟨_,bK X G a,a,λbase mM uC=>⟨_,_,_,_,Yk mM uC a q,PySem.F.excBase_ValueError⟩⟩
end
end M

namespace M
open PySem L2
set_option hygiene false
local macro_rules|`(tactic|walk_at"w1")=>`(tactic|with_reducible first|refine vo ?_|refine Ct ?_|refine xq ?_|refine OE ?_|refine Rw ?_|refine OG ?_|refine Jh ?_|refine RA ?_|refine JW ?_|refine Q4 ?_|refine yx ?_|(refine w_var (d:=?_) ?_ ?_;rotate_left;·with_unfolding_all rfl)|refine w_lit ?_|refine Gi ?_|refine Gh ?_|refine Vp ?_|refine Rz ?_|refine Tx ?_|refine w_and ?_|refine w_or ?_|refine w_not ?_|refine w_ite ?_|refine AU ?_|refine Rx ?_|refine vP ?_|refine Cs ?_|refine vn ?_|refine RB ?_|refine OF ?_|refine RC ?_|refine Cu ?_|refine JX ?_|refine Vs ?_|refine Vt ?_|refine OB ?_|refine Ud ?_|refine Uc ?_|refine Ub ?_|refine Ua ?_|refine Vw ?_|refine VC ?_|refine FH ?_|refine Fx ?_|refine Vx ?_|refine VA ?_|refine FA ?_|refine FC ?_|refine Fz ?_|refine Fy ?_|refine VB ?_|refine CY ?_|refine Vy ?_|refine FF ?_|refine FD ?_|refine FE ?_|refine JA ?_|refine Vm ?_|refine Bf ?_|refine OW ?_|refine lU ?_|refine qz ?_|refine FU ?_|refine Up ?_|refine Eb ?_|refine yG ?_|refine yE ?_|refine yF ?_|refine DL ?_|refine DZ ?_|refine DC ?_)
local macro_rules|`(tactic|walk_at"w2")=>`(tactic|repeat(with_reducible first|walk_at "w1"|refine Cn (by simp) ?_|refine Cm (by simp) ?_|refine u6 (b0 (by assumption)) (by with_unfolding_all rfl) ?_|refine U2 (b0 (by assumption)) ?_|refine BY (by unfold nE;decide) ?_))
local macro_rules|`(tactic|walk_at"w3")=>`(tactic|repeat(with_reducible first|walk_at "w1"|refine Cn (by simp) ?_|refine Cm (by simp) ?_|refine u6 (b0 (by assumption)) (by with_unfolding_all rfl) ?_|refine U2 (b0 (by assumption)) ?_|refine BY (by unfold nE;decide) ?_|refine And.intro (show List.length _ <= 1000 from by simp) ?_|refine A1 (by with_unfolding_all rfl) ?_|refine p0 ?_|refine E4 (by with_unfolding_all rfl) ?_))
local macro_rules|`(tactic|walk_at"")=>`(tactic|repeat(with_reducible first|walk_at "w1"|refine Tz ?_|refine DA ?_|refine Ry ?_|refine Fw ?_|refine Ow ?_|refine DD ?_|refine max2 ?_|refine min2 ?_|refine VN ?_|refine nJ ?_|refine Nz ?_|refine Fc ?_|refine Cn (by simp) ?_|refine Cm (by simp) ?_|refine u6 (b0 (by assumption)) (by with_unfolding_all rfl) ?_|refine U2 (b0 (by assumption)) ?_|refine BY (by unfold nE;decide) ?_|refine And.intro (show List.length _ <= 1000 from by simp) ?_|refine A1 (by with_unfolding_all rfl) ?_|refine p0 ?_|refine E4 (by with_unfolding_all rfl) ?_|refine And.intro (vk (by assumption)) ?_|refine And.intro (Pu (by assumption)) ?_|refine And.intro (Ux (by assumption)) ?_|refine P6 (by decide) ?_|refine OJ (by decide) (by decide) ?_|refine tP ?_))
set_option hygiene true
abbrev eZ(a:ME):ME:=.cons a .nil
abbrev dc(a b:ME):ME:=.cons a (.cons b .nil)
abbrev fH(a b c:ME):ME:=.cons a (.cons b (.cons c .nil))
abbrev pA(a b c d:ME):ME:=.cons a (.cons b (.cons c (.cons d .nil)))
abbrev vM(a b c d e:ME):ME:=.cons a (.cons b (.cons c (.cons d (.cons e .nil))))
abbrev EX(a b c d e f:ME):ME:=.cons a (.cons b (.cons c (.cons d (.cons e (.cons f .nil)))))
abbrev Nt(a b c d e f g:ME):ME:=.cons a (.cons b (.cons c (.cons d (.cons e (.cons f (.cons g .nil))))))
abbrev dY(o:PySem.CmpOp)(a b:ME):ME:=.fP (.prim (.cmp o) (.cons a (.cons b .nil)))
abbrev df(a b:ME):ME:=.prim .ix (.cons a (.cons b .nil))
abbrev bg(a:Int):ME:=.lit (.int a)
abbrev hV(a:PySem.Str):ME:=.lit (.str a)
abbrev dF(p:Pr)(a:ME):ME:=.prim p (.cons a .nil)
abbrev bY(p:Pr)(a b:ME):ME:=.prim p (.cons a (.cons b .nil))
abbrev aL:ME:=.var 0
abbrev bo:ME:=.var 1
abbrev og:ME:=.var 10
abbrev ki:ME:=.var 12
abbrev tK:ME:=.var 13
abbrev nZ:ME:=.var 15
abbrev tJ:ME:=.var 16
abbrev bh:ME:=.var 2
abbrev bT:ME:=.var 3
abbrev cJ:ME:=.var 4
abbrev eR:ME:=.var 5
abbrev ff:ME:=.var 6
abbrev iX:ME:=.var 7
abbrev kJ:ME:=.var 8
abbrev tI:ME:=.var 9
noncomputable def E1:aW:=⟨2,5,(.seq (.ifs (.dG (dY .Lt (df aL (bg 2)) bo) (dY .Lt (df aL (bg 1)) (dF .len (df aL (bg 0))))) (.seq (.set 2 (df (df aL (bg 0)) (df aL (bg 1)))) (.seq (.dM aL (bg 1) (bY (.bin .Add) (df aL (bg 1)) (bg 1))) (.seq (.dM aL (bg 2) (bg 0)) (.seq (.ifs (dY .GtE bh (bY (.bin .Pow) (bg 10) (bg 18))) (.seq (.dM aL (bg 2) bh) .pass) (.seq (.dM aL (bg 3) (bY (.bin .Mod) (bY (.bin .Add) (bY (.bin .Add) (bY (.bin .Mult) (df aL (bg 3)) (bg 48271)) (bY (.bin .Mult) (bY (.bin .Mod) bh (bg 2147483629)) (bg 69621))) (bg 12345)) (bg 2147483647))) .pass)) .pass)))) .pass) (.seq (.ifs (dY .GtE (df aL (bg 2)) bo) (.seq (.set 3 (bY (.bin .Mod) (df aL (bg 2)) bo)) (.seq (.dM aL (bg 2) (bY (.bin .FloorDiv) (df aL (bg 2)) bo)) (.seq (.ret bT) .pass))) .pass) (.seq (.set 4 (df aL (bg 3))) (.seq (.dM aL (bg 3) (bY (.bin .Mod) (bY (.bin .Add) (bY (.bin .Add) (bY (.bin .Mult) (bY (.bin .Mod) (bY (.bin .Mult) cJ cJ) (bg 2147483629)) (bg 5)) (bY (.bin .Mult) cJ (bg 16811))) (bg 2531011)) (bg 2147483647))) (.seq (.ret (bY (.bin .Mod) (bY (.bin .Add) (bY (.bin .FloorDiv) (df aL (bg 3)) (bg 59)) (bY (.bin .Mult) (bY (.bin .Mod) (df aL (bg 3)) (bg 8191)) (bg 31))) bo)) .pass)))))⟩
structure j4(g:G)(d:Nat):Prop where
 ex:∃(s:Nat) (p b r:Int) (xs:List Int),g[d]?=some (.lst [.ref s,.int p,.int b,.int r])/\g[s]?=some (.lst (xs.map .int))/\s<d/\0<=p/\0<=b/\0<=r/\r<2147483647
structure Gr(d:Nat)(g g':G):Prop where
 len:g.length<=g'.length
 old:∀i,i≠d->i<g.length->g'[i]?=g[i]?
theorem Gr.refl(d:Nat)(g:G):Gr d g g:=⟨av _,λ_ _ _=>rfl⟩
theorem Gr.trans{d:Nat}{g g1 g2:G}(a:Gr d g g1)(b:Gr d g1 g2):Gr d g g2:=⟨aG a.len b.len,λi h1 h2=>(b.old i h1 (ax h2 a.len)).trans (a.old i h1 h2)⟩
theorem Gr.set(d:Nat)(g:G)(o:O):Gr d g (g.set d o):=⟨by simp,λi h1 h2=>aw (bC h1)⟩
theorem Gr.snoc(d:Nat)(g:G)(o:O):Gr d g (g++[o]):=⟨by simp,λi h1 h2=>aA h2⟩
theorem Gr.at{d:Nat}{g g':G}(h:Gr d g g'){i:Nat}{o:O}(hi:i≠d)(e:g[i]?=some o):g'[i]?=some o:=(h.old i hi (aj.mp e).1).trans e
theorem k8{g:G}{i:Nat}{o:O}(h:g[i]?=some o):i<g.length:=(aj.mp h).1
theorem j4.lt{g:G}{d:Nat}(h:j4 g d):d<g.length:=let ⟨_,_,_,_,_,e,_⟩:=h.ex;k8 e
theorem j4.snoc{g:G}{d:Nat}(h:j4 g d)(o:O):j4 (g++[o]) d:=by
 obtain⟨s,p,b,r,xs,e1,e2,q⟩:=h.ex;exact⟨s,p,b,r,xs,by rw[aA (k8 e1)];exact e1,by rw[aA (k8 e2)];exact e2,q⟩
noncomputable def i9:MS->MS
 |.seq _ b=>b
 |x=>x
theorem CD{i j:Int}(h1:-(2 ^ 64)<i)(h2:i<2 ^ 64):qv i j:=.inl ⟨h1,h2⟩
theorem Y0{i j:Int}(h1:-(2 ^ 64)<j)(h2:j<2 ^ 64):qv i j:=.inr ⟨h1,h2⟩
theorem Yu{P:eT}{d:Nat}{n:Int}{g:G}{Q:KD}{E:KX}{N:Ends}{c2:Option D}(hN:N.rt=Q)(D0:j4 g d)(hn:0<n)(ot:n<1073741824)(h:∀r g',0<=r->r<n->j4 g' d->Gr d g g'->Q (.int r) g'):wpS P (i9 E1.body) N [some (.ref d),some (.int n),c2,none,none] g E:=by
 obtain⟨s,p,b,r,xs,e1,e2,nj,hp,hb,hr,qZ⟩:=D0.ex;have dN:=k8 e1;subst hN;dsimp[E1,i9];walk_at "w2";refine if2 (λc=>?_) (λc=>?_)
 ·walk_at "w2";refine P6 hn ?_;walk_at "w2";refine wZ ⟨hn,ot⟩ ?_;walk_at "w2";refine T5 e1 (by with_unfolding_all rfl) ?_;walk_at "w2";refine h _ _ (dX _ (by omega)) (dn _ hn) ⟨s,p,b / n,r,xs,?_,?_,nj,hp,Int.ediv_nonneg hb (by omega),hr,qZ⟩ (Gr.set d g _)
  ·rw[aR dN];rfl
  ·rw[aw (bO nj)];exact e2
 ·walk_at "w2";have DM:-(2 ^ 64)<r/\r<2 ^ 64:=⟨by omega,by omega⟩
  refine P5 (CD DM.1 DM.2) ?_;walk_at "w2";refine P6 (by decide) ?_;walk_at "w2";refine P5 (Y0 (by decide) (by decide)) ?_;walk_at "w2";refine P5 (Y0 (by decide) (by decide)) ?_;walk_at "w2";refine P6 (by decide) ?_;walk_at "w2";refine T5 e1 (by with_unfolding_all rfl) ?_;generalize lx:(r*r % 2147483629*5+r*16811+2531011) % 2147483647=r';have q0:0<=r':=by rw[<- lx];exact dX _ (by decide)
  have q1:r'<2147483647:=by rw[<- lx];exact dn _ (by decide)
  have NP:(g.set d (.lst [.ref s,.int p,.int b,.int r']))[d]?=some (.lst [.ref s,.int p,.int b,.int r']):=aR dN;show wpS P _ _ _ (g.set d (.lst [.ref s,.int p,.int b,.int r'])) E;walk_at "w2";refine wZ ⟨by decide,by decide⟩ ?_;walk_at "w2";refine P6 (by decide) ?_;walk_at "w2";refine P5 (Y0 (by decide) (by decide)) ?_;walk_at "w2";refine P6 hn ?_;walk_at "w2";refine h _ _ (dX _ (by omega)) (dn _ hn) ⟨s,p,b,r',xs,NP,?_,nj,hp,hb,q0,q1⟩ (Gr.set d g _);rw[aw (bO nj)];exact e2
theorem i5{T:Nat->Option aW}(hT:T 4=some E1){k d:Nat}{n:Int}{g:G}{Q:KD}{E:KX}(D0:j4 g d)(hn:0<n)(ot:n<1073741824)(h:∀r g',0<=r->r<n->j4 g' d->Gr d g g'->Q (.int r) g'):d4 T (k+1) 4 [.ref d,.int n] g Q E:=by
 obtain⟨s,p,b,r,xs,e1,e2,nj,hp,hb,hr,qZ⟩:=D0.ex;have dN:=k8 e1;refine call_of hT rfl ?_;have tail:∀(g':G) (c2:Option D),j4 g' d->Gr d g g'->wpS (d4 T k) (i9 E1.body) ⟨λ_ g'=>Q .bD g',Q,λ_ _=>False,λ_ _=>False⟩ [some (.ref d),some (.int n),c2,none,none] g' E :=
  λg' c2 D1 gr=>Yu rfl D1 hn ot λr g2 a b c e=>h r g2 a b c (gr.trans e)
 dsimp[E1,d8,List.replicate];walk_at "w2";refine if2 (λc=>?_) (λc=>?_)
 ·walk_at "w2";refine if2 (λc'=>?_) (λc'=>?_)
  ·walk_at "w2";have iZ:p.toNat<xs.length:=by
    rw[ag] at c';omega
   have ea:fR (xs.map D.int) p=some (.int xs[p.toNat]):=by
    have:=F8 (xs:=xs.map D.int) (j:=p.toNat) (v:=.int xs[p.toNat]) (by rw[ak,ai iZ];rfl)
    rwa [show((p.toNat:Nat):Int)=p by omega] at this
   refine u6 (b0 e2) ea ?_;generalize xs[p.toNat]=cell;walk_at "w2";refine T5 e1 (by with_unfolding_all rfl) ?_;have f1:(g.set d (.lst [.ref s,.int (p+1),.int b,.int r]))[d]?=some (.lst [.ref s,.int (p+1),.int b,.int r]):=aR dN;show wpS (d4 T k) _ _ _ (g.set d (.lst [.ref s,.int (p+1),.int b,.int r])) E;walk_at "w2";refine T5 f1 (by with_unfolding_all rfl) ?_;rw[gS];have f2:(g.set d (.lst [.ref s,.int (p+1),.int 0,.int r]))[d]?=some (.lst [.ref s,.int (p+1),.int 0,.int r]):=aR dN;show wpS (d4 T k) _ _ _ (g.set d (.lst [.ref s,.int (p+1),.int 0,.int r])) E;walk_at "w2";refine if2 (λc2=>?_) (λc2=>?_)
   ·walk_at "w2";refine T5 f2 (by with_unfolding_all rfl) ?_;rw[gS];refine tail _ _ ⟨s,p+1,cell,r,xs,aR dN,by rw[aw (bO nj)];exact e2,nj,by omega,?_,hr,qZ⟩ (Gr.set d g _);have:(10:Int) ^ (18:Int).toNat<=cell:=c2;have EW:(0:Int)<=10 ^ (18:Int).toNat:=by decide
    omega
   ·walk_at "w2";refine P5 (Y0 (by decide) (by decide)) ?_;walk_at "w2";refine P6 (by decide) ?_;walk_at "w2";refine P5 (Y0 (by decide) (by decide)) ?_;walk_at "w2";refine P6 (by decide) ?_;walk_at "w2";refine T5 f2 (by with_unfolding_all rfl) ?_;rw[gS];exact tail _ _ ⟨s,p+1,0,_,xs,aR dN,by rw[aw (bO nj)];exact e2,nj,by omega,by decide,dX _ (by decide),dn _ (by decide)⟩ (Gr.set d g _)
  ·walk_at "w1";exact tail _ _ D0 (Gr.refl _ _)
 ·walk_at "w1";walk_at "w1";exact tail _ _ D0 (Gr.refl _ _)
noncomputable def BO:aW:=⟨1,1,(.seq (.ret (.dG (bY .isin aL (.lit (.ty "int"))) (.eL (bY .isin aL (.lit (.ty "bool")))))) .pass)⟩
noncomputable def V1:aW:=⟨3,3,(.seq (.ret (.dG (.call 38 (eZ aL)) (.chain .LtE .LtE bo aL bh))) .pass)⟩
structure NF(T:Nat->Option aW):Prop where
 nf:T 1=some V1
 is:T 38=some BO
noncomputable def F3:aW:=⟨1,3,(.seq (.set 1 (bg 0)) (.seq (.dS (.one 2) (.fB aL) (.seq (.ifs (.eL (.fP (.call 1 (fH bh bo (bg 7))))) (.seq (.ret (.lit (.bl false))) .pass) .pass) (.seq (.set 1 (bY (.bin .Add) bh (bg 1))) .pass))) (.seq (.ret (.lit (.bl true))) .pass)))⟩
noncomputable def xj:aW:=⟨1,1,(.seq (.ret (.prim .lst (pA (dF .list (bY (.kf false true) aL (bg 63))) (bg 0) (bg 0) (bg 29)))) .pass)⟩
theorem O0{g:G}{n:Nat}:∀ms:List Int,(ms.map D.int).mapM (rd g n)=some (ms.map PyData.int)
 |[]=>rfl
 |m::r=>by
  rw[ba,List.mapM_cons,O0 r];cases n<;>rfl
theorem lay_ints:∀ms:List Int,PyData.canLayAll0 (ms.map PyData.int)=true
 |[]=>by simp[PyData.canLayAll0]
 |m::r=>by simp[PyData.canLayAll0,PyData.canLay0,lay_ints r]
theorem HG:∀ms ns:List Int,PyData.eqvAll (ms.map PyData.int) (ns.map PyData.int)=decide (ms=ns)
 |[],[]=>by simp[PyData.eqvAll]
 |[],_::_=>by simp[PyData.eqvAll]
 |_::_,[]=>by simp[PyData.eqvAll]
 |m::r,n::q=>by
  simp only[List.map_cons,PyData.eqvAll,PyData.eqv,HG r q];by_cases h:m=n
  ·subst h;simp
  ·simp[h]
theorem GR{g:G}{ms:List Int}{i:Int}{k:Bool->Prop}(h:k (ms.any λm=>m==i)):pM g (.int i) (.tup (ms.map .int)) k:=by
 refine⟨_,.inr ⟨_,_,_,rfl,O0 ms,rfl,lay_ints ms,by simp[PyData.canLay0],rfl⟩,?_⟩;rw[List.any_map];exact h
theorem GL{g:G}{a b:Nat}{ms ns:List Int}{k:Bool->Prop}(ha:d7 g a=some (ms.map .int))(hb:d7 g b=some (ns.map .int))(h:k (decide (ms=ns))):uJ g (.ref a) (.ref b) k:=by
 refine⟨_,.inr (.inr (.inr ⟨.list (ms.map .int),.list (ns.map .int),?_,?_,?_,?_,rfl⟩)),?_⟩
 ·simp only[rd];rw[ha];dsimp only;rw[O0];rfl
 ·simp only[rd];rw[hb];dsimp only;rw[O0];rfl
 ·simp[PyData.canLay0,lay_ints]
 ·simp[PyData.canLay0,lay_ints]
 ·simp only[PyData.eqv,HG];exact h
section
variable{T:Nat->Option aW}{k d:Nat}{g:G}{Q:KD}{E:KX}
theorem HV(h1:NF T){i:Int}(h:Q (.bl true) g):d4 T (k+1) 38 [.int i] g Q E:=by
 refine call_of h1.is rfl ?_;dsimp[BO,d8,List.replicate];walk_at "w2";refine Ee (c:="int") (b:=true) (by decide) rfl ?_;walk_at "w2";refine Ee (c:="bool") (b:=false) (by decide) rfl ?_;walk_at "w2";exact h
theorem A2(h1:NF T){i l m:Int}(h:Q (.bl (decide (l<=i)&&decide (i<=m))) g):d4 T (k+2) 1 [.int i,.int l,.int m] g Q E:=by
 refine call_of h1.nf rfl ?_;dsimp[V1,d8,List.replicate];walk_at "w2";refine HV h1 ?_;walk_at "w2";refine if2 (λc=>?_) (λc=>?_)
 ·rw[aC c] at h;walk_at "w2";exact h
 ·rw[aB c] at h;exact h
noncomputable def gm:Int->List Int->Bool
 |_,[]=>true
 |l,x::r=>(decide (l<=x)&&decide (x<=7))&&gm (x+1) r
theorem HZ(h1:NF T)(h2:T 2=some F3){ms:List Int}(h:Q (.bl (gm 0 ms)) g):d4 T (k+3) 2 [.tup (ms.map .int)] g Q E:=by
 refine call_of h2 rfl ?_;dsimp[F3,d8,List.replicate];walk_at "w2";refine B6 (b8 T _) (wg (b8 T _) ?_);walk_at "w2";refine⟨_,rfl,_,λi Z g'=>g'=g/\∃(l:Int) (z:Option D),Z=[some (.tup (ms.map .int)),some (.int l),z]/\gm 0 ms=gm l (ms.drop i),λ_ _ _ _=>B0,⟨rfl,0,none,rfl,rfl⟩,λi x Z g' hx p=>?_,λZ g' p=>?_⟩
 ·obtain⟨rfl,l,z,rfl,e⟩:=p;rw[ak] at hx;cases em:ms[i]? with
  |none=>rw[em] at hx;cases hx
  |some m =>
   rw[em] at hx;cases hx;have hi:=(aj.mp em).1;have ed:ms.drop i=m::ms.drop (i+1):=by
    rw[dH hi]
    congr 1
    exact(aj.mp em).2
   rw[ed] at e;simp only[gm] at e;show wpS _ _ _ _ _ _;walk_at "w2";refine A2 h1 ?_;walk_at "w2";cases hc:(decide (l<=m)&&decide (m<=7)) with
   |true =>
    rw[hc,jf] at e;show wpS _ _ _ _ _ _;walk_at "w2";exact⟨rfl,m+1,some (.int m),rfl,e⟩
   |false =>
    rw[hc,Bool.false_and] at e;rw[e] at h;show wpS _ _ _ _ _ _;walk_at "w2";exact h
 ·obtain⟨rfl,l,z,rfl,e⟩:=p;rw[eJ (by simp)] at e;simp only[gm] at e;rw[e] at h;show wpS _ _ _ _ _ _;walk_at "w2";exact h
theorem Sv(h3:T 3=some xj){a:Nat}{ns:List Int}(hg:g[a]?=some (.nz (ns.map .int)))(h:∀d g',j4 g' d->g.length<=d->(∀i,i<g.length->g'[i]?=g[i]?)->Q (.ref d) g'):d4 T (k+1) 3 [.ref a] g Q E:=by
 refine call_of h3 rfl ?_;dsimp[xj,d8,List.replicate];walk_at "w2";refine xB (XX hg) ?_;walk_at "w2";refine JI (l:=cut (ns.map D.int) none (some 63)) (b0 (by simp)) ?_;walk_at "w2";have ec:cut (ns.map D.int) none (some 63)=(cut ns none (some 63)).map D.int:=by
  unfold cut;simp[List.map_take,List.map_drop]
 refine h _ _ ⟨g.length+1,0,0,29,cut ns none (some 63),?_,?_,?_,by decide,by decide,by decide,by decide⟩ (by simp) (λi hi=>?_)
 ·simp
 ·rw[<- ec];simp
 ·simp
 ·simp[List.getElem?_append,hi,Nat.lt_of_lt_of_le hi (by omega:g.length<=g.length+1),Nat.lt_of_lt_of_le hi (by omega:g.length<=g.length+1+1)]
end
theorem JG:∀{ms:List Int} {l:Int},ms.Pairwise (· < ·)->(∀m∈ms,l<=m/\m<=7)->gm l ms=true
 |[],_,_,_=>rfl
 |m::r,l,hp,h=>by
  obtain⟨h1,h2⟩:=jj.mp hp;have hm:=h m (by simp);simp only[gm];rw[aC hm.1,aC hm.2,JG h2 λx hx=>⟨by have:=h1 x hx;omega,(h x (by simp[hx])).2⟩]
  rfl
theorem J7{α:Type}{l:List α}{r:Int}(h0:0<=r)(h1:r<l.length):∃v,fR l r=some v/\v∈l:=by
 have hi:r.toNat<l.length:=by omega
 refine⟨l[r.toNat],?_,cx hi⟩;have:=F8 (xs:=l) (j:=r.toNat) (v:=l[r.toNat]) (ai hi)
 rwa [show((r.toNat:Nat):Int)=r by omega] at this
section
variable{T:Nat->Option aW}{k d:Nat}{g:G}{Q:KD}{E:KX}
end
noncomputable def A8:aW:=⟨1,8,(.seq (.kZ (.many [1,2,3,4,5]) aL) (.seq (.set 6 (.dG (.call 1 (fH bo (bg 1) (bg 99))) (.call 2 (eZ bh)))) (.seq (.set 7 (.dG (.call 1 (fH bT (bg 1) (bg 99))) (.call 2 (eZ cJ)))) (.seq (.ret (.dG ff (.dG iX (.call 1 (fH eR (bg 0) (bg 9999)))))) .pass))))⟩
structure b7 where
 lo:Int
 lm:List Int
 up:Int
 um:List Int
 yr:Int
noncomputable def b7.d(c:b7):D:=.tup [.int c.lo,.tup (c.lm.map .int),.int c.up,.tup (c.um.map .int),.int c.yr]
noncomputable def p9(c:b7):Bool:=((decide (1<=c.lo)&&decide (c.lo<=99))&&gm 0 c.lm)&&(((decide (1<=c.up)&&decide (c.up<=99))&&gm 0 c.um)&&(decide (0<=c.yr)&&decide (c.yr<=9999)))
section
variable{T:Nat->Option aW}{k d:Nat}{g:G}{Q:KD}{E:KX}
theorem aB5(h1:NF T)(h2:T 2=some F3)(rD:T 12=some A8){c:b7}(h:Q (.bl (p9 c)) g):d4 T (k+4) 12 [c.d] g Q E:=by
 refine call_of rD rfl ?_;dsimp[A8,d8,List.replicate,b7.d];walk_at "w3";refine A2 h1 ?_;have s1:∀b:Bool,b=((decide (1<=c.lo)&&decide (c.lo<=99))&&gm 0 c.lm)->wpS (d4 T (k+3)) (i9 (i9 A8.body)) ⟨λ_ g'=>Q .bD g',Q,λ_ _=>False,λ_ _=>False⟩ [some c.d,some (.int c.lo),some (.tup (c.lm.map .int)),some (.int c.up),some (.tup (c.um.map .int)),some (.int c.yr),some (.bl b),none] g E:=by
  intro b hb;dsimp[A8,i9];walk_at "w3";refine A2 h1 ?_;have s2:∀b':Bool,b'=((decide (1<=c.up)&&decide (c.up<=99))&&gm 0 c.um)->wpS (d4 T (k+3)) (i9 (i9 (i9 A8.body))) ⟨λ_ g'=>Q .bD g',Q,λ_ _=>False,λ_ _=>False⟩ [some c.d,some (.int c.lo),some (.tup (c.lm.map .int)),some (.int c.up),some (.tup (c.um.map .int)),some (.int c.yr),some (.bl b),some (.bl b')] g E:=by
   intro b' jJ;dsimp[A8,i9];have e:p9 c=(b&&(b'&&(decide (0<=c.yr)&&decide (c.yr<=9999)))):=by unfold p9;rw[hb,jJ]
   rw[e] at h;walk_at "w3";cases b
   ·exact qz h
   ·refine lU ?_;walk_at "w3";cases b'
    ·exact qz h
    ·refine lU ?_;walk_at "w3";exact A2 h1 h
  refine Bf ?_;cases hc:(decide (1<=c.up)&&decide (c.up<=99)) with
  |false=>exact qz (s2 false (by rw[hc];rfl))
  |true =>
   refine lU ?_;walk_at "w1";walk_at "w1";walk_at "w1";walk_at "w1";exact HZ h1 h2 (s2 _ (by rw[hc];rfl))
 refine Bf ?_;cases hc:(decide (1<=c.lo)&&decide (c.lo<=99)) with
 |false=>exact qz (s1 false (by rw[hc];rfl))
 |true =>
  refine lU ?_;walk_at "w1";walk_at "w1";walk_at "w1";walk_at "w1";exact HZ h1 h2 (s1 _ (by rw[hc];rfl))
end
noncomputable def R6:aW:=⟨2,5,(.seq (.set 2 (dF .list bo)) (.seq (.set 3 (.prim .lst .nil)) (.seq (.dS (.one 4) (.fg (dF .len bo)) (.seq (.expr (.eA .append bT (eZ (.eA .pop bh (eZ (.call 4 (dc aL (dF .len bh)))))))) .pass)) (.seq (.ret bT) .pass))))⟩
theorem Hz{α:Type}:∀{l:List α} {j:Nat} (h:j<l.length),(l[j]::l.eraseIdx j).Perm l
 |a::r,0,_=>by simp
 |a::r,j+1,h=>by
  simp only[List.getElem_cons_succ,List.eraseIdx_cons_succ];exact(List.Perm.swap _ _ _).trans ((Hz (l:=r) (j:=j) (by simpa using h)).cons a)
theorem Gr.J5{d x:Nat}{g g':G}{o:O}(h:Gr d g g')(hx:g.length<=x):Gr d g (g'.set x o):=⟨by simp[h.len],λi h1 h2=>by rw[aw (by omega)];exact h.old i h1 h2⟩
theorem j4.J5{g:G}{d x:Nat}{o:O}(h:j4 g d)(hx:d<x):j4 (g.set x o) d:=by
 obtain⟨s,p,b,r,xs,e1,e2,hs,q⟩:=h.ex;exact⟨s,p,b,r,xs,by rw[aw (by omega)];exact e1,by rw[aw (by omega)];exact e2,hs,q⟩
theorem d0{g:G}{o:O}:(g++[o])[g.length]?=some o:=by simp
theorem m9{g:G}{i:Nat}{o o':O}(h:g[i]?=some o):(g++[o'])[i]?=some o:=by rw[aA (k8 h)];exact h
theorem get_set{g:G}{i:Nat}{o o':O}(h:g[i]?=some o):(g.set i o')[i]?=some o':=aR (k8 h)
theorem f9{g:G}{i j:Nat}{o o':O}(h:g[i]?=some o)(hn:j≠i):(g.set j o')[i]?=some o:=by rw[aw hn];exact h
section
variable{T:Nat->Option aW}{k d:Nat}{g:G}{Q:KD}{E:KX}
theorem HM(h4:T 4=some E1)(Af:T 21=some R6){a:Nat}{l:List D}(ha:g[a]?=some (.lst l))(hl:l.length<=1000)(hd:a≠d)(D0:j4 g d)(h:∀(l':List D) b g',l'.Perm l->g'[b]?=some (.lst l')->g.length<=b->j4 g' d->Gr d g g'->Q (.ref b) g'):d4 T (k+2) 21 [.ref d,.ref a] g Q E:=by
 refine call_of Af rfl ?_;dsimp[R6,d8,List.replicate];walk_at"";refine JI (b0 ha) ?_;walk_at"";have dl:=D0.lt;refine B6 (b8 T _) (qx (b8 T _) ?_);walk_at"";have wC:(g++[O.lst l]++[O.lst []])[a]?=some (.lst l):=m9 (m9 ha);refine U2 (b0 wC) ?_;refine ⟨_,rfl,by omega,by omega,l6 0 l.length,λi Z g'=>∃ left found w,Z=[some (.ref d),some (.ref a),some (.ref g.length),some (.ref (g.length + 1)),w]/\(left ++ found).Perm l/\left.length + i=l.length/\g'[g.length]?=some (.lst left)/\g'[g.length + 1]?=some (.lst found)/\j4 g' d/\Gr d g g',
  λi Z g p=>B0,?_,λi x Z g' hx p=>?_,λZ g' p=>?_⟩
 ·refine⟨l,[],none,?_,by simp,by simp,?_,?_,(D0.snoc _).snoc _,(Gr.snoc _ _ _).trans (Gr.snoc _ _ _)⟩
  ·simp
  ·exact m9 d0
  ·have:=d0 (g:=g++[O.lst l]) (o:=O.lst []);simpa using this
 ·obtain⟨left,found,w,rfl,hp,hn,e1,e2,D1,G1⟩:=p;obtain⟨hi,rfl⟩:=J8 hx;show wpS _ _ _ _ _ _;walk_at"";refine i5 (n:=(left.length:Int)) h4 D1 (by omega) (by omega) λr g2 r0 r1 D2 G2=>?_;have f1:=G2.at (by omega) e1;have f2:=G2.at (by omega) e2;have hr:r.toNat<left.length:=by omega
  walk_at"";refine Wa (j:=r.toNat) f1 (by omega) (ai hr) (by omega) ?_;walk_at"";refine T9 (f9 f2 (by omega)) ?_ ?_
  ·have:=hp.length_eq;simp at this;omega
  walk_at"";refine⟨_,_,_,rfl,?_,?_,f9 (get_set f1) (by omega),get_set (f9 f2 (by omega)),(D2.J5 (by omega)).J5 (by omega),((G1.trans G2).J5 (by omega)).J5 (by omega)⟩
  ·refine List.Perm.trans ?_ hp;have:=Hz hr;refine List.Perm.trans ?_ (List.Perm.append_right found this);simp only[List.cons_append];rw[<- fZ];exact(List.perm_append_singleton _ _)
  ·rw[fN hr];omega
 ·obtain⟨left,found,w,rfl,hp,hn,e1,e2,D1,G1⟩:=p;show wpS _ _ _ _ _ _;walk_at"";rw[o6] at hn;have:left=[]:=fe (by omega);subst this;exact h _ _ _ (by simpa using hp) e2 (by omega) D1 G1
end
noncomputable def Z9:aW:=⟨1,5,(.seq (.set 1 (.prim .lst (Nt (.prim .tup .nil) (dF .tup (bg 0)) (bY .tup (bg 0) (bg 1)) (dF .tup (bg 1)) (.prim .tup (fH (bg 0) (bg 1) (bg 2))) (.prim .tup (pA (bg 0) (bg 1) (bg 2) (bg 7))) (dF .tup (bg 2))))) (.seq (.set 2 (df bo (.call 4 (dc aL (df (bY .tup (bg 4) (bg 7)) (dF .int (bY (.cmp .Eq) (.call 4 (dc aL (bg 4))) (bg 0)))))))) (.seq (.set 3 (df bo (.call 4 (dc aL (bg 5))))) (.seq (.set 4 (df (.prim .lst (EX (bg 0) (bg 0) (bg 1400) (bg 1400) (bg 1401) (bg 1))) (.call 4 (dc aL (bg 6))))) (.seq (.ret (.prim .tup (vM (bY (.bin .Add) (bg 1) (.call 4 (dc aL (bg 3)))) bh (bY (.bin .Add) (bg 1) (.call 4 (dc aL (bg 4)))) bT cJ))) .pass)))))⟩
noncomputable def F1:aW:=⟨4,4,(.seq (.ifs (.jt (dY .Eq (dF .len bo) (bg 0)) (.dG (dY .Lt (dF .len bo) bT) (dY .Eq (.call 4 (dc aL (bg 3))) (bg 0)))) (.seq (.expr (.eA .append bo (eZ bh))) (.seq (.ret (bY (.bin .Add) bh (bg 1))) .pass)) .pass) (.seq (.ifs (dY .Eq (.call 4 (dc aL (bg 5))) (bg 0)) (.seq (.dM bo (.call 4 (dc aL (dF .len bo))) bh) (.seq (.ret (bY (.bin .Add) bh (bg 1))) .pass)) .pass) (.seq (.ret bh) .pass)))⟩
structure iF(c:b7):Prop where
 good:p9 c=true
 l8:c.lm.length<=8
 u8:c.um.length<=8
theorem iF.mk'{lo up yr:Int}{lm um:List Int}(h1:1<=lo)(h2:lo<=99)(h3:1<=up)(h4:up<=99)(h5:0<=yr)(h6:yr<=9999)(h7:gm 0 lm=true)(h8:gm 0 um=true)(h9:lm.length<=8)(EW:um.length<=8):iF ⟨lo,lm,up,um,yr⟩:=by
 refine⟨?_,h9,EW⟩;simp only[p9,h7,h8,decide_eq_true h1,decide_eq_true h2,decide_eq_true h3,decide_eq_true h4,decide_eq_true h5,decide_eq_true h6]
 rfl
theorem iF.inv{c:b7}(h:iF c):(1<=c.lo/\c.lo<=99)/\gm 0 c.lm=true/\(1<=c.up/\c.up<=99)/\gm 0 c.um=true/\0<=c.yr/\c.yr<=9999:=by
 have:=h.good;unfold p9 at this;simp only[Bool.and_eq_true,decide_eq_true_eq] at this;obtain⟨⟨⟨a,b⟩,e⟩,⟨⟨c',d⟩,f⟩,p,q⟩:=this;exact⟨⟨a,b⟩,e,⟨c',d⟩,f,p,q⟩
noncomputable def M8:List (List Int):=[[],[0],[0,1],[1],[0,1,2],[0,1,2,7],[2]]
theorem Sg:∀ms∈M8,gm 0 ms=true/\ms.length<=8:=by decide
theorem IS{r:Int}(h0:0<=r)(h7:r<7):∃ms,fR (M8.map λms=>D.tup (ms.map .int)) r=some (.tup (ms.map .int))/\gm 0 ms=true/\ms.length<=8:=by
 obtain⟨v,hv,hm⟩:=J7 (l:=M8.map λms=>D.tup (ms.map .int)) h0 (by simpa[M8] using h7);obtain⟨ms,h1,rfl⟩:=aQ.mp hm;exact⟨ms,hv,Sg ms h1⟩
section
variable{T:Nat->Option aW}{k d:Nat}{g:G}{Q:KD}{E:KX}
theorem ZD(h4:T 4=some E1)(Nk:T 22=some Z9)(D0:j4 g d)(h:∀c g',iF c->j4 g' d->Gr d g g'->Q c.d g'):d4 T (k+2) 22 [.ref d] g Q E:=by
 refine call_of Nk rfl ?_;dsimp[Z9,d8,List.replicate];have dl:=D0.lt;walk_at"";have D1:=D0.snoc (.lst (M8.map λms=>D.tup (ms.map .int)));have G1:=Gr.snoc d g (.lst (M8.map λms=>D.tup (ms.map .int)));have e1:(g++[O.lst (M8.map λms=>D.tup (ms.map .int))])[g.length]?=some (.lst (M8.map λms=>D.tup (ms.map .int))):=d0;show d4 _ _ _ _ (g++[O.lst (M8.map λms=>D.tup (ms.map .int))]) _ _;generalize g++[O.lst (M8.map λms=>D.tup (ms.map .int))]=g1 at *;refine i5 h4 D1 (by decide) (by decide) λr g2 r0 r1 D2 G2=>?_;walk_at"";have e2:=G2.at (by omega) e1;have hn:∃n:Int,fR [D.int 4,D.int 7] (if decide (r=0)=true then 1 else 0)=some (.int n)/\0<n/\n<=7:=by
  by_cases hr:r=0
  ·exact⟨7,by rw[aC hr];rfl,by decide,by decide⟩
  ·exact⟨4,by rw[aB hr];rfl,by decide,by decide⟩
 obtain⟨n,en,n0,n7⟩:=hn;refine E4 en ?_;walk_at"";refine i5 h4 D2 n0 (by omega) λr3 g3 qU sW D3 G3=>?_;have e3:=G3.at (by omega) e2;obtain⟨lm,el,gl,ll⟩:=IS qU (by omega);refine u6 (b0 e3) el ?_;walk_at"";refine i5 h4 D3 (by decide) (by decide) λr4 g4 vX yK D4 G4=>?_;have e4:=G4.at (by omega) e3;obtain⟨um,eu,gu,lu⟩:=IS vX (by omega);refine u6 (b0 e4) eu ?_;walk_at"";have e5:(g4++[O.lst [.int 0,.int 0,.int 1400,.int 1400,.int 1401,.int 1]])[g4.length]?=some (.lst [.int 0,.int 0,.int 1400,.int 1400,.int 1401,.int 1]):=d0;refine i5 h4 (D4.snoc _) (by decide) (by decide) λr5 g5 yJ yI D5 G5=>?_;have e6:=G5.at (by have:=D4.lt;omega) e5;obtain⟨v,hv,hm⟩:=J7 (l:=[D.int 0,.int 0,.int 1400,.int 1400,.int 1401,.int 1]) yJ (by simpa using yI);have hy:∃y:Int,v=.int y/\0<=y/\y<=9999:=by
  simp only[List.mem_cons,List.mem_nil_iff,or_false] at hm;rcases hm with rfl|rfl|rfl|rfl|rfl|rfl<;>exact⟨_,rfl,by decide,by decide⟩
 obtain⟨y,rfl,y0,y1⟩:=hy;refine u6 (b0 e6) hv ?_;walk_at"";refine i5 h4 D5 (by decide) (by decide) λr6 g6 DO DN D6 G6=>?_;walk_at"";refine i5 h4 D6 (by decide) (by decide) λr7 g7 r70 r71 D7 G7=>?_;walk_at"";exact h ⟨1+r6,lm,1+r7,um,y⟩ _ (iF.mk' (by omega) (by omega) (by omega) (by omega) y0 y1 gl gu ll lu) D7 (G1.trans (G2.trans (G3.trans (G4.trans ((Gr.snoc _ _ _).trans (G5.trans (G6.trans G7)))))))
noncomputable def BX(l:List D)(f:Int):Prop:=∃ns:List Int,l=ns.map .int/\∀n∈ns,1<=n/\n<f
theorem Yy(h4:T 4=some E1)(uy:T 23=some F1){a:Nat}{l:List D}{f v:Int}(ha:g[a]?=some (.lst l))(hl:l.length<1000)(hs:BX l f)(f1:1<=f)(hd:d<a)(D0:j4 g d)(h:∀(l':List D) (f':Int) g',l'≠[]->l'.length<=l.length+1->BX l' f'->f<=f'->f'<=f+1->g'[a]?=some (.lst l')->j4 g' d->(∀i,i≠d->i≠a->i<g.length->g'[i]?=g[i]?)->g.length<=g'.length->Q (.int f') g'):d4 T (k+2) 23 [.ref d,.ref a,.int f,.int v] g Q E:=by
 refine call_of uy rfl ?_;have dl:=D0.lt;obtain⟨ns,rfl,pQ⟩:=id hs;have app:∀g':G,g'[a]?=some (.lst (ns.map D.int))->j4 g' d->Gr d g g'->wpS (d4 T (k+1)) (.seq (.expr (.eA .append (.var 1) (.cons (.var 2) .nil))) (.seq (.ret (.prim (.bin .Add) (.cons (.var 2) (.cons (.lit (.int 1)) .nil)))) .pass)) ⟨λhU g1=>wpS (d4 T (k+1)) (i9 F1.body) ⟨λ_ g'=>Q .bD g',Q,λ_ _=>False,λ_ _=>False⟩ hU g1 E,Q,λ_ _=>False,λ_ _=>False⟩ [some (.ref d),some (.ref a),some (.int f),some (.int v)] g' E:=by
  intro g' e D1 G1;walk_at"";refine T9 e (by simp at hl ⊢;omega) ?_;walk_at"";refine h _ _ _ (by simp) (by simp) ⟨ns++[f],by simp,λn hn=>?_⟩ (by omega) (by omega) (get_set e) (D1.J5 hd) (λi h1 h2 h3=>?_) (by simp[G1.len])
  ·rcases aZ.mp hn with z|z
   ·have:=pQ n z;omega
   ·simp at z;omega
  ·rw[aw (bC h2)];exact G1.old i h1 h3
 have rest:∀g':G,g'[a]?=some (.lst (ns.map D.int))->ns≠[]->j4 g' d->Gr d g g'->wpS (d4 T (k+1)) (i9 F1.body) ⟨λ_ g'=>Q .bD g',Q,λ_ _=>False,λ_ _=>False⟩ [some (.ref d),some (.ref a),some (.int f),some (.int v)] g' E:=by
  intro g' e dw D1 G1;dsimp[F1,i9];walk_at"";refine i5 h4 D1 (by decide) (by decide) λr g2 r0 r1 D2 G2=>?_;have e2:=G2.at (by omega) e;have hlen:0<ns.length:=Dw.mpr dw;walk_at"";refine if2 (λc=>?_) (λc=>?_)
  ·walk_at"";rw[ag];refine i5 h4 D2 (by omega) (by simp at hl;omega) λr3 g3 qU sW D3 G3=>?_;have e3:=G3.at (by omega) e2;have hj:jW (ns.map D.int).length r3=some r3.toNat:=by
    unfold jW;rw[aF qU,aF (by rw[ag];exact sW)]
   refine T5 e3 hj ?_;walk_at"";refine h _ _ _ (by simp[dw]) (by simp) ⟨ns.set r3.toNat f,by simp,λn hn=>?_⟩ (by omega) (by omega) (get_set e3) (D3.J5 hd) (λi h1 h2 h3=>?_) (by simp[((G1.trans G2).trans G3).len])
   ·rcases nN hn with z|z
    ·have:=pQ n z;omega
    ·omega
   ·rw[aw (bC h2)];exact((G1.trans G2).trans G3).old i h1 h3
  ·walk_at"";exact h _ _ _ (by simp[dw]) (by simp) hs (by omega) (by omega) e2 D2 (λi h1 h2 h3=>(G1.trans G2).old i h1 h3) (G1.trans G2).len
 dsimp[F1,d8,List.replicate];walk_at"";refine if2 (λc=>?_) (λc=>?_)
 ·refine lU ?_;exact app g ha D0 (Gr.refl _ _)
 ·have dw:ns≠[]:=λz=>c (by rw[z];rfl);walk_at"";refine if2 (λc2=>?_) (λc2=>?_)
  ·walk_at"";refine i5 h4 D0 (by decide) (by decide) λr g2 r0 r1 D2 G2=>?_;walk_at"";refine if2 (λc3=>?_) (λc3=>?_)
   ·exact app g2 (G2.at (by omega) ha) D2 G2
   ·walk_at "w1";exact rest g2 (G2.at (by omega) ha) dw D2 G2
  ·walk_at "w1";walk_at "w1";exact rest g ha dw D0 (Gr.refl _ _)
end
noncomputable def F0:aW:=⟨3,17,(.seq (.set 3 (.prim .lst .nil)) (.seq (.set 4 (bg 1)) (.seq (.set 5 (.prim .nJ .nil)) (.seq (.set 6 (df (.prim .lst (fH (bg 0) (bg 1) (bg 1350))) (.call 4 (dc aL (bg 3))))) (.seq (.set 7 (bY (.bin .Add) (bg 1) (.call 4 (dc aL (bg 96))))) (.seq (.set 8 (bY (.bin .Add) (bg 2) (.call 4 (dc aL (bg 4))))) (.seq (.set 9 (bY .max (bg 0) (bY (.bin .Sub) (.call 4 (dc aL (bg 9))) (bg 6)))) (.seq (.set 10 (.prim .lst .nil)) (.seq (.dS (.one 11) (.fg bo) (.seq (.set 4 (.call 23 (pA aL bT cJ bh))) (.seq (.set 12 (bY .tup (df bT (.call 4 (dc aL (dF .len bT)))) (bY (.bin .Add) (bg 50) (.call 4 (dc aL (bY (.bin .Add) (bg 2) bh)))))) (.seq (.dS (.one 13) (.fB ki) (.seq (.ifs (dY .Eq (.call 4 (dc aL kJ)) (bg 0)) (.seq (.set 14 (.call 4 (dc aL (bg 8)))) (.seq (.dM eR tK (dF .tuple (.comp [13,14,5] 5 (.one 4) (.fg (bg 8)) (.jt (dY .Eq cJ bo) (dY .In cJ (.eA .get bh (dc aL (.prim .tup .nil))))) cJ))) .pass)) .pass) .pass)) (.seq (.ifs (dY .Eq (.call 4 (dc aL (bg 5))) (bg 0)) (.seq (.set 6 (bY .min (bg 9999) (bY (.bin .Add) (bY (.bin .Add) ff (bg 1)) (.call 4 (dc aL (bg 9)))))) .pass) .pass) (.seq (.set 15 (.comp [9,7] 4 (.one 3) (.fB ki) .no (bY (.bin .Add) (bY (.bin .Add) (bg 1) aL) (bY (.bin .Mod) (bY (.bin .Mult) bT bo) (bg 97))))) (.seq (.set 16 (bY (.bin .Mult) ff (dF .int (bY (.cmp .Gt) (.call 4 (dc aL (bg 4))) (bg 0))))) (.seq (.expr (.eA .append og (eZ (.prim .tup (vM (df nZ (bg 0)) (.eA .get eR (dc (df ki (bg 0)) (.prim .tup .nil))) (df nZ (bg 1)) (.eA .get eR (dc (df ki (bg 1)) (.prim .tup .nil))) tJ))))) .pass)))))))) (.seq (.ret og) .pass))))))))))⟩
noncomputable def nG(kvs:List (Key×D)):Prop:=∀k v,q9 kvs k=some v->∃ms:List Int,v=.tup (ms.map .int)/\gm 0 ms=true/\ms.length<=8
theorem Xx(kvs:List (Key×D))(k k':Key)(v:D):q9 (putD kvs k v) k'=if k'=k then some v else q9 kvs k':=by
 unfold putD;split
 ·rename_i pY;have go:∀l:List (Key×D),q9 (l.map λkv=>if kv.1=k then(kv.1,v) else kv) k'=if k'=k then(if(l.any λkv=>decide (kv.1=k))=true then some v else none) else q9 l k':=by
   intro l
   induction l with
   |nil=>simp[q9]
   |cons p r ih =>
    obtain⟨pk,pv⟩:=p;by_cases e:pk=k
    ·subst e;by_cases e2:k'=pk
     ·subst e2;simp[q9]
     ·have:¬pk=k':=λz=>e2 z.symm;unfold q9 at ih ⊢;simp[this,e2] at ih ⊢;exact ih
    ·by_cases e2:k'=k
     ·subst e2;unfold q9 at ih ⊢;rw[fb,show decide (pk=k')=false from aB e,pq];simp[e] at ih ⊢;exact ih
     ·unfold q9 at ih ⊢;simp only[List.map_cons,e,if_false,List.find?_cons];by_cases e3:pk=k'
      ·simp[e3,e2]
      ·simp[e3];simp[e2] at ih;simp[e2];exact ih
  rw[go,pY]
  rfl
 ·rename_i pY;unfold q9;rw[jQ];by_cases e:k'=k
  ·subst e;have:kvs.find? (λkv=>decide (kv.1=k'))=none:=by
    rw[jl];intro x hx hd;exact pY (bP.mpr ⟨x,hx,hd⟩)
   rw[this];simp
  ·have:¬k=k':=λz=>e z.symm;simp[this,e]
theorem a11(kvs:List (Key×D))(k:Key)(v:D):(putD kvs k v).length<=kvs.length+1:=by
 unfold putD;split<;>simp
theorem nG.put{kvs:List (Key×D)}{k:Key}{ms:List Int}(h:nG kvs)(h1:gm 0 ms=true)(h2:ms.length<=8):nG (putD kvs k (.tup (ms.map .int))):=λk' v hv=>by
 rw[Xx] at hv;split at hv
 ·cases hv;exact⟨ms,rfl,h1,h2⟩
 ·exact h k' v hv
theorem nG.get{kvs:List (Key×D)}(h:nG kvs)(k:Key):∃ms:List Int,(q9 kvs k).getD (.tup [])=.tup (ms.map .int)/\gm 0 ms=true/\ms.length<=8:=by
 cases e:q9 kvs k with
 |none=>exact⟨[],rfl,rfl,by simp⟩
 |some v=>obtain⟨ms,rfl,h1,h2⟩:=h k v e;exact⟨ms,rfl,h1,h2⟩
theorem XR(p:Int->Bool):gm 0 (((List.range 8).map λ(n:Nat)=>(n:Int)).filter p)=true/\(((List.range 8).map λ(n:Nat)=>(n:Int)).filter p).length<=8:=by
 refine⟨JG (List.Pairwise.filter _ (by decide)) λm hm=>?_,aG (cu _ _) (by decide)⟩;have:=(aO.mp hm).1;revert this;revert m;intro m _ hm;simp at hm;obtain⟨a,ha,rfl⟩:=hm;omega
theorem List.Xe{α:Type}{l:List α}{i:Nat}{x:α}(h:l[i]?=some x):l.set i x=l:=by
 apply eI;intro j;by_cases e:i=j
 ·subst e;rw[aR (aj.mp h).1];exact h.symm
 ·rw[aw e]
section
variable{T:Nat->Option aW}{k d:Nat}{g:G}{Q:KD}{E:KX}
noncomputable def GB:MS:=match F0.body with
 |.seq _ (.seq _ (.seq _ (.seq _ (.seq _ (.seq _ (.seq _ (.seq _ (.seq (.dS _ _ (.seq _ (.seq _ (.seq (.dS _ _ b) _)))) _))))))))=>b
 |x=>x
theorem TK(h4:T 4=some E1){w0:Nat}{key wr:Int}{kvs:List (Key×D)}{Z:S}{N:Ends}(hw:g[w0]?=some (.dC kvs))(W:nG kvs)(hk:kvs.length<1000)(hr:0<wr)(qZ:wr<1000)(hd:d<w0)(D0:j4 g d)(s0:Z[0]?=some (some (.ref d)))(s5:Z[5]?=some (some (.ref w0)))(s8:Z[8]?=some (some (.int wr)))(La:Z[13]?=some (some (.int key)))(sl:Z.length=17)(h:∀z ir g',g'[w0]?=some (.dC ir)->nG ir->ir.length<=kvs.length+1->j4 g' d->(∀i,i≠d->i≠w0->i<g.length->g'[i]?=g[i]?)->g.length<=g'.length->N.nx (Z.set 14 z) g'):wpS (d4 T (k+1)) GB N Z g E:=by
 obtain⟨kY,oI⟩:∃z,Z[14]?=some z:=⟨_,ai (by omega)⟩
 dsimp[GB,F0];refine vo (JW (JX (Gi (AU (vn (w_var s0 (vn (w_var s8 (Cs ?_)))))))));refine i5 h4 D0 hr (by omega) λr g2 r0 r1 D2 G2=>?_;have dl:=D0.lt;walk_at"";refine if2 (λc=>?_) (λc=>?_)
 ·refine Ct (xq (AU (vn (w_var s0 (vn (w_lit (Cs ?_)))))));refine i5 h4 D2 (by decide) (by decide) λr3 g3 qU sW D3 G3=>?_;have e3:=(G2.trans G3).at (by omega) hw;have t0:(Z.set 14 (some (.int r3)))[0]?=some (some (.ref d)):=by rw[aw (by decide)];exact s0
  have t5:(Z.set 14 (some (.int r3)))[5]?=some (some (.ref w0)):=by rw[aw (by decide)];exact s5
  have DE:(Z.set 14 (some (.int r3)))[13]?=some (some (.int key)):=by rw[aw (by decide)];exact La
  have KQ:(Z.set 14 (some (.int r3)))[14]?=some (some (.int r3)):=aR (by omega);obtain⟨ms,em,_,_⟩:=W.get (.inl key);refine vo (Jh (Gh ?_));refine ZA (b8 T _) (w_lit ⟨8,rfl,by decide,λi ys bN g'=>g'=g3/\ys.length<=i/\(∃z w,bN=[some (.int key),some (.int r3),some (.ref w0),z,w])/\ys=((((List.range i).map λ(n:Nat)=>(n:Int)).filter λs=>decide (s=r3)||ms.any λm=>m==s).map D.int),⟨rfl,by simp,⟨none,none,?_⟩,rfl⟩,λi ys Z g' p=>p.2.1,λi ys bN g' hi p=>?_,λys bN g' p=>?_⟩)
  ·simp[C4,DE,KQ,t5,List.replicate]
  ·obtain⟨rfl,hl,⟨z,w,rfl⟩,e⟩:=p;have er:(List.range (i+1)).map (λ(n:Nat)=>(n:Int))=(List.range i).map (λ(n:Nat)=>(n:Int))++[(i:Int)]:=by rw[dU];simp
   have yes:(decide ((i:Int)=r3)||ms.any λm=>m==(i:Int))=true->aK (d4 T (k+1)) (.var 4) [some (.int key),some (.int r3),some (.ref w0),z,some (.int i)] g' (λy g4=>g4=g'/\(ys++[y]).length<=i+1/\(∃z' w',[some (.int key),some (.int r3),some (.ref w0),z,some (D.int i)]=[some (.int key),some (.int r3),some (.ref w0),z',w'])/\(ys++[y])=((((List.range (i+1)).map λ(n:Nat)=>(n:Int)).filter λs=>decide (s=r3)||ms.any λm=>m==s).map D.int)) iC:=λhc=>by
    walk_at"";refine⟨rfl,by simp;omega,⟨_,_,rfl⟩,?_⟩;rw[er,dk,cE,<- e];simp[hc]
   show cA _ _ _ _ _ _;walk_at"";refine if2 (λc1=>?_) (λc1=>?_)
   ·refine lU ?_;exact yes (by rw[aC c1];rfl)
   ·walk_at"";refine Cg e3 (k:=.inl key) rfl ?_;rw[em];walk_at"";refine CW (GR ?_);walk_at"";cases hc:(ms.any λm=>m==(i:Int)) with
    |true =>
     refine lU ?_;exact yes (by rw[hc];simp)
    |false =>
     refine qz ?_;refine⟨rfl,by omega,⟨_,_,rfl⟩,?_⟩;rw[er,dk,cE,<- e];simp[hc,c1]
  ·obtain⟨rfl,hl,_,e⟩:=p;subst e;refine Oz (b0 d0) ?_;obtain⟨f1,f2⟩:=XR λs=>decide (s=r3)||ms.any λm=>m==s
   refine w_var t5 (w_var DE ?_);refine JO (m9 e3) (k:=.inl key) rfl (by omega) ?_;refine h _ _ _ (get_set (m9 e3)) (W.put f1 f2) (a11 _ _ _) ((D3.snoc _).J5 hd) (λi h1 h2 h3=>?_) ?_
   ·rw[aw (bC h2),aA (ax h3 (G2.trans G3).len)];exact(G2.trans G3).old i h1 h3
   ·have:=(G2.trans G3).len;simp;omega
 ·refine Q4 ?_;have e2:=G2.at (by omega) hw;have:=h kY kvs g2 e2 W (by omega) D2 (λi h1 h2 h3=>G2.old i h1 h3) G2.len
  rwa [List.Xe oI] at this
end
section
variable{T:Nat->Option aW}{k d:Nat}{g:G}{Q:KD}{E:KX}
noncomputable def K4:MS:=match F0.body with
 |.seq _ (.seq _ (.seq _ (.seq _ (.seq _ (.seq _ (.seq _ (.seq _ (.seq (.dS _ _ b) _))))))))=>b
 |x=>x
structure iB(d s0 w0 f0 i:Nat)(g:G)(f y:Int):Prop where
 DH:∃l,g[s0]?=some (.lst l)/\BX l f/\l.length<=i
 fr:1<=f/\f<=1+i
 Kz:∃kvs,g[w0]?=some (.dC kvs)/\nG kvs/\kvs.length<=2*i
 found:∃cs:List b7,g[f0]?=some (.lst (cs.map b7.d))/\cs.length=i/\∀c∈cs,iF c
 year:0<=y/\y<=9999
 dr:j4 g d
theorem ZU{s0 w0 f0 i n0:Nat}{n v f y st wr sh:Int}{vO Ky Kx Kw yu yt:Option D}(h4:T 4=some E1)(uy:T 23=some F1)(S:iB d s0 w0 f0 i g f y)(hi:i<=100)(hv:1<=v/\v<=100)(fq:1<=st/\st<=96)(Ei:0<wr/\wr<1000)(wm:0<=sh/\sh<=2)(o1:d<n0)(o2:n0<=s0)(o3:s0<w0)(o4:w0<f0){N:Ends}(h:∀f' y' sI mK kY sH sG g',iB d s0 w0 f0 (i+1) g' f' y'->(∀j,j≠d->j<n0->g'[j]?=g[j]?)->g.length<=g'.length->N.nx [some (.ref d),some (.int n),some (.int v),some (.ref s0),some (.int f'),some (.ref w0),some (.int y'),some (.int st),some (.int wr),some (.int sh),some (.ref f0),vO,sI,mK,kY,sH,sG] g') :
  wpS (d4 T (k+2)) K4 N [some (.ref d),some (.int n),some (.int v),some (.ref s0),some (.int f),some (.ref w0),some (.int y),some (.int st),some (.int wr),some (.int sh),some (.ref f0),vO,Ky,Kx,Kw,yu,yt] g E:=by
 obtain⟨⟨l,es,hs,hl⟩,⟨f1,f2⟩,⟨kvs,ew,W,hk⟩,⟨cs,ef,hc,hg⟩,⟨y0,y1⟩,D0⟩:=S;have lf:=k8 ef;dsimp[K4,F0];walk_at"";refine Yy h4 uy es (by omega) hs f1 (by omega) D0 λl1 f' g1 dw zC Ek f3 f5 fW D1 mZ LB=>?_;have Fi:g1[w0]?=some (.dC kvs):=(mZ w0 (by omega) (by omega) (k8 ew)).trans ew;have Fo:g1[f0]?=some (.lst (cs.map b7.d)):=(mZ f0 (by omega) (by omega) lf).trans ef;walk_at"";have Mp:0<l1.length:=Dw.mpr dw;refine i5 (n:=(l1.length:Int)) h4 D1 (by omega) (by omega) λr2 g2 vZ vY D2 G2=>?_;have mE:=G2.at (by omega) fW;have Fh:=G2.at (by omega) Fi;have Fn:=G2.at (by omega) Fo;obtain⟨x,hx,hm⟩:=J7 (l:=l1) vZ vY;obtain⟨ns,rfl,pQ⟩:=id Ek;obtain⟨k1,Mu,rfl⟩:=aQ.mp hm;refine u6 (b0 mE) hx ?_;walk_at"";refine i5 (n:=2+v) h4 D2 (by omega) (by omega) λr3 g3 qU sW D3 G3=>?_;have Ay:=G3.at (by omega) mE;have Fg:=G3.at (by omega) Fh;have AB:=G3.at (by omega) Fn;walk_at"";have kb1:=pQ k1 Mu;have tm:∀j,j≠d->j<n0->g3[j]?=g[j]?:=λj a b=>by
  have lj:j<g.length:=by omega
  rw[G3.old j a (by have:=G2.len;omega),G2.old j a (by omega),mZ j a (by omega) lj]
 have Lz:g.length<=g3.length:=by have:=G2.len;have:=G3.len;omega
 refine B6 (b8 T _) (wg (b8 T _) ?_);walk_at"";refine ⟨_,rfl,_,λj Z g'=>∃ ir mK kY,Z=[some (.ref d),some (.int n),some (.int v),some (.ref s0),some (.int f'),some (.ref w0),some (.int y),some (.int st),some (.int wr),some (.int sh),some (.ref f0),vO,some (.tup [.int k1,.int (50 + r3)]),mK,kY,yu,yt]/\g'[w0]?=some (.dC ir)/\nG ir/\ir.length <= 2 * i + j/\j4 g' d/\(∀ j,j ≠ d->j ≠ w0->j < g3.length->g'[j]?=g3[j]?)/\g3.length <= g'.length,
  λ_ _ _ _=>B0,⟨kvs,_,_,rfl,Fg,W,by omega,D3,λ_ _ _ _=>rfl,av _⟩,λj x Z g' hx p=>?_,λZ g' p=>?_⟩
 ·obtain⟨ir,mK,kY,rfl,NH,W',nr,D',yQ,LC⟩:=p;have jy:∃key:Int,x=.int key/\j<2:=by
   match j,hx with
   |0,hx=>cases hx;exact⟨_,rfl,by decide⟩
   |1,hx=>cases hx;exact⟨_,rfl,by decide⟩
   |j+2,hx=>simp at hx
  obtain⟨key,rfl,hj⟩:=jy;show wpS _ _ _ _ _ _;refine TK (k:=k+1) h4 NH W' (by omega) Ei.1 Ei.2 (by omega) D' rfl rfl rfl rfl rfl λz za g2' e2 W2 hk2 D2' pJ yX=>?_;exact⟨za,_,_,rfl,e2,W2,by omega,D2',λj a b c=>(pJ j a b (by omega)).trans (yQ j a b c),by omega⟩
 obtain⟨tL,mK,kY,rfl,NG,W4,zD,D4,mY,Ly⟩:=p;have NK:g'[s0]?=some (.lst (ns.map D.int)):=(mY s0 (by omega) (by omega) (k8 Ay)).trans Ay;have NM:g'[f0]?=some (.lst (cs.map b7.d)):=(mY f0 (by omega) (by omega) (k8 AB)).trans AB;have tj:∀j,j≠d->j<n0->g'[j]?=g[j]?:=λj a b=>(mY j a (by omega) (by omega)).trans (tm j a b);clear mY tm G2 G3 fW Fi Fo mE Fh Fn Ay Fg AB mZ;have zD:tL.length<=2*(i+1):=by simp at zD;omega
 show wpS _ _ _ _ _ _;walk_at"";refine i5 h4 D4 (by decide) (by decide) λr5 g5 yJ yI D5 G5=>?_;walk_at"";have tail:∀(y':Int) (g6:G),0<=y'->y'<=9999->j4 g6 d->Gr d g' g6->wpS (d4 T (k+2)) (i9 (i9 (i9 (i9 K4)))) N [some (.ref d),some (.int n),some (.int v),some (.ref s0),some (.int f'),some (.ref w0),some (.int y'),some (.int st),some (.int wr),some (.int sh),some (.ref f0),vO,some (.tup [.int k1,.int (50+r3)]),mK,kY,yu,yt] g6 E:=by
  intro y' g6 Kv Ku D6 G6;have NJ:=G6.at (by omega) NK;have ND:=G6.at (by omega) NG;have wN:=G6.at (by omega) NM;dsimp[K4,F0,i9];walk_at"";refine ZC (b8 T _) ?_;walk_at"";refine⟨_,rfl,by simp,λj ys Z g7=>g7=g6/\(∃z w,Z=[some (.int sh),some (.int st),z,w])/\ys=([k1,50+r3].take j).map (λkey=>D.int (1+sh+key*st % 97)),⟨rfl,⟨none,none,rfl⟩,rfl⟩,λj ys Z g7 p=>?_,λj x ys Z g7 hx p=>?_,λys Z g7 p=>?_⟩
  ·obtain⟨rfl,_,rfl⟩:=p;simp;omega
  ·obtain⟨rfl,⟨z,w,rfl⟩,rfl⟩:=p;have jy:∃key:Int,x=.int key/\([k1,50+r3].take j).map (λkey=>D.int (1+sh+key*st % 97))++[D.int (1+sh+key*st % 97)]=([k1,50+r3].take (j+1)).map (λkey=>D.int (1+sh+key*st % 97)):=by
    match j,hx with
    |0,hx=>cases hx;exact⟨_,rfl,rfl⟩
    |1,hx=>cases hx;exact⟨_,rfl,rfl⟩
    |j+2,hx=>simp at hx
   obtain⟨key,rfl,he⟩:=jy;show cA _ _ _ _ _ _;walk_at"";refine P5 (Y0 (by omega) (by omega)) ?_;walk_at"";exact⟨rfl,⟨_,_,rfl⟩,he⟩
  obtain⟨rfl,_,rfl⟩:=p;have eN:(g7++[O.lst [D.int (1+sh+k1*st % 97),D.int (1+sh+(50+r3)*st % 97)]])[g7.length]?=some (.lst [D.int (1+sh+k1*st % 97),D.int (1+sh+(50+r3)*st % 97)]):=d0;show wpS _ _ _ _ (g7++[O.lst [D.int (1+sh+k1*st % 97),D.int (1+sh+(50+r3)*st % 97)]]) _;walk_at"";refine i5 h4 (D6.snoc _) (by decide) (by decide) λr8 g8 r80 r81 D8 G8=>?_;have l7:=D6.lt;have eN8:=G8.at (by omega) eN;have NI:=G8.at (by omega) (m9 NJ);have Ax:=G8.at (by omega) (m9 ND);have Fm:=G8.at (by omega) (m9 wN);walk_at"";refine P5 (CD (by omega) (by omega)) ?_;walk_at"";obtain⟨lm,el,gl,ll⟩:=W4.get (.inl k1);obtain⟨um,eu,gu,lu⟩:=W4.get (.inl (50+r3));refine Cg Ax (k:=.inl k1) rfl ?_;rw[el];walk_at"";refine Cg Ax (k:=.inl (50+r3)) rfl ?_;rw[eu];walk_at"";refine T9 Fm (by simp;omega) ?_;generalize ni:y'*(if decide (0<r8)=true then 1 else 0)=ty;have DB:0<=ty/\ty<=9999:=by
   rw[<- ni];split<;>simp<;>omega
  walk_at"";refine h f' y' _ _ _ _ _ _ ⟨⟨_,f9 NI (by omega),Ek,by omega⟩,⟨by omega,by omega⟩,⟨tL,f9 Ax (by omega),W4,zD⟩,⟨cs++[⟨1+sh+k1*st % 97,lm,1+sh+(50+r3)*st % 97,um,ty⟩],?_,by simp[hc],?_⟩,⟨Kv,Ku⟩,D8.J5 (by omega)⟩ (λj a b=>?_) ?_
  ·rw[get_set Fm];simp[b7.d]
  ·intro c ja;rcases aZ.mp ja with z|z
   ·exact hg c z
   ·simp at z;subst z;have m1:=dX (k1*st) (show(97:Int)≠0 by decide);have m2:=dn (k1*st) (show(0:Int)<97 by decide);have m3:=dX ((50+r3)*st) (show(97:Int)≠0 by decide);have m4:=dn ((50+r3)*st) (show(0:Int)<97 by decide);exact iF.mk' (by omega) (by omega) (by omega) (by omega) DB.1 DB.2 gl gu ll lu
  ·have lj:j<g'.length:=by omega
   rw[aw (by omega),G8.old j a (by have:=G6.len;simp;omega),aA (by have:=G6.len;omega),G6.old j a lj];exact tj j a b
  ·have:=G6.len;have:=G8.len;simp at this ⊢;omega
 refine if2 (λc=>?_) (λc=>?_)
 ·walk_at"";refine i5 h4 D5 (by decide) (by decide) λr6 g6 DO DN D6 G6=>?_;walk_at"";generalize zf:(if y+1+r6<9999 then y+1+r6 else 9999)=y';have:0<=y'/\y'<=9999:=by rw[<- zf];split<;>omega
  exact tail y' g6 this.1 this.2 D6 (G5.trans G6)
 ·refine Q4 ?_;exact tail y g5 y0 y1 D5 G5
theorem YB(h4:T 4=some E1)(uy:T 23=some F1)(Nj:T 24=some F0){n v:Int}(hn:0<=n/\n<=100)(hv:1<=v/\v<=100)(D0:j4 g d)(h:∀(cs:List b7) a g',(cs.length:Int)=n->(∀c∈cs,iF c)->g'[a]?=some (.lst (cs.map b7.d))->g.length<=a->j4 g' d->Gr d g g'->Q (.ref a) g'):d4 T (k+3) 24 [.ref d,.int n,.int v] g Q E:=by
 refine call_of Nj rfl ?_;dsimp[F0,d8,List.replicate];have dl:=D0.lt;walk_at"";have D1:j4 (g++[O.lst []]++[O.dC []]++[O.lst [.int 0,.int 1,.int 1350]]) d:=((D0.snoc _).snoc _).snoc _;have G1:Gr d g (g++[O.lst []]++[O.dC []]++[O.lst [.int 0,.int 1,.int 1350]]):=((Gr.snoc _ _ _).trans (Gr.snoc _ _ _)).trans (Gr.snoc _ _ _);have e0:(g++[O.lst []]++[O.dC []]++[O.lst [.int 0,.int 1,.int 1350]])[g.length]?=some (.lst []):=m9 (m9 d0);have e1:(g++[O.lst []]++[O.dC []]++[O.lst [.int 0,.int 1,.int 1350]])[(g++[O.lst []]).length]?=some (.dC []):=m9 d0;have e2:(g++[O.lst []]++[O.dC []]++[O.lst [.int 0,.int 1,.int 1350]])[(g++[O.lst []]++[O.dC []]).length]?=some (.lst [.int 0,.int 1,.int 1350]):=d0;have n1:(g++[O.lst []]).length=g.length+1:=by simp
 have n2:(g++[O.lst []]++[O.dC []]).length=g.length+2:=by simp
 rw[n1] at e1 ⊢;rw[n2] at e2 ⊢;generalize g++[O.lst []]++[O.dC []]++[O.lst [.int 0,.int 1,.int 1350]]=g1 at *;refine i5 h4 D1 (by decide) (by decide) λr2 g2 vZ vY D2 G2=>?_;have NR:=G2.at (by omega) e0;have kR:=G2.at (by omega) e1;have NO:=G2.at (by omega) e2;obtain⟨x,hx,hm⟩:=J7 (l:=[D.int 0,.int 1,.int 1350]) vZ (by simpa using vY);have hy:∃y:Int,x=.int y/\0<=y/\y<=9999:=by
  simp only[List.mem_cons,List.mem_nil_iff,or_false] at hm;rcases hm with rfl|rfl|rfl<;>exact⟨_,rfl,by decide,by decide⟩
 obtain⟨y,rfl,y0,y1⟩:=hy;refine u6 (b0 NO) hx ?_;walk_at"";refine i5 h4 D2 (by decide) (by decide) λr3 g3 qU sW D3 G3=>?_;walk_at"";refine i5 h4 D3 (by decide) (by decide) λr4 g4 vX yK D4 G4=>?_;walk_at"";refine i5 h4 D4 (by decide) (by decide) λr5 g5 yJ yI D5 G5=>?_;have ye:=G3.trans (G4.trans G5);have NQ:=ye.at (by omega) NR;have qm:=ye.at (by omega) kR;have l5:=(G1.trans (G2.trans ye)).len;have lw:=k8 qm;walk_at"";generalize wm:(if r5-6>0 then r5-6 else 0)=sh;have KY:0<=sh/\sh<=2:=by rw[<- wm];split<;>omega
 have wQ:(g5++[O.lst []])[g5.length]?=some (.lst []):=d0;refine B6 (b8 T _) (qx (b8 T _) ?_);walk_at"";refine ⟨by omega,by omega,l6 0 n.toNat,λi Z g'=>∃ f' y' yn sI mK kY sH sG,Z=[some (.ref d),some (.int n),some (.int v),some (.ref g.length),some (.int f'),some (.ref (g.length + 1)),some (.int y'),some (.int (1 + r3)),some (.int (2 + r4)),some (.int sh),some (.ref g5.length),yn,sI,mK,kY,sH,sG]/\iB d g.length (g.length + 1) g5.length i g' f' y'/\Gr d g g',
  λ_ _ _ _=>B0,⟨1,y,none,none,none,none,none,none,rfl,⟨⟨[],m9 NQ,⟨[],rfl,by simp⟩,by simp⟩,⟨by omega,by omega⟩,⟨[],m9 qm,(λk v hv=>by cases hv),by simp⟩,⟨[],wQ,rfl,by simp⟩,⟨y0,y1⟩,D5.snoc _⟩,(G1.trans (G2.trans ye)).trans (Gr.snoc _ _ _)⟩,λi x Z g' hx p=>?_,λZ g' p=>?_⟩
 ·obtain⟨f',y',yn,sI,mK,kY,sH,sG,rfl,S,G'⟩:=p;obtain⟨hi,rfl⟩:=J8 hx;show wpS _ K4 _ _ _ _;refine ZU (n0:=g.length) h4 uy S (by omega) hv ⟨by omega,by omega⟩ ⟨by omega,by omega⟩ KY dl (av _) (by omega) (by omega) λf2 y2 a b c e f g2 S2 pJ yX=>?_;exact⟨f2,y2,_,_,_,_,_,_,rfl,S2,⟨by have:=G'.len;omega,λj h1 h2=>(pJ j h1 h2).trans (G'.old j h1 h2)⟩⟩
 ·obtain⟨f',y',yn,sI,mK,kY,sH,sG,rfl,S,G'⟩:=p;show wpS _ _ _ _ _ _;walk_at"";obtain⟨cs,ef,hc,hg⟩:=S.found;rw[o6] at hc;exact h cs _ _ (by omega) hg ef (by omega) S.dr G'
end
noncomputable def xJ:aW:=⟨2,8,(.seq (.set 2 (bY .jx (bg 1) (bY (.bin .Add) (bY (.bin .Add) (bY (.bin .FloorDiv) bo (bg 2)) (bY (.bin .Mod) bo (bg 2))) (bg 1)))) (.seq (.set 3 (bY (.bin .Add) bh (bY (.kf false true) (.call 21 (dc aL bh)) (bY (.bin .FloorDiv) bo (bg 2))))) (.seq (.set 4 (.call 4 (dc aL (bg 3)))) (.seq (.set 5 (.prim .lst .nil)) (.seq (.dS (.one 6) (.fg bo) (.seq (.set 7 (df (.prim .lst (fH (bY (.bin .Add) (bg 1000) ff) (bg 0) (bY (.bin .Add) (bg 1) (bY (.bin .FloorDiv) (bY (.bin .Mult) (bg 2) ff) (bY .max (bg 1) bo))))) cJ)) (.seq (.expr (.eA .append eR (eZ (.prim .tup (vM (df bT ff) (.prim .tup .nil) (bY (.bin .Add) (bg 1) (.call 4 (dc aL (bg 9)))) (.prim .tup .nil) iX))))) .pass))) (.seq (.ret eR) .pass))))))⟩
noncomputable def P1:aW:=⟨2,9,(.seq (.set 2 (.call 4 (dc aL (bY (.bin .Add) bo (bg 1))))) (.seq (.set 3 (bY (.bin .Add) (bg 1) (.call 4 (dc aL (bg 3))))) (.seq (.set 4 (.call 4 (dc aL (bg 5)))) (.seq (.ifs (dY .Eq cJ (bg 0)) (.seq (.ret (bY .tup (.comp [0] 3 (.one 2) (.fg bh) .no (.call 22 (eZ aL))) bT)) .pass) .pass) (.seq (.ifs (dY .Eq cJ (bg 4)) (.seq (.set 3 (bY (.bin .Add) (bg 1) (.call 4 (dc aL (bg 6))))) .pass) .pass) (.seq (.set 5 (.ite (dY .Eq cJ (bg 4)) (.call 25 (dc aL bh)) (.call 24 (fH aL bh bT)))) (.seq (.set 5 (.comp [5] 3 (.one 2) (.fB (.call 21 (dc aL (dF .iP bh)))) .no (df aL bh))) (.seq (.ifs (.dG (dY .Eq cJ (bg 1)) (dY .Gt bh (bg 0))) (.seq (.set 6 (.call 4 (dc aL bh))) (.seq (.set 7 (df eR ff)) (.seq (.set 8 (df eR (.call 4 (dc aL bh)))) (.seq (.dM eR ff (.prim .tup (vM (df iX (bg 0)) (df kJ (bg 1)) (df kJ (bg 2)) (df iX (bg 3)) (df (.prim .lst (fH (df iX (bg 4)) (df kJ (bg 4)) (bg 9999))) (.call 4 (dc aL (bg 3))))))) .pass)))) .pass) (.seq (.ifs (dY .Eq cJ (bg 2)) (.seq (.set 3 (bg 1)) .pass) .pass) (.seq (.ret (bY .tup eR bT)) .pass))))))))))⟩
theorem IM{p:Int->Prop}:∀{l:List D},(∀x∈l,∃i:Int,x=.int i/\p i)->∃ns:List Int,l=ns.map .int/\∀i∈ns,p i
 |[],_=>⟨[],rfl,by simp⟩
 |x::r,h=>by
  obtain⟨i,rfl,hi⟩:=h x (by simp);obtain⟨ns,rfl,hn⟩:=IM (l:=r) λy hy=>h y (by simp[hy]);exact⟨i::ns,rfl,λj hj=>(aH.mp hj).elim (λz=>z▸hi) (hn j)⟩
theorem Jb{lo:Int}{n:Nat}{x:D}(h:x∈l6 lo n):∃i:Int,x=.int i/\lo<=i/\i<lo+n:=by
 unfold l6 at h;obtain⟨k,hk,rfl⟩:=aQ.mp h;exact⟨_,rfl,by omega,by have:=aJ.mp hk;omega⟩
theorem CG{α:Type}{l:List α}{n:Nat}(h:n<=l.length):cut l none (some (n:Int))=l.take n:=by
 have:¬((n:Int)<0):=by omega
 unfold cut HT.de;simp[this]
theorem RE{ns:List Int}{r:Int}(h0:0<=r)(h1:r<ns.length):∃i∈ns,fR (ns.map D.int) r=some (.int i):=by
 obtain⟨v,hv,hm⟩:=J7 (l:=ns.map D.int) h0 (by simpa using h1);obtain⟨i,hi,rfl⟩:=aQ.mp hm;exact⟨i,hi,hv⟩
theorem Bs{cs:List b7}{r:Int}(h0:0<=r)(h1:r<cs.length):∃c∈cs,fR (cs.map b7.d) r=some c.d:=by
 obtain⟨v,hv,hm⟩:=J7 (l:=cs.map b7.d) h0 (by simpa using h1);obtain⟨i,hi,rfl⟩:=aQ.mp hm;exact⟨i,hi,hv⟩
section
variable{T:Nat->Option aW}{k d:Nat}{g:G}{Q:KD}{E:KX}
theorem Yj(h4:T 4=some E1)(Af:T 21=some R6)(Ni:T 25=some xJ){n:Int}(hn:0<=n/\n<=100)(D0:j4 g d)(h:∀(cs:List b7) a g',(cs.length:Int)=n->(∀c∈cs,iF c)->g'[a]?=some (.lst (cs.map b7.d))->g.length<=a->j4 g' d->Gr d g g'->Q (.ref a) g'):d4 T (k+3) 25 [.ref d,.int n] g Q E:=by
 refine call_of Ni rfl ?_;dsimp[xJ,d8,List.replicate];have dl:=D0.lt;walk_at"";refine Lx (i:=1) (j:=n / 2+n % 2+1) (by omega) ?_;walk_at"";have hh:∃hf:Nat,(n / 2+n % 2+1-1).toNat=hf/\(hf:Int)=n / 2+n % 2/\hf<=50:=⟨_,rfl,by omega,by omega⟩
 obtain⟨hf,My,hh2,hh3⟩:=hh;rw[My];have e1:(g++[O.lst (l6 1 hf)])[g.length]?=some (.lst (l6 1 hf)):=d0;refine HM h4 Af e1 (by rw[o6];omega) (by omega) (D0.snoc _) λl' b g2 hp e2 hb D2 G2=>?_;have kR:=G2.at (by omega) e1;walk_at"";refine xB (b0 e2) ?_;have hle:l'.length=hf:=by rw[hp.length_eq,o6]
 have hc:cut l' none (some (n / 2))=l'.take (n / 2).toNat:=by
  have:=CG (l:=l') (n:=(n / 2).toNat) (by omega)
  rwa [show(((n / 2).toNat:Nat):Int)=n / 2 by omega] at this
 rw[hc];refine xa (m9 kR) d0 (by rw[o6,cX];omega) ?_;obtain⟨rl,er,hr⟩:=IM (p:=λi=>1<=i/\i<=50) (l:=l6 1 hf++l'.take (n / 2).toNat) λx hx=>by
  have nh:x∈l6 1 hf:=by
   rcases aZ.mp hx with z|z
   ·exact z
   ·exact hp.mem_iff.mp (iK z)
  obtain⟨i,rfl,h1,h2⟩:=Jb nh;exact⟨i,rfl,h1,by omega⟩
 have Em:(rl.length:Int)=n:=by
  have:=fI List.length er;rw[bc,o6,cX,ag] at this;omega
 rw[er];have D3:=(D2.snoc (.lst (l'.take (n / 2).toNat))).snoc (.lst (rl.map D.int));have G3:=(Gr.snoc d g (.lst (l6 1 hf))).trans (G2.trans ((Gr.snoc d g2 (.lst (l'.take (n / 2).toNat))).trans (Gr.snoc d _ (.lst (rl.map D.int)))));have e3:(g2++[O.lst (l'.take (n / 2).toNat)]++[O.lst (rl.map D.int)])[(g2++[O.lst (l'.take (n / 2).toNat)]).length]?=some (.lst (rl.map D.int)):=d0;have l3:g.length+1<=(g2++[O.lst (l'.take (n / 2).toNat)]).length:=by have:=G2.len;simp at this ⊢;omega
 generalize (g2++[O.lst (l'.take (n / 2).toNat)]).length=DJ at *;generalize g2++[O.lst (l'.take (n / 2).toNat)]++[O.lst (rl.map D.int)]=g3 at *;walk_at"";refine i5 h4 D3 (by decide) (by decide) λr4 g4 vX yK D4 G4=>?_;have e4:=G4.at (by omega) e3;walk_at"";have Kg:=G3.trans G4;have l4:=Kg.len;have e5:(g4++[O.lst []])[g4.length]?=some (.lst ([].map b7.d)):=d0;have lr4:=k8 e4;refine B6 (b8 T _) (qx (b8 T _) ?_);walk_at"";refine ⟨by omega,by omega,l6 0 n.toNat,λi Z g'=>∃ cs z6 z7,Z=[some (.ref d),some (.int n),some (.ref g.length),some (.ref DJ),some (.int r4),some (.ref g4.length),z6,z7]/\cs.length=i/\(∀ c ∈ cs,iF c)/\g'[g4.length]?=some (.lst (cs.map b7.d))/\g'[DJ]?=some (.lst (rl.map D.int))/\j4 g' d/\Gr d g g',
  λ_ _ _ _=>B0,⟨[],none,none,rfl,rfl,by simp,e5,m9 e4,D4.snoc _,Kg.trans (Gr.snoc _ _ _)⟩,λi x Z g' hx p=>?_,λZ g' p=>?_⟩
 ·obtain⟨cs,z6,z7,rfl,hc,hg,ef,erw,D',G'⟩:=p;obtain⟨hi,rfl⟩:=J8 hx;show wpS _ _ _ _ _ _;walk_at"";refine P5 (CD (by decide) (by decide)) ?_;walk_at"";refine wZ ⟨by split<;>omega,by split<;>omega⟩ ?_;walk_at"";obtain⟨yv,hy,Eg⟩:∃yv:Int,fR [D.int (1000+(0+(i:Int))),D.int 0,D.int (1+2*(0+(i:Int)) / (if n>1 then n else 1))] r4=some (.int yv)/\0<=yv/\yv<=9999:=by
   have dv0:0<=2*(0+(i:Int)) / (if n>1 then n else 1):=Int.ediv_nonneg (by omega) (by split<;>omega);have dv1:2*(0+(i:Int)) / (if n>1 then n else 1)<=2*(0+(i:Int)):=Int.ediv_le_self _ (by omega);have:r4=0\/r4=1\/r4=2:=by omega
   rcases this with rfl|rfl|rfl
   ·exact⟨_,rfl,by omega,by omega⟩
   ·exact⟨_,rfl,by omega,by omega⟩
   ·exact⟨_,rfl,by omega,by omega⟩
  refine u6 (b0 d0) hy ?_;walk_at"";obtain⟨lo,Es,zx⟩:=RE (ns:=rl) (r:=0+(i:Int)) (by omega) (by omega);have lf:=k8 ef;refine And.intro (vk (m9 ef)) ?_;walk_at"";refine u6 (b0 (m9 erw)) zx ?_;walk_at"";refine i5 h4 (D'.snoc _) (by decide) (by decide) λr6 g6 DO DN D6 G6=>?_;have wN:=G6.at (by omega) (m9 ef);have NL:=G6.at (by omega) (m9 erw);walk_at"";refine T9 wN (by simp;omega) ?_;walk_at"";have hlb:=hr lo Es;refine⟨cs++[⟨lo,[],1+r6,[],yv⟩],_,_,rfl,by simp[hc],?_,?_,f9 NL (by omega),D6.J5 (by omega),(G'.trans ((Gr.snoc _ _ _).trans G6)).J5 (by omega)⟩
  ·intro c ja;rcases aZ.mp ja with z|z
   ·exact hg c z
   ·simp at z;subst z;exact iF.mk' (by omega) (by omega) (by omega) (by omega) Eg.1 Eg.2 rfl rfl (by simp) (by simp)
  ·rw[get_set wN];simp[b7.d]
 ·obtain⟨cs,z6,z7,rfl,hc,hg,ef,erw,D',G'⟩:=p;show wpS _ _ _ _ _ _;walk_at"";rw[o6] at hc;exact h cs _ _ (by omega) hg ef (by omega) D' G'
end
section
variable{T:Nat->Option aW}{k d:Nat}{g:G}{Q:KD}{E:KX}
structure LF(T:Nat->Option aW):Prop where
 pull:T 4=some E1
 order:T 21=some R6
 any:T 22=some Z9
 pE:T 23=some F1
 pC:T 24=some F0
 opened:T 25=some xJ
 list:T 26=some P1
theorem Y'(hT:LF T){n:Int}(hn:0<=n/\n<=99)(D0:j4 g d)(h:∀(cs:List b7) a (v:Int) g',(cs.length:Int)<=n->(∀c∈cs,iF c)->g'[a]?=some (.lst (cs.map b7.d))->g.length<=a->1<=v->v<=6->j4 g' d->Gr d g g'->Q (.tup [.ref a,.int v]) g'):d4 T (k+4) 26 [.ref d,.int n] g Q E:=by
 refine call_of hT.list rfl ?_;dsimp[P1,d8,List.replicate];have dl:=D0.lt;walk_at"";refine i5 (n:=n+1) hT.pull D0 (by omega) (by omega) λm g1 m0 m1 D1 G1=>?_;walk_at"";refine i5 hT.pull D1 (by decide) (by decide) λr2 g2 vZ vY D2 G2=>?_;walk_at"";refine i5 hT.pull D2 (by decide) (by decide) λway g3 w0 w1 D3 G3=>?_;have yf:=G1.trans (G2.trans G3);have l3:=yf.len;walk_at"";refine if2 (λc=>?_) (λc=>?_)
 ·walk_at"";refine G0 (b8 T _) (qx (b8 T _) ?_);walk_at"";refine⟨by omega,by omega,l6 0 m.toNat,λi ys Z g'=>∃cs z1 z2,ys=cs.map b7.d/\cs.length=i/\(∀c∈cs,iF c)/\Z=[some (.ref d),z1,z2]/\j4 g' d/\Gr d g g',by rw[o6];omega,λi ys Z g' p=>⟨B0,?_⟩,⟨[],none,none,rfl,rfl,by simp,rfl,D3,yf⟩,λi x ys Z g' hx p=>?_,λys Z g' p=>?_⟩
  ·obtain⟨cs,z1,z2,rfl,hc,_⟩:=p;simp[hc]
  ·obtain⟨cs,z1,z2,rfl,hc,hg,rfl,D',G'⟩:=p;show cA _ _ _ _ _ _;walk_at"";refine ZD hT.pull hT.any D' λc0 g4 gc D4 G4=>?_;refine⟨cs++[c0],_,_,by simp,by simp[hc],λc1 pV=>?_,rfl,D4,G'.trans G4⟩;rcases aZ.mp pV with z|z
   ·exact hg c1 z
   ·simp at z;subst z;exact gc
  ·obtain⟨cs,z1,z2,rfl,hc,hg,rfl,D',G'⟩:=p;rw[o6] at hc;walk_at"";exact h cs _ _ _ (by omega) hg d0 G'.len (by omega) (by omega) (D'.snoc _) (G'.trans (Gr.snoc _ _ _))
 have tail:∀(v:Int) (g4:G),1<=v->v<=6->j4 g4 d->Gr d g g4->wpS (d4 T (k+3)) (i9 (i9 (i9 (i9 (i9 P1.body))))) ⟨λ_ g'=>Q .bD g',Q,λ_ _=>False,λ_ _=>False⟩ [some (.ref d),some (.int n),some (.int m),some (.int v),some (.int way),none,none,none,none] g4 E:=by
  intro v g4 v0 v1 D4 G4;dsimp[P1,i9];have after:∀(cs:List b7) a g5,(cs.length:Int)=m->(∀c∈cs,iF c)->g5[a]?=some (.lst (cs.map b7.d))->g4.length<=a->j4 g5 d->Gr d g4 g5->wpS (d4 T (k+3)) (i9 (i9 (i9 (i9 (i9 (i9 P1.body)))))) ⟨λ_ g'=>Q .bD g',Q,λ_ _=>False,λ_ _=>False⟩ [some (.ref d),some (.int n),some (.int m),some (.int v),some (.int way),some (.ref a),none,none,none] g5 E:=by
   intro cs a g5 hc hg ea la D5 G5;have Kf:=G4.trans G5;have l4:=G4.len;dsimp[P1,i9];walk_at"";refine G0 (b8 T _) (lV (b8 T _) ?_);walk_at"";refine Ea (by omega) (by omega) ?_;walk_at"";have e6:(g5++[O.lst (l6 0 m.toNat)])[g5.length]?=some (.lst (l6 0 m.toNat)):=d0;have l5:=D5.lt;refine HM hT.pull hT.order e6 (by rw[o6];omega) (by omega) (D5.snoc _) λl' b g7 hp eb lb D7 G7=>?_;have NN:=G7.at (by omega) (m9 ea);have Eu:l'.length=m.toNat:=by rw[hp.length_eq,o6]
   refine⟨b,l',rfl,b0 eb,l',λi ys Z g'=>∃iA z1 z2,ys=iA.map b7.d/\iA.length=i/\(∀c∈iA,iF c)/\Z=[some (.ref a),z1,z2]/\g'=g7,by omega,λi ys Z g' p=>?_,⟨[],none,none,rfl,rfl,by simp,rfl,rfl⟩,λi x ys Z g' hx p=>?_,λys Z g' p=>?_⟩
   ·obtain⟨iA,z1,z2,rfl,ja,_,_,rfl⟩:=p;exact⟨u7 (b0 eb),by simp[ja]⟩
   ·obtain⟨iA,z1,z2,rfl,ja,nt,rfl,rfl⟩:=p;obtain⟨j,rfl,j0,j1⟩:=Jb (hp.mem_iff.mp (aP hx));show cA _ _ _ _ _ _;walk_at"";obtain⟨c0,pW,e0⟩:=Bs (cs:=cs) j0 (by omega);refine u6 (b0 NN) e0 ?_;refine⟨iA++[c0],_,_,by simp,by simp[ja],λc1 pV=>?_,rfl,rfl⟩;rcases aZ.mp pV with z|z
    ·exact nt c1 z
    ·simp at z;subst z;exact hg c1 pW
   ·obtain⟨iA,z1,z2,rfl,ja,nt,rfl,rfl⟩:=p;have e8:(g'++[O.lst (iA.map b7.d)])[g'.length]?=some (.lst (iA.map b7.d)):=d0;have D8:=D7.snoc (.lst (iA.map b7.d));have G8:=(Kf.trans ((Gr.snoc d g5 (.lst (l6 0 m.toNat))).trans G7)).trans (Gr.snoc d g' (.lst (iA.map b7.d)));have l8:g.length<=g'.length:=(Kf.trans ((Gr.snoc d g5 (.lst (l6 0 m.toNat))).trans G7)).len;have fin:∀(rF:List b7) z6 z7 z8 g9,(rF.length:Int)=m->(∀c∈rF,iF c)->g9[g'.length]?=some (.lst (rF.map b7.d))->j4 g9 d->Gr d g g9->wpS (d4 T (k+3)) (i9 (i9 (i9 (i9 (i9 (i9 (i9 (i9 P1.body)))))))) ⟨λ_ g'=>Q .bD g',Q,λ_ _=>False,λ_ _=>False⟩ [some (.ref d),some (.int n),some (.int m),some (.int v),some (.int way),some (.ref g'.length),z6,z7,z8] g9 E:=by
     intro rF z6 z7 z8 g9 mx EB e9 D9 G9;dsimp[P1,i9];walk_at"";refine if2 (λc=>?_) (λc=>?_)
     ·walk_at"";exact h rF _ _ _ (by omega) EB e9 l8 (by omega) (by omega) D9 G9
     ·walk_at"";exact h rF _ _ _ (by omega) EB e9 l8 v0 v1 D9 G9
    show wpS _ _ _ _ (g'++[O.lst (iA.map b7.d)]) _;have rg:(iA.length:Int)=m:=by omega
    have l7':=D7.lt;generalize hg8:g'++[O.lst (iA.map b7.d)]=g8 at *;walk_at"";refine if2 (λc1=>?_) (λc1=>?_)
    ·walk_at"";refine if2 (λc2=>?_) (λc2=>?_)
     ·walk_at"";refine i5 (n:=m) hT.pull D8 c2 (by omega) λr g9 r0 r1 D9 G9=>?_;have e9:=G9.at (by omega) e8;obtain⟨c0,pW,e0⟩:=Bs (cs:=iA) r0 (by omega);walk_at"";refine u6 (b0 e9) e0 ?_;walk_at"";refine i5 (n:=m) hT.pull D9 c2 (by omega) λr' Fd Lg r1' Kh Ke=>?_;have qo:=Ke.at (by omega) e9;obtain⟨c3,wz,e3⟩:=Bs (cs:=iA) Lg (by omega);refine u6 (b0 qo) e3 ?_;dsimp only[b7.d];walk_at"";refine i5 hT.pull (Kh.snoc _) (by decide) (by decide) λr'' uF yN yM D11 Dq=>?_;have yZ:=Kh.lt;have wU:=Dq.at (by omega) (d0 (g:=Fd) (o:=.lst [.int c0.yr,.int c3.yr,.int 9999]));have uK:=Dq.at (by omega) (m9 (o':=.lst [.int c0.yr,.int c3.yr,.int 9999]) qo);obtain⟨x,hx,hm⟩:=J7 (l:=[D.int c0.yr,.int c3.yr,.int 9999]) yN (by simpa using yM);obtain⟨a1,a2,a3,a4,a5,a6⟩:=(nt c0 pW).inv;obtain⟨b1,b2,b3,b4,b5,b6⟩:=(nt c3 wz).inv;have hy:∃y:Int,x=.int y/\0<=y/\y<=9999:=by
       simp only[List.mem_cons,List.mem_nil_iff,or_false] at hm;rcases hm with rfl|rfl|rfl
       ·exact⟨_,rfl,a5,a6⟩
       ·exact⟨_,rfl,b5,b6⟩
       ·exact⟨_,rfl,by decide,by decide⟩
      obtain⟨y,rfl,y0,y1⟩:=hy;refine u6 (b0 wU) hx ?_;walk_at"";have hj:jW (iA.map b7.d).length r=some r.toNat:=by
       unfold jW;rw[aF r0,aF (by rw[ag];omega)]
      refine T5 uK hj ?_;have gr:iF ⟨c0.lo,c3.lm,c3.up,c0.um,y⟩:=iF.mk' a1.1 a1.2 b3.1 b3.2 y0 y1 b2 a4 (nt c3 wz).l8 (nt c0 pW).u8;refine fin (iA.set r.toNat ⟨c0.lo,c3.lm,c3.up,c0.um,y⟩) _ _ _ _ (by simp;omega) (λc4 MI=>?_) ?_ (D11.J5 (by omega)) ((G8.trans (G9.trans (Ke.trans ((Gr.snoc _ _ _).trans Dq)))).J5 l8)
      ·rcases nN MI with z|z
       ·exact nt c4 z
       ·rw[z];exact gr
      ·rw[get_set uK,List.map_set]
       rfl
     ·refine Q4 ?_;exact fin iA _ _ _ _ rg nt e8 D8 G8
    ·exact fin iA _ _ _ _ rg nt e8 D8 G8
  walk_at"";refine if2 (λc=>?_) (λc=>?_)
  ·walk_at"";refine Yj hT.pull hT.order hT.opened ⟨m0,by omega⟩ D4 λcs a g5 hc hg ea la D5 G5=>?_;exact after cs a g5 hc hg ea la D5 G5
  ·walk_at"";refine YB hT.pull hT.pE hT.pC ⟨m0,by omega⟩ ⟨v0,by omega⟩ D4 λcs a g5 hc hg ea la D5 G5=>?_;exact after cs a g5 hc hg ea la D5 G5
 walk_at"";refine if2 (λc=>?_) (λc=>?_)
 ·walk_at"";refine i5 hT.pull D3 (by decide) (by decide) λr4 g4 vX yK D4 G4=>?_;walk_at "w1";walk_at "w1";exact tail _ _ (by omega) (by omega) D4 (yf.trans G4)
 ·refine Q4 ?_;exact tail _ _ (by omega) (by omega) D3 yf
end
noncomputable def E3:aW:=⟨1,1,(.seq (.ifs (.eL (.fP (.call 1 (fH aL (bg 1) (bg 9))))) (.seq (.raise "BadAnvils" (eZ (hV "there are from one to nine anvils"))) .pass) .pass) .pass)⟩
noncomputable def xM:aW:=⟨2,2,(.seq (.ret (dF .all (.comp [1] 3 (.one 2) (.fB aL) .no (bY (.cmp .In) bh aL)))) .pass)⟩
noncomputable def Z8:aW:=⟨1,1,(.seq (.ifs (.eL (.fP (.call 12 (eZ aL)))) (.seq (.raise "BadCoin" (eZ (hV "it is no coin"))) .pass) .pass) .pass)⟩
noncomputable def V3:aW:=⟨1,2,(.seq (.ifs (dY .Gt (dF .len aL) (bg 9)) (.seq (.raise "TooMany" (eZ (hV "at most nine coins are asked about at once"))) .pass) .pass) (.seq (.dS (.one 1) (.fB aL) (.seq (.expr (.call 39 (eZ bo))) .pass)) .pass))⟩
noncomputable def P2:aW:=⟨1,1,(.seq (.ifs (dY .NotIn aL (.lit (.tup [(.str "lower"),(.str "upper")]))) (.seq (.raise "BadSide" (eZ (hV "a side is lower or upper"))) .pass) .pass) .pass)⟩
noncomputable def BL:aW:=⟨1,1,(.seq (.expr (.call 40 (eZ aL))) (.seq (.ret (bY .mD (.lit (.tup [(.tup [(.str "lower"),(.int 0)]),(.tup [(.str "upper"),(.int 2)])])) aL)) .pass))⟩
noncomputable abbrev Ki(T:Nat->Option aW):Prop:=T 18=some V3/\T 39=some Z8
noncomputable abbrev Ds(T:Nat->Option aW):Prop:=T 19=some BL/\T 40=some P2
structure Ex(g g':G):Prop where
 len:g.length<=g'.length
 old:∀i,i<g.length->g'[i]?=g[i]?
theorem Ex.refl(g:G):Ex g g:=⟨av _,λ_ _=>rfl⟩
theorem Ex.trans{g g1 g2:G}(a:Ex g g1)(b:Ex g1 g2):Ex g g2:=⟨aG a.len b.len,λi h=>(b.old i (ax h a.len)).trans (a.old i h)⟩
theorem Ex.snoc(g:G)(o:O):Ex g (g++[o]):=⟨by simp,λi h=>aA h⟩
theorem Ex.at{g g':G}(h:Ex g g'){i:Nat}{o:O}(e:g[i]?=some o):g'[i]?=some o:=(h.old i (k8 e)).trans e
theorem Ex.gr{g g':G}(h:Ex g g')(d:Nat):Gr d g g':=⟨h.len,λi _ h2=>h.old i h2⟩
theorem Ex.draw{g g':G}{d:Nat}(h:Ex g g')(D0:j4 g d):j4 g' d:=by
 obtain⟨s,p,b,r,xs,e1,e2,q⟩:=D0.ex;exact⟨s,p,b,r,xs,h.at e1,h.at e2,q⟩
section
variable{T:Nat->Option aW}{k d:Nat}{g:G}{Q:KD}{E:KX}
end
noncomputable def lJ(a b:List Int):Bool:=a.all λs=>b.any λm=>m==s
section
variable{T:Nat->Option aW}{k d:Nat}{g:G}{Q:KD}{E:KX}
theorem Hj(oy:T 15=some xM){a b:List Int}(ha:a.length<=1000)(h:∀g',Ex g g'->Q (.bl (lJ a b)) g'):d4 T (k+1) 15 [.tup (a.map .int),.tup (b.map .int)] g Q E:=by
 refine call_of oy rfl ?_;dsimp[xM,d8,List.replicate];walk_at"";refine G0 (b8 T _) (wg (b8 T _) ?_);walk_at"";refine⟨_,rfl,_,λi ys Z g'=>∃z w,ys=((a.take i).map λs=>b.any λm=>m==s).map D.bl/\Z=[some (.tup (b.map .int)),z,w]/\g'=g,by simpa using ha,λi ys Z g' p=>⟨B0,?_⟩,⟨none,none,rfl,rfl,rfl⟩,λi x ys Z g' hx p=>?_,λys Z g' p=>?_⟩
 ·obtain⟨z,w,rfl,_⟩:=p;simp;omega
 ·obtain⟨z,w,rfl,rfl,rfl⟩:=p;rw[ak,aa] at hx;obtain⟨s,hs,rfl⟩:=hx;show cA _ _ _ _ _ _;walk_at"";refine CW (GR ?_);refine⟨_,_,?_,rfl,rfl⟩;have hi:=(aj.mp hs)
  rw[bz,hs];simp
 ·obtain⟨z,w,rfl,rfl,rfl⟩:=p;refine Vu (b0 d0) (Xy _) ?_;have e:((a.take (a.map D.int).length).map λs=>b.any λm=>m==s).all id=lJ a b:=by
   rw[ag,cv];simp[lJ,List.all_map]
  rw[e];exact h _ (Ex.snoc _ _)
theorem a49{g:G}{x:Str}{kb:Bool->Prop}(hx:PyData.strOk x=true)(h:kb (decide (x="lower")||decide (x="upper"))):pM g (.str x) (.tup [.str "lower",.str "upper"]) kb:=by
 refine⟨_,.inr ⟨_,[.str "lower",.str "upper"],.str x,rfl,rfl,rfl,by simp only[PyData.canLayAll0,PyData.canLay0,Bool.and_true];decide +kernel,by simp only[PyData.canLay0];exact hx,rfl⟩,?_⟩;have e:∀y:Str,PyData.eqv (.str y) (.str x)=decide (x=y):=λy=>by
  simp only[PyData.eqv];rw[bf,fJ,ei];exact eq_comm
 simp only[List.any_cons,List.any_nil,Bool.or_false,e];exact h
theorem WL(Nh:T 40=some P2){x:Str}(ho:PyData.strOk x=true)(h1:x="lower"\/x="upper"->Q .bD g)(h3:x≠"lower"->x≠"upper"->E ⟨"BadSide"⟩ g):d4 T (k+1) 40 [.str x] g Q E:=by
 refine call_of Nh rfl ?_;dsimp[P2,d8,List.replicate];walk_at"";refine Ca (a49 ho ?_);walk_at"";by_cases e:x="lower"\/x="upper"
 ·refine gb (by rw[Bool.not_eq_false',cF,ei,ei];exact e) ?_;walk_at"";exact h1 e
 ·refine gW (by rw[jR,Bool.or_eq_false_iff,bZ,bZ];exact not_or.mp e) ?_;walk_at"";exact h3 (λz=>e (.inl z)) (λz=>e (.inr z))
theorem E6(kq:Ds T){x:Str}(ho:PyData.strOk x=true)(h1:x="lower"->Q (.int 0) g)(h2:x="upper"->Q (.int 2) g)(h3:x≠"lower"->x≠"upper"->E ⟨"BadSide"⟩ g):d4 T (k+2) 19 [.str x] g Q E:=by
 refine call_of kq.1 rfl ?_;dsimp[BL,d8,List.replicate];walk_at"";refine WL kq.2 ho (λhx=>?_) h3;walk_at"";by_cases e1:x="lower"
 ·have el:N4 [.tup [.str "lower",.int 0],.tup [.str "upper",.int 2]] x=some (.int 0):=by simp[N4,e1]
  refine JF el ?_;exact h1 e1
 ·have e2:x="upper":=hx.resolve_left e1;have el:N4 [.tup [.str "lower",.int 0],.tup [.str "upper",.int 2]] x=some (.int 2):=by simp[N4,e1];simp[e2]
  refine JF el ?_;exact h2 e2
noncomputable def CB(c:b7):Prop:=c.lm.length<=8/\c.um.length<=8
theorem Y1(h1:NF T)(h2:T 2=some F3)(rD:T 12=some A8)(uA:Ki T){a:Nat}{cs:List b7}(ha:g[a]?=some (.lst (cs.map b7.d)))(hz:cs.length<=1000)(hm:9<cs.length->E ⟨"TooMany"⟩ g)(hb:cs.length<=9->cs.all p9=false->E ⟨"BadCoin"⟩ g)(h:cs.length<=9->cs.all p9=true->Q .bD g):d4 T (k+6) 18 [.ref a] g Q E:=by
 refine call_of uA.1 rfl ?_;dsimp[V3,d8,List.replicate];walk_at"";rw[ag];refine if2 (λc=>?_) (λc=>?_)
 ·walk_at"";exact hm (by omega)
 have h9:cs.length<=9:=by omega
 walk_at"";refine B6 (b8 T _) (lV (b8 T _) ?_);walk_at"";refine⟨a,_,rfl,b0 ha,cs.map b7.d,λi Z g'=>∃z,Z=[some (.ref a),z]/\g'=g/\(cs.take i).all p9=true,λi Z g' p=>?_,⟨none,rfl,rfl,by simp⟩,λi x Z g' hx p=>?_,λZ g' p=>?_⟩
 ·obtain⟨z,rfl,rfl,_⟩:=p;exact u7 (b0 ha)
 ·obtain⟨z,rfl,rfl,hg⟩:=p;rw[ak,aa] at hx;obtain⟨c,hc,rfl⟩:=hx;refine p0 ?_
  try show wpS _ _ _ _ _ _
  walk_at"";refine call_of uA.2 rfl ?_;dsimp[Z8,d8,List.replicate];walk_at"";refine aB5 h1 h2 rD ?_;walk_at"";cases e:p9 c with
  |true =>
   walk_at"";refine⟨_,rfl,rfl,?_⟩;rw[bz,hc];simp[hg,e]
  |false =>
   refine FU ?_;walk_at"";refine hb h9 ?_;rw[List.all_eq_false];exact⟨c,aP hc,by rw[e];decide⟩
 ·obtain⟨z,rfl,rfl,hg⟩:=p;rw[ag,cv] at hg;exact h h9 hg
end
noncomputable def oP(f:Int)(c:b7):Int:=if f=0 then c.lo else c.up
theorem Ih{f:Int}(hf:f=0\/f=2)(c:b7):fR [D.int c.lo,D.tup (c.lm.map .int),D.int c.up,D.tup (c.um.map .int),D.int c.yr] f=some (.int (oP f c)):=by
 rcases hf with rfl|rfl<;>rfl
section
variable{T:Nat->Option aW}{k d:Nat}{g:G}{Q:KD}{E:KX}
end
section
variable{T:Nat->Option aW}{k d:Nat}{g:G}{Q:KD}{E:KX}
end
noncomputable def cD:b7:=⟨0,[],0,[],0⟩
noncomputable abbrev cR(cs:List b7)(i:Nat):b7:=cs.getD i cD
theorem B4{cs:List b7}{i:Nat}{c:b7}(h:cs[i]?=some c):cR cs i=c:=by simp[cR,List.getD,h]
inductive RW where
 |eM|lower|upper
noncomputable def RW.s:RW->Str
 |.eM=>"coin"
 |.lower=>"lower"
 |.upper=>"upper"
structure du where
 w:RW
 x:Int
 y:Int
noncomputable def du.d(r:du):D:=.tup [.str r.w.s,.int r.x,.int r.y]
noncomputable def meant(cs:List b7)(w:RW)(x:Int)(i:Nat):Bool:=match w with
 |.eM=>decide ((i:Int)=x)
 |.lower=>decide ((cR cs i).lo=x)
 |.upper=>decide ((cR cs i).up=x)
noncomputable def iD(cs:List b7)(w:RW)(x:Int):List Nat:=(List.range cs.length).filter (meant cs w x)
noncomputable def d5(l:List Nat):List D:=l.map λ(i:Nat)=>D.int i
noncomputable def nS(l:List Nat):Nat:=(l.map (2 ^ ·)).sum
noncomputable def gU(n:Nat)(p:Nat->Bool):Nat:=nS ((List.range n).filter p)
theorem Gx(n:Nat)(p:Nat->Bool):gU (n+1) p=gU n p+if p n=true then 2 ^ n else 0:=by
 unfold gU nS;rw[dU,dk,cE,List.sum_append]
 congr 1
 cases h:p n<;>simp[List.filter_cons,h]
theorem QU(n:Nat)(p:Nat->Bool):gU n p<2 ^ n:=by
 induction n with
 |zero=>simp[gU,nS]
 |succ n ih =>
  rw[Gx,Nat.pow_succ];split<;>omega
theorem Jg(n:Nat)(p:Nat->Bool)(i:Nat):(gU n p).testBit i=(decide (i<n)&&p i):=by
 induction n with
 |zero=>simp[gU,nS]
 |succ n ih =>
  have hl:=QU n p;rw[Gx];by_cases hp:p n=true
  ·rw[aF hp,Nat.add_comm];rcases eG i n with h|h|h
   ·rw[Nat.testBit_two_pow_add_gt h,ih,aC h,aC (by omega)]
   ·subst h;rw[Nat.testBit_two_pow_add_eq,ih];simp[hp]
   ·rw[Nat.testBit_lt_two_pow (ax (show 2 ^ n+gU n p<2 ^ (n+1) by rw[Nat.pow_succ];omega) (yg (by omega) h)),aB (by omega)]
    rfl
  ·rw[az hp,Nat.add_zero,ih];by_cases h:i=n
   ·subst h;simp[hp]
   ·rw[show decide (i<n)=decide (i<n+1) from dD.mpr (by omega)]
theorem Ba(a b:Nat):Builtin.bitAnd (a:Int) (b:Int)=((a &&& b:Nat):Int):=by
 unfold Builtin.bitAnd;rw[aC (Kq a),aC (Kq b)];simp
theorem PV(a b:Nat):Builtin.bitOr (a:Int) (b:Int)=((a |||b:Nat):Int):=by
 unfold Builtin.bitOr Builtin.bitAnd;have h1:∀x:Nat,decide (0<=Builtin.bitNot (x:Int))=false:=λx=>by unfold Builtin.bitNot;exact aB (by omega)
 have h2:∀x:Nat,Builtin.bitNot (Builtin.bitNot (x:Int))=x:=λx=>by unfold Builtin.bitNot;omega
 rw[h1,h1];simp only[h2];simp
theorem OM(a b:Nat):((a &&& b:Nat)≠0)↔∃i,a.testBit i=true/\b.testBit i=true:=by
 constructor
 ·intro h;obtain⟨i,hi⟩:=Nat.exists_testBit_of_ne_zero h;rw[Nat.testBit_and,aU] at hi;exact⟨i,hi⟩
 ·rintro⟨i,h1,h2⟩ e;have:(a &&& b).testBit i=true:=by rw[Nat.testBit_and,h1,h2];rfl
  rw[e,Nat.zero_testBit] at this;cases this
theorem xF(s n:Nat)(p:Nat->Bool):((((s &&& gU n p:Nat):Int) != 0)=(List.range n).any λi=>s.testBit i&&p i):=by
 rw[bf,bne_iff_ne,bP];have:(((s &&& gU n p:Nat):Int)≠0)↔((s &&& gU n p:Nat)≠0):=by omega
 rw[this,OM];constructor
 ·rintro⟨i,h1,h2⟩;rw[Jg,aU,cN] at h2;exact⟨i,aJ.mpr h2.1,by rw[h1,h2.2];rfl⟩
 ·rintro⟨i,h1,h2⟩;rw[aU] at h2;exact⟨i,h2.1,by rw[Jg,aC (aJ.mp h1),h2.2];rfl⟩
noncomputable def mw(a b:b7):Bool:=(decide (a.lo=b.lo)&&!lJ a.lm b.lm)||(decide (a.up=b.up)&&!lJ a.um b.um)
noncomputable def jw(a b:b7):Bool:=decide (0<b.yr)&&decide (b.yr<a.yr)
noncomputable def E8(cs:List b7)(S:Nat->Bool)(p:Nat):Bool:=(List.range cs.length).any λi=>S i&&mw (cR cs i) (cR cs p)
noncomputable def J1(cs:List b7)(S:Nat->Bool)(p:Nat):Bool:=(List.range cs.length).any λi=>S i&&jw (cR cs i) (cR cs p)
noncomputable def O2(cs:List b7)(S:Nat->Bool)(p:Nat)(d:Int):Bool :=
 ((List.range cs.length).any λi=>(S i||decide (i=p))&&decide ((cR cs i).lo=d))&&((List.range cs.length).any λi=>!S i&&decide ((cR cs i).lo=d))
noncomputable def A3(cs:List b7)(S:Nat->Bool)(p:Nat):Nat:=((n6 (cs.map b7.lo)).filter (O2 cs S p)).length
noncomputable def C3(cs:List b7)(rs:List du)(S:Nat->Bool)(p:Nat):Bool:=rs.all λr=>!meant cs r.w r.y p||(List.range cs.length).any λi=>S i&&meant cs r.w r.x i
noncomputable def fault(cs:List b7)(v:Int)(rs:List du)(S:Nat->Bool)(p:Nat):Str :=
 if E8 cs S p=true then "wear" else if J1 cs S p=true then "year" else if v<A3 cs S p then "anvil" else if C3 cs rs S p=true then "" else "rule"
noncomputable def rE(x:Str):D:=if x="" then .bD else .str x
theorem ZK{cs:List b7}{v:Int}{rs:List du}{S S':Nat->Bool}{p:Nat}(h:∀i,i<cs.length->S i=S' i):fault cs v rs S p=fault cs v rs S' p:=by
 have a:∀f:Nat->Bool->Bool,((List.range cs.length).any λi=>f i (S i))=(List.range cs.length).any λi=>f i (S' i):=λf=>by
  rw[bf,bP,bP];constructor
  ·rintro⟨i,h1,h2⟩;exact⟨i,h1,by rw[<- h i (aJ.mp h1)];exact h2⟩
  ·rintro⟨i,h1,h2⟩;exact⟨i,h1,by rw[h i (aJ.mp h1)];exact h2⟩
 have b1:E8 cs S p=E8 cs S' p:=a λi t=>t&&mw (cR cs i) (cR cs p);have b2:J1 cs S p=J1 cs S' p:=a λi t=>t&&jw (cR cs i) (cR cs p);have b3:O2 cs S p=O2 cs S' p:=by
  funext d
  unfold O2;rw[a λi t=>(t||decide (i=p))&&decide ((cR cs i).lo=d),a λi t=>!t&&decide ((cR cs i).lo=d)]
 have b4:C3 cs rs S p=C3 cs rs S' p:=by
  unfold C3
  congr 1
  funext r
  rw[a λi t=>t&&meant cs r.w r.x i]
 unfold fault A3;rw[b1,b2,b3,b4]
noncomputable def U1:aW:=⟨3,4,(.seq (.ifs (.eL (.fP (.call 38 (eZ bh)))) (.seq (.ret (.prim .lst .nil)) .pass) .pass) (.seq (.ifs (dY .Eq bo (hV "coin")) (.seq (.ret (.comp [2] 3 (.one 2) (.fg (dF .len aL)) (dY .Eq bh aL) bh)) .pass) .pass) (.seq (.set 3 (.call 19 (eZ bo))) (.seq (.ret (.comp [3,2] 5 (.many [3,4]) (.jH aL) (dY .Eq (df cJ aL) bo) bT)) .pass))))⟩
noncomputable def Bo:aW:=⟨2,3,(.seq (.expr (.call 18 (eZ aL))) (.seq (.set 2 (.call 19 (eZ bo))) (.seq (.ret (.gk [2] 3 (.one 2) (.fB aL) .no (df bh aL))) .pass)))⟩
noncomputable def BN:aW:=⟨2,5,(.seq (.kZ (.many [2,3,4]) bo) (.seq (.ifs (.jt (dY .NotIn bh (.lit (.tup [(.str "coin"),(.str "lower"),(.str "upper")]))) (dY .Eq bT cJ)) (.seq (.ret (.lit (.bl false))) .pass) .pass) (.seq (.ret (.dG (bY (.cmp .NotEq) (.call 74 (fH aL bh bT)) (.prim .lst .nil)) (bY (.cmp .NotEq) (.call 74 (fH aL bh cJ)) (.prim .lst .nil)))) .pass)))⟩
noncomputable def V2:aW:=⟨2,4,(.seq (.dS (.many [2,3]) (.jH bo) (.seq (.ifs (.eL (.fP (.call 88 (dc aL bT)))) (.seq (.raise "BadRule" (eZ (.prim .kP (fH (hV "rule ") (dF .fv bh) (hV " is none for these coins"))))) .pass) .pass) .pass)) .pass)⟩
noncomputable def Z1:aW:=⟨1,1,(.seq (.ret (dF .sum (.comp [] 2 (.one 1) (.fB aL) .no (bY (.bin .LShift) (bg 1) bo)))) .pass)⟩
noncomputable def U0:aW:=⟨2,2,(.seq (.ret (bY (.bin .BitOr) aL (bY (.bin .LShift) (bg 1) bo))) .pass)⟩
noncomputable def BP:aW:=⟨2,4,(.seq (.dS (.one 2) (.fB (.lit (.tup [(.str "lower"),(.str "upper")]))) (.seq (.set 3 (.call 19 (eZ bh))) (.seq (.ifs (.dG (dY .Eq (df aL bT) (df bo bT)) (.eL (.fP (.call 15 (dc (df aL (bY (.bin .Add) bT (bg 1))) (df bo (bY (.bin .Add) bT (bg 1)))))))) (.seq (.ret (.lit (.bl true))) .pass) .pass) .pass))) (.seq (.ret (.lit (.bl false))) .pass))⟩
noncomputable def CK:aW:=⟨2,2,(.seq (.ret (.chain .Lt .Lt (bg 0) (df bo (bg 4)) (df aL (bg 4)))) .pass)⟩
noncomputable def U9:aW:=⟨1,1,(.seq (.ret (.comp [0] 3 (.one 2) (.fB aL) .no (.call 90 (eZ (.comp [2] 4 (.many [2,3]) (.jH aL) (.fP (.call 92 (dc bT aL))) bh))))) .pass)⟩
noncomputable def R7:aW:=⟨1,1,(.seq (.ret (.comp [0] 3 (.one 2) (.fB aL) .no (.call 90 (eZ (.comp [2] 4 (.many [2,3]) (.jH aL) (.fP (.call 93 (dc bT aL))) bh))))) .pass)⟩
noncomputable def Z7:aW:=⟨1,1,(.seq (.ret (.comp [0] 3 (.one 2) (.fB (.call 20 (dc aL (hV "lower")))) .no (.call 90 (eZ (.call 74 (fH aL (hV "lower") bh)))))) .pass)⟩
noncomputable def O3:aW:=⟨2,8,(.seq (.set 2 (.comp [] 2 (.one 1) (.fB aL) .no (.prim .lst .nil))) (.seq (.dS (.many [3,4,5]) (.fB bo) (.seq (.set 6 (.call 90 (eZ (.call 74 (fH aL bT cJ))))) (.seq (.dS (.one 7) (.fB (.call 74 (fH aL bT eR))) (.seq (.ifs (dY .NotIn ff (df bh iX)) (.seq (.expr (.eA .append (df bh iX) (eZ ff))) .pass) .pass) .pass)) .pass))) (.seq (.ret bh) .pass)))⟩
noncomputable def N1:aW:=⟨3,3,(.seq (.expr (.call 18 (eZ aL))) (.seq (.expr (.call 42 (eZ bo))) (.seq (.expr (.call 89 (dc aL bh))) .pass)))⟩
noncomputable def BK:aW:=⟨3,3,(.seq (.expr (.call 98 (fH aL bo bh))) (.seq (.ret (.make "Bounds" 113 (fH aL bo bh))) .pass))⟩
noncomputable def Z6:aW:=⟨3,5,(.seq (.set 3 (.call 91 (dc bo bh))) (.seq (.set 4 (bY (.bin .Sub) (dF (.fld "full") aL) bo)) (.seq (.ret (dF .len (.comp [4,3] 4 (.one 3) (.fB (dF (.fld "lower_dies") aL)) (.dG (.fP (bY (.bin .BitAnd) bT bo)) (.fP (bY (.bin .BitAnd) bT aL))) bT))) .pass)))⟩
noncomputable def Z2:aW:=⟨3,3,(.seq (.ifs (.fP (bY (.bin .BitAnd) bo (df (dF (.fld "worn_by_place") aL) bh))) (.seq (.ret (hV "wear")) .pass) .pass) (.seq (.ifs (.fP (bY (.bin .BitAnd) bo (df (dF (.fld "later_by_place") aL) bh))) (.seq (.ret (hV "year")) .pass) .pass) (.seq (.ifs (dY .Gt (.call 100 (fH aL bo bh)) (dF (.fld "room") aL)) (.seq (.ret (hV "anvil")) .pass) .pass) (.seq (.ifs (.eL (.fP (dF .all (.comp [1] 3 (.one 2) (.fB (df (dF (.fld "needed_by_place") aL) bh)) .no (bY (.bin .BitAnd) aL bh))))) (.seq (.ret (hV "rule")) .pass) .pass) (.seq (.ret (.lit .bD)) .pass)))))⟩
noncomputable def V4:aW:=⟨4,4,(.seq (.gM "size" ["Bounds"] aL (dF .len bo)) (.seq (.gM "full" ["Bounds"] aL (bY (.bin .Sub) (bY (.bin .LShift) (bg 1) (dF .len bo)) (bg 1))) (.seq (.gM "room" ["Bounds"] aL bh) (.seq (.gM "worn_by_place" ["Bounds"] aL (.call 94 (eZ bo))) (.seq (.gM "later_by_place" ["Bounds"] aL (.call 95 (eZ bo))) (.seq (.gM "lower_dies" ["Bounds"] aL (.call 96 (eZ bo))) (.seq (.gM "needed_by_place" ["Bounds"] aL (.call 97 (dc bo bT))) .pass)))))))⟩
section
variable{P:eT}{Z:S}{g:G}{Q:KD}{E:KX}{t:MT}{it c elt:ME}{d6:List Nat}{n:Nat}
theorem B3(hP:i7 P)(Sh:S->Prop)(p:Nat->Bool)(w:Nat->D){l:List D}{k:IK}(hk:∀g',Ex g g'->k.Is l g')(hl:l.length<=1000)(h0:Sh (C4 Z d6 n))(hs:∀i d Z g',l[i]?=some d->Ex g g'->Sh Z->iO t d Z λcb=>cA P c cb g' (λb g3=>b=p i/\Ex g g3/\if b=true then aK P elt cb g3 (λy g4=>y=w i/\Ex g g4/\Sh cb) iC else Sh cb) iC)(hd:∀g',Ex g g'->Q (.ref g'.length) (g'++[.lst (((List.range l.length).filter p).map w)]))(hi:∀R:IK->G->Prop,R k g->eB P it Z g R E):aK P (.comp d6 n t it c elt) Z g Q E:=by
 refine G0 hP (hi _ ?_);refine⟨l,λi ys Z g'=>Ex g g'/\ys=((List.range i).filter p).map w/\Sh Z,hl,λi ys Z g' q=>⟨hk _ q.1,?_⟩,⟨Ex.refl _,rfl,h0⟩,λi x ys Z g' hx q=>?_,λys Z g' q=>?_⟩
 ·obtain⟨_,rfl,_⟩:=q;rw[ag];exact aG (cu _ _) (by simp)
 ·obtain⟨e1,rfl,sh⟩:=q;refine u9 (λcb q=>n8 hP c _ _ _ _ _ _ (λb g3 q=>?_) (λ_ _ z=>z) q) (hs i x Z g' hx e1 sh);obtain⟨rfl,e3,q⟩:=q;have ef:((List.range (i+1)).filter p).map w=((List.range i).filter p).map w++if p i=true then[w i] else[]:=by
   rw[dU,dk,cE]
   congr 1
   cases z:p i<;>simp only[List.filter_cons,z,List.filter_nil]<;>rfl
  cases hp:p i with
  |true =>
   rw[hp] at q ef;rw[aF rfl] at q ⊢;refine b9 hP elt _ _ _ _ _ _ (λy g4 q=>?_) (λ_ _ z=>z) q;obtain⟨rfl,e4,sh⟩:=q;exact⟨e4,by rw[ef];rfl,sh⟩
  |false =>
   rw[hp] at q ef;rw[az (by decide)] at q ⊢;exact⟨e3,by rw[ef];simp,q⟩
 ·obtain⟨e1,rfl,sh⟩:=q;exact hd g' e1
theorem comp_map(hP:i7 P)(Sh:S->Prop)(w:Nat->D){l:List D}{k:IK}(hk:∀g',Ex g g'->k.Is l g')(hl:l.length<=1000)(h0:Sh (C4 Z d6 n))(hs:∀i d Z g',l[i]?=some d->Ex g g'->Sh Z->iO t d Z λcb=>aK P elt cb g' (λy g4=>y=w i/\Ex g g4/\Sh cb) iC)(hd:∀g',Ex g g'->Q (.ref g'.length) (g'++[.lst ((List.range l.length).map w)]))(hi:∀R:IK->G->Prop,R k g->eB P it Z g R E):aK P (.comp d6 n t it .no elt) Z g Q E:=by
 refine B3 hP Sh (λ_=>true) w hk hl h0 (λi d Z g' hx e sh=>u9 (λcb q=>Cu ⟨rfl,e,?_⟩) (hs i d Z g' hx e sh)) (λg' e=>?_) hi
 ·exact lU q
 ·have:=hd g' e
  rwa [show(List.range l.length).filter (λ_=>true)=List.range l.length from List.filter_eq_self.mpr λ_ _=>rfl]
theorem oR(hP:i7 P){a:Nat}{l:List D}{o:ME}(hl:d7 g a=some l)(h:∀Q:KD,Q (.ref a) g->aK P o Z g Q E):∀R:IK->G->Prop,R (.lst a) g->eB P (.fB o) Z g R E:=λR r=>lV hP (h _ ⟨a,l,rfl,hl,r⟩)
theorem Dd{a:Nat}{l:List D}{o:ME}(hl:d7 g a=some l)(h:∀Q:KD,Q (.ref a) g->aK P o Z g Q E):∀R:IK->G->Prop,R (.nB a) g->eB P (.jH o) Z g R E:=λR r=>tP (h _ ⟨a,l,rfl,hl,r⟩)
theorem FV(hP:i7 P){j:Nat}{o:ME}(hj:j<=1000)(h:∀Q:KD,Q (.int (j:Nat)) g->aK P o Z g Q E):∀R:IK->G->Prop,R (.fix (l6 0 j)) g->eB P (.fg o) Z g R E:=λR r=>qx hP (h _ ⟨j,rfl,by omega,by omega,by simpa using r⟩)
end
theorem Jr(l:List Nat):d5 l=(l.map λ(i:Nat)=>(i:Int)).map D.int:=by simp[d5]
structure TB0(T:Nat->Option aW):Prop where
 nf:NF T
 h2:T 2=some F3
 rD:T 12=some A8
 uA:Ki T
 kq:Ds T
 oy:T 15=some xM
 Nl:T 20=some Bo
 qc:T 74=some U1
 Ng:T 88=some BN
 Nf:T 89=some V2
 rC:T 90=some Z1
 mO:T 91=some U0
 Nd:T 92=some BP
 Nc:T 93=some CK
 Nb:T 94=some U9
 Na:T 95=some R7
 M':T 96=some Z7
 MZ:T 97=some O3
 Ap:T 100=some Z6
 Ao:T 101=some Z2
 Aj:T 113=some V4
structure TB(T:Nat->Option aW):Prop extends TB0 T where
 uw:T 42=some E3
 Ae:T 98=some N1
 MY:T 99=some BK
instance{T:Nat->Option aW}:CoeOut (TB T) (TB0 T):=⟨TB.toTB0⟩
section
variable{T:Nat->Option aW}{k d:Nat}{g g':G}{Q:KD}{E:KX}{a p:Nat}{cs:List b7}
theorem WZ(h1:NF T)(uw:T 42=some E3){i:Int}(h:1<=i->i<=9->Q .bD g)(hn:¬(1<=i/\i<=9)->E ⟨"BadAnvils"⟩ g):d4 T (k+3) 42 [.int i] g Q E:=by
 refine call_of uw rfl ?_;dsimp[E3,d8,List.replicate];walk_at"";refine A2 (k:=k) h1 ?_;walk_at"";by_cases hi:1<=i/\i<=9
 ·rw[aC hi.1,aC hi.2];walk_at"";exact h hi.1 hi.2
 ·have:(decide (1<=i)&&decide (i<=9))=false:=by
   rw[vL,bZ,bZ];omega
  rw[this];walk_at"";exact hn hi
theorem N6(h1:NF T)(kq:Ds T)(qc:T 74=some U1){w:RW}{x:Int}(ha:g[a]?=some (.lst (cs.map b7.d)))(hz:cs.length<=1000)(h:∀g' b,Ex g g'->g.length<=b->g'[b]?=some (.lst (d5 (iD cs w x)))->Q (.ref b) g'):d4 T (k+3) 74 [.ref a,.str w.s,.int x] g Q E:=by
 refine call_of qc rfl ?_;dsimp[U1,d8,List.replicate];walk_at"";refine HV (k:=k+1) h1 ?_;walk_at"";have fld:∀f:Int,(f=0\/f=2)->(∀i c,cs[i]?=some c->meant cs w x i=decide (oP f c=x))->aK (d4 T (k+2)) (.comp [3,2] 5 (.many [3,4]) (.jH (.var 0)) (.fP (.prim (.cmp .Eq) (.cons (.prim .ix (.cons (.var 4) (.cons (.var 0) .nil))) (.cons (.var 1) .nil)))) (.var 3)) [some (.ref a),some (.str w.s),some (.int x),some (.int f)] g Q E:=λf hf hm=>by
  refine B3 (b8 T _) (λZ=>∃z2 z3 z4,Z=[some (.int f),some (.int x),z2,z3,z4]) (meant cs w x) (λi=>.int (i:Nat)) (l:=kr (cs.map b7.d)) (λg' e=>X7 (b0 (e.at ha))) (by rw[F6];simpa using hz) ⟨none,none,none,rfl⟩ (λi d Z g' hx e sh=>?_) (λg' e=>?_) (Dd (b0 ha) λQ q=>w_var (d:=.ref a) rfl q)
  ·obtain⟨z2,z3,z4,rfl⟩:=sh;obtain⟨dd,hd,rfl⟩:=Q1 hx;rw[ak,aa] at hd;obtain⟨c,hc,rfl⟩:=hd;refine A1 rfl ?_
   try show cA _ _ _ _ _ _
   walk_at"";refine E4 (Ih hf c) ?_;walk_at"";rw[hm i c hc];refine⟨rfl,e,?_⟩;refine if2 (λ_=>?_) (λ_=>?_)
   ·walk_at"";exact⟨rfl,e,_,_,_,rfl⟩
   ·exact⟨_,_,_,rfl⟩
  ·rw[F6,ag];exact h _ _ (e.trans (Ex.snoc _ _)) e.len d0
 cases w with
 |eM =>
  refine gW (by decide +kernel) ?_;walk_at"";refine B3 (b8 T _) (λZ=>∃z1 z2,Z=[some (.int x),z1,z2]) (meant cs .eM x) (λi=>.int (i:Nat)) (l:=l6 0 cs.length) (λg' e=>B0) (by rw[o6];exact hz) ⟨none,none,rfl⟩ (λi d Z g' hx e sh=>?_) (λg' e=>?_) (FV (b8 T _) hz λQ q=>?_)
  ·obtain⟨z2,z3,rfl⟩:=sh;obtain⟨hi,rfl⟩:=J8 hx;rw[sA];refine p0 ?_
   try show cA _ _ _ _ _ _
   walk_at"";refine⟨rfl,e,?_⟩;refine if2 (λ_=>?_) (λ_=>?_)
   ·walk_at"";exact⟨rfl,e,_,_,rfl⟩
   ·exact⟨_,_,rfl⟩
  ·rw[o6];exact h _ _ (e.trans (Ex.snoc _ _)) e.len d0
  ·walk_at"";rw[ag];exact q
 |lower =>
  refine gb (by decide +kernel) ?_;walk_at"";refine E6 (k:=k) kq (by decide +kernel) (λ_=>?_) (λz=>absurd z (by decide +kernel)) (λz=>absurd rfl z);walk_at"";exact fld 0 (.inl rfl) λi c hc=>by simp only[meant,B4 hc];rfl
 |upper =>
  refine gb (by decide +kernel) ?_;walk_at"";refine E6 (k:=k) kq (by decide +kernel) (λz=>absurd z (by decide +kernel)) (λ_=>?_) (λ_ z=>absurd rfl z);walk_at"";exact fld 2 (.inr rfl) λi c hc=>by simp only[meant,B4 hc];rfl
theorem M7(rC:T 90=some Z1){l:List Nat}(ha:g[a]?=some (.lst (d5 l)))(hz:l.length<=1000)(hl:∀i∈l,i<=1000)(h:∀g',Ex g g'->Q (.int (nS l:Nat)) g'):d4 T (k+1) 90 [.ref a] g Q E:=by
 refine call_of rC rfl ?_;dsimp[Z1,d8,List.replicate];walk_at"";refine comp_map (b8 T _) (λZ=>∃z0 z1,Z=[z0,z1]) (λi=>.int ((2 ^ (l.getD i 0):Nat):Int)) (l:=d5 l) (k:=.lst a) (λg' e=>u7 (b0 (e.at ha))) (by simpa[d5] using hz) ⟨none,none,rfl⟩ (λi d Z g' hx e sh=>?_) (λg' e=>?_) (oR (b8 T _) (b0 ha) λQ q=>w_var (d:=.ref a) rfl q)
 ·obtain⟨z0,z1,rfl⟩:=sh;rw[d5,ak,aa] at hx;obtain⟨j,hj,rfl⟩:=hx;refine p0 ?_
  try show aK _ _ _ _ _ _
  walk_at"";have:=hl j (aP hj);refine BZ ⟨by omega,by omega,by decide⟩ ?_;refine⟨?_,e,_,_,rfl⟩;simp[List.getD,hj]
 ·refine JT (ns:=(List.range l.length).map λi=>((2 ^ (l.getD i 0):Nat):Int)) (b0 (by rw[cz];simpa[d5] using d0)) ?_;have:((List.range l.length).map λi=>((2 ^ (l.getD i 0):Nat):Int)).sum=(nS l:Nat):=by
   have e2:(List.range l.length).map (λi=>((2 ^ (l.getD i 0):Nat):Int))=(l.map (2 ^ ·)).map λ(n:Nat)=>(n:Int):=by
    refine eI λi=>?_;rw[ak,ak,ak];by_cases hi:i<l.length
    ·rw[cG hi,ai hi];simp[List.getD,hi]
    ·rw[aX (by simpa using hi),aX (by omega)]
     rfl
   rw[e2];unfold nS;generalize l.map (2 ^ ·)=m
   induction m with
   |nil=>rfl
   |cons x r ih=>simp[ih]
  rw[this];exact h _ (e.trans (Ex.snoc _ _))
theorem v7(mO:T 91=some U0){s p:Nat}(hp:p<=1000)(h:Q (.int ((s |||2 ^ p:Nat):Int)) g):d4 T (k+1) 91 [.int (s:Nat),.int (p:Nat)] g Q E:=by
 refine call_of mO rfl ?_;dsimp[U0,d8,List.replicate];walk_at"";refine BZ ⟨by omega,by omega,by decide⟩ ?_;walk_at"";refine TR ?_;have e:(1:Int)*2 ^ ((p:Nat):Int).toNat=((2 ^ p:Nat):Int):=by simp
 rw[e,PV];exact h
end
section
variable{T:Nat->Option aW}{k d:Nat}{g g':G}{Q:KD}{E:KX}{a p:Nat}{cs:List b7}
theorem ID{c:b7}(h:CB c):c.lm.length<=1000/\c.um.length<=1000:=⟨aG h.1 (by decide),aG h.2 (by decide)⟩
theorem aA0(hT:TB0 T){c e:b7}(hc:CB c)(h:∀g',Ex g g'->Q (.bl (mw c e)) g'):d4 T (k+3) 92 [c.d,e.d] g Q E:=by
 refine call_of hT.Nd rfl ?_;dsimp[BP,d8,List.replicate];walk_at"";refine B6 (b8 T _) (wg (b8 T _) ?_);walk_at"";refine⟨_,rfl,_,λi Z g'=>Ex g g'/\(∃z2 z3,Z=[some c.d,some e.d,z2,z3])/\(1<=i->(decide (c.lo=e.lo)&&!lJ c.lm e.lm)=false)/\(2<=i->(decide (c.up=e.up)&&!lJ c.um e.um)=false),λ_ _ _ _=>B0,⟨Ex.refl _,⟨none,none,rfl⟩,λz=>absurd z (by omega),λz=>absurd z (by omega)⟩,λi x Z g' hx q=>?_,λZ g' q=>?_⟩
 ·obtain⟨e1,⟨z2,z3,rfl⟩,q1,q2⟩:=q;refine p0 ?_
  try show wpS _ _ _ _ _ _
  match i,hx with
  |0,hx =>
   cases hx;walk_at"";refine E6 (k:=k) hT.kq (by decide +kernel) (λ_=>?_) (λz=>absurd z (by decide +kernel)) (λz=>absurd rfl z);walk_at"";refine E4 (l:=[.int c.lo,.tup (c.lm.map .int),.int c.up,.tup (c.um.map .int),.int c.yr]) rfl ?_;walk_at"";refine E4 (l:=[.int e.lo,.tup (e.lm.map .int),.int e.up,.tup (e.um.map .int),.int e.yr]) rfl ?_;walk_at"";refine if2 (λh1=>?_) (λh1=>?_)
   ·walk_at"";refine E4 (l:=[.int c.lo,.tup (c.lm.map .int),.int c.up,.tup (c.um.map .int),.int c.yr]) rfl ?_;walk_at"";refine E4 (l:=[.int e.lo,.tup (e.lm.map .int),.int e.up,.tup (e.um.map .int),.int e.yr]) rfl ?_;walk_at"";refine Hj (k:=k+1) hT.oy (ID hc).1 λg2 e2=>?_;walk_at"";cases hw:lJ c.lm e.lm with
    |false =>
     walk_at"";have:mw c e=true:=by unfold mw;rw[aC h1,hw];rfl
     rw[<- this];exact h _ (e1.trans e2)
    |true =>
     walk_at"";exact⟨e1.trans e2,⟨_,_,rfl⟩,λ_=>by rw[aC h1];rfl,λz=>absurd z (by omega)⟩
   ·walk_at"";exact⟨e1,⟨_,_,rfl⟩,λ_=>by rw[aB h1];rfl,λz=>absurd z (by omega)⟩
  |1,hx =>
   cases hx;walk_at"";refine E6 (k:=k) hT.kq (by decide +kernel) (λz=>absurd z (by decide +kernel)) (λ_=>?_) (λ_ z=>absurd rfl z);walk_at"";refine E4 (l:=[.int c.lo,.tup (c.lm.map .int),.int c.up,.tup (c.um.map .int),.int c.yr]) rfl ?_;walk_at"";refine E4 (l:=[.int e.lo,.tup (e.lm.map .int),.int e.up,.tup (e.um.map .int),.int e.yr]) rfl ?_;walk_at"";refine if2 (λh1=>?_) (λh1=>?_)
   ·walk_at"";refine E4 (l:=[.int c.lo,.tup (c.lm.map .int),.int c.up,.tup (c.um.map .int),.int c.yr]) rfl ?_;walk_at"";refine E4 (l:=[.int e.lo,.tup (e.lm.map .int),.int e.up,.tup (e.um.map .int),.int e.yr]) rfl ?_;walk_at"";refine Hj (k:=k+1) hT.oy (ID hc).2 λg2 e2=>?_;walk_at"";cases hw:lJ c.um e.um with
    |false =>
     walk_at"";have:mw c e=true:=by unfold mw;rw[aC h1,hw];simp
     rw[<- this];exact h _ (e1.trans e2)
    |true =>
     walk_at"";exact⟨e1.trans e2,⟨_,_,rfl⟩,λ_=>q1 (by omega),λ_=>by rw[aC h1];rfl⟩
   ·walk_at"";exact⟨e1,⟨_,_,rfl⟩,λ_=>q1 (by omega),λ_=>by rw[aB h1];rfl⟩
  |i+2,hx=>simp at hx
 ·obtain⟨e1,⟨z2,z3,rfl⟩,q1,q2⟩:=q
  try show wpS _ _ _ _ _ _
  walk_at"";have:mw c e=false:=by unfold mw;rw[q1 (by decide),q2 (by decide)];rfl
  rw[<- this];exact h _ e1
theorem a44(hT:TB0 T){c e:b7}(h:Q (.bl (jw c e)) g):d4 T (k+1) 93 [c.d,e.d] g Q E:=by
 refine call_of hT.Nc rfl ?_;dsimp[CK,d8,List.replicate];walk_at"";refine E4 (l:=[.int e.lo,.tup (e.lm.map .int),.int e.up,.tup (e.um.map .int),.int e.yr]) rfl ?_;walk_at"";refine if2 (λh1=>?_) (λh1=>?_)
 ·walk_at"";refine E4 (l:=[.int c.lo,.tup (c.lm.map .int),.int c.up,.tup (c.um.map .int),.int c.yr]) rfl ?_;walk_at"";have:jw c e=decide (e.yr<c.yr):=by unfold jw;rw[aC h1];rfl
  rw[<- this];exact h
 ·have:jw c e=false:=by unfold jw;rw[aB h1];rfl
  rw[<- this];exact h
noncomputable def qR(cs:List b7)(q:b7->b7->Bool):List D:=(List.range cs.length).map λi=>.int ((gU cs.length λj=>q (cR cs j) (cR cs i):Nat):Int)
theorem vm{cs:List b7}{q:Nat->Bool}:∀i∈(List.range cs.length).filter q,i<cs.length:=λi hi=>aJ.mp (aO.mp hi).1
theorem S5{n:Nat}{q:Nat->Bool}:((List.range n).filter q).length<=n:=aG (cu _ _) (by simp)
theorem TL(hT:TB0 T)(ha:g[a]?=some (.lst (cs.map b7.d)))(hz:cs.length<=9)(hB:∀c∈cs,CB c)(h:∀g' b,Ex g g'->g.length<=b->g'[b]?=some (.lst (qR cs mw))->Q (.ref b) g'):d4 T (k+4) 94 [.ref a] g Q E:=by
 refine call_of hT.Nb rfl ?_;dsimp[U9,d8,List.replicate];walk_at"";refine comp_map (b8 T _) (λZ=>∃z1 z2,Z=[some (.ref a),z1,z2]) (λi=>.int ((gU cs.length λj=>mw (cR cs j) (cR cs i):Nat):Int)) (l:=cs.map b7.d) (k:=.lst a) (λg' e=>u7 (b0 (e.at ha))) (by simp;omega) ⟨none,none,rfl⟩ (λi d Z g' hx e sh=>?_) (λg' e=>?_) (oR (b8 T _) (b0 ha) λQ q=>w_var (d:=.ref a) rfl q)
 ·obtain⟨z1,z2,rfl⟩:=sh;rw[ak,aa] at hx;obtain⟨c,hc,rfl⟩:=hx;refine p0 ?_
  try show aK _ _ _ _ _ _
  walk_at"";refine B3 (b8 T _) (λZ=>∃z1 z2 z3,Z=[some c.d,z1,z2,z3]) (λj=>mw (cR cs j) (cR cs i)) (λi=>.int (i:Nat)) (l:=kr (cs.map b7.d)) (k:=.nB a) (λg2 e2=>X7 (b0 ((e.trans e2).at ha))) (by rw[F6];simp;omega) ⟨none,none,none,rfl⟩ (λj d Z g2 hx e2 sh=>?_) (λg2 e2=>?_) (Dd (b0 (e.at ha)) λQ q=>w_var (d:=.ref a) rfl q)
  ·obtain⟨z1,z2,z3,rfl⟩:=sh;obtain⟨dd,hd,rfl⟩:=Q1 hx;rw[ak,aa] at hd;obtain⟨c',ja,rfl⟩:=hd;refine A1 rfl ?_
   try show cA _ _ _ _ _ _
   walk_at"";refine aA0 (k:=k) hT (hB c' (aP ja)) λg3 e3=>?_;walk_at"";refine⟨by simp only[B4 ja,B4 hc],e2.trans e3,?_⟩;cases mw c' c with
   |true =>
    refine gW rfl ?_;walk_at"";exact⟨rfl,e2.trans e3,_,_,_,rfl⟩
   |false=>exact gb rfl ⟨_,_,_,rfl⟩
  ·walk_at"";refine M7 (k:=k+2) hT.rC (l:=(List.range cs.length).filter λj=>mw (cR cs j) (cR cs i)) (by have:=d0 (g:=g2) (o:=.lst (((List.range (kr (cs.map b7.d)).length).filter λj=>mw (cR cs j) (cR cs i)).map λi=>D.int (i:Nat)));rw[F6,ag] at this ⊢;exact this) (aG S5 (by omega)) (λj hj=>by have:=vm j hj;omega) λg3 e3=>?_;exact⟨rfl,(e.trans (e2.trans (Ex.snoc _ _))).trans e3,_,_,rfl⟩
 ·refine h _ _ (e.trans (Ex.snoc _ _)) e.len ?_;rw[d0,ag]
  rfl
theorem Ya(hT:TB0 T)(ha:g[a]?=some (.lst (cs.map b7.d)))(hz:cs.length<=9)(h:∀g' b,Ex g g'->g.length<=b->g'[b]?=some (.lst (qR cs jw))->Q (.ref b) g'):d4 T (k+4) 95 [.ref a] g Q E:=by
 refine call_of hT.Na rfl ?_;dsimp[R7,d8,List.replicate];walk_at"";refine comp_map (b8 T _) (λZ=>∃z1 z2,Z=[some (.ref a),z1,z2]) (λi=>.int ((gU cs.length λj=>jw (cR cs j) (cR cs i):Nat):Int)) (l:=cs.map b7.d) (k:=.lst a) (λg' e=>u7 (b0 (e.at ha))) (by simp;omega) ⟨none,none,rfl⟩ (λi d Z g' hx e sh=>?_) (λg' e=>?_) (oR (b8 T _) (b0 ha) λQ q=>w_var (d:=.ref a) rfl q)
 ·obtain⟨z1,z2,rfl⟩:=sh;rw[ak,aa] at hx;obtain⟨c,hc,rfl⟩:=hx;refine p0 ?_
  try show aK _ _ _ _ _ _
  walk_at"";refine B3 (b8 T _) (λZ=>∃z1 z2 z3,Z=[some c.d,z1,z2,z3]) (λj=>jw (cR cs j) (cR cs i)) (λi=>.int (i:Nat)) (l:=kr (cs.map b7.d)) (k:=.nB a) (λg2 e2=>X7 (b0 ((e.trans e2).at ha))) (by rw[F6];simp;omega) ⟨none,none,none,rfl⟩ (λj d Z g2 hx e2 sh=>?_) (λg2 e2=>?_) (Dd (b0 (e.at ha)) λQ q=>w_var (d:=.ref a) rfl q)
  ·obtain⟨z1,z2,z3,rfl⟩:=sh;obtain⟨dd,hd,rfl⟩:=Q1 hx;rw[ak,aa] at hd;obtain⟨c',ja,rfl⟩:=hd;refine A1 rfl ?_
   try show cA _ _ _ _ _ _
   walk_at"";refine a44 (k:=k+2) hT ?_;walk_at"";refine⟨by simp only[B4 ja,B4 hc],e2,?_⟩;cases jw c' c with
   |true =>
    refine gW rfl ?_;walk_at"";exact⟨rfl,e2,_,_,_,rfl⟩
   |false=>exact gb rfl ⟨_,_,_,rfl⟩
  ·walk_at"";refine M7 (k:=k+2) hT.rC (l:=(List.range cs.length).filter λj=>jw (cR cs j) (cR cs i)) (by have:=d0 (g:=g2) (o:=.lst (((List.range (kr (cs.map b7.d)).length).filter λj=>jw (cR cs j) (cR cs i)).map λi=>D.int (i:Nat)));rw[F6,ag] at this ⊢;exact this) (aG S5 (by omega)) (λj hj=>by have:=vm j hj;omega) λg3 e3=>?_;exact⟨rfl,(e.trans (e2.trans (Ex.snoc _ _))).trans e3,_,_,rfl⟩
 ·refine h _ _ (e.trans (Ex.snoc _ _)) e.len ?_;rw[d0,ag]
  rfl
theorem a54(hT:TB0 T)(ha:g[a]?=some (.lst (cs.map b7.d)))(hz:cs.length<=9)(hg:cs.all p9=true)(h:Q (.ref g.length) (g++[.lst ((n6 (cs.map b7.lo)).map .int)])):d4 T (k+7) 20 [.ref a,.str "lower"] g Q E:=by
 refine call_of hT.Nl rfl ?_;dsimp[Bo,d8,List.replicate];walk_at"";refine Y1 (k:=k) hT.nf hT.h2 hT.rD hT.uA ha (by omega) (λz=>by omega) (λ_ z=>by rw[hg] at z;cases z) λ_ _=>?_;walk_at"";refine E6 (k:=k+4) hT.kq (by decide +kernel) (λ_=>?_) (λz=>absurd z (by decide +kernel)) (λz=>absurd rfl z);walk_at"";refine TC (b8 T _) (lV (b8 T _) ?_);walk_at"";refine⟨a,_,rfl,b0 ha,cs.map b7.d,λi ys Z g'=>∃z w,ys=(cs.take i).map b7.lo/\Z=[some (.int 0),z,w]/\g'=g,by simp;omega,λi ys Z g' p=>?_,⟨none,none,rfl,rfl,rfl⟩,λi c ys Z g' hx p=>?_,λys Z g' p=>?_⟩
 ·obtain⟨z,w,rfl,rfl,rfl⟩:=p;exact⟨u7 (b0 ha),by simp;omega⟩
 ·obtain⟨z,w,rfl,rfl,rfl⟩:=p;rw[ak,aa] at hx;obtain⟨c,hc,rfl⟩:=hx;show cA _ _ _ _ _ _;walk_at"";refine E4 (l:=[.int c.lo,.tup (c.lm.map .int),.int c.up,.tup (c.um.map .int),.int c.yr]) rfl ?_;refine⟨_,rfl,_,_,?_,rfl,rfl⟩;rw[bz,hc];simp
 ·obtain⟨z,w,rfl,rfl,rfl⟩:=p;rw[ag,cv];exact h
noncomputable def V9(cs:List b7):List D:=(n6 (cs.map b7.lo)).map λd=>.int ((gU cs.length (meant cs .lower d):Nat):Int)
theorem WM(hT:TB0 T)(ha:g[a]?=some (.lst (cs.map b7.d)))(hz:cs.length<=9)(hg:cs.all p9=true)(h:∀g' b,Ex g g'->g.length<=b->g'[b]?=some (.lst (V9 cs))->Q (.ref b) g'):d4 T (k+8) 96 [.ref a] g Q E:=by
 refine call_of hT.M' rfl ?_;dsimp[Z7,d8,List.replicate];walk_at"";have zy:(n6 (cs.map b7.lo)).length<=9:=aG (T4 _) (by simpa using hz);unfold V9 at h;refine G0 (b8 T _) (lV (b8 T _) ?_);walk_at"";refine a54 (k:=k) hT ha hz hg ?_;have e0:=Ex.snoc g (O.lst ((n6 (cs.map b7.lo)).map .int));have hb:=d0 (g:=g) (o:=O.lst ((n6 (cs.map b7.lo)).map .int));generalize n6 (cs.map b7.lo)=ds at *;generalize g++[O.lst (ds.map .int)]=g1 at *;refine⟨_,_,rfl,b0 hb,ds.map .int,λi ys Z g'=>Ex g1 g'/\ys=(ds.take i).map (λd=>.int ((gU cs.length (meant cs .lower d):Nat):Int))/\∃z1 z2,Z=[some (.ref a),z1,z2],by simp;omega,λi ys Z g' q=>⟨u7 (b0 (q.1.at hb)),?_⟩,⟨Ex.refl _,rfl,none,none,rfl⟩,λi x ys Z g' hx q=>?_,λys Z g' q=>?_⟩
 ·obtain⟨_,rfl,_⟩:=q;simp;omega
 ·obtain⟨e1,rfl,z1,z2,rfl⟩:=q;rw[ak,aa] at hx;obtain⟨dd,hd,rfl⟩:=hx;refine p0 ?_
  try show cA _ _ _ _ _ _
  walk_at"";refine N6 (k:=k+4) hT.nf hT.kq hT.qc (w:=.lower) ((e0.trans e1).at ha) (by omega) λg2 b2 e2 _ uk=>?_;walk_at"";refine M7 (k:=k+6) hT.rC uk (aG S5 (by omega)) (λj hj=>by have:=vm j hj;omega) λg3 e3=>?_;refine⟨e1.trans (e2.trans e3),?_,_,_,rfl⟩;rw[bz,hd];simp[gU,iD]
 ·obtain⟨e1,rfl,z1,z2,rfl⟩:=q;rw[ag,cv];exact h _ _ (e0.trans (e1.trans (Ex.snoc _ _))) (aG e0.len e1.len) d0
end
theorem GQ{g:G}{a:Nat}{ms:List Int}{i:Int}{k:Bool->Prop}(ha:d7 g a=some (ms.map .int))(h:k (ms.any λm=>m==i)):pM g (.int i) (.ref a) k:=by
 refine⟨_,.inr ⟨_,_,_,ha,O0 ms,rfl,lay_ints ms,by simp[PyData.canLay0],rfl⟩,?_⟩;rw[List.any_map];exact h
theorem RU{g:G}{a:Nat}{l:List Nat}{i:Nat}{k:Bool->Prop}(ha:g[a]?=some (.lst (d5 l)))(h:k (decide (i∈l))):pM g (.int (i:Nat)) (.ref a) k:=by
 refine GQ (ms:=l.map λ(i:Nat)=>(i:Int)) (by rw[<- Jr];exact b0 ha) ?_;have:((l.map λ(i:Nat)=>(i:Int)).any λm=>m==(i:Int))=decide (i∈l):=by
  rw[bf,bP,cN];constructor
  ·rintro⟨x,hx,e⟩;obtain⟨j,hj,rfl⟩:=aQ.mp hx;rw[fJ] at e;rw[show i=j by omega];exact hj
  ·exact λhi=>⟨_,aQ.mpr ⟨i,hi,rfl⟩,by simp⟩
 rw[this];exact h
structure mG(g:G)(nb lo n:Nat)(B:Nat->Nat)(F:Nat->Nat->Prop):Prop where
 ex:∃as:List Nat,g[nb]?=some (.lst (as.map .ref))/\as.length=n/\as.Nodup/\(∀a∈as,lo<=a/\a≠nb)/\∀i a,as[i]?=some a->∃ms:List Nat,g[a]?=some (.lst (d5 ms))/\ms.length<=B i/\∀m,m∈ms↔F i m
theorem mG.at{g g':G}{nb lo n:Nat}{B:Nat->Nat}{F:Nat->Nat->Prop}(h:mG g nb lo n B F)(e:Ex g g'):mG g' nb lo n B F :=
 let ⟨as,h1,h2,h3,h4,h5⟩:=h.ex
 ⟨⟨as,e.at h1,h2,h3,h4,λi a hi=>let ⟨ms,m1,m2⟩:=h5 i a hi;⟨ms,e.at m1,m2⟩⟩⟩
theorem mG.imp{g:G}{nb lo n:Nat}{B B':Nat->Nat}{F F':Nat->Nat->Prop}(h:mG g nb lo n B F)(hB:∀i,i<n->B i<=B' i)(hF:∀i m,i<n->(F i m↔F' i m)):mG g nb lo n B' F' :=
 let ⟨as,h1,h2,h3,h4,h5⟩:=h.ex
 ⟨⟨as,h1,h2,h3,h4,λi a hi=>let ⟨ms,m1,m2,m3⟩:=h5 i a hi
  have jz:i<n:=by rw[<- h2];exact(aj.mp hi).1
  ⟨ms,m1,aG m2 (hB i jz),λm=>(m3 m).trans (hF i m jz)⟩⟩⟩
noncomputable def rY(cs:List b7)(rs:List du)(i m:Nat):Prop:=∃r∈rs,meant cs r.w r.y i=true/\m=gU cs.length (meant cs r.w r.x)
noncomputable def p6(rs:List du):List D:=rs.map du.d
theorem GZ{α:Type}{l:List α}(h:l.Nodup){i j:Nat}{a:α}(hi:l[i]?=some a)(hj:l[j]?=some a):i=j:=by
 obtain⟨h1,e1⟩:=aj.mp hi;obtain⟨h2,e2⟩:=aj.mp hj;exact(gG h).mp (e1.trans e2.symm)
section
variable{T:Nat->Option aW}{k d:Nat}{g g':G}{Q:KD}{E:KX}{a c p:Nat}{cs:List b7}{rs:List du}
theorem Yf(hT:TB0 T)(ha:g[a]?=some (.lst (cs.map b7.d)))(hz:cs.length<=9)(hc:g[c]?=some (.lst (p6 rs)))(hr:rs.length<=900)(h:∀g' b,Ex g g'->g.length<=b->mG g' b g.length cs.length (λ_=>rs.length) (rY cs rs)->Q (.ref b) g'):d4 T (k+4) 97 [.ref a,.ref c] g Q E:=by
 refine call_of hT.MZ rfl ?_;dsimp[O3,d8,List.replicate];walk_at"";refine G0 (b8 T _) (lV (b8 T _) ?_);walk_at"";refine⟨a,_,rfl,b0 ha,cs.map b7.d,λi ys Z g'=>Ex g g'/\(∃as:List Nat,ys=as.map .ref/\as.length=i/\as.Nodup/\∀b∈as,g.length<=b/\g'[b]?=some (.lst []))/\∃z0 z1,Z=[z0,z1],by simp;omega,λi ys Z g' q=>⟨u7 (b0 (q.1.at ha)),?_⟩,⟨Ex.refl _,⟨[],rfl,rfl,by simp,by simp⟩,none,none,rfl⟩,λi x ys Z g' hx q=>?_,λys Z g' q=>?_⟩
 ·obtain⟨_,⟨as,rfl,rfl,_⟩,_⟩:=q;simp
 ·obtain⟨e1,⟨as,rfl,hl,nd,hA⟩,z0,z1,rfl⟩:=q;refine p0 ?_
  try show cA _ _ _ _ _ _
  walk_at"";refine⟨e1.trans (Ex.snoc _ _),⟨as++[g'.length],by simp,by simp[hl],?_,λb hb=>?_⟩,_,_,rfl⟩
  ·rw[cO];exact⟨nd,by simp,λx hx y hy=>by cases aS.mp hy;exact aN (k8 (hA x hx).2)⟩
  ·rcases aZ.mp hb with hb|hb
   ·exact⟨(hA b hb).1,(Ex.snoc _ _).at (hA b hb).2⟩
   ·cases aS.mp hb;exact⟨e1.len,d0⟩
 ·obtain⟨e1,⟨as,rfl,hl,nd,hA⟩,z0,z1,rfl⟩:=q;rw[ag] at hl;walk_at"";have e2:=e1.trans (Ex.snoc g' (O.lst (as.map D.ref)));have lo:=e1.len;have N0:mG (g'++[O.lst (as.map D.ref)]) g'.length g.length cs.length (λ_=>0) (rY cs []):=⟨⟨as,d0,hl,nd,λb hb=>⟨(hA b hb).1,aN (k8 (hA b hb).2)⟩,λi b hb=>⟨[],(Ex.snoc _ _).at (hA b (aP hb)).2,by simp,λm=>⟨λz=>absurd z (by simp),λ⟨r,hr,_⟩=>absurd hr (by simp)⟩⟩⟩⟩
  generalize g'++[O.lst (as.map D.ref)]=g1 at *;generalize g'.length=nb at *;refine B6 (b8 T _) (lV (b8 T _) ?_);walk_at"";refine⟨c,_,rfl,b0 (e2.at hc),p6 rs,λi Z g'=>Ex g g'/\mG g' nb g.length cs.length (λ_=>i) (rY cs (rs.take i))/\∃z3 z4 z5 z6 z7,Z=[some (.ref a),some (.ref c),some (.ref nb),z3,z4,z5,z6,z7],λi Z g' q=>u7 (b0 (q.1.at hc)),⟨e2,N0,none,none,none,none,none,rfl⟩,λi x Z g' hx q=>?_,λZ g' q=>?_⟩
  ·obtain⟨e3,N3,z3,z4,z5,z6,z7,rfl⟩:=q;rw[p6,ak,aa] at hx;obtain⟨r,lx,rfl⟩:=hx;have hi:i<rs.length:=(aj.mp lx).1;refine A1 (l:=[.str r.w.s,.int r.x,.int r.y]) rfl ?_
   try show wpS _ _ _ _ _ _
   walk_at"";refine N6 (k:=k) hT.nf hT.kq hT.qc (e3.at ha) (by omega) λg4 b4 e4 _ ML=>?_;walk_at"";refine M7 (k:=k+2) hT.rC ML (aG S5 (by omega)) (λj hj=>by have:=vm j hj;omega) λg5 e5=>?_;walk_at"";have wQ:=e3.trans (e4.trans e5);have N5:=N3.at (e4.trans e5);have ef:nS (iD cs r.w r.x)=gU cs.length (meant cs r.w r.x):=rfl;rw[ef];generalize gU cs.length (meant cs r.w r.x)=first at *
   refine B6 (b8 T _) (lV (b8 T _) ?_);walk_at"";refine N6 (k:=k) hT.nf hT.kq hT.qc (wQ.at ha) (by omega) λg6 b6 e6 hb6 Ep=>?_;refine⟨b6,_,rfl,b0 Ep,d5 (iD cs r.w r.y),λj Z g'=>Ex g g'/\g'[b6]?=some (.lst (d5 (iD cs r.w r.y)))/\mG g' nb g.length cs.length (λq=>i+if q∈(iD cs r.w r.y).take j then 1 else 0) (λq m=>rY cs (rs.take i) q m\/(q∈(iD cs r.w r.y).take j/\m=first))/\(∀as:List Nat,g'[nb]?=some (.lst (as.map .ref))->b6∉as)/\∃z7,Z=[some (.ref a),some (.ref c),some (.ref nb),some (.str r.w.s),some (.int r.x),some (.int r.y),some (.int (first:Nat)),z7],λj Z g' q=>u7 (b0 q.2.1),⟨wQ.trans e6,Ep,(N5.at e6).imp (λq _=>by simp) (λq m _=>by simp),?_,z7,rfl⟩,λj x Z g' hx q=>?_,λZ g' q=>?_⟩
   ·intro xr h' hm;obtain⟨Hb,h1,h2,h3,h4,h5⟩:=N5.ex;have:=(e6.at h1).symm.trans h';have e':Hb=xr:=by
     have h0:Hb.map D.ref=xr.map D.ref:=by injection this with w;injection w
     exact(List.map_inj_right (λx y z=>by injection z)).mp h0
    subst e';obtain⟨i',jz⟩:=eV.mp hm;obtain⟨ms,m1,_⟩:=h5 i' b6 jz;have:=k8 m1;omega
   ·obtain⟨e7,p7,N7,wc,z7,rfl⟩:=q;rw[d5,ak,aa] at hx;obtain⟨q,hq,rfl⟩:=hx;have Eo:q<cs.length:=vm q (aP hq);have Mf:q∉(iD cs r.w r.y).take j:=λz=>by
     obtain⟨j',wu⟩:=eV.mp z;have hl:j'<j:=by
      have:=(aj.mp wu).1;simp at this;omega
     rw[cT hl] at wu;have Lm:(iD cs r.w r.y).Nodup:=kB.filter _;have:=GZ Lm wu hq;omega
    have tk:(iD cs r.w r.y).take (j+1)=(iD cs r.w r.y).take j++[q]:=by rw[bz,hq];rfl
    obtain⟨va,h1,h2,h3,h4,h5⟩:=N7.ex;have L':q<va.length:=by omega
    have rq:=ai L';generalize va[q]=aq at rq;obtain⟨ms,m1,m2,m3⟩:=h5 q aq rq;have gq:fR (va.map D.ref) (q:Int)=some (.ref aq):=F8 (by rw[ak,rq];rfl);refine p0 ?_
    try show wpS _ _ _ _ _ _
    walk_at"";refine u6 (b0 h1) gq ?_;refine Ca (RU m1 ?_);walk_at"";by_cases jI:first∈ms
    ·refine gb (by simp[jI]) ?_;walk_at"";refine⟨e7,p7,N7.imp (λq' _=>?_) (λq' m _=>?_),wc,_,rfl⟩
     ·rw[tk];simp only[List.mem_append,List.mem_singleton];by_cases z:q'∈(iD cs r.w r.y).take j
      ·simp[z]
      ·simp[z]
     ·rw[tk];simp only[List.mem_append,List.mem_singleton];constructor
      ·rintro(z|⟨z1,z2⟩)
       ·exact .inl z
       ·exact .inr ⟨.inl z1,z2⟩
      ·rintro(z|⟨z1|z1,z2⟩)
       ·exact .inl z
       ·exact .inr ⟨z1,z2⟩
       ·subst z1 z2;exact(m3 m).mp jI
    ·refine gW (by simp[jI]) ?_;walk_at"";refine u6 (b0 h1) gq ?_
     try refine⟨vk m1,?_⟩
     walk_at"";rw[az Mf] at m2;refine T9 m1 (by simp[d5];omega) ?_;walk_at"";have mj:=aP rq;have dw:=(h4 aq mj).2;have Mh:aq≠b6:=λz=>wc va h1 (z▸mj);have EY:=f9 (o':=O.lst (d5 ms++[D.int (first:Nat)])) h1 dw;refine⟨⟨by simp;exact e7.len,λi' jz=>by rw[aw (by have:=(h4 aq mj).1;omega)];exact e7.old i' jz⟩,f9 p7 Mh,⟨⟨va,EY,h2,h3,h4,λi' b hb=>?_⟩⟩,λxr h'=>?_,_,rfl⟩
     ·by_cases wx:i'=q
      ·subst wx;have:b=aq:=by rw[rq] at hb;injection hb with z;exact z.symm
       subst this;refine⟨ms++[first],by rw[get_set m1];simp[d5],?_,λm=>?_⟩
       ·rw[tk];simp;omega
       ·rw[aZ,aS,m3 m,tk];simp only[List.mem_append,List.mem_singleton];constructor
        ·rintro((z|⟨z1,z2⟩)|z)
         ·exact .inl z
         ·exact .inr ⟨.inl z1,z2⟩
         ·exact .inr ⟨.inr trivial,z⟩
        ·rintro(z|⟨z1|z1,z2⟩)
         ·exact .inl (.inl z)
         ·exact .inl (.inr ⟨z1,z2⟩)
         ·exact .inr z2
      ·have zN:aq≠b:=λz=>wx (GZ h3 hb (z▸rq));obtain⟨Lw,k1,k2,k3⟩:=h5 i' b hb;refine⟨Lw,f9 k1 zN,?_,λm=>(k3 m).trans ?_⟩
       ·rw[tk];simpa[wx] using k2
       ·rw[tk];simp[wx]
     ·rw[EY] at h';exact wc xr (h1.trans h')
   ·obtain⟨e7,p7,N7,wc,z7,rfl⟩:=q;rw[d5,ag,cv] at N7
    try show wpS _ _ _ _ _ _
    walk_at"";refine⟨e7,N7.imp (λq _=>by split<;>omega) (λq m hq=>?_),_,_,_,_,_,rfl⟩;have tk:rs.take (i+1)=rs.take i++[r]:=by rw[bz,lx];rfl
    unfold rY;rw[tk];simp only[List.mem_append,List.mem_singleton];constructor
    ·rintro(⟨r',h1,h2⟩|⟨h1,h2⟩)
     ·exact⟨r',.inl h1,h2⟩
     ·exact⟨r,.inr rfl,(aO.mp h1).2,by rw[h2];exact ef.symm⟩
    ·rintro⟨r',h1|h1,h2,h3⟩
     ·exact .inl ⟨r',h1,h2,h3⟩
     ·subst h1;exact .inr ⟨aO.mpr ⟨aJ.mpr hq,h2⟩,by rw[h3];exact ef⟩
  ·obtain⟨e3,N3,z3,z4,z5,z6,z7,rfl⟩:=q;rw[p6,ag,cv] at N3
   try show wpS _ _ _ _ _ _
   walk_at"";exact h _ _ e3 lo N3
end
noncomputable def j9(cs:List b7)(r:du):Bool:=!decide (r.x=r.y)&&(!(iD cs r.w r.x).isEmpty&&!(iD cs r.w r.y).isEmpty)
theorem in_words{g:G}{w:RW}{kb:Bool->Prop}(h:kb true):pM g (.str w.s) (.tup [.str "coin",.str "lower",.str "upper"]) kb:=by
 refine⟨_,.inr ⟨_,[.str "coin",.str "lower",.str "upper"],.str w.s,rfl,rfl,rfl,by simp only[PyData.canLayAll0,PyData.canLay0,Bool.and_true];decide +kernel,by simp only[PyData.canLay0];cases w<;>decide +kernel,rfl⟩,?_⟩;have:([PyData.str "coin",PyData.str "lower",PyData.str "upper"].any λq=>PyData.eqv q (.str w.s))=true:=by
  simp only[List.any_cons,List.any_nil,PyData.eqv];cases w<;>decide +kernel
 rw[this];exact h
theorem ne_nil{g:G}{a b:Nat}{l:List Nat}{Q:KD}(ha:g[a]?=some (.lst (d5 l)))(hb:g[b]?=some (.lst []))(h:Q (.bl (!l.isEmpty)) g):cH (.cmp .NotEq) [.ref a,.ref b] g Q:=by
 refine FP (GL (ms:=l.map λ(i:Nat)=>(i:Int)) (ns:=[]) (by rw[<- Jr];exact b0 ha) (b0 hb) ?_);have:decide ((l.map λ(i:Nat)=>(i:Int))=[])=l.isEmpty:=by cases l<;>simp
 rw[this];exact h
structure Bd(g:G)(b:Nat)(cs:List b7)(v:Int)(rs:List du):Prop where
 ex:∃w l d nb,g[b]?=some (.ins "Bounds" [("size",.int cs.length),("full",.int ((2 ^ cs.length-1:Nat):Int)),("room",.int v),("worn_by_place",.ref w),("later_by_place",.ref l),("lower_dies",.ref d),("needed_by_place",.ref nb)]) /\
  g[w]?=some (.lst (qR cs mw))/\g[l]?=some (.lst (qR cs jw))/\g[d]?=some (.lst (V9 cs))/\mG g nb 0 cs.length (λ_=>rs.length) (rY cs rs)
theorem Bd.at{g g':G}{b:Nat}{cs:List b7}{v:Int}{rs:List du}(h:Bd g b cs v rs)(e:Ex g g'):Bd g' b cs v rs :=
 let ⟨w,l,d,nb,h1,h2,h3,h4,h5⟩:=h.ex
 ⟨⟨w,l,d,nb,e.at h1,e.at h2,e.at h3,e.at h4,h5.at e⟩⟩
theorem YS{α:Type}(l:List α)(z:α)(q:α->Bool):((List.range l.length).filter λi=>q (l.getD i z)).length=(l.filter q).length:=by
 have e:l=(List.range l.length).map λi=>l.getD i z:=by
  refine eI λi=>?_;rw[ak];by_cases hi:i<l.length
  ·rw[cG hi,ai hi];simp[List.getD,hi]
  ·rw[aX (by omega),aX (by simpa using hi)]
   rfl
 conv=>rhs;rw[e,lF,ag]
 rfl
theorem Jk{n:Nat}{q:Nat->Bool}{s:Nat}{S:Nat->Bool}(h:∀i,i<n->s.testBit i=S i):((Builtin.bitAnd ((gU n q:Nat):Int) (s:Nat)) != 0)=(List.range n).any λi=>S i&&q i:=by
 rw[Ba,Nat.and_comm,xF,bf,bP,bP];constructor
 ·rintro⟨i,h1,h2⟩;exact⟨i,h1,by rw[<- h i (aJ.mp h1)];exact h2⟩
 ·rintro⟨i,h1,h2⟩;exact⟨i,h1,by rw[h i (aJ.mp h1)];exact h2⟩
theorem a41{n s i:Nat}(h:s<2 ^ n)(hi:i<n):(2 ^ n-1-s).testBit i=!s.testBit i:=by
 rw[show 2 ^ n-1-s=2 ^ n-(s+1) by omega,Nat.testBit_two_pow_sub_succ h,aC hi]
 rfl
theorem L9(s p i:Nat):(s |||2 ^ p).testBit i=(s.testBit i||decide (i=p)):=by
 rw[Nat.testBit_or,Nat.testBit_two_pow]
 congr 1
 exact dD.mpr eq_comm
theorem L8{s p n:Nat}(h:s<2 ^ n)(hp:p<n):s |||2 ^ p<2 ^ n:=Nat.or_lt_two_pow h (Nat.pow_lt_pow_right (by omega) hp)
section
variable{T:Nat->Option aW}{k d:Nat}{g g':G}{Q:KD}{E:KX}{a b c:Nat}{cs:List b7}{rs:List du}{v:Int}
theorem aB4(hT:TB0 T){r:du}(ha:g[a]?=some (.lst (cs.map b7.d)))(hz:cs.length<=1000)(h:∀g',Ex g g'->Q (.bl (j9 cs r)) g'):d4 T (k+4) 88 [.ref a,r.d] g Q E:=by
 refine call_of hT.Ng rfl ?_;dsimp[BN,d8,List.replicate];walk_at"";refine A1 (l:=[.str r.w.s,.int r.x,.int r.y]) rfl ?_;walk_at"";refine Ca (in_words ?_);walk_at"";refine if2 (λh1=>?_) (λh1=>?_)
 ·walk_at"";have:j9 cs r=false:=by unfold j9;rw[aC h1];rfl
  rw[<- this];exact h _ (Ex.refl _)
 ·walk_at"";refine N6 (k:=k) hT.nf hT.kq hT.qc ha hz λg1 b1 e1 _ uo=>?_;walk_at"";refine ne_nil ((Ex.snoc _ _).at uo) d0 ?_;walk_at"";cases h2:(iD cs r.w r.x).isEmpty with
  |true =>
   refine gb rfl ?_;have:j9 cs r=false:=by unfold j9;rw[aB h1,h2];rfl
   rw[<- this];exact h _ (e1.trans (Ex.snoc _ _))
  |false =>
   refine gW rfl ?_;walk_at"";refine N6 (k:=k) hT.nf hT.kq hT.qc ((e1.trans (Ex.snoc _ _)).at ha) hz λg2 b2 e2 _ uk=>?_;walk_at"";refine ne_nil ((Ex.snoc _ _).at uk) d0 ?_;have:j9 cs r=!(iD cs r.w r.y).isEmpty:=by unfold j9;rw[aB h1,h2];rfl
   rw[<- this];exact h _ ((e1.trans (Ex.snoc _ _)).trans (e2.trans (Ex.snoc _ _)))
theorem WU(hT:TB0 T)(ha:g[a]?=some (.lst (cs.map b7.d)))(hz:cs.length<=1000)(hc:g[c]?=some (.lst (p6 rs)))(hr:rs.length<=900)(h:rs.all (j9 cs)=true->∀g',Ex g g'->Q .bD g')(hn:rs.all (j9 cs)=false->∀g',Ex g g'->E ⟨"BadRule"⟩ g'):d4 T (k+5) 89 [.ref a,.ref c] g Q E:=by
 refine call_of hT.Nf rfl ?_;dsimp[V2,d8,List.replicate];walk_at"";refine B6 (b8 T _) (tP ?_);walk_at"";refine⟨c,_,rfl,b0 hc,kr (p6 rs),λi Z g'=>Ex g g'/\(∃z2 z3,Z=[some (.ref a),some (.ref c),z2,z3])/\(rs.take i).all (j9 cs)=true,λi Z g' q=>X7 (b0 (q.1.at hc)),⟨Ex.refl _,⟨none,none,rfl⟩,rfl⟩,λi x Z g' hx q=>?_,λZ g' q=>?_⟩
 ·obtain⟨e1,⟨z2,z3,rfl⟩,q⟩:=q;obtain⟨dd,hd,rfl⟩:=Q1 hx;rw[p6,ak,aa] at hd;obtain⟨r,lx,rfl⟩:=hd;have tk:rs.take (i+1)=rs.take i++[r]:=by rw[bz,lx];rfl
  refine A1 rfl ?_
  try show wpS _ _ _ _ _ _
  walk_at"";refine aB4 (k:=k) hT (e1.at ha) hz λg2 e2=>?_;walk_at"";cases hg:j9 cs r with
  |true =>
   walk_at"";exact⟨e1.trans e2,⟨_,_,rfl⟩,by rw[tk,List.all_append,q];simp[hg]⟩
  |false =>
   walk_at"";have hi:i<rs.length:=(aj.mp lx).1;refine Uh ?_ ?_
   ·have:(i:Int).natAbs<2 ^ 10:=by rw[Kr];omega
    rw[Kr] at this ⊢;by_cases h0:i=0
    ·subst h0;decide
    ·exact cI ((Nat.log2_lt h0).mpr this) (by decide)
   walk_at"";refine PY rfl ?_;walk_at"";refine hn ?_ _ (e1.trans e2);rw[List.all_eq_false];exact⟨r,aP lx,by rw[hg];decide⟩
 ·obtain⟨e1,⟨z2,z3,rfl⟩,q⟩:=q;rw[F6,p6,ag,cv] at q;exact h q _ e1
theorem WT(hT:TB0 T)(uw:T 42=some E3)(Ae:T 98=some N1)(ha:g[a]?=some (.lst (cs.map b7.d)))(hz:cs.length<=1000)(hc:g[c]?=some (.lst (p6 rs)))(hr:rs.length<=900)(hm:9<cs.length->E ⟨"TooMany"⟩ g)(hb:cs.length<=9->cs.all p9=false->E ⟨"BadCoin"⟩ g)(hv:cs.length<=9->cs.all p9=true->¬(1<=v/\v<=9)->E ⟨"BadAnvils"⟩ g)(hw:cs.length<=9->cs.all p9=true->1<=v/\v<=9->rs.all (j9 cs)=false->∀g',Ex g g'->E ⟨"BadRule"⟩ g')(h:cs.length<=9->cs.all p9=true->1<=v/\v<=9->rs.all (j9 cs)=true->∀g',Ex g g'->Q .bD g'):d4 T (k+7) 98 [.ref a,.int v,.ref c] g Q E:=by
 refine call_of Ae rfl ?_;dsimp[N1,d8,List.replicate];walk_at"";refine Y1 (k:=k) hT.nf hT.h2 hT.rD hT.uA ha hz hm hb λh9 hg=>?_;walk_at"";refine WZ (k:=k+3) hT.nf uw (λv1 v2=>?_) (hv h9 hg);walk_at"";exact WU (k:=k+1) hT ha hz hc hr (h h9 hg ⟨v1,v2⟩) (hw h9 hg ⟨v1,v2⟩)
theorem Ja{f:Str}{x:D}(fs:List (Str×D)):(k6 f x fs).length<=fs.length+1:=by
 induction fs with
 |nil=>simp[k6]
 |cons y r ih =>
  unfold k6;split<;>simp
  exact ih
theorem W6{f:Str}{x:D}{fs:List (Str×D)}{n:Nat}(h:fs.length+1<n):(k6 f x fs).length<n:=fL (Ja fs) h
theorem W5{f:Str}{x:D}{fs:List (Str×D)}{m n:Nat}(h:fs.length+(m+1)<n):(k6 f x fs).length+m<n:=by
 have:=Ja (f:=f) (x:=x) fs;omega
noncomputable def f3(n:Nat)(v:Int):List (Str×D):=[("size",.int n),("full",.int ((2 ^ n-1:Nat):Int)),("room",.int v)]
theorem X9(n:Nat)(v:Int):(f3 n v).length=3:=rfl
theorem WS(hT:TB0 T)(ha:g[a]?=some (.lst (cs.map b7.d)))(hz:cs.length<=9)(hg:cs.all p9=true)(hB:∀c∈cs,CB c)(hc:g[c]?=some (.lst (p6 rs)))(hr:rs.length<=900)(hb:g[b]?=some (.ins "Bounds" []))(h:∀g',g.length<=g'.length->(∀i,i<g.length->i≠b->g'[i]?=g[i]?)->Bd g' b cs v rs->Q .bD g'):d4 T (k+9) 113 [.ref b,.ref a,.int v,.ref c] g Q E:=by
 refine call_of hT.Aj rfl ?_;dsimp[V4,d8,List.replicate];have tF:b≠a:=λz=>by subst z;rw[ha] at hb;cases hb
 have wb:b≠c:=λz=>by subst z;rw[hc] at hb;cases hb
 have lb:=k8 hb;walk_at"";refine Y7 hb (by simp) (by simp) ?_;walk_at"";have rz:=f9 (o':=O.ins "Bounds" (k6 "size" (.int (cs.map b7.d).length) [])) ha tF;refine U2 (b0 rz) ?_;walk_at"";refine BZ ⟨by omega,by simp;omega,by decide⟩ ?_;walk_at"";refine Y7 (get_set hb) (by simp) (by first|(simp;done)|(refine W6 ?_;repeat (first|(rw[X9];omega)|(simp;done)|refine W5 ?_))) ?_;rw[gS];walk_at"";refine Y7 (get_set hb) (by simp) (by first|(simp;done)|(refine W6 ?_;repeat (first|(rw[X9];omega)|(simp;done)|refine W5 ?_))) ?_;rw[gS];have e0:k6 "room" (.int v) (k6 "full" (.int (1*2 ^ Int.toNat ((cs.map b7.d).length:Int)-1)) (k6 "size" (.int (cs.map b7.d).length) []))=(f3 cs.length v):=by
  have:(1*2 ^ Int.toNat ((cs.map b7.d).length:Int)-1:Int)=((2 ^ cs.length-1:Nat):Int):=by
   rw[ag,bU,Int.one_mul];have:=fK (n:=cs.length);rw[Int.natCast_sub this];simp
  rw[this,ag]
  rfl
 simp only[e0];have kp:∀(g1:G) (o:O),Ex (g.set b o) g1->(∀i,i<g.length->i≠b->g1[i]?=g[i]?)/\g.length<=g1.length:=λg1 o e=>⟨λi hi hn=>by rw[e.old i (by simpa using hi),aw (bC hn)],by have:=e.len;simpa using this⟩
 generalize ho:O.ins "Bounds" (f3 cs.length v)=o1;have uo:=get_set (o':=o1) hb;have rz:=f9 (o':=o1) ha tF;have pV:=f9 (o':=o1) hc wb;have k1:=kp _ o1 (Ex.refl _);generalize g.set b o1=g1 at *;subst ho;walk_at"";refine TL (k:=k+4) hT rz hz hB λg2 w e2 hw1 hw=>?_;walk_at"";refine Y7 (e2.at uo) (by simp) (by rw[X9];omega) ?_;have lw:w≠b:=λz=>by have:=k8 uo;omega
 have zQ:=get_set (o':=O.ins "Bounds" (k6 "worn_by_place" (.ref w) (f3 cs.length v))) (e2.at uo);have LV:=f9 (o':=O.ins "Bounds" (k6 "worn_by_place" (.ref w) (f3 cs.length v))) hw lw.symm;have wB:=f9 (o':=O.ins "Bounds" (k6 "worn_by_place" (.ref w) (f3 cs.length v))) (e2.at rz) tF;have wz:=f9 (o':=O.ins "Bounds" (k6 "worn_by_place" (.ref w) (f3 cs.length v))) (e2.at pV) wb;have k3:(∀i,i<g.length->i≠b->(g2.set b (O.ins "Bounds" (k6 "worn_by_place" (.ref w) (f3 cs.length v))))[i]?=g[i]?)/\g.length<=(g2.set b (O.ins "Bounds" (k6 "worn_by_place" (.ref w) (f3 cs.length v)))).length:=⟨λi hi hn=>by rw[aw (bC hn),e2.old i (by have:=k1.2;omega)];exact k1.1 i hi hn,by simp;have:=e2.len;have:=k1.2;omega⟩
 generalize g2.set b (O.ins "Bounds" (k6 "worn_by_place" (.ref w) (f3 cs.length v)))=g3 at *;walk_at"";refine Ya (k:=k+4) hT wB hz λg4 l e4 zC hl=>?_;walk_at"";refine Y7 (e4.at zQ) (by simp) (by first|(simp;done)|(refine W6 ?_;repeat (first|(rw[X9];omega)|(simp;done)|refine W5 ?_))) ?_;have ll:l≠b:=λz=>by have:=k8 zQ;omega
 generalize ho:O.ins "Bounds" (k6 "later_by_place" (.ref l) (k6 "worn_by_place" (.ref w) (f3 cs.length v)))=o5;have zP:=get_set (o':=o5) (e4.at zQ);have LU:=f9 (o':=o5) (e4.at LV) lw.symm;have Mo:=f9 (o':=o5) hl ll.symm;have EN:=f9 (o':=o5) (e4.at wB) tF;have MH:=f9 (o':=o5) (e4.at wz) wb;have k5:(∀i,i<g.length->i≠b->(g4.set b o5)[i]?=g[i]?)/\g.length<=(g4.set b o5).length:=⟨λi hi hn=>by rw[aw (bC hn),e4.old i (by have:=k3.2;omega)];exact k3.1 i hi hn,by simp;have:=e4.len;have:=k3.2;omega⟩
 generalize g4.set b o5=g5 at *;subst ho;walk_at"";refine WM (k:=k) hT EN hz hg λg6 dd e6 EJ hd=>?_;walk_at"";refine Y7 (e6.at zP) (by simp) (by first|(simp;done)|(refine W6 ?_;repeat (first|(rw[X9];omega)|(simp;done)|refine W5 ?_))) ?_;have ld:dd≠b:=λz=>by have:=k8 zP;omega
 generalize ho:O.ins "Bounds" (k6 "lower_dies" (.ref dd) (k6 "later_by_place" (.ref l) (k6 "worn_by_place" (.ref w) (f3 cs.length v))))=o7;have zO:=get_set (o':=o7) (e6.at zP);have LR:=f9 (o':=o7) (e6.at LU) lw.symm;have Mn:=f9 (o':=o7) (e6.at Mo) ll.symm;have MD:=f9 (o':=o7) hd ld.symm;have MN:=f9 (o':=o7) (e6.at EN) tF;have MG:=f9 (o':=o7) (e6.at MH) wb;have k7:(∀i,i<g.length->i≠b->(g6.set b o7)[i]?=g[i]?)/\g.length<=(g6.set b o7).length:=⟨λi hi hn=>by rw[aw (bC hn),e6.old i (by have:=k5.2;omega)];exact k5.1 i hi hn,by simp;have:=e6.len;have:=k5.2;omega⟩
 generalize g6.set b o7=g7 at *;subst ho;walk_at"";refine Yf (k:=k+4) hT MN hz MG hr λg8 nb e8 wt hn=>?_;walk_at"";refine Y7 (e8.at zO) (by simp) (by first|(simp;done)|(refine W6 ?_;repeat (first|(rw[X9];omega)|(simp;done)|refine W5 ?_))) ?_;have lb7:=k8 zO;have ln:nb≠b:=λz=>by omega
 generalize ho:O.ins "Bounds" (k6 "needed_by_place" (.ref nb) (k6 "lower_dies" (.ref dd) (k6 "later_by_place" (.ref l) (k6 "worn_by_place" (.ref w) (f3 cs.length v)))))=o9;refine h _ (by simp;have:=e8.len;have:=k7.2;omega) (λi hi hn=>by rw[aw (bC hn),e8.old i (by have:=k7.2;omega)];exact k7.1 i hi hn) ⟨⟨w,l,dd,nb,?_,f9 (e8.at LR) lw.symm,f9 (e8.at Mn) ll.symm,f9 (e8.at MD) ld.symm,?_⟩⟩
 ·rw[get_set (e8.at zO),<- ho]
  rfl
 ·obtain⟨as,q1,q2,q3,q4,q5⟩:=hn.ex;exact⟨⟨as,f9 q1 ln.symm,q2,q3,λx hx=>⟨by omega,(q4 x hx).2⟩,λi x hx=>let ⟨ms,m1,m2⟩:=q5 i x hx;⟨ms,f9 m1 (λz=>by have:=(q4 x (aP hx)).1;omega),m2⟩⟩⟩
end
section
variable{T:Nat->Option aW}{k d:Nat}{g g':G}{Q:KD}{E:KX}{a b c:Nat}{cs:List b7}{rs:List du}{v:Int}
theorem ZX(hT:TB T)(ha:g[a]?=some (.lst (cs.map b7.d)))(hz:cs.length<=1000)(hB:∀c∈cs,CB c)(hc:g[c]?=some (.lst (p6 rs)))(hr:rs.length<=900)(hm:9<cs.length->E ⟨"TooMany"⟩ g)(hb:cs.length<=9->cs.all p9=false->E ⟨"BadCoin"⟩ g)(hv:cs.length<=9->cs.all p9=true->¬(1<=v/\v<=9)->E ⟨"BadAnvils"⟩ g)(hw:cs.length<=9->cs.all p9=true->1<=v/\v<=9->rs.all (j9 cs)=false->∀g',Ex g g'->E ⟨"BadRule"⟩ g')(h:cs.length<=9->cs.all p9=true->1<=v/\v<=9->rs.all (j9 cs)=true->∀g' b,Ex g g'->g.length<=b->Bd g' b cs v rs->Q (.ref b) g'):d4 T (k+10) 99 [.ref a,.int v,.ref c] g Q E:=by
 refine call_of hT.MY rfl ?_;dsimp[BK,d8,List.replicate];walk_at"";refine WT (k:=k+2) hT.toTB0 hT.uw hT.Ae ha hz hc hr hm hb hv hw λh9 hg hv hR g1 e1=>?_;walk_at"";have x1:=Ex.snoc g1 (O.ins "Bounds" []);refine WS (k:=k) hT (x1.at (e1.at ha)) h9 hg hB (x1.at (e1.at hc)) hr d0 λg2 l2 o2 B2=>?_;refine⟨rfl,h h9 hg hv hR g2 _ ⟨by have:=e1.len;simp at l2;omega,λi hi=>?_⟩ e1.len B2⟩;have:=e1.len;rw[o2 i (by simp;omega) (by omega),x1.old i (by omega)];exact e1.old i hi
theorem W0(hT:TB T)(ha:g[a]?=some (.lst (cs.map b7.d)))(hz:cs.length<=9)(hg:cs.all p9=true)(hB:∀c∈cs,CB c)(hv:1<=v/\v<=9)(hc:g[c]?=some (.lst (p6 rs)))(hr:rs.length<=900)(hR:rs.all (j9 cs)=true)(h:∀g' b,Ex g g'->g.length<=b->Bd g' b cs v rs->Q (.ref b) g'):d4 T (k+10) 99 [.ref a,.int v,.ref c] g Q E :=
 ZX hT ha (by omega) hB hc hr (λz=>by omega) (λ_ z=>by rw[hg] at z;cases z) (λ_ _ z=>absurd hv z) (λ_ _ _ z=>by rw[hR] at z;cases z) λ_ _ _ _=>h
theorem WV(hT:TB0 T)(B:Bd g b cs v rs)(hz:cs.length<=9){s p:Nat}(hs:s<2 ^ cs.length)(hp:p<cs.length)(h:∀g',Ex g g'->Q (.int (A3 cs s.testBit p:Nat)) g'):d4 T (k+2) 100 [.ref b,.int (s:Nat),.int (p:Nat)] g Q E:=by
 refine call_of hT.Ap rfl ?_;dsimp[Z6,d8,List.replicate];obtain⟨w,l,dd,nb,h1,h2,h3,h4,h5⟩:=B.ex;walk_at"";refine v7 (k:=k) hT.mO (by omega) ?_;walk_at"";refine S4 h1 rfl ?_;walk_at"";have e1:((2 ^ cs.length-1:Nat):Int)-(s:Nat)=((2 ^ cs.length-1-s:Nat):Int):=by omega
 rw[e1];have zy:(n6 (cs.map b7.lo)).length<=9:=aG (T4 _) (by simpa using hz);have EI:(V9 cs).length=(n6 (cs.map b7.lo)).length:=by simp[V9]
 refine B3 (b8 T _) (λZ=>∃z2 z3,Z=[some (.int ((2 ^ cs.length-1-s:Nat):Int)),some (.int ((s |||2 ^ p:Nat):Int)),z2,z3]) (λi=>O2 cs s.testBit p ((n6 (cs.map b7.lo)).getD i 0)) (λi=>(V9 cs).getD i .bD) (l:=V9 cs) (k:=.lst dd) (λg' e=>u7 (b0 (e.at h4))) (by rw[EI];omega) ⟨none,none,rfl⟩ (λi x Z g' hx e sh=>?_) (λg' e=>?_) (oR (b8 T _) (b0 h4) λQ q=>?_)
 ·obtain⟨z2,z3,rfl⟩:=sh;have nh:=hx;rw[V9,ak,aa] at nh;obtain⟨oJ,hd,rfl⟩:=nh;have eg:(n6 (cs.map b7.lo)).getD i 0=oJ:=by simp[List.getD,hd]
  refine p0 ?_
  try show cA _ _ _ _ _ _
  walk_at"";refine vc ?_;walk_at"";have b1:=Jk (n:=cs.length) (q:=meant cs .lower oJ) (s:=s |||2 ^ p) (S:=λi=>s.testBit i||decide (i=p)) (λi _=>L9 s p i);have b2:=Jk (n:=cs.length) (q:=meant cs .lower oJ) (s:=2 ^ cs.length-1-s) (S:=λi=>!s.testBit i) (λi hi=>a41 hs hi);rw[b1,eg];have hu:O2 cs s.testBit p oJ=(((List.range cs.length).any λi=>(s.testBit i||decide (i=p))&&meant cs .lower oJ i)&&(List.range cs.length).any λi=>!s.testBit i&&meant cs .lower oJ i):=rfl;rw[hu];cases (List.range cs.length).any λi=>(s.testBit i||decide (i=p))&&meant cs .lower oJ i with
  |false =>
   refine gb rfl ?_;exact⟨rfl,e,gb rfl ⟨_,_,rfl⟩⟩
  |true =>
   refine gW rfl ?_;walk_at"";refine vc ?_;walk_at"";rw[b2,jf];refine⟨rfl,e,?_⟩;cases (List.range cs.length).any λi=>!s.testBit i&&meant cs .lower oJ i with
   |false=>exact gb rfl ⟨_,_,rfl⟩
   |true =>
    refine gW rfl ?_;walk_at"";refine⟨?_,e,_,_,rfl⟩;simp[List.getD,hx]
 ·refine U2 (b0 d0) ?_;have:(((List.range (V9 cs).length).filter λi=>O2 cs s.testBit p ((n6 (cs.map b7.lo)).getD i 0)).map λi=>(V9 cs).getD i .bD).length=A3 cs s.testBit p:=by
   rw[ag,EI,YS (n6 (cs.map b7.lo)) 0 (O2 cs s.testBit p)]
   rfl
  rw[this];exact h _ (e.trans (Ex.snoc _ _))
 ·walk_at"";exact S4 h1 rfl q
theorem Iw{q:b7->b7->Bool}{p:Nat}(hp:p<cs.length):fR (qR cs q) (p:Int)=some (.int ((gU cs.length λj=>q (cR cs j) (cR cs p):Nat):Int)):=F8 (by rw[qR,ak,cG hp];rfl)
theorem Jl{s n:Nat}{q:Nat->Bool}:((Builtin.bitAnd (s:Nat) ((gU n q:Nat):Int)) != 0)=(List.range n).any λi=>s.testBit i&&q i:=by rw[Ba,xF]
theorem Ib(hT:TB0 T)(B:Bd g b cs v rs)(hz:cs.length<=9)(hr:rs.length<=900){s p:Nat}(hs:s<2 ^ cs.length)(hp:p<cs.length)(h:∀g',Ex g g'->Q (rE (fault cs v rs s.testBit p)) g'):d4 T (k+3) 101 [.ref b,.int (s:Nat),.int (p:Nat)] g Q E:=by
 refine call_of hT.Ao rfl ?_;dsimp[Z2,d8,List.replicate];obtain⟨w,l,dd,nb,h1,h2,h3,h4,h5⟩:=B.ex;walk_at"";refine S4 h1 rfl ?_;walk_at"";refine u6 (b0 h2) (Iw hp) ?_;refine vc ?_;walk_at"";rw[Jl];cases c1:(List.range cs.length).any λi=>s.testBit i&&mw (cR cs i) (cR cs p) with
 |true =>
  refine gW rfl ?_;walk_at"";have:fault cs v rs s.testBit p="wear":=by unfold fault E8;rw[aF c1]
  rw[this] at h;exact h _ (Ex.refl _)
 |false =>
 refine gb rfl ?_;walk_at"";refine S4 h1 rfl ?_;walk_at"";refine u6 (b0 h3) (Iw hp) ?_;refine vc ?_;walk_at"";rw[Jl];cases c2:(List.range cs.length).any λi=>s.testBit i&&jw (cR cs i) (cR cs p) with
 |true =>
  refine gW rfl ?_;walk_at"";have:fault cs v rs s.testBit p="year":=by unfold fault E8 J1;rw[az (by rw[c1];decide),aF c2]
  rw[this] at h;exact h _ (Ex.refl _)
 |false =>
 refine gb rfl ?_;walk_at"";refine WV (k:=k) hT B hz hs hp λg2 e2=>?_;walk_at"";refine S4 (e2.at h1) rfl ?_;walk_at"";refine if2 (λc3=>?_) (λc3=>?_)
 ·walk_at"";have:fault cs v rs s.testBit p="anvil":=by unfold fault E8 J1;rw[az (by rw[c1];decide),az (by rw[c2];decide),aF c3]
  rw[this] at h;exact h _ e2
 walk_at"";obtain⟨as,q1,q2,q3,q4,q5⟩:=h5.ex;have Ma:p<as.length:=by omega
 have zR:=ai Ma;generalize as[p]=ap at zR;obtain⟨ms,m1,m2,m3⟩:=q5 p ap zR;refine comp_map (b8 T _) (λZ=>∃z1 z2,Z=[some (.int (s:Nat)),z1,z2]) (λi=>.int ((s &&& ms.getD i 0:Nat):Int)) (l:=d5 ms) (k:=.lst ap) (λg' e=>u7 (b0 ((e2.trans e).at m1))) (by simp[d5];omega) ⟨none,none,rfl⟩ (λi x Z g' hx e sh=>?_) (λg' e=>?_) (oR (b8 T _) (b0 (e2.at m1)) λQ q=>?_)
 ·obtain⟨z1,z2,rfl⟩:=sh;rw[d5,ak,aa] at hx;obtain⟨m,hm,rfl⟩:=hx;refine p0 ?_
  try show aK _ _ _ _ _ _
  walk_at"";refine vc ?_;refine⟨?_,e,_,_,rfl⟩;rw[Ba];simp[List.getD,hm]
 ·refine Vv (ns:=(List.range (d5 ms).length).map λi=>((s &&& ms.getD i 0:Nat):Int)) (b0 (by rw[cz];exact d0)) ?_;have en:(((List.range (d5 ms).length).map λi=>((s &&& ms.getD i 0:Nat):Int)).all λn=>n != 0)=C3 cs rs s.testBit p:=by
   rw[bf,aV];unfold C3;rw[aV];constructor
   ·intro hA r hr;cases zu:meant cs r.w r.y p with
    |false=>rfl
    |true =>
     have hm:=(m3 (gU cs.length (meant cs r.w r.x))).mpr ⟨r,hr,zu,rfl⟩;obtain⟨i,hi⟩:=eV.mp hm;have Ez:=(aj.mp hi).1;have:=hA ((s &&& gU cs.length (meant cs r.w r.x):Nat):Int) (aQ.mpr ⟨i,aJ.mpr (by simpa[d5] using Ez),by simp[List.getD,hi]⟩);rw[xF] at this;exact this
   ·intro hA x hx;obtain⟨i,hi,rfl⟩:=aQ.mp hx;have hi:i<ms.length:=by simpa[d5] using hi
    have hm:ms.getD i 0∈ms:=by simp[List.getD,hi]
    obtain⟨r,hr,zu,em⟩:=(m3 _).mp hm;have:=hA r hr;rw[zu,Bool.not_true,pq] at this;rw[em,xF];exact this
  rw[en];walk_at"";cases c4:C3 cs rs s.testBit p with
  |true =>
   walk_at"";have:fault cs v rs s.testBit p="":=by unfold fault E8 J1;rw[az (by rw[c1];decide),az (by rw[c2];decide),az c3,aF c4]
   rw[this] at h;exact h _ (e2.trans (e.trans (Ex.snoc _ _)))
  |false =>
   walk_at"";have:fault cs v rs s.testBit p="rule":=by unfold fault E8 J1;rw[az (by rw[c1];decide),az (by rw[c2];decide),az c3,az (by rw[c4];decide)]
   rw[this] at h;exact h _ (e2.trans (e.trans (Ex.snoc _ _)))
 ·walk_at"";refine S4 (e2.at h1) rfl ?_;walk_at"";exact u6 (b0 (e2.at q1)) (F8 (by rw[ak,zR];rfl)) q
end
noncomputable def rX:aW:=⟨2,5,(.seq (.set 2 (df (.prim .lst (pA (hV "coin") (hV "coin") (hV "lower") (hV "upper"))) (.call 4 (dc aL (bg 4))))) (.seq (.set 3 (dF .iP (dF .len bo))) (.seq (.ifs (dY .Eq bh (hV "lower")) (.seq (.set 3 (dF .sset (.comp [] 2 (.one 1) (.fB bo) .no (df bo (bg 0))))) .pass) .pass) (.seq (.ifs (dY .Eq bh (hV "upper")) (.seq (.set 3 (dF .sset (.comp [] 2 (.one 1) (.fB bo) .no (df bo (bg 2))))) .pass) .pass) (.seq (.ifs (dY .Lt (dF .len bT) (bg 2)) (.seq (.ret (.lit .bD)) .pass) .pass) (.seq (.set 4 (.call 4 (dc aL (dF .len bT)))) (.seq (.ret (.prim .tup (fH bh (df bT cJ) (df bT (bY (.bin .Mod) (bY (.bin .Add) (bY (.bin .Add) cJ (bg 1)) (.call 4 (dc aL (bY (.bin .Sub) (dF .len bT) (bg 1))))) (dF .len bT)))))) .pass)))))))⟩
noncomputable def CL:aW:=⟨2,5,(.seq (.set 2 (.prim .lst .nil)) (.seq (.dS (.one 3) (.fg (df (.prim .lst (EX (bg 0) (bg 0) (bg 1) (bg 1) (bg 2) (bg 4))) (.call 4 (dc aL (bg 6))))) (.seq (.set 4 (.call 105 (dc aL bo))) (.seq (.ifs (dY .IsNot cJ (.lit .bD)) (.seq (.expr (.eA .append bh (eZ cJ))) .pass) .pass) .pass))) (.seq (.ret bh) .pass)))⟩
structure yd(T:Nat->Option aW):Prop where
 lf:LF T
 Al:T 105=some rX
 Ak:T 106=some CL
theorem Iq{cs:List b7}{w:RW}{x:Int}{i:Nat}(hi:i<cs.length)(h:meant cs w x i=true):(iD cs w x).isEmpty=false:=by
 cases e:iD cs w x with
 |nil =>
  have:i∈iD cs w x:=aO.mpr ⟨aJ.mpr hi,h⟩;rw[e] at this;cases this
 |cons _ _=>rfl
section
variable{T:Nat->Option aW}{k d:Nat}{g g':G}{Q:KD}{E:KX}{a b c:Nat}{cs:List b7}{rs:List du}{v:Int}
theorem GW{ns:List Int}{x:Int}:x∈n6 ns↔x∈ns:=by
 rw[(O7 ns).mem_iff,ST.Hw];simp
theorem Bz(ns:List Int):(n6 ns).Nodup:=(O7 ns).nodup_iff.mpr (ST.GX _ _ (by simp))
theorem Hg(hT:yd T)(D0:j4 g d){w:RW}{L:List Int}{sL:Nat}{N:Ends}(hN:N.rt=Q)(hL:g[sL]?=some (.lst (L.map .int)))(hd:sL≠d)(nd:L.Nodup)(hl:L.length<=9)(hm:∀x∈L,(iD cs w x).isEmpty=false)(h:∀g',j4 g' d->Gr d g g'->Q .bD g'/\∀r,j9 cs r=true->Q r.d g'):wpS (d4 T (k+1)) (match rX.body with|.seq _ (.seq _ (.seq _ (.seq _ b)))=>b|x=>x) N [some (.ref d),some (.ref a),some (.str w.s),some (.ref sL),none] g E:=by
 subst hN;dsimp[rX];walk_at"";refine if2 (λh2=>?_) (λh2=>?_)
 ·walk_at"";exact(h g D0 (Gr.refl _ _)).1
 rw[ag] at h2;walk_at"";refine i5 (k:=k) hT.lf.pull D0 (by rw[ag];omega) (by rw[ag];omega) λr1 g1 h0 h1 D1 G1=>?_;rw[ag] at h1;walk_at"";obtain⟨j,rfl⟩:∃j:Nat,r1=j:=⟨r1.toNat,by omega⟩
 have hj:j<L.length:=by omega
 have gj:fR (L.map D.int) (j:Int)=some (.int L[j]):=F8 (by rw[ak,ai hj];rfl);refine u6 (b0 (G1.at hd hL)) gj ?_;walk_at"";refine U2 (b0 (G1.at hd hL)) ?_;walk_at"";refine i5 (k:=k) hT.lf.pull D1 (by rw[ag];omega) (by rw[ag];omega) λr2 g2 k0 k1 D2 G2=>?_;rw[ag] at k1;walk_at"";have qa:=(G1.trans G2).at hd hL;refine U2 (b0 qa) ?_;walk_at"";refine P6 (by rw[ag];omega) ?_;obtain⟨j2,rfl⟩:∃j:Nat,r2=j:=⟨r2.toNat,by omega⟩
 have em:((j:Int)+1+(j2:Nat)) % ((L.map D.int).length:Nat)=(((j+1+j2) % L.length:Nat):Int):=by rw[ag,Int.natCast_emod,show((j+1+j2:Nat):Int)=(j:Int)+1+(j2:Nat) by omega]
 rw[em];have Ey:(j+1+j2) % L.length<L.length:=Ko _ (by omega);have dw:(j+1+j2) % L.length≠j:=by
  by_cases hc:j+1+j2<L.length
  ·rw[Nat.mod_eq_of_lt hc];omega
  ·rw[Nat.mod_eq_sub_mod (by omega),Nat.mod_eq_of_lt (by omega)];omega
 generalize (j+1+j2) % L.length=j3 at *;have Nw:fR (L.map D.int) (j3:Int)=some (.int L[j3]):=F8 (by rw[ak,ai Ey];rfl);refine u6 (b0 qa) Nw ?_;walk_at"";refine(h g2 D2 (G1.trans G2)).2 ⟨w,L[j],L[j3]⟩ ?_;unfold j9;rw[hm _ (cx hj),hm _ (cx Ey),aB (λz=>dw ((gG nd).mp z).symm)]
 rfl
theorem SU(hT:yd T)(ha:g[a]?=some (.lst (cs.map b7.d)))(hz:cs.length<=9)(hd:d<a)(D0:j4 g d)(h:∀g',j4 g' d->Gr d g g'->Q .bD g'/\∀r,j9 cs r=true->Q r.d g'):d4 T (k+2) 105 [.ref d,.ref a] g Q E:=by
 refine call_of hT.Al rfl ?_;dsimp[rX,d8,List.replicate];walk_at"";refine i5 (k:=k) hT.lf.pull (D0.snoc _) (by decide) (by decide) λr0 g1 h0 h1 D1 G1=>?_;have Dr:=(Gr.snoc d g _).trans G1;have rz:=Dr.at (bO hd) ha;have l1:=Dr.len;have dl:=D0.lt;have hw:∃w:RW,fR [D.str "coin",D.str "coin",D.str "lower",D.str "upper"] r0=some (.str w.s):=by
  obtain⟨j,rfl⟩:∃j:Nat,r0=j:=⟨r0.toNat,by omega⟩
  have:j=0\/j=1\/j=2\/j=3:=by omega
  rcases this with rfl|rfl|rfl|rfl
  ·exact⟨.eM,rfl⟩
  ·exact⟨.eM,rfl⟩
  ·exact⟨.lower,rfl⟩
  ·exact⟨.upper,rfl⟩
 obtain⟨w,hw⟩:=hw;walk_at"";refine u6 (b0 (G1.at (bO dl) d0)) hw ?_;walk_at"";refine Ea (by omega) (by simp;omega) ?_;walk_at"";have e2:=Ex.snoc g1 (O.lst (l6 0 (Int.toNat ((cs.map b7.d).length:Nat))));have qZ:=d0 (g:=g1) (o:=O.lst (l6 0 (Int.toNat ((cs.map b7.d).length:Nat))));generalize g1++[O.lst (l6 0 (Int.toNat ((cs.map b7.d).length:Nat)))]=g2 at *;have wC:=e2.at rz;have D2:=e2.draw D1;have G2:=Dr.trans (e2.gr d);have fld:∀(f:Int) (w:RW) (N:Ends),(f=0\/f=2)->(∀i c,cs[i]?=some c->∀x,meant cs w x i=decide (oP f c=x))->N.rt=Q->aK (d4 T (k+1)) (.prim .sset (.cons (.comp [] 2 (.one 1) (.fB (.var 1)) .no (.prim .ix (.cons (.var 1) (.cons (.lit (.int f)) .nil)))) .nil)) [some (.ref d),some (.ref a),some (.str w.s),some (.ref g1.length),none] g2 (λx g3=>wpS (d4 T (k+1)) (match rX.body with|.seq _ (.seq _ (.seq _ (.seq _ b)))=>b|x=>x) N [some (.ref d),some (.ref a),some (.str w.s),some x,none] g3 E) E:=λf w N hf hm hN=>by
  walk_at"";refine comp_map (b8 T _) (λZ=>∃z0 z1,Z=[z0,z1]) (λi=>.int (oP f (cR cs i))) (l:=cs.map b7.d) (k:=.lst a) (λg' e=>u7 (b0 (e.at wC))) (by simp;omega) ⟨none,none,rfl⟩ (λi x Z g' hx e sh=>?_) (λg' e=>?_) (oR (b8 T _) (b0 wC) λQ q=>w_var (d:=.ref a) rfl q)
  ·obtain⟨z0,z1,rfl⟩:=sh;rw[ak,aa] at hx;obtain⟨c,hc,rfl⟩:=hx;refine p0 ?_
   try show aK _ _ _ _ _ _
   walk_at"";refine E4 (Ih hf c) ?_;exact⟨by rw[B4 hc],e,_,_,rfl⟩
  ·refine PZ (ns:=(List.range cs.length).map λi=>oP f (cR cs i)) (b0 (by rw[cz];rw[d0,ag];rfl)) (by simp;omega) ?_;have e3:=(e.trans (Ex.snoc g' (O.lst ((List.range (cs.map b7.d).length).map λi=>D.int (oP f (cR cs i)))))).trans (Ex.snoc _ (O.lst ((n6 ((List.range cs.length).map λi=>oP f (cR cs i))).map .int)));have zy:(n6 ((List.range cs.length).map λi=>oP f (cR cs i))).length<=9:=aG (T4 _) (by simpa using hz);refine Hg (k:=k) hT (e3.draw D2) hN d0 (by have:=D2.lt;have:=e.len;simp;omega) (Bz _) zy (λx hx=>?_) λg4 D4 G4=>h g4 D4 (G2.trans ((e3.gr d).trans G4));rw[GW] at hx;obtain⟨i,hi,rfl⟩:=aQ.mp hx;have hi:=aJ.mp hi;have hc:=ai hi;refine Iq hi ?_;rw[hm i _ hc,B4 hc];exact aC rfl
 cases w with
 |eM =>
  refine gb (by decide +kernel) ?_;walk_at"";refine gb (by decide +kernel) ?_
  try refine Q4 ?_
  have er:l6 0 (Int.toNat ((cs.map b7.d).length:Nat))=((List.range cs.length).map λ(i:Nat)=>(i:Int)).map D.int:=by
   simp[l6]
  refine Hg (k:=k) hT (w:=.eM) (L:=(List.range cs.length).map λ(i:Nat)=>(i:Int)) D2 rfl (by rw[<- er];exact qZ) (by omega) ?_ (by simpa using hz) (λx hx=>?_) λg4 D4 G4=>h g4 D4 (G2.trans G4)
  ·exact List.pairwise_map.mpr (kB.imp λh e=>h (by omega))
  ·obtain⟨i,hi,rfl⟩:=aQ.mp hx;exact Iq (aJ.mp hi) (aC rfl)
 |lower =>
  refine gW (by decide +kernel) ?_;refine vo ?_;refine xq ?_;refine b9 (b8 T _) _ _ _ _ _ _ _ (λx g3 q=>?_) (λ_ _ z=>z) (fld 0 .lower ⟨λ_ g'=>Q .bD g',Q,λ_ _=>False,λ_ _=>False⟩ (.inl rfl) (λi c hc x=>by simp only[meant,B4 hc];rfl) rfl);refine Ct ?_;walk_at"";refine gb (by decide +kernel) ?_
  try refine Q4 ?_
  exact q
 |upper =>
  refine gb (by decide +kernel) ?_;walk_at"";refine gW (by decide +kernel) ?_;refine vo ?_;refine xq ?_;exact fld 2 .upper _ (.inr rfl) (λi c hc x=>by simp only[meant,B4 hc];rfl) rfl
end
section
variable{T:Nat->Option aW}{k d:Nat}{g g':G}{Q:KD}{E:KX}{a b c:Nat}{cs:List b7}{rs:List du}{v:Int}
theorem a05(hT:yd T)(ha:g[a]?=some (.lst (cs.map b7.d)))(hz:cs.length<=9)(hd:d<a)(D0:j4 g d)(h:∀(rs:List du) b g',rs.length<=4->rs.all (j9 cs)=true->g'[b]?=some (.lst (p6 rs))->g.length<=b->j4 g' d->Gr d g g'->Q (.ref b) g'):d4 T (k+3) 106 [.ref d,.ref a] g Q E:=by
 refine call_of hT.Ak rfl ?_;dsimp[CL,d8,List.replicate];walk_at"";have dl:=D0.lt;have e1:=Ex.snoc g (O.lst []);have EF:=d0 (g:=g) (o:=O.lst []);have D1:=D0.snoc (O.lst []);generalize g++[O.lst []]=g1 at *;refine B6 (b8 T _) (qx (b8 T _) ?_);walk_at"";refine i5 (k:=k+1) hT.lf.pull (D1.snoc _) (by decide) (by decide) λr0 g2 h0 h1 D2 G2=>?_;have l1:=k8 EF;have hw:∃j:Nat,j<=4/\fR [D.int 0,D.int 0,D.int 1,D.int 1,D.int 2,D.int 4] r0=some (.int (j:Nat)):=by
  obtain⟨j,rfl⟩:∃j:Nat,r0=j:=⟨r0.toNat,by omega⟩
  have:j=0\/j=1\/j=2\/j=3\/j=4\/j=5:=by omega
  rcases this with rfl|rfl|rfl|rfl|rfl|rfl
  ·exact⟨0,by decide,rfl⟩
  ·exact⟨0,by decide,rfl⟩
  ·exact⟨1,by decide,rfl⟩
  ·exact⟨1,by decide,rfl⟩
  ·exact⟨2,by decide,rfl⟩
  ·exact⟨4,by decide,rfl⟩
 obtain⟨j,hj,hw⟩:=hw;refine u6 (b0 (G2.at (by omega) d0)) hw ?_;refine⟨j,rfl,by omega,by omega,_,λi Z g'=>j4 g' d/\Gr d g g'/\(∃rs:List du,rs.length<=i/\rs.all (j9 cs)=true/\g'[g.length]?=some (.lst (p6 rs)))/\∃z3 z4,Z=[some (.ref d),some (.ref a),some (.ref g.length),z3,z4],λ_ _ _ _=>B0,⟨D2,(e1.gr d).trans ((Gr.snoc d g1 _).trans G2),⟨[],by simp,rfl,((Gr.snoc d g1 _).trans G2).at (by omega) EF⟩,none,none,rfl⟩,λi x Z g' hx q=>?_,λZ g' q=>?_⟩
 ·obtain⟨D3,G3,⟨rs,hl,hA,hF⟩,z3,z4,rfl⟩:=q;obtain⟨hi,rfl⟩:=J8 hx;have hi:i<j:=by simpa using hi
  refine p0 ?_
  try show wpS _ _ _ _ _ _
  walk_at"";have wB:=G3.at (bO hd) ha;refine SU (k:=k) hT wB hz hd D3 λg4 D4 G4=>⟨?_,λr hr=>?_⟩
  ·walk_at"";exact⟨D4,G3.trans G4,⟨rs,by omega,hA,G4.at (by omega) hF⟩,_,_,rfl⟩
  ·walk_at"";refine gW rfl ?_;walk_at"";have Ab:=G4.at (by omega) hF
   try refine⟨vk Ab,?_⟩
   walk_at"";refine T9 Ab (by simp[p6];omega) ?_;walk_at"";refine⟨D4.J5 (by omega),(G3.trans G4).J5 (av _),⟨rs++[r],by simp;omega,by rw[List.all_append,hA];simp[hr],?_⟩,_,_,rfl⟩;rw[get_set Ab];simp[p6]
 ·obtain⟨D3,G3,⟨rs,hl,hA,hF⟩,z3,z4,rfl⟩:=q;rw[o6] at hl
  try show wpS _ _ _ _ _ _
  walk_at"";exact h rs _ _ (by simp at hl;omega) hA hF (av _) D3 G3
theorem RJ{cs:List b7}{i:Nat}(hi:i<cs.length):fR (cs.map b7.d) (i:Int)=some (cR cs i).d:=F8 (by rw[ak,ai hi,B4 (ai hi)];rfl)
end
noncomputable abbrev iY(H:List Nat):Nat->Bool:=λi=>decide (i∈H)
section
variable{T:Nat->Option aW}{k d:Nat}{g g':G}{Q:KD}{E:KX}{a b c hl p:Nat}{cs:List b7}{rs:List du}{v:Int}{H:List Nat}
end
section
variable{T:Nat->Option aW}{k d:Nat}{g g':G}{Q:KD}{E:KX}{a b c hl p:Nat}{cs:List b7}{rs:List du}{v:Int}{H:List Nat}
end
noncomputable def Z4:aW:=⟨3,3,(.seq (.ret (.dG (bY (.cmp .NotEq) (.call 91 (dc bo bh)) bo) (bY (.cmp .Is) (.call 101 (fH aL bo bh)) (.lit .bD)))) .pass)⟩
noncomputable def Z5:aW:=⟨2,2,(.seq (.ret (.comp [0,1] 4 (.one 3) (.fg (dF (.fld "size") aL)) (.fP (.call 115 (fH aL bo bT))) bT)) .pass)⟩
noncomputable def S1(cs:List b7)(v:Int)(rs:List du)(s p:Nat):Bool:=!s.testBit p&&decide (fault cs v rs s.testBit p="")
noncomputable def p8(cs:List b7)(v:Int)(rs:List du)(s:Nat):List Nat:=(List.range cs.length).filter (S1 cs v rs s)
theorem Js(x:Str):L0 (rE x)=decide (x=""):=by
 unfold rE;by_cases h:x=""
 ·rw[aF h,aC h];rfl
 ·rw[az h,aB h];rfl
theorem Wl{s p:Nat}:decide (((s |||2 ^ p:Nat):Int)=(s:Nat))=s.testBit p:=by
 rw[bf,cN];constructor
 ·intro h;have h:s |||2 ^ p=s:=by omega
  have:=L9 s p p;rw[h] at this;rw[this];simp
 ·intro h;have:s |||2 ^ p=s:=yh λi=>by
   rw[L9];by_cases hi:i=p
   ·subst hi;rw[h];rfl
   ·rw[aB hi,Bool.or_false]
  rw[this]
structure TF(T:Nat->Option aW):Prop where
 qg:T 115=some Z4
 Ai:T 116=some Z5
section
variable{T:Nat->Option aW}{k d:Nat}{g g':G}{Q:KD}{E:KX}{a b c hl p:Nat}{cs:List b7}{rs:List du}{v:Int}{H:List Nat}
theorem YV(hT:TB0 T)(qg:T 115=some Z4)(B:Bd g b cs v rs)(hz:cs.length<=9)(hr:rs.length<=900){s p:Nat}(hs:s<2 ^ cs.length)(hp:p<cs.length)(h:∀g',Ex g g'->Q (.bl (S1 cs v rs s p)) g'):d4 T (k+4) 115 [.ref b,.int (s:Nat),.int (p:Nat)] g Q E:=by
 refine call_of qg rfl ?_;dsimp[Z4,d8,List.replicate];walk_at"";refine v7 (k:=k+2) hT.mO (by omega) ?_;walk_at"";rw[Wl];cases hb:s.testBit p with
 |true =>
  refine gb rfl ?_;have:S1 cs v rs s p=false:=by unfold S1;rw[hb];rfl
  rw[this] at h;exact h _ (Ex.refl _)
 |false =>
  refine gW rfl ?_;walk_at"";refine Ib (k:=k) hT B hz hr hs hp λg1 e1=>?_;walk_at"";have:S1 cs v rs s p=L0 (rE (fault cs v rs s.testBit p)):=by unfold S1;rw[hb,Js];rfl
  rw[this] at h;exact h _ e1
theorem S0(hT:TB0 T)(hF:TF T)(B:Bd g b cs v rs)(hz:cs.length<=9)(hr:rs.length<=900){s:Nat}(hs:s<2 ^ cs.length)(h:∀g' l,Ex g g'->g.length<=l->g'[l]?=some (.lst (d5 (p8 cs v rs s)))->Q (.ref l) g'):d4 T (k+5) 116 [.ref b,.int (s:Nat)] g Q E:=by
 refine call_of hF.Ai rfl ?_;dsimp[Z5,d8,List.replicate];obtain⟨w,l,dd,nb,h1,h2,h3,h4,h5⟩:=B.ex;walk_at"";refine B3 (b8 T _) (λZ=>∃z2 z3,Z=[some (.ref b),some (.int (s:Nat)),z2,z3]) (S1 cs v rs s) (λi=>.int (i:Nat)) (l:=l6 0 cs.length) (λg' e=>B0) (by rw[o6];omega) ⟨none,none,rfl⟩ (λi d Z g' hx e sh=>?_) (λg' e=>?_) (FV (b8 T _) (by omega:cs.length<=1000) λQ q=>?_)
 ·obtain⟨z2,z3,rfl⟩:=sh;obtain⟨hi,rfl⟩:=J8 hx;rw[sA];refine p0 ?_
  try show cA _ _ _ _ _ _
  walk_at"";refine YV (k:=k) hT hF.qg (B.at e) hz hr hs hi λg2 e2=>?_;walk_at"";refine⟨rfl,e.trans e2,?_⟩;cases S1 cs v rs s i with
  |true =>
   refine gW rfl ?_;walk_at"";exact⟨rfl,e.trans e2,_,_,rfl⟩
  |false=>exact gb rfl ⟨_,_,rfl⟩
 ·rw[o6];exact h _ _ (e.trans (Ex.snoc _ _)) e.len d0
 ·walk_at"";exact S4 h1 rfl q
end
noncomputable def K8:aW:=⟨2,4,(.seq (.ifs (dY .NotEq (dF .len bo) aL) (.seq (.ret (bY .tup (hV "many") (dF .len bo))) .pass) .pass) (.seq (.dS (.many [2,3]) (.jH bo) (.seq (.ifs (.eL (.fP (.call 1 (fH bT (bg 0) (bY (.bin .Sub) aL (bg 1)))))) (.seq (.ret (bY .tup (hV "stranger") bh)) .pass) .pass) (.seq (.ifs (dY .In bT (bY (.kf false true) bo bh)) (.seq (.ret (bY .tup (hV "twice") bh)) .pass) .pass) .pass))) (.seq (.ret (.lit .bD)) .pass)))⟩
noncomputable def Bx:aW:=⟨2,7,(.seq (.set 2 (.call 102 (dc (dF (.fld "size") aL) bo))) (.seq (.ifs (dY .IsNot bh (.lit .bD)) (.seq (.ret bh) .pass) .pass) (.seq (.set 3 (bg 0)) (.seq (.dS (.many [4,5]) (.jH bo) (.seq (.set 6 (.call 101 (fH aL bT eR))) (.seq (.ifs (dY .IsNot ff (.lit .bD)) (.seq (.ret (bY .tup ff cJ)) .pass) .pass) (.seq (.set 3 (.call 91 (dc bT eR))) .pass)))) (.seq (.ret (.lit .bD)) .pass)))))⟩
noncomputable def V0:aW:=⟨4,4,(.seq (.ret (.call 103 (dc (.call 99 (fH aL bo bh)) bT))) .pass)⟩
theorem IJ{α:Type}{f:Nat->Option α}{i:Nat}:(List.range (i+1)).findSome? f=none↔(List.range i).findSome? f=none/\f i=none:=by
 rw[dU,vK];cases (List.range i).findSome? f<;>simp
theorem CH{α:Type}{f:Nat->Option α}{i n:Nat}{r:α}(h:(List.range i).findSome? f=none)(hi:i<n)(hr:f i=some r):(List.range n).findSome? f=some r:=by
 have e:List.range n=List.range i++(List.range (n-i)).map (i+·):=by
  rw[<- List.range_add]
  congr 1
  omega
 obtain⟨m,hm⟩:∃m,n-i=m+1:=⟨n-i-1,by omega⟩
 rw[e,vK,h,hm,List.range_succ_eq_map];simp[hr]
noncomputable def kI(n:Nat)(ns:List Int)(i:Nat):Option (Str×Nat):=if 0<=ns.getD i 0/\ns.getD i 0<n then(if ns.getD i 0∈ns.take i then some ("twice",i) else none) else some ("stranger",i)
noncomputable def E9(ns:List Int)(i:Nat):List Nat:=(ns.take i).map Int.toNat
noncomputable def ny(cs:List b7)(v:Int)(rs:List du)(ns:List Int)(i:Nat):Option (Str×Nat):=if fault cs v rs (iY (E9 ns i)) (ns.getD i 0).toNat="" then none else some (fault cs v rs (iY (E9 ns i)) (ns.getD i 0).toNat,i)
noncomputable def pairF:Option (Str×Nat)->D
 |some (w,i)=>.tup [.str w,.int i]
 |none=>.bD
noncomputable def uW(cs:List b7)(v:Int)(rs:List du)(ns:List Int):Option (Str×Nat) :=
 if ns.length=cs.length then((List.range ns.length).findSome? (kI cs.length ns)).orElse λ_=>(List.range ns.length).findSome? (ny cs v rs ns) else some ("many",ns.length)
theorem getD_at{ns:List Int}{i:Nat}{x:Int}(h:ns[i]?=some x):ns.getD i 0=x:=by simp[List.getD,h]
theorem Wt{n:Nat}{ns:List Int}(h:(List.range ns.length).findSome? (kI n ns)=none){i:Nat}(hi:i<ns.length):(0<=ns.getD i 0/\ns.getD i 0<n)/\ns.getD i 0∉ns.take i:=by
 have:=fO.mp h i (aJ.mpr hi);unfold kI at this;split at this
 ·rename_i h1;split at this
  ·cases this
  ·rename_i h2;exact⟨h1,h2⟩
 ·cases this
theorem Yt{ns:List Int}{i:Nat}(hi:i<ns.length):E9 ns (i+1)=E9 ns i++[(ns.getD i 0).toNat]:=by
 unfold E9;rw[bz,ai hi,getD_at (ai hi),cE]
 rfl
theorem Sf{l:List Int}{x:Int}:(l.any λm=>m==x)=decide (x∈l):=by
 rw[bf,bP,cN];exact⟨λ⟨y,hy,e⟩=>(fJ.mp e)▸hy,λhy=>⟨x,hy,by simp⟩⟩
structure TO(T:Nat->Option aW):Prop where
 qh:T 102=some K8
 An:T 103=some Bx
section
variable{T:Nat->Option aW}{k d:Nat}{g g':G}{Q:KD}{E:KX}{a b c r:Nat}{cs:List b7}{rs:List du}{v:Int}{ns:List Int}
theorem Xb(h1:NF T)(qh:T 102=some K8){n:Nat}(hr:g[r]?=some (.lst (ns.map .int)))(hz:ns.length<=100)(h:∀g',Ex g g'->Q (pairF (if ns.length=n then(List.range ns.length).findSome? (kI n ns) else some ("many",ns.length))) g'):d4 T (k+3) 102 [.int (n:Nat),.ref r] g Q E:=by
 refine call_of qh rfl ?_;dsimp[K8,d8,List.replicate];walk_at"";rw[ag];by_cases hn:ns.length=n
 ·rw[aF hn] at h;refine gb (by rw[aC (by omega)];rfl) ?_;walk_at"";refine B6 (b8 T _) (tP ?_);walk_at"";refine⟨r,_,rfl,b0 hr,kr (ns.map .int),λi Z g'=>Ex g g'/\(List.range i).findSome? (kI n ns)=none/\∃z2 z3,Z=[some (.int (n:Nat)),some (.ref r),z2,z3],λi Z g' q=>X7 (b0 (q.1.at hr)),⟨Ex.refl _,rfl,none,none,rfl⟩,λi x Z g' hx q=>?_,λZ g' q=>?_⟩
  ·obtain⟨e1,q,z2,z3,rfl⟩:=q;obtain⟨dd,hd,rfl⟩:=Q1 hx;rw[ak,aa] at hd;obtain⟨x,oj,rfl⟩:=hd;have hi:i<ns.length:=(aj.mp oj).1;have hg:=getD_at oj;refine A1 rfl ?_
   try show wpS _ _ _ _ _ _
   walk_at"";refine A2 (k:=k) h1 ?_;walk_at"";by_cases hs:0<=x/\x<n
   ·rw[aC hs.1,aC (show x<=(n:Int)-1 by omega)];refine gb rfl ?_;walk_at"";refine xB (b0 (e1.at hr)) ?_;rw[CG (by rw[ag];omega),<- gh];refine CW (GQ (b0 d0) ?_);rw[Sf];walk_at"";refine if2 (λht=>?_) (λht=>?_)
    ·walk_at"";rw[CH q hi (show kI n ns i=some (("twice":Str),i) by unfold kI;rw[hg,aF hs,aF ht])] at h;exact h _ (e1.trans (Ex.snoc _ _))
    ·walk_at"";exact⟨e1.trans (Ex.snoc _ _),IJ.mpr ⟨q,by unfold kI;rw[hg,aF hs,az ht]⟩,_,_,rfl⟩
   ·have:(decide (0<=x)&&decide (x<=(n:Int)-1))=false:=by
     rw[vL,bZ,bZ];omega
    rw[this];walk_at"";rw[CH q hi (show kI n ns i=some (("stranger":Str),i) by unfold kI;rw[hg,az hs])] at h;exact h _ e1
  ·obtain⟨e1,q,z2,z3,rfl⟩:=q;rw[F6,ag] at q;rw[q] at h
   try show wpS _ _ _ _ _ _
   walk_at"";exact h _ e1
 ·rw[az hn] at h;refine gW (by rw[aB (by omega)];rfl) ?_;walk_at"";rw[ag];exact h _ (Ex.refl _)
theorem a47{o:Option (Str×Nat)}:L0 (pairF o)=o.isNone:=by cases o<;>rfl
theorem ZL(hT:TB0 T)(hO:TO T)(B:Bd g b cs v rs)(hz:cs.length<=9)(hR:rs.length<=900)(hr:g[r]?=some (.lst (ns.map .int)))(hl:ns.length<=100)(h:∀g',Ex g g'->Q (pairF (uW cs v rs ns)) g'):d4 T (k+4) 103 [.ref b,.ref r] g Q E:=by
 refine call_of hO.An rfl ?_;dsimp[Bx,d8,List.replicate];obtain⟨w0,l0,dd,nb,f1,f2,f3,f4,f5⟩:=B.ex;walk_at"";refine S4 f1 rfl ?_;walk_at"";refine Xb (k:=k) hT.nf hO.qh hr hl λg1 e1=>?_;walk_at"";rw[a47];unfold uW at h;by_cases hn:ns.length=cs.length
 ·rw[aF hn] at h ⊢;cases hp:(List.range ns.length).findSome? (kI cs.length ns) with
  |some x =>
   refine gW rfl ?_;walk_at"";rw[hp] at h;exact h _ e1
  |none =>
   refine gb rfl ?_;walk_at"";rw[hp] at h;have B1:=B.at e1;refine B6 (b8 T _) (tP ?_);walk_at"";refine⟨r,_,rfl,b0 (e1.at hr),kr (ns.map .int),λi Z g'=>Ex g1 g'/\(List.range i).findSome? (ny cs v rs ns)=none/\∃(s:Nat) (z4 z5 z6:Option D),s<2 ^ cs.length/\(∀j,s.testBit j=iY (E9 ns i) j)/\Z=[some (.ref b),some (.ref r),some .bD,some (.int (s:Nat)),z4,z5,z6],λi Z g' q=>X7 (b0 ((e1.trans q.1).at hr)),⟨Ex.refl _,rfl,0,none,none,none,hJ _,λj=>by simp[E9],rfl⟩,λi x Z g' hx q=>?_,λZ g' q=>?_⟩
   ·obtain⟨e2,q,s,z4,z5,z6,hs,hb,rfl⟩:=q;obtain⟨d2,hd,rfl⟩:=Q1 hx;rw[ak,aa] at hd;obtain⟨x,oj,rfl⟩:=hd;have hi:i<ns.length:=(aj.mp oj).1;have hg:=getD_at oj;have jI:=Wt hp hi;rw[hg] at jI;obtain⟨p,rfl⟩:∃p:Nat,x=p:=⟨x.toNat,by omega⟩
    have kl:p<cs.length:=by omega
    refine A1 rfl ?_
    try show wpS _ _ _ _ _ _
    walk_at"";refine Ib (k:=k) hT (B1.at e2) hz hR hs kl λg3 e3=>?_;walk_at"";have ef:fault cs v rs s.testBit p=fault cs v rs (iY (E9 ns i)) p:=ZK λj _=>hb j;rw[ef];have EC:ny cs v rs ns i=if fault cs v rs (iY (E9 ns i)) p="" then none else some (fault cs v rs (iY (E9 ns i)) p,i):=by unfold ny;rw[hg];rfl
    generalize fault cs v rs (iY (E9 ns i)) p=fx at *;rw[Js];by_cases tQ:fx=""
    ·refine gb (by rw[aC tQ];rfl) ?_;walk_at"";refine v7 (k:=k+2) hT.mO (by omega) ?_;walk_at"";refine⟨e2.trans e3,IJ.mpr ⟨q,by rw[EC,aF tQ]⟩,_,_,_,_,L8 hs kl,λj=>?_,rfl⟩;rw[L9,hb,Yt hi,hg];rw[bf];simp only[Bool.or_eq_true,decide_eq_true_eq,List.mem_append,List.mem_singleton,Int.toNat_natCast]
    ·refine gW (by rw[aB tQ];rfl) ?_;walk_at"";have h2:=CH q hi (show ny cs v rs ns i=some (fx,i) by rw[EC,az tQ]);have ew:rE fx=.str fx:=by unfold rE;rw[az tQ]
     rw[ew];rw[show(Option.none.orElse λ_:Unit=>(List.range ns.length).findSome? (ny cs v rs ns))=some (fx,i) from h2] at h;exact h _ (e1.trans (e2.trans e3))
   ·obtain⟨e2,q,s,z4,z5,z6,hs,hb,rfl⟩:=q;rw[F6,ag] at q;rw[show(Option.none.orElse λ_:Unit=>(List.range ns.length).findSome? (ny cs v rs ns))=none from q] at h
    try show wpS _ _ _ _ _ _
    walk_at"";exact h _ (e1.trans e2)
 ·rw[az hn] at h ⊢;refine gW rfl ?_;walk_at"";exact h _ e1
end
structure Ask(g:G)(a c:Nat)(cs:List b7)(v:Int)(rs:List du):Prop where
 ha:g[a]?=some (.lst (cs.map b7.d))
 hz:cs.length<=9
 hG:∀c∈cs,iF c
 hv:1<=v/\v<=9
 hc:g[c]?=some (.lst (p6 rs))
 hr:rs.length<=900
 hR:rs.all (j9 cs)=true
section
variable{T:Nat->Option aW}{k d:Nat}{g g':G}{Q:KD}{E:KX}{a b c r:Nat}{cs:List b7}{rs:List du}{v:Int}{ns:List Int}
theorem Ask.hB(h:Ask g a c cs v rs):∀c∈cs,CB c:=λc hc=>⟨(h.hG c hc).l8,(h.hG c hc).u8⟩
theorem Ask.good(h:Ask g a c cs v rs):cs.all p9=true:=aV.mpr λc hc=>(h.hG c hc).good
theorem YO(hT:TB T)(A:Ask g a c cs v rs)(h:∀g' b,Ex g g'->g.length<=b->Bd g' b cs v rs->Q (.ref b) g'):d4 T (k+10) 99 [.ref a,.int v,.ref c] g Q E:=W0 hT A.ha A.hz A.good A.hB A.hv A.hc A.hr A.hR h
end
noncomputable def FG(n:Nat)(F:Nat->List Nat):Prop:=∀s p,p∈F s->p<n/\s.testBit p=false
noncomputable def O9(n:Nat)(F:Nat->List Nat):Nat->Nat->List (List Nat)
 |0,s=>if s=2 ^ n-1 then[[]] else[]
 |f+1,s=>if s=2 ^ n-1 then[[]] else(F s).flatMap λp=>(O9 n F f (s |||2 ^ p)).map (p::·)
noncomputable def j7(n:Nat)(F:Nat->List Nat)(s:Nat):List (List Nat):=O9 n F (2 ^ n) s
theorem vf{s p:Nat}(h:s.testBit p=false):s<s |||2 ^ p:=by
 have h1:s<=s |||2 ^ p:=Nat.left_le_or
 have h2:s |||2 ^ p≠s:=λe=>by
  have:=L9 s p p;rw[e,h] at this;simp at this
 omega
theorem B9{α β:Type}{l:List α}{f g:α->List β}(h:∀x∈l,f x=g x):l.flatMap f=l.flatMap g:=by
 induction l with
 |nil=>rfl
 |cons a r ih=>rw[cc,cc,h a (by simp),ih λx hx=>h x (by simp[hx])]
theorem Hy{n:Nat}{F:Nat->List Nat}(hF:FG n F):∀(f s:Nat),s<2 ^ n->2 ^ n-1-s<=f->O9 n F f s=O9 n F (f+1) s
 |0,s,hs,hf=>by
  have e:s=2 ^ n-1:=by omega
  simp only[O9];rw[aF e,aF e]
 |f+1,s,hs,hf=>by
  rw[O9,O9];by_cases e:s=2 ^ n-1
  ·rw[aF e,aF e]
  ·rw[az e,az e];refine B9 λp hp=>?_;have:=hF s p hp;rw[Hy hF f (s |||2 ^ p) (L8 hs this.1) (by have:=vf this.2;omega)]
theorem K0{n:Nat}{F:Nat->List Nat}{s:Nat}(h:s=2 ^ n-1):j7 n F s=[[]]:=by
 unfold j7;obtain⟨m,hm⟩:∃m,2 ^ n=m+1:=⟨2 ^ n-1,by have:=fK (n:=n);omega⟩
 rw[hm,O9,aF h]
theorem W9{n:Nat}{F:Nat->List Nat}(hF:FG n F){s:Nat}(hs:s<2 ^ n)(h:s≠2 ^ n-1):j7 n F s=(F s).flatMap λp=>(j7 n F (s |||2 ^ p)).map (p::·):=by
 unfold j7;obtain⟨m,hm⟩:∃m,2 ^ n=m+1:=⟨2 ^ n-1,by have:=fK (n:=n);omega⟩
 conv=>lhs;rw[hm,O9,az h]
 refine B9 λp hp=>?_;have:=hF s p hp;rw[hm,<- Hy hF m (s |||2 ^ p) (L8 hs this.1) (by omega)]
theorem TJ{n:Nat}{F:Nat->List Nat}(hF:FG n F){s:Nat}(hs:s<2 ^ n)(h:s≠2 ^ n-1):(j7 n F s).length=((F s).map λp=>(j7 n F (s |||2 ^ p)).length).sum:=by
 rw[W9 hF hs h,List.length_flatMap];simp[Function.comp_def]
inductive jD(F:Nat->List Nat):Nat->Prop
 |zero:jD F 0
 |step {s p:Nat} (h:jD F s) (hp:p∈F s):jD F (s |||2 ^ p)
theorem jD.lt{n:Nat}{F:Nat->List Nat}(hF:FG n F){s:Nat}(h:jD F s):s<2 ^ n:=by
 induction h with
 |zero=>exact hJ _
 |step h hp ih=>exact L8 ih (hF _ _ hp).1
theorem K1(cs:List b7)(v:Int)(rs:List du):FG cs.length (p8 cs v rs):=λs p hp=>by
 obtain⟨h1,h2⟩:=aO.mp hp;unfold S1 at h2;rw[aU,jR] at h2;exact⟨aJ.mp h1,h2.1⟩
theorem YT{α β:Type}{f:α->List β}{l:List α}{j:Nat}{x:α}(hx:l[j]?=some x)(m:Nat):(l.flatMap f)[((l.take j).flatMap f).length+m]?=((l.drop j).flatMap f)[m]?/\(l.drop j).flatMap f=f x++(l.drop (j+1)).flatMap f:=by
 have e:l.flatMap f=(l.take j).flatMap f++(l.drop j).flatMap f:=by rw[<- Dx,ig]
 have hj:j<l.length:=(aj.mp hx).1;have ed:l.drop j=x::l.drop (j+1):=by
  rw[dH hj]
  congr 1
  exact(aj.mp hx).2
 constructor
 ·rw[e,bu (by omega)]
  congr 1
  omega
 ·rw[ed,cc]
noncomputable abbrev kN(j:Nat):Key:=.inl (j:Int)
theorem a09{kvs:List (Key×D)}{c:Key}{x:D}:q9 (putD kvs c x) c=some x:=by
 unfold q9 putD;by_cases h:(kvs.any λkv=>decide (kv.1=c))=true
 ·rw[aF h]
  induction kvs with
  |nil=>cases h
  |cons kv r ih =>
   rw[ba,dW];by_cases hk:kv.1=c
   ·rw[aF hk];simp[hk]
   ·rw[az hk];simp only[hk,decide_false];refine ih ?_;rw[fb,cF] at h;exact h.resolve_left (by simp[hk])
 ·rw[az h,jQ];have:kvs.find? (λkv=>decide (kv.1=c))=none:=by
   rw[jl];exact λkv hk hc=>h (bP.mpr ⟨kv,hk,hc⟩)
  rw[this];simp
theorem Yv{kvs:List (Key×D)}{c c':Key}{x:D}(hn:c≠c'):q9 (putD kvs c x) c'=q9 kvs c':=by
 unfold q9 putD;by_cases h:(kvs.any λkv=>decide (kv.1=c))=true
 ·rw[aF h];clear h
  induction kvs with
  |nil=>rfl
  |cons kv r ih =>
   rw[ba,dW,dW];by_cases hk:kv.1=c
   ·rw[aF hk];have:kv.1≠c':=λz=>hn (hk.symm.trans z);simp only[this,decide_false];exact ih
   ·rw[az hk];by_cases nr:kv.1=c'
    ·simp only[nr,decide_true]
    ·simp only[nr,decide_false];exact ih
 ·rw[az h,jQ];have:[(c,x)].find? (λkv=>decide (kv.1=c'))=none:=by simp[hn]
  rw[this];simp
theorem a08{kvs:List (Key×D)}{c:Key}{x:D}:(putD kvs c x).length<=kvs.length+1:=by
 unfold putD;split<;>simp
theorem VY{i j:Nat}(h:i≠j):kN i≠kN j:=λz=>h (by have:(i:Int)=j:=Sum.inl.inj z;omega)
noncomputable def F2:aW:=⟨1,5,(.seq (.set 1 (.prim (.jq 0) .nil)) (.seq (.set 2 (.prim .lst .nil)) (.seq (.dS (.one 3) (.fg (bY (.bin .Add) (dF (.fld "full") aL) (bg 1))) (.seq (.ifs (dY .In bT bo) (.seq (.expr (.eA .append bh (eZ bT))) (.seq (.dS (.one 4) (.fB (.call 116 (dc aL bT))) (.seq (.expr (.eA .jr bo (eZ (.call 91 (dc bT cJ))))) .pass)) .pass)) .pass) .pass)) (.seq (.ret bh) .pass))))⟩
noncomputable def Bp:aW:=⟨1,3,(.seq (.set 1 (.prim .nJ .nil)) (.seq (.dS (.one 2) (.nc (.call 117 (eZ aL))) (.seq (.ifs (dY .Eq bh (dF (.fld "full") aL)) (.seq (.dM bo bh (bg 1)) .pass) (.seq (.dM bo bh (dF .sum (.comp [2,1] 4 (.one 3) (.fB (.call 116 (dc aL bh))) .no (df bo (.call 91 (dc aL bT)))))) .pass)) .pass)) (.seq (.ret bo) .pass)))⟩
noncomputable def xK:aW:=⟨4,7,(.seq (.set 4 (.call 116 (dc aL bh))) (.seq (.set 5 bT) (.seq (.set 6 (bg 0)) (.seq (.jn (dY .GtE eR (df bo (.call 91 (dc bh (df cJ ff))))) (.seq (.jC 5 .lT (df bo (.call 91 (dc bh (df cJ ff))))) (.seq (.jC 6 .iadd (bg 1)) .pass))) (.seq (.ret (bY .tup (df cJ ff) eR)) .pass)))))⟩
noncomputable def M3:aW:=⟨3,7,(.seq (.set 3 (.prim .lst .nil)) (.seq (.set 4 (bg 0)) (.seq (.set 5 bh) (.seq (.jn (dY .NotEq cJ (dF (.fld "full") aL)) (.seq (.kZ (.many [6,5]) (.call 122 (pA aL bo cJ eR))) (.seq (.expr (.eA .append bT (eZ ff))) (.seq (.set 4 (.call 91 (dc cJ ff))) .pass)))) (.seq (.ret bT) .pass)))))⟩
noncomputable def H9:aW:=⟨1,2,(.seq (.set 1 (.call 121 (eZ aL))) (.seq (.ifs (dY .Eq (df bo (bg 0)) (bg 0)) (.seq (.ret (.lit .bD)) .pass) .pass) (.seq (.ret (.call 123 (fH aL bo (bg 0)))) .pass)))⟩
noncomputable def M9:aW:=⟨3,3,(.seq (.ret (.call 124 (eZ (.call 99 (fH aL bo bh))))) .pass)⟩
noncomputable def Z3:aW:=⟨3,3,(.seq (.ret (df (.call 121 (eZ (.call 99 (fH aL bo bh)))) (bg 0))) .pass)⟩
theorem X3:∀{l m:List Nat},l.Nodup->(∀x∈l,x∈m)->l.length<=m.length
 |[],m,_,_=>cB _
 |x::r,m,nd,h=>by
  rw[cL] at nd;have:=X3 (l:=r) (m:=m.erase x) nd.2 λy hy=>(yk λz=>nd.1 (by rw[<- z];exact hy)).mpr (h y (by simp[hy]));have hx:=h x (by simp);rw[gi hx] at this;have:=dj hx;simp;omega
section
variable{P:eT}{Z:S}{g:G}{Q:KD}{E:KX}{t:MT}{it elt:ME}{d6:List Nat}{n:Nat}
theorem XM(hP:i7 P)(h:eB P it Z g (λk g1=>∃(l:List D) (Sh:S->Prop) (w:Nat->D),(∀g',Ex g1 g'->k.Is l g')/\l.length<=1000/\Sh (C4 Z d6 n) /\
      (∀ i d Z g',l[i]?=some d->Ex g1 g'->Sh Z->iO t d Z λcb=>aK P elt cb g' (λy g4=>y=w i/\Ex g1 g4/\Sh cb) iC)/\∀ g',Ex g1 g'->Q (.ref g'.length) (g' ++ [.lst ((List.range l.length).map w)])) E):aK P (.comp d6 n t it .no elt) Z g Q E:=by
  refine G0 hP (w5 hP it _ _ _ _ _ _ (λk g1 h=>?_) (λ_ _ z=>z) h);obtain⟨l,Sh,w,hk,hl,h0,hs,hd⟩:=h;refine⟨l,λi ys Z g'=>Ex g1 g'/\ys=(List.range i).map w/\Sh Z,hl,λi ys Z g' q=>⟨hk _ q.1,by rw[q.2.1];simp⟩,⟨Ex.refl _,rfl,h0⟩,λi x ys Z g' hx q=>?_,λys Z g' q=>?_⟩
  · obtain⟨e1,rfl,sh⟩:=q;refine u9 (λcb q=>Cu (lU (b9 hP elt _ _ _ _ _ _ (λy g4 q=>?_) (λ_ _ z=>z) q))) (hs i x Z g' hx e1 sh);obtain⟨rfl,e4,sh⟩:=q;exact⟨e4,by rw[dU,cE];rfl,sh⟩
  · obtain⟨e1,rfl,sh⟩:=q;exact hd g' e1
end
noncomputable def nF(g:G)(sd n:Nat)(K:List Nat):Prop:=∃S m,g[sd]?=some (.set S m)/\m=K.length/\K.Nodup/\(∀j∈K,j<2 ^ n)/\∀k:Int,S k=true↔∃j∈K,k=(j:Nat)
theorem nF.at{g g':G}{sd n:Nat}{K:List Nat}(h:nF g sd n K)(e:Ex g g'):nF g' sd n K:=let ⟨S,m,h1,h2⟩:=h;⟨S,m,e.at h1,h2⟩
theorem nF.size{g:G}{sd n:Nat}{K:List Nat}(h:nF g sd n K):K.length<=2 ^ n:=by
 obtain⟨S,m,_,_,nd,lt,_⟩:=h;have:=X3 (m:=List.range (2 ^ n)) nd λx hx=>aJ.mpr (lt x hx);simpa using this
structure TW(T:Nat->Option aW):Prop where
 qf:T 117=some F2
 Ah:T 121=some Bp
structure Wy(g:G)(w:Nat)(cs:List b7)(v:Int)(rs:List du):Prop where
 ex:∃kvs,g[w]?=some (.dC kvs)/\∀s,jD (p8 cs v rs) s->q9 kvs (kN s)=some (.int ((j7 cs.length (p8 cs v rs) s).length:Nat))
theorem Wy.at{g g':G}{w:Nat}{cs:List b7}{v:Int}{rs:List du}(h:Wy g w cs v rs)(e:Ex g g'):Wy g' w cs v rs:=let ⟨kvs,h1,h2⟩:=h.ex;⟨⟨kvs,e.at h1,h2⟩⟩
theorem Zg{l:List Nat}(hl:l.Pairwise (· > ·)){i s x:Nat}(hi:l[i]?=some s)(hx:x∈l)(h:s<x):x∈l.take i:=by
 obtain⟨j,hj,rfl⟩:=bH.mp hx;obtain⟨jz,rfl⟩:=aj.mp hi;have Mv:j<i:=by
  rcases eG j i with z|z|z
  ·exact z
  ·subst z;omega
  ·have:=nM.mp hl i j jz hj z;omega
 exact eV.mpr ⟨j,by rw[cT Mv,ai hj]⟩
theorem Dg{n:Nat}(h:n<=9):1<=2 ^ n/\2 ^ n<=512:=⟨fK,yg (by omega) h⟩
section
variable{T:Nat->Option aW}{k d:Nat}{g g':G}{Q:KD}{E:KX}{a b c r:Nat}{cs:List b7}{rs:List du}{v:Int}
theorem Zn(hT:TB0 T)(hF:TF T)(qf:T 117=some F2)(B:Bd g b cs v rs)(hz:cs.length<=9)(hr:rs.length<=900)(h:∀(L:List Nat) l g',Ex g g'->g.length<=l->g'[l]?=some (.lst (d5 L))->L.Pairwise (· < ·)->(∀s,s∈L↔jD (p8 cs v rs) s)->L.length<=512->Q (.ref l) g'):d4 T (k+6) 117 [.ref b] g Q E:=by
 refine call_of qf rfl ?_;dsimp[F2,d8,List.replicate];have ko:=K1 cs v rs;generalize ox:p8 cs v rs=F at *;obtain⟨w0,l0,dd,nb,f1,f2,f3,f4,f5⟩:=B.ex;have p2:=Dg hz;walk_at"";refine Sw ?_;have s1:nF (g++[O.set (λk=>decide (k=0)) 1]) g.length cs.length [0]:=⟨_,_,d0,rfl,by simp,by simp;omega,λk=>by simp⟩
 have e1:=Ex.snoc g (O.set (λk=>decide (k=0)) 1);generalize g++[O.set (λk=>decide (k=0)) 1]=g1 at *;walk_at"";have e2:=e1.trans (Ex.snoc g1 (O.lst []));have s2:=s1.at (Ex.snoc g1 (O.lst []));have t2:=d0 (g:=g1) (o:=O.lst []);have l1:g.length<g1.length:=by obtain⟨_,_,z,_⟩:=s1;exact k8 z
 generalize g1++[O.lst []]=g2 at *;generalize g1.length=tl at *;refine B6 (b8 T _) (qx (b8 T _) ?_);walk_at"";refine S4 (e2.at f1) rfl ?_;walk_at"";have en:((2 ^ cs.length-1:Nat):Int)+1=((2 ^ cs.length:Nat):Int):=by omega
 rw[en];refine⟨by omega,by omega,l6 0 (2 ^ cs.length),λt Z g'=>Ex g g'/\(∃K,nF g' g.length cs.length K/\∀j,j∈K↔j=0\/∃s p,s<t/\jD F s/\p∈F s/\j=s |||2 ^ p)/\(∃L,g'[tl]?=some (.lst (d5 L))/\L.Pairwise (· < ·)/\(∀s,s∈L↔s<t/\jD F s)/\L.length<=t)/\∃z3 z4,Z=[some (.ref b),some (.ref g.length),some (.ref tl),z3,z4],λ_ _ _ _=>by rw[bU];exact B0,⟨e2,⟨[0],s2,λj=>by simp⟩,⟨[],t2,by simp,by simp,by simp⟩,none,none,rfl⟩,λt x Z g' hx q=>?_,λZ g' q=>?_⟩
 ·obtain⟨e3,⟨K,s3,hK⟩,⟨L,t3,pw,hL,zZ⟩,z3,z4,rfl⟩:=q;obtain⟨ht,rfl⟩:=J8 hx;rw[sA];have mj:t∈K↔jD F t:=by
   rw[hK];constructor
   ·rintro(rfl|⟨s,p,_,h2,h3,rfl⟩)
    ·exact .zero
    ·exact .step h2 h3
   ·intro h;cases h with
    |zero=>exact .inl rfl
    |step h hp=>exact .inr ⟨_,_,vf (ko _ _ hp).2,h,hp,rfl⟩
  refine p0 ?_
  try show wpS _ _ _ _ _ _
  walk_at"";obtain⟨S,m,sg,sm,snd,slt,sS⟩:=id s3;refine Vz sg ?_;walk_at"";have EO:S (t:Nat)=true↔jD F t:=by
   rw[sS,<- mj];exact⟨λ⟨j,hj,e⟩=>by rw[show t=j by omega];exact hj,λz=>⟨t,z,rfl⟩⟩
  cases hb:S (t:Nat) with
  |false =>
   have oq:¬jD F t:=λz=>by rw[EO.mpr z] at hb;cases hb
   refine gb rfl ?_;walk_at"";refine⟨e3,⟨K,s3,λj=>(hK j).trans ⟨?_,?_⟩⟩,⟨L,t3,pw,λs=>(hL s).trans ⟨λz=>⟨by omega,z.2⟩,λz=>⟨?_,z.2⟩⟩,by omega⟩,_,_,rfl⟩
   ·rintro(z|⟨s,p,h1,h2⟩)
    ·exact .inl z
    ·exact .inr ⟨s,p,by omega,h2⟩
   ·rintro(z|⟨s,p,h1,h2,h3⟩)
    ·exact .inl z
    ·refine .inr ⟨s,p,?_,h2,h3⟩;rcases fF s t with y|y
     ·exact y
     ·exact absurd (show jD F t by rw[show t=s by omega];exact h2) oq
   ·rcases fF s t with y|y
    ·exact y
    ·exact absurd (show jD F t by rw[show t=s by omega];exact z.2) oq
  |true =>
   have hR:=EO.mp hb;refine gW rfl ?_;walk_at"";refine T9 t3 (by simp[d5];omega) ?_;have KS:tl≠g.length:=by omega
   have s4:nF (g'.set tl (.lst (d5 L++[D.int (t:Nat)]))) g.length cs.length K:=⟨S,m,f9 sg KS,sm,snd,slt,sS⟩
   have t4:(g'.set tl (.lst (d5 L++[D.int (t:Nat)])))[tl]?=some (.lst (d5 (L++[t]))):=by rw[get_set t3];simp[d5]
   have e4:Ex g (g'.set tl (.lst (d5 L++[D.int (t:Nat)]))):=⟨by simp;exact e3.len,λi hi=>by rw[aw (by omega)];exact e3.old i hi⟩
   generalize g'.set tl (.lst (d5 L++[D.int (t:Nat)]))=g4 at *;walk_at"";refine B6 (b8 T _) (lV (b8 T _) ?_);walk_at"";refine S0 (k:=k) hT hF (B.at e4) hz hr ht λg5 fl e5 Mz h5=>?_;rw[ox] at h5;have l4:tl<g4.length:=k8 t4;refine⟨fl,_,rfl,b0 h5,d5 (F t),λj Z g'=>Ex g g'/\g'[fl]?=some (.lst (d5 (F t)))/\g'[tl]?=some (.lst (d5 (L++[t])))/\(∃K',nF g' g.length cs.length K'/\∀x,x∈K'↔x∈K\/∃p∈(F t).take j,x=t |||2 ^ p)/\∃z4,Z=[some (.ref b),some (.ref g.length),some (.ref tl),some (.int (t:Nat)),z4],λj Z g' q=>u7 (b0 q.2.1),⟨e4.trans e5,h5,e5.at t4,⟨K,s4.at e5,λx=>by simp⟩,z4,rfl⟩,λj x Z g' hx q=>?_,λZ g' q=>?_⟩
   ·obtain⟨e6,h6,t6,⟨K',s6,rB⟩,z4,rfl⟩:=q;rw[d5,ak,aa] at hx;obtain⟨p,hp,rfl⟩:=hx;have oo:=aP hp;have kl:=(ko _ _ oo)
    have tk:(F t).take (j+1)=(F t).take j++[p]:=by rw[bz,hp];rfl
    obtain⟨S6,m6,vS,DG,sT,sU,qS⟩:=id s6;refine p0 ?_
    try show wpS _ _ _ _ _ _
    walk_at"";refine⟨Si vS,?_⟩;walk_at"";refine v7 (k:=k+4) hT.mO (by omega) ?_;walk_at"";have hsz:=s6.size;refine Pp vS (by omega) ?_;walk_at"";have dN:=L8 ht kl.1;refine⟨⟨by simp;exact e6.len,λi hi=>by rw[aw (by omega)];exact e6.old i hi⟩,f9 h6 (by have:=e4.len;omega),f9 t6 (by omega),?_,_,rfl⟩;by_cases jI:S6 ((t |||2 ^ p:Nat):Int)=true
    ·refine⟨K',⟨_,_,get_set vS,by rw[aF jI];exact DG,sT,sU,λk=>?_⟩,λx=>?_⟩
     ·rw[cF,cN];constructor
      ·rintro(z|z)
       ·exact(qS k).mp z
       ·subst z;exact(qS _).mp jI
      ·exact λz=>.inl ((qS k).mpr z)
     ·rw[rB x,tk];simp only[List.mem_append,List.mem_singleton];constructor
      ·rintro(z|⟨q,z1,z2⟩)
       ·exact .inl z
       ·exact .inr ⟨q,.inl z1,z2⟩
      ·rintro(z|⟨q,z1|z1,z2⟩)
       ·exact .inl z
       ·exact .inr ⟨q,z1,z2⟩
       ·subst z1 z2;obtain⟨y,y1,y2⟩:=(qS _).mp jI;rw[<- rB,show(t |||2 ^ q)=y by omega];exact y1
    ·have zr:(t |||2 ^ p)∉K':=λz=>jI ((qS _).mpr ⟨_,z,rfl⟩);refine⟨K'++[t |||2 ^ p],⟨_,_,get_set vS,by rw[az jI];simp[DG],?_,λy hy=>?_,λk=>?_⟩,λx=>?_⟩
     ·rw[cO];exact⟨sT,by simp,λx hx y hy=>by cases aS.mp hy;exact λz=>zr (z▸hx)⟩
     ·rcases aZ.mp hy with z|z
      ·exact sU y z
      ·cases aS.mp z;exact dN
     ·rw[cF,cN,qS];simp only[List.mem_append,List.mem_singleton];constructor
      ·rintro(⟨y,y1,y2⟩|z)
       ·exact⟨y,.inl y1,y2⟩
       ·exact⟨_,.inr rfl,z⟩
      ·rintro⟨y,y1|y1,y2⟩
       ·exact .inl ⟨y,y1,y2⟩
       ·subst y1;exact .inr y2
     ·rw[aZ,aS,rB x,tk];simp only[List.mem_append,List.mem_singleton];constructor
      ·rintro((z|⟨q,z1,z2⟩)|z)
       ·exact .inl z
       ·exact .inr ⟨q,.inl z1,z2⟩
       ·exact .inr ⟨p,.inr rfl,z⟩
      ·rintro(z|⟨q,z1|z1,z2⟩)
       ·exact .inl (.inl z)
       ·exact .inl (.inr ⟨q,z1,z2⟩)
       ·subst z1;exact .inr z2
   ·obtain⟨e6,h6,t6,⟨K',s6,rB⟩,z4,rfl⟩:=q;rw[d5,ag,cv] at rB
    try show wpS _ _ _ _ _ _
    walk_at"";refine⟨e6,⟨K',s6,λj=>(rB j).trans ?_⟩,⟨L++[t],t6,?_,λs=>?_,by simp;omega⟩,_,_,rfl⟩
    ·rw[hK j];constructor
     ·rintro((z|⟨s,p,h1,h2⟩)|⟨p,h1,h2⟩)
      ·exact .inl z
      ·exact .inr ⟨s,p,by omega,h2⟩
      ·exact .inr ⟨t,p,by omega,hR,h1,h2⟩
     ·rintro(z|⟨s,p,h1,h2,h3,h4⟩)
      ·exact .inl (.inl z)
      ·rcases fF s t with y|y
       ·exact .inl (.inr ⟨s,p,y,h2,h3,h4⟩)
       ·have:s=t:=by omega
        subst this;exact .inr ⟨p,h3,h4⟩
    ·rw[yi];exact⟨pw,by simp,λx hx y hy=>by cases aS.mp hy;exact((hL x).mp hx).1⟩
    ·rw[aZ,aS,hL s];constructor
     ·rintro(z|z)
      ·exact⟨by omega,z.2⟩
      ·subst z;exact⟨by omega,hR⟩
     ·rintro⟨z1,z2⟩;rcases fF s t with y|y
      ·exact .inl ⟨y,z2⟩
      ·exact .inr (by omega)
 ·obtain⟨e3,⟨K,s3,hK⟩,⟨L,t3,pw,hL,zZ⟩,z3,z4,rfl⟩:=q;rw[o6] at hL zZ
  try show wpS _ _ _ _ _ _
  walk_at"";exact h L tl g' e3 (by omega) t3 pw (λs=>(hL s).trans ⟨λz=>z.2,λz=>⟨z.lt ko,z⟩⟩) (by omega)
theorem Jj(hT:TB0 T)(hF:TF T)(hW:TW T)(B:Bd g b cs v rs)(hz:cs.length<=9)(hr:rs.length<=900)(h:∀w g',Ex g g'->g.length<=w->Wy g' w cs v rs->Q (.ref w) g'):d4 T (k+7) 121 [.ref b] g Q E:=by
 refine call_of hW.Ah rfl ?_;dsimp[Bp,d8,List.replicate];have ko:=K1 cs v rs;generalize ox:p8 cs v rs=F at *;obtain⟨w0,l0,dd,nb,f1,f2,f3,f4,f5⟩:=B.ex;have p2:=Dg hz;walk_at"";have e1:=Ex.snoc g (O.dC []);have w1:=d0 (g:=g) (o:=O.dC []);generalize g++[O.dC []]=g1 at *;refine B6 (b8 T _) (LL ?_);walk_at"";refine Zn (k:=k) hT hF hW.qf (B.at e1) hz hr λL l g2 e2 hl h2 pw hL zZ=>?_;rw[ox] at hL;have lw:=k8 w1;have Lh:L.reverse.Pairwise (· > ·):=List.pairwise_reverse.mpr pw;have zb:(d5 L).length=L.length:=by simp[d5]
 refine⟨l,_,rfl,b0 h2,(d5 L).reverse,λi Z g'=>Ex g g'/\g'[l]?=some (.lst (d5 L))/\(∃kvs,g'[g.length]?=some (.dC kvs)/\kvs.length<=i/\∀s∈L.reverse.take i,q9 kvs (kN s)=some (.int ((j7 cs.length F s).length:Nat)))/\∃z2,Z=[some (.ref b),some (.ref g.length),z2],λi Z g' q=>OZ (b0 q.2.1),⟨e1.trans e2,h2,⟨[],e2.at w1,by simp,by simp⟩,none,rfl⟩,λi x Z g' hx q=>?_,λZ g' q=>?_⟩
 ·obtain⟨e3,h3,⟨kvs,w3,hk,tZ⟩,z2,rfl⟩:=q;rw[d5,<- List.map_reverse,ak,aa] at hx;obtain⟨s,hs,rfl⟩:=hx;have Ez:i<L.length:=by have:=(aj.mp hs).1;simpa using this
  have Ej:jD F s:=(hL s).mp (kC.mp (aP hs));have om:=Ej.lt ko;have tk:L.reverse.take (i+1)=L.reverse.take i++[s]:=by rw[bz,hs];rfl
  have fin:∀(N:Ends) g4 z2,Ex g' g4->(∀g5,(Ex g g5/\g5[l]?=some (.lst (d5 L))/\(∃kvs,g5[g.length]?=some (.dC kvs)/\kvs.length<=i+1/\∀s∈L.reverse.take (i+1),q9 kvs (kN s)=some (.int ((j7 cs.length F s).length:Nat)))/\∃z2,([some (.ref b),some (.ref g.length),z2]:S)=[some (.ref b),some (.ref g.length),z2])->N.nx [some (.ref b),some (.ref g.length),z2] g5)->U8 (.ref g.length) (.int (s:Nat)) (.int ((j7 cs.length F s).length:Nat)) g4 λg5=>N.nx [some (.ref b),some (.ref g.length),z2] g5:=λN g4 z2 e4 hN=>by
   refine JO (e4.at w3) rfl (by omega) ?_;refine hN _ ⟨⟨by simp;exact(e3.trans e4).len,λj hj=>by rw[aw (by omega)];exact(e3.trans e4).old j hj⟩,f9 (e4.at h3) (by omega),⟨_,get_set (e4.at w3),aG a08 (by omega),λs' El=>?_⟩,z2,rfl⟩;rw[tk] at El;by_cases zj:s'=s
   ·subst zj;exact a09
   ·refine(Yv (VY (bC zj))).trans (tZ s' ?_);rcases aZ.mp El with z|z
    ·exact z
    ·exact absurd (aS.mp z) zj
  refine p0 ?_
  try show wpS _ _ _ _ _ _
  walk_at"";refine S4 (e3.at f1) rfl ?_;walk_at"";have ed:decide (((s:Nat):Int)=((2 ^ cs.length-1:Nat):Int))=decide (s=2 ^ cs.length-1):=dD.mpr (by omega);rw[ed];refine if2 (λc1=>?_) (λc1=>?_)
  ·walk_at"";have e1:(1:Int)=((j7 cs.length F s).length:Nat):=by rw[K0 c1];rfl
   rw[e1];exact fin _ _ _ (Ex.refl _) λg5 z=>⟨z.1,z.2.1,z.2.2.1,_,rfl⟩
  ·walk_at"";refine XM (b8 T _) (lV (b8 T _) ?_);walk_at"";refine S0 (k:=k+1) hT hF (B.at e3) hz hr om λg4 fl e4 Mz h4=>?_;rw[ox] at h4;refine⟨fl,_,rfl,b0 h4,d5 (F s),λZ=>∃z2 z3,Z=[some (.int (s:Nat)),some (.ref g.length),z2,z3],λi=>.int ((j7 cs.length F (s |||2 ^ ((F s).getD i 0))).length:Nat),λg' e=>u7 (b0 (e.at h4)),?_,⟨none,none,rfl⟩,λj d Z g5 hx e5 sh=>?_,λg5 e5=>?_⟩
   ·have:(F s).length<=cs.length:=by rw[<- ox];exact S5
    simp[d5];omega
   ·obtain⟨z2,z3,rfl⟩:=sh;rw[d5,ak,aa] at hx;obtain⟨p,hp,rfl⟩:=hx;have oo:=aP hp;have kl:=ko _ _ oo;refine p0 ?_
    try show aK _ _ _ _ _ _
    walk_at"";refine v7 (k:=k+5) hT.mO (by omega) ?_;have hv:q9 kvs (kN (s |||2 ^ p))=some (.int ((j7 cs.length F (s |||2 ^ p)).length:Nat)):=by
     refine tZ _ (Zg Lh hs (kC.mpr ((hL _).mpr (.step Ej oo))) (vf kl.2))
    refine vt ((e4.trans e5).at w3) rfl hv ?_;exact⟨by simp[List.getD,hp],e5,_,_,rfl⟩
   ·have el:(List.range (d5 (F s)).length).map (λi=>D.int ((j7 cs.length F (s |||2 ^ ((F s).getD i 0))).length:Nat))=(((F s).map λp=>(j7 cs.length F (s |||2 ^ p)).length).map λ(n:Nat)=>(n:Int)).map D.int:=by
     refine eI λi=>?_;rw[ak,ak,ak,ak];by_cases hi:i<(F s).length
     ·rw[cG (by simpa[d5] using hi),ai hi];simp[List.getD,hi]
     ·rw[aX (by simpa[d5] using hi),aX (by omega)]
      rfl
    rw[el];refine JT (b0 d0) ?_;have es:(((F s).map λp=>(j7 cs.length F (s |||2 ^ p)).length).map λ(n:Nat)=>(n:Int)).sum=((j7 cs.length F s).length:Nat):=by
     rw[TJ ko om c1];generalize (F s).map (λp=>(j7 cs.length F (s |||2 ^ p)).length)=m
     induction m with
     |nil=>rfl
     |cons x r ih=>simp[ih]
    rw[es];walk_at"";exact fin _ _ _ (e4.trans (e5.trans (Ex.snoc _ _))) λg6 z=>⟨z.1,z.2.1,z.2.2.1,_,rfl⟩
 ·obtain⟨e3,h3,⟨kvs,w3,hk,tZ⟩,z2,rfl⟩:=q;rw[List.length_reverse,zb,dh (by simp)] at tZ
  try show wpS _ _ _ _ _ _
  walk_at"";refine h _ _ e3 (av _) ⟨⟨kvs,w3,λs hs=>?_⟩⟩;rw[ox] at hs ⊢;exact tZ s (kC.mpr ((hL s).mpr hs))
end
structure TN(T:Nat->Option aW):Prop where
 qe:T 122=some xK
 Ag:T 123=some M3
section
variable{T:Nat->Option aW}{k d:Nat}{g g':G}{Q:KD}{E:KX}{a b c r w:Nat}{cs:List b7}{rs:List du}{v:Int}
theorem V8(hT:TB T)(hF:TF T)(hW:TW T)(my:T 126=some Z3)(ha:g[a]?=some (.lst (cs.map b7.d)))(hz:cs.length<=9)(hg:cs.all p9=true)(hB:∀c∈cs,CB c)(hv:1<=v/\v<=9)(hc:g[c]?=some (.lst (p6 rs)))(hr:rs.length<=900)(hR:rs.all (j9 cs)=true)(h:∀g',Ex g g'->Q (.int ((j7 cs.length (p8 cs v rs) 0).length:Nat)) g'):d4 T (k+11) 126 [.ref a,.int v,.ref c] g Q E:=by
 refine call_of my rfl ?_;dsimp[Z3,d8,List.replicate];walk_at"";refine W0 (k:=k) hT ha hz hg hB hv hc hr hR λg1 b e1 _ B=>?_;walk_at"";refine Jj (k:=k+3) hT hF hW B hz hr λw g2 e2 _ W=>?_;walk_at"";obtain⟨kvs,w1,w2⟩:=W.ex;exact vt w1 rfl (w2 0 .zero) (h _ (e1.trans e2))
theorem Zv(hT:TB0 T)(hF:TF T)(qe:T 122=some xK)(B:Bd g b cs v rs)(W:Wy g w cs v rs)(hz:cs.length<=9)(hr:rs.length<=900){s m:Nat}(hs:jD (p8 cs v rs) s)(dw:s≠2 ^ cs.length-1)(hm:m<(j7 cs.length (p8 cs v rs) s).length)(h:∀(p l:Nat) g',Ex g g'->p∈p8 cs v rs s->l<(j7 cs.length (p8 cs v rs) (s |||2 ^ p)).length->(j7 cs.length (p8 cs v rs) s)[m]?=((j7 cs.length (p8 cs v rs) (s |||2 ^ p))[l]?).map (p::·)->Q (.tup [.int (p:Nat),.int (l:Nat)]) g'):d4 T (k+6) 122 [.ref b,.ref w,.int (s:Nat),.int (m:Nat)] g Q E:=by
 refine call_of qe rfl ?_;dsimp[xK,d8,List.replicate];have ko:=K1 cs v rs;have om:=hs.lt ko;have eo:=W9 ko om dw;walk_at"";refine S0 (k:=k) hT hF B hz hr om λg1 ch e1 _ km=>?_;generalize ox:p8 cs v rs=F at *;obtain⟨kvs,w1,w2⟩:=W.ex;rw[ox] at w2;walk_at"";generalize EE:(λp=>(j7 cs.length F (s |||2 ^ p)).map (p::·))=f at *;have uH:∀p,(f p).length=(j7 cs.length F (s |||2 ^ p)).length:=λp=>by rw[<- EE];simp
 rw[eo] at hm;have Ll:0<(F s).length:=by
  cases hl:F s with
  |nil=>rw[hl] at hm;simp at hm
  |cons _ _=>simp
 refine Ji (λmm Z g'=>Ex g1 g'/\∃j lf:Nat,Z=[some (.ref b),some (.ref w),some (.int (s:Nat)),some (.int (m:Nat)),some (.ref ch),some (.int (lf:Nat)),some (.int (j:Nat))]/\j<(F s).length/\mm=(F s).length-j/\m=(((F s).take j).flatMap f).length+lf/\lf<(((F s).drop j).flatMap f).length) _ ⟨Ex.refl _,0,m,rfl,Ll,rfl,by simp,by simpa using hm⟩ (λmm Z g' q=>?_) (b8 T _);obtain⟨e2,j,lf,rfl,hj,rfl,mh,pR⟩:=q;have hx:=ai hj;generalize (F s)[j]=p at hx;have oo:=aP hx;have kl:=ko _ _ oo;have hv:q9 kvs (kN (s |||2 ^ p))=some (.int ((f p).length:Nat)):=by rw[uH];exact w2 _ (.step hs oo)
 have AY:fR (d5 (F s)) (j:Int)=some (.int (p:Nat)):=F8 (by rw[d5,ak,hx];rfl);have sp:=YT (f:=f) hx lf;have kR:=e1.trans e2;walk_at"";refine u6 (b0 (e2.at km)) AY ?_;walk_at"";refine v7 (k:=k+4) hT.mO (by omega) ?_;refine vt (kR.at w1) rfl hv ?_;walk_at"";by_cases hc:(f p).length<=lf
 ·refine gW (aC (by omega)) ?_;walk_at"";refine IC rfl ?_;walk_at"";refine u6 (b0 (e2.at km)) AY ?_;walk_at"";refine v7 (k:=k+4) hT.mO (by omega) ?_;refine vt (kR.at w1) rfl hv ?_;refine OY ?_;walk_at"";refine IC rfl ?_;walk_at"";refine OT ?_;have tk:(F s).take (j+1)=(F s).take j++[p]:=by rw[bz,hx];rfl
  rw[sp.2,bc] at pR;have Mw:j+1<(F s).length:=by
   rcases fF (j+1) (F s).length with z|z
   ·exact z
   ·rw[eJ z] at pR;simp at pR;omega
  refine⟨_,?_,e2,j+1,lf-(f p).length,?_,Mw,rfl,?_,by omega⟩
  ·omega
  ·have e1:((lf:Nat):Int)-((f p).length:Nat)=((lf-(f p).length:Nat):Int):=by omega
   have e2:((j:Nat):Int)+1=((j+1:Nat):Int):=by omega
   rw[e1,e2]
   rfl
  ·rw[tk,Dx,bc,cc,List.flatMap_nil,fo];omega
 ·refine gb (aB (by omega)) ?_;walk_at"";refine u6 (b0 (e2.at km)) AY ?_;walk_at"";refine h p lf g' kR oo (by rw[uH] at hc;omega) ?_;rw[eo,mh,sp.1,sp.2,aA (by omega),<- EE];simp
theorem ZQ(hT:TB0 T)(hF:TF T)(hN:TN T)(B:Bd g b cs v rs)(W:Wy g w cs v rs)(hz:cs.length<=9)(hr:rs.length<=900){m:Nat}{o:List Nat}(hm:(j7 cs.length (p8 cs v rs) 0)[m]?=some o)(h:∀l g',Ex g g'->g.length<=l->g'[l]?=some (.lst (d5 o))->Q (.ref l) g'):d4 T (k+7) 123 [.ref b,.ref w,.int (m:Nat)] g Q E:=by
 refine call_of hN.Ag rfl ?_;dsimp[M3,d8,List.replicate];have ko:=K1 cs v rs;obtain⟨w0,l0,dd,nb,f1,f2,f3,f4,f5⟩:=B.ex;have p2:=Dg hz;walk_at"";have e1:=Ex.snoc g (O.lst []);have h1:=d0 (g:=g) (o:=O.lst []);generalize g++[O.lst []]=g1 at *;refine Ji (λmm Z g'=>Ex g g'/\∃(s lf:Nat) (p:List Nat) (z6:Option D),Z=[some (.ref b),some (.ref w),some (.int (m:Nat)),some (.ref g.length),some (.int (s:Nat)),some (.int (lf:Nat)),z6]/\mm=2 ^ cs.length-s/\jD (p8 cs v rs) s/\lf<(j7 cs.length (p8 cs v rs) s).length/\some o=((j7 cs.length (p8 cs v rs) s)[lf]?).map (p++·)/\g'[g.length]?=some (.lst (d5 p))/\p.length<=s) _ ⟨e1,0,m,[],none,rfl,rfl,.zero,(aj.mp hm).1,by rw[hm];rfl,h1,by simp⟩ (λmm Z g' q=>?_) (b8 T _);obtain⟨e2,s,lf,p,z6,rfl,rfl,hs,pR,ho,hp,fS⟩:=q;have om:=hs.lt ko;walk_at"";refine S4 (e2.at f1) rfl ?_;walk_at"";have ed:decide (((s:Nat):Int)=((2 ^ cs.length-1:Nat):Int))=decide (s=2 ^ cs.length-1):=dD.mpr (by omega);rw[ed];by_cases dw:s=2 ^ cs.length-1
 ·refine gb (by rw[aC dw];rfl) ?_;walk_at"";rw[K0 dw] at pR ho;have:lf=0:=by simp at pR;omega
  subst this;have:o=p:=by simpa using ho
  subst this;exact h _ _ e2 (av _) hp
 ·refine gW (by rw[aB dw];rfl) ?_;walk_at"";refine Zv (k:=k) hT hF hN.qe (B.at e2) (W.at e2) hz hr hs dw pR λq l g3 e3 hq hl Mc=>?_;refine A1 rfl ?_
  try show wpS _ _ _ _ _ _
  have Eo:=ko _ _ hq;have zm:=e3.at hp;walk_at""
  try refine⟨vk zm,?_⟩
  walk_at"";refine T9 zm (by simp[d5];omega) ?_;walk_at"";refine v7 (k:=k+5) hT.mO (by omega) ?_;walk_at"";have hgt:=vf Eo.2;have Fp:=e2.trans e3;refine⟨_,?_,⟨by simp;exact Fp.len,λi hi=>by rw[aw (by omega)];exact Fp.old i hi⟩,s |||2 ^ q,l,p++[q],_,rfl,rfl,.step hs hq,hl,?_,?_,by simp;omega⟩
  ·omega
  ·rw[ho,Mc];simp[Option.map_map,Function.comp_def]
  ·rw[get_set zm];simp[d5]
theorem WW(hT:TB0 T)(hF:TF T)(hW:TW T)(hN:TN T)(kO:T 124=some H9)(B:Bd g b cs v rs)(hz:cs.length<=9)(hr:rs.length<=900)(h1:j7 cs.length (p8 cs v rs) 0=[]->∀g',Ex g g'->Q .bD g')(h2:∀o l g',(j7 cs.length (p8 cs v rs) 0)[0]?=some o->Ex g g'->g.length<=l->g'[l]?=some (.lst (d5 o))->Q (.ref l) g'):d4 T (k+8) 124 [.ref b] g Q E:=by
 refine call_of kO rfl ?_;dsimp[H9,d8,List.replicate];walk_at"";refine Jj (k:=k) hT hF hW B hz hr λw g1 e1 hw W=>?_;walk_at"";obtain⟨kvs,w1,w2⟩:=W.ex;refine vt w1 rfl (w2 0 .zero) ?_;walk_at"";cases ho:j7 cs.length (p8 cs v rs) 0 with
 |nil =>
  refine gW (by simp) ?_;walk_at"";exact h1 ho _ e1
 |cons o r =>
  refine gb (by simp;omega) ?_;walk_at"";exact ZQ (k:=k) hT hF hN (m:=0) (B.at e1) W hz hr (by rw[ho];rfl) λl g2 e2 hl h=>h2 o l g2 (by rw[ho];rfl) (e1.trans e2) (aG e1.len hl) h
theorem X4(hT:TB T)(hF:TF T)(hW:TW T)(hN:TN T)(kO:T 124=some H9)(nv:T 125=some M9)(ha:g[a]?=some (.lst (cs.map b7.d)))(hz:cs.length<=9)(hg:cs.all p9=true)(hB:∀c∈cs,CB c)(hv:1<=v/\v<=9)(hc:g[c]?=some (.lst (p6 rs)))(hr:rs.length<=900)(hR:rs.all (j9 cs)=true)(h1:j7 cs.length (p8 cs v rs) 0=[]->∀g',Ex g g'->Q .bD g')(h2:∀o l g',(j7 cs.length (p8 cs v rs) 0)[0]?=some o->Ex g g'->g.length<=l->g'[l]?=some (.lst (d5 o))->Q (.ref l) g'):d4 T (k+11) 125 [.ref a,.int v,.ref c] g Q E:=by
 refine call_of nv rfl ?_;dsimp[M9,d8,List.replicate];walk_at"";refine W0 (k:=k) hT ha hz hg hB hv hc hr hR λg1 b e1 _ B=>?_;walk_at"";exact WW (k:=k+2) hT hF hW hN kO B hz hr (λho g2 e2=>h1 ho g2 (e1.trans e2)) λo l g2 ho e2 hl h=>h2 o l g2 ho (e1.trans e2) (aG e1.len hl) h
end
noncomputable def jG(r:List Nat):Nat:=r.foldl (λs p=>s |||2 ^ p) 0
theorem Xl(r:List Nat)(p:Nat):jG (r++[p])=jG r |||2 ^ p:=by simp[jG,List.foldl_append]
theorem xQ(r:List Nat)(i:Nat):(jG r).testBit i=decide (i∈r):=by
 have:∀(r:List Nat) (s:Nat),(r.foldl (λs p=>s |||2 ^ p) s).testBit i=(s.testBit i||decide (i∈r)):=by
  intro r
  induction r with
  |nil=>intro s;simp
  |cons p r ih =>
   intro s;rw[lE,ih,L9,Bool.or_assoc,bf];simp
 rw[jG,this];simp
theorem QT{n:Nat}:∀{r:List Nat},(∀i∈r,i<n)->jG r<2 ^ n:=λ{r} h=>by
 have:∀(r:List Nat) (s:Nat),(∀i∈r,i<n)->s<2 ^ n->r.foldl (λs p=>s |||2 ^ p) s<2 ^ n:=by
  intro r
  induction r with
  |nil=>intro s _ hs;exact hs
  |cons p r ih=>intro s h hs;exact ih _ (λi hi=>h i (by simp[hi])) (L8 hs (h p (by simp)))
 exact this r 0 h (hJ _)
noncomputable def O8(F:Nat->List Nat):Nat->List (List Nat)
 |0=>[[]]
 |t+1=>(O8 F t).flatMap λr=>(F (jG r)).map λp=>r++[p]
theorem T7{n:Nat}{F:Nat->List Nat}(hF:FG n F):∀{t:Nat} {r:List Nat},r∈O8 F t->r.length=t/\r.Nodup/\∀i∈r,i<n
 |0,r,h=>by
  cases aS.mp h;simp
 |t+1,r,h=>by
  obtain⟨r0,h0,h1⟩:=List.mem_flatMap.mp h;obtain⟨p,hp,rfl⟩:=aQ.mp h1;obtain⟨g1,g2,g3⟩:=T7 hF h0;have kl:=hF _ _ hp;rw[xQ] at kl;refine⟨by simp[g1],?_,λi hi=>?_⟩
  ·rw[cO];exact⟨g2,by simp,λx hx y hy=>by cases aS.mp hy;exact λz=>(by simpa using kl.2:p∉r0) (z▸hx)⟩
  ·rcases aZ.mp hi with z|z
   ·exact g3 i z
   ·cases aS.mp z;exact kl.1
theorem Ie{n:Nat}{r:List Nat}(h:r.Nodup)(hl:r.length=n)(hr:∀i∈r,i<n){i:Nat}(hi:i<n):i∈r:=by
 refine Decidable.byContradiction λhn=>?_;have:=X3 (l:=i::r) (m:=List.range n) (cL.mpr ⟨hn,h⟩) λx hx=>by
  rcases aH.mp hx with rfl|hx
  ·exact aJ.mpr hi
  ·exact aJ.mpr (hr x hx)
 simp at this;omega
theorem Gw{n:Nat}{r:List Nat}(h:r.Nodup)(hr:∀i∈r,i<n):jG r=2 ^ n-1↔r.length=n:=by
 constructor
 ·intro e;have:∀i,i<n->i∈r:=λi hi=>by
   have:=xQ r i;rw[e,mJ,aC hi] at this;exact bp this.symm
  have h1:=X3 (l:=List.range n) (m:=r) kB λi hi=>this i (aJ.mp hi);have h2:=X3 (l:=r) (m:=List.range n) h λi hi=>aJ.mpr (hr i hi);simp at h1 h2;omega
 ·intro hl;refine yh λi=>?_;rw[xQ,mJ];refine dD.mpr ⟨hr i,λhi=>Ie h hl hr hi⟩
theorem Hf{n:Nat}{F:Nat->List Nat}(hF:FG n F):∀{t:Nat},t<=n->(O8 F t).flatMap (λr=>(j7 n F (jG r)).map (r++·))=j7 n F 0
 |0,_=>by simp[O8,jG]
 |t+1,ht=>by
  rw[<- Hf hF (show t<=n by omega),O8,List.flatMap_assoc];refine B9 λr hr=>?_;obtain⟨g1,g2,g3⟩:=T7 hF hr;have dw:jG r≠2 ^ n-1:=λz=>by have:=(Gw g2 g3).mp z;omega
  rw[W9 hF (QT g3) dw,List.map_flatMap,List.flatMap_map];refine B9 λp hp=>?_;rw[Xl,cz];refine Dv λo _=>?_;simp
theorem Gq{n:Nat}{F:Nat->List Nat}(hF:FG n F):O8 F n=j7 n F 0:=by
 rw[<- Hf hF (av n)];have:∀(l:List (List Nat)),(∀r∈l,r∈O8 F n)->l.flatMap (λr=>(j7 n F (jG r)).map (r++·))=l:=by
  intro l
  induction l with
  |nil=>intro _;rfl
  |cons r l ih =>
   intro h;obtain⟨g1,g2,g3⟩:=T7 hF (h r (by simp));rw[cc,ih λx hx=>h x (by simp[hx]),K0 ((Gw g2 g3).mpr g1)];simp
 exact(this _ λ_ h=>h).symm
section
variable{T:Nat->Option aW}{k d:Nat}{g g':G}{Q:KD}{E:KX}{a b c r w:Nat}{cs:List b7}{rs:List du}{v:Int}
end
noncomputable def unset(n s:Nat):List Nat:=(List.range n).filter λp=>!s.testBit p
noncomputable def nW(q:Nat->Nat->Bool):Nat->List Nat->Bool
 |_,[]=>true
 |s,p::r=>q s p&&nW q (s |||2 ^ p) r
theorem HH{α β:Type}{f:α->List β}{q:α->Bool}:∀l:List α,(l.filter q).flatMap f=l.flatMap λx=>if q x=true then f x else[]
 |[]=>rfl
 |x::r=>by
  rw[cc,<- HH r];cases h:q x
  ·rw[gJ (by rw[h];decide),az (by decide)]
   rfl
  ·rw[gI h,aF rfl,cc]
theorem HI{α β:Type}{f:α->List β}{q:β->Bool}:∀l:List α,(l.flatMap f).filter q=l.flatMap λx=>(f x).filter q
 |[]=>rfl
 |x::r=>by rw[cc,dk,HI r,cc]
theorem HN{n:Nat}{F F':Nat->List Nat}{q:Nat->Nat->Bool}(hF:FG n F)(hq:∀s,F' s=(F s).filter (q s)):∀(m s:Nat),2 ^ n-s<=m->s<2 ^ n->j7 n F' s=(j7 n F s).filter (nW q s)
 |0,s,hm,hs=>by omega
 |m+1,s,hm,hs=>by
  have MW:FG n F':=λs p hp=>hF s p (aO.mp (hq s▸hp)).1;by_cases e:s=2 ^ n-1
  ·rw[K0 e,K0 e]
   rfl
  ·rw[W9 MW hs e,W9 hF hs e,hq,HH,HI];refine B9 λp hp=>?_;have kl:=hF s p hp;have ih:=HN hF hq m (s |||2 ^ p) (by have:=vf kl.2;omega) (L8 hs kl.1);rw[lF];cases En:q s p
   ·rw[az (by decide)];have:(nW q s ∘ λx=>p::x)=λ_=>false:=by funext x;simp[nW,En]
    rw[this];simp
   ·rw[aF rfl,ih];have:(nW q s ∘ λx=>p::x)=nW q (s |||2 ^ p):=by funext x;simp[nW,En]
    rw[this]
noncomputable def xk(cs:List b7)(r:du)(s p:Nat):Bool:=!meant cs r.w r.y p||(List.range cs.length).any λi=>s.testBit i&&meant cs r.w r.x i
noncomputable def xf(cs:List b7)(v:Int)(s p:Nat):Bool:=!E8 cs s.testBit p&&(!J1 cs s.testBit p&&!decide (v<A3 cs s.testBit p))
theorem a53(cs:List b7)(v:Int)(rs:List du)(s p:Nat):decide (fault cs v rs s.testBit p="")=(xf cs v s p&&rs.all λr=>xk cs r s p):=by
 have en:(rs.all λr=>xk cs r s p)=C3 cs rs s.testBit p:=rfl;rw[en];unfold fault xf;cases E8 cs s.testBit p
 ·cases J1 cs s.testBit p
  ·by_cases h:v<A3 cs s.testBit p
   ·rw[az (by decide),az (by decide),aF h,aC h];simp only[Bool.not_true,Bool.and_false,Bool.false_and]
    decide +kernel
   ·rw[az (by decide),az (by decide),az h,aB h];cases C3 cs rs s.testBit p<;>decide +kernel
  ·rw[az (by decide),aF rfl];simp only[Bool.not_true,Bool.false_and,Bool.and_false]
   decide +kernel
 ·rw[aF rfl];simp only[Bool.not_true,Bool.false_and]
  decide +kernel
theorem Ht(cs:List b7)(v:Int)(rs:List du)(s:Nat):p8 cs v rs s=(unset cs.length s).filter (λp=>xf cs v s p&&rs.all λr=>xk cs r s p):=by
 unfold p8 unset;rw[Kp];refine List.filter_congr λp _=>?_;unfold S1;rw[a53,Bool.and_comm]
theorem Hc{n:Nat}{F:Nat->List Nat}(hF:FG n F){o:List Nat}(h:o∈j7 n F 0):o.length=n/\o.Nodup/\∀i∈o,i<n:=by
 rw[<- Gq hF] at h;exact T7 hF h
noncomputable def many(cs:List b7)(v:Int)(rs:List du):Nat:=(j7 cs.length (p8 cs v rs) 0).length
theorem QX(l:List Nat):(jG l).testBit=iY l:=funext λi=>xQ l i
theorem By{F:Nat->List Nat}:∀{t:Nat} {r:List Nat},r∈O8 F t↔r.length=t/\∀i p,r[i]?=some p->p∈F (jG (r.take i))
 |0,r=>by
  constructor
  ·intro h;cases aS.mp h;exact⟨rfl,λi p e=>by simp at e⟩
  ·rintro⟨h,_⟩;cases gF.mp h;exact aS.mpr rfl
 |t+1,r=>by
  show r∈(O8 F t).flatMap (λr=>(F (jG r)).map λp=>r++[p])↔_;rw[List.mem_flatMap];constructor
  ·rintro⟨r0,h0,h1⟩;obtain⟨p,hp,rfl⟩:=aQ.mp h1;obtain⟨hl,hs⟩:=By.mp h0;refine⟨by simp[hl],λi q e=>?_⟩;by_cases hi:i<r0.length
   ·rw[aA hi] at e;rw[kX (by omega)];exact hs i q e
   ·have zF:i=r0.length:=by
     have:=(aj.mp e).1;simp at this;omega
    subst zF;rw[bu (av _),Nat.sub_self] at e;cases e;rw[List.take_left' rfl];exact hp
  ·rintro⟨hl,hs⟩;have ht:t<r.length:=by omega
   refine⟨r.take t,By.mpr ⟨by simp;omega,λi p e=>?_⟩,?_⟩
   ·have hi:i<t:=by
     have:=(aj.mp e).1;simp at this;omega
    rw[cT hi] at e;rw[List.take_take,Nat.min_eq_left (by omega)];exact hs i p e
   ·refine aQ.mpr ⟨r[t],hs t _ (ai ht),?_⟩;have e:=bz (l:=r) (i:=t);rw[ai ht,dh (by omega)] at e;exact e.symm
structure jL(cs:List b7)(v:Int)(rs:List du)(o:List Nat):Prop where
 len:o.length=cs.length
 st:∀i p,o[i]?=some p->p<cs.length/\p∉o.take i/\fault cs v rs (iY (o.take i)) p=""
theorem Ju{cs:List b7}{v:Int}{rs:List du}{l:List Nat}{p:Nat}:p∈p8 cs v rs (jG l)↔p<cs.length/\p∉l/\fault cs v rs (iY l) p="":=by
 unfold p8 S1;rw[aO,aJ,QX,aU,cN,jR,bZ]
theorem R5{cs:List b7}{v:Int}{rs:List du}{o:List Nat}:o∈j7 cs.length (p8 cs v rs) 0↔jL cs v rs o:=by
 rw[<- Gq (K1 cs v rs),By];exact⟨λh=>⟨h.1,λi p e=>Ju.mp (h.2 i p e)⟩,λh=>⟨h.len,λi p e=>Ju.mpr (h.st i p e)⟩⟩
theorem X8{cs:List b7}{v:Int}{rs:List du}{S:Nat->Bool}{p:Nat}:fault cs v rs S p=""↔E8 cs S p=false/\J1 cs S p=false/\(A3 cs S p:Int)<=v/\C3 cs rs S p=true:=by
 unfold fault;cases E8 cs S p
 ·cases J1 cs S p
  ·rw[az (by decide),az (by decide)];by_cases h:v<A3 cs S p
   ·rw[aF h];exact⟨λz=>absurd z (by decide),λz=>absurd z.2.2.1 (by omega)⟩
   ·rw[az h];cases C3 cs rs S p
    ·exact⟨λz=>absurd z (by decide),λz=>absurd z.2.2.2 (by decide)⟩
    ·exact⟨λ_=>⟨rfl,rfl,by omega,rfl⟩,λ_=>rfl⟩
  ·rw[az (by decide),aF rfl];exact⟨λz=>absurd z (by decide),λz=>absurd z.2.1 (by decide)⟩
 ·rw[aF rfl];exact⟨λz=>absurd z (by decide),λz=>absurd z.1 (by decide)⟩
theorem O4{n:Nat}{f:Nat->Bool}:(List.range n).any f=false↔∀i,i<n->f i=false:=by
 rw[List.any_eq_false];exact⟨λh i hi=>Bool.eq_false_iff.mpr (h i (aJ.mpr hi)),λh i hi=>Bool.eq_false_iff.mp (h i (aJ.mp hi))⟩
theorem rK{n:Nat}{f:Nat->Bool}:(List.range n).any f=true↔∃i,i<n/\f i=true:=by
 rw[bP];exact⟨λ⟨i,h,e⟩=>⟨i,aJ.mp h,e⟩,λ⟨i,h,e⟩=>⟨i,aJ.mpr h,e⟩⟩
theorem Ci{α:Type}[DecidableEq α]:∀{l m:List α},l.Nodup->(∀x∈l,x∈m)->l.length<=m.length
 |[],m,_,_=>cB _
 |x::l,m,nd,h=>by
  obtain⟨h1,h2⟩:=cL.mp nd;have hx:=h x (by simp);have:=Ci (m:=m.erase x) h2 λy hy=>(yk λz=>h1 (by rw[<- z];exact hy)).mpr (h y (by simp[hy]));rw[gi hx] at this;have:0<m.length:=dj hx;simp only[List.length_cons];omega
theorem sf{cs:List b7}{S:Nat->Bool}{p:Nat}{d:Int}:O2 cs S p d=true↔(∃i,i<cs.length/\(S i=true\/i=p)/\(cR cs i).lo=d)/\∃i,i<cs.length/\S i=false/\(cR cs i).lo=d:=by
 unfold O2;rw[aU,rK,rK];simp only[Bool.and_eq_true,Bool.or_eq_true,decide_eq_true_eq,Bool.not_eq_true']
theorem Pl{cs:List b7}{i:Nat}(h:i<cs.length):(cR cs i).lo∈cs.map b7.lo:=aQ.mpr ⟨_,by rw[B4 (ai h)];exact cx h,rfl⟩
theorem IB{cs iA:List b7}{S S':Nat->Bool}{p p':Nat}(h:∀d,O2 iA S' p' d=true->O2 cs S p d=true):A3 iA S' p'<=A3 cs S p:=by
 unfold A3;refine Ci ((Bz _).filter _) λd hd=>?_;have hu:=h d (aO.mp hd).2;refine aO.mpr ⟨GW.mpr ?_,hu⟩;obtain⟨⟨i,hi,_,rfl⟩,_⟩:=sf.mp hu;exact Pl hi
theorem Ze{cs:List b7}{v:Int}{rs:List du}:many cs v rs<=many cs (v+1) rs:=by
 unfold many;have:j7 cs.length (p8 cs v rs) 0=(j7 cs.length (p8 cs (v+1) rs) 0).filter (nW (λs p=>decide ((A3 cs s.testBit p:Int)<=v)) 0):=by
  refine HN (K1 cs (v+1) rs) (λs=>?_) _ 0 (av _) (hJ _);rw[Ht,Ht,Kp];refine List.filter_congr λp _=>?_;unfold xf;have:(!decide ((v:Int)<A3 cs s.testBit p))=(decide ((A3 cs s.testBit p:Int)<=v)&&!decide ((v+1:Int)<A3 cs s.testBit p)):=by
   by_cases h:(A3 cs s.testBit p:Int)<=v
   ·rw[aC h,aB (show ¬(v:Int)<A3 cs s.testBit p by omega),aB (show ¬(v+1:Int)<A3 cs s.testBit p by omega)]
    rfl
   ·rw[aB h,aC (show(v:Int)<A3 cs s.testBit p by omega)]
    rfl
  rw[this];generalize decide ((A3 cs s.testBit p:Int)<=v)=q1;generalize (!decide ((v+1:Int)<A3 cs s.testBit p))=q2;generalize E8 cs s.testBit p=q3;generalize J1 cs s.testBit p=q4;generalize (rs.all λr=>xk cs r s p)=q5;cases q1<;>cases q2<;>cases q3<;>cases q4<;>cases q5<;>rfl
 rw[this];exact cu _ _
noncomputable def u3(m x:Nat):Nat:=if m<x then x-1 else x
noncomputable def jg(m y:Nat):Nat:=if y<m then y else y+1
theorem xS{m x:Nat}(h:x≠m):jg m (u3 m x)=x:=by
 unfold jg u3;split<;>split<;>omega
theorem Sd(m y:Nat):u3 m (jg m y)=y:=by
 unfold jg u3;split<;>split<;>omega
theorem OC(m y:Nat):jg m y≠m:=by
 unfold jg;split<;>omega
noncomputable def E2(m:Nat)(cs:List b7):List b7:=cs.take m++cs.drop (m+1)
theorem BJ{m:Nat}{cs:List b7}(hm:m<cs.length):(E2 m cs).length=cs.length-1:=by
 unfold E2;simp;omega
theorem T3{m i:Nat}{cs:List b7}(hm:m<cs.length):cR (E2 m cs) i=cR cs (jg m i):=by
 unfold E2 jg cR;rw[bw,bw];by_cases h:i<m
 ·rw[aF h,aA (by simp;omega),cT h]
 ·rw[az h,bu (by simp;omega),List.getElem?_drop]
  congr 2
  simp;omega
noncomputable def A9(m x:Int):Int:=x-if m<x then 1 else 0
noncomputable def F5(m:Nat)(rs:List du):List du:=(rs.filter λr=>!decide (r.x=(m:Int))&&!decide (r.y=(m:Int))).map λr=>⟨.eM,A9 m r.x,A9 m r.y⟩
theorem BH{q:Nat->Bool}:∀{o:List Nat} {i x:Nat},(o.filter q)[i]?=some x->∃j,o[j]?=some x/\q x=true/\(o.filter q).take i=(o.take j).filter q
 |[],i,x,h=>by simp at h
 |y::o,i,x,h=>by
  by_cases hy:q y=true
  ·rw[gI hy] at h ⊢;cases i with
   |zero =>
    cases h;exact⟨0,rfl,hy,rfl⟩
   |succ i =>
    rw[gH] at h;obtain⟨j,h1,h2,h3⟩:=BH h;exact⟨j+1,by rw[gH];exact h1,h2,by rw[iU,iU,gI hy,h3]⟩
  ·rw[gJ hy] at h ⊢;obtain⟨j,h1,h2,h3⟩:=BH h;exact⟨j+1,by rw[gH];exact h1,h2,by rw[iU,gJ hy,h3]⟩
theorem U4{cs:List b7}{r:du}(hw:r.w=.eM)(h:j9 cs r=true):(0<=r.x/\r.x<cs.length)/\(0<=r.y/\r.y<cs.length)/\r.x≠r.y:=by
 obtain⟨w,x,y⟩:=r;cases hw;unfold j9 iD at h;simp only[Bool.and_eq_true,Bool.not_eq_true',decide_eq_false_iff_not,List.isEmpty_eq_false_iff] at h;have f:∀z:Int,List.filter (meant cs .eM z) (List.range cs.length)≠[]->0<=z/\z<cs.length:=λz hz=>by
  obtain⟨i,hi⟩:=List.exists_mem_of_ne_nil _ hz;obtain⟨h1,h2⟩:=aO.mp hi;have h1:=aJ.mp h1;have h2:(i:Int)=z:=bp h2;omega
 exact⟨f _ h.2.1,f _ h.2.2,h.1⟩
section
variable{cs:List b7}{v:Int}{rs:List du}{o:List Nat}
theorem jL.nd(h:jL cs v rs o):o.Nodup:=(Hc (K1 cs v rs) (R5.mpr h)).2.1
theorem jL.lt(h:jL cs v rs o):∀i∈o,i<cs.length:=(Hc (K1 cs v rs) (R5.mpr h)).2.2
theorem jL.all(h:jL cs v rs o){i:Nat}(hi:i<cs.length):i∈o:=Ie h.nd h.len h.lt hi
theorem jL.less{m:Nat}(hm:m<cs.length)(h:jL cs v rs o)(hc:∀r∈rs,r.w=.eM)(hR:∀r∈rs,j9 cs r=true):jL (E2 m cs) v (F5 m rs) ((o.filter (· != m)).map (u3 m)):=by
 have hL:=BJ hm;refine⟨?_,λi p e=>?_⟩
 ·rw[ag,<- h.nd.erase_eq_filter,gi (h.all hm),hL,h.len]
 ·rw[ak,aa] at e;obtain⟨x,e,rfl⟩:=e;obtain⟨j,e1,e2,e3⟩:=BH e;have hx:x≠m:=by simpa using e2
  rw[<- gh,e3];obtain⟨h1,h2,h3⟩:=h.st j x e1;generalize o.take j=H at h2 h3 ⊢;have ke:∀i,i<cs.length-1->jg m i<cs.length:=λi hi=>by
   unfold jg;split<;>omega
  have mem:∀i,i∈(H.filter (· != m)).map (u3 m)↔jg m i∈H:=λi=>by
   rw[aQ];constructor
   ·rintro⟨y,hy,rfl⟩;obtain⟨y1,y2⟩:=aO.mp hy;rw[xS (by simpa using y2)];exact y1
   ·intro hy;exact⟨jg m i,aO.mpr ⟨hy,by simpa using OC m i⟩,Sd m i⟩
  have hS:∀i,iY ((H.filter (· != m)).map (u3 m)) i=iY H (jg m i):=λi=>by
   unfold iY;exact dD.mpr (mem i)
  have ux:=xS hx;generalize ly:iY ((H.filter (· != m)).map (u3 m))=S' at hS ⊢;refine⟨?_,λz=>h2 (ux▸(mem _).mp z),?_⟩
  ·rw[hL];unfold u3;split<;>omega
  obtain⟨w1,w2,w3,w4⟩:=X8.mp h3;generalize nh:u3 m x=x' at ux ⊢;refine X8.mpr ⟨?_,?_,?_,?_⟩
  ·refine O4.mpr λi hi=>?_;have:=O4.mp w1 (jg m i) (ke i (hL▸hi));rw[hS,T3 hm,T3 hm,ux];exact this
  ·refine O4.mpr λi hi=>?_;have:=O4.mp w2 (jg m i) (ke i (hL▸hi));rw[hS,T3 hm,T3 hm,ux];exact this
  ·refine Int.le_trans (Int.ofNat_le.mpr (IB λd hd=>?_)) w3;obtain⟨⟨i,i1,i2,i3⟩,k,k1,k2,k3⟩:=sf.mp hd;rw[hS] at i2 k2;rw[T3 hm] at i3 k3;exact sf.mpr ⟨⟨jg m i,ke i (hL▸i1),i2.imp id (λz=>by rw[z,ux]),i3⟩,jg m k,ke k (hL▸k1),k2,k3⟩
  ·unfold C3 F5;rw[List.all_map,aV];intro r hr;obtain⟨hr,hn⟩:=aO.mp hr;have wt:r.x≠m/\r.y≠m:=by simpa using hn
   have hw:=hc r hr;obtain⟨gx,gy,gn⟩:=U4 hw (hR r hr);have mf:=aV.mp w4 r hr;rw[hw] at mf;simp only[meant,Bool.or_eq_true,Bool.not_eq_true',decide_eq_false_iff_not] at mf;simp only[Function.comp_apply,meant,Bool.or_eq_true,Bool.not_eq_true',decide_eq_false_iff_not];have lI:∀z:Nat,z≠m->A9 m (z:Int)=(u3 m z:Nat):=λz hz=>by
    unfold A9 u3;split<;>split<;>omega
   obtain⟨a,ha⟩:∃a:Nat,r.x=a:=⟨r.x.toNat,by omega⟩
   obtain⟨b,hb⟩:∃b:Nat,r.y=b:=⟨r.y.toNat,by omega⟩
   have EM:a≠m:=λz=>wt.1 (by omega);have EK:b≠m:=λz=>wt.2 (by omega);rcases mf with z|z
   ·refine .inl λq=>z ?_;rw[hb,lI b EK] at q;have q:x'=u3 m b:=by omega
    have:=fI (jg m) q;rw[ux,xS EK] at this;omega
   ·refine .inr (rK.mpr ?_);obtain⟨i,i1,i2⟩:=rK.mp z;simp only[Bool.and_eq_true,decide_eq_true_eq] at i2;have Mx:i=a:=by omega
    subst Mx;refine⟨u3 m i,?_,?_⟩
    ·rw[hL];unfold u3;split<;>omega
    ·rw[hS,xS EM];simp only[Bool.and_eq_true,decide_eq_true_eq];exact⟨i2.1,by rw[ha,lI i EM]⟩
theorem GC(l:List Int):lJ l l=true:=by
 unfold lJ;simp
theorem IT(c:b7):mw c c=false:=by
 unfold mw;rw[GC,GC];simp
theorem U6{c:b7}{i:Nat}(h:i<cs.length):cR (cs++[c]) i=cR cs i:=by
 unfold cR;rw[bw,bw,aA h]
theorem rR{c:b7}:cR (cs++[c]) cs.length=c:=B4 (by simp)
theorem jL.more{l:Nat}(h:jL cs v rs o)(hl:o[cs.length-1]?=some l)(hn:0<cs.length)(hv:1<=v)(hc:∀r∈rs,r.w=.eM)(hR:∀r∈rs,j9 cs r=true):jL (cs++[cR cs l]) v rs (o++[cs.length]):=by
 have dN:=h.lt;have hL:(cs++[cR cs l]).length=cs.length+1:=by simp
 have zA:l<cs.length:=(h.st _ _ hl).1;have need:∀{S:Nat->Bool} {p:Nat},(p=cs.length\/(p<cs.length/\C3 cs rs S p=true))->C3 (cs++[cR cs l]) rs S p=true:=λ{S p} hp=>by
  unfold C3;rw[aV];intro r hr;have hw:=hc r hr;obtain⟨gx,gy,gn⟩:=U4 hw (hR r hr);rw[hw];simp only[meant,Bool.or_eq_true,Bool.not_eq_true',decide_eq_false_iff_not];rcases hp with rfl|⟨hp,hB⟩
  ·exact .inl (by omega)
  ·have:=aV.mp hB r hr;rw[hw] at this;simp only[meant,Bool.or_eq_true,Bool.not_eq_true',decide_eq_false_iff_not] at this;refine this.imp id λz=>?_;obtain⟨i,i1,i2⟩:=rK.mp z;exact rK.mpr ⟨i,by omega,i2⟩
 refine⟨by simp[h.len],λi p e=>?_⟩;by_cases hi:i<o.length
 ·rw[aA hi] at e;rw[kX (by omega)];obtain⟨h1,h2,h3⟩:=h.st i p e;refine⟨by omega,h2,?_⟩;have wo:iY (o.take i) cs.length=false:=aB λz=>bj _ (dN _ (iK z));have Et:iY (o.take i) l=false:=aB λz=>by
   obtain⟨j,hj,e⟩:=bH.mp z;have wu:j<i:=by simp at hj;omega
   have zz:=(aj.mp hl)
   obtain⟨u1,u2⟩:=zz;rw[jP] at e;have:=(gG (h₀:=by omega) (h₁:=u1) h.nd).mp (e.trans u2.symm);have:=h.len;omega
  generalize iY (o.take i)=S at h3 wo Et ⊢;obtain⟨w1,w2,w3,w4⟩:=X8.mp h3;refine X8.mpr ⟨?_,?_,?_,need (.inr ⟨h1,w4⟩)⟩
  ·refine O4.mpr λj hj=>?_;by_cases kK:j<cs.length
   ·rw[U6 kK,U6 h1];exact O4.mp w1 j kK
   ·have:j=cs.length:=by omega
    rw[this,wo]
    rfl
  ·refine O4.mpr λj hj=>?_;by_cases kK:j<cs.length
   ·rw[U6 kK,U6 h1];exact O4.mp w2 j kK
   ·have:j=cs.length:=by omega
    rw[this,wo]
    rfl
  ·refine Int.le_trans (Int.ofNat_le.mpr (IB λd hd=>?_)) w3;obtain⟨⟨a,a1,a2,a3⟩,b,b1,b2,b3⟩:=sf.mp hd;have ha:a<cs.length:=by
    rcases a2 with z|z
    ·by_cases ha:a<cs.length
     ·exact ha
     ·have:a=cs.length:=by omega
      rw[this,wo] at z;cases z
    ·omega
   rw[U6 ha] at a3;refine sf.mpr ⟨⟨a,ha,a2,a3⟩,?_⟩;by_cases hb:b<cs.length
   ·rw[U6 hb] at b3;exact⟨b,hb,b2,b3⟩
   ·have:b=cs.length:=by omega
    rw[this,rR] at b3;exact⟨l,zA,Et,b3⟩
 ·have zF:i=o.length:=by
   have:=(aj.mp e).1;simp at this;omega
  subst zF;rw[bu (av _),Nat.sub_self] at e;cases e;rw[List.take_left' rfl];have jI:∀j,j<cs.length->j∈o:=λj hj=>h.all hj;refine⟨by omega,λz=>bj _ (dN _ z),?_⟩;obtain⟨_,_,h3⟩:=h.st _ _ hl;obtain⟨w1,w2,_,_⟩:=X8.mp h3;have last:∀j,j<cs.length->j≠l->iY (o.take (cs.length-1)) j=true:=λj hj dw=>by
   obtain⟨t,ht,e⟩:=bH.mp (jI j hj);refine aC ?_;have htn:t≠cs.length-1:=λz=>by
    subst z;rw[ai ht,e] at hl;exact dw (aI hl)
   refine bH.mpr ⟨t,by have:=h.len;simp;omega,?_⟩;rw[jP];exact e
  refine X8.mpr ⟨?_,?_,?_,need (.inl rfl)⟩
  ·refine O4.mpr λj hj=>?_;by_cases kK:j<cs.length
   ·rw[U6 kK,rR];by_cases ub:j=l
    ·rw[ub,IT,eK]
    ·have:=O4.mp w1 j kK;rw[last j kK ub,jf] at this;rw[this,eK]
   ·have:j=cs.length:=by omega
    rw[this,rR,IT,eK]
  ·refine O4.mpr λj hj=>?_;have lr:∀c:b7,jw c c=false:=λc=>by simp[jw]
   by_cases kK:j<cs.length
   ·rw[U6 kK,rR];by_cases ub:j=l
    ·rw[ub,lr,eK]
    ·have:=O4.mp w2 j kK;rw[last j kK ub,jf] at this;rw[this,eK]
   ·have:j=cs.length:=by omega
    rw[this,rR,lr,eK]
  ·have:A3 (cs++[cR cs l]) (iY o) cs.length<=[(cR cs l).lo].length:=by
    unfold A3;refine Ci ((Bz _).filter _) λd hd=>?_;obtain⟨_,b,b1,b2,b3⟩:=sf.mp (aO.mp hd).2;have hb:b=cs.length:=by
     by_cases hb:b<cs.length
     ·exact absurd (jI b hb) (of_decide_eq_false b2)
     ·omega
    rw[hb,rR] at b3;exact aS.mpr b3.symm
   rw[eW] at this;omega
theorem jL.none(h:jL cs v rs o):uW cs v rs (o.map λ(i:Nat)=>(i:Int))=none:=by
 have gD:∀i,i<o.length->∃p,o[i]?=some p/\(o.map λ(i:Nat)=>(i:Int)).getD i 0=(p:Nat):=λi hi=>⟨o[i],ai hi,getD_at (by rw[ak,ai hi];rfl)⟩
 unfold uW;rw[aF (by rw[ag,h.len])];have p1:(List.range (o.map λ(i:Nat)=>(i:Int)).length).findSome? (kI cs.length (o.map λ(i:Nat)=>(i:Int)))=Option.none:=by
  rw[fO];intro i hi;rw[aJ,ag] at hi;obtain⟨p,e1,e2⟩:=gD i hi;obtain⟨h1,h2,_⟩:=h.st i p e1;unfold kI;rw[e2,aF ⟨by omega,by omega⟩,az];rw[<- gh];intro z;obtain⟨q,hq,e⟩:=aQ.mp z;exact h2 ((by omega:q=p)▸hq)
 have p2:(List.range (o.map λ(i:Nat)=>(i:Int)).length).findSome? (ny cs v rs (o.map λ(i:Nat)=>(i:Int)))=Option.none:=by
  rw[fO];intro i hi;rw[aJ,ag] at hi;obtain⟨p,e1,e2⟩:=gD i hi;obtain⟨_,_,h3⟩:=h.st i p e1;unfold ny;have:E9 (o.map λ(i:Nat)=>(i:Int)) i=o.take i:=by
   unfold E9;rw[<- gh,cz];exact(Dv λ_ _=>rfl).trans (List.map_id _)
  rw[e2,this,bU,aF h3]
 rw[p1,p2]
 rfl
end
noncomputable def xi:aW:=⟨2,2,(.seq (.ret (bY (.bin .Sub) aL (dF .int (bY (.cmp .Gt) aL bo)))) .pass)⟩
noncomputable def De:aW:=⟨1,10,(.seq (.set 1 (.call 3 (eZ aL))) (.seq (.kZ (.many [2,3]) (.call 26 (dc bo (bg 8)))) (.seq (.set 4 (.comp [] 2 (.one 1) (.fB (.call 106 (dc bo bh))) (dY .Eq (df bo (bg 0)) (hV "coin")) bo)) (.seq (.ifs (dY .Gt (.call 126 (fH bh bT cJ)) (.call 126 (fH bh (bY (.bin .Add) bT (bg 1)) cJ))) (.seq (.ret (.lit (.bl false))) .pass) .pass) (.seq (.set 5 (.call 125 (fH bh bT cJ))) (.seq (.ifs (.jt (dY .Is eR (.lit .bD)) (dY .Eq (dF .len bh) (bg 0))) (.seq (.ret (.jt (bY (.cmp .Gt) (dF .len bh) (bg 0)) (bY (.cmp .Eq) eR (.prim .lst .nil)))) .pass) .pass) (.seq (.set 6 (.call 4 (dc bo (dF .len bh)))) (.seq (.set 7 (bY (.bin .Add) (bY (.kf false true) bh ff) (bY (.kf true false) bh (bY (.bin .Add) ff (bg 1))))) (.seq (.set 8 (.comp [6] 5 (.many [2,3,4]) (.fB cJ) (.dG (dY .NotEq bT aL) (dY .NotEq cJ aL)) (.prim .tup (fH (hV "coin") (.call 157 (dc bT aL)) (.call 157 (dc cJ aL)))))) (.seq (.ifs (dY .IsNot (.call 104 (pA iX bT kJ (.comp [6] 3 (.one 2) (.fB eR) (dY .NotEq bh aL) (.call 157 (dc bh aL))))) (.lit .bD)) (.seq (.ret (.lit (.bl false))) .pass) .pass) (.seq (.ifs (dY .Is (.call 125 (fH iX bT kJ)) (.lit .bD)) (.seq (.ret (.lit (.bl false))) .pass) .pass) (.seq (.set 9 (bY (.bin .Add) bh (dF .lst (df bh (df eR (dF (.un .USub) (bg 1))))))) (.seq (.ret (.dG (bY (.cmp .Is) (.call 104 (pA tI bT cJ (bY (.bin .Add) eR (dF .lst (dF .len bh))))) (.lit .bD)) (bY (.cmp .Gt) (.call 126 (fH tI bT cJ)) (bg 0)))) .pass)))))))))))))⟩
structure Ka(T:Nat->Option aW):Prop where
 tb:TB T
 yC:yd T
 tf:TF T
 tw:TW T
 tn:TN T
 to:TO T
 h3:T 3=some xj
 Nn:T 11=some De
 Am:T 104=some V0
 kO:T 124=some H9
 nv:T 125=some M9
 my:T 126=some Z3
 qd:T 157=some xi
section
variable{P:eT}{Z:S}{g:G}{Q:KD}{E:KX}{t:MT}{it c elt:ME}{d6:List Nat}{n:Nat}
theorem YQ(hP:i7 P)(h:eB P it Z g (λk g1=>∃(l:List D) (Sh:S->Prop) (p:Nat->Bool) (w:Nat->D),(∀g',Ex g1 g'->k.Is l g')/\l.length<=1000/\Sh (C4 Z d6 n) /\
      (∀ i d Z g',l[i]?=some d->Ex g1 g'->Sh Z->iO t d Z λcb=>cA P c cb g' (λb g3=>b=p i/\Ex g1 g3/\if b=true then aK P elt cb g3 (λy g4=>y=w i/\Ex g1 g4/\Sh cb) iC else Sh cb) iC)/\∀ g',Ex g1 g'->Q (.ref g'.length) (g' ++ [.lst (((List.range l.length).filter p).map w)])) E):aK P (.comp d6 n t it c elt) Z g Q E:=by
  refine G0 hP (w5 hP it _ _ _ _ _ _ (λk g1 h=>?_) (λ_ _ z=>z) h);obtain⟨l,Sh,p,w,hk,hl,h0,hs,hd⟩:=h;refine⟨l,λi ys Z g'=>Ex g1 g'/\ys=((List.range i).filter p).map w/\Sh Z,hl,λi ys Z g' q=>⟨hk _ q.1,?_⟩,⟨Ex.refl _,rfl,h0⟩,λi x ys Z g' hx q=>?_,λys Z g' q=>?_⟩
  · obtain⟨_,rfl,_⟩:=q;rw[ag];exact aG (cu _ _) (by simp)
  · obtain⟨e1,rfl,sh⟩:=q;refine u9 (λcb q=>n8 hP c _ _ _ _ _ _ (λb g3 q=>?_) (λ_ _ z=>z) q) (hs i x Z g' hx e1 sh);obtain⟨rfl,e3,q⟩:=q;have ef:((List.range (i+1)).filter p).map w=((List.range i).filter p).map w++if p i=true then[w i] else[]:=by
      rw[dU,dk,cE]
      congr 1
      cases z:p i<;>simp only[List.filter_cons,z,List.filter_nil]<;>rfl
    cases hp:p i with
    |true =>
      rw[hp] at q ef;rw[aF rfl] at q ⊢;refine b9 hP elt _ _ _ _ _ _ (λy g4 q=>?_) (λ_ _ z=>z) q;obtain⟨rfl,e4,sh⟩:=q;exact⟨e4,by rw[ef];rfl,sh⟩
    |false =>
      rw[hp] at q ef;rw[az (by decide)] at q ⊢;exact⟨e3,by rw[ef];simp,q⟩
  · obtain⟨e1,rfl,sh⟩:=q;exact hd g' e1
end
theorem Bv{α:Type}(q:α->Bool)(f:α->D)(d:α)(l:List α):((List.range l.length).filter λi=>q (l.getD i d)).map (λi=>f (l.getD i d))=(l.filter q).map f:=by
 have e:(List.range l.length).map (λi=>l.getD i d)=l:=by
  refine eI λi=>?_;rw[ak];by_cases hi:i<l.length
  ·rw[cG hi,Option.map_some,bw,ai hi]
   rfl
  ·rw[aX (by simpa using hi),aX (by omega)]
   rfl
 have h:(((List.range l.length).map λi=>l.getD i d).filter q).map f=(l.filter q).map f:=by rw[e]
 rw[lF,cz] at h;exact h
noncomputable def r0:du:=⟨.eM,0,0⟩
noncomputable def oh(r:du):Bool:=decide (r.w.s="coin")
theorem VO{r:du}(h:oh r=true):r.w=.eM:=by
 obtain⟨w,x,y⟩:=r;unfold oh at h;cases w
 ·rfl
 ·exact absurd (show RW.s .lower="coin" from bp h) (by decide)
 ·exact absurd (show RW.s .upper="coin" from bp h) (by decide)
theorem YR{v:Int}{rs:List du}:j7 ([]:List b7).length (p8 [] v rs) 0=[[]]:=K0 rfl
theorem RK{α:Type}{l:List α}{n:Nat}:cut l (some (n:Int)) none=l.drop n:=by
 have:¬((n:Int)<0):=by omega
 unfold cut HT.de;simp[this];by_cases h:n<=l.length
 ·rw[Nat.min_eq_left h,dh (by simp)]
 ·rw[Nat.min_eq_right (by omega),eJ (av _),eJ (by omega)];simp
theorem Gs(rs:List du):(p6 rs).length=rs.length:=by unfold p6;simp
theorem Zb{m:Nat}{rs:List du}:((List.range rs.length).filter λi=>!decide ((rs.getD i r0).x=(m:Int))&&!decide ((rs.getD i r0).y=(m:Int))).map (λi=>du.d ⟨.eM,A9 m (rs.getD i r0).x,A9 m (rs.getD i r0).y⟩)=p6 (F5 m rs):=by
 rw[Bv (λr=>!decide (r.x=(m:Int))&&!decide (r.y=(m:Int))) (λr=>du.d ⟨.eM,A9 m r.x,A9 m r.y⟩) r0 rs];unfold p6 F5;rw[cz]
 rfl
theorem zc{b:Bool}{A B:Prop}(h1:b=true->A)(h2:b=false->B):if b=true then A else B:=by
 cases b
 ·exact h2 rfl
 ·exact h1 rfl
theorem a64{α:Type}{l:List α}{x:α}:fR (l++[x]) (-1)=some x:=by
 simp[fR,jW,seqIndex?];rw[aF (by omega)];show(l++[x])[(-1+((l.length:Int)+1)).toNat]?=some x;rw[show(-1+((l.length:Int)+1)).toNat=l.length by omega];simp
theorem M4(o:List Nat):(d5 o).length=o.length:=by unfold d5;simp
theorem ints_map(o:List Nat):d5 o=(o.map λ(i:Nat)=>(i:Int)).map D.int:=by unfold d5;rw[cz];rfl
theorem Sl{p m:Nat}:(!decide ((p:Int)=(m:Int)))=(p != m):=by
 by_cases h:p=m
 ·simp[h]
 ·have:¬((p:Int)=(m:Int)):=by omega
  simp[h,this]
theorem Yb{m x:Nat}:A9 m (x:Int)=(u3 m x:Nat):=by
 unfold A9 u3;split<;>split<;>omega
theorem a40{m:Nat}{o:List Nat}:((List.range o.length).filter λi=>o.getD i 0 != m).map (λi=>D.int ((u3 m (o.getD i 0):Nat):Int))=d5 ((o.filter (· != m)).map (u3 m)):=by
 rw[Bv (λx=>x != m) (λx=>D.int ((u3 m x:Nat):Int)) 0 o];unfold d5;rw[cz]
 rfl
theorem Hu{cs:List b7}{x y:Int}(hx:0<=x/\x<cs.length)(hy:0<=y/\y<cs.length)(hn:x≠y):j9 cs ⟨.eM,x,y⟩=true:=by
 unfold j9 iD;simp only[Bool.and_eq_true,Bool.not_eq_true',decide_eq_false_iff_not,List.isEmpty_eq_false_iff];have f:∀z:Int,0<=z/\z<cs.length->List.filter (meant cs .eM z) (List.range cs.length)≠[]:=λz hz=>List.ne_nil_of_mem (a:=z.toNat) (aO.mpr ⟨aJ.mpr (by omega),aC (by omega)⟩);exact⟨hn,f _ hx,f _ hy⟩
theorem Yc{cs:List b7}{rs:List du}{m:Nat}(hm:m<cs.length)(hw:∀r∈rs,r.w=.eM)(hR:∀r∈rs,j9 cs r=true):(F5 m rs).all (j9 (E2 m cs))=true:=by
 rw[aV];intro r hr;unfold F5 at hr;obtain⟨r1,LY,rfl⟩:=aQ.mp hr;obtain⟨h1,h2⟩:=aO.mp LY;have wt:r1.x≠m/\r1.y≠m:=by simpa using h2
 obtain⟨gx,gy,gn⟩:=U4 (hw r1 h1) (hR r1 h1);have hL:=BJ hm;refine Hu ?_ ?_ ?_
 ·rw[hL];unfold A9;split<;>omega
 ·rw[hL];unfold A9;split<;>omega
 ·unfold A9;split<;>split<;>omega
section
variable{T:Nat->Option aW}{k d:Nat}{g g':G}{Q:KD}{E:KX}{a b c r:Nat}{cs:List b7}{rs:List du}{v:Int}{ns:List Int}
theorem Ha(hT:Ka T)(A:Ask g a c cs v rs)(hr:g[r]?=some (.lst (ns.map .int)))(hl:ns.length<=100)(h:∀g',Ex g g'->Q (pairF (uW cs v rs ns)) g'):d4 T (k+11) 104 [.ref a,.int v,.ref c,.ref r] g Q E:=by
 refine call_of hT.Am rfl ?_;dsimp[V0,d8,List.replicate];walk_at"";refine YO (k:=k) hT.tb A λg1 b e1 _ B=>?_;walk_at"";exact ZL (k:=k+6) hT.tb hT.to B A.hz A.hr (e1.at hr) hl λg2 e2=>h g2 (e1.trans e2)
theorem Bm(h:T 157=some xi){x m:Int}(q:Q (.int (A9 m x)) g):d4 T (k+1) 157 [.int x,.int m] g Q E:=by
 refine call_of h rfl ?_;dsimp[xi,d8,List.replicate];walk_at"";unfold A9 at q;by_cases c:m<x
 ·rw[aC c];rw[aF c] at q;exact q
 ·rw[aB c];rw[az c] at q;exact q
theorem a43(hT:Ka T){ns:List Int}:d4 T (k+12) 11 [.ref 0] [.nz (ns.map .int)] (λd _=>d=.bl true) iC:=by
 refine call_of hT.Nn rfl ?_;dsimp[De,d8,List.replicate];walk_at"";refine Sv (k:=k+10) hT.h3 (a:=0) (ns:=ns) rfl λd g D1 _ _=>?_;walk_at"";have dl:=D1.lt;refine Y' (k:=k+7) hT.yC.lf ⟨by decide,by decide⟩ D1 λcs a v g2 hl hG ha hal v1 v2 D2 G2=>?_;refine A1 rfl ?_
 try show wpS _ _ _ _ _ _
 have hz:cs.length<=8:=by omega
 have hB:∀c∈cs,CB c:=λc hc=>⟨(hG c hc).l8,(hG c hc).u8⟩
 have hg:cs.all p9=true:=aV.mpr λc hc=>(hG c hc).good;have dl2:=D2.lt;walk_at"";refine YQ (b8 T _) (lV (b8 T _) ?_);walk_at"";refine a05 (k:=k+8) hT.yC ha (by omega) (by omega) D2 λlO c0 g3 LZ MU pW jZ D3 G3=>?_;have a3:=G3.at (by omega) ha;have zl:(p6 lO).length=lO.length:=by unfold p6;simp
 refine⟨c0,_,rfl,b0 pW,p6 lO,λZ=>∃z0 z1,Z=[z0,z1],λi=>oh (lO.getD i r0),λi=>(lO.getD i r0).d,λg' e=>u7 (b0 (e.at pW)),by omega,⟨none,none,rfl⟩,λi x Z g' hx e sh=>?_,λg4 e4=>?_⟩
 ·obtain⟨z0,z1,rfl⟩:=sh;unfold p6 at hx;rw[ak,aa] at hx;obtain⟨r,hr,rfl⟩:=hx;have er:lO.getD i r0=r:=by rw[bw,hr];rfl
  dsimp only;rw[er];refine p0 ?_
  try show cA _ _ _ _ _ _
  walk_at"";refine E4 (l:=[.str r.w.s,.int r.x,.int r.y]) rfl ?_;walk_at"";refine⟨rfl,e,?_⟩;refine if2 (λ_=>?_) (λ_=>⟨_,_,rfl⟩);walk_at"";exact⟨rfl,e,_,_,rfl⟩
 rw[zl,Bv oh du.d r0 lO];have hw:∀r∈lO.filter oh,r.w=.eM:=λr hr=>VO (aO.mp hr).2;have ur:∀r∈lO.filter oh,j9 cs r=true:=λr hr=>aV.mp MU r (aO.mp hr).1;have Em:(lO.filter oh).length<=4:=aG (cu _ _) LZ;generalize lO.filter oh=rs at *;have hR:rs.all (j9 cs)=true:=aV.mpr ur;have c5:(g4++[O.lst (rs.map du.d)])[g4.length]?=some (.lst (p6 rs)):=d0;have e5:=e4.trans (Ex.snoc g4 (O.lst (rs.map du.d)));have a5:=e5.at a3;have D5:=e5.draw D3;have ka:g4.length≠d:=by have:=e4.len;have:=D3.lt;omega
 have hca:g4.length≠a:=by have:=e4.len;have:=k8 a3;omega
 generalize g4++[O.lst (rs.map du.d)]=g5 at *;generalize g4.length=c at *;clear e5 e4;walk_at"";refine V8 (k:=k) hT.tb hT.tf hT.tw hT.my a5 (by omega) hg hB ⟨v1,by omega⟩ c5 (by omega) hR λg6 e6=>?_;walk_at"";refine V8 (k:=k) hT.tb hT.tf hT.tw hT.my (e6.at a5) (by omega) hg hB ⟨by omega,by omega⟩ (e6.at c5) (by omega) hR λg7 e7=>?_;walk_at"";have ma:=Ze (cs:=cs) (v:=v) (rs:=rs);unfold many at ma;refine gb (aB (by omega)) ?_;have wO:=e6.trans e7;have a7:=wO.at a5;have c7:=wO.at c5;have D7:=wO.draw D5;clear wO e6 e7 a5 c5 D5;walk_at"";refine X4 (k:=k) hT.tb hT.tf hT.tw hT.tn hT.kO hT.nv a7 (by omega) hg hB ⟨v1,by omega⟩ c7 (by omega) hR (λho g8 e8=>?_) (λo l g8 ho e8 Mm h8=>?_)
 ·have dw:cs.length≠0:=λz=>by
   cases gF.mp z;rw[YR] at ho;cases ho
  have a8:=e8.at a7;walk_at"";rw[ag];exact gW (aC (by omega)) rfl
 have hO:jL cs v rs o:=R5.mp (aP ho);have a8:=e8.at a7;have c8:=e8.at c7;have D8:=e8.draw D7;have Mj:l≠d:=by have:=D7.lt;omega
 clear e8 a7 c7 ho Mm;walk_at"";rw[ag];refine if2 (λz=>?_) (λdw=>?_)
 ·have z0:cs.length=0:=by omega
  have:o=[]:=gF.mp (hO.len.trans z0);subst this;walk_at"";rw[ag];refine gb (aB (by omega)) ?_;walk_at"";exact CV (GL (ms:=[]) (ns:=[]) (b0 ((Ex.snoc _ _).at h8)) (b0 d0) rfl)
 walk_at"";rw[ag];refine i5 (k:=k+10) hT.yC.lf.pull D8 (by omega) (by omega) λn g9 n0 n1 D9 G9=>?_;obtain⟨m,rfl⟩:∃m:Nat,n=m:=⟨n.toNat,by omega⟩
 have hm:m<cs.length:=by omega
 have a9:=G9.at (by omega) a8;have c9:=G9.at ka c8;have l9:=G9.at Mj h8;clear a8 c8 h8 D8 D9 G9;walk_at"";refine xB (b0 a9) ?_;rw[CG (by rw[ag];omega),<- gh];walk_at"";refine QP (b0 ((Ex.snoc _ _).at a9)) ?_;rw[show((m:Nat):Int)+1=((m+1:Nat):Int) by omega,RK,<- List.map_drop];refine xa ((Ex.snoc _ _).at d0) d0 (by simp;omega) ?_;rw[<- cE];have qo:=(((Ex.snoc g9 (O.lst ((cs.take m).map b7.d))).trans (Ex.snoc _ (O.lst ((cs.drop (m+1)).map b7.d)))).trans (Ex.snoc _ (O.lst ((E2 m cs).map b7.d))))
 have Gk:=d0 (g:=g9++[O.lst ((cs.take m).map b7.d)]++[O.lst ((cs.drop (m+1)).map b7.d)]) (o:=O.lst ((E2 m cs).map b7.d));rw[show cs.take m++cs.drop (m+1)=E2 m cs from rfl];generalize g9++[O.lst ((cs.take m).map b7.d)]++[O.lst ((cs.drop (m+1)).map b7.d)]++[O.lst ((E2 m cs).map b7.d)]=Fd at *;generalize (g9++[O.lst ((cs.take m).map b7.d)]++[O.lst ((cs.drop (m+1)).map b7.d)]).length=b at *;have J':=qo.at a9;have wW:=qo.at c9;have yZ:=qo.at l9;clear qo a9 c9 l9;walk_at"";refine B3 (b8 T _) (λZ=>∃z1 z2 z3 z4,Z=[some (.int (m:Nat)),z1,z2,z3,z4]) (λi=>!decide ((rs.getD i r0).x=(m:Int))&&!decide ((rs.getD i r0).y=(m:Int))) (λi=>du.d ⟨.eM,A9 m (rs.getD i r0).x,A9 m (rs.getD i r0).y⟩) (l:=p6 rs) (k:=.lst c) (λg' e=>u7 (b0 (e.at wW))) (by rw[Gs];omega) ⟨none,none,none,none,rfl⟩ (λi x Z g' hx e sh=>?_) (λuF wU=>?_) (oR (b8 T _) (b0 wW) λQ q=>w_var (d:=.ref c) rfl q)
 ·obtain⟨z1,z2,z3,z4,rfl⟩:=sh;unfold p6 at hx;rw[ak,aa] at hx;obtain⟨r,hr,rfl⟩:=hx;have er:rs.getD i r0=r:=by rw[bw,hr];rfl
  rw[er];refine A1 (l:=[.str r.w.s,.int r.x,.int r.y]) rfl ?_
  try show cA _ _ _ _ _ _
  walk_at"";refine zc (λh1=>?_) (λh1=>?_)
  ·walk_at"";refine⟨by rw[h1];rfl,e,?_⟩;refine zc (λh2=>?_) (λh2=>⟨_,_,_,_,rfl⟩);walk_at"";refine Bm (k:=k+10) hT.qd ?_;walk_at"";refine Bm (k:=k+10) hT.qd ?_;walk_at"";exact⟨rfl,e,_,_,_,_,rfl⟩
  ·refine⟨by rw[h1];rfl,e,?_⟩;exact gb rfl ⟨_,_,_,_,rfl⟩
 rw[Gs,Zb];have FL:=d0 (g:=uF) (o:=O.lst (p6 (F5 m rs)));have kR:=wU.trans (Ex.snoc uF (O.lst (p6 (F5 m rs))));generalize uF++[O.lst (p6 (F5 m rs))]=g12 at *;generalize uF.length=c' at *;have JZ:=kR.at J';have FK:=kR.at wW;have we:=kR.at yZ;have Gj:=kR.at Gk;clear wU kR J' wW yZ Gk;walk_at"";refine B3 (b8 T _) (λZ=>∃z1 z2,Z=[some (.int (m:Nat)),z1,z2]) (λi=>o.getD i 0 != m) (λi=>.int ((u3 m (o.getD i 0):Nat):Int)) (l:=d5 o) (k:=.lst l) (λg' e=>u7 (b0 (e.at we))) (by rw[M4,hO.len];omega) ⟨none,none,rfl⟩ (λi x Z g' hx e sh=>?_) (λwK Fu=>?_) (oR (b8 T _) (b0 we) λQ q=>w_var (d:=.ref l) rfl q)
 ·obtain⟨z1,z2,rfl⟩:=sh;unfold d5 at hx;rw[ak,aa] at hx;obtain⟨p,hp,rfl⟩:=hx;have ep:o.getD i 0=p:=by rw[bw,hp];rfl
  rw[ep];refine p0 ?_
  try show cA _ _ _ _ _ _
  walk_at"";refine⟨Sl,e,?_⟩;refine zc (λh2=>?_) (λh2=>⟨_,_,rfl⟩);walk_at"";refine Bm (k:=k+10) hT.qd ?_;exact⟨by rw[Yb],e,_,_,rfl⟩
 rw[M4,a40];have yL:=d0 (g:=wK) (o:=O.lst (d5 ((o.filter (· != m)).map (u3 m))));have oI:=Fu.trans (Ex.snoc wK (O.lst (d5 ((o.filter (· != m)).map (u3 m)))));generalize wK++[O.lst (d5 ((o.filter (· != m)).map (u3 m)))]=NB at *;generalize wK.length=r at *;have JY:=oI.at JZ;have FJ:=oI.at FK;have Ec:=oI.at we;have AN:=oI.at Gj;have AF:=oI.at FL;clear Fu oI JZ FK we Gj FL;have hL:=BJ hm;have wF:∀x∈E2 m cs,iF x:=λx hx=>by
  unfold E2 at hx;rcases aZ.mp hx with z|z
  ·exact hG x (iK z)
  ·exact hG x (yj z)
 have EU:(F5 m rs).all (j9 (E2 m cs))=true:=Yc hm hw ur;have LW:(F5 m rs).length<=4:=by
  unfold F5;rw[ag];exact aG (cu _ _) Em
 have zW:=hO.less hm hw ur;have Kk:Ask NB b c' (E2 m cs) v (F5 m rs):=⟨AN,by omega,wF,⟨v1,by omega⟩,AF,by omega,EU⟩
 walk_at"";rw[ints_map] at yL;refine Ha (k:=k) hT Kk yL (by rw[ag,zW.len];omega) λg15 qm=>?_;rw[zW.none];walk_at"";refine gb rfl ?_;walk_at"";refine X4 (k:=k) hT.tb hT.tf hT.tw hT.tn hT.kO hT.nv (qm.at AN) (by omega) (aV.mpr λc hc=>(wF c hc).good) (λc hc=>⟨(wF c hc).l8,(wF c hc).u8⟩) ⟨v1,by omega⟩ (qm.at AF) (by omega) EU (λho=>?_) (λo2 l2 wJ ho Ft Mq Nm=>?_)
 ·have:=R5.mpr zW;rw[ho] at this;cases this
 have nD:=qm.trans Ft;have yb:=nD.at JY;have FI:=nD.at FJ;have yY:=nD.at Ec;clear nD qm Ft JY FJ Ec AN AF yL Kk Nm;walk_at"";obtain⟨p,hp⟩:∃p,o[cs.length-1]?=some p:=⟨o[cs.length-1]'(by rw[hO.len];omega),ai _⟩
 have fS:=(hO.st _ _ hp).1;have tY:fR (d5 o) (-1)=some (.int (p:Nat)):=by
  have e:o=o.take (cs.length-1)++[p]:=by
   have e:=bz (l:=o) (i:=cs.length-1);rw[hp,dh (by rw[hO.len];omega)] at e;exact e
  rw[e,show d5 (o.take (cs.length-1)++[p])=d5 (o.take (cs.length-1))++[.int (p:Nat)] by unfold d5;simp];exact a64
 refine u6 (b0 yY) tY ?_;walk_at"";refine u6 (b0 yb) (RJ fS) ?_;walk_at"";refine xa ((Ex.snoc _ _).at yb) d0 (by simp;omega) ?_;rw[show cs.map b7.d++[(cR cs p).d]=(cs++[cR cs p]).map b7.d by simp];have WE:=d0 (g:=wJ++[O.lst [(cR cs p).d]]) (o:=O.lst ((cs++[cR cs p]).map b7.d));have wR:=(Ex.snoc wJ (O.lst [(cR cs p).d])).trans (Ex.snoc _ (O.lst ((cs++[cR cs p]).map b7.d)));generalize wJ++[O.lst [(cR cs p).d]]++[O.lst ((cs++[cR cs p]).map b7.d)]=wI at *;generalize (wJ++[O.lst [(cR cs p).d]]).length=b2 at *;have a17:=wR.at yb;have Oa:=wR.at FI;have LD:=wR.at yY;clear wR yb FI yY;walk_at"";rw[ag];refine xa ((Ex.snoc _ _).at LD) d0 (by rw[M4,hO.len];simp;omega) ?_;rw[show d5 o++[D.int ((cs.length:Nat):Int)]=(((o++[cs.length]).map λ(i:Nat)=>(i:Int))).map D.int by unfold d5;simp];have Fs:=(Ex.snoc wI (O.lst [D.int ((cs.length:Nat):Int)])).trans (Ex.snoc _ (O.lst ((((o++[cs.length]).map λ(i:Nat)=>(i:Int))).map D.int)));have Lf:=d0 (g:=wI++[O.lst [D.int ((cs.length:Nat):Int)]]) (o:=O.lst ((((o++[cs.length]).map λ(i:Nat)=>(i:Int))).map D.int));generalize wI++[O.lst [D.int ((cs.length:Nat):Int)]]++[O.lst ((((o++[cs.length]).map λ(i:Nat)=>(i:Int))).map D.int)]=NA at *;generalize (wI++[O.lst [D.int ((cs.length:Nat):Int)]]).length=r2 at *;have MV:∀x∈cs++[cR cs p],iF x:=λx hx=>by
  rcases aZ.mp hx with z|z
  ·exact hG x z
  ·cases aS.mp z;rw[B4 (ai fS)];exact hG _ (cx fS)
 have zY:(cs++[cR cs p]).length=cs.length+1:=by simp
 have ET:rs.all (j9 (cs++[cR cs p]))=true:=aV.mpr λr hr=>by
  obtain⟨gx,gy,gn⟩:=U4 (hw r hr) (ur r hr);have:=Hu (cs:=cs++[cR cs p]) (x:=r.x) (y:=r.y) (by rw[zY];omega) (by rw[zY];omega) gn;rw[<- hw r hr] at this;exact this
 have zV:=hO.more hp (by omega) v1 hw ur;have vF:Ask NA b2 c (cs++[cR cs p]) v rs:=⟨Fs.at WE,by omega,MV,⟨v1,by omega⟩,Fs.at Oa,by omega,ET⟩
 walk_at"";refine Ha (k:=k) hT vF Lf (by rw[ag,zV.len,zY];omega) λg19 Fq=>?_;rw[zV.none];walk_at"";refine gW rfl ?_;walk_at"";refine V8 (k:=k) hT.tb hT.tf hT.tw hT.my (Fq.at vF.ha) (by omega) vF.good vF.hB ⟨v1,by omega⟩ (Fq.at vF.hc) (by omega) ET λg20 e20=>?_;walk_at"";have:=dj (R5.mpr zV);rw[aC (by omega)]
end
end M

namespace Lk
open PySem L2 M
noncomputable def top(i:Nat):Stmt:=PySem.Challenge.pw_trussel_k19_whole_fewer_coins_more_anvil.main.body.getD i (.Pass ⟨0,0,0,0⟩)
noncomputable def RI:Stmt->List Stmt
 |.ClassDef (body:=b) ..=>b
 |_=>[]
noncomputable def FX(i j:Nat):Stmt:=(RI (top i)).getD j (.Pass ⟨0,0,0,0⟩)
noncomputable def F:List RF:=[⟨38,"is_number",["thing"],1,9,BO⟩,⟨1,"number_from",["number","least","most"],3,10,V1⟩,⟨2,"good_marks",["marks","least","spot"],1,11,F3⟩,⟨15,"within",["one","other"],2,12,xM⟩,⟨12,"good_coin",["coin","lower","lower_marks","upper","upper_marks","year","good_lower","good_upper"],1,19,A8⟩,⟨39,"check_coin",["coin"],1,20,Z8⟩,⟨18,"check_coins",["coins","coin"],1,21,V3⟩,⟨40,"check_side",["side"],1,22,P2⟩,⟨19,"die_field",["side"],1,23,BL⟩,⟨74,"places_of",["coins","word","thing","field"],3,24,U1⟩,⟨20,"dies_of",["coins","side","field"],2,25,Bo⟩,⟨42,"check_anvils",["anvils"],1,30,E3⟩,⟨88,"good_rule",["coins","rule","word","one","other"],2,31,BN⟩,⟨89,"check_rules",["coins","rules","at","rule"],2,32,V2⟩,⟨90,"stand_of",["places"],1,33,Z1⟩,⟨91,"with_coin",["stand","place"],2,34,U0⟩,⟨92,"more_worn",["one","other","side","field"],2,35,BP⟩,⟨93,"later",["one","other"],2,36,CK⟩,⟨94,"worn_stands",["coins"],1,37,U9⟩,⟨95,"later_stands",["coins"],1,38,R7⟩,⟨96,"die_stands",["coins"],1,39,Z7⟩,⟨97,"needed_stands",["coins","rules","needed","word","one","other","first","place"],2,40,O3⟩,⟨98,"check_asked",["coins","anvils","rules"],3,42,N1⟩,⟨99,"bounds_of",["coins","anvils","rules"],3,43,BK⟩,⟨100,"dies_in_use",["bounds","stand","place","struck","left"],3,44,Z6⟩,⟨101,"next_fault",["bounds","stand","place"],3,45,Z2⟩,⟨102,"places_fault",["many","order","at","place"],2,46,K8⟩,⟨103,"fault_of",["bounds","order","fault","stand","at","place","word"],2,47,Bx⟩,⟨104,"order_fault",["coins","anvils","rules","order"],4,48,V0⟩,⟨115,"follows",["bounds","stand","place"],3,50,Z4⟩,⟨116,"followers",["bounds","stand"],2,51,Z5⟩,⟨117,"reached_stands",["bounds","led_to","told","stand","place"],1,52,F2⟩,⟨121,"ways_on",["bounds","ways","stand"],1,54,Bp⟩,⟨122,"step_on",["bounds","ways","stand","number","choices","left","at"],4,55,xK⟩,⟨123,"numbered_order",["bounds","ways","number","order","stand","left","place"],3,56,M3⟩,⟨124,"first_order",["bounds","ways"],1,57,H9⟩,⟨125,"least_order",["coins","anvils","rules"],3,58,M9⟩,⟨126,"how_many",["coins","anvils","rules"],3,59,Z3⟩,⟨3,"_law_open",["_law_script"],1,61,xj⟩,⟨4,"_law_pull",["_law_draw","_law_total_of","_law_cell","_law_got","_law_seed"],2,62,E1⟩,⟨21,"_law_order_of",["_law_draw","_law_numbers","_law_left","_law_found","_law_step"],2,63,R6⟩,⟨22,"_law_any_coin",["_law_draw","_law_menu","_law_lower","_law_upper","_law_year"],1,64,Z9⟩,⟨23,"_law_seated",["_law_draw","_law_seats","_law_fresh","_law_anvils"],4,65,F1⟩,⟨24,"_law_struck",["_law_draw","_law_size","_law_anvils","_law_seats","_law_fresh","_law_worn","_law_year","_law_step","_law_wear","_law_shift","_law_found","_law_k","_law_keys","_law_key","_law_spot","_law_named","_law_told_year"],3,66,F0⟩,⟨25,"_law_opened",["_law_draw","_law_size","_law_dies","_law_row","_law_held","_law_found","_law_k","_law_year"],2,67,xJ⟩,⟨26,"_law_list",["_law_draw","_law_most","_law_size","_law_anvils","_law_way","_law_found","_law_at","_law_coin","_law_other"],2,68,P1⟩,⟨105,"_law_rule",["_law_draw","_law_coins","_law_word","_law_some","_law_at"],2,69,rX⟩,⟨106,"_law_rules",["_law_draw","_law_coins","_law_found","_law_k","_law_rule_here"],2,70,CL⟩,⟨157,"_law_less",["_law_number","_law_at"],2,71,xi⟩,⟨11,"law",["_law_script","_law_draw","_law_coins","_law_anvils","_law_rules_here","_law_row","_law_at","_law_others","_law_left","_law_more"],1,72,De⟩]
noncomputable def Ms:List RM:=[⟨113,"Bounds","__init__","Bounds.__init__",["self","coins","anvils","rules"],4,41,0,V4⟩]
noncomputable def con:List (Str×D):=[("LAST_SPOT",.int 7),("MOST_COINS",.int 9),("LAST_DIE",.int 99),("LAST_YEAR",.int 9999),("SIDES",.tup [(.str "lower"),(.str "upper")]),("MOST_ANVILS",.int 9),("RULE_WORDS",.tup [(.str "coin"),(.str "lower"),(.str "upper")]),("YEAR_FIELD",.int 4)]
noncomputable def gd:List (Str×List D):=[("DIE_FIELDS",[.tup [.str "lower",.int 0],.tup [.str "upper",.int 2]])]
noncomputable def exc:List Str:=["BadAnvils","BadCoin","BadRule","BadSide","TooMany"]
noncomputable def c0:i4:=⟨[],[],true,F.map λr=>(r.nm,r.id),con,["len","enumerate","list","tuple","isinstance","all","range","int","bool","max","min","sorted","set","sum","reversed"],exc,gd,[("Bounds",113)],Ms.map λr=>(r.nm,r.cl,r.id),[("size","Bounds"),("full","Bounds"),("room","Bounds"),("worn_by_place","Bounds"),("later_by_place","Bounds"),("lower_dies","Bounds"),("needed_by_place","Bounds")],true,true⟩
noncomputable abbrev T:Nat->Option aW:=rP F Ms
theorem tx:kx c0 F Ms top FX:=by
 refine⟨rfl,rfl,by decide +kernel,by decide +kernel,by decide +kernel,by decide +kernel,?_,?_,?_,?_⟩
 all_goals
  repeat first
   |exact BF.nil
   |exact BM.nil
   |exact YF.nil
   |exact YM.nil
   |refine YF.cons (by kernel_rfl) ?_
   |refine YM.cons (by kernel_rfl) ?_
   |refine BF.cons (λ_ _ _ _ _ _ us hl=>(by rcases us with _|⟨_,_|⟨_,_|⟨_,_|⟨_,_|⟨_,_|⟨_,_|⟨_,_⟩⟩⟩⟩⟩⟩⟩<;>first|(simp at hl;done)|(exfalso;simp at hl;omega)|rfl)) ?_
   |refine BM.cons (λ_ _ _ _ _ _ us hl=>(by rcases us with _|⟨_,_|⟨_,_|⟨_,_|⟨_,_|⟨_,_|⟨_,_|⟨_,_⟩⟩⟩⟩⟩⟩⟩<;>first|(simp at hl;done)|(exfalso;simp at hl;omega)|rfl)) ?_
inductive rG:List DictEntry->List (Str×V)->Prop
 |nil:rG [] []
 |cons {h:Int} {x:Str} {t:Tok} {u:Value} {v:V} {es:List DictEntry} {vs:List (Str×V)} (r:RelV v u) (q:rG es vs):rG (⟨h,.str x t,u⟩::es) ((x,v)::vs)
theorem rG.find{es vs}(x:Str)(h:rG es vs):E7 (vs.lookup x) (findBy Value.isStrOf es.toArray x):=by
 induction h with
 |nil=>trivial
 |cons r q ih =>
  rename_i h y t u v es vs;unfold findBy at ih ⊢;rw[List.find?_toArray] at ih ⊢;rw[dW,cw];by_cases e:x=y
  ·rw[show(x==y)=true from by simp[e],show Value.isStrOf x (.str y t)=true from by simp[Value.isStrOf,e]];exact r
  ·rw[show(x==y)=false from by simpa using e,show Value.isStrOf x (.str y t)=false from by simp[Value.isStrOf];exact λz=>e (z.symm)];exact ih
theorem all_mk{l:PySem.W.OpenLaw}{w:World}{K:PySem.W.Frag}{h:Heap}{mg:Str->Option Value}{fa:Addr}{AM AL wH:Addr}{t0 t1 t2 t3 uQ uP t5 uO uN uM t7 oE oB oA oz:Tok}{AH:Array (Option Value)}{AJ:Nat}{AG:Array (Option Value)}{AI:Nat}{Nv:Nat}{mB mz:Int}(X:K.In h)(G:h.Ns mainGlobals mg)(MA:mg "law"=some (.ref fa))(I:ky K c0 F Ms top FX)(e0:PySem.W.nsIn K mainGlobals "LAST_SPOT"=some (some (Value.int 7 t0)))(e1:PySem.W.nsIn K mainGlobals "MOST_COINS"=some (some (Value.int 9 t1)))(e2:PySem.W.nsIn K mainGlobals "LAST_DIE"=some (some (Value.int 99 t2)))(e3:PySem.W.nsIn K mainGlobals "LAST_YEAR"=some (some (Value.int 9999 t3)))(e4:PySem.W.nsIn K mainGlobals "SIDES"=some (some (.ref AM)))(NY:K.lookup AM=some ⟨.type "tuple",none,.seq #[Value.str "lower" uQ,Value.str "upper" uP] AJ,AH⟩)(e5:PySem.W.nsIn K mainGlobals "MOST_ANVILS"=some (some (Value.int 9 t5)))(e6:PySem.W.nsIn K mainGlobals "RULE_WORDS"=some (some (.ref AL)))(NX:K.lookup AL=some ⟨.type "tuple",none,.seq #[Value.str "coin" uO,Value.str "lower" uN,Value.str "upper" uM] AI,AG⟩)(e7:PySem.W.nsIn K mainGlobals "YEAR_FIELD"=some (some (Value.int 4 t7)))(g0:PySem.W.nsIn K mainGlobals "DIE_FIELDS"=some (some (.ref wH)))(Nx:K.lookup wH=some ⟨.type "dict",none,.dict #[⟨mB,Value.str "lower" oE,Value.int 0 oB⟩,⟨mz,Value.str "upper" oA,Value.int 2 oz⟩] Nv,#[]⟩)(pH:mB=PyData.keyHash w.params "lower")(pG:mz=PyData.keyHash w.params "upper")(Nu:(wH==sysModules)=false)
  : ∃fd:FuncData,(∀(s:Shared) (v:Value),BindsTo s fd ⟨[v],[]⟩ [("_law_script",v)])/\∀base:Heap,K.In base->base.Ns mainGlobals mg->gY l.prog w K mg base (iG l.prog w) 80 fa fd ["_law_script"] (nU exc K 1 (d4 T 40 11)):=by
 have A:mF w K mg c0 T:=by
  refine Ro I tx X G (λx d hx=>?_) (λx kvs hx=>?_)
  ·have hm:=aM hx;simp only[c0,con,List.mem_cons,List.mem_nil_iff,or_false] at hm;rcases hm with z|z|z|z|z|z|z|z
   ·cases z;exact⟨(.int 7),_,bK X G e0,⟨_,rfl⟩,λ_ _=>.int _⟩
   ·cases z;exact⟨(.int 9),_,bK X G e1,⟨_,rfl⟩,λ_ _=>.int _⟩
   ·cases z;exact⟨(.int 99),_,bK X G e2,⟨_,rfl⟩,λ_ _=>.int _⟩
   ·cases z;exact⟨(.int 9999),_,bK X G e3,⟨_,rfl⟩,λ_ _=>.int _⟩
   ·cases z;exact⟨.ref AM,_,bK X G e4,rfl,λ_ _=>.tup (vs:=[.str "lower",.str "upper"]) (.inr ⟨_,_,_,NY,rfl,rfl,rfl,(by show 2<=sizeLine;decide),.cons ⟨_,rfl⟩ (.cons ⟨_,rfl⟩ (.nil))⟩) (.cons (.str _) (.cons (.str _) (.nil)))⟩
   ·cases z;exact⟨(.int 9),_,bK X G e5,⟨_,rfl⟩,λ_ _=>.int _⟩
   ·cases z;exact⟨.ref AL,_,bK X G e6,rfl,λ_ _=>.tup (vs:=[.str "coin",.str "lower",.str "upper"]) (.inr ⟨_,_,_,NX,rfl,rfl,rfl,(by show 3<=sizeLine;decide),.cons ⟨_,rfl⟩ (.cons ⟨_,rfl⟩ (.cons ⟨_,rfl⟩ (.nil)))⟩) (.cons (.str _) (.cons (.str _) (.cons (.str _) (.nil))))⟩
   ·cases z;exact⟨(.int 4),_,bK X G e7,⟨_,rfl⟩,λ_ _=>.int _⟩
  ·have hm:=aM hx;simp only[c0,gd,List.mem_cons,List.mem_nil_iff,or_false] at hm;have z:=hm
   ·cases z;have er:rG [⟨mB,Value.str "lower" oE,Value.int 0 oB⟩,⟨mz,Value.str "upper" oA,Value.int 2 oz⟩] [("lower",.int 0),("upper",.int 2)]:=.cons (v:=.int 0) ⟨_,rfl⟩ (.cons (v:=.int 2) ⟨_,rfl⟩ (.nil));exact⟨wH,_,bK X G g0,⟨_,_,Nx,⟨⟨_,_,rfl,pH⟩,⟨⟨_,_,rfl,pG⟩,True.intro⟩⟩,Nu,λx=>er.find x⟩,.cons (λ_ _=>.int _) (.cons (λ_ _=>.int _) (.nil))⟩
 obtain⟨f,fd,O,a,t⟩:=Jc I tx _ (aP (i:=49) rfl);cases MA.symm.trans (bK X G a);obtain⟨oc,od,kV,doc,pm,an,fi,ct,lp,rfl,lk,ka⟩:=O.fn.ex;exact⟨_,λs v=>.of_eq rfl,λbase mM uC=>OK mM uC A 40 11 _ _ fa _ rfl O⟩
theorem walk{l:PySem.W.OpenLaw}{q:Program}{loose:List Str}{XP:(Str->Option Value)->Heap->Prop}{YP:World->Heap->Prop}{d:DefRec}{K:Params->PySem.W.Frag}(hn:l.most=some 63)(ug:d.params.defaults=[])(hY:∀(w:World) (h:Heap),YP w h->(K w.params).In h)(F:∀ (w:World) (mg:Str->Option Value) (fa:Addr) (h:Heap),(K w.params).In h->h.Ns mainGlobals mg->mg d.name=some (.ref fa) ->
   ∃ fd:FuncData,(∀ (s:Shared) (u:Value),BindsTo s fd ⟨[u],[]⟩ [("_law_script",u)])/\∀ base:Heap,(K w.params).In base->base.Ns mainGlobals mg->gY l.prog w (K w.params) mg base (iG l.prog w) 80 fa fd ["_law_script"] (nU exc (K w.params) 1 (d4 T 40 11))) :
  PySem.W.WalkO q loose XP YP l.row.toRowW d [] (λf vs=>PySem.call f vs) :=
 L2.TH (n:=63) (k:=80) (x:="_law_script") (CX:=λw=>iG l.prog w) (sp:=λw=>nU exc (K w.params) 1 (d4 T 40 11)) hn (by decide) ug ⟨rfl,by decide,by decide⟩ hY F (λw H a ns hl hO hS=>Pj hO hS (a43 (k:=28) ⟨⟨⟨⟨rfl,rfl⟩,rfl,rfl,⟨rfl,rfl⟩,⟨rfl,rfl⟩,rfl,rfl,rfl,rfl,rfl,rfl,rfl,rfl,rfl,rfl,rfl,rfl,rfl,rfl,rfl,rfl⟩,rfl,rfl,rfl⟩,⟨⟨rfl,rfl,rfl,rfl,rfl,rfl,rfl⟩,rfl,rfl⟩,⟨rfl,rfl⟩,⟨rfl,rfl⟩,⟨rfl,rfl⟩,⟨rfl,rfl⟩,rfl,rfl,rfl,rfl,rfl,rfl,rfl⟩)) λ_ _ _ _ _ ⟨_,_,_,_,_,_,_,z⟩=>z
end Lk
open PySem PySem.W PyProof.Rows
set_option maxRecDepth 100000 in
set_option maxHeartbeats 0 in
theorem PySem.Challenge.cw_trussel_k19_whole_fewer_coins_more_anvil_holds : PySem.Challenge.rw_trussel_k19_whole_fewer_coins_more_anvil.Holds := by
 w_on;o_law;k_head;(case hw=>w_witness2)
 k_fill
 refine Lk.walk (l:=PySem.Challenge.rw_trussel_k19_whole_fewer_coins_more_anvil) rfl rfl (fun w h Y=>PySem.W.kIn_of Y) ?F
 case F =>
  intro w mg fa h KX G hmg
  refine' Lk.all_mk KX G hmg ⟨?zz1,?zz2,?zz3,?zz4,?zz5,?zz6,?zz7⟩ ?_ ?_ ?_ ?_ ?_ ?_ ?_ ?_ ?_ ?_ ?_ ?_ ?_ ?_ ?_
  (case zz1=>repeat' first | (with_reducible show _=_;k_is) | exact M.PF.nil | apply M.PF.cons)
  (case zz2=>repeat' first | (with_reducible show _=_;k_is) | exact M.PM.nil | apply M.PM.cons)
  (case zz3=>repeat' first | (with_reducible show _=_;k_is) | exact M.PC.nil | apply M.PC.cons)
  (case zz4=>repeat' first | (with_reducible show _=_;k_is) | exact M.PA.nil | apply M.PA.cons)
  (case zz5=>repeat' first | (with_reducible show _=_;k_is) | exact M.PB.nil | apply M.PB.cons)
  (case zz6=>repeat' first | (with_reducible show _=_;first | (with_reducible show PySem.W.excIn _ _ _ _=true;k_exc) | k_is) | exact M.PX.nil | apply M.PX.cons)
  (case zz7=>kernel_rfl)
  all_goals try (with_reducible show _=_;k_is)
  all_goals try ((with_reducible show _=_);rfl)
#print axioms PySem.Challenge.cw_trussel_k19_whole_fewer_coins_more_anvil_holds
