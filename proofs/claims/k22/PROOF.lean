import PyProof.Rows.All
import Wide.All
import OpenK.AllK
import Wide.FinOn
import Lean
import PyProof.EqAt
import PyProof.EqKinds
import PyProof.TupleCall
import PySem.Challenge.RW_trussel_k22_papers_judged
set_option Elab.async false
set_option linter.all false
set_option maxRecDepth 100000
set_option maxHeartbeats 4000000
set_option genInjectivity false
set_option bootstrap.genMatcherCode false
set_option genSizeOf false
local macro_rules|`(def $i:declId $s:optDeclSig $v:declVal)=>`(noncomputable def $i:declId $s:optDeclSig $v:declVal)
structure PySem.W.Fast:Prop where(tw638498647703149334 tw18402428690294793189 tw11872208785596507601 tw2408477728521544479 tw10647527268678774622 tw5507071371183585083 tw2901366833591374085 tw3170798924478494362 tw18294736769373992603 tw8128861269437649949 tw18085495157819050934 tw7080851299495784318 tw12039904545907342645 tw8380649043256981963 tw817783817624962578 tw5393015344900120930 tw10652305602037593194 tw12107287754720013050 tw1993891838720522183 tw12548240868420606224 tw5088064860433859931 tw16064088402560560893 tw10390993525762646361 tw15603794991127217272 tw3253856396767695041 tw3519693734963676260 tw13288177209993003440 tw17309491436766225931 tw7110792381361170989 tw3965401139961181867 tw16354865839163619440 tw11154704160760239424 tw17615310752864819746 tw10544240560482201821 tw11433337883894813941 tw16519647260133431709 tw15074710517398143326 tw4245025112561119844 tw559049457344275091 tw8341617808597670979 tw8803246133378753287 tw3042685986585778730 tw689255365998427830 tw7515570798655030516 tw1812314939839042571 tw3790711765150920183 tw8871804012105084737 tw12903173595337044678 tw10470540787974779139 tw3778454466143039498 tw11811226240580073003 tw17469523523796394455 tw16141415597484386531 tw6108373282727098231 tw16275876483595341615 tw1418152695163502511 tw5354901486637485195 tw4228576092661769792 tw8124139587012510888 tw3511046414022998584 tw10078301171222253207 tw1376287071846910763 tw14227544876940989422 tw5813568792689390140 tw14201529495726961950 tw8806452228943669588 tw15709813266186165321 tw9242376033578293138 tw1943509785616182276 tw4049667316376995661 tw3571969431158556377 tw8325289151719556743 tw621455298572623553 tw14604184902416525854 tw17052836998253413143 tw13966753827302506154 tw8299763664211896802 tw3142057017799640045 tw18387766389433778454 tw6646410841433238884 tw13828797518962771534 tw2945922187784349279 tw6657049981177633906 tw11006360044844793655 tw16495468879739152273 tw16261882349295193307 tw8455073243023053968 tw2269187926790782063 tw3441358409962114146 tw9499520048107896214 tw10023649708300750618 tw12642491588156398204 tw8421938565627539651 tw3024243312458588378 tw4254062896258773919 tw10826044566217967887 tw14936861201872613489 tw7743961274714304115 tw2350466898935718840 tw15830572875799377286 tw14665337761840475683 tw12697150554299243931 tw709041900494892888 tw12719906845579560689 tw9626882204176778534 tw2219274317094867135 tw14365337124348182835 tw3271456403068405403 tw1479355453858850326 tw14255990766845565738 tw16278512604987682305 tw4111283922220520613 tw5559424111003063798 tw116036680257040663 tw18384321147670213405 tw15204565808878041235 tw8725772048107423531 tw10763605189826312840 tw2358562721454335881 tw10034547401193688474 tw9408723437003032866 tw8120652020167845573 tw9929502319367466137 tw4362944857445781936 tw16261047323908362615 tw16559591190985537173 tw1258807790675499311 tw12421487093437621527 tw6437641289572658657 tw5441571825169795653 tw16265288346968427973 tw1426832512894367444 tw6228298162471944534 tw9465797836269042777 tw518484757149923982 tw13694710415152649957 tw4922307644575659768 tw8754327371790143330 tw850466955828813047 tw10581787270677188225 tw3714866826570283672 tw11419842215287547787 tw16536438292928213604 tw16541330638343116672 tw14811922764488521357 tw12188556766963686665 tw1996444123605531015 tw10426329270023769898 tw11675993821843905240 tw6400955072598687708 tw17052055065417948741 tw15921254594147098587 tw17551081971530068729 tw3691176760532729496 tw12127781543168632731 tw14969093406958392642 tw14239206913443909694 tw7473342172344635786 tw1437111913611489805 tw15908291781158263850 tw6363579389000124718 tw8779964760651333149 tw5964443647557239095 tw9895831069146824427 tw3166928423216336429 tw2446683555597225172 tw5959036583945315087 tw10085232461000440241 tw12737638036665485138 tw7546059021700257460 tw15801813398669909616 tw733230738234317682 tw12579655251495435506 tw14412876383229504651 tw9746815032629769760 tw18073095832118953949 tw17748841928873288471 tw10204839054226954145 tw11188113848328979397 tw15393550068927711182 tw12717897043740754206 tw971317496852443900 tw10616941437540131705 tw3361611566695434998 tw15642855270732367787 tw4663981619205879396 tw1888889264199488173 tw17914567359590157780 tw11820207886661279821 tw17823043421859678538 tw18180093400271260395 tw1705137985580836855 tw3158809024588408433 tw176948779348404630 tw12772470977245862037 tw13451315393040715771 tw11550215468682440570 tw15050368249511223110 tw8836337819527749483 tw11080102504716861862 tw1602413574837687037 tw7464431582537907 tw15694367181882491958 tw9620235081608091858 tw6507048437315730470 tw14181676987765768286 tw13363947092089823765 tw11156978794687391567 tw6417057311132493390 tw6703763955104600468 tw12572643802707544153 tw1404843915122764717 tw3556757634159460706 tw15531961270073146390 tw18274140816352217802 tw10956418262460706765 tw6039751115241119609 tw3603537838107013235 tw13040792990299770315 tw13152391584591306964 tw11569509025589904200 tw2557851293844307381 tw7850226987101116699 tw4521805474940465842 tw9842775839512053449 tw8294482491516535013 tw5882324614600731136 tw4869881776987572470 tw16670648158483045059 tw10140143924270332734 tw8222480439515892803 tw11160256221073091483 tw11795411677706311981 tw4358658673330795052 tw458974094688212749 tw4616367539496776781 tw7762165279825350601 tw5846467191587000926 tw5651318772167881633 tw11499650356339444540 tw17482881641068366928 tw8697720734982508699 tw4694022968084826237 tw13332690837209211590 tw4306428711512701737 tw18320941750854502749 tw8836072351125709564 tw6735546139013786926 tw9743504280431082775 tw8958510864732977169 tw8699294516407526732 tw9791617573350750959 tw14514772323593245774 tw5019005018223148562 tw17998081462939920123 tw7860882299270330 tw447116368084828683 tw5165639307814555302 tw14753122801548234211 tw2477104364014700766 tw18410071914330028598 tw18354384098491069490 tw15858923987504458084 tw7537367326829079832 tw2574149873156133616 tw11873285921041550907 tw7344844668636923856 tw16049132529252917741 tw14636248542413977222 tw5100296888115347760 tw2529881708732110451 tw7015002324293848589 tw13589486838242196437 tw1309227886931313698 tw17650307548662001589 tw8223487407232243755 tw10123871593373821012 tw2227608722349167337 tw10128204231388261524 tw5035317829214880936 tw5213468193735937460 tw10943282398236604017 tw16069110049381439072 tw17102608373870874210 tw16722513421490616220 tw10206541228223103104 tw8617024078676147998 tw1501163976519406426 tw16238254588913280331 tw16015474849211813673 tw2151889686392284739 tw3722818873787639667 tw15992666244211254082 tw13843668673975340131 tw8331664773309441133 tw11743021225761031514 tw12529330782943191214 tw15253019660510130399 tw4967220021164832704 tw15450370608552782800 tw9021987486108198707 tw12766966858515375022 tw3337057132652641789 tw10514883451291453651 tw12850988396327831135 tw17452075267640470444 tw2164604574607197178 tw4586919317930305257 tw5633488622084173117 tw9988745567944402813 tw4671319630262313629 tw12429863972496940950 tw8222513461250198737 tw13612559023172439048 tw974078863360827293 tw18228270138821859718 tw9176160649938876188 tw18275184046823729809 tw17616099425918408179 tw6865097791132485574 tw10664061051976465141 tw7407858738434467135 tw2570970093870395130 tw9062883675898538982 tw11723991702144258215 tw2791920518373837876 tw12167918150041177614 tw11512933793064449281 tw9507308702674266742 tw11652878693847348028 tw8140682265941422802 tw10456404350463049739 tw18419768761464548411 tw10142905466325901535 tw16032980994523709084 tw629857654333844073 tw423042591968863104 tw3574979427323219882 tw963180504838239111 tw13213137443144077208 tw10382435131100036796 tw12848962476972861955 tw12349502113655788726 tw3830461616898048361 tw8160282458481501844 tw985143081063867811 tw15906476858300011458 tw17357081743154553898 tw3729027845967001173 tw11083760084177691644 tw14415929517793060328 tw16725882725081149875 tw13482586448017263066 tw3512584656120088413 tw704111682382457305 tw3916480052445160268 tw3151046888510757459 tw11951630362345770724 tw3687843015594686123 tw14211442556844157631 tw17997705678534384388 tw12154318542229713065 tw6143296237208240440 tw17349818988912069728 tw11130945499936881244 tw4098920698334817750 tw14544858216956387030 tw8426451581555563091 tw7983449382339678344 tw12941030614538857750 tw17955967747868410705 tw2283030411794647611 tw1138557668753114271 tw3336402157733499896 tw8218655014236141729 tw13077130718830190194 tw12410937243755646523 tw2471620978259297544 tw13669122882580867220 tw4095105086644462251 tw16504702548669030631 tw5274837631366551768 tw6142648604471130144 tw13934014404918731287 tw6884864640791425642 tw7849426452955690342 tw7504239405321888864 tw7647066091335568807 tw4953268824065318635 tw3991413001250123539 tw11118677588314167562 tw10487888691066339346 tw11058189530499765451 tw2118181776549582349 tw18078233241759328962 tw15546590969805622345 tw10444032682764971045 tw12801056957778158164 tw16518738485780827395 tw5220460758265149529 tw6555622924070590468 tw2833659559016416282 tw4686581918807715640 tw5004801344790013387 tw5574326933929458617 tw17500530381024800908 tw1353385302059214899 tw2509092860665610980 tw17831139553095526423 tw12313133497568519802 tw5860298225324217374 tw3808042136986244390 tw1391101441515890546 tw1094371687945648434 tw12416627175935593224 tw12146086257306836066 tw6260390230608579942 tw13408472156110948578 tw12797463802566892917 tw17657548378310114967 tw13604223206775425750 tw323220676778839232 tw11303370385555474114 tw391212122238339730 tw14168724643961886122 tw14554185933500299548 tw4207784558928515152 tw12434006880609129418 tw10386585092414181446 tw14468789734721284509 tw16406997516200704744 tw6390094392149369420 tw2418254149538462572:True)
namespace _X
local macro_rules|`(tactic|left)=>`(tactic|walk_at"")
local macro_rules|`(())=>`(by omega)
local macro_rules|`(∅)=>`(by decide)
local macro_rules|`(tactic|omega)=>`(tactic|lia)
def Ai:=@PySem.Walks.list
def Aj:=@Prod.ext
def Ak:=@Nat.pow_lt_pow_right
def Al:=@List.mem_of_mem_drop
def Am:=@List.getElem?_append
def An:=@PySem.Calls.Name_function_global
def FA:=@PyProof.Rows.tail_any
def FC:=@PySem.W.hideAll_get
def FD:=@PySem.W.callWith_K0
def FE:=@List.reverse_append
def FF:=@List.mergeSort_perm
def FH:=@List.mem_map_of_mem
def FI:=@List.length_pos_iff
def FJ:=@PySem.Calls.call_function_entry
def Fz:=@PySem.wpAny_binaryOp_repeat_ref
def MA:=@PySem.wpAny_getItem_list_slice
def MB:=@PySem.seq_tuple_add
def MC:=@PySem.evalPart_none
def MD:=@PySem.W.of_hideAll
def MF:=@PySem.W.kitx_tuple
def MG:=@PySem.W.callWith_K
def MH:=@Nat.mod_lt
def MJ:=@List.map_inj_right
def MK:=@List.getElem?_take
def ML:=@List.filterMap_map
def MM:=@Int.natCast_nonneg
def MN:=@Int.natAbs_natCast
def MO:=@Array.append_assoc
def Mz:=@PySem.wpAny_newList
def aA:=@PyProof.Rows.wpS_bind
def aB:=@if_neg
def aC:=@List.getElem?_set_ne
def aD:=@decide_eq_false
def aE:=@List.size_toArray
def aF:=@Nat.le_trans
def aG:=@PySem.Heap.get?_push_size
def aH:=@List.mem_cons
def aI:=@Nat.ne_of_lt
def aJ:=@PyProof.Rows.wpS_pure
def aK:=@if_pos
def aL:=@List.mem_map
def aN:=@List.mem_of_getElem?
def aO:=@List.getElem?_append_left
def aP:=@List.mem_append_right
def aQ:=@List.getElem?_eq_none
def aR:=@Bool.and_eq_true
def aS:=@Option.some.inj
def aT:=@PySem.mem_of_lookup
def aU:=@List.any_eq_true
def aV:=@List.pairwise_append
def aW:=@Bool.eq_iff_iff
def aa:=@PySem.wpAny_bind
def ae:=@Option.map_eq_some_iff
def ag:=@List.length_map
def ai:=@PySem.wpAny_pure
def aj:=@PySem.Heap.get?_push_of_some
def ak:=@List.getElem?_map
def ao:=@List.getElem?_eq_getElem
def au:=@Option.bind_eq_some_iff
def av:=@Nat.le_refl
def aw:=@decide_eq_true
def ax:=@List.getElem?_eq_some_iff
def ay:=@PySem.Heap.lt_size
def az:=@Nat.lt_of_lt_of_le
def bA:=@List.map_map
def bB:=@List.mem_append_left
def bE:=@decide_eq_true_iff
def bG:=@List.mem_iff_getElem
def bH:=@List.mem_cons_of_mem
def bI:=@List.append_assoc
def bJ:=@Nat.lt_irrefl
def bK:=@List.mem_singleton
def bL:=@PySem.wpAny_holding
def bO:=@PySem.wpAny_mono
def bQ:=@List.take_succ
def bR:=@List.mem_filter
def bS:=@List.take_length
def bT:=@List.getElem?_range
def bU:=@List.take_append_drop
def bV:=@Nat.ne_of_gt
def bW:=@List.ext_getElem?
def bX:=@PySem.Heap.SameBut.update
def ba:=@List.mem_append
def bf:=@List.getElem?_set_self
def bg:=@of_decide_eq_true
def bj:=@List.length_append
def bp:=@Array.length_toList
def br:=@PyProof.Rows.slot_tuple_getitem
def bt:=@Array.toList_append
def bu:=@List.mem_range
def bw:=@List.map_cons
def bx:=@PySem.Heap.get?_update_self
def bz:=@beq_iff_eq
def cA:=@List.replicate_succ
def cB:=@Nat.le_succ
def cC:=@PySem.wpAny_call_entry
def cF:=@getElem?_pos
def cG:=@Int.le_of_lt
def cI:=@PySem.wpAny_newObj_type
def cJ:=@Nat.zero_le
def cK:=@List.getElem_mem
def cL:=@PyProof.Rows.callWith_type1
def cN:=@Nat.lt_trans
def cO:=@beq_eq_false_iff_ne
def cP:=@PySem.wpAny_truthy_bool
def cQ:=@PySem.wpAny_setState_of
def cR:=@List.mem_cons_self
def cS:=@List.lookup_cons
def cU:=@List.mem_of_mem_take
def cV:=@PySem.wpAny_rule
def cW:=@PySem.wpAny_Call_Name_kw
def cY:=@List.nodup_append
def cZ:=@Int.toNat_natCast
def cb:=@Array.perm_iff_toList_perm
def cc:=@PySem.W.mg_of
def cj:=@PySem.W.kia_one
def cu:=@Ne.symm
def cv:=@List.length_take
def cw:=@List.all_eq_true
def cz:=@PySem.Obj.data_mapFields
def dB:=@PySem.wpAny_typeOf
def dC:=@List.append_nil
def dE:=@decide_eq_true_eq
def dF:=@List.flatten_cons
def dG:=@Array.toList_push
def dH:=@Array.toList_extract
def dJ:=@PyProof.Rows.wpS_forRange
def dN:=@PySem.codeAny_builtin
def dO:=@List.filterMap_cons
def dP:=@decide_eq_false_iff_not
def dY:=@List.eq_nil_of_length_eq_zero
def dZ:=@Int.le_refl
def da:=@List.map_append
def df:=@PySem.Around.under_plainId
def dg:=@List.take_of_length_le
def dw:=@Nat.lt_of_le_of_lt
def dy:=@List.pairwise_cons
def eE:=@PySem.wpAny_callSpecial?_slot
def eF:=@PySem.isSubtype_type
def eG:=@List.nodup_cons
def eI:=@PySem.Heap.size_push
def eJ:=@Bool.or_eq_true
def eK:=@List.Perm.append_left
def eM:=@Array.getElem_eq_getD
def eO:=@Array.getElem?_toList
def eP:=@PySem.wpAny_of_eq
def eQ:=@PySem.Heap.get?_update_other
def eT:=@List.getElem?_append_right
def eV:=@PySem.builtinLookup_eq_fast
def eW:=@PySem.Obj.isFreed_of_fields
def eX:=@Nat.le_of_lt
def eY:=@List.length_cons
def eZ:=@List.pairwise_iff_getElem
def ei:=@PySem.W.cellsFrom_some
def et:=@Int.emod_lt_of_pos
def fB:=@List.getElem?_replicate
def fC:=@PySem.wpAny_standAt
def fE:=@PyProof.Rows.boot_list
def fF:=@Nat.le_of_eq
def fG:=@List.Perm.append_right
def fH:=@Int.le_trans
def fI:=@PySem.F.slot_list_getattribute
def fK:=@PySem.tupleKind_room_in1
def fQ:=@List.length_filter_le
def fS:=@Nat.lt_succ_self
def fT:=@List.mem_reverse
def fV:=@List.any_cons
def fX:=@PySem.wpAny_pyIter_list
def fY:=@congrArg
def fZ:=@Array.toList_reverse
def fb:=@List.getElem?_eq_none_iff
def fc:=@List.drop_eq_getElem_cons
def ff:=@PyProof.Rows.F.plain_set_update_loop
def fj:=@PySem.wpAny_setField
def fk:=@Option.isSome_iff_exists
def fo:=@List.find?_cons
def fq:=@Int.emod_nonneg
def ft:=@PySem.wpAny_isInstance
def fx:=@List.filter_append
def fy:=@Bool.false_ne_true
def gE:=@List.map_congr_left
def gJ:=@PySem.plainId_quiet
def gM:=@List.length_eraseIdx_of_lt
def gN:=@List.drop_drop
def gO:=@List.Perm.refl
def gP:=@Int.not_lt
def gW:=@PySem.wpAny_passesOwn
def gX:=@PySem.typeLookup_type
def hV:=@Option.isSome_map
def hX:=@Nat.lt_trichotomy
def iK:=@PySem.intKind_is
def iL:=@decide_eq_decide
def iM:=@PySem.F.entry_tuple_add
def ic:=@Nat.lt_succ_of_lt
def ie:=@List.reverse_cons
def ig:=@Array.size_append
def ik:=@PySem.codeAny_mono
def ir:=@PySem.F.args_tuple_add_2
def iu:=@PyProof.Rows.boot_sorted
def jR:=@Nat.pow_le_pow_right
def jW:=@PyProof.Rows.size_push'
def jX:=@PyProof.Rows.K_mirror_equal
def ja:=@PySem.F.slot_tuple_add
def jb:=@List.set_set
def jc:=@List.length_pos_of_mem
def jd:=@Int.zero_add
def jk:=@PySem.wpAny_field
def jl:=@Nat.two_pow_pos
def jm:=@List.range_succ
def jn:=@Array.size_push
def js:=@PySem.wpAny_comprehension_free
def jt:=@PySem.F.slot_dict_get
def ju:=@PyProof.Rows.boot_set
def jv:=@Nat.eq_of_beq_eq_true
def jw:=@List.perm_append_comm
def jx:=@List.pairwise_reverse
def jy:=@List.mem_iff_getElem?
def jz:=@List.length_singleton
def kH:=@PySem.F.slot_int_rmul
def kI:=@Bool.true_and
def kM:=@Nat.one_le_two_pow
def kO:=@Nat.not_lt
def kP:=@List.mem_filterMap
def kQ:=@List.find?_eq_none
def km:=@PySem.call_meets
def ko:=@PyProof.Rows.F.entry_set_update_loop
def kq:=@List.length_reverse
def lB:=@PySem.sizeLine_eq
def lC:=@Nat.mul_comm
def lD:=@List.take_sublist
def lE:=@List.reverse_perm
def lF:=@List.pairwise_map
def lG:=@List.length_range
def lH:=@List.find?_append
def lI:=@List.any_map
def lJ:=@Bool.not_not
def lT:=@PySem.putSet_of
def lU:=@List.eraseIdx_eq_take_drop_succ
def lq:=@List.findIdx?_eq_some_iff_getElem
def mT:=@PyProof.Rows.wpS_modify
def mU:=@PyProof.Rows.wpS_get
def mV:=@PySem.wpAny_attempt
def mW:=@Sum.inl.inj
def mX:=@PySem.Paired.length
def mr:=@List.not_mem_nil
def mx:=@List.length_drop
def my:=@List.getElem_inj
def nA:=@List.of_mem_zip
def nB:=@List.nil_append
def nC:=@List.foldl_cons
def nD:=@PySem.Heap.IsSliceOf.new
def nE:=@Array.Perm.refl
def ny:=@PySem.typeIs_int
def nz:=@Nat.min_le_left
def oQ:=@PySem.wpAny_sequenceKey
def oR:=@PySem.slot_list_getitem
def oS:=@PySem.Value.isInt_shape
def oT:=@PySem.Obj.cls_mapFields
def oU:=@List.nodup_nil
def oV:=@Array.getElem?_eq_some_iff
def pT:=@PyProof.Rows.wpS_lift
def pU:=@PyProof.Rows.slicePart_none
def pV:=@List.mem_or_eq_of_mem_set
def pW:=@Array.getElem?_eq_getElem
def qO:=@PySem.wpAny_askSetting
def qP:=@PySem.noFill_tuple_add
def qQ:=@List.getElem?_take_of_lt
def qR:=@PySem.F.slot_tuple_mul
def qS:=@Bool.false_or
def tB:=@PySem.F.args_dict_get_3
def tD:=@PyProof.Rows.boot_tuple
def tE:=@List.pairwise_mergeSort
def tF:=@List.getElem?_cons_succ
def tu:=@PyProof.Rows.entry_tuple_getitem
def tw:=@PySem.F.plainAttrs_list
def uI:=@PyProof.Rows.tupleItemsOf_
def uJ:=@PySem.codeAny_of_tree
def uK:=@PySem.F.entry_dict_get
def uL:=@Nat.pow_succ
def uM:=@List.pairwise_lt_range
def uN:=@List.filter_eq_nil_iff
def uO:=@List.drop_eq_nil_of_le
def uP:=@Array.getElem?_eq_none
def xG:=@PyProof.Rows.assignInOrder_cons
def xH:=@PyProof.Rows.args_tuple_getitem
def xI:=@PyProof.Rows.boot_int
def xJ:=@Nat.or_mod_two_eq_one
def xK:=@List.length_replicate
namespace L2
open PySem PySem.Spec PyProof.Rows
variable{xs vs:List V}{us:List Value}{H H':Hp}{a b f C dx:Addr}{o:HO}{u:Value}{P:Program}{w:World}{h h' base:Heap}{α:Type}{x:Str}{e c tg:Expr}{X:Cx}{pins:List (Addr×Obj)}{σ:St}{s:Shared}{t' i j k:Nat}{ch fp:List Addr}{N ps:List Str}{M:Model}{A:Around}{E Q:Value->Shared->Prop}{v:V}{t:TA}{ta tb te:TE}{pos p:Pos}{K:PySem.W.Frag}{es:List Expr}{op:CmpOp}{r:R2}{fd:FuncData}{CX:oy}{sp:Sp}
noncomputable abbrev Key:=Sum Int Str
def sW:Key->Value->Bool
 |.inl k,v=>Value.isInt k v
 |.inr x,v=>Value.isStrOf x v
def Vy(w:World):Key->Int
 |.inl k=>hashInt k
 |.inr x=>hashStr w x
theorem u7:∀{k:Key} {v:Value},sW k v=true->(∃i t,k=Sum.inl i/\v=Value.int i t)\/(∃x t,k=Sum.inr x/\v=Value.str x t)
 |.inl i,v,h=>by
  obtain⟨t,e⟩:=oS (k:=i) (v:=v) h;exact .inl ⟨i,t,rfl,e⟩
 |.inr x,v,h=>by
  obtain⟨t,e⟩:=Value.isStrOf_shape (x:=x) (v:=v) h;exact .inr ⟨x,t,rfl,e⟩
theorem Zd(i:Int)(t:Tok):sW (.inl i) (.int i t)=true:=by simp[sW,Value.isInt]
theorem Ze(x:Str)(t:Tok):sW (.inr x) (.str x t)=true:=by simp[sW,Value.isStrOf]
theorem QE(a b:Int):decide ((Sum.inl a:Key)=Sum.inl b)=(a==b):=by
 by_cases e:a=b
 ·subst e;simp
 ·have h:¬(Sum.inl a:Key)=Sum.inl b:=λq=>e (mW q);rw[aD h];exact(cO.mpr e).symm
theorem QH(a b:Str):decide ((Sum.inr a:Key)=Sum.inr b)=decide (a=b):=by
 by_cases e:a=b
 ·subst e;simp
 ·have h:¬(Sum.inr a:Key)=Sum.inr b:=λq=>e (Sum.inr.inj q);rw[aD h,aD e]
theorem QF(a:Int)(b:Str):decide ((Sum.inl a:Key)=Sum.inr b)=false:=aD (λq=>nomatch q)
theorem QG(a:Str)(b:Int):decide ((Sum.inr a:Key)=Sum.inl b)=false:=aD (λq=>nomatch q)
def o6(prog:Program)(w:World):PySem.KeyKind prog w Key where
 is:=sW
 hash:=Vy w
 inj:=λv a b ha hb=>by
  rcases u7 ha with⟨i,t,rfl,rfl⟩|⟨x,t,rfl,rfl⟩
  ·rcases u7 hb with⟨j,u,rfl,e⟩|⟨y,u,rfl,e⟩
   ·injection e with e1 _;rw[e1]
   ·exact nomatch e
  ·rcases u7 hb with⟨j,u,rfl,e⟩|⟨y,u,rfl,e⟩
   ·exact nomatch e
   ·injection e with e1 _;rw[e1]
 byValue:=λk v h=>by
  rcases u7 h with⟨i,t,rfl,rfl⟩|⟨x,t,rfl,rfl⟩<;>rfl
 pyHash:=λhv h=>by
  rcases u7 hv with⟨i,t,rfl,rfl⟩|⟨x,t,rfl,rfl⟩
  ·exact wpAny_pyHash_int h
  ·exact wpAny_pyHash_str h
 eqBool:=λhu hv h=>by
  rcases u7 hu with⟨i,t,rfl,rfl⟩|⟨x,t,rfl,rfl⟩
  ·rcases u7 hv with⟨j,u,rfl,rfl⟩|⟨y,u,rfl,rfl⟩
   ·rw[QE] at h;exact wpAny_eqBool_int h
   ·rw[QF] at h;exact SeqAt.EqAt.int_str i t y u _ _ _ _ h
  ·rcases u7 hv with⟨j,u,rfl,rfl⟩|⟨y,u,rfl,rfl⟩
   ·rw[QG] at h;exact SeqAt.EqAt.str_int x t j u _ _ _ _ h
   ·rw[QH] at h;exact wpAny_eqBool_str h
 «strs»:=λk x t v h=>by
  rcases u7 h with⟨i,u,rfl,e⟩|⟨y,u,rfl,e⟩
  ·exact nomatch e
  ·injection e with e1 _;subst e1;cases v<;>rfl
theorem V4(prog:Program)(w:World)(i:Int)(t:Tok):(o6 prog w).is (.inl i) (.int i t)=true:=Zd i t
theorem aH8(prog:Program)(w:World)(x:Str)(t:Tok):(o6 prog w).is (.inr x) (.str x t)=true:=Ze x t
set_option genInjectivity true in
inductive V where
 |cE|bl (b:Bool)|int (i:Int)|str (x:Str)|mj (b:Array UInt8)|sI (b:UInt64)|ref (a:Addr)|ty (n:String)
 deriving DecidableEq
def RelV:V->Value->Prop
 |.cE,u=>u=Value.none
 |.bl b,u=>u=Value.bool b
 |.int i,u=>∃t,u=Value.int i t
 |.str x,u=>∃t,u=Value.str x t
 |.mj b,u=>∃t,u=Value.bytes b t
 |.sI b,u=>∃t,u=Value.float b t
 |.ref a,u=>u=Value.ref a
 |.ty n,u=>u=Value.type n
noncomputable abbrev Vals:List V->List Value->Prop:=Paired RelV
theorem Vals.length{xs:List V}{us:List Value}(r:Vals xs us):xs.length=us.length:=mX r
theorem Vals.get:∀{xs:List V} {us:List Value} {i:Nat} {x:V},Vals xs us->xs[i]?=some x->∃u,us[i]?=some u/\RelV x u
 |_,_,_,_,.nil,e=>by simp at e
 |_,_,0,_,.cons r _,e=>by simp at e;subst e;exact⟨_,rfl,r⟩
 |_,_,i+1,x,.cons _ t,e=>by
  obtain⟨u,h1,h2⟩:=Vals.get (i:=i) (x:=x) t (by simpa using e);exact⟨u,by simpa using h1,h2⟩
theorem Vals.set{x:V}{u:Value}(r:RelV x u):∀{xs:List V} {us:List Value} (i:Nat),Vals xs us->Vals (xs.set i x) (us.set i u)
 |_,_,_,.nil=>.nil
 |_,_,0,.cons _ t=>.cons r t
 |_,_,i+1,.cons q t=>.cons q (Vals.set r i t)
theorem Vals.append{ys:List V}{ws:List Value}(h:Vals xs us)(s:Vals ys ws):Vals (xs++ys) (us++ws):=by
 induction h with
 |nil=>exact s
 |cons r t ih=>exact .cons r ih
theorem Vals.take:∀{xs:List V} {us:List Value} (n:Nat),Vals xs us->Vals (xs.take n) (us.take n)
 |_,_,0,_=>.nil
 |_,_,_+1,.nil=>.nil
 |_,_,n+1,.cons r t=>.cons r (Vals.take n t)
theorem Vals.drop:∀{xs:List V} {us:List Value} (n:Nat),Vals xs us->Vals (xs.drop n) (us.drop n)
 |_,_,0,r=>r
 |_,_,_+1,.nil=>.nil
 |_,_,n+1,.cons _ t=>Vals.drop n t
def G0:Option V->Option Value->Prop
 |some v,some u=>RelV v u
 |none,none=>True
 |_,_=>False
def KV{κ:Type}:List (κ×V)->List (κ×Value)->Prop:=Paired λ(p:κ×V) (q:κ×Value)=>p.1=q.1/\RelV p.2 q.2
def kV:Key->V
 |.inl i=>.int i
 |.inr x=>.str x
inductive HO where
 |lst (xs:List V)
 |tup (xs:List V)
 |dK (kvs:List (Key×V))|dT (kvs:List (List Key×V))
 |set (S:Int->Bool) (n:Nat)
 |ins (C dx:Addr) (fs:List (Str×V))
 |own (x:Addr)
 |xd (fs:List (Str×V))
 |met (f x:Addr)
 |ng (lo hi:Int)
 |kE (o:Obj) (u:HO)
 |lW (ps:Array Value)
 |ext (φ:Heap->Prop)
noncomputable abbrev Hp:=Addr->Option HO
def upd(H:Hp)(a:Addr)(o:HO):Hp:=λb=>if b=a then some o else H b
theorem u5:upd H a o a=some o:=by unfold upd;rw[aK rfl]
theorem i6(h:b≠a):upd H a o b=H b:=by unfold upd;rw[aB h]
theorem Xh{u:HO}(h:H a=some o)(h':H b=some u)(d:o≠u):a≠b:=by
 intro e;subst e;rw[h] at h';exact d (aS h')
theorem n8(h:H a=some o)(h':H b=none):a≠b:=by
 intro e;subst e;rw[h] at h';cases h'
def K2(h:Heap)(a:Addr)(items:Array Value):Prop:=∃o,h.get? a=some o/\o.cls=.type "tuple"/\(∃n,o.data=.seq items n)/\o.dict=none
theorem K2.tup{h:Heap}{a:Addr}{items:Array Value}(x:K2 h a items):IsTup h a items:=let ⟨o,e,c,d,_⟩:=x;⟨o,e,c,d⟩
theorem K2.new(h:Heap)(items:Array Value):K2 (h.push { cls:=.type "tuple",data:=.seq items }) h.objs.size items:=⟨_,aG _ rfl,rfl,⟨_,rfl⟩,rfl⟩
section
variable(P:Program)(w:World)
def p0(H:Hp)(h:Heap)(a:Addr):HO->Prop
 |.lst xs=>xs.length<=sizeLine/\∃(aX:List Value) (n:Nat),Vals xs aX/\h.get? a=some { cls:=.type "list",data:=.seq aX.toArray n }
 |.tup xs=>xs.length<=sizeLine/\∃aX:List Value,Vals xs aX/\K2 h a aX.toArray
 |.dK kvs=>kvs.length<=sizeLine/\(a==sysModules)=false/\∃vs,KV kvs vs/\h.DictOf (o6 P w) a vs
 |.dT kvs=>kvs.length<=sizeLine/\(a==sysModules)=false/\∃xs:List (List Key×Addr×Value),
   Paired (λ(p:List Key×V) (q:List Key×Addr×Value)=>p.1=q.1/\H q.2.1=some (.tup (p.1.map kV))/\RelV p.2 q.2.2) kvs xs /\
   ∃o es ep,h.get? a=some o/\o.ExactDict/\o.data=.dict es ep/\es.toList=xs.map (entryOfKey (tupleKind (o6 P w)))/\(xs.map (·.1)).Nodup
 |.set S n=>h.SetOf (intKind P w) a S n
 |.ins C dx fs=>H dx=some (.own a)/\fs.length<=1000/\dx≠a/\h.get? a=some (PySem.W.instObj C dx) /\
   ∃mA,h.Ns1 dx mA/\(∀f,G0 (fs.lookup f) (mA f))/\PySem.Within mA (fs.map (·.1))
 |.own _=>∃o,h.get? a=some o
 |.xd fs=>∃mA,h.Ns1 a mA/\∀f,G0 (fs.lookup f) (mA f)
 |.ng lo hi=>∃t u v,h.get? a=some { cls:=.type "range",data:=.fields #[.int lo t,.int hi u,.int 1 v] }
 |.kE o u=>h.get? a=some o/\p0 H h a u
 |.lW ps=>h.get? a=some { cls:=.none,data:=.fields ps }
 |.met f x=>h.get? a=some (PySem.W.methodObj (.ref f) (.ref x))
 |.ext φ=>φ h/\(∃o,h.get? a=some o)/\∀h1 h2:Heap,φ h1->(∀o,h1.get? a=some o->h2.get? a=some o)->φ h2
def gS(H:Hp)(h:Heap):Prop:=∀a o,H a=some o->p0 P w H h a o
end
theorem p0.lt(x:p0 P w H h a o):a<h.objs.size:=by
 cases o with
 |lst xs=>obtain⟨_,_,_,_,e⟩:=x;exact ay e
 |tup xs=>obtain⟨_,_,_,p⟩:=x;exact p.tup.lt
 |dK kvs=>obtain⟨_,_,_,_,o,_,_,e,_⟩:=x;exact ay e
 |dT kvs=>obtain⟨_,_,_,_,o,_,_,e,_⟩:=x;exact ay e
 |set S n=>obtain⟨o,_,_,_,e,_⟩:=x;exact ay e
 |ins C dx fs=>obtain⟨_,_,_,e,_⟩:=x;exact ay e
 |own y=>obtain⟨_,e⟩:=x;exact ay e
 |xd fs=>obtain⟨_,⟨_,_,_,e,_⟩,_⟩:=x;exact ay e
 |ng lo hi=>obtain⟨_,_,_,e⟩:=x;exact ay e
 |kE ob u=>obtain⟨e,_⟩:=x;exact ay e
 |lW ps=>exact ay (show h.get? a=some _ from x)
 |met f y=>exact ay (show h.get? a=some _ from x)
 |ext φ=>obtain⟨_,⟨_,e⟩,_⟩:=x;exact ay e
theorem Paired.Ie{β:Type}{F G:α->β->Prop}{vw:List α}{vt:List β}(h:Paired F vw vt)(f:∀a b,F a b->G a b):Paired G vw vt:=by
 induction h with
 |nil=>exact .nil
 |cons r t ih=>exact .cons (f _ _ r) ih
theorem p0.Z2(x:p0 P w H h a o)(k:∀b u,(b=a\/H b=some (.own a))->h.get? b=some u->h'.get? b=some u)(ho:∀b,H b=some (.own a)->H' b=some (.own a))(ht:∀b xs,H b=some (.tup xs)->H' b=some (.tup xs)):p0 P w H' h' a o:=by
 induction o with
 |lst xs=>obtain⟨z,aX,n,r,e⟩:=x;exact⟨z,aX,n,r,k _ _ (.inl rfl) e⟩
 |tup xs=>obtain⟨z,aX,r,ob,e,c⟩:=x;exact⟨z,aX,r,ob,k _ _ (.inl rfl) e,c⟩
 |dK kvs=>obtain⟨z,y,vs,r,ob,es,ep,e,c⟩:=x;exact⟨z,y,vs,r,ob,es,ep,k _ _ (.inl rfl) e,c⟩
 |dT kvs =>
  obtain⟨z,y,xs,r,ob,es,ep,e,c⟩:=x;exact⟨z,y,xs,Paired.Ie r λp q z=>⟨z.1,ht _ _ z.2.1,z.2.2⟩,ob,es,ep,k _ _ (.inl rfl) e,c⟩
 |set S n=>obtain⟨ob,es,ep,t,e,c⟩:=x;exact⟨ob,es,ep,t,k _ _ (.inl rfl) e,c⟩
 |ins C dx fs =>
  obtain⟨d,z,ne,e,mA,⟨od,es,ep,e2,c⟩,r⟩:=x;exact⟨ho _ d,z,ne,k _ _ (.inl rfl) e,mA,⟨od,es,ep,k _ _ (.inr d) e2,c⟩,r⟩
 |own y=>obtain⟨ob,e⟩:=x;exact⟨ob,k _ _ (.inl rfl) e⟩
 |xd fs=>obtain⟨mA,⟨od,es,ep,e,c⟩,r⟩:=x;exact⟨mA,⟨od,es,ep,k _ _ (.inl rfl) e,c⟩,r⟩
 |ng lo hi=>obtain⟨t,u,v,e⟩:=x;exact⟨t,u,v,k _ _ (.inl rfl) e⟩
 |kE ob u ih=>obtain⟨e,q⟩:=x;exact⟨k _ _ (.inl rfl) e,ih q⟩
 |lW ps =>
  have e:h.get? a=some { cls:=.none,data:=.fields ps }:=x;show h'.get? a=some { cls:=.none,data:=.fields ps };exact k a _ (.inl rfl) e
 |met f y =>
  have e:h.get? a=some (PySem.W.methodObj (.ref f) (.ref y)):=x;show h'.get? a=some (PySem.W.methodObj (.ref f) (.ref y));exact k a _ (.inl rfl) e
 |ext φ=>obtain⟨p,⟨o,e⟩,st⟩:=x;exact⟨st _ _ p λo q=>k _ _ (.inl rfl) q,⟨o,k _ _ (.inl rfl) e⟩,st⟩
theorem gS.lt(x:gS P w H h)(e:H a=some o):a<h.objs.size:=(x a o e).lt
theorem gS.fresh(x:gS P w H h)(e:h.objs.size<=a):H a=none:=by
 cases q:H a with
 |none=>rfl
 |some u=>exact absurd (az (x.lt q) e) (bJ _)
theorem gS.kept(x:gS P w H h)(k:∀b u,h.get? b=some u->h'.get? b=some u):gS P w H h':=λa o e =>
 (x a o e).Z2 (λb u _ q=>k b u q) (λ_ q=>q) λ_ _ q=>q
theorem gS.laid(x:gS P w H h)(k:∀b u,h.get? b=some u->h'.get? b=some u)(hp:h.objs.size<=a)(new:p0 P w (upd H a o) h' a o):gS P w (upd H a o) h':=λb u e=>by
 have hn:=x.fresh hp;by_cases hb:b=a
 ·subst hb;rw[u5] at e;cases e;exact new
 ·rw[i6 hb] at e;exact(x b u e).Z2 (λc v _ q=>k c v q) (λc q=>by rw[i6 (n8 q hn)];exact q) λc xs q=>by rw[i6 (n8 q hn)];exact q
def Rd(H:Hp)(a:Addr)(u:HO):Prop:=H a=some u\/∃o,H a=some (.kE o u)
theorem Rd.ok{u:HO}(r:Rd H a u)(x:gS P w H h):p0 P w H h a u:=by
 rcases r with r|⟨o,r⟩
 ·exact x a u r
 ·obtain⟨_,q⟩:=x a _ r;exact q
def xA:Option HO->Prop
 |some (.lst _)=>True
 |some (.dK _)=>True
 |some (.dT _)=>True
 |some (.set _ _)=>True
 |some (.ins _ _ _)=>True
 |some (.ext _)=>True
 |_=>False
section
variable{x e:Addr}{o':HO}
theorem gS.write(ok:gS P w H h)(mu:xA (H x))(he:e=x\/H e=some (.own x))(k:∀b u,b≠e->h.get? b=some u->h'.get? b=some u)(qi:∃u,h'.get? e=some u)(new:p0 P w (upd H x o') h' x o'):gS P w (upd H x o') h':=λb u q=>by
 have vk:∀c y,H c=some (.own y)->c≠x:=λc y r z=>by subst z;rw[r] at mu;exact mu
 have AM:∀c xs,H c=some (.tup xs)->c≠x:=λc xs r z=>by subst z;rw[r] at mu;exact mu
 by_cases hb:b=x
 ·subst hb;rw[u5] at q;cases q;exact new
 ·rw[i6 hb] at q;by_cases se:b=e
  ·have q':H b=some (.own x):=by
    rcases he with z|z
    ·exact absurd (se.trans z) hb
    ·rw[se];exact z
   rw[q] at q';cases q';obtain⟨v,hv⟩:=qi;exact⟨v,by rw[se];exact hv⟩
  ·refine(ok b u q).Z2 (λc v hc r=>k c v ?_ r) (λc r=>by rw[i6 (vk c b r)];exact r) λc xs r=>by rw[i6 (AM c xs r)];exact r
   rcases hc with rfl|hc
   ·exact se
   ·rintro rfl;rcases he with z|z
    ·exact vk c b hc z
    ·rw[hc] at z;cases z;exact hb rfl
end
structure Un(fs ex:List Addr)(H H':Hp)(h h':Heap):Prop where
 keep:∀b o,h.get? b=some o->H b=none->b∉fs->b∉ex->h'.get? b=some o
 slot:∀b o,h.get? b=some o->H b=none->b∈fs->b∉ex->∃sl,h'.get? b=some { o with slots:=sl }
 free:∀b o,h.get? b=some o->H b=none->b∉ex->H' b=none
 there:∀b o,h.get? b=some o->b∉ex->∃o',h'.get? b=some o'
 jA:∀b xs,H b=some (.tup xs)->H' b=some (.tup xs)
 ji:∀b o u,H b=some (.kE o u)->H' b=some (.kE o u)
 jB:∀b ps,H b=some (.lW ps)->∃more,H' b=some (.lW (ps++more))
section
variable{fs ex:List Addr}{H1:Hp}{h1:Heap}{x e:Addr}
theorem Un.any(u:Un fs ex H H1 h h1){ob:Obj}(q:h.get? b=some ob)(n:H b=none)(hx:b∉ex):∃sl,h1.get? b=some { ob with slots:=sl }:=by
 by_cases hb:b∈fs
 ·exact u.slot b ob q n hb hx
 ·exact⟨ob.slots,u.keep b ob q n hb hx⟩
theorem Un.kept(k:∀b u,h.get? b=some u->h'.get? b=some u):Un fs ex H H h h' :=
 ⟨λb ob q _ _ _=>k b ob q,λb ob q _ _ _=>⟨ob.slots,k b ob q⟩,λ_ _ _ n _=>n,λb ob q _=>⟨ob,k b ob q⟩,λ_ _ q=>q,λ_ _ _ q=>q,λ_ ps q=>⟨#[],by rw[q];simp⟩⟩
theorem Un.refl:Un fs ex H H h h:=Un.kept λ_ _ q=>q
theorem Un.laid(k:∀b u,h.get? b=some u->h'.get? b=some u)(hp:h.objs.size<=a)(hn:H a=none):Un fs ex H (upd H a o) h h' where
 keep:=λb u q _ _ _=>k b u q
 slot:=λb u q _ _ _=>⟨u.slots,k b u q⟩
 free:=λb u q n _=>by rw[i6 (aI (az (ay q) hp))];exact n
 there:=λb u q _=>⟨u,k b u q⟩
 jA:=λb xs q=>by rw[i6 (n8 q hn)];exact q
 ji:=λb u xs q=>by rw[i6 (n8 q hn)];exact q
 jB:=λb ps q=>⟨#[],by rw[i6 (n8 q hn),q];simp⟩
theorem Un.write(mu:xA (H x))(he:e=x\/H e=some (.own x))(k:∀b u,b≠e->h.get? b=some u->h'.get? b=some u)(qi:∃u,h'.get? e=some u):Un fs ex H (upd H x o) h h':=by
 have hx:∀b,H b=none->b≠x:=λb n z=>by subst z;rw[n] at mu;exact mu
 have hb:∀b,H b=none->b≠e:=λb n z=>by
  subst z;rcases he with r|r
  ·exact hx b n r
  ·rw[n] at r;cases r
 have hm:∀b u,H b=some u->¬xA (some u)->b≠x:=λb u q nm z=>by subst z;rw[q] at mu;exact nm mu
 refine ⟨λb u q n _ _=>k b u (hb b n) q,λb u q n _ _=>⟨u.slots,k b u (hb b n) q⟩,λb u q n _=>by rw [i6 (hx b n)];exact n,λb u q _=>?_,
  λb xs q=>by rw [i6 (hm b _ q λz=>z)];exact q,λb u xs q=>by rw [i6 (hm b _ q λz=>z)];exact q,λb ps q=>⟨#[],by rw [i6 (hm b _ q λz=>z),q];simp⟩⟩
 by_cases se:b=e
 ·subst se;exact qi
 ·exact⟨u,k b u se q⟩
end
def qW(h:Heap)(H:Hp):List Addr:=(List.range h.objs.size).filter λa=>(H a).isSome
def pO(h:Heap)(H:Hp):Heap:=PySem.W.hideAll h (qW h H)
theorem Y'(h:Heap)(H:Hp):(pO h H).objs.size=h.objs.size:=PySem.W.hideAll_size _ _
theorem a80{o:Obj}(e:h.get? b=some o)(n:H b=none):(pO h H).get? b=some o :=
 FC _ e λhm=>by
  have q:(H b).isSome=true:=(bR.mp hm).2;rw[n] at q;simp at q
theorem TK{o:Obj}(e:(pO h H).get? b=some o):h.get? b=some o/\H b=none:=by
 have e':h.get? b=some o:=MD (qW h H) e;refine⟨e',?_⟩;cases q:H b with
 |none=>rfl
 |some x =>
  have hm:b∈qW h H:=bR.mpr ⟨bu.mpr (ay e'),by simp[q]⟩;have z:(pO h H).get? b=none:=PySem.W.hideAll_none (qW h H) hm;rw[z] at e;cases e
structure Mod(K:PySem.W.Frag)(mg:Str->Option Value)(base:Heap):Prop where
 oE:K.In base
 glob:base.Ns mainGlobals mg
 blt:∃mb,base.Ns builtinsNs mb/\∀x:Str,x≠"__name__"->mb x=bootBuiltins x
 nolimit:base.NoLimit
structure Cx where
 prog:Program
 w:World
 K:PySem.W.Frag
 mg:Str->Option Value
 base:Heap
 A:Around
 N:List Str
 dI:Shared
 jV:Hp
 env:Env
 outer:List Env
 stack:List Env
 ex:List Addr
 fn:Str->Bool
 calm:Bool
 pn:List (Addr×Obj)
 xe:Value->Shared->Prop
def iJ(l:List Env):List Addr:=l.filterMap (·.frame)
noncomputable abbrev Cx.fs(X:Cx):List Addr:=iJ X.outer
def Ae(sc:Scope)(x:Str):Prop:=sc.names.lookup x=some .local\/sc.names.lookup x=some .cell\/sc.names.lookup x=some .free
def Loc(sc:Scope)(x:Str):Prop:=sc.names.lookup x=some .local\/sc.names.lookup x=some .cell
def Look(env:Env)(h:Heap)(m:Str->Option Value)(x:Str)(u:Value):Prop :=
 (env.kindOf x=some .local/\m x=some u)\/((env.kindOf x=some .cell\/env.kindOf x=some .free)/\∃c,env.cells.lookup x=some c/\h.IsCell c (some u))
structure Cx.Ok(X:Cx):Prop where
 mod:Mod X.K X.mg X.base
 kind:X.env.scope.kind=.function
 glob:X.env.globals=mainGlobals
 blt:X.env.builtins=builtinsNs
 above:X.dI.heap.objs.size<=X.env.locals
 inj:∀x y c,X.env.cells.lookup x=some c->X.env.cells.lookup y=some c->x=y
 has:∀x,(X.env.kindOf x=some .cell\/X.env.kindOf x=some .free)->∃c,X.env.cells.lookup x=some c
 wN:∀x c,X.fn x=true->X.env.cells.lookup x=some c->X.dI.heap.objs.size<=c
 hd:X.calm=true->X.A.handled=none
 frames:X.A.frames=some X.stack
 xS:X.stack=X.outer\/(X.stack=X.env::X.outer/\X.env.frame=some X.env.locals)
 Hw:∀b∈X.ex,b≠X.env.locals/\∀x c,X.env.cells.lookup x=some c->c≠b
 bs:∀b o,X.base.get? b=some o->X.dI.heap.get? b=some o/\X.jV b=none
 qw:X.base.objs.size<=X.dI.heap.objs.size
 nN:∀b o,X.base.get? b=some o->b∉X.ex
 pG:∀b∈X.ex,b∉X.fs
 P9:X.dI.heap.FunFrames X.base X.outer
 sG:∀b∈X.fs,X.jV b=none
structure Inv(X:Cx)(pins:List (Addr×Obj))(σ:List (Option V))(H:Hp)(s:Shared):Prop where
 ok:X.Ok
 os:s.os=X.dI.os
 bare:AllBare s.gens
 base:Un X.fs X.ex X.jV H X.dI.heap s.heap
 loc:∃m,s.heap.Ns X.env.locals m/\∀(i:Nat) (x:Str) (v:V),X.N[i]?=some x->σ[i]?=some (some v)->Ae X.env.scope x->∃u,RelV v u/\Look X.env s.heap m x u
 cell:∀x c,X.env.cells.lookup x=some c->∃v,s.heap.IsCell c v
 free:H X.env.locals=none
 gp:∀x c,X.env.cells.lookup x=some c->H c=none
 pin:∀p∈X.pn++pins,s.heap.get? p.1=some p.2/\H p.1=none/\p.1≠X.env.locals/\p.1∉X.fs/\∀v,p.2.data≠.cell v
 cq:gS X.prog X.w H s.heap
 len:σ.length=X.N.length
section
variable{σ:List (Option V)}
theorem Cx.Ok.VJ(ok:X.Ok){o:Obj}(e:X.base.get? b=some o):b∉X.fs:=λhb=>by
 have:=(ok.P9.mem hb).1;rw[e] at this;cases this
theorem Inv.bs(I:Inv X pins σ H s):∀b o,X.base.get? b=some o->s.heap.get? b=some o/\H b=none:=λb o e =>
 ⟨I.base.keep b o (I.ok.bs b o e).1 (I.ok.bs b o e).2 (I.ok.VJ e) (I.ok.nN b o e),I.base.free b o (I.ok.bs b o e).1 (I.ok.bs b o e).2 (I.ok.nN b o e)⟩
theorem Inv.bk(I:Inv X pins σ H s):∀b o,X.base.get? b=some o->s.heap.get? b=some o:=λb o e=>(I.bs b o e).1
theorem Inv.mod(I:Inv X pins σ H s):Mod X.K X.mg X.base:=I.ok.mod
theorem Inv.iF(I:Inv X pins σ H s):X.K.In s.heap:=I.ok.mod.oE.keeps I.bk
theorem Inv.lt(I:Inv X pins σ H s):X.env.locals<s.heap.objs.size:=let ⟨_,hn,_⟩:=I.loc;hn.lt
theorem Inv.sz(I:Inv X pins σ H s):X.dI.heap.objs.size<=s.heap.objs.size:=aF I.ok.above (eX I.lt)
theorem Inv.xq(I:Inv X pins σ H s)(h:s.heap.objs.size<=a):a∉X.fs:=λhb=>by
 obtain⟨_,o,ho,_⟩:=I.ok.P9.mem hb;exact absurd (az (ay ho) (aF I.sz h)) (bJ _)
theorem Inv.sN(I:Inv X pins σ H s):∀x c,X.env.cells.lookup x=some c->c≠X.env.locals:=λx c e z=>by
 obtain⟨v,o,ho,hd⟩:=I.cell x c e;obtain⟨m,⟨o',es,ep,nX,Bx,_⟩,_⟩:=I.loc;rw[z,nX] at ho;cases ho;rw[Bx] at hd;cases hd
theorem Inv.P9(I:Inv X pins σ H s):s.heap.FunFrames X.base X.outer:=by
 have all:∀(l:List Env),(∀b∈iJ l,b∈X.fs)->X.dI.heap.FunFrames X.base l->s.heap.FunFrames X.base l:=by
  intro l
  induction l with
  |nil=>intro _ _;trivial
  |cons env r ih =>
   intro hs hl;obtain⟨hk,⟨L,o,hf,hn,ho,hd⟩,hr⟩:=hl;have hL:L∈X.fs:=hs L (by unfold iJ;rw[dO,hf];exact cR);obtain⟨sl,e⟩:=I.base.slot L o ho (I.ok.sG L hL) hL λz=>I.ok.pG L z hL;exact⟨hk,⟨L,_,hf,hn,e,hd⟩,ih (λb hb=>hs b (by unfold iJ;rw[dO,hf];exact bH _ hb)) hr⟩
 exact all X.outer (λ_ hb=>hb) I.ok.P9
theorem Inv.stack(I:Inv X pins σ H s):s.heap.FunFrames X.base X.stack:=by
 rcases I.ok.xS with e|⟨e,hf⟩
 ·rw[e];exact I.P9
 ·rw[e];obtain⟨m,hn,_⟩:=I.loc;refine .cons (by rw[I.ok.kind];decide) hf hn ?_ I.P9;exact Heap.get?_none_of_le (aF I.ok.qw I.ok.above)
theorem Inv.M1(I:Inv X pins σ H s):∀b∈iJ X.stack,b∈X.env.locals::X.fs:=λb hb=>by
 rcases I.ok.xS with e|⟨e,hf⟩
 ·rw[e] at hb;exact bH _ hb
 ·rw[e] at hb;unfold iJ at hb;rw[dO,hf] at hb;exact hb
theorem Inv.Dk(I:Inv X pins σ H s):∀b∈iJ X.stack,H b=none:=λb hb=>by
 rcases aH.mp (I.M1 b hb) with e|hb
 ·rw[e];exact I.free
 ·obtain⟨_,o,ho,_⟩:=I.ok.P9.mem hb;exact I.base.free b o ho (I.ok.sG b hb) λz=>I.ok.pG b z hb
theorem Inv.step{g':Array GenState}{t':Nat}{d':Drawn}{ch:List Addr}(I:Inv X pins σ H s)(oK:∀b∈ch,(b∈X.ex\/X.dI.heap.objs.size<=b)/\b≠X.env.locals/\(∀x c,X.env.cells.lookup x=some c->c≠b)/\∀p∈X.pn++pins,p.1≠b)(keep:∀b o,b≠X.env.locals->b∉X.fs->b∉ch->s.heap.get? b=some o->H b=none->h'.get? b=some o)(slot:∀b o,b≠X.env.locals->b∈X.fs->b∉ch->s.heap.get? b=some o->H b=none->∃sl,h'.get? b=some { o with slots:=sl })(free:∀b o,b∉ch->s.heap.get? b=some o->H b=none->H' b=none)(there:∀b o,b∉ch->s.heap.get? b=some o->∃o',h'.get? b=some o')(jA:∀b xs,H b=some (.tup xs)->H' b=some (.tup xs))(ji:∀b o u,H b=some (.kE o u)->H' b=some (.kE o u))(jB:∀b ps,H b=some (.lW ps)->∃more,H' b=some (.lW (ps++more)))(ns:∀m,s.heap.Ns X.env.locals m->h'.Ns X.env.locals m)(cq:gS X.prog X.w H' h')(hg:AllBare g') :
  Inv X pins σ H' { s with heap:=h',gens:=g',drawn:=d',toks:=t' }:=by
 have Gj:∀b o,X.dI.heap.get? b=some o->b≠X.env.locals:=λb o e=>aI (az (ay e) I.ok.above);have qa:∀b o,X.dI.heap.get? b=some o->b∉X.ex->b∉ch:=λb o e hx hb=>by
  rcases(oK b hb).1 with z|z
  ·exact hx z
  ·exact absurd (az (ay e) z) (bJ _)
 have cellK:∀x c,X.env.cells.lookup x=some c->∀v,s.heap.IsCell c v->h'.IsCell c v:=λx c e v bD=>by
  obtain⟨o,ho,hd⟩:=bD;have vp:c∉ch:=λz=>(oK c z).2.2.1 x c e rfl;by_cases hc:c∈X.fs
  ·obtain⟨sl,q⟩:=slot c o (I.sN x c e) hc vp ho (I.gp x c e);exact⟨_,q,hd⟩
  ·exact⟨o,keep c o (I.sN x c e) hc vp ho (I.gp x c e),hd⟩
 refine⟨I.ok,I.os,hg,⟨λb o e n hb hx=>?_,λb o e n hb hx=>?_,λb o e n hx=>?_,λb o e hx=>?_,λb xs e=>jA b xs (I.base.jA b xs e),λb o xs e=>ji b o xs (I.base.ji b o xs e),λb ps e=>?_⟩,?_,λx c e=>?_,?_,λx c e=>?_,λp hp=>?_,cq,I.len⟩
 ·exact keep b o (Gj b o e) hb (qa b o e hx) (I.base.keep b o e n hb hx) (I.base.free b o e n hx)
 ·obtain⟨sl,e1⟩:=I.base.slot b o e n hb hx;obtain⟨Nf,e2⟩:=slot b _ (Gj b o e) hb (qa b o e hx) e1 (I.base.free b o e n hx);exact⟨Nf,e2⟩
 ·obtain⟨o',e1⟩:=I.base.there b o e hx;exact free b o' (qa b o e hx) e1 (I.base.free b o e n hx)
 ·obtain⟨o',e1⟩:=I.base.there b o e hx;exact there b o' (qa b o e hx) e1
 ·obtain⟨m1,e1⟩:=I.base.jB b ps e;obtain⟨m2,e2⟩:=jB b _ e1;exact⟨m1++m2,by rw[e2,MO]⟩
 ·obtain⟨m,hn,hl⟩:=I.loc;refine⟨m,ns m hn,λi x v e1 e2 e3=>?_⟩;obtain⟨u,r,l⟩:=hl i x v e1 e2 e3;refine⟨u,r,?_⟩;rcases l with l|⟨k,c,e,z⟩
  ·exact .inl l
  ·exact .inr ⟨k,c,e,cellK x c e _ z⟩
 ·obtain⟨v,z⟩:=I.cell x c e;exact⟨v,cellK x c e v z⟩
 ·obtain⟨m,⟨o,_,_,ho,_⟩,_⟩:=I.loc;exact free _ o (λz=>(oK _ z).2.1 rfl) ho I.free
 ·obtain⟨v,o,ho,hd⟩:=I.cell x c e;exact free c o (λz=>(oK c z).2.2.1 x c e rfl) ho (I.gp x c e)
 ·obtain⟨e,n,ne,nf,d⟩:=I.pin p hp;have vp:p.1∉ch:=λz=>(oK p.1 z).2.2.2 p hp rfl;exact⟨keep p.1 p.2 ne nf vp e n,free p.1 p.2 vp e n,ne,nf,d⟩
theorem Inv.un{t':Nat}(I:Inv X pins σ H s)(u:Un X.fs [] H H' s.heap h')(cq:gS X.prog X.w H' h'):Inv X pins σ H' { s with heap:=h',toks:=t' }:=by
 obtain⟨m,⟨o,es,ep,ho,r⟩,_⟩:=id I.loc;obtain⟨sl,hL⟩:=u.any ho I.free (by simp);exact I.step (g':=s.gens) (d':=s.drawn) (ch:=[]) (λ_ z=>nomatch z) (λb o _ hb _ e n=>u.keep b o e n hb (by simp)) (λb o _ hb _ e n=>u.slot b o e n hb (by simp)) (λb o _ e n=>u.free b o e n (by simp)) (λb o _ e=>u.there b o e (by simp)) u.jA u.ji u.jB (λm' hm=>by
  obtain⟨o',pJ,Co,nX,r'⟩:=hm;rw[ho] at nX;cases nX;exact ⟨_,pJ,Co,hL,r'⟩) cq I.bare
theorem Inv.call{g':Array GenState}{t':Nat}{d':Drawn}(I:Inv X pins σ H s)(u:Un (iJ X.stack) ch H H' s.heap h')(cq:gS X.prog X.w H' h')(hg:AllBare g')(oK:∀b∈ch,(b∈X.ex\/X.dI.heap.objs.size<=b)/\b≠X.env.locals/\(∀x c,X.env.cells.lookup x=some c->c≠b)/\∀p∈X.pn++pins,p.1≠b) :
  Inv X pins σ H' { s with heap:=h',gens:=g',drawn:=d',toks:=t' }:=by
 obtain⟨m,⟨o,es,ep,ho,r⟩,_⟩:=id I.loc;obtain⟨sl,hL⟩:=u.any ho I.free λz=>(oK _ z).2.1 rfl;exact I.step (ch:=ch) oK (λb o hL hb hc e n=>u.keep b o e n (λz=>(aH.mp (I.M1 b z)).elim hL hb) hc) (λb o _ _ hc e n=>u.any e n hc) (λb o hc e n=>u.free b o e n hc) (λb o hc e=>u.there b o e hc) u.jA u.ji u.jB (λm' hm=>by
  obtain⟨o',pJ,Co,nX,r'⟩:=hm;rw[ho] at nX;cases nX;exact ⟨_,pJ,Co,hL,r'⟩) cq hg
theorem Inv.turned{t':Nat}{it:Addr}(I:Inv X pins σ H s)(k:∀b o,b≠it->s.heap.get? b=some o->h'.get? b=some o)(hn:H it=none)(hL:it≠X.env.locals)(h1:it∈X.ex\/X.dI.heap.objs.size<=it)(h2:∀x c,X.env.cells.lookup x=some c->c≠it)(h3:∀p∈X.pn++pins,p.1≠it):Inv X pins σ H { s with heap:=h',toks:=t' }:=by
 have Gi:∀b u,H b=some u->b≠it:=λb u e z=>by rw[z,hn] at e;cases e
 refine I.step (g':=s.gens) (d':=s.drawn) (ch:=[it]) (λb hb=>?_) (λb o _ _ hc e _=>k b o (λz=>hc (by simp[z])) e) (λb o _ _ hc e _=>⟨o.slots,k b o (λz=>hc (by simp[z])) e⟩) (λ_ _ _ _ n=>n)
  (λb o hc e=>⟨o,k b o (λz=>hc (by simp[z])) e⟩) (λ_ _ e=>e) (λ_ _ _ e=>e) (λb ps e=>⟨#[],by rw[e];simp⟩) (λm hm=>?_) (λb u e=>?_) I.bare
 ·have e:b=it:=by simpa using hb
  subst e;exact⟨h1,hL,h2,h3⟩
 ·obtain⟨o,es,ep,ho,r⟩:=hm;exact⟨o,es,ep,k _ o (cu hL) ho,r⟩
 ·refine(I.cq b u e).Z2 (λc v hc q=>k c v ?_ q) (λ_ q=>q) λ_ _ q=>q;rcases hc with z|z
  ·rw[z];exact Gi b u e
  ·exact Gi c _ z
theorem Inv.tok(I:Inv X pins σ H s)(t:Nat):Inv X pins σ H { s with toks:=t }:=I.un (h':=s.heap) (t':=t) Un.refl I.cq
theorem Inv.kept{t':Nat}(I:Inv X pins σ H s)(k:∀b u,s.heap.get? b=some u->h'.get? b=some u):Inv X pins σ H { s with heap:=h',toks:=t' }:=I.un (Un.kept k) (I.cq.kept k)
theorem Inv.laid{a:Addr}{o:HO}{t':Nat}(I:Inv X pins σ H s)(k:∀b u,s.heap.get? b=some u->h'.get? b=some u)(hp:s.heap.objs.size<=a)(new:p0 X.prog X.w (upd H a o) h' a o) :
  Inv X pins σ (upd H a o) { s with heap:=h',toks:=t' }:=I.un (Un.laid k hp (I.cq.fresh hp)) (I.cq.laid k hp new)
theorem Inv.write{x e:Addr}{o:HO}{t':Nat}(I:Inv X pins σ H s)(mu:xA (H x))(he:e=x\/H e=some (.own x))(k:∀b u,b≠e->s.heap.get? b=some u->h'.get? b=some u)(qi:∃u,h'.get? e=some u)(new:p0 X.prog X.w (upd H x o) h' x o):Inv X pins σ (upd H x o) { s with heap:=h',toks:=t' }:=I.un (Un.write mu he k qi) (I.cq.write mu he k qi new)
theorem Inv.L0{lX:List (Addr×Obj)}(I:Inv X pins σ H s)(h:∀p∈lX,s.heap.get? p.1=some p.2/\H p.1=none/\p.1≠X.env.locals/\p.1∉X.fs/\∀v,p.2.data≠.cell v):Inv X lX σ H s :=
 ⟨I.ok,I.os,I.bare,I.base,I.loc,I.cell,I.free,I.gp,λp hp=>(ba.mp hp).elim (λz=>I.pin p (bB _ z)) (h p),I.cq,I.len⟩
theorem LP(hN:N.Nodup)(a:N[i]?=some x)(b:N[j]?=some x):i=j:=by
 obtain⟨h1,e1⟩:=ax.mp a;obtain⟨h2,e2⟩:=ax.mp b;exact(my hN).mp (e1.trans e2.symm)
theorem JE{Q:Unit->Shared->Prop}(I:Inv X pins σ H s)(hN:X.N.Nodup)(hi:X.N[i]?=some x)(hx:Loc X.env.scope x)(r:RelV v u)(h:∀s',Inv X pins (σ.set i (some v)) H s'->(∃a,Heap.SameBut a s.heap s'.heap/\(a=X.env.locals\/X.env.cells.lookup x=some a))->Q Unit.unit s')(hf:X.fn x=true\/X.env.scope.names.lookup x=some .local:=by first|exact .inl rfl|exact .inr rfl|assumption):wpAny M A (storeName X.env x u) Q E s:=by
 obtain⟨m,hn,hl⟩:=id I.loc;have By:(X.env.scope.kind==.class||(X.env.scope.kind==.module&&X.env.locals != X.env.globals))=false:=by rw[I.ok.kind];rfl
 have vR:i<σ.length:=by rw[I.len];exact(ax.mp hi).1
 have sN:=I.sN;have tracked:∀{a:Addr} {h':Heap},(∃o,s.heap.get? a=some o/\H a=none)->Heap.SameBut a s.heap h'->gS X.prog X.w H h':=λ{a h'} ha hs b ob e=>by
  obtain⟨_,_,nZ⟩:=ha;refine(I.cq b ob e).Z2 (λc w' hc q=>(hs.2 c ?_).trans q) (λ_ q=>q) λ_ _ q=>q;rintro rfl;rcases hc with rfl|hc
  ·rw[nZ] at e;cases e
  ·rw[nZ] at hc;cases hc
 rcases hx with hk|hk
 ·refine wpAny_storeName_local hk hn (λh' NZ hs=>?_) By;obtain⟨oL,_,_,pz,_⟩:=id hn;refine h _ ⟨I.ok,I.os,I.bare,⟨λb o e n hb hx=>?_,λb o e n hb hx=>?_,I.base.free,λb o e hx=>?_,I.base.jA,I.base.ji,I.base.jB⟩,⟨_,NZ,λj y v' e1 e2 e3=>?_⟩,λy c e=>?_,I.free,I.gp,λp hp=>?_,tracked ⟨oL,pz,I.free⟩ hs,by simpa using I.len⟩ ⟨_,hs,.inl rfl⟩
  ·exact(hs.2 b (aI (az (ay e) I.ok.above))).trans (I.base.keep b o e n hb hx)
  ·obtain⟨sl,e1⟩:=I.base.slot b o e n hb hx;exact⟨sl,(hs.2 b (aI (az (ay e) I.ok.above))).trans e1⟩
  ·obtain⟨o',e1⟩:=I.base.there b o e hx;exact⟨o',(hs.2 b (aI (az (ay e) I.ok.above))).trans e1⟩
  ·by_cases hj:j=i
   ·subst hj;rw[hi] at e1;cases e1;rw[bf vR] at e2;cases e2;exact⟨u,r,.inl ⟨hk,by simp⟩⟩
   ·rw[aC (cu hj)] at e2;obtain⟨u',r',q⟩:=hl j y v' e1 e2 e3;refine⟨u',r',?_⟩;rcases q with⟨k,e⟩|⟨k,c,e,z⟩
    ·refine .inl ⟨k,?_⟩;have:y≠x:=λe=>hj (LP hN e1 (e▸hi));simp[this,e]
    ·exact .inr ⟨k,c,e,z.sameBut hs (sN y c e)⟩
  ·obtain⟨w',z⟩:=I.cell y c e;exact⟨w',z.sameBut hs (sN y c e)⟩
  ·obtain⟨e,n,ne,nf,d⟩:=I.pin p hp;exact⟨(hs.2 p.1 ne).trans e,n,ne,nf,d⟩
 ·have tV:X.fn x=true:=by
   rcases hf with z|z
   ·exact z
   ·rw[z] at hk;cases hk
  obtain⟨c,hc⟩:=I.ok.has x (.inl hk);obtain⟨w',z⟩:=I.cell x c hc;refine wpAny_storeName_cell I.ok.kind hk hc z (λh' jJ hs=>?_);obtain⟨oc,Bj,Bi⟩:=id z;refine h { s with heap:=h' } ⟨I.ok,I.os,I.bare,⟨λb o e n hb hx=>?_,λb o e n hb hx=>?_,I.base.free,λb o e hx=>?_,I.base.jA,I.base.ji,I.base.jB⟩,⟨m,hn.sameBut hs (cu (sN x c hc)),λj y v' e1 e2 e3=>?_⟩,λy c' e=>?_,I.free,I.gp,λp hp=>?_,tracked ⟨oc,Bj,I.gp x c hc⟩ hs,by simpa using I.len⟩ ⟨c,hs,.inr hc⟩
  ·exact(hs.2 b (aI (az (ay e) (I.ok.wN x c tV hc)))).trans (I.base.keep b o e n hb hx)
  ·obtain⟨sl,e1⟩:=I.base.slot b o e n hb hx;exact⟨sl,(hs.2 b (aI (az (ay e) (I.ok.wN x c tV hc)))).trans e1⟩
  ·obtain⟨o',e1⟩:=I.base.there b o e hx;exact⟨o',(hs.2 b (aI (az (ay e) (I.ok.wN x c tV hc)))).trans e1⟩
  ·by_cases hj:j=i
   ·subst hj;rw[hi] at e1;cases e1;rw[bf vR] at e2;cases e2;exact⟨u,r,.inr ⟨.inl hk,c,hc,jJ⟩⟩
   ·rw[aC (cu hj)] at e2;obtain⟨u',r',q⟩:=hl j y v' e1 e2 e3;refine⟨u',r',?_⟩;rcases q with q|⟨k,c',e,z'⟩
    ·exact .inl q
    ·refine .inr ⟨k,c',e,z'.sameBut hs ?_⟩;rintro rfl;exact hj (LP hN e1 (I.ok.inj _ _ _ e hc▸hi))
  ·by_cases tW:c'=c
   ·subst tW;exact⟨_,jJ⟩
   ·obtain⟨w2,z2⟩:=I.cell y c' e;exact⟨w2,z2.sameBut hs tW⟩
  ·obtain⟨e,n,ne,nf,d⟩:=I.pin p hp;refine⟨(hs.2 p.1 ?_).trans e,n,ne,nf,d⟩;intro q;rw[q,Bj] at e;have q':oc=p.2:=aS e;exact d w' (by rw[<- q'];exact Bi)
theorem Z1{Q:Unit->Shared->Prop}(I:Inv X pins σ H s)(hN:X.N.Nodup)(hi:X.N[i]?=some x)(hx:Loc X.env.scope x)(r:RelV v u)(h:∀s',Inv X pins (σ.set i (some v)) H s'->Q Unit.unit s')(hf:X.fn x=true\/X.env.scope.names.lookup x=some .local:=by first|exact .inl rfl|exact .inr rfl|assumption):wpAny M A (storeName X.env x u) Q E s :=
 JE I hN hi hx r (λs' I' _=>h s' I') hf
theorem Inv.Ec{s':Shared}(I:Inv X pins σ H s)(ho:s'.os=s.os)(u:Un (iJ X.stack) ch H H' s.heap s'.heap)(cq:gS X.prog X.w H' s'.heap)(hg:AllBare s'.gens)(oK:∀b∈ch,(b∈X.ex\/X.dI.heap.objs.size<=b)/\b≠X.env.locals/\(∀x c,X.env.cells.lookup x=some c->c≠b)/\∀p∈X.pn++pins,p.1≠b):Inv X pins σ H' s':=by
 obtain⟨h',g',d',t',o'⟩:=s';have e:o'=s.os:=ho;subst e;exact I.call (g':=g') (t':=t') (d':=d') u cq hg oK
end
noncomputable abbrev XK:=Value->Option Addr->Hp->Prop
noncomputable abbrev St:=List (Option V)
noncomputable abbrev VK:=V->Hp->Prop
noncomputable abbrev TE:=St->Hp->VK->Prop
noncomputable abbrev TT:=St->Hp->(Bool->Hp->Prop)->Prop
noncomputable abbrev TA:=St->Hp->(List V->Hp->Prop)->Prop
structure Ends where
 nx:St->Hp->Prop
 rt:VK
 bk:St->Hp->Prop:=λ_ _=>False
 ct:St->Hp->Prop:=λ_ _=>False
noncomputable abbrev TS:=Ends->St->Hp->Prop
def EP(X:Cx)(pins:List (Addr×Obj))(σ:St)(Q:VK)(u:Value)(s':Shared):Prop:=∃v H',Inv X pins σ H' s'/\RelV v u/\Q v H'
def TP(X:Cx)(pins:List (Addr×Obj))(σ:St)(Q:Bool->Hp->Prop)(b:Bool)(s':Shared):Prop:=∃H',Inv X pins σ H' s'/\Q b H'
def AP(X:Cx)(pins:List (Addr×Obj))(σ:St)(Q:List V->Hp->Prop)(us:List Value)(s':Shared):Prop:=∃vs H',Inv X pins σ H' s'/\Vals vs us/\Q vs H'
def SP(X:Cx)(pins:List (Addr×Obj))(D:Ends)(f:Flow)(s':Shared):Prop :=
 match f with
 |.next=>∃cM H',Inv X pins cM H' s'/\D.nx cM H'
 |.brk=>∃cM H',Inv X pins cM H' s'/\D.bk cM H'
 |.cont=>∃cM H',Inv X pins cM H' s'/\D.ct cM H'
 |.ret u=>∃v cM H',Inv X pins cM H' s'/\RelV v u/\D.rt v H'
def PE(X:Cx)(e:Expr)(t:TE):Prop :=
 ∀(pins:List (Addr×Obj)) (s:Shared) (σ:St) (H:Hp) (Q:VK),Inv X pins σ H s->t σ H Q->wpAny (model X.prog X.w) X.A (eval e X.env) (EP X pins σ Q) X.xe s
def PT(X:Cx)(e:Expr)(t:TT):Prop :=
 ∀(pins:List (Addr×Obj)) (s:Shared) (σ:St) (H:Hp) (Q:Bool->Hp->Prop),Inv X pins σ H s->t σ H Q->wpAny (model X.prog X.w) X.A (isTrue e X.env (eval e X.env)) (TP X pins σ Q) X.xe s
def PW(X:Cx)(e:Expr)(t:TT):Prop :=
 ∀(whole:Sem Value) (pins:List (Addr×Obj)) (s:Shared) (σ:St) (H:Hp) (Q:Bool->Hp->Prop),Inv X pins σ H s->t σ H Q->wpAny (model X.prog X.w) X.A (isTrue e X.env whole) (TP X pins σ Q) X.xe s
theorem PW.pt{t:TT}(h:PW X e t):PT X e t:=h _
def PA(X:Cx)(es:List Expr)(t:TA):Prop :=
 ∀(pos:Pos) (pins:List (Addr×Obj)) (s:Shared) (σ:St) (H:Hp) (Q:List V->Hp->Prop),Inv X pins σ H s->t σ H Q->wpAny (model X.prog X.w) X.A (spliced (backTo pos (starEach es X.env))) (AP X pins σ Q) X.xe s
def PS(X:Cx)(st:Stmt)(t:TS):Prop :=
 ∀(pins:List (Addr×Obj)) (s:Shared) (σ:St) (H:Hp) (D:Ends),Inv X pins σ H s->t D σ H->wpAny (model X.prog X.w) X.A (exec st X.env) (SP X pins D) X.xe s
def lh(X:Cx)(st:List Stmt)(t:TS):Prop :=
 ∀(pins:List (Addr×Obj)) (s:Shared) (σ:St) (H:Hp) (D:Ends),Inv X pins σ H s->t D σ H->wpAny (model X.prog X.w) X.A (execs st X.env) (SP X pins D) X.xe s
theorem cX{t:Sem α}{Q Q':α->Shared->Prop}(h:wpAny M A t Q E s)(hQ:∀a s,Q a s->Q' a s):wpAny M A t Q' E s:=bO h hQ λ_ _ x=>x
section
theorem bin{a b:Expr}(ha:PE X a ta)(hb:PE X b tb){R:V->V->Hp->Prop}(I:Inv X pins σ H s)(h:ta σ H λx H1=>tb σ H1 λy H2=>R x y H2){Q:α->Shared->Prop}{f:Value->Value->Sem α}(hf:∀v u s2 x y H2,Inv X pins σ H2 s2->RelV x v->RelV y u->R x y H2->wpAny (model X.prog X.w) X.A (f v u) Q X.xe s2) :
  wpAny (model X.prog X.w) X.A (eval a X.env) (λv bY=>wpAny (model X.prog X.w) X.A (eval b X.env) (λu iw=>wpAny (model X.prog X.w) X.A (f v u) Q X.xe iw) X.xe bY) X.xe s:=by
 refine cX (ha pins s σ H _ I h) λv s1 bD=>?_;obtain⟨x,H1,I1,r1,q1⟩:=bD;refine cX (hb pins s1 σ H1 _ I1 q1) λu s2 bD=>?_;obtain⟨y,H2,I2,r2,q2⟩:=bD;exact hf v u s2 x y H2 I2 r1 r2 q2
def Wq(i:Nat):TE:=λσ H Q=>∃v,σ[i]?=some (some v)/\Q v H
def tC(v:V):TE:=λ_ H Q=>Q v H
theorem RB(hN:X.N[i]?=some x)(hv:Ae X.env.scope x)(hd:(x==("__debug__":Str))=false:=by decide)(mM:(x==("__classdict__":Str))=false:=by decide):PE X (.Name x pos) (Wq i):=by
 intro pins s σ H Q I h;obtain⟨v,e,h⟩:=h;obtain⟨m,hn,hl⟩:=I.loc;obtain⟨u,r,l⟩:=hl i x v hN e hv;have fin:EP X pins σ Q u s:=⟨v,H,I,r,h⟩
 rcases l with⟨hk,hm⟩|⟨hk,c,hc,qj⟩
 ·exact wpAny_Name (wpAny_loadName_local I.ok.kind hk hn hm fin) hd
 ·rcases hk with hk|hk
  ·exact wpAny_Name (wpAny_loadName_cell I.ok.kind hk hc qj fin) hd
  ·exact wpAny_Name (wpAny_loadName_free I.ok.kind hk hc qj fin mM) hd
theorem Ru{i j pos}:PE X (.Constant (.int i) j pos) (tC (.int i)):=λ_ _ _ H _ I h=>wpAny_Constant_int ⟨.int i,H,I.tok _,⟨_,rfl⟩,h⟩
theorem Xr{b j pos}:PE X (.Constant (.bool b) j pos) (tC (.bl b)):=λ_ _ _ H _ I h=>Constant_bool ⟨.bl b,H,I,rfl,h⟩
theorem Rw{j pos}:PE X (.Constant .none j pos) (tC .cE):=λ_ _ _ H _ I h=>Constant_none ⟨.cE,H,I,rfl,h⟩
theorem Kx{x j pos}:PE X (.Constant (.str x) j pos) (tC (.str x)):=λ_ _ _ H _ I h=>Calls.Constant_str ⟨.str x,H,I.tok _,⟨_,rfl⟩,h⟩
def Gl(X:Cx)(x:Str):Prop:=X.env.kindOf x=some .globalImplicit
theorem R6(I:Inv X pins σ H s)(hg:Gl X x)(hm:X.mg x=some u)(h:Q u s)(hd:(x==("__debug__":Str))=false:=by decide):wpAny (model X.prog X.w) X.A (eval (.Name x pos) X.env) Q E s :=
 An I.ok.kind hg (Calls.loadGlobal_global (by rw[I.ok.glob];exact I.mod.glob.keeps I.bk) hm h) hd
theorem P2(I:Inv X pins σ H s)(hg:Gl X x)(hm:X.mg x=none)(hv:bootBuiltins x=some u)(h:Q u s)(hn:x≠"__name__":=by decide)(hd:(x==("__debug__":Str))=false:=by decide):wpAny (model X.prog X.w) X.A (eval (.Name x pos) X.env) Q E s:=by
 obtain⟨mb,h1,h2⟩:=I.mod.blt;exact An I.ok.kind hg (Calls.loadGlobal_builtin (by rw[I.ok.glob];exact I.mod.glob.keeps I.bk) hm (by rw[I.ok.blt];exact h1.keeps I.bk) ((h2 x hn).trans hv) h) hd
theorem zH(hg:Gl X x)(hm:X.mg x=some u)(r:RelV v u)(hd:(x==("__debug__":Str))=false:=by decide):PE X (.Name x pos) (tC v) :=
 λ_ _ _ H _ I h=>R6 I hg hm ⟨v,H,I,r,h⟩ hd
theorem TY(hg:Gl X x)(hm:X.mg x=none)(hv:bootBuiltins x=some u)(r:RelV v u)(hn:x≠"__name__":=by decide)(hd:(x==("__debug__":Str))=false:=by decide):PE X (.Name x pos) (tC v) :=
 λ_ _ _ H _ I h=>P2 I hg hm hv ⟨v,H,I,r,h⟩ hn hd
variable{a b:Expr}
variable{tA xQ:TT}{rest:List Expr}
def Wd(t u:TT):TT:=λσ H Q=>t σ H λc H1=>if c=true then u σ H1 Q else Q false H1
def M'(t u:TT):TT:=λσ H Q=>t σ H λc H1=>if c=true then Q true H1 else u σ H1 Q
def Wj(t:TT):TT:=λσ H Q=>t σ H λc H1=>Q (!c) H1
theorem Um(ha:PT X a tA):PW X (.BoolOp .And [a] pos) tA:=by
 intro wh pins s σ H Q I h;refine isTrue_and (cX (ha pins s σ H Q I h) λc s1 e=>?_);cases c with
 |true=>exact isTrue_and_nil e
 |false=>exact e
theorem RO(ha:PT X a tA):PW X (.BoolOp .Or [a] pos) tA:=by
 intro wh pins s σ H Q I h;refine isTrue_or (cX (ha pins s σ H Q I h) λc s1 e=>?_);cases c with
 |false=>exact isTrue_or_nil e
 |true=>exact e
theorem RN(ha:PT X a tA)(hb:PW X (.BoolOp .And (b::rest) pos) xQ):PW X (.BoolOp .And (a::b::rest) pos) (Wd tA xQ):=by
 intro wh pins s σ H Q I h;refine isTrue_and (cX (ha pins s σ H _ I h) λc s1 ⟨H1,I1,q1⟩=>?_);cases c with
 |true=>exact hb wh pins s1 σ H1 Q I1 q1
 |false=>exact⟨H1,I1,q1⟩
theorem Xz(ha:PT X a tA)(hb:PW X (.BoolOp .Or (b::rest) pos) xQ):PW X (.BoolOp .Or (a::b::rest) pos) (M' tA xQ):=by
 intro wh pins s σ H Q I h;refine isTrue_or (cX (ha pins s σ H _ I h) λc s1 ⟨H1,I1,q1⟩=>?_);cases c with
 |true=>exact⟨H1,I1,q1⟩
 |false=>exact hb wh pins s1 σ H1 Q I1 q1
theorem RL(ha:PT X a tA):PT X (.UnaryOp .Not a pos) (Wj tA):=by
 intro pins s σ H Q I h;exact isTrue_not (ha pins s σ H (λc H1=>Q (!c) H1) I h)
def XR(ta tb:TE):TE:=λσ H Q=>ta σ H λx H1=>∃c,x=.bl c/\if c=true then tb σ H1 Q else Q (.bl false) H1
def Wk(ta tb:TE):TE:=λσ H Q=>ta σ H λx H1=>∃c,x=.bl c/\if c=true then Q (.bl true) H1 else tb σ H1 Q
def XU(ta:TE):TE:=λσ H Q=>ta σ H λx H1=>∃c,x=.bl c/\Q (.bl (!c)) H1
theorem Ry{op}{t:TE}(h:PE X a t):PE X (.BoolOp op [a] pos) t:=λpins s σ H Q I hw=>BoolOp_one (h pins s σ H Q I hw)
theorem Rp(ha:PE X a ta)(hb:PE X (.BoolOp .And (b::rest) pos) tb):PE X (.BoolOp .And (a::b::rest) pos) (XR ta tb):=by
 intro pins s σ H Q I h;refine BoolOp_and (cX (ha pins s σ H _ I h) λv s1 bD=>?_);obtain⟨x,H1,I1,r1,q1⟩:=bD;obtain⟨c,rfl,q1⟩:=q1;cases r1;refine cP ?_;cases c with
 |true=>exact hb pins s1 σ H1 Q I1 q1
 |false=>exact⟨.bl false,H1,I1,rfl,q1⟩
theorem Xv(ha:PE X a ta)(hb:PE X (.BoolOp .Or (b::rest) pos) tb):PE X (.BoolOp .Or (a::b::rest) pos) (Wk ta tb):=by
 intro pins s σ H Q I h;refine BoolOp_or (cX (ha pins s σ H _ I h) λv s1 bD=>?_);obtain⟨x,H1,I1,r1,q1⟩:=bD;obtain⟨c,rfl,q1⟩:=q1;cases r1;refine cP ?_;cases c with
 |false=>exact hb pins s1 σ H1 Q I1 q1
 |true=>exact⟨.bl true,H1,I1,rfl,q1⟩
theorem Rx(ha:PE X a ta):PE X (.UnaryOp .Not a pos) (XU ta):=by
 intro pins s σ H Q I h;refine UnaryOp_ (cX (ha pins s σ H _ I h) λv s1 bD=>?_);obtain⟨x,H1,I1,r1,q1⟩:=bD;obtain⟨c,rfl,q1⟩:=q1;cases r1;exact not_of (cP ⟨.bl (!c),H1,I1,rfl,q1⟩)
def Na(t:TT)(ta tb:TE):TE:=λσ H Q=>t σ H λc H1=>if c=true then ta σ H1 Q else tb σ H1 Q
theorem a58(hc:PT X c tA)(ha:PE X a ta)(hb:PE X b tb):PE X (.IfExp c a b pos) (Na tA ta tb):=by
 intro pins s σ H Q I h;refine wpAny_IfExp (cX (hc pins s σ H _ I h) λd s1 ⟨H1,I1,q1⟩=>?_);cases d with
 |true=>exact ha pins s1 σ H1 Q I1 q1
 |false=>exact hb pins s1 σ H1 Q I1 q1
end
def gi(K:PySem.W.Frag)(H:Hp)(a:Addr)(xs:List V):Prop :=
 Rd H a (.lst xs) \/
  ∃(o:Obj) (aX:Array Value) (n:Nat),K.lookup a=some o/\o.cls=.type "list"/\o.dict=none/\o.data=.seq aX n/\aX.size<=sizeLine/\Vals xs aX.toList
def iU(K:PySem.W.Frag)(H:Hp)(a:Addr)(xs:List V):Prop :=
 Rd H a (.tup xs) \/
  ∃(o:Obj) (aX:Array Value) (n:Nat),K.lookup a=some o/\o.cls=.type "tuple"/\o.data=.seq aX n/\aX.size<=sizeLine/\Vals xs aX.toList
def Vc:Value->Option V
 |.none=>some .cE
 |.bool b=>some (.bl b)
 |.int i _=>some (.int i)
 |.str x _=>some (.str x)
 |.bytes b _=>some (.mj b)
 |.float b _=>some (.sI b)
 |.ref a=>some (.ref a)
 |.type n=>some (.ty n)
 |_=>none
theorem RelV.abs{x:V}(r:RelV x u):Vc u=some x:=by
 cases x with
 |cE=>cases r;rfl
 |bl _=>cases r;rfl
 |int _=>obtain⟨t,rfl⟩:=r;rfl
 |str _=>obtain⟨t,rfl⟩:=r;rfl
 |mj _=>obtain⟨t,rfl⟩:=r;rfl
 |sI _=>obtain⟨t,rfl⟩:=r;rfl
 |ref _=>cases r;rfl
 |ty _=>cases r;rfl
theorem RelV.inj{x y:V}{u:Value}(r:RelV x u)(q:RelV y u):x=y:=aS (r.abs.symm.trans q.abs)
theorem Vals.inj{xs ys:List V}{us:List Value}(h:Vals xs us)(h':Vals ys us):xs=ys:=by
 induction h generalizing ys with
 |nil=>cases h';rfl
 |cons r t ih =>
  cases h' with
  |cons r' t'=>rw[r.inj r',ih t']
section
variable{ys:List V}
theorem gi.of(h:H a=some (.lst xs)):gi K H a xs:=.inl (.inl h)
theorem Inv.list(I:Inv X pins σ H s)(h:gi X.K H a xs):∃aX:List Value,Vals xs aX/\PlainL s.heap a aX.toArray/\xs.length<=sizeLine:=by
 rcases h with h|⟨o,aX,n,hk,hc,hd,hs,hz,r⟩
 ·obtain⟨z,aX,n,r,e⟩:=h.ok I.cq;exact⟨aX,r,⟨_,n,e,rfl,rfl,rfl⟩,z⟩
 ·refine⟨aX.toList,r,⟨o,n,I.iF a o hk,hc,hd,by simpa using hs⟩,?_⟩;have e:=r.length;simp only[Array.length_toList] at e;omega
theorem Inv.tuple(I:Inv X pins σ H s)(h:iU X.K H a xs):∃aX:List Value,Vals xs aX/\IsTup s.heap a aX.toArray/\xs.length<=sizeLine:=by
 rcases h with h|⟨o,aX,n,hk,hc,hs,hz,r⟩
 ·obtain⟨z,aX,r,p⟩:=h.ok I.cq;exact⟨aX,r,p.tup,z⟩
 ·refine⟨aX.toList,r,⟨o,I.iF a o hk,hc,n,by simpa using hs⟩,?_⟩;have e:=r.length;simp only[Array.length_toList] at e;omega
theorem Inv.LO(I:Inv X pins σ H s)(h:gi X.K H a xs)(h':gi X.K H a ys):xs=ys:=by
 obtain⟨aX,r,⟨o,n,e,_,_,d⟩,_⟩:=I.list h;obtain⟨its',r',⟨o',n',e',_,_,d'⟩,_⟩:=I.list h';rw[e] at e';cases e';rw[d] at d';injection d' with d1 _;have:aX=its':=by simpa using fY Array.toList d1
 subst this;exact r.inj r'
theorem Inv.ZK(I:Inv X pins σ H s)(h:iU X.K H a xs)(h':iU X.K H a ys):xs=ys:=by
 obtain⟨aX,r,⟨o,e,_,n,d⟩,_⟩:=I.tuple h;obtain⟨its',r',⟨o',e',_,n',d'⟩,_⟩:=I.tuple h';rw[e] at e';cases e';rw[d] at d';injection d' with d1 _;have:aX=its':=by simpa using fY Array.toList d1
 subst this;exact r.inj r'
end
noncomputable abbrev Cx.Y9(X:Cx)(E:Value->Shared->Prop):Cx:={ X with xe:=E }
theorem Cx.Ok.Y9{X:Cx}(ok:X.Ok)(E:Value->Shared->Prop):(X.Y9 E).Ok :=
 ⟨ok.mod,ok.kind,ok.glob,ok.blt,ok.above,ok.inj,ok.has,ok.wN,ok.hd,ok.frames,ok.xS,ok.Hw,ok.bs,ok.qw,ok.nN,ok.pG,ok.P9,ok.sG⟩
theorem Cx.Ok.EX(ok:(X.Y9 E).Ok):X.Ok :=
 ⟨ok.mod,ok.kind,ok.glob,ok.blt,ok.above,ok.inj,ok.has,ok.wN,ok.hd,ok.frames,ok.xS,ok.Hw,ok.bs,ok.qw,ok.nN,ok.pG,ok.P9,ok.sG⟩
theorem Inv.Y9(I:Inv X pins σ H s)(E:Value->Shared->Prop):Inv (X.Y9 E) pins σ H s:=⟨I.ok.Y9 E,I.os,I.bare,I.base,I.loc,I.cell,I.free,I.gp,I.pin,I.cq,I.len⟩
theorem Inv.EX(I:Inv (X.Y9 E) pins σ H s):Inv X pins σ H s:=⟨I.ok.EX,I.os,I.bare,I.base,I.loc,I.cell,I.free,I.gp,I.pin,I.cq,I.len⟩
section
variable{st:Stmt}{rest:List Stmt}{t u:TS}
def Je:TS:=λD σ H=>D.nx σ H
def Wn(t u:TS):TS:=λD σ H=>t { D with nx:=u D } σ H
theorem Ui:lh X [] Je:=λ_ _ σ H _ I h=>wpAny_execs_nil ⟨σ,H,I,h⟩
theorem a51(h1:PS X st t)(h2:lh X rest u):lh X (st::rest) (Wn t u):=by
 intro pins s σ H D I h;refine wpAny_execs_cons (cX (h1 pins s σ H { D with nx:=u D } I h) λf s1 q=>?_);cases f with
 |next =>
  obtain⟨cM,H',I',q⟩:=q;exact h2 pins s1 cM H' D I' q
 |ret v=>exact q
 |brk=>exact q
 |cont=>exact q
theorem Ug:PS X (.Pass pos) Je:=λ_ _ σ H _ I h=>wpAny_Pass ⟨σ,H,I,h⟩
theorem Inv.quiet(I:Inv X pins σ H s):interactive X.env=false:=by simp[interactive,I.ok.kind]
def XT(te:TE):TS:=λD σ H=>te σ H λ_ H1=>D.nx σ H1
theorem Ue(he:PE X e te)(hs:swapsWith e none pos.line X.env=pure false:=by rfl):PS X (.Expr e pos) (XT te):=by
 intro pins s σ H D I h;exact wpAny_Expr_any (cX (he pins s σ H _ I h) λv s1 ⟨x,H1,I1,r1,q1⟩=>⟨σ,H1,I1,q1⟩) I.quiet hs
def Wm(te:TE):TS:=λD σ H=>te σ H D.rt
theorem RK(he:PE X e te):PS X (.Return (some e) pos) (Wm te):=by
 intro pins s σ H D I h;exact wpAny_Return_some (cX (he pins s σ H _ I h) λv s1 ⟨x,H1,I1,r1,q1⟩=>⟨x,σ,H1,I1,r1,q1⟩)
def XX:TS:=λD _ H=>D.rt .cE H
theorem Uh:PS X (.Return none pos) XX:=λ_ _ σ H _ I h=>wpAny_Return_none ⟨.cE,σ,H,I,rfl,h⟩
def Wh(c:TT)(t u:TS):TS:=λD σ H=>c σ H λb H1=>if b=true then t D σ H1 else u D σ H1
theorem Xy{a b:List Stmt}{tc:TT}(hc:PT X c tc)(ha:lh X a t)(hb:lh X b u):PS X (.If c a b pos) (Wh tc t u):=by
 intro pins s σ H D I h;refine wpAny_If (cX (hc pins s σ H _ I h) λd s1 ⟨H1,I1,q1⟩=>?_);cases d with
 |true=>exact ha pins s1 σ H1 D I1 q1
 |false=>exact hb pins s1 σ H1 D I1 q1
end
noncomputable abbrev TG:=V->St->Hp->(St->Hp->Prop)->Prop
noncomputable abbrev qJ:=List V->St->Hp->(St->Hp->Prop)->Prop
def PG(X:Cx)(target:Expr)(t:TG):Prop :=
 ∀(pins:List (Addr×Obj)) (s:Shared) (σ:St) (H:Hp) (v:V) (u:Value) (Q:St->Hp->Prop),Inv X pins σ H s->RelV v u->t v σ H Q ->
  wpAny (model X.prog X.w) X.A (assign target X.env u) (λ_ s'=>∃cM H',Inv X pins cM H' s'/\Q cM H') X.xe s
def xy(X:Cx)(ts:List Expr)(t:qJ):Prop :=
 ∀(pins:List (Addr×Obj)) (s:Shared) (σ:St) (H:Hp) (vs:List V) (us:List Value) (Q:St->Hp->Prop),Inv X pins σ H s->Vals vs us->t vs σ H Q ->
  wpAny (model X.prog X.w) X.A (assignInOrder ((assignEach ts X.env).map (·.2)) us) (λ_ s'=>∃cM H',Inv X pins cM H' s'/\Q cM H') X.xe s
noncomputable abbrev EY:=V->V->V->Hp->(Hp->Prop)->Prop
def CJ(X:Cx)(t:EY):Prop :=
 ∀(pins:List (Addr×Obj)) (s:Shared) (σ:St) (H:Hp) (o i v:V) (ov iv u:Value) (Q:Hp->Prop),Inv X pins σ H s->RelV o ov->RelV i iv->RelV v u->t o i v H Q ->
  wpAny (model X.prog X.w) X.A (setItem ov iv u) (λ_ s'=>∃H',Inv X pins σ H' s'/\Q H') X.xe s
def uB(i:Nat):TG:=λv σ H Q=>Q (σ.set i (some v)) H
theorem Li(hN:X.N.Nodup)(hi:X.N[i]?=some x)(hx:Loc X.env.scope x)(hf:X.fn x=true\/X.env.scope.names.lookup x=some .local:=by first|exact .inl rfl|exact .inr rfl|assumption):PG X (.Name x pos) (uB i):=by
 intro pins s σ H v u Q I r h;exact wpAny_assign_Name (Z1 I hN hi hx r (λs' I'=>⟨_,H,I',h⟩) hf)
def Ia:qJ:=λvs σ H Q=>vs=[]/\Q σ H
def IH(t:TG)(u:qJ):qJ:=λvs σ H Q=>∃v r,vs=v::r/\t v σ H λcM H'=>u r cM H' Q
theorem Uc:xy X [] Ia:=by
 intro pins s σ H vs us Q I r h;obtain⟨e,h⟩:=h;subst e;cases r;exact assignInOrder_nil ⟨σ,H,I,h⟩
theorem a55{t:TG}{u:qJ}(h1:PG X e t)(h2:xy X es u)(hs:(assignEach (e::es) X.env).map (·.2)=assign e X.env::(assignEach es X.env).map (·.2):=by rfl):xy X (e::es) (IH t u):=by
 intro pins s σ H vs us Q I r h;obtain⟨v,vr,e1,h⟩:=h;subst e1;cases r with
 |cons r rr =>
  rw[hs];refine xG (cX (h1 pins s σ H _ _ _ I r h) λ_ s1 bD=>?_);obtain⟨kr,H1,I1,q1⟩:=bD;exact h2 pins s1 kr H1 _ _ Q I1 rr q1
def Vs(K:PySem.W.Frag)(n:Nat)(t:qJ):TG:=λv σ H Q=>∃a xs,v=.ref a/\iU K H a xs/\xs.length=n/\t xs σ H Q
theorem RD{t:qJ}{n:Nat}(hc:X.calm=true)(h:xy X es t)(hn:(assignEach es X.env).length=n:=by rfl)(fz:(assignEach es X.env).findIdx? (·.1)=none:=by rfl):PG X (.Tuple es k pos) (Vs X.K n t):=by
 intro pins s σ H v u Q I r hw;obtain⟨a,xs,e1,hq,hl,hw⟩:=hw;subst e1;cases r;obtain⟨aX,rv,ht,hz⟩:=I.tuple hq;refine assign_Tuple_tuple (I.ok.hd hc) ht (by simp[hn,<- hl,rv.length]) fz λh' hx=>?_;have I1:Inv X pins σ H { s with heap:=h' }:=I.kept (t':=s.toks) λb o e=>hx b o (aI (ay e)) e;exact h pins _ σ H xs _ Q I1 (by simpa using rv) hw
def Vr(to ti:TE)(t:EY):TG:=λv σ H Q=>to σ H λo H1=>ti σ H1 λi H2=>t o i v H2 λH3=>Q σ H3
theorem RC{o i:Expr}{to ti:TE}{t:EY}(ho:PE X o to)(hi:PE X i ti)(hs:CJ X t)(ha:∀ v,assign (.Subscript o i pos) X.env v=(do
   let ov <- holding [v] (eval o X.env)
   let iv <- holding [v,ov] (eval i X.env)
   standAt pos
   holding [v,ov,iv] (setItem ov iv v)
   release [v,ov,iv] []):=by intro _;rfl):PG X (.Subscript o i pos) (Vr to ti t):=by
 intro pins s σ H v u Q I r h;rw[ha];refine aa (bL (cX (ho pins s σ H _ I h) λov s1 bD=>?_));obtain⟨x,H1,I1,r1,q1⟩:=bD;refine aa (bL (cX (hi pins s1 σ H1 _ I1 q1) λiv s2 bD=>?_));obtain⟨y,H2,I2,r2,q2⟩:=bD;refine aa (fC (aa (bL (cX (hs pins s2 σ H2 x y v ov iv u _ I2 r1 r2 r q2) λ_ s3 ⟨H3,I3,q3⟩=>?_))));exact wpAny_release ⟨σ,H3,I3,q3⟩
def xt(te:TE)(g:TG):TS:=λD σ H=>te σ H λx H1=>g x σ H1 D.nx
theorem KA{g:TG}(he:PE X e te)(hg:PG X tg g)(hs:swapsWithSole [tg] e pos.line X.env=pure false:=by rfl)(hw:swappedStores [tg] e X.env=pure none:=by rfl)(h1:(assignEach [tg] X.env).map (·.2)=[assign tg X.env]:=by rfl):PS X (.Assign [tg] e pos) (xt te g):=by
 intro pins s σ H D I h;refine wpAny_Assign_stores (cX (he pins s σ H _ I h) λv s1 bD=>?_) hs hw;obtain⟨x,H1,I1,r1,q1⟩:=bD;rw[h1];exact cX (hg pins s1 σ H1 x v _ I1 r1 q1) λ_ s2 q=>q
theorem KC{pos':Pos}(hN:X.N.Nodup)(hi:X.N[i]?=some x)(hx:Loc X.env.scope x)(he:PE X e te)(hs:swapsWith e (some (.Name x pos')) pos.line X.env=pure false:=by rfl)(hf:X.fn x=true\/X.env.scope.names.lookup x=some .local:=by first|exact .inl rfl|exact .inr rfl|assumption) :
  PS X (.Assign [.Name x pos'] e pos) (xt te (uB i)):=by
 intro pins s σ H D I h;refine wpAny_Assign_Name (cX (he pins s σ H _ I h) λv s1 bD=>?_) hs;obtain⟨y,H1,I1,r1,q1⟩:=bD;exact Z1 I1 hN hi hx r1 (λs2 I2=>⟨_,H1,I2,q1⟩) hf
def Wl(i j:Nat)(ta:TA):TS:=λD σ H=>ta σ H λvs H1=>∃v w,vs=[v,w]/\D.nx ((σ.set i (some v)).set j (some w)) H1
theorem RJ{y:Str}{a b:Expr}{ta:TA}{px py pt:Pos}{kt k2 pZ}(hc:X.calm=true)(hN:X.N.Nodup)(hi:X.N[i]?=some x)(hj:X.N[j]?=some y)(iA:i≠j)(hx:X.env.scope.names.lookup x=some .local)(hy:X.env.scope.names.lookup y=some .local)(ha:PA X [a,b] ta)(hw:swappedStores [.Tuple [.Name x px,.Name y py] kt pt] (.Tuple [a,b] k2 pZ) X.env=pure (some [x,y]))(hs:swapsWithSole [.Tuple [.Name x px,.Name y py] kt pt] (.Tuple [a,b] k2 pZ) pos.line X.env=pure false:=by rfl) :
  PS X (.Assign [.Tuple [.Name x px,.Name y py] kt pt] (.Tuple [a,b] k2 pZ) pos) (Wl i j ta):=by
 intro pins s σ H D I h;rw[exec_Assign_arm];refine aa (fC ?_);rw[hs];refine aa (ai ?_);rw[aB ∅];refine aa (Tuple_ (cX (ha _ pins s σ H _ I h) λus s1 bD=>?_));obtain⟨vs,H1,I1,r1,q1⟩:=bD;obtain⟨v,w,e1,q1⟩:=q1;subst e1;obtain⟨u1,u2,rfl,rv,gK⟩:∃u1 u2,us=[u1,u2]/\RelV v u1/\RelV w u2:=by
  cases r1 with
  |cons p q =>
   cases q with
   |cons p' q' =>
    cases q';exact⟨_,_,rfl,p,p'⟩
 refine cI ?_ (by show 2<=sizeLine;decide);have I2:Inv X pins σ H1 { s1 with heap:=s1.heap.push { cls:=.type "tuple",data:=.seq [u1,u2].toArray } }:=I1.kept (t':=s1.toks) λb o e=>aj _ e;rw[hw];refine aa (ai ?_);show wpAny (model X.prog X.w) X.A (do rule "assign.swapped-stores";let items <- unpackItems (.ref s1.heap.objs.size) 2 none;assignInOrder [λv=>bindName X.env y v,λv=>bindName X.env x v] items.reverse;pure Flow.next) _ _ _;refine aa (cV (aa (unpackItems_tuple (items:=#[u1,u2]) (I.ok.hd hc) (IsTup.new s1.heap _) λh' qc=>?_)));have I3:=I2.kept (h':=h') (t':=s1.toks) λb o e=>qc b o (aI (ay e)) e;show wpAny _ _ (assignInOrder [λv=>bindName X.env y v,λv=>bindName X.env x v] [u2,u1] >>= λ_=>pure Flow.next) _ _ _;refine aa (xG (wpAny_bindName (Z1 I3 hN hj (.inl hy) gK (λs2 I4=>?_) (.inr hy))));refine xG (wpAny_bindName (Z1 I4 hN hi (.inl hx) rv (λs3 I5=>assignInOrder_nil (ai ?_)) (.inr hx)));rw[List.set_comm _ _ (cu iA)] at I5;exact⟨_,H1,I5,q1⟩
structure It where
 go:Nat->Hp->Prop
 qV:Nat->Hp->V->Hp->Prop
 stop:Nat->Hp->Prop
def C7(X:Cx)(pins:List (Addr×Obj))(H:Hp)(b:Addr):Prop :=
 H b=none/\b≠X.env.locals/\b∉X.fs/\(b∈X.ex\/X.dI.heap.objs.size<=b)/\(∀x c,X.env.cells.lookup x=some c->c≠b)/\∀p∈X.pn++pins,p.1≠b
theorem Inv.sS(I:Inv X pins σ H s)(hb:s.heap.objs.size<=b)(hn:H' b=none):C7 X pins H' b:=by
 refine⟨hn,bV (az I.lt hb),I.xq hb,.inr (aF I.sz hb),λx c e z=>?_,λp hp z=>?_⟩
 ·obtain⟨v,q⟩:=I.cell x c e;exact absurd (az q.lt (by rw[z];exact hb)) (bJ _)
 ·exact absurd (az (ay (I.pin p hp).1) (by rw[z];exact hb)) (bJ _)
structure Turn(P:Program)(w:World)(K:PySem.W.Frag)(tg:Expr)(J:It)(fp:List Addr)(it:Addr)(tn:Nat->Heap->Prop):Prop where
 mem:it∈fp
 obj:∀i h,tn i h->∀b∈fp,∃o,h.get? b=some o/\∀v,o.data≠.cell v
 keep:∀i h h',tn i h->(∀b∈fp,∀o,h.get? b=some o->h'.get? b=some o)->tn i h'
 item:∀(X:Cx),X.prog=P->X.w=w->X.K=K->X.calm=true->∀(i:Nat) (pins:List (Addr×Obj)) (s:Shared) (σ:St) (H:Hp) (E:Value->Shared->Prop),Inv X pins σ H s->(∀b∈fp,C7 X pins H b)->tn i s.heap->J.go i H ->
  wpAny (model P w) X.A (pyNext (.ref it)) (λr s1=>∃ u,r=some u /\
   wpAny (model P w) X.A (letOwnedTupleGo tg (.ref it) u) (λ_ s2=>∃ x H',Inv X pins σ H' s2/\RelV x u/\J.qV i H x H'/\tn (i + 1) s2.heap/\∀ b ∈ fp,H' b=none) E s1) E s
 done:∀(X:Cx),X.prog=P->X.w=w->X.K=K->X.calm=true->∀(i:Nat) (pins:List (Addr×Obj)) (s:Shared) (σ:St) (H:Hp) (E:Value->Shared->Prop),Inv X pins σ H s->(∀b∈fp,C7 X pins H b)->tn i s.heap->J.stop i H ->
  wpAny (model P w) X.A (pyNext (.ref it)) (λr s1=>r=none/\Inv X pins σ H s1) E s
 self:∀(A:Around) (i:Nat) (s:Shared) (Q:Value->Shared->Prop) (E:Value->Shared->Prop),tn i s.heap->Q (.ref it) s->wpAny (model P w) A (pyIter (.ref it)) Q E s
noncomputable abbrev TI:=St->Hp->(It->Hp->Prop)->Prop
def Mq(X:Cx)(pins:List (Addr×Obj))(σ:St)(tg:Expr)(R:It->Hp->Prop)(vH:Value)(s2:Shared):Prop :=
 ∃(it:Addr) (fp:List Addr) (tn:Nat->Heap->Prop) (J:It) (H':Hp),vH=.ref it/\Inv X pins σ H' s2/\Turn X.prog X.w X.K tg J fp it tn/\tn 0 s2.heap/\(∀b∈fp,C7 X pins H' b)/\R J H'
def PI(X:Cx)(tg iter:Expr)(wi:TI):Prop :=
 ∀(pins:List (Addr×Obj)) (s:Shared) (σ:St) (H:Hp) (R:It->Hp->Prop),Inv X pins σ H s->wi σ H R ->
  wpAny (model X.prog X.w) X.A (eval iter X.env) (λv s1=>wpAny (model X.prog X.w) X.A (pyIter v) (Mq X pins σ tg R) X.xe s1) X.xe s
theorem Ef{it:Addr}{o:Obj}{n:String}{vs:Array Value}{Q:Unit->Shared->Prop}(ho:s.heap.get? it=some o)(hc:o.cls=.type n)(hd:o.data=.fields vs)(hn:["enumerate","zip","dict_itemiterator","dict_reverseitemiterator","odict_iterator","itertools.zip_longest","itertools.pairwise"].contains n=false)(hQ:Q Unit.unit s):wpAny M A (letOwnedTupleGo tg (.ref it) u) Q E s:=by
  unfold letOwnedTupleGo;cases tg<;>first
    |exact ai hQ
    | (cases u <;> first
        |exact ai hQ
        | (refine aa (wpAny_load ho ?_)
           rw[hc,hd];show wpAny M A (if(["enumerate","zip","dict_itemiterator","dict_reverseitemiterator","odict_iterator","itertools.zip_longest","itertools.pairwise"].contains n&&vs[0]?==some (rawInt _))=true then _ else _) Q E s;rw[aB (by intro h;rw[hn,Bool.false_and] at h;cases h)];exact ai hQ))
def Fs(K:PySem.W.Frag)(a:Addr):It :=
 ⟨λi H=>∃xs x,gi K H a xs/\xs[i]?=some x,λi H x H'=>H'=H/\∀xs,gi K H a xs->xs[i]?=some x,λi H=>∃xs,gi K H a xs/\xs.length<=i⟩
def Fq(K:PySem.W.Frag)(a:Addr):It :=
 ⟨λi H=>∃xs x,iU K H a xs/\xs[i]?=some x,λi H x H'=>H'=H/\∀xs,iU K H a xs->xs[i]?=some x,λi H=>∃xs,iU K H a xs/\xs.length<=i⟩
def xB(lo:Int)(n:Nat):It:=⟨λi _=>i<n,λi H x H'=>H'=H/\x=.int (lo+i),λi _=>n<=i⟩
theorem ZN(a it:Addr):Turn P w K tg (Fs K a) [it] it (λi h=>h.IsListIter it a i) where
 mem:=by simp
 obj:=λi h st b hb=>by
  have e:b=it:=by simpa using hb
  subst e;obtain⟨o,e,c,d⟩:=st;exact⟨o,e,λv z=>by rw[d] at z;cases z⟩
 keep:=λi h h' st k=>st.at λo e=>k it (by simp) o e
 item:=by
  intro X hP hw hK hc i pins s σ H E I hf st hg;subst hP hw hK;obtain⟨xs,x,hq,hx⟩:=hg;obtain⟨aX,rv,p,hz⟩:=I.list hq;obtain⟨u,hu,ru⟩:=rv.get hx;obtain⟨f0,f1,f2,f3,f4,f5⟩:=hf it (by simp);refine wpAny_pyNext_list_item st p.isList (x:=u) (by simpa using hu) λh' aY sb=>?_;have I1:Inv X pins σ H { s with heap:=h' }:=I.turned (t':=s.toks) (λb o hb e=>(sb.2 b hb).trans e) f0 f1 f3 f4 f5;obtain⟨o,e,c,d⟩:=id aY;exact⟨u,rfl,Ef (s:={ s with heap:=h' }) e c d ∅ ⟨x,H,I1,ru,⟨rfl,λys hy=>by rw[I.LO hy hq];exact hx⟩,aY,λb hb=>(hf b hb).1⟩⟩
 done:=by
  intro X hP hw hK hc i pins s σ H E I hf st hg;subst hP hw hK;obtain⟨xs,hq,hx⟩:=hg;obtain⟨aX,rv,p,hz⟩:=I.list hq;obtain⟨f0,f1,f2,f3,f4,f5⟩:=hf it (by simp);have hl:=rv.length;exact wpAny_pyNext_list_end (I.ok.hd hc) st p.isList (by simp;omega) λh' eb=>⟨rfl,I.turned (t':=s.toks) (λb o hb e=>eb b o hb e) f0 f1 f3 f4 f5⟩
 self:=λ_ _ _ _ _ st h=>wpAny_pyIter_listiter st h
theorem aM5(a it:Addr):Turn P w K tg (Fq K a) [it] it (λi h=>h.IsTupleIter it a i) where
 mem:=by simp
 obj:=λi h st b hb=>by
  have e:b=it:=by simpa using hb
  subst e;obtain⟨o,e,c,d⟩:=st;exact⟨o,e,λv z=>by rw[d] at z;cases z⟩
 keep:=λi h h' st k=>st.at λo e=>k it (by simp) o e
 item:=by
  intro X hP hw hK hc i pins s σ H E I hf st hg;subst hP hw hK;obtain⟨xs,x,hq,hx⟩:=hg;obtain⟨aX,rv,p,hz⟩:=I.tuple hq;obtain⟨u,hu,ru⟩:=rv.get hx;obtain⟨f0,f1,f2,f3,f4,f5⟩:=hf it (by simp);refine wpAny_pyNext_tuple_item st (show s.heap.IsTuple a aX.toArray from p) (x:=u) (by simpa using hu) λh' aY sb=>?_;have I1:Inv X pins σ H { s with heap:=h' }:=I.turned (t':=s.toks) (λb o hb e=>(sb.2 b hb).trans e) f0 f1 f3 f4 f5;obtain⟨o,e,c,d⟩:=id aY;exact⟨u,rfl,Ef (s:={ s with heap:=h' }) e c d ∅ ⟨x,H,I1,ru,⟨rfl,λys hy=>by rw[I.ZK hy hq];exact hx⟩,aY,λb hb=>(hf b hb).1⟩⟩
 done:=by
  intro X hP hw hK hc i pins s σ H E I hf st hg;subst hP hw hK;obtain⟨xs,hq,hx⟩:=hg;obtain⟨aX,rv,p,hz⟩:=I.tuple hq;obtain⟨f0,f1,f2,f3,f4,f5⟩:=hf it (by simp);have hl:=rv.length;exact wpAny_pyNext_tuple_end (I.ok.hd hc) st (show s.heap.IsTuple a aX.toArray from p) (by simp;omega) λh' eb=>⟨rfl,I.turned (t':=s.toks) (λb o hb e=>eb b o hb e) f0 f1 f3 f4 f5⟩
 self:=λ_ _ _ _ _ st h=>wpAny_pyIter_tupleiter st h
theorem aM7(it:Addr)(lo:Int)(n:Nat):Turn P w K tg (xB lo n) [it] it (λi h=>IsRangeIter h it (lo+(i:Nat)*1) ((n:Int)-(i:Nat)) 1) where
 mem:=by simp
 obj:=λi h st b hb=>by
  have e:b=it:=by simpa using hb
  subst e;exact ⟨_,st,λv z=>by
   have z':Data.fields _=Data.cell v:=z;cases z'⟩
 keep:=λi h h' st k=>k it (by simp) _ st
 item:=by
  intro X hP hw hK hc i pins s σ H E I hf st hg;subst hP hw hK;obtain⟨f0,f1,f2,f3,f4,f5⟩:=hf it (by simp);have W:=Walks.range (prog:=X.prog) (w:=X.w) (I.ok.hd hc) it lo 1 n;refine W.item i s _ _ hg st λv h' tk hv aY kk=>?_;obtain⟨t,rfl⟩:=hv;have I1:Inv X pins σ H { s with heap:=h',toks:=tk }:=I.turned (λb o hb e=>kk b o (by simpa using hb) e) f0 f1 f3 f4 f5;refine⟨_,rfl,Ef (s:={ s with heap:=h',toks:=tk }) (n:="range_iterator") aY rfl rfl ∅ ⟨.int (lo+i),H,I1,⟨t,?_⟩,⟨rfl,rfl⟩,aY,λb hb=>(hf b hb).1⟩⟩;rw[Int.mul_one]
 done:=by
  intro X hP hw hK hc i pins s σ H E I hf st hg;subst hP hw hK;obtain⟨f0,f1,f2,f3,f4,f5⟩:=hf it (by simp);exact wpAny_pyNext_range_end (I.ok.hd hc) st (by have:n<=i:=hg;omega) λh' eb=>⟨rfl,I.turned (t':=s.toks) (λb o hb e=>eb b o hb e) f0 f1 f3 f4 f5⟩
 self:=λ_ _ _ _ _ st h=>wpAny_pyIter_rangeiter st h
theorem LZ{R:It->Hp->Prop}{lo hi:Int}{t u v:Tok}{tk:Nat}(I:Inv X pins σ H s)(h1:-(2 ^ 62)<=lo)(h2:lo<2 ^ 62)(h3:-(2 ^ 62)<=hi)(h4:hi<2 ^ 62)(q:R (xB lo (hi-lo).toNat) H):wpAny (model X.prog X.w) X.A (pyIter (.ref s.heap.objs.size)) (Mq X pins σ tg R) E { s with heap:=s.heap.push { cls:=.type "range",data:=.fields #[.int lo t,.int hi u,.int 1 v] },toks:=tk }:=by
 refine wpAny_pyIter_range (IsRange.new ..) (small_one h1 h2 h3 h4) ?_;have I1:Inv X pins σ H { s with heap:=s.heap.push { cls:=.type "range",data:=.fields #[.int lo t,.int hi u,.int 1 v] },toks:=tk }:=I.kept λb o e=>aj _ e;refine ⟨(s.heap.push { cls:=.type "range",data:=.fields #[.int lo t,.int hi u,.int 1 v] }).objs.size,[(s.heap.push { cls:=.type "range",data:=.fields #[.int lo t,.int hi u,.int 1 v] }).objs.size],_,_,H,rfl,
  I1.kept (t':=tk) λb o e=>aj _ e,aM7 _ lo (hi - lo).toNat,?_,λb hb=>?_,q⟩
 ·have e1:lo+((0:Nat):Int)*1=lo:=by simp
  have e2:(((hi-lo).toNat:Nat):Int)-((0:Nat):Int)=Builtin.Range.rangeSize lo hi 1:=by rw[rangeSize_one];split<;>omega
  show IsRangeIter _ _ (lo+((0:Nat):Int)*1) ((((hi-lo).toNat:Nat):Int)-((0:Nat):Int)) 1;rw[e1,e2];exact aG _ rfl
 ·have e:b=(s.heap.push { cls:=.type "range",data:=.fields #[.int lo t,.int hi u,.int 1 v] }).objs.size:=by simpa using hb
  subst e;exact I1.sS (av _) (I1.cq.fresh (av _))
def WO(ta:TA):TI:=λσ H R=>ta σ H λvs H1=>∃j:Int,vs=[.int j]/\-(2 ^ 62)<=j/\j<2 ^ 62/\R (xB 0 j.toNat) H1
def WQ(ta:TA):TI:=λσ H R=>ta σ H λvs H1=>∃i j:Int,vs=[.int i,.int j]/\(-(2 ^ 62)<=i/\i<2 ^ 62/\-(2 ^ 62)<=j/\j<2 ^ 62)/\R (xB i (j-i).toNat) H1
theorem Zv{a:Expr}{ta:TA}(hg:Gl X "range")(hm:X.mg "range"=none)(ha:PA X [a] ta)(hs:starEach [a] X.env=[(false,eval a X.env)]:=by rfl):PI X tg (.Call (.Name "range" p) [a] [] pos) (WO ta):=by
 intro pins s σ H R I h;refine Call_ (P2 I hg hm boot_range (cL (cX (ha pos pins s σ H _ I h) λus s1 bD=>?_) hs rfl));obtain⟨vs,H1,I1,r1,q1⟩:=bD;obtain⟨j,e,q1,q2,q⟩:=q1;subst e;cases r1 with
 |cons r rr =>
  cases rr;obtain⟨t,rfl⟩:=r;exact call_range_1 (LZ I1 () () q1 q2 (by simpa using q))
theorem Zw{a b:Expr}{ta:TA}(hg:Gl X "range")(hm:X.mg "range"=none)(ha:PA X [a,b] ta)(hs:starEach [a,b] X.env=[(false,eval a X.env),(false,eval b X.env)]:=by rfl)(gI:starEach [b] X.env=[(false,eval b X.env)]:=by rfl) :
  PI X tg (.Call (.Name "range" p) [a,b] [] pos) (WQ ta):=by
 intro pins s σ H R I h;refine Call_ (P2 I hg hm boot_range (cL (cX (ha pos pins s σ H _ I h) λus s1 bD=>?_) (by rw[hs,gI]) (by rw[gI];rfl)));obtain⟨vs,H1,I1,r1,q1⟩:=bD;obtain⟨i,j,e,⟨q1,q2,q3,q4⟩,q⟩:=q1;subst e;cases r1 with
 |cons r rr =>
  cases rr with
  |cons r' rr =>
   cases rr;obtain⟨t,rfl⟩:=r;obtain⟨t',rfl⟩:=r';exact call_range_2 (LZ I1 q1 q2 q3 q4 q)
def Wg(wi:TI)(g:TG)(tb:TS):TS:=λD σ H=>wi σ H λJ H1=>∃W:Nat->Nat->St->Hp->Prop,(∃m,W 0 m σ H1)/\∀i m σ H,W i m σ H ->
 (J.stop i H/\D.nx σ H)\/(J.go i H/\∃N:St->Hp->Prop,(∀cM H',N cM H'->∃m',m'<m/\W (i+1) m' cM H')/\∀x H',J.qV i H x H'->g x σ H' λcT H2=>tb { D with nx:=N,ct:=N,bk:=D.nx } cT H2)
def X8(fp:List Addr)(h:Heap):List (Addr×Obj):=fp.filterMap λb=>(h.get? b).map λo=>(b,o)
theorem Q4{o:Obj}(hb:b∈fp)(e:h.get? b=some o):(b,o)∈X8 fp h:=kP.mpr ⟨b,hb,by rw[e];rfl⟩
theorem Zl{p:Addr×Obj}(hp:p∈X8 fp h):p.1∈fp/\h.get? p.1=some p.2:=by
 obtain⟨b,hb,e⟩:=kP.mp hp;cases q:h.get? b with
 |none=>rw[q] at e;cases e
 |some o =>
  rw[q] at e;have e':(b,o)=p:=aS e;subst e';exact⟨hb,q⟩
theorem Inv.pinned(I:Inv X pins σ H s)(hf:∀b∈fp,C7 X pins H b)(ho:∀b∈fp,∃o,s.heap.get? b=some o/\∀v,o.data≠.cell v):Inv X (pins++X8 fp s.heap) σ H s :=
 I.L0 λp hp=>(ba.mp hp).elim (λz=>I.pin p (aP _ z)) λz=>by
  obtain⟨hb,e⟩:=Zl z;obtain⟨f0,f1,f2,_⟩:=hf p.1 hb;obtain⟨o,e',d⟩:=ho p.1 hb;rw[e] at e';cases e';exact⟨e,f0,f1,f2,d⟩
theorem Inv.Dz{pl:List (Addr×Obj)}(I:Inv X (pins++pl) σ H s):Inv X pins σ H s:=I.L0 λp hp=>I.pin p (aP _ (bB _ hp))
theorem RI{iter:Expr}{body:List Stmt}{wi:TI}{g:TG}{tb:TS}(hp:PassesOwn (model X.prog X.w) X.A X.env X.xe)(hc:X.calm=true)(hi:PI X tg iter wi)(hg:PG X tg g)(hb:lh X body tb)(hs:∀x,foldedSetIterable iter X.env x=pure x:=by intro _;rfl):PS X (.For tg iter body [] pos) (Wg wi g tb):=by
 intro pins s σ H D I h;refine wpAny_For (cX (hi pins s σ H _ I h) λv s1 h1=>cX h1 λvH s2 h2=>?_) hs;obtain⟨it,fp,tn,J,H2,e,I2,T,gT,f2,W,⟨m0,w0⟩,turn⟩:=h2;subst e;have rf:∀{H':Hp},(∀b∈fp,H' b=none)->∀b∈fp,C7 X pins H' b:=λhn b hb=>⟨hn b hb,(f2 b hb).2⟩
 refine codeAny_forLoop_any (λn s'=>∃i cM H',Inv X pins cM H' s'/\tn i s'.heap/\(∀b∈fp,H' b=none)/\W i n cM H') ?_ m0 ⟨0,σ,H2,I2,gT,λb hb=>(f2 b hb).1,w0⟩;rintro n s3 ⟨i,lV,H3,I3,jC,qt,w3⟩;rcases turn i n lV H3 w3 with⟨stop,qn⟩|⟨go,N,hN,step⟩
 ·refine gW hp (cX (T.done X rfl rfl rfl hc i pins s3 lV H3 X.xe I3 (rf qt) jC stop) λr s4 ⟨hr,I4⟩=>?_);subst hr;exact wpAny_execs_nil ⟨lV,H3,I4,qn⟩
 ·refine gW hp (cX (T.item X rfl rfl rfl hc i pins s3 lV H3 X.xe I3 (rf qt) jC go) λr s4 ⟨u,hr,h4⟩=>?_);subst hr;refine gW hp (cX h4 λ_ s5 bD=>?_);obtain⟨x,H5,I5,r5,y5,mG,wA⟩:=bD;have xC:=I5.pinned (rf wA) (T.obj _ _ mG);refine gW hp (cX (hg _ s5 lV H5 x u _ xC r5 (step x H5 y5)) λ_ s6 bD=>?_);obtain⟨mz,H6,I6,q6⟩:=bD;refine gW hp (cX (hb _ s6 mz H6 _ I6 q6) λf s7 q7=>?_);have again:∀{nG:St} {H7:Hp},Inv X (pins++X8 fp s5.heap) nG H7 s7->N nG H7->∃m,m<n/\∃i cM H',Inv X pins cM H' s7/\tn i s7.heap/\(∀b∈fp,H' b=none)/\W i m cM H':=λ{nG H7} I7 n7=>by
   obtain⟨m',hm,w7⟩:=hN nG H7 n7;refine⟨m',hm,i+1,nG,H7,I7.Dz,T.keep _ _ _ mG λb hb o e=>(I7.pin (b,o) (aP _ (aP _ (Q4 hb e)))).1,λb hb=>?_,w7⟩;obtain⟨o,e,d⟩:=T.obj _ _ mG b hb;exact(I7.pin (b,o) (aP _ (aP _ (Q4 hb e)))).2.1
  cases f with
  |next=>obtain⟨nG,H7,I7,n7⟩:=q7;exact again I7 n7
  |cont=>obtain⟨nG,H7,I7,n7⟩:=q7;exact again I7 n7
  |brk=>obtain⟨nG,H7,I7,q7⟩:=q7;exact⟨nG,H7,I7.Dz,q7⟩
  |ret v=>obtain⟨x7,nG,H7,I7,r7,q7⟩:=q7;exact⟨x7,nG,H7,I7.Dz,r7,q7⟩
noncomputable abbrev R2:=V->V->Hp->VK->Prop
def gs(X:Cx)(f:Value->Value->Sem Value)(r:R2):Prop :=
 ∀(pins:List (Addr×Obj)) (s:Shared) (σ:St) (H:Hp) (x y:V) (v u:Value) (Q:VK),Inv X pins σ H s->RelV x v->RelV y u->r x y H Q ->
  wpAny (model X.prog X.w) X.A (f v u) (EP X pins σ Q) X.xe s
def Af(X:Cx)(f:Value->Sem Value)(r:V->Hp->VK->Prop):Prop :=
 ∀(pins:List (Addr×Obj)) (s:Shared) (σ:St) (H:Hp) (x:V) (v:Value) (Q:VK),Inv X pins σ H s->RelV x v->r x H Q ->
  wpAny (model X.prog X.w) X.A (f v) (EP X pins σ Q) X.xe s
def l9(X:Cx)(f:Value)(r:List V->Hp->VK->Prop):Prop :=
 ∀(pins:List (Addr×Obj)) (s:Shared) (σ:St) (H:Hp) (xs:List V) (us:List Value) (Q:VK),Inv X pins σ H s->Vals xs us->r xs H Q ->
  wpAny (model X.prog X.w) X.A (call f us) (EP X pins σ Q) X.xe s
def Va(X:Cx)(r:V->Hp->(Bool->Hp->Prop)->Prop):Prop :=
 ∀(pins:List (Addr×Obj)) (s:Shared) (σ:St) (H:Hp) (x:V) (v:Value) (Q:Bool->Hp->Prop),Inv X pins σ H s->RelV x v->r x H Q ->
  wpAny (model X.prog X.w) X.A (truthy v) (TP X pins σ Q) X.xe s
def tH(r:R2)(ta tb:TE):TE:=λσ H Q=>ta σ H λx H1=>tb σ H1 λy H2=>r x y H2 Q
def MY(r:V->Hp->VK->Prop)(ta:TE):TE:=λσ H Q=>ta σ H λx H1=>r x H1 Q
def rI(C:Int->Int->Prop)(g:Int->Int->V):R2:=λx y H Q=>∃i j,x=.int i/\y=.int j/\C i j/\Q (g i j) H
def oB(g:Int->Int->V):R2:=λx y H Q=>∃i j,x=.int i/\y=.int j/\Q (g i j) H
def rU(g:Int->V):V->Hp->VK->Prop:=λx H Q=>∃i,x=.int i/\Q (g i) H
section
variable{a b:Expr}
theorem Fd(ha:PE X a ta)(hb:PE X b tb){R:V->V->Hp->Prop}(I:Inv X pins σ H s)(h:ta σ H λx H1=>tb σ H1 λy H2=>R x y H2){f:Value->Value->Sem Value}(hf:∀v u s2 x y H2,Inv X pins σ H2 s2->RelV x v->RelV y u->R x y H2->wpAny (model X.prog X.w) X.A (f v u) Q X.xe s2) :
  wpAny (model X.prog X.w) X.A (eval a X.env) (λv bY=>wpAny (model X.prog X.w) X.A (eval b X.env) (λu iw=>wpAny (model X.prog X.w) X.A (f v u) Q X.xe iw) X.xe bY) X.xe s:=by
 refine cX (ha pins s σ H _ I h) λv s1 bD=>?_;obtain⟨x,H1,I1,r1,q1⟩:=bD;refine cX (hb pins s1 σ H1 _ I1 q1) λu s2 bD=>?_;obtain⟨y,H2,I2,r2,q2⟩:=bD;exact hf v u s2 x y H2 I2 r1 r2 q2
theorem Xu{op:Operator}(ho:gs X (binaryOp op) r)(ha:PE X a ta)(hb:PE X b tb):PE X (.BinOp a op b pos) (tH r ta tb):=by
 intro pins s σ H Q I h;exact wpAny_BinOp (Fd ha hb I h λv u s2 x y H2 I2 rx ry q=>ho pins s2 σ H2 x y v u Q I2 rx ry q)
theorem Xw{op:UnaryOp}{r:V->Hp->VK->Prop}(ho:Af X (unaryOp op) r)(ha:PE X a ta):PE X (.UnaryOp op a pos) (MY r ta):=by
 intro pins s σ H Q I h;exact UnaryOp_ (cX (ha pins s σ H _ I h) λv s1 ⟨x,H1,I1,r1,q1⟩=>ho pins s1 σ H1 x v Q I1 r1 q1)
theorem vg{f:Value->Value->Sem Value}{C:Int->Int->Prop}{g:Int->Int->Int}(rule:∀(i j:Int) (t u:Tok) (s:Shared) (Q:Value->Shared->Prop) (E:Value->Shared->Prop),C i j->Q (.int (g i j) s.toks) { s with toks:=s.toks+1 }->wpAny (model X.prog X.w) X.A (f (.int i t) (.int j u)) Q E s) :
  gs X f (rI C λi j=>.int (g i j)):=by
 intro pins s σ H x y v u Q I rx ry h;obtain⟨i,j,rfl,rfl,hc,q⟩:=h;obtain⟨t,rfl⟩:=rx;obtain⟨t',rfl⟩:=ry;exact rule i j t t' s _ _ hc ⟨.int (g i j),H,I.tok _,⟨_,rfl⟩,q⟩
theorem Ac{f:Value->Value->Sem Value}{g:Int->Int->Int}(rule:∀(i j:Int) (t u:Tok) (s:Shared) (Q:Value->Shared->Prop) (E:Value->Shared->Prop),Q (.int (g i j) s.toks) { s with toks:=s.toks+1 }->wpAny (model X.prog X.w) X.A (f (.int i t) (.int j u)) Q E s) :
  gs X f (oB λi j=>.int (g i j)):=by
 intro pins s σ H x y v u Q I rx ry h;obtain⟨i,j,rfl,rfl,q⟩:=h;obtain⟨t,rfl⟩:=rx;obtain⟨t',rfl⟩:=ry;exact rule i j t t' s _ _ ⟨.int (g i j),H,I.tok _,⟨_,rfl⟩,q⟩
theorem Ab{f:Value->Value->Sem Value}{g:Int->Int->Bool}(rule:∀(i j:Int) (t u:Tok) (s:Shared) (Q:Value->Shared->Prop) (E:Value->Shared->Prop),Q (.bool (g i j)) s->wpAny (model X.prog X.w) X.A (f (.int i t) (.int j u)) Q E s) :
  gs X f (oB λi j=>.bl (g i j)):=by
 intro pins s σ H x y v u Q I rx ry h;obtain⟨i,j,rfl,rfl,q⟩:=h;obtain⟨t,rfl⟩:=rx;obtain⟨t',rfl⟩:=ry;exact rule i j t t' s _ _ ⟨.bl (g i j),H,I,rfl,q⟩
def CI(i j:Int):Prop:=0<j/\j<1073741824
def X3(i j:Int):Prop:=0<=j/\j<=1000000/\i.natAbs<2 ^ 64
def sQ(i j:Int):Prop:=(-(2 ^ 64)<i/\i<2 ^ 64)\/(-(2 ^ 64)<j/\j<2 ^ 64)
theorem sQ.ok{i j:Int}(h:sQ i j):IntMulOk i j:=by
 rcases h with⟨h1,h2⟩|⟨h1,h2⟩
 ·exact .of_left (intBits_le_64 h1 h2)
 ·exact .of_right (intBits_le_64 h1 h2)
theorem QY:gs X (binaryOp .Add) (oB λi j=>.int (i+j)):=Ac λ_ _ _ _ _ _ _ q=>add_int q
theorem Rk:gs X (binaryOp .Sub) (oB λi j=>.int (i-j)):=Ac λ_ _ _ _ _ _ _ q=>sub_int q
theorem Rg:gs X (binaryOp .Mult) (rI sQ λi j=>.int (i*j)):=vg λ_ _ _ _ _ _ _ hc q=>mul_int q hc.ok
theorem TN:gs X (binaryOp .FloorDiv) (rI CI λi j=>.int (i / j)):=vg λi j _ _ _ _ _ hc q=>by
 have h1:(0:Int)<j:=hc.1;have h2:j<1073741824:=hc.2;exact floordiv_int () (by rw[Int.fdiv_eq_ediv_of_nonneg i ()];exact q) (.inl (PyProof.noPylong_small ()))
theorem Rf:gs X (binaryOp .Mod) (rI (λ_ j=>0<j) λi j=>.int (i % j)):=vg λi j _ _ _ _ _ hc q=>by
 have h1:(0:Int)<j:=hc;exact mod_int' () (by rw[Int.fmod_eq_emod_of_nonneg i ()];exact q)
theorem Rh:gs X (binaryOp .Pow) (rI X3 λi j=>.int (i ^ j.toNat)):=vg λ_ _ _ _ _ _ _ hc q=>pow_int_small hc.1 hc.2.1 hc.2.2 q
theorem Rj:gs X (binaryOp .LShift) (rI X3 λi j=>.int (i*2 ^ j.toNat)):=vg λ_ _ _ _ _ _ _ hc q=>lshift_int_small hc.1 hc.2.1 hc.2.2 q
theorem QZ:gs X (binaryOp .BitAnd) (oB λi j=>.int (Builtin.bitAnd i j)):=Ac λ_ _ _ _ _ _ _ q=>and_int q
theorem Xo:gs X (binaryOp .BitOr) (oB λi j=>.int (Builtin.bitOr i j)):=Ac λ_ _ _ _ _ _ _ q=>or_int q
theorem MX{f:Value->Sem Value}{g:Int->Int}(rule:∀(i:Int) (t:Tok) (s:Shared) (Q:Value->Shared->Prop) (E:Value->Shared->Prop),Q (.int (g i) s.toks) { s with toks:=s.toks+1 }->wpAny (model X.prog X.w) X.A (f (.int i t)) Q E s) :
  Af X f (rU λi=>.int (g i)):=by
 intro pins s σ H x v Q I rx h;obtain⟨i,rfl,q⟩:=h;obtain⟨t,rfl⟩:=rx;exact rule i t s _ _ ⟨.int (g i),H,I.tok _,⟨_,rfl⟩,q⟩
theorem SO:Af X (unaryOp .USub) (rU λi=>.int (-i)):=MX λ_ _ _ _ _ q=>neg_int q
end
def Ik:V->V->Bool
 |.cE,.cE=>true|.cE,.int _=>true|.int _,.cE=>true|.cE,.bl _=>true|.bl _,.cE=>true|.cE,.str _=>true|.str _,.cE=>true
 |.int _,.int _=>true|.bl _,.bl _=>true|.str _,.str _=>true|.mj _,.mj _=>true
 |.int _,.str _=>true|.str _,.int _=>true|.bl _,.str _=>true|.str _,.bl _=>true
 |_,_=>false
def Nm:R2:=λx y H Q=>Ik x y=true/\Q (.bl (decide (x=y))) H
def Nl:R2:=λx y H Q=>Ik x y=true/\Q (.bl (!decide (x=y))) H
theorem zx{i j:Int}:decide (V.int i=V.int j)=(i==j):=by
 rw[aW];simp
theorem zg{i j:Bool}:decide (V.bl i=V.bl j)=(i==j):=by
 rw[aW];simp
theorem zy{i j:Str}:decide (V.str i=V.str j)=(i==j):=by
 rw[aW];simp
theorem KW{i j:Array UInt8}:decide (V.mj i=V.mj j)=(i.toList==j.toList):=by
 rw[aW];cases i;cases j;simp
section
variable{a b:Expr}{tc:TE}
theorem l6{Q:VK}{k k':Bool}(I:Inv X pins σ H s)(q:Q (.bl k) H)(e:k=k'):EP X pins σ Q (.bool k') s:=by
 subst e;exact⟨.bl k,H,I,rfl,q⟩
theorem Ek:gs X (compareOp .Eq) Nm:=by
 intro pins s σ H x y v u Q I rx ry h;obtain⟨hs,q⟩:=h;cases x with
 |cE =>
  cases rx;cases y with
  |cE=>cases ry;exact PySem.EqNone.eq_none_none (l6 I q (by simp))
  |bl j=>cases ry;exact PySem.EqNone.eq_none_bool (l6 I q (by simp))
  |int j=>obtain⟨t',rfl⟩:=ry;exact PySem.EqNone.eq_none_int (l6 I q (by simp))
  |str j=>obtain⟨t',rfl⟩:=ry;exact PySem.EqNone.eq_none_str (l6 I q (by simp))
  |_=>exact absurd (show false=true from hs) Bool.false_ne_true
 |bl i =>
  cases rx;cases y with
  |cE=>cases ry;exact PySem.EqNone.eq_bool_none (l6 I q (by simp))
  |bl j=>cases ry;exact eq_bool (l6 I q zg)
  |str j=>obtain⟨t',rfl⟩:=ry;exact PySem.EqMixed.eq_bool_str (l6 I q (by simp))
  |_=>exact absurd (show false=true from hs) Bool.false_ne_true
 |int i =>
  obtain⟨t,rfl⟩:=rx;cases y with
  |cE=>cases ry;exact PySem.EqNone.eq_int_none (l6 I q (by simp))
  |int j=>obtain⟨t',rfl⟩:=ry;exact eq_int (l6 I q zx)
  |str j=>obtain⟨t',rfl⟩:=ry;exact PySem.EqMixed.eq_int_str (l6 I q (by simp))
  |_=>exact absurd (show false=true from hs) Bool.false_ne_true
 |str i =>
  obtain⟨t,rfl⟩:=rx;cases y with
  |cE=>cases ry;exact PySem.EqNone.eq_str_none (l6 I q (by simp))
  |bl j=>cases ry;exact PySem.EqMixed.eq_str_bool (l6 I q (by simp))
  |int j=>obtain⟨t',rfl⟩:=ry;exact PySem.EqMixed.eq_str_int (l6 I q (by simp))
  |str j=>obtain⟨t',rfl⟩:=ry;exact eq_str (l6 I q zy)
  |_=>exact absurd (show false=true from hs) Bool.false_ne_true
 |mj i =>
  obtain⟨t,rfl⟩:=rx;cases y with
  |mj j=>obtain⟨t',rfl⟩:=ry;exact PySem.W.eq_bytes (l6 I q KW)
  |_=>exact absurd (show false=true from hs) Bool.false_ne_true
 |_=>cases y<;>exact absurd (show false=true from hs) fy
theorem El:gs X (compareOp .NotEq) Nl:=by
 intro pins s σ H x y v u Q I rx ry h;obtain⟨hs,q⟩:=h;cases x with
 |cE =>
  cases rx;cases y with
  |cE=>cases ry;exact PySem.EqNone.ne_none_none (l6 I q (by simp))
  |bl j=>cases ry;exact PySem.EqNone.ne_none_bool (l6 I q (by simp))
  |int j=>obtain⟨t',rfl⟩:=ry;exact PySem.EqNone.ne_none_int (l6 I q (by simp))
  |str j=>obtain⟨t',rfl⟩:=ry;exact PySem.EqNone.ne_none_str (l6 I q (by simp))
  |_=>exact absurd (show false=true from hs) Bool.false_ne_true
 |bl i =>
  cases rx;cases y with
  |cE=>cases ry;exact PySem.EqNone.ne_bool_none (l6 I q (by simp))
  |bl j=>cases ry;exact ne_bool (l6 I q (congrArg not zg))
  |str j=>obtain⟨t',rfl⟩:=ry;exact PySem.EqMixed.ne_bool_str (l6 I q (by simp))
  |_=>exact absurd (show false=true from hs) Bool.false_ne_true
 |int i =>
  obtain⟨t,rfl⟩:=rx;cases y with
  |cE=>cases ry;exact PySem.EqNone.ne_int_none (l6 I q (by simp))
  |int j=>obtain⟨t',rfl⟩:=ry;exact ne_int (l6 I q (congrArg not zx))
  |str j=>obtain⟨t',rfl⟩:=ry;exact PySem.EqMixed.ne_int_str (l6 I q (by simp))
  |_=>exact absurd (show false=true from hs) Bool.false_ne_true
 |str i =>
  obtain⟨t,rfl⟩:=rx;cases y with
  |cE=>cases ry;exact PySem.EqNone.ne_str_none (l6 I q (by simp))
  |bl j=>cases ry;exact PySem.EqMixed.ne_str_bool (l6 I q (by simp))
  |int j=>obtain⟨t',rfl⟩:=ry;exact PySem.EqMixed.ne_str_int (l6 I q (by simp))
  |str j=>obtain⟨t',rfl⟩:=ry;exact ne_str (l6 I q (congrArg not zy))
  |_=>exact absurd (show false=true from hs) Bool.false_ne_true
 |mj i =>
  obtain⟨t,rfl⟩:=rx;cases y with
  |mj j=>obtain⟨t',rfl⟩:=ry;exact PySem.W.ne_bytes (l6 I q (congrArg not KW))
  |_=>exact absurd (show false=true from hs) Bool.false_ne_true
 |_=>cases y<;>exact absurd (show false=true from hs) fy
theorem Xm:gs X (compareOp .Lt) (oB λi j=>.bl (decide (i<j))):=Ab λ_ _ _ _ _ _ _ q=>lt_int q
theorem Xl:gs X (compareOp .LtE) (oB λi j=>.bl (decide (i<=j))):=Ab λ_ _ _ _ _ _ _ q=>le_int q
theorem Xk:gs X (compareOp .Gt) (oB λi j=>.bl (decide (j<i))):=Ab λ_ _ _ _ _ _ _ q=>gt_int q
theorem Xj:gs X (compareOp .GtE) (oB λi j=>.bl (decide (j<=i))):=Ab λ_ _ _ _ _ _ _ q=>ge_int q
theorem Rc:gs X (compareOp .Is) (λx y H Q=>y=.cE/\Q (.bl (decide (x=.cE))) H):=by
 intro pins s σ H x y v u Q I rx ry h;obtain⟨rfl,q⟩:=h;cases ry;refine is_none_gen (l6 I q ?_);cases x<;>first
  |(cases rx;rfl)
  |(obtain⟨t,rfl⟩:=rx;rfl)
theorem TQ:gs X (compareOp .IsNot) (λx y H Q=>y=.cE/\Q (.bl (!decide (x=.cE))) H):=by
 intro pins s σ H x y v u Q I rx ry h;obtain⟨rfl,q⟩:=h;cases ry;refine isnot_none_gen (l6 I q ?_);cases x<;>first
  |(cases rx;rfl)
  |(obtain⟨t,rfl⟩:=rx;rfl)
theorem Lg(ho:gs X (compareOp op) r)(ha:PE X a ta)(hb:PE X b tb)(hm:behindInMarks op b=false):PE X (.Compare a [op] [b] pos) (tH r ta tb):=by
 intro pins s σ H Q I h;exact wpAny_Compare1 (Fd ha hb I h λv u s2 x y H2 I2 rx ry q=>ho pins s2 σ H2 x y v u Q I2 rx ry q) hm
def Ew(t:TE):TT:=λσ H Q=>t σ H λx H'=>∃k,x=.bl k/\Q k H'
theorem Ll(ho:gs X (compareOp op) r)(ha:PE X a ta)(hb:PE X b tb)(hm:behindInMarks op b=false):PT X (.Compare a [op] [b] pos) (Ew (tH r ta tb)):=by
 intro pins s σ H Q I h;refine wpAny_isTrue_Compare1 (cX (ha pins s σ H _ I h) λv s1 ⟨x,H1,I1,r1,q1⟩=>cX (hb pins s1 σ H1 _ I1 q1) λu s2 ⟨y,H2,I2,r2,q2⟩ =>
  cX (ho pins s2 σ H2 x y v u _ I2 r1 r2 q2) λc s3 ⟨z,H3,I3,r3,k,e,q3⟩=>?_) hm
 subst e;cases r3;exact cP ⟨H3,I3,q3⟩
def EV(r r':R2)(ta tb tc:TE):TE:=λσ H Q=>ta σ H λx H1=>tb σ H1 λy H2=>r x y H2 λz H3=>∃k,z=.bl k /\
 (if k=true then tc σ H3 λw' H4=>r' y w' H4 Q else Q (.bl false) H3)
theorem a60{iY:CmpOp}{r':R2}(ho:gs X (compareOp op) r)(nX:gs X (compareOp iY) r')(ha:PE X a ta)(hb:PE X b tb)(hc:PE X c tc)(hm:lastMarks [op,iY] [b,c]=false:=by with_unfolding_all rfl):PE X (.Compare a [op,iY] [b,c] pos) (EV r r' ta tb tc):=by
 intro pins s σ H Q I h;refine Compare_chain (cX (ha pins s σ H _ I h) λv s1 ⟨x,H1,I1,r1,q1⟩=>chain_link (cX (hb pins s1 σ H1 _ I1 q1) λu s2 ⟨y,H2,I2,r2,q2⟩ =>
  cX (ho pins s2 σ H2 x y v u _ I2 r1 r2 q2) λd s3 ⟨z,H3,I3,r3,k,e,q3⟩=>?_)) hm
 subst e;cases r3;refine cP ?_;cases k with
 |false=>exact ite_ff ⟨.bl false,H3,I3,rfl,q3⟩
 |true=>exact ite_tt (chain_last (cX (hc pins s3 σ H3 _ I3 q3) λw' s4 ⟨z',H4,I4,r4,q4⟩=>nX pins s4 σ H4 y z' u w' Q I4 r2 r4 q4))
theorem a50{iY:CmpOp}{r':R2}(ho:gs X (compareOp op) r)(nX:gs X (compareOp iY) r')(ha:PE X a ta)(hb:PE X b tb)(hc:PE X c tc)(hm:lastMarks [op,iY] [b,c]=false:=by with_unfolding_all rfl):PT X (.Compare a [op,iY] [b,c] pos) (Ew (EV r r' ta tb tc)):=by
 intro pins s σ H Q I h;refine isTrue_chain (cX (ha pins s σ H _ I h) λv s1 ⟨x,H1,I1,r1,q1⟩=>test_link (cX (hb pins s1 σ H1 _ I1 q1) λu s2 ⟨y,H2,I2,r2,q2⟩ =>
  cX (ho pins s2 σ H2 x y v u _ I2 r1 r2 q2) λd s3 ⟨z,H3,I3,r3,k,e,q3⟩=>?_)) hm
 subst e;cases r3;refine cP ?_;cases k with
 |false =>
  obtain⟨k',e',q'⟩:=q3;cases e';exact ite_ff ⟨H3,I3,q'⟩
 |true =>
  refine ite_tt (test_last (cX (hc pins s3 σ H3 _ I3 q3) λw' s4 ⟨z',H4,I4,r4,q4⟩=>cX (nX pins s4 σ H4 y z' u w' _ I4 r2 r4 q4) λd' s5 bD=>?_));obtain⟨z2,H5,I5,r5,k2,e2,q5⟩:=bD;subst e2;cases r5;exact cP ⟨H5,I5,q5⟩
def EZ(K:PySem.W.Frag)(x:V)(H:Hp)(k:Bool):Prop :=
 match x with
 |.cE=>k=false
 |.bl b=>k=b
 |.int i=>k=(i != 0)
 |.str y=>y.length<=sizeLine/\k=((y.length:Int) != 0)
 |.mj y=>y.size<=sizeLine/\k=((y.size:Int) != 0)
 |.ref p=>(∃xs,gi K H p xs/\k=!xs.isEmpty)\/(∃xs,iU K H p xs/\k=!xs.isEmpty)\/∃kvs,H p=some (.dK kvs)/\k=!kvs.isEmpty
 |_=>False
theorem aQ8{κ:Type}{kvs:List (κ×V)}{vs:List (κ×Value)}(r:KV kvs vs):(!vs.isEmpty)=!kvs.isEmpty:=by
 cases r<;>rfl
theorem JS{aX:List Value}(r:Vals xs aX):(!aX.toArray.isEmpty)=!xs.isEmpty:=by
 cases r<;>simp
theorem S7:(sizeLine:Nat)<2 ^ 63:=by rw[lB];decide
theorem SM:Va X (λx H Q=>∃k,EZ X.K x H k/\Q k H):=by
 intro pins s σ H x v Q I rx h;obtain⟨k,e,q⟩:=h;have hl:=S7;have hs:sizeLine=16777216:=lB;cases x with
 |cE =>
  cases rx;have e':k=false:=e;subst e';exact truthy_none ⟨H,I,q⟩
 |bl b =>
  cases rx;have e':k=b:=e;subst e';exact cP ⟨H,I,q⟩
 |int i =>
  obtain⟨t,rfl⟩:=rx;have e':k=(i != 0):=e;subst e';exact PySem.P.truthy_int ⟨H,I,q⟩
 |str y =>
  obtain⟨t,rfl⟩:=rx;obtain⟨hy,e'⟩:y.length<=sizeLine/\k=((y.length:Int) != 0):=e;subst e';exact PySem.P.truthy_str () ⟨H,I.tok _,q⟩
 |mj y =>
  obtain⟨t,rfl⟩:=rx;obtain⟨hy,e'⟩:y.size<=sizeLine/\k=((y.size:Int) != 0):=e;subst e';exact PySem.W.truthy_bytes () ⟨H,I.tok _,q⟩
 |ref p =>
  cases rx;have e':(∃xs,gi X.K H p xs/\k=!xs.isEmpty)\/(∃xs,iU X.K H p xs/\k=!xs.isEmpty)\/∃kvs,H p=some (.dK kvs)/\k=!kvs.isEmpty:=e;rcases e' with⟨xs,hx,e'⟩|⟨xs,hx,e'⟩|⟨kvs,hx,e'⟩
  ·subst e';obtain⟨aX,r,pl,hz⟩:=I.list hx;have hlen:=r.length;exact wpAny_truthy_list pl.isList (by simp only[List.size_toArray];omega) ⟨H,I.tok _,by rw[JS r];exact q⟩
  ·subst e';obtain⟨aX,r,pl,hz⟩:=I.tuple hx;have hlen:=r.length;exact truthy_tuple pl (by simp only[List.size_toArray];omega) ⟨H,I.tok _,by rw[JS r];exact q⟩
  ·subst e';obtain⟨hz,hS,vs,r,m⟩:kvs.length<=sizeLine/\(p==sysModules)=false/\∃vs,KV kvs vs/\s.heap.DictOf (o6 X.prog X.w) p vs:=I.cq p _ hx;have hlen:kvs.length=vs.length:=mX r;exact wpAny_truthy_dict hS m () ⟨H,I.tok _,by rw[aQ8 r];exact q⟩
 |_=>exact(show False from e).elim
theorem a49(ha:PE X a ta)(he:∀whole,isTrue a X.env whole=(do let v <- whole;standAt a.pos;holding [v] (truthy v))) :
  PT X a (λσ H Q=>ta σ H λx H'=>∃k,EZ X.K x H' k/\Q k H'):=by
 intro pins s σ H Q I h;exact isTrue_plain (cX (ha pins s σ H _ I h) λv s1 ⟨x,H1,I1,r1,q1⟩=>SM pins s1 σ H1 x v Q I1 r1 q1) (he _)
theorem aO9:gs X (binaryOp .Add) (λx y H Q=>∃i j,x=.str i/\y=.str j/\i.length+j.length<=sizeLine/\Q (.str (i++j)) H):=by
 intro pins s σ H x y v u Q I rx ry h;obtain⟨i,j,rfl,rfl,hz,q⟩:=h;obtain⟨t,rfl⟩:=rx;obtain⟨t',rfl⟩:=ry;exact add_str (λt' tk=>⟨.str (i++j),H,I.tok _,⟨_,rfl⟩,q⟩) hz
theorem vals1{x:V}(r:Vals [x] us):∃u,us=[u]/\RelV x u:=by
 cases r with
 |cons r1 r2=>cases r2;exact⟨_,rfl,r1⟩
theorem vals2{x y:V}(r:Vals [x,y] us):∃u w',us=[u,w']/\RelV x u/\RelV y w':=by
 cases r with
 |cons r1 r2 =>
  cases r2 with
  |cons r3 r4=>cases r4;exact⟨_,_,rfl,r1,r3⟩
theorem a07(hc:X.calm=true):l9 X (.builtin "max") (λxs H Q=>∃i j,xs=[.int i,.int j]/\Q (.int (if j>i then j else i)) H):=by
 intro pins s σ H xs us Q I r h;obtain⟨i,j,rfl,q⟩:=h;obtain⟨u,w',rfl,⟨t,rfl⟩,⟨t',rfl⟩⟩:=vals2 r;refine max_two_ints (I.ok.hd hc) λh' tk k=>⟨_,H,I.kept k,?_,q⟩
 by_cases hj:j>i
 ·rw[aK hj,aK hj];exact⟨_,rfl⟩
 ·rw[aB hj,aB hj];exact⟨_,rfl⟩
theorem a05(hc:X.calm=true):l9 X (.builtin "min") (λxs H Q=>∃i j,xs=[.int i,.int j]/\Q (.int (if j<i then j else i)) H):=by
 intro pins s σ H xs us Q I r h;obtain⟨i,j,rfl,q⟩:=h;obtain⟨u,w',rfl,⟨t,rfl⟩,⟨t',rfl⟩⟩:=vals2 r;refine min_two_ints (I.ok.hd hc) λh' tk k=>⟨_,H,I.kept k,?_,q⟩
 by_cases hj:j<i
 ·rw[aK hj,aK hj];exact⟨_,rfl⟩
 ·rw[aB hj,aB hj];exact⟨_,rfl⟩
theorem Jq:l9 X (.type "int") (λxs H Q=>(∃i,xs=[.int i]/\Q (.int i) H)\/∃k,xs=[.bl k]/\Q (.int (if k then 1 else 0)) H):=by
 intro pins s σ H xs us Q I r h;rcases h with⟨i,rfl,q⟩|⟨k,rfl,q⟩
 ·obtain⟨u,rfl,t,rfl⟩:=vals1 r;exact call_int_int ⟨.int i,H,I,⟨_,rfl⟩,q⟩
 ·obtain⟨u,rfl,r1⟩:=vals1 r;cases r1;exact call_int_bool ⟨.int (if k then 1 else 0),H,I.tok _,⟨_,rfl⟩,q⟩
end
structure uo(h:Heap)(x dx C:Addr)(mA:Str->Option Value):Prop where
 obj:h.get? x=some (PySem.W.instObj C dx)
 ns:h.Ns1 dx mA
 ne:dx≠x
theorem Jw{mA:Str->Option Value}(n:h.Ns1 dx mA):∃od,h.get? dx=some od/\∀name,PySem.W.lookIn name od=some (mA name):=by
 obtain⟨o,es,ep,ho,hd,hk,_,hm⟩:=n;refine⟨o,ho,λname=>?_⟩;have e:=hm name;unfold nsFind findBy at e;rw[<- Array.find?_toList] at e;unfold PySem.W.lookIn;rw[hd];dsimp only;split
 ·rename_i y q;rw[q] at e;exact fY some e
 ·rename_i q;rw[q] at e;have a:es.toList.any (·.refKey)=false:=by
   rw[List.any_eq_false];intro y hy;obtain⟨z,t,gC⟩:=hk y (Array.mem_toList_iff.mp hy);simp[DictEntry.refKey,gC]
  have a':¬es.toList.any (·.refKey)=true:=by rw[a];exact fy
  rw[aB a'];exact fY some e
theorem uo.look{x:Addr}{mA:Str->Option Value}(I:uo h x dx C mA):∃od,PySem.W.InstAt h x (PySem.W.instObj C dx) C (some od)/\∀name,PySem.W.lookIn name od=some (mA name) :=
 let ⟨od,ho,hl⟩:=Jw I.ns
 ⟨od,⟨I.obj,rfl,rfl,ho⟩,hl⟩
section
variable{prog:Program}{x:Addr}{mA:Str->Option Value}{name:Str}{v:Value}
theorem get_map{expr:Bool}(X:K.In s.heap)(I:uo s.heap x dx C mA)(hg:PySem.W.plainGet K C name=true)(hh:PySem.W.hasDictIn K C=true)(ha:PySem.W.findIn K (.ref C) name=some none)(hv:mA name=some v)(Be:PySem.W.handedIn v=true)(h:Q v { s with toks:=s.toks+1 }) :
  wpAny (model prog w) A (getAttr (.ref x) name expr) Q E s:=by
 obtain⟨od,J,hl⟩:=I.look;exact PySem.W.get_value X J (PySem.W.plainGet_of hg).1 (PySem.W.findObj_own hh ha rfl (by rw[hl,hv])) Be h
theorem UB{ns:List Str}{Q:Unit->Shared->Prop}(X:K.In s.heap)(I:uo s.heap x dx C mA)(hs:PySem.W.findIn K (.ref C) "__setattr__"=some (some (.builtin "object.__setattr__")))(hp:PySem.W.plainOver K C=true)(ht:PySem.W.takerIn K C name=some none)(hh:PySem.W.hasDictIn K C=true)(hw:PySem.Within mA ns)(hsz:ns.length<=sizeLine)(h:∀h',uo h' x dx C (λy=>if y=name then some v else mA y)->Heap.SameBut dx s.heap h'->Q Unit.unit { s with heap:=h',toks:=s.toks+2 }) :
  wpAny (model prog w) A (setAttr (.ref x) name v) Q E s:=by
 obtain⟨od,J,hl⟩:=I.look;refine PySem.W.set_plain X J hs (PySem.W.osa_open (s:={ s with toks:=s.toks+1 }) (r:=none) X J hp ht λb=>?_);obtain⟨cd,hc,Bx⟩:=PySem.W.any_some hh;have hx:s.heap.get? x=some ⟨.ref C,some dx,.plain,#[]⟩:=I.obj;refine aa (ai (aa (aa (wpAny_loadPart hx (aa (PySem.W.Looks.here (s:={ s with toks:=s.toks+1 }) (PySem.W.looks_clsIn X hc) ?_))))));rw[Bx];refine ai (a:=some dx) (aa (ai (aa ?_)));refine wpAny_nsSet1 (s:={ s with toks:=s.toks+1 }) I.ns λh' nj gI=>?_;obtain⟨oD,esD,epD,NW,Oq,Ou⟩:=nj.count (PySem.Within.cons name v hw);refine aa (wpAny_lookBehind NW (by rw[Oq];exact pastItsLine_dict (aF Ou (by rw[eY];omega))) ?_);exact ai (h _ ⟨(gI.2 _ (cu I.ne)).trans I.obj,nj,I.ne⟩ gI)
theorem a69{R:Result->Shared->Prop}{vs:List Value}{kw:List (Str×Value)}(X:K.In s.heap)(hm:PySem.W.makesIn K C=true)(hi:PySem.W.findIn K (.ref C) "__init__"=some (some (.ref f)))(hf:PySem.W.typeIn K (.ref f)=some (.type "function"))(h:codeAny (model prog w) (A.under (.builtin "type.__call__" ⟨.ref C :: vs,kw⟩)) (.call (.ref f) ⟨.ref (s.heap.objs.size + 1) :: vs,kw⟩) (PySem.W.InitBack (s.heap.objs.size + 1) R)
   { s with heap:=(s.heap.push PySem.W.emptyDict).push (PySem.W.instObj C s.heap.objs.size) }) :
  codeAny (model prog w) A (.call (.ref C) ⟨vs,kw⟩) R s:=by
 obtain⟨hh,g,d,t,os⟩:=s;exact PySem.W.make_core (PySem.W.makes_of X hm) (PySem.W.looks_findIn X hi) (λself=>PySem.W.bind_fn X self hf) (.inl rfl) h
end
def A9(f:Str)(v:V):List (Str×V)->List (Str×V)
 |[]=>[(f,v)]
 |(g,x)::r=>if g=f then(g,v)::r else(g,x)::A9 f v r
theorem Kd(f g:Str)(v:V):∀fs:List (Str×V),(A9 f v fs).lookup g=if g=f then some v else fs.lookup g
 |[]=>by
  show List.lookup g [(f,v)]=_;by_cases h:g=f
  ·have hb:(g==f)=true:=bz.mpr h;simp only[List.lookup,hb,if_pos h]
  ·have hb:(g==f)=false:=cO.mpr h;simp only[List.lookup,hb,if_neg h]
 |(k,x)::r=>by
  have ih:=Kd f g v r;rw[show A9 f v ((k,x)::r)=(if k=f then(k,v)::r else(k,x)::A9 f v r) from rfl];by_cases hk:k=f
  ·rw[aK hk];by_cases h:g=k
   ·have hb:(g==k)=true:=bz.mpr h;simp only[List.lookup,hb,if_pos (h.trans hk)]
   ·have hb:(g==k)=false:=cO.mpr h;simp only[List.lookup,hb,if_neg (λe:g=f=>h (e.trans hk.symm))]
  ·rw[aB hk];by_cases h:g=k
   ·have hb:(g==k)=true:=bz.mpr h;simp only[List.lookup,hb,if_neg (λe:g=f=>hk (h.symm.trans e))]
   ·have hb:(g==k)=false:=cO.mpr h;simp only[List.lookup,hb];exact ih
theorem DD(f:Str)(v:V):∀fs:List (Str×V),f∈(A9 f v fs).map (·.1)/\∀g,g∈fs.map (·.1)->g∈(A9 f v fs).map (·.1)
 |[]=>⟨by simp[A9],λg h=>by simp at h⟩
 |(k,x)::r=>by
  obtain⟨i1,i2⟩:=DD f v r;rw[show A9 f v ((k,x)::r)=(if k=f then(k,v)::r else(k,x)::A9 f v r) from rfl];by_cases hk:k=f
  ·rw[aK hk];subst hk;exact⟨by simp,λg h=>by simpa using h⟩
  ·rw[aB hk];refine⟨?_,λg h=>?_⟩
   ·rw[bw];exact bH _ i1
   ·rw[bw] at h ⊢;rcases aH.mp h with e|e
    ·exact aH.mpr (.inl e)
    ·exact bH _ (i2 g e)
theorem Kb(f:Str)(v:V):∀fs:List (Str×V),(A9 f v fs).length<=fs.length+1
 |[]=>by simp[A9]
 |(k,x)::r=>by
  have ih:=Kb f v r;rw[show A9 f v ((k,x)::r)=(if k=f then(k,v)::r else(k,x)::A9 f v r) from rfl];by_cases hk:k=f
  ·rw[aK hk,eY,eY];omega
  ·rw[aB hk,eY,eY];omega
theorem G0.some_of{o:Option Value}(r:G0 (some v) o):∃u,o=some u/\RelV v u:=by
 cases o with
 |none=>exact(show False from r).elim
 |some u=>exact⟨u,rfl,r⟩
theorem YZ(r:RelV v u):PySem.W.handedIn u=true:=by
 cases v with
 |cE=>cases (show u=Value.none from r);rfl
 |bl b=>cases (show u=Value.bool b from r);rfl
 |int i=>obtain⟨t,e⟩:=(show ∃t,u=Value.int i t from r);cases e;rfl
 |str x=>obtain⟨t,e⟩:=(show ∃t,u=Value.str x t from r);cases e;rfl
 |mj b=>obtain⟨t,e⟩:=(show ∃t,u=Value.bytes b t from r);cases e;rfl
 |sI b=>obtain⟨t,e⟩:=(show ∃t,u=Value.float b t from r);cases e;rfl
 |ref a=>cases (show u=Value.ref a from r);rfl
 |ty n=>cases (show u=Value.type n from r);rfl
section
variable{fs:List (Str×V)}
theorem Dc(cq:gS P w H h)(e:H a=some (.ins C dx fs)):∃mA,uo h a dx C mA/\(∀f,G0 (fs.lookup f) (mA f))/\PySem.Within mA (fs.map (·.1))/\fs.length<=1000/\H dx=some (.own a):=by
 obtain⟨d,z,ne,ob,mA,n,r,q⟩:=(show p0 P w H h a (.ins C dx fs) from cq a _ e)
 exact⟨mA,⟨ob,n,ne⟩,r,q,z,d⟩
end
structure jM(K:PySem.W.Frag)(C:Addr):Prop where
 pg:PySem.W.plainGet K C Str.empty=true
 hd:PySem.W.hasDictIn K C=true
 po:PySem.W.plainOver K C=true
 sa:PySem.W.findIn K (.ref C) "__setattr__"=some (some (.builtin "object.__setattr__"))
theorem jM.get(c:jM K C)(f:Str):PySem.W.plainGet K C f=true:=c.pg
def C1(K:PySem.W.Frag)(C:Addr)(f:Str):Prop:=PySem.W.findIn K (.ref C) f=some none
theorem C1.X'{f:Str}(n:C1 K C f):PySem.W.takerIn K C f=some none:=by
 unfold PySem.W.takerIn;rw[show PySem.W.findIn K (.ref C) f=some none from n]
 rfl
structure Meth(K:PySem.W.Frag)(C:Addr)(m:Str)(f:Addr):Prop where
 at_:PySem.W.findIn K (.ref C) m=some (some (.ref f))
 fn:PySem.W.isFn K (.ref f)=true
 kp:PySem.W.keepIn K (.ref f)=true
section
variable{fs:List (Str×V)}{f:Str}
theorem Z'{b:Bool}(I:Inv X pins σ H s)(e:H a=some (.ins C dx fs))(c:jM X.K C)(n:C1 X.K C f)(l:fs.lookup f=some v)(h:∀u s',Inv X pins σ H s'->RelV v u->Q u s'):wpAny (model X.prog X.w) A (getAttr (.ref a) f b) Q E s:=by
 obtain⟨mA,O,r,_,_,_⟩:=Dc I.cq e;obtain⟨u,hu,ru⟩:=G0.some_of (v:=v) (o:=mA f) (by rw[<- l];exact r f);exact get_map I.iF O (c.get f) c.hd n hu (YZ ru) (h u _ (I.tok _) ru)
theorem aN6{y:V}{Q:Unit->Shared->Prop}(I:Inv X pins σ H s)(e:H a=some (.ins C dx fs))(c:jM X.K C)(n:C1 X.K C f)(hl:fs.length<1000)(ry:RelV y u)(h:∀s',Inv X pins σ (upd H a (.ins C dx (A9 f y fs))) s'->Q Unit.unit s'):wpAny (model X.prog X.w) A (setAttr (.ref a) f u) Q E s:=by
 obtain⟨mA,O,r,wi,_,ho⟩:=Dc I.cq e;have hz:(fs.map (·.1)).length<=sizeLine:=by rw[ag,lB];omega
 refine UB I.iF O c.sa c.po n.X' c.hd wi hz λh' O' sb=>h _ ?_;have hd:∃o,h'.get? dx=some o:=let ⟨o,_,_,e',_⟩:=O'.ns;⟨o,e'⟩
 refine I.write (x:=a) (e:=dx) (by rw[e];exact True.intro) (.inr ho) (λb q hb z=>(sb.2 b hb).trans z) hd ?_;refine⟨by rw[i6 O.ne];exact ho,?_,O.ne,O'.obj,_,O'.ns,λg=>?_,λg hg=>?_⟩
 ·have:=Kb f y fs;omega
 ·show G0 ((A9 f y fs).lookup g) (if g=f then some u else mA g);rw[Kd];by_cases q:g=f
  ·rw[aK q,aK q];exact ry
  ·rw[aB q,aB q];exact r g
 ·by_cases q:g=f
  ·rw[q];exact(DD f y fs).1
  ·refine(DD f y fs).2 g (wi g λz=>hg ?_);show(if g=f then some u else mA g)=none;rw[aB q];exact z
theorem Inv.made(I:Inv X pins σ H s):Inv X pins σ (upd (upd H s.heap.objs.size (.own (s.heap.objs.size+1))) (s.heap.objs.size+1) (.ins C s.heap.objs.size []))
  { s with heap:=(s.heap.push PySem.W.emptyDict).push (PySem.W.instObj C s.heap.objs.size) }:=by
 have e1:(s.heap.push PySem.W.emptyDict).get? s.heap.objs.size=some PySem.W.emptyDict:=aG s.heap rfl;have e2:((s.heap.push PySem.W.emptyDict).push (PySem.W.instObj C s.heap.objs.size)).get? (s.heap.objs.size+1)=some (PySem.W.instObj C s.heap.objs.size):=by
  have:=aG (s.heap.push PySem.W.emptyDict) (o:=PySem.W.instObj C s.heap.objs.size) rfl
  rwa [eI] at this
 have e3:(s.heap.push PySem.W.emptyDict).Ns s.heap.objs.size (λ_=>none):=⟨PySem.W.emptyDict,#[],_,e1,rfl,(λe he=>absurd he (by simp)),λ_=>rfl⟩
 have I1:=I.laid (a:=s.heap.objs.size) (o:=.own (s.heap.objs.size+1)) (h':=s.heap.push PySem.W.emptyDict) (t':=s.toks) (λb u q=>aj _ q) (av _) ⟨_,e1⟩;refine I1.laid (a:=s.heap.objs.size+1) (o:=.ins C s.heap.objs.size []) (t':=s.toks) (λb u q=>aj _ q) (fF (eI _ _)) ?_;have ne:s.heap.objs.size≠s.heap.objs.size+1:=aI (fS _);refine⟨by rw[i6 ne,u5],cJ _,ne,e2,λ_=>none,(Heap.Ns1.of_empty e3).at λo q=>aj _ q,λ_=>True.intro,λy hy=>absurd rfl hy⟩
theorem Td{prog:Program}{env:Env}(hb:attributeBase e f env (eval e env)=eval e env)(h:wpAny (model prog w) A (eval e env) (λo bY=>wpAny (model prog w) A (getAttr o f true) Q E bY) E s):wpAny (model prog w) A (eval (.Attribute e f pos) env) Q E s :=
 Attribute_any_ h (by rw[arm_eval_Attribute,hb])
end
def Wf(K:PySem.W.Frag)(ta:TE)(f:Str):TE:=λσ H Q=>ta σ H λx H1=>∃a C dx fs v,x=.ref a/\H1 a=some (.ins C dx fs)/\jM K C/\C1 K C f/\fs.lookup f=some v/\Q v H1
def VW(K:PySem.W.Frag)(ta tv:TE)(f:Str):TS:=λD σ H=>tv σ H λy H1=>ta σ H1 λx H2=>∃a C dx fs,x=.ref a/\H2 a=some (.ins C dx fs)/\jM K C/\C1 K C f/\fs.length<1000 /\
 D.nx σ (upd H2 a (.ins C dx (A9 f y fs)))
section
variable{o value:Expr}{f:Str}{pos':Pos}{tv:TE}
theorem Rt(he:PE X e ta)(hb:attributeBase e f X.env (eval e X.env)=eval e X.env):PE X (.Attribute e f pos) (Wf X.K ta f):=by
 intro pins s σ H Q I h;refine Td hb (cX (he pins s σ H _ I h) λu s1 bD=>?_);obtain⟨x,H1,I1,rx,a,C,dx,fs,v,ex,ea,c,n,l,q⟩:=bD;subst ex;obtain rfl:u=Value.ref a:=rx;exact Z' I1 ea c n l λu' s2 I2 ru=>⟨v,H1,I2,ru,q⟩
theorem RH(ha:PE X o ta)(hv:PE X value tv)(hs:swapsWith value (some (.Attribute o f pos')) pos.line X.env=pure false):PS X (.Assign [.Attribute o f pos'] value pos) (VW X.K ta tv f):=by
 intro pins s σ H D I h;refine plainObj_wpAny_Assign_Attribute (cX (hv pins s σ H _ I h) λu s1 ⟨y,H1,I1,ry,q⟩=>cX (ha pins s1 σ H1 _ I1 q) λov s2 bD=>?_) hs;obtain⟨x,H2,I2,rx,a,C,dx,fs,ex,ea,c,n,l,q2⟩:=bD;subst ex;obtain rfl:ov=Value.ref a:=rx;exact aN6 I2 ea c n l ry λs3 I3=>⟨σ,_,I3,q2⟩
end
section
variable{c:Value}{b:Bool}
inductive iB(K:PySem.W.Frag)(H:Hp):V->Value->Prop where
 |cE:iB K H .cE (.type "NoneType")
 |bl (x:Bool):iB K H (.bl x) (.type "bool")
 |int (i:Int):iB K H (.int i) (.type "int")
 |str (x:Str):iB K H (.str x) (.type "str")
 |sI (x:UInt64):iB K H (.sI x) (.type "float")
 |lst {a:Addr} {xs:List V} (e:H a=some (.lst xs)):iB K H (.ref a) (.type "list")
 |kE {a:Addr} {o:Obj} {xs:List V} (e:H a=some (.kE o (.lst xs))):iB K H (.ref a) (.type "list")
 |tup {a:Addr} {xs:List V} (e:H a=some (.tup xs)):iB K H (.ref a) (.type "tuple")
 |dK {a:Addr} {kvs:List (Key×V)} (e:H a=some (.dK kvs)):iB K H (.ref a) (.type "dict")
 |dT {a:Addr} {kvs:List (List Key×V)} (e:H a=some (.dT kvs)):iB K H (.ref a) (.type "dict")
 |ins {a C dx:Addr} {fs:List (Str×V)} (e:H a=some (.ins C dx fs)) (cl:jM K C) (ha:PySem.W.findIn K (.ref C) "__class__"=some (some (.builtin "object.__class__")))
   (hn:PySem.W.specialIn K (.builtin "object.__class__") "__get__"=some (some (.builtin "getset_descriptor.__get__"))) (vL:PySem.W.takesIn K (.builtin "object.__class__")=some true)
   (hm:PySem.W.mroIn K C (.type "object")=some true):iB K H (.ref a) (.ref C)
theorem Zb{x:V}{t:Value}(I:Inv X pins σ H s)(rx:RelV x u)(ty:iB X.K H x t)(e:PySem.W.kitOne X.K t c=some b)(h:∀tk,Q (.bool b) { s with toks:=tk }) :
  wpAny (model X.prog X.w) A (call (.builtin "isinstance") [u,c]) Q E s:=by
 cases ty with
 |cE=>cases (show u=Value.none from rx);exact cj PySem.W.kitx_none I.iF True.intro e (λz=>nomatch z) h
 |bl y=>cases (show u=Value.bool y from rx);exact cj PySem.W.kitx_bool I.iF True.intro e (λz=>nomatch z) h
 |int i=>obtain⟨t,q⟩:=(show ∃t,u=Value.int i t from rx);cases q;exact cj PySem.W.kitx_int I.iF True.intro e (λz=>nomatch z) h
 |str y=>obtain⟨t,q⟩:=(show ∃t,u=Value.str y t from rx);cases q;exact cj PySem.W.kitx_str I.iF True.intro e (λz=>nomatch z) h
 |sI y=>obtain⟨t,q⟩:=(show ∃t,u=Value.float y t from rx);cases q;exact cj PySem.W.kitx_float I.iF True.intro e (λz=>nomatch z) h
 |@lst a xs ea =>
  cases (show u=Value.ref a from rx);obtain⟨_,_,n,_,h1⟩:=(show p0 X.prog X.w H s.heap a (.lst xs) from I.cq a _ ea)
  exact cj PySem.W.kitx_list I.iF ⟨_,h1,rfl⟩ e (λz=>nomatch z) h
 |@kE a ob xs ea =>
  cases (show u=Value.ref a from rx);obtain⟨_,_,_,n,_,h1⟩:=(show p0 X.prog X.w H s.heap a (.kE ob (.lst xs)) from I.cq a _ ea)
  exact cj PySem.W.kitx_list I.iF ⟨_,h1,rfl⟩ e (λz=>nomatch z) h
 |@tup a xs ea =>
  cases (show u=Value.ref a from rx);obtain⟨_,_,_,p⟩:=(show p0 X.prog X.w H s.heap a (.tup xs) from I.cq a _ ea)
  obtain⟨o,h1,h2,_⟩:=p;exact cj MF I.iF ⟨o,h1,h2⟩ e (λz=>nomatch z) h
 |@dK a kvs ea =>
  cases (show u=Value.ref a from rx);obtain⟨_,_,vs,_,p⟩:=(show p0 X.prog X.w H s.heap a (.dK kvs) from I.cq a _ ea)
  obtain⟨o,es,ep,h1,h2,_⟩:=p;exact cj PySem.W.kitx_dict I.iF ⟨o,h1,h2.1⟩ e (λz=>nomatch z) h
 |@dT a kvs ea =>
  cases (show u=Value.ref a from rx);obtain⟨_,_,xs,_,o,es,ep,h1,h2,_⟩:=(show p0 X.prog X.w H s.heap a (.dT kvs) from I.cq a _ ea)
  exact cj PySem.W.kitx_dict I.iF ⟨o,h1,h2.1⟩ e (λz=>nomatch z) h
 |@ins a C dx fs ea cl ha hn vL hm =>
  cases (show u=Value.ref a from rx);obtain⟨mA,O,_⟩:=Dc I.cq ea;obtain⟨od,J,_⟩:=O.look;exact cj (PySem.W.kitx_own (cl.get _) cl.hd ha hn vL hm) I.iF J e (λz=>nomatch z) h
end
structure x6(k:Nat)(A:Around):Prop where
 hd:A.handled=none
 dp:A.depth+3*k+5<recursionLimit
 un:A.units+16*k+200<cLine
theorem x6.mono(r:x6 k A)(h:j<=k):x6 j A:=⟨r.hd,by have:=r.dp;omega,by have:=r.un;omega⟩
theorem x6.deeper{k:Nat}{A:Around}(r:x6 (k+1) A)(env:Env):x6 k (A.deeper env) :=
 ⟨r.hd,by have:=r.dp;show A.depth+1+3*k+5<_;omega,by have:=r.un;show A.units+3+16*k+200<_;omega⟩
theorem aP7{kw:List (Str×Value)}:(A.under (.builtin "type.__call__" ⟨.ref C::us,kw⟩)).depth=A.depth+1:=by
 first|rfl|simp[Around.under,Code.weight,Code.isCreation,Code.isGuard,Code.isCaller,Code.frames,Code.isFrame,guardIds]
theorem aP6{kw:List (Str×Value)}:(A.under (.builtin "type.__call__" ⟨.ref C::us,kw⟩)).units=A.units+1:=by
 first|rfl|simp[Around.under,Code.cUnits,Code.frames,Code.isFrame]
theorem x6.make(r:x6 (k+1) A)(C:Addr)(us:List Value)(kw:List (Str×Value)):x6 k (A.under (.builtin "type.__call__" ⟨.ref C::us,kw⟩)) :=
 ⟨r.hd,by have:=r.dp;rw[aP7];omega,by have:=r.un;rw[aP6];omega⟩
theorem x6.depth{k:Nat}{A:Around}(r:x6 k A):A.depth<recursionLimit:=by have:=r.dp;omega
def Fm:TA:=λ_ H Q=>Q [] H
def XS(ta:TE)(tr:TA):TA:=λσ H Q=>ta σ H λx H1=>tr σ H1 λxs H2=>Q (x::xs) H2
theorem X9:PA X [] Fm:=λ_ _ _ _ H Q I h=>Calls.spliced_nil ⟨[],H,I,.nil,h⟩
theorem R5(ha:PE X e te)(hr:PA X es t)(hs:starEach (e::es) X.env=(false,eval e X.env)::starEach es X.env:=by rfl):PA X (e::es) (XS te t):=by
 intro pos pins s σ H Q I h;rw[hs];show wpAny _ _ (spliced ((false,eval e X.env)::backTo pos (starEach es X.env))) _ _ s;refine Calls.spliced_cons (cX (ha pins s σ H _ I h) λu s1 bD=>?_);obtain⟨x,H1,I1,r1,q1⟩:=bD;exact cX (hr pos pins s1 σ H1 _ I1 q1) λus s2 ⟨xs,H2,I2,r2,q2⟩=>⟨x::xs,H2,I2,.cons r1 r2,q2⟩
def Wo(t:TA):TE:=λσ H Q=>t σ H λxs H1=>xs.length<=sizeLine/\∀p,H1 p=none->Q (.ref p) (upd H1 p (.tup xs))
def Wi(t:TA):TE:=λσ H Q=>t σ H λxs H1=>xs.length<=sizeLine/\∀p,H1 p=none->Q (.ref p) (upd H1 p (.lst xs))
theorem RA{x1}(h:PA X es t):PE X (.Tuple es x1 pos) (Wo t):=by
 intro pins s σ H Q I hq;refine wpAny_Tuple_spliced (cX (h pos pins s σ H _ I hq) λus s1 ⟨xs,H1,I1,r,z,q⟩=>⟨by rw[<- r.length];exact z,?_⟩);have hf:H1 s1.heap.objs.size=none:=I1.cq.fresh (av _);refine⟨.ref s1.heap.objs.size,upd H1 s1.heap.objs.size (.tup xs),I1.laid (t':=s1.toks) (λb u e=>aj _ e) (av _) ?_,rfl,q _ hf⟩;exact⟨z,us,r,⟨_,aG _ rfl,rfl,⟨_,rfl⟩,rfl⟩⟩
theorem Rv(h:PA X es t):PE X (.List es pos) (Wi t):=by
 intro pins s σ H Q I hq;refine wpAny_List_spliced (cX (h pos pins s σ H _ I hq) λus s1 ⟨xs,H1,I1,r,z,q⟩=>⟨by rw[<- r.length];exact z,?_⟩);have hf:H1 s1.heap.objs.size=none:=I1.cq.fresh (av _);refine⟨.ref s1.heap.objs.size,upd H1 s1.heap.objs.size (.lst xs),I1.laid (t':=s1.toks) (λb u e=>aj _ e) (av _) ?_,rfl,q _ hf⟩;exact⟨z,us,0,r,aG _ rfl⟩
noncomputable abbrev Sp:=List V->Hp->VK->XK->Prop
noncomputable abbrev oy:=List Env->Hp->Shared->XK->Value->Shared->Prop
structure sR(P:Program)(w:World)(K:PySem.W.Frag)(mg:Str->Option Value)(base:Heap)(A:Around)(outer:List Env)(s:Shared)(H:Hp):Prop where
 frames:A.frames=some outer
 mod:Mod K mg base
 bs:∀b o,base.get? b=some o->s.heap.get? b=some o/\H b=none
 qw:base.objs.size<=s.heap.objs.size
 P9:s.heap.FunFrames base outer
 sG:∀b∈iJ outer,H b=none
 cq:gS P w H s.heap
 bare:AllBare s.gens
def CE(outer:List Env)(P:Program)(w:World)(H:Hp)(s:Shared)(Q:VK)(u:Value)(s':Shared):Prop :=
 ∃v H',s'.os=s.os/\AllBare s'.gens/\Un (iJ outer) [] H H' s.heap s'.heap/\gS P w H' s'.heap/\RelV v u/\Q v H'
def CR(CX:oy)(outer:List Env)(P:Program)(w:World)(H:Hp)(s:Shared)(Q:VK)(E:XK)(r:Result)(s':Shared):Prop :=
 match r with
 |.ok (.ret u)=>CE outer P w H s Q u s'
 |.ok _=>False
 |.error e=>CX outer H s E e s'
structure iV(P:Program)(w:World)(K:PySem.W.Frag)(mg:Str->Option Value)(base:Heap)(CX:oy)(k:Nat)(f:Addr)(fd:FuncData)(ps:List Str)(sp:Sp):Prop where
 len:∀vs H Q E,sp vs H Q E->vs.length=ps.length
 run:∀(A:Around) (outer:List Env) (s:Shared) (H:Hp) (args:Args) (us:List Value) (vs:List V) (Q:VK) (E:XK),x6 k A->sR P w K mg base A outer s H->BindsTo s fd args (ps.zip us)->Vals vs us->sp vs H Q E ->
  codeAny (model P w) A (.call (.ref f) args) (CR CX outer P w H s Q E) s
theorem sR.make{mg:Str->Option Value}{outer:List Env}(e:sR P w K mg base A outer s H)(C:Addr)(us:List Value)(kw:List (Str×Value)) :
  sR P w K mg base (A.under (.builtin "type.__call__" ⟨.ref C::us,kw⟩)) outer s H:=⟨by first|exact e.frames|(simpa[Around.under,Code.envs,Code.isFrame,pushEnvs] using e.frames),e.mod,e.bs,e.qw,e.P9,e.sG,e.cq,e.bare⟩
section
variable{s':Shared}
theorem Inv.HZ(I:Inv X pins σ H s):sR X.prog X.w X.K X.mg X.base X.A X.stack s H :=
 ⟨I.ok.frames,I.ok.mod,I.bs,aF I.ok.qw I.sz,I.stack,I.Dk,I.cq,I.bare⟩
theorem Inv.after{Q:VK}(I:Inv X pins σ H s)(h:CE X.stack X.prog X.w H s Q u s'):EP X pins σ Q u s':=by
 obtain⟨v,H',os,bare,un,cq,r,q⟩:=h;obtain⟨hh,g,d,t,rE⟩:=s';obtain rfl:rE=s.os:=os;exact⟨v,H',I.call (h':=hh) (g':=g) (d':=d) (t':=t) (ch:=[]) un cq bare (λb z=>absurd z (by simp)),r,q⟩
end
def Jc(sp:Sp)(kG:List V)(E:XK)(t:TA):TE:=λσ H Q=>t σ H λvs H1=>sp (vs++kG) H1 Q E
def Jd(C:Addr)(sp:Sp)(kG:List V)(E:XK)(t:TA):TE:=λσ H Q=>t σ H λvs H1=>∀x dx,H1 x=none->H1 dx=none->dx≠x ->
 sp (.ref x::(vs++kG)) (upd (upd H1 dx (.own x)) x (.ins C dx [])) (λv H2=>v=.cE/\Q (.ref x) H2) E
def Binds(K:PySem.W.Frag)(fd:FuncData)(ps:List Str)(ds:List Value):Prop :=
 ∀(s:Shared) (us:List Value),K.In s.heap->(us++ds).length=ps.length->BindsTo s fd ⟨us,[]⟩ (ps.zip (us++ds))
theorem Binds.all(h:∀us:List Value,us.length=ps.length->bindArgs fd ⟨us,[]⟩=pure (ps.zip us)):Binds K fd ps []:=λs us _ hl=>by
 rw[dC] at hl ⊢;exact .of_eq (h us hl)
def Passes(CX:oy)(X:Cx)(E:XK):Prop:=∀(pins:List (Addr×Obj)) (σ:St) (H:Hp) (s:Shared) (e:Value) (s':Shared),Inv X pins σ H s->CX X.stack H s E e s'->X.xe e s'
section
variable{kG:List V}{ds:List Value}{E:XK}
theorem KH{Q:VK}(F:iV X.prog X.w X.K X.mg X.base CX k f fd ps sp)(hr:x6 k X.A)(hb:Binds X.K fd ps ds)(hd:Vals kG ds)(hx:Passes CX X E)(I:Inv X pins σ H s)(r:Vals vs us)(h:sp (vs++kG) H Q E):wpAny (model X.prog X.w) X.A (call (.ref f) us) (EP X pins σ Q) X.xe s:=by
 have r2:Vals (vs++kG) (us++ds):=r.append hd;have hl:(us++ds).length=ps.length:=by rw[<- r2.length];exact F.len _ _ _ _ h
 refine wpAny_call (ik (F.run X.A X.stack s H ⟨us,[]⟩ (us++ds) (vs++kG) Q E hr I.HZ (hb s us I.iF hl) r2 h) λr s' hq=>?_);cases r with
 |error e=>exact hx pins σ H s e s' I hq
 |ok fl =>
  cases fl with
  |ret u=>exact I.after hq
  |next=>exact False.elim hq
  |brk=>exact False.elim hq
  |cont=>exact False.elim hq
theorem TZ(F:iV X.prog X.w X.K X.mg X.base CX k f fd ps sp)(hr:x6 k X.A)(hg:Gl X x)(hm:X.mg x=some (.ref f))(hk:PySem.W.keepIn X.K (.ref f)=true)(hb:Binds X.K fd ps ds)(hd:Vals kG ds)(hx:Passes CX X E)(ha:PA X (e::es) t)(iH:(x==("__debug__":Str))=false:=by decide)(he:starEach (e::es) X.env=(false,eval e X.env)::starEach es X.env:=by rfl)(iT:(backTo pos (starEach es X.env)).any (·.1)=false:=by rfl) :
  PE X (.Call (.Name x p) (e::es) [] pos) (Jc sp kG E t):=by
 intro pins s σ H Q I h;refine cW (R6 I hg hm ?_ iH);refine MG (h₀:=X.base) I.ok.mod.oE hk (cX (ha pos pins s σ H _ I h) λus s1 ⟨vs,H1,I1,r,q⟩=>⟨I1.iF,?_⟩) he iT;exact KH F hr hb hd hx I1 r q
theorem a61(F:iV X.prog X.w X.K X.mg X.base CX k f fd ps sp)(hr:x6 k X.A)(hg:Gl X x)(hm:X.mg x=some (.ref f))(hk:PySem.W.keepIn X.K (.ref f)=true)(hb:Binds X.K fd ps ds)(hd:Vals kG ds)(hx:Passes CX X E)(iH:(x==("__debug__":Str))=false:=by decide):PE X (.Call (.Name x p) [] [] pos) (Jc sp kG E Fm):=by
 intro pins s σ H Q I h;refine cW (R6 I hg hm ?_ iH);exact FD I.iF hk (KH (us:=[]) F hr hb hd hx I .nil h)
structure Mk(K:PySem.W.Frag)(C f:Addr):Prop where
 makes:PySem.W.makesIn K C=true
 init:PySem.W.findIn K (.ref C) "__init__"=some (some (.ref f))
 fn:PySem.W.isFn K (.ref f)=true
 kp:PySem.W.keepIn K (.ref C)=true
theorem Mb{Q:VK}(M:Mk X.K C f)(F:iV X.prog X.w X.K X.mg X.base CX k f fd ps sp)(hr:x6 (k+1) X.A)(hb:Binds X.K fd ps ds)(hd:Vals kG ds)(hx:Passes CX X E)(I:Inv X pins σ H s)(r:Vals vs us)(h:∀x dx,H x=none->H dx=none->dx≠x->sp (.ref x::(vs++kG)) (upd (upd H dx (.own x)) x (.ins C dx [])) (λv H2=>v=.cE/\Q (.ref x) H2) E) :
  wpAny (model X.prog X.w) X.A (call (.ref C) us) (EP X pins σ Q) X.xe s:=by
 have hq:=h (s.heap.objs.size+1) s.heap.objs.size (I.cq.fresh (cB _)) (I.cq.fresh (av _)) (aI (fS _));have I2:=Inv.made (C:=C) I;have r2:Vals (V.ref (s.heap.objs.size+1)::(vs++kG)) (Value.ref (s.heap.objs.size+1)::(us++ds)):=.cons rfl (r.append hd);have hl:(Value.ref (s.heap.objs.size+1)::us++ds).length=ps.length:=by
  have e:=r2.length;rw[F.len _ _ _ _ hq] at e;exact e.symm
 refine wpAny_call (a69 (f:=f) I.iF M.makes M.init (bz.mp M.fn) (ik (F.run _ X.stack _ _ ⟨Value.ref (s.heap.objs.size + 1) :: us,[]⟩ (Value.ref (s.heap.objs.size + 1) :: (us ++ ds)) _ _ E (hr.make C us [])
  (I2.HZ.make C us []) (hb _ (Value.ref (s.heap.objs.size + 1) :: us) I2.iF hl) r2 hq) λr s' nW=>?_))
 cases r with
 |error e=>exact hx pins σ _ _ e s' I2 nW
 |ok fl =>
  cases fl with
  |ret u =>
   obtain⟨v,H',I3,rv,ev,q3⟩:=I2.after nW;subst ev;exact⟨rv,⟨V.ref (s.heap.objs.size+1),H',I3,rfl,q3⟩⟩
  |next=>exact False.elim nW
  |brk=>exact False.elim nW
  |cont=>exact False.elim nW
theorem Ub(M:Mk X.K C f)(F:iV X.prog X.w X.K X.mg X.base CX k f fd ps sp)(hr:x6 (k+1) X.A)(hg:Gl X x)(hm:X.mg x=some (.ref C))(hb:Binds X.K fd ps ds)(hd:Vals kG ds)(hx:Passes CX X E)(ha:PA X (e::es) t)(iH:(x==("__debug__":Str))=false:=by decide)(he:starEach (e::es) X.env=(false,eval e X.env)::starEach es X.env:=by rfl)(iT:(backTo pos (starEach es X.env)).any (·.1)=false:=by rfl) :
  PE X (.Call (.Name x p) (e::es) [] pos) (Jd C sp kG E t):=by
 intro pins s σ H Q I h;refine cW (R6 I hg hm ?_ iH);refine MG (h₀:=X.base) I.ok.mod.oE M.kp (cX (ha pos pins s σ H _ I h) λus s1 ⟨vs,H1,I1,r,q⟩=>⟨I1.iF,?_⟩) he iT;exact Mb M F hr hb hd hx I1 r q
theorem a57(M:Mk X.K C f)(F:iV X.prog X.w X.K X.mg X.base CX k f fd ps sp)(hr:x6 (k+1) X.A)(hg:Gl X x)(hm:X.mg x=some (.ref C))(hb:Binds X.K fd ps ds)(hd:Vals kG ds)(hx:Passes CX X E)(iH:(x==("__debug__":Str))=false:=by decide):PE X (.Call (.Name x p) [] [] pos) (Jd C sp kG E Fm):=by
 intro pins s σ H Q I h;refine cW (R6 I hg hm ?_ iH);exact FD I.iF M.kp (Mb (us:=[]) M F hr hb hd hx I .nil h)
end
structure jr(N P:List Str)(sc:Scope):Prop where
 kind:sc.kind=.function
 co:sc.isCoroutine=false
 gen:sc.isGenerator=false
 nd:N.Nodup
 pre:N.take P.length=P
 par:∀x∈P,sc.names.lookup x=some .local\/sc.names.lookup x=some .cell
 nM:∀y∈sc.names,y.2≠.free
theorem Jp{kindOf:Str->Option NameKind}{x:Str}:∀{binds:List (Str×Value)} {m:Str->Option Value},(∀v,(x,v)∉binds)->bindL kindOf binds m x=m x
 |[],_,_=>rfl
 |(n,v)::r,m,h=>by
  unfold bindL;rw[Jp λw hw=>h w (bH _ hw)];split
  ·have:x≠n:=by rintro rfl;exact h v cR
   simp[this]
  ·rfl
theorem Jn{kindOf:Str->Option NameKind}{x:Str}:∀{binds:List (Str×Value)} {m:Str->Option Value},(∀v,(x,v)∉binds)->bindC kindOf binds m x=m x
 |[],_,_=>rfl
 |(n,v)::r,m,h=>by
  unfold bindC;rw[Jn λw hw=>h w (bH _ hw)];split
  ·rfl
  ·have:x≠n:=by rintro rfl;exact h v cR
   simp[this]
theorem Jo{kindOf:Str->Option NameKind}{x:Str}{v:Value}:∀{P:List Str} {vs:List Value} {i:Nat} {m:Str->Option Value},P.Nodup->P[i]?=some x->vs[i]?=some v->kindOf x=some .local ->
  bindL kindOf (P.zip vs) m x=some v
 |[],_,_,_,_,h,_,_=>by simp at h
 |_::_,[],_,_,_,_,h,_=>by simp at h
 |p::P,w::vs,0,m,nd,h1,h2,hk=>by
  simp at h1 h2;subst h1;subst h2;show bindL kindOf ((p,w)::P.zip vs) m p=_;unfold bindL;rw[Jp λv hv=>(eG.mp nd).1 (nA hv).1,aK hk];simp
 |p::P,w::vs,i+1,m,nd,h1,h2,hk=>by
  show bindL kindOf ((p,w)::P.zip vs) m x=_;unfold bindL;exact Jo (i:=i) (eG.mp nd).2 (by simpa using h1) (by simpa using h2) hk
theorem Jm{kindOf:Str->Option NameKind}{x:Str}{v:Value}:∀{P:List Str} {vs:List Value} {i:Nat} {m:Str->Option Value},P.Nodup->P[i]?=some x->vs[i]?=some v->kindOf x≠some .local ->
  bindC kindOf (P.zip vs) m x=some v
 |[],_,_,_,_,h,_,_=>by simp at h
 |_::_,[],_,_,_,_,h,_=>by simp at h
 |p::P,w::vs,0,m,nd,h1,h2,hk=>by
  simp at h1 h2;subst h1;subst h2;show bindC kindOf ((p,w)::P.zip vs) m p=_;unfold bindC;rw[Jn λv hv=>(eG.mp nd).1 (nA hv).1,aB hk];simp
 |p::P,w::vs,i+1,m,nd,h1,h2,hk=>by
  show bindC kindOf ((p,w)::P.zip vs) m x=_;unfold bindC;exact Jm (i:=i) (eG.mp nd).2 (by simpa using h1) (by simpa using h2) hk
def start(N:List Str)(vs:List V):St:=vs.map some++List.replicate (N.length-vs.length) none
def pN(CX:oy)(P:Program)(w:World)(K:PySem.W.Frag)(mg:Str->Option Value)(base:Heap)(N:List Str)(qual:Str)(scope:Scope)(f:Addr)(cd:Value)(A:Around)(outer:List Env)(s:Shared)(H:Hp)(E:XK):Cx where
 prog:=P
 w:=w
 K:=K
 mg:=mg
 base:=base
 A:=A.deeper (envOfC qual scope s.heap.objs.size f cd)
 N:=N
 dI:=s
 jV:=H
 env:=envOfC qual scope s.heap.objs.size f cd
 outer:=outer
 stack:=envOfC qual scope s.heap.objs.size f cd::outer
 ex:=[]
 calm:=true
 fn:=λ_=>true
 pn:=[]
 xe:=λe s'=>wpAny (model P w) (A.deeper (envOfC qual scope s.heap.objs.size f cd)) (leaving (envOfC qual scope s.heap.objs.size f cd) e) (λ_ oY=>CX outer H s E e oY) (λe' oY=>CX outer H s E e' oY) s'
theorem Dn{sc:Scope}{n:Nat}(h:sc.names.lookup x=some .cell):∃c,(cellsFrom n sc.names []).lookup x=some c:=by
 have q:=ei sc.names n [] (.inl h);exact fk.mp q
theorem Za{mg:Str->Option Value}{qual:Str}{scope:Scope}{cd:Value}{outer:List Env}{s1:Shared}{E:XK}(S:jr N ps scope)(hd:A.handled=none)(e0:sR P w K mg base A outer s H)(hl:vs.length=ps.length)(r:Vals vs us)(x:InCallC s s.heap.objs.size (bindL (envOfC qual scope s.heap.objs.size f cd).kindOf (ps.zip us) λ_=>none) (cellsFrom (s.heap.objs.size+1) scope.names []) (bindC (envOfC qual scope s.heap.objs.size f cd).kindOf (ps.zip us) λ_=>none) s1) :
  Inv (pN CX P w K mg base N qual scope f cd A outer s H E) [] (start N vs) H s1:=by
 have iT:ps.length<=N.length:=by have:=fY List.length S.pre;rw[cv] at this;omega
 obtain⟨h1,tk,rfl,hk⟩:=x.done;have vn:∀b:Addr,b∉(pN CX P w K mg base N qual scope f cd A outer s H E).ex:=λb z=>absurd (show b∈([]:List Addr) from z) (by simp);refine ⟨⟨e0.mod,S.kind,rfl,rfl,av _,λy z c h1 h2=>?_,λy hy=>?_,λy c _ h=>?_,λ_=>hd,Around.frames_deeper e0.frames,.inr ⟨rfl,rfl⟩,λb z=>absurd z (vn b),e0.bs,e0.qw,λb _ _=>vn b,λb z=>absurd z (vn b),e0.P9,e0.sG⟩,
  rfl,e0.bare,Un.kept hk,⟨_,x.toInCall.ns,λi y v h1 h2 h3=>?_⟩,λy c h=>⟨_,x.cell y c h⟩,e0.cq.fresh (av _),λy c h=>?_,λp hp=>absurd (show p ∈ ([]:List (Addr × Obj)) from hp) (by simp),e0.cq.kept hk,?_⟩
 ·exact name_of_addr x.apart (aT h1) (aT h2)
 ·have hy:scope.names.lookup y=some .cell\/scope.names.lookup y=some .free:=hy;rcases hy with hy|hy
  ·exact Dn hy
  ·exact absurd rfl (S.nM _ (aT hy))
 ·exact eX (x.above y c (aT h))
 ·have hi:i<vs.length:=by
   unfold start at h2;by_cases hi:i<vs.length
   ·exact hi
   ·rw[eT (by simpa using hi)] at h2;rw[fB] at h2;split at h2<;>cases h2
  have ha:vs[i]?=some v:=by
   unfold start at h2;rw[aO (by simpa using hi),ak] at h2;cases e:vs[i]? with
   |none=>rw[e] at h2;cases h2
   |some a=>rw[e] at h2;cases h2;rfl
  obtain⟨u,hu,rv⟩:=r.get ha;have hp:ps[i]?=some y:=by
   rw[<- S.pre,qQ ()];exact h1
  have Gk:ps.Nodup:=by rw[<- S.pre];exact S.nd.sublist (lD _ _)
  refine⟨u,rv,?_⟩;rcases S.par y (aN hp) with k|k
  ·exact .inl ⟨k,Jo Gk hp hu k⟩
  ·obtain⟨c,e⟩:=Dn (n:=s.heap.objs.size+1) k;refine .inr ⟨.inl k,c,e,?_⟩;have q:=x.cell y c e;rw[Jm Gk hp hu (by show scope.names.lookup y≠_;rw[k];decide)] at q;exact q
 ·exact e0.cq.fresh (eX (x.above y c (aT h)))
 ·unfold start;show _=N.length;rw[bj,ag,xK];omega
theorem WL{mg:Str->Option Value}{name qual:Str}{params:Arguments}{body:List Stmt}{scope:Scope}{dV kV doc pm gh ct oc:Value}{an od:Option Addr}{nh:Array (Option Value)}(lk:K.lookup f=some ⟨oc,od,.func (PySem.W.fnOf name qual params body scope dV kV doc pm an gh ct),nh⟩)(mM:PySem.W.codeIn K gh qual=true)(S:jr N ps scope)(len:∀vs H Q E,sp vs H Q E->vs.length=ps.length)(vW:∀ (A:Around) (outer:List Env) (s:Shared) (H:Hp) (vs:List V) (Q:VK) (E:XK),x6 k (A.deeper (envOfC qual scope s.heap.objs.size f gh))->sp vs H Q E ->
   ∃ t,lh (pN CX P w K mg base N qual scope f gh A outer s H E) body t/\t { nx:=λ_ H'=>Q .cE H',rt:=Q } (start N vs) H) :
  iV P w K mg base CX (k+1) f (PySem.W.fnOf name qual params body scope dV kV doc pm an gh ct) ps sp:=by
 refine⟨len,λA outer s H args us vs Q E hr e0 hb r tP=>?_⟩;have hl:=len _ _ _ _ tP;have KX:K.In s.heap:=e0.mod.oE.keeps λb o e=>(e0.bs b o e).1;have lim:s.heap.NoLimit:=e0.mod.nolimit.keeps λb o e=>(e0.bs b o e).1;have vP:∀y∈ps.zip us,scope.names.lookup y.1=some .local\/(scope.names.lookup y.1=some .cell/\((cellsFrom (s.heap.objs.size+1) scope.names []).lookup y.1).isSome=true):=λ⟨n,v⟩ hy=>by
  rcases S.par n (nA hy).1 with q|q
  ·exact .inl q
  ·exact .inr ⟨q,ei _ _ _ (.inl q)⟩
 refine codeAny_call_function hr.depth (KX _ _ lk) rfl S.co S.gen rfl (PySem.W.codeRec_of KX mM) (hb _ _ _ _ ?_);refine wpAny_newFunctionEnv_cells S.kind vP λenv he s1 x=>?_;subst he;refine⟨lim.keeps x.toInCall.keep,codeAny_func ?_⟩;obtain⟨t,ht,hq⟩:=vW A outer s H vs Q E (hr.deeper _) tP;have I:Inv (pN CX P w K mg base N qual scope f gh A outer s H E) [] (start N vs) H s1:=Za S hr.hd e0 hl r x;refine bO (ht [] s1 (start N vs) H _ I hq) (λfl s' hs=>?_) λe s' hs=>hs;have fin:∀{cM:St} {H':Hp} {v:V} {u:Value},Inv (pN CX P w K mg base N qual scope f gh A outer s H E) [] cM H' s'->RelV v u->Q v H'->CE outer P w H s Q u s' :=
  λ{cM H' v u} J rv q=>⟨v,H',J.os,J.bare,J.base,J.cq,rv,q⟩
 cases fl with
 |ret u =>
  obtain⟨v,cM,H',J,rv,q⟩:=hs;exact fin J rv q
 |next =>
  obtain⟨cM,H',J,q⟩:=hs;exact fin (v:=V.cE) (u:=Value.none) J rfl q
 |brk =>
  obtain⟨_,_,_,q⟩:=hs;exact False.elim q
 |cont =>
  obtain⟨_,_,_,q⟩:=hs;exact False.elim q
section
variable{id T:String}{r:List V->Hp->VK->Prop}
def AB(r:List V->Hp->VK->Prop)(t:TA):TE:=λσ H Q=>t σ H λvs H1=>r vs H1 Q
theorem zQ(hc:l9 X (.builtin id) r)(hg:Gl X x)(hm:X.mg x=none)(hv:bootBuiltins x=some (.builtin id))(ha:PA X (e::es) t)(hn:x≠"__name__":=by decide)(iH:(x==("__debug__":Str))=false:=by decide)(he:starEach (e::es) X.env=(false,eval e X.env)::starEach es X.env:=by rfl)(iT:(backTo pos (starEach es X.env)).any (·.1)=false:=by rfl):PE X (.Call (.Name x p) (e::es) [] pos) (AB r t):=by
 intro pins s σ H Q I h;refine cW (P2 I hg hm hv ?_ hn iH);exact PyProof.Rows.callWith_builtin1 (cX (ha pos pins s σ H _ I h) λus s1 ⟨vs,H1,I1,r1,q1⟩=>hc pins s1 σ H1 vs us Q I1 r1 q1) he iT
theorem P1(hc:l9 X (.type T) r)(hg:Gl X x)(hm:X.mg x=none)(hv:bootBuiltins x=some (.type T))(ha:PA X (e::es) t)(hn:x≠"__name__":=by decide)(iH:(x==("__debug__":Str))=false:=by decide)(he:starEach (e::es) X.env=(false,eval e X.env)::starEach es X.env:=by rfl)(iT:(backTo pos (starEach es X.env)).any (·.1)=false:=by rfl):PE X (.Call (.Name x p) (e::es) [] pos) (AB r t):=by
 intro pins s σ H Q I h;refine cW (P2 I hg hm hv ?_ hn iH);exact cL (cX (ha pos pins s σ H _ I h) λus s1 ⟨vs,H1,I1,r1,q1⟩=>hc pins s1 σ H1 vs us Q I1 r1 q1) he iT
end
end L2
namespace HT
open PySem PyProof.Rows
section
variable{prog:Program}{w:World}{A:Around}{E:Value->Shared->Prop}{s:Shared}
theorem Tf{t b:Addr}{vs ws:List Value}{Q:Value->Shared->Prop}(ht:IsTup s.heap t vs.toArray)(hb:IsTup s.heap b ws.toArray)(hv:vs≠[])(h1:ws=[]->Q (.ref t) s)(h2:ws≠[]->Q (.ref s.heap.objs.size) { s with heap:=s.heap.push { cls:=.type "tuple",data:=.seq (vs++ws).toArray } })(hsz:vs.length+ws.length<=sizeLine):wpAny (model prog w) A (binaryOp .Add (.ref t) (.ref b)) Q E s:=by
 obtain⟨⟨cls,dd,data,sl⟩,ho,hc,n,hd⟩:=id ht;obtain⟨⟨CA,yL,data2,rg⟩,mK,qk,n2,hd2⟩:=id hb;simp only at hc hd qk hd2;subst hc hd qk hd2;have e:vs.toArray++ws.toArray=(vs++ws).toArray:=by simp
 by_cases hw:ws=[]
 ·exact concat_meets ⟨_,ho,rfl⟩ ⟨_,mK,rfl⟩ qP MB ja iM (ir _ _)
   (tuple_addW1 t b vs.toArray ws.toArray n n2 dd yL sl rg (by simpa using hv) (by simp[hw])) ⟨ho,mK,h1 hw⟩
 ·refine concat_meets ⟨_,ho,rfl⟩ ⟨_,mK,rfl⟩ qP MB ja iM (ir _ _)
   (tuple_addW2 t b vs.toArray ws.toArray n n2 dd yL sl rg (by simpa using hv) (by simpa using hw) (by rw[aE,aE];exact hsz)) ⟨ho,mK,?_⟩
  rw[e];exact h2 hw
def dW(n d:Nat):Option Int->Nat
 |none=>d
 |some v=>if v<0 then(v+(n:Int)).toNat else min v.toNat n
theorem RT(n d:Nat)(hd:d<=n)(o:Option Int):dW n d o<=n:=by
 cases o with
 |none=>exact hd
 |some v =>
  show(if v<0 then(v+(n:Int)).toNat else min v.toNat n)<=n;by_cases hv:v<0
  ·rw[aK hv];omega
  ·rw[aB hv];exact Nat.min_le_right _ _
theorem KS(v:Int)(n d:Nat):(if v<0 then max (v+(n:Int)) 0 else min v (n:Int))=((dW n d (some v):Nat):Int):=by
 show(if v<0 then max (v+(n:Int)) 0 else min v (n:Int))=(((if v<0 then(v+(n:Int)).toNat else min v.toNat n):Nat):Int);by_cases hv:v<0
 ·simp only[if_pos hv];omega
 ·simp only[if_neg hv];omega
theorem ZP(lo hi:Option Int)(n:Nat):Builtin.Slice.sliceAdjust lo hi 1 (n:Int)=(((dW n 0 lo:Nat):Int),((dW n n hi:Nat):Int)):=by
 have h1:¬((1:Int)<0):=by omega
 unfold Builtin.Slice.sliceAdjust;simp only[h1,if_false];refine Aj ?_ ?_
 ·cases lo with
  |none=>rfl
  |some v=>exact KS v n 0
 ·cases hi with
  |none=>rfl
  |some v=>exact KS v n n
theorem aO2(i j:Nat):Builtin.Slice.slicePlaces (i:Int) (j:Int) 1=j-i:=by
 unfold Builtin.Slice.slicePlaces;have h1:(1:Int)>0:=by omega
 simp only[h1,if_true,Int.ediv_one];split<;>omega
theorem JW{v:Value}{o:Option Int}{Q:Option Int->Shared->Prop}(p:IsPart v o)(h:Q o s):wpAny (model prog w) A (Builtin.Slice.slicePartIndex v) Q E s:=by
 cases p with
 |none=>exact pU h
 |int i t=>exact slicePart_int h
theorem S0{sl:Addr}{vl vu:Value}{lo hi:Option Int}{n:Nat}{Q:Int×Int×Nat->Shared->Prop}(hs:s.heap.IsSliceOf sl vl vu .none)(pl:IsPart vl lo)(pu:IsPart vu hi)(h:Q (((dW n 0 lo:Nat):Int),1,dW n n hi-dW n 0 lo) s):wpAny (model prog w) A (Builtin.Slice.sliceApplied (.ref sl) (pure (n:Int))) Q E s:=by
 obtain⟨os,mJ,rY,oJ⟩:=id hs;unfold Builtin.Slice.sliceApplied Builtin.Slice.sliceFields;refine aa (aa (jk mJ oJ (x:=vl) rfl (aa (jk mJ oJ (x:=vu) rfl (aa (jk mJ oJ (x:=.none) rfl (ai ?_)))))));refine aa (pU ?_);show wpAny _ _ (if((1:Int)==0)=true then _ else _) _ _ s;rw[aB ∅];refine aa (JW pl (aa (JW pu (aa (ai ?_)))));show wpAny _ _ (match Builtin.Slice.sliceAdjust lo hi 1 (n:Int) with|(lo,hi)=>pure (lo,(1:Int),Builtin.Slice.slicePlaces lo hi 1)) _ _ s;rw[ZP lo hi n];show wpAny _ _ (pure (((dW n 0 lo:Nat):Int),(1:Int),Builtin.Slice.slicePlaces ((dW n 0 lo:Nat):Int) ((dW n n hi:Nat):Int) 1)) _ _ s;rw[aO2];exact ai h
theorem a54(xs:Array Value)(i k:Nat):((List.range k).filterMap λ(m:Nat)=>xs[((i:Int)+(m:Int)*1).toNat]?).toArray=((xs.toList.drop i).take k).toArray:=by
 have e:(λ(m:Nat)=>xs[((i:Int)+(m:Int)*1).toNat]?)=λm=>xs[i+m]?:=by
  funext m
  have:((i:Int)+(m:Int)*1).toNat=i+m:=by omega
  rw[this]
 rw[e];have:=pick_run xs i k;rw[ML] at this;have e2:((λx=>xs[x]?) ∘ λx=>i+x)=λm=>xs[i+m]?:=rfl;rw[e2] at this;rw[this]
theorem YQ{t sl:Addr}{items:Array Value}{vl vu:Value}{lo hi:Option Int}{Q:Value->Shared->Prop}(ht:IsTup s.heap t items)(hs:s.heap.IsSliceOf sl vl vu .none)(pl:IsPart vl lo)(pu:IsPart vu hi)(hw:¬(dW items.size 0 lo=0/\dW items.size items.size hi=items.size))(h:Q (.ref s.heap.objs.size) { s with heap:=s.heap.push { cls:=.type "tuple",data:=.seq ((items.toList.drop (dW items.size 0 lo)).take (dW items.size items.size hi-dW items.size 0 lo)).toArray } })(hsz:items.size<=sizeLine):wpAny (model prog w) A (getItem (.ref t) (.ref sl)) Q E s:=by
 have iz:sizeOk (.seq ((items.toList.drop (dW items.size 0 lo)).take (dW items.size items.size hi-dW items.size 0 lo)).toArray):=by
  show((items.toList.drop (dW items.size 0 lo)).take (dW items.size items.size hi-dW items.size 0 lo)).toArray.size<=sizeLine;rw[aE,cv,mx,bp];omega
 have hj:dW items.size items.size hi<=items.size:=RT _ _ (av _) hi;obtain⟨os,mJ,rY,oJ⟩:=id hs;have wa:s.TypeIs (.ref sl) "slice":=⟨os,mJ,rY⟩
 unfold getItem
 try with_reducible refine bL ?_
 first|refine aa (ai ?_)|skip
 refine aa (oQ ht.typeIs ∅ ?_);refine aa (eE (name:=Str.ofString "__getitem__") ht.typeIs br
  (cC br ht.typeIs tu ?_ (xH _ _)))
 show wpAny _ _ (Builtin.Tuple.tupleItemsOf (.ref t) >>= _) _ _ s;refine aa (uI ht ?_);refine aa (dB wa ?_);rw[aK ∅];refine aa (S0 hs pl pu ?_);have pA:¬((((dW items.size 0 lo:Nat):Int)==0&&(1:Int)==1&&(dW items.size items.size hi-dW items.size 0 lo)==items.size)=true):=by
  intro q;rw[aR,aR] at q;have q1:((dW items.size 0 lo:Nat):Int)=0:=eq_of_beq q.1.1;have q2:dW items.size items.size hi-dW items.size 0 lo=items.size:=eq_of_beq q.2;exact hw ⟨by omega,by omega⟩
 show wpAny _ _ (if(((dW items.size 0 lo:Nat):Int)==0&&(1:Int)==1&&(dW items.size items.size hi-dW items.size 0 lo)==items.size)=true then _ else _) _ _ s;rw[aB pA,a54]
 first
  |exact wpAny_bind (m:=Builtin.Tuple.tupleExact _) (wpAny_newObj_type (wpAny_pure ⟨_,rfl,wpAny_pure h⟩) iz)
  |exact wpAny_bind (m:=Builtin.Tuple.tupleExact _) (wpAny_newObj_type (wpAny_bind (wpAny_pure (wpAny_pure ⟨_,rfl,wpAny_pure h⟩))) iz)
  |exact wpAny_bind (wpAny_bind (m:=Builtin.Tuple.tupleExact _) (wpAny_newObj_type (wpAny_pure (wpAny_pure ⟨_,rfl,wpAny_pure h⟩)) iz))
  |exact wpAny_bind (wpAny_bind (m:=Builtin.Tuple.tupleExact _) (wpAny_newObj_type (wpAny_pure ⟨_,rfl,wpAny_pure h⟩) iz))
end
end HT
namespace L2
open PySem PySem.Spec PyProof.Rows
variable{X:Cx}{e:Expr}{pos:Pos}{n t':Nat}{α:Type}{a:Addr}{pins:List (Addr×Obj)}{σ:St}{H H':Hp}{s:Shared}{aX:List Value}{o:Option V}{w:World}{A:Around}{E Q:Value->Shared->Prop}{u:Value}{kvs:List (List Key×V)}{y:V}{P:Program}
noncomputable abbrev TO:=St->Hp->(Option Int->Hp->Prop)->Prop
def PO(X:Cx)(e:Option Expr)(t:TO):Prop :=
 ∀(pins:List (Addr×Obj)) (s:Shared) (σ:St) (H:Hp) (Q:Option Int->Hp->Prop),Inv X pins σ H s->t σ H Q ->
  wpAny (model X.prog X.w) X.A (evalPart e X.env) (λu s'=>∃o H',Inv X pins σ H' s'/\IsPart u o/\Q o H') X.xe s
def UO:TO:=λ_ H Q=>Q none H
def XW(t:TE):TO:=λσ H Q=>t σ H λx H1=>∃i,x=.int i/\Q (some i) H1
section
variable{te:TE}{lo hi:Option Expr}{tl th:TO}{p2:Pos}
theorem zI:PO X none UO:=by
 intro pins s σ H Q I h;rw[MC];exact ai ⟨none,H,I,.none,h⟩
theorem Lj(h:PE X e te):PO X (some e) (XW te):=by
 intro pins s σ H Q I hw;rw[evalPart_some];refine cX (h pins s σ H _ I hw) λu s1 bD=>?_;obtain⟨x,H1,I1,r1,q1⟩:=bD;obtain⟨i,rfl,q⟩:=q1;obtain⟨t,rfl⟩:=r1;exact⟨some i,H1,I1,.int i t,q⟩
def xu(X:Cx)(r:V->Option Int->Option Int->Hp->VK->Prop):Prop :=
 ∀(pins:List (Addr×Obj)) (s:Shared) (σ:St) (H:Hp) (x:V) (v vl vu:Value) (lo hi:Option Int) (sl:Addr) (Q:VK),Inv X pins σ H s->RelV x v->s.heap.IsSliceOf sl vl vu .none->IsPart vl lo->IsPart vu hi->r x lo hi H Q ->
  ∃T id,typeLookup (.type T) "__getitem__"=pure (some (.builtin id))/\s.TypeIs v T/\wpAny (model X.prog X.w) X.A (getItem v (.ref sl)) (EP X pins σ Q) X.xe s
def MZ(r:V->Option Int->Option Int->Hp->VK->Prop)(te:TE)(tl th:TO):TE:=λσ H Q=>te σ H λx H1=>tl σ H1 λl H2=>th σ H2 λu H3=>r x l u H3 Q
theorem Dv{r:V->Option Int->Option Int->Hp->VK->Prop}(hr:xu X r)(he:PE X e te)(hl:PO X lo tl)(hu:PO X hi th):PE X (.Subscript e (.Slice lo hi none p2) pos) (MZ r te tl th):=by
 intro pins s σ H Q I h;refine Subscript_ (cX (he pins s σ H _ I h) λv s1 bD=>?_);obtain⟨x,H1,I1,r1,q1⟩:=bD;refine wpAny_Slice (cX (hl pins s1 σ H1 _ I1 q1) λvl s2 ⟨l,H2,I2,pl,q2⟩=>cX (hu pins s2 σ H2 _ I2 q2) λvu s3 bD=>?_);obtain⟨u,H3,I3,pu,q3⟩:=bD;rw[MC];refine ai ?_;have I4:Inv X pins σ H3 { s3 with heap:=s3.heap.push { cls:=.type "slice",data:=.fields #[vl,vu,.none] } }:=I3.kept (t':=s3.toks) λb ob q=>aj _ q;obtain⟨T,id,hT,ht,hg⟩:=hr pins { s3 with heap:=s3.heap.push { cls:=.type "slice",data:=.fields #[vl,vu,.none] } } σ H3 x v vl vu l u s3.heap.objs.size Q I4 r1 (nD ..) pl pu q3;show wpAny (model X.prog X.w) X.A (subscriptTail e (.Slice lo hi none p2) v (.ref s3.heap.objs.size)) (EP X pins σ Q) X.xe { s3 with heap:=s3.heap.push { cls:=.type "slice",data:=.fields #[vl,vu,.none] } };exact FA (ops:=[.ref s3.heap.objs.size,v]) ht hT hg (by with_unfolding_all rfl)
def T1(xs:List V)(lo hi:Option Int):List V:=(xs.drop (HT.dW xs.length 0 lo)).take (HT.dW xs.length xs.length hi-HT.dW xs.length 0 lo)
theorem JZ(xs:List V)(lo hi:Option Int):(T1 xs lo hi).length<=xs.length:=by
 unfold T1;rw[cv,mx];omega
def VU(K:PySem.W.Frag):V->Option Int->Option Int->Hp->VK->Prop:=λx lo hi H Q=>∃a xs,x=.ref a/\iU K H a xs /\
 ¬(HT.dW xs.length 0 lo=0/\HT.dW xs.length xs.length hi=xs.length)/\∀p,H p=none->Q (.ref p) (upd H p (.tup (T1 xs lo hi)))
theorem Sl:xu X (VU X.K):=by
 intro pins s σ H x v vl vu lo hi sl Q I rx hs pl pu h;obtain⟨a,xs,rfl,hx,hw,q⟩:=h;cases rx;obtain⟨aX,r,ht,hz⟩:=I.tuple hx;have hlen:aX.toArray.size=xs.length:=by rw[aE];exact r.length.symm
 refine⟨"tuple",_,br.lookup,ht.typeIs,?_⟩;refine HT.YQ ht hs pl pu (by rw[hlen];exact hw) ?_ (by rw[hlen];exact hz);rw[hlen];refine⟨.ref s.heap.objs.size,_,I.laid (t':=s.toks) (o:=.tup (T1 xs lo hi)) (λb ob q=>aj _ q) (av _) ?_,rfl,q _ (I.cq.fresh (av _))⟩;exact⟨aF (JZ xs lo hi) hz,_,(r.drop (HT.dW xs.length 0 lo)).take (HT.dW xs.length xs.length hi-HT.dW xs.length 0 lo),K2.new _ _⟩
def XB(K:PySem.W.Frag):R2:=λx y H Q=>∃a b xs ys,x=.ref a/\y=.ref b/\iU K H a xs/\iU K H b ys/\xs≠[]/\xs.length+ys.length<=sizeLine /\
 (ys=[]->Q (.ref a) H)/\(ys≠[]->∀p,H p=none->Q (.ref p) (upd H p (.tup (xs++ys))))
theorem Vals.zG{xs:List V}{us:List Value}(r:Vals xs us):us=[]↔xs=[]:=by
 cases r with
 |nil=>simp
 |cons _ _=>simp
theorem TM:gs X (binaryOp .Add) (XB X.K):=by
 intro pins s σ H x y v u Q I rx ry h;obtain⟨a,b,xs,ys,rfl,rfl,ha,hb,hx,hz,q1,q2⟩:=h;cases rx;cases ry;obtain⟨aX,r1,p1,_⟩:=I.tuple ha;obtain⟨nT,r2,p2,_⟩:=I.tuple hb;refine HT.Tf p1 p2 (λz=>hx (r1.zG.mp z)) (λz=>⟨.ref a,H,I,rfl,q1 (r2.zG.mp z)⟩) (λz=>?_) (by rw[<- r1.length,<- r2.length];exact hz);refine⟨.ref s.heap.objs.size,_,I.laid (t':=s.toks) (o:=.tup (xs++ys)) (λb ob q=>aj _ q) (av _) ?_,rfl,q2 (λw=>z (r2.zG.mpr w)) _ (I.cq.fresh (av _))⟩;exact⟨by rw[bj];exact hz,_,r1.append r2,K2.new _ _⟩
end
def lO(n:Nat)(i:Int):Option Nat:=if 0<=i then(if i<n then some i.toNat else none) else if -(n:Int)<=i then some (i+n).toNat else none
def gF{α:Type}(xs:List α)(i:Int):Option α:=(lO xs.length i).bind λj=>xs[j]?
theorem La{i:Int}{j:Nat}(h:lO n i=some j):seqIndex? i n=some j/\j<n/\-(n:Int)<=i/\i<n:=by
 unfold lO at h;by_cases h0:0<=i
 ·rw[aK h0] at h;by_cases h1:i<n
  ·rw[aK h1] at h;have e:i.toNat=j:=aS h;exact⟨by rw[seqIndex_of h0 h1,e],by omega,by omega,h1⟩
  ·rw[aB h1] at h;cases h
 ·rw[aB h0] at h;by_cases h1:-(n:Int)<=i
  ·rw[aK h1] at h;have e:(i+n).toNat=j:=aS h;exact⟨by rw[seqIndex_neg () h1,e],by omega,h1,by omega⟩
  ·rw[aB h1] at h;cases h
theorem CS{xs:List α}{i:Int}{v:α}(h:gF xs i=some v):∃j,seqIndex? i xs.length=some j/\xs[j]?=some v/\j<xs.length/\-(xs.length:Int)<=i/\i<xs.length:=by
 unfold gF at h;cases e:lO xs.length i with
 |none=>rw[e] at h;cases h
 |some j =>
  rw[e] at h;obtain⟨h1,h2,h3,h4⟩:=La e;exact⟨j,h1,h,h2,h3,h4⟩
theorem J9{xs:List α}{j:Nat}{v:α}(h:xs[j]?=some v):gF xs (j:Int)=some v:=by
 have hj:j<xs.length:=(ax.mp h).1;have e:lO xs.length (j:Int)=some j:=by
  unfold lO;rw[aK (),aK ()];simp
 unfold gF;rw[e];exact h
def CO(b:Expr):Prop:=∀o i,subscripted b false o i=operate [o,i] (getItem o i)
def tq(X:Cx)(r:R2):Prop :=
 ∀(value slice:Expr) (pins:List (Addr×Obj)) (s:Shared) (σ:St) (H:Hp) (x y:V) (v u:Value) (Q:VK),Inv X pins σ H s->RelV x v->RelV y u->r x y H Q ->
  subscripted slice false v u=operate [v,u] (getItem v u)->wpAny (model X.prog X.w) X.A (subscriptTail value slice v u) (EP X pins σ Q) X.xe s
def pQ(X:Cx)(id:String)(r:V->List V->Hp->VK->Prop):Prop :=
 ∀(pins:List (Addr×Obj)) (s:Shared) (σ:St) (H:Hp) (x:V) (xs:List V) (v:Value) (us:List Value) (Q:VK),Inv X pins σ H s->RelV x v->Vals xs us->r x xs H Q ->
  wpAny (model X.prog X.w) X.A (call (.builtin id) (v::us)) (EP X pins σ Q) X.xe s
section
variable{a b:Expr}{ta tb:TE}
theorem IT{r:R2}(hr:tq X r)(ha:PE X a ta)(hb:PE X b tb)(hs:CO b):PE X (.Subscript a b pos) (tH r ta tb):=by
 intro pins s σ H Q I h;exact Subscript_ (Fd ha hb I h λv u s2 x y H2 I2 rx ry q=>hr a b pins s2 σ H2 x y v u Q I2 rx ry q (hs _ _))
def VO(K:PySem.W.Frag):R2:=λx y H Q=>∃p xs i v,x=.ref p/\y=.int i/\gi K H p xs/\gF xs i=some v/\Q v H
def VQ(K:PySem.W.Frag):R2:=λx y H Q=>∃p xs i v,x=.ref p/\y=.int i/\iU K H p xs/\gF xs i=some v/\Q v H
def VP:R2:=λx y H Q=>∃z i c,x=.str z/\y=.int i/\z.length<=sizeLine/\gF z.cps.toList i=some c/\Q (.str ⟨#[c]⟩) H
theorem Ts:tq X (VO X.K):=by
 intro value slice pins s σ H x y v u Q I rx ry h hs;obtain⟨p,xs,i,z,rfl,rfl,hq,he,q⟩:=h;cases rx;obtain⟨t,rfl⟩:=ry;obtain⟨aX,r,pl,hz⟩:=I.list hq;obtain⟨j,h1,h2,h3,h4,h5⟩:=CS he;obtain⟨w,ew,gK⟩:=r.get h2;have hl:=r.length;have hn:=S7;have fin:EP X pins σ Q w s:=⟨z,H,I,gK,q⟩
 by_cases h0:0<=i
 ·have hj:i.toNat=j:=by
   rw[seqIndex_of h0 h5] at h1;exact aS h1
  exact item_listR pl.isList h0 () (by rw[hj];simpa using ew) fin hs
 ·have hj:(i+(aX.toArray.size:Int)).toNat=j:=by
   rw[seqIndex_neg () h4] at h1;rw[aE,<- hl];exact aS h1
  exact subscriptTail_builtinR (x:=w) pl.isList.typeIs oR.lookup
   (wpAny_getItem_list_neg (Q:=λr s'=>r=w/\EP X pins σ Q r s') pl.isList () (by rw[aE]<;>omega) () (by rw[hj];simpa using ew) ⟨rfl,fin⟩) hs
theorem QC:tq X (VQ X.K):=by
 intro value slice pins s σ H x y v u Q I rx ry h hs;obtain⟨p,xs,i,z,rfl,rfl,hq,he,q⟩:=h;cases rx;obtain⟨t,rfl⟩:=ry;obtain⟨aX,r,pl,hz⟩:=I.tuple hq;obtain⟨j,h1,h2,h3,h4,h5⟩:=CS he;obtain⟨w,ew,gK⟩:=r.get h2;have hl:=r.length;have hn:=S7;have fin:EP X pins σ Q w s:=⟨z,H,I,gK,q⟩
 exact subscriptTail_builtinR (x:=w) pl.typeIs slot_tuple_getitem.lookup
  (getItem_tuple (j:=j) (Q:=λr s'=>r=w/\EP X pins σ Q r s') pl () () (by rw[aE,<- hl];exact h1) (by simpa using ew) ⟨rfl,fin⟩) hs
theorem QB:tq X VP:=by
 intro value slice pins s σ H x y v u Q I rx ry h hs;obtain⟨z,i,c,rfl,rfl,hz,he,q⟩:=h;obtain⟨t,rfl⟩:=rx;obtain⟨t',rfl⟩:=ry;obtain⟨j,h1,h2,h3,h4,h5⟩:=CS he;have hl:z.cps.toList.length=z.length:=by simp[Str.length]
 rw[hl] at h1 h4 h5;have hn:=S7;exact FA (typeIs_str s z t) slot_str_getitem.lookup (getItem_str (c:=c) (by
  have e1:decide (i < -(2 ^ 63:Int))=false:=aD ();have e2:decide (i>=2 ^ 63)=false:=aD ();rw [e1,e2,Bool.or_false]) (by rw [h1];simpa using h2) ⟨.str ⟨#[c]⟩,H,I.tok _,⟨_,rfl⟩,q⟩) hs
theorem aP5(aX:List Value)(n j:Nat)(u:Value):Obj.mapSeq (·.setIfInBounds j u) { cls:=.type "list",data:=.seq aX.toArray n }={ cls:=.type "list",data:=.seq (aX.set j u).toArray n }:=by
 simp[Obj.mapSeq]
theorem Inv.lst{pins:List (Addr×Obj)}{σ:St}{H:Hp}{s:Shared}{p:Addr}{xs:List V}(I:Inv X pins σ H s)(h:H p=some (.lst xs)) :
  ∃(aX:List Value) (n:Nat),Vals xs aX/\s.heap.get? p=some { cls:=.type "list",data:=.seq aX.toArray n }/\xs.length<=sizeLine:=by
 obtain⟨z,aX,n,r,e⟩:=I.cq p _ h;exact⟨aX,n,r,e,z⟩
theorem Inv.QO{p:Addr}{xs ys:List V}{its':List Value}{n':Nat}{f:Obj->Obj}(I:Inv X pins σ H s)(h:H p=some (.lst xs))(ho:s.heap.get? p=some { cls:=.type "list",data:=.seq aX.toArray n })(hf:f { cls:=.type "list",data:=.seq aX.toArray n }={ cls:=.type "list",data:=.seq its'.toArray n' })(r:Vals ys its')(hz:ys.length<=sizeLine)(t:Nat) :
  Inv X pins σ (upd H p (.lst ys)) { s with heap:=s.heap.update p f,toks:=t }:=by
 have e:(s.heap.update p f).get? p=some { cls:=.type "list",data:=.seq its'.toArray n' }:=by
  rw[bx f ho (by rw[hf]<;>rfl),hf]
 refine I.write (x:=p) (e:=p) (by rw[h];trivial) (.inl rfl) (λb u hb q=>(eQ _ _ (cu hb)).trans q) ⟨_,e⟩ ?_;exact⟨hz,its',n',r,e⟩
def XD:V->V->V->Hp->(Hp->Prop)->Prop:=λo i v H Q=>∃p xs k j,o=.ref p/\i=.int k/\H p=some (.lst xs)/\lO xs.length k=some j/\Q (upd H p (.lst (xs.set j v)))
theorem set_list:CJ X XD:=by
 intro pins s σ H o i v ov iv u Q I ro ri rv h;obtain⟨p,xs,k,j,rfl,rfl,hp,hj,q⟩:=h;cases ro;obtain⟨t,rfl⟩:=ri;obtain⟨aX,n,r,ho,hz⟩:=I.lst hp;obtain⟨h1,h2,h3,h4⟩:=La hj;have hl:=r.length;have hn:=S7;have I':Inv X pins σ (upd H p (.lst (xs.set j v))) { s with heap:=s.heap.update p (Obj.mapSeq (·.setIfInBounds j u)) } :=
  I.QO hp ho (aP5 aX n j u) (r.set rv j) (by rw[List.length_set];exact hz) s.toks
 by_cases h0:0<=k
 ·have hk:k.toNat=j:=by
   rw[seqIndex_of h0 h4] at h1;exact aS h1
  exact PySem.W.ki_setAt ho h0 () (by rw[aE,<- hl];exact h4) (by rw[hk];exact⟨_,I',q⟩)
 ·have hk:(k+(aX.toArray.size:Int)).toNat=j:=by
   rw[seqIndex_neg () h3] at h1;rw[aE,<- hl];exact aS h1
  exact PySem.W.ki_setBack ho () (by rw[aE,<- hl];exact h3) () (by rw[hk];exact⟨_,I',q⟩)
theorem aB1(lo hi:Option Int)(n:Nat):(sliceBounds lo hi none n).1=((HT.dW n 0 lo:Nat):Int)/\(sliceBounds lo hi none n).2.1=((HT.dW n n hi:Nat):Int)/\(sliceBounds lo hi none n).2.2=1:=by
 refine⟨?_,?_,rfl⟩
 ·cases lo with
  |none=>simp[sliceBounds,HT.dW]
  |some i =>
   simp only[sliceBounds,HT.dW,Option.getD_none,show(1:Int)>0 by decide,if_true];by_cases h:i<0
   ·simp only[h,if_true]<;>omega
   ·simp only[h,if_false]<;>omega
 ·cases hi with
  |none=>simp[sliceBounds,HT.dW]
  |some i =>
   simp only[sliceBounds,HT.dW,Option.getD_none,show(1:Int)>0 by decide,if_true];by_cases h:i<0
   ·simp only[h,if_true]<;>omega
   ·simp only[h,if_false]<;>omega
theorem Yt(aX:List Value)(lo hi:Option Int):slicePick aX.toArray lo hi none=((aX.drop (HT.dW aX.length 0 lo)).take (HT.dW aX.length aX.length hi-HT.dW aX.length 0 lo)).toArray:=by
 obtain⟨h1,h2,h3⟩:=aB1 lo hi aX.toArray.size;unfold slicePick;rw[h1,h2,h3];simp only[sliceRange_one,pick_run,List.size_toArray]<;>rfl
def VT(K:PySem.W.Frag):V->Option Int->Option Int->Hp->VK->Prop:=λx lo hi H Q=>∃a xs,x=.ref a/\gi K H a xs/\∀p,H p=none->Q (.ref p) (upd H p (.lst (T1 xs lo hi)))
theorem UH:xu X (VT X.K):=by
 intro pins s σ H x v vl vu lo hi sl Q I rx hs pl pu h;obtain⟨a,xs,rfl,hx,q⟩:=h;cases rx;obtain⟨aX,r,ht,hz⟩:=I.list hx;have hlen:=r.length;refine⟨"list",_,oR.lookup,ht.isList.typeIs,?_⟩;refine MA ht.isList hs pl pu .none (by simp) ?_ (by rw[aE]<;>omega);rw[Yt,<- hlen];refine⟨.ref s.heap.objs.size,_,I.laid (t':=s.toks) (o:=.lst (T1 xs lo hi)) (λb ob q=>aj _ q) (av _) ?_,rfl,q _ (I.cq.fresh (av _))⟩;exact⟨aF (JZ xs lo hi) hz,_,0,(r.drop (HT.dW xs.length 0 lo)).take (HT.dW xs.length xs.length hi-HT.dW xs.length 0 lo),aG _ rfl⟩
def HA:V->V->Bool
 |.cE,.cE=>true
 |.bl a,.bl b=>a==b
 |.bl a,.int b=>(if a then 1 else 0)==b
 |.int a,.bl b=>a==(if b then 1 else 0)
 |.int a,.int b=>a==b
 |.str a,.str b=>a==b
 |_,_=>false
theorem aF9:l9 X (.builtin "len") (λxs H Q=>∃p ys,xs=[.ref p]/\(gi X.K H p ys\/iU X.K H p ys)/\Q (.int ys.length) H):=by
 intro pins s σ H xs us Q I r h;obtain⟨p,ys,rfl,hq,q⟩:=h;obtain⟨u,rfl,rx⟩:=vals1 r;cases rx;have hn:=S7;rcases hq with hq|hq
 ·obtain⟨aX,r',pl,hz⟩:=I.list hq;have hlen:=r'.length;exact Calls.call_len_list pl.isList (by simp only[List.size_toArray]<;>omega) ⟨.int ys.length,H,I.tok _,⟨s.toks+1,by rw[aE,hlen]⟩,q⟩
 ·obtain⟨aX,r',pl,hz⟩:=I.tuple hq;have hlen:=r'.length;exact len_tuple pl (by simp only[List.size_toArray]<;>omega) ⟨.int ys.length,H,I.tok _,⟨s.toks+1,by rw[aE,hlen]⟩,q⟩
theorem aF8:l9 X (.builtin "len") (λxs H Q=>∃z,xs=[.str z]/\z.length<=sizeLine/\Q (.int z.length) H):=by
 intro pins s σ H xs us Q I r h;obtain⟨z,rfl,hz,q⟩:=h;obtain⟨u,rfl,t,rfl⟩:=vals1 r;have hn:=S7;exact len_str () ⟨.int z.length,H,I.tok _,⟨_,rfl⟩,q⟩
theorem aF7:l9 X (.type "list") (λxs H Q=>∃p ys,xs=[.ref p]/\(gi X.K H p ys\/iU X.K H p ys)/\∀l,H l=none->Q (.ref l) (upd H l (.lst ys))):=by
 intro pins s σ H xs us Q I r h;obtain⟨p,ys,rfl,hq,q⟩:=h;obtain⟨u,rfl,rx⟩:=vals1 r;cases rx;have fin:∀(aX:List Value),Vals ys aX->ys.length<=sizeLine->∀(h':Heap) (c':Nat),(∀b o',s.heap.get? b=some o'->h'.get? b=some o') ->
   h'.get? s.heap.objs.size=some { cls:=.type "list",dict:=none,data:=.seq aX.toArray c',slots:=#[] }->EP X pins σ Q (.ref s.heap.objs.size) { s with heap:=h' }:=λaX r' hz h' c' kp e =>
  ⟨.ref s.heap.objs.size,_,I.laid (t':=s.toks) kp (av _) (show p0 X.prog X.w _ h' _ (.lst ys) from⟨hz,aX,c',r',e⟩),rfl,q _ (I.cq.fresh (av _))⟩
 rcases hq with hq|hq
 ·obtain⟨aX,r',pl,hz⟩:=I.list hq;have hlen:=r'.length;obtain⟨o,ho,hc,n,hd⟩:=pl.isList;exact call_list_seq p (.inl rfl) ho hc hd (λh' c' kp e=>fin aX r' hz h' c' kp e) (by simp only[List.size_toArray]<;>omega)
 ·obtain⟨aX,r',pl,hz⟩:=I.tuple hq;have hlen:=r'.length;obtain⟨o,ho,hc,n,hd⟩:=pl;exact call_list_seq p (.inr rfl) ho hc hd (λh' c' kp e=>fin aX r' hz h' c' kp e) (by simp only[List.size_toArray]<;>omega)
theorem Yn:l9 X (.type "tuple") (λxs H Q=>∃p ys,xs=[.ref p]/\((gi X.K H p ys/\∀l,H l=none->Q (.ref l) (upd H l (.tup ys)))\/(iU X.K H p ys/\Q (.ref p) H))):=by
 intro pins s σ H xs us Q I r h;obtain⟨p,ys,rfl,h⟩:=h;obtain⟨u,rfl,rx⟩:=vals1 r;cases rx;rcases h with⟨hq,q⟩|⟨hq,q⟩
 ·obtain⟨aX,r',pl,hz⟩:=I.list hq;have hlen:=r'.length;refine call_tuple_list pl.isList (λh' kp=>?_) (by simp only[List.size_toArray]<;>omega);have I1:Inv X pins σ H { s with heap:=h' }:=I.kept (t':=s.toks) kp;have I2:Inv X pins σ (upd H h'.objs.size (.tup ys)) { s with heap:=h'.push { cls:=.type "tuple",data:=.seq aX.toArray } } :=
   I1.laid (t':=s.toks) (λb o e=>aj _ e) (av _) (show p0 X.prog X.w _ _ _ (.tup ys) from⟨hz,aX,r',K2.new _ _⟩)
  exact⟨.ref h'.objs.size,_,I2,rfl,q _ (I1.cq.fresh (av _))⟩
 ·obtain⟨aX,r',pl,hz⟩:=I.tuple hq;exact call_tuple_same pl ⟨.ref p,H,I,rfl,q⟩
def oW(K:PySem.W.Frag)(T:String)(x:V)(H:Hp):Prop:=match x with
 |.str _=>T="str"
 |.int _=>T="int"
 |.ref p=>(T="list"/\∃xs,gi K H p xs)\/(T="tuple"/\∃o,K.lookup p=some o/\o.cls=.type "tuple"/\o.dict=none) \/
   (T="dict"/\((∃kvs,H p=some (.dK kvs))\/∃kvs,H p=some (.dT kvs)))\/(T="set"/\∃S n,H p=some (.set S n))
 |_=>False
theorem KO{T:String}{x:V}{v:Value}(I:Inv X pins σ H s)(r:RelV x v)(ty:oW X.K T x H) :
  s.TypeIs v T/\∀a,v=.ref a->∃ob,s.heap.get? a=some ob/\ob.dict=none:=by
 cases x with
 |str z =>
  obtain⟨t,rfl⟩:=r;cases (show T="str" from ty);exact⟨typeIs_str s z t,λ_ e=>nomatch e⟩
 |int i =>
  obtain⟨t,rfl⟩:=r;cases (show T="int" from ty);exact⟨ny s i t,λ_ e=>nomatch e⟩
 |ref p =>
  cases r;rcases ty with⟨rfl,xs,hq⟩|⟨rfl,o,hk,hc,hd⟩|⟨rfl,hk⟩|⟨rfl,S,n,hk⟩
  ·obtain⟨aX,_,pl,_⟩:=I.list hq;refine⟨pl.isList.typeIs,λa e=>?_⟩;cases e;obtain⟨o,n,e,c,hd,_⟩:=pl;exact⟨o,e,hd⟩
  ·refine⟨⟨o,I.iF p o hk,hc⟩,λa e=>?_⟩;cases e;exact⟨o,I.iF _ o hk,hd⟩
  ·have z:∃o,s.heap.get? p=some o/\o.ExactDict:=by
    rcases hk with⟨kvs,hk⟩|⟨kvs,hk⟩
    ·obtain⟨_,_,_,_,o,_,_,e,ex,_⟩:=I.cq p _ hk;exact⟨o,e,ex⟩
    ·obtain⟨_,_,_,_,o,_,_,e,ex,_⟩:=I.cq p _ hk;exact⟨o,e,ex⟩
   obtain⟨o,e,ex⟩:=z;refine⟨⟨o,e,ex.1⟩,λa e2=>?_⟩;cases e2;exact⟨o,e,ex.2.1⟩
  ·obtain⟨o,_,_,_,e,ex,_⟩:=I.cq p _ hk;refine⟨⟨o,e,ex.1⟩,λa e2=>?_⟩;cases e2;exact⟨o,e,ex.2.1⟩
 |_=>exact False.elim ty
def We(K:PySem.W.Frag)(T:String)(r:V->List V->Hp->VK->Prop)(to:TE):TE:=λσ H Q=>to σ H λx H1=>oW K T x H1/\r x [] H1 Q
def Nb(K:PySem.W.Frag)(T:String)(r:V->List V->Hp->VK->Prop)(to:TE)(t:TA):TE:=λσ H Q=>to σ H λx H1=>oW K T x H1/\t σ H1 λxs H2=>r x xs H2 Q
variable{o:Expr}{es:List Expr}{to:TE}{t:TA}{name:Str}{apos gD:Pos}{T id:String}{r:V->List V->Hp->VK->Prop}
theorem Rq(pa:PlainAttrs T)(slot:Slot T name id)(ke:typeOf (.builtin id)=pure (.type "method_descriptor"))(hm:pQ X id r)(ho:PE X o to)(jK:attributeBase o name X.env (eval o X.env)=eval o X.env:=by rfl)(jI:(apos.endLine==gD.line)=true:=by rfl):PE X (.Call (.Attribute o name apos) [] [] gD) (We X.K T r to):=by
 intro pins s σ H Q I h;refine wpAny_Call_method0_late jK jI (cX (ho pins s σ H _ I h) λv s1 bD=>?_);obtain⟨x,H1,I1,r1,ty,q1⟩:=bD;obtain⟨h1,h2⟩:=KO I1 r1 ty;exact⟨T,id,pa,slot,ke,h1,h2,Calls.callWith_builtin rfl (PySem.evalArgs_none (hm pins s1 σ H1 x [] v [] Q I1 r1 .nil q1))⟩
theorem Xs(pa:PlainAttrs T)(slot:Slot T name id)(ke:typeOf (.builtin id)=pure (.type "method_descriptor"))(hm:pQ X id r)(ho:PE X o to)(ha:PA X (e::es) t)(jK:attributeBase o name X.env (eval o X.env)=eval o X.env:=by rfl)(rW:((backTo gD (starEach (e :: es) X.env)).all (λx=>!x.1) && (backToKw gD (keywordEach [] X.env)).all (λx=>x.1.isSome)
   && decide ((e :: es).length + ([]:List Keyword).length + (if ([]:List Keyword).isEmpty then 0 else 1) < 30))=true:=by rfl)(jI:(apos.endLine==gD.line)=true:=by rfl)(hs:starEach (e::es) X.env=(false,eval e X.env)::starEach es X.env:=by rfl)(gZ:(backTo gD (starEach es X.env)).any (·.1)=false:=by rfl) :
  PE X (.Call (.Attribute o name apos) (e::es) [] gD) (Nb X.K T r to t):=by
 intro pins s σ H Q I h;refine wpAny_Call_method_late jK rW jI rfl (cX (ho pins s σ H _ I h) λv s1 bD=>?_);obtain⟨x,H1,I1,r1,ty,q1⟩:=bD;obtain⟨h1,h2⟩:=KO I1 r1 ty;refine⟨T,id,pa,slot,ke,h1,h2,?_⟩;have hA:=ha gD pins s1 σ H1 _ I1 q1;rw[hs] at hA ⊢;refine Calls.callWith_builtin (by show(false||(backTo gD (starEach es X.env)).any (·.1))=false;rw[gZ]<;>rfl) (Calls.evalArgs_plain ?_);exact cX hA λus s2 ⟨vs,H2,I2,r2,q2⟩=>hm pins s2 σ H2 x vs v us Q I2 r1 r2 q2
end
def Mr(X:Cx)(id:String)(r:V->List V->Hp->VK->Prop):Prop :=
 ∀(pins:List (Addr×Obj)) (s:Shared) (σ:St) (H:Hp) (x:V) (xs:List V) (v:Value) (us:List Value) (Q:VK),Inv X pins σ H s->RelV x v->Vals xs us->r x xs H Q ->
  wpAny (model X.prog X.w) X.A (call (.builtin id) (v::us)) (EP X pins σ Q) X.xe s
theorem Vals.one{x:V}{us:List Value}(h:Vals [x] us):∃u,us=[u]/\RelV x u:=by
 cases h with
 |cons r h =>
  cases h;exact⟨_,rfl,r⟩
theorem Vals.eraseIdx:∀{xs:List V} {us:List Value} (i:Nat),Vals xs us->Vals (xs.eraseIdx i) (us.eraseIdx i)
 |_,_,_,.nil=>.nil
 |_,_,0,.cons _ t=>t
 |_,_,i+1,.cons r t=>.cons r (Vals.eraseIdx i t)
theorem Vals.reverse{xs:List V}{us:List Value}(h:Vals xs us):Vals xs.reverse us.reverse:=by
 induction h with
 |nil=>exact .nil
 |cons r t ih=>rw[ie,ie];exact Vals.append ih (.cons r .nil)
theorem Vals.rep{xs:List V}{us:List Value}(h:Vals xs us):∀k:Nat,Vals (List.replicate k xs).flatten (List.replicate k us).flatten
 |0=>.nil
 |k+1=>by
  rw[cA,cA,dF,dF];exact Vals.append h (Vals.rep h k)
theorem Jv{α:Type}:∀(l:List α) (i:Nat),(l.eraseIdx i).length<=l.length
 |[],_=>av _
 |_::_,0=>cB _
 |_::r,i+1=>Nat.succ_le_succ (Jv r i)
theorem foldl_rep(aX:List Value):∀(k:Nat) (acc:List Value),
  List.foldl (λx1 x2=>x1++x2) acc.toArray (List.replicate k aX.toArray)=(acc++(List.replicate k aX).flatten).toArray
 |0,acc=>by simp
 |k+1,acc=>by
  have e:acc.toArray++aX.toArray=(acc++aX).toArray:=by simp
  have e2:(acc++aX)++(List.replicate k aX).flatten=acc++(List.replicate (k+1) aX).flatten:=by
   rw[cA,dF,bI]
  rw[<- e2,<- foldl_rep aX k (acc++aX),<- e,cA,nC]
section
variable{l:Addr}{xs ys:List V}
theorem Inv.qG{its':List Value}{f:Array Value->Array Value}{t':Nat}(I:Inv X pins σ H s)(hH:H l=some (.lst xs))(e:s.heap.get? l=some { cls:=.type "list",data:=.seq aX.toArray n })(hf:f aX.toArray=its'.toArray)(hv:Vals ys its')(hz:ys.length<=sizeLine) :
  Inv X pins σ (upd H l (.lst ys)) { s with heap:=s.heap.update l (Obj.mapSeq f),toks:=t' }:=by
 have q:=PySem.IsL.update e f;rw[hf] at q;refine I.write (x:=l) (e:=l) (by rw[hH];exact trivial) (.inl rfl) (λb' u hb hu=>(eQ s.heap (Obj.mapSeq f) (cu hb)).trans hu) ⟨_,q⟩ ?_;exact⟨hz,its',_,hv,q⟩
theorem Inv.Ic{t':Nat}(I:Inv X pins σ H s)(hv:Vals ys aX)(hz:ys.length<=sizeLine) :
  Inv X pins σ (upd H s.heap.objs.size (.lst ys)) { s with heap:=s.heap.push { cls:=.type "list",data:=.seq aX.toArray },toks:=t' } :=
 I.laid (λ_ _ q=>aj _ q) (av _) ⟨hz,aX,0,hv,aG _ rfl⟩
theorem Inv.fresh(I:Inv X pins σ H s):H s.heap.objs.size=none:=I.cq.fresh (av _)
theorem Inv.xp(I:Inv X pins σ H s)(hH:H l=some (.lst xs)):xs.length<=sizeLine/\∃(aX:List Value) (n:Nat),Vals xs aX/\xs.length=aX.length/\s.heap.get? l=some { cls:=.type "list",data:=.seq aX.toArray n }:=by
 obtain⟨z,aX,n,r,e⟩:=I.cq l _ hH;exact⟨z,aX,n,r,r.length,e⟩
theorem a65(h:n<=sizeLine):Builtin.List.listTooLong n=false:=by
 unfold Builtin.List.listTooLong;exact aD ()
end
def Uo:V->List V->Hp->VK->Prop:=λx vs H Q=>∃l xs y,x=.ref l/\vs=[y]/\H l=some (.lst xs)/\xs.length<sizeLine/\Q .cE (upd H l (.lst (xs++[y])))
theorem Zj:Mr X "list.append" Uo:=by
 intro pins s σ H x vs v us Q I rx rv h;obtain⟨l,xs,y,rfl,rfl,hH,hz,q⟩:=h;cases rx;obtain⟨u,rfl,ru⟩:=rv.one;obtain⟨z,aX,n,r,hl,e⟩:=I.xp hH;refine km F.slot_list_append ⟨_,e,rfl⟩ F.entry_list_append (F.args_list_append_2 _ _) (PySem.list_append l aX.toArray n u (by rw[aE];omega)) ⟨e,?_⟩;refine⟨.cE,_,I.qG (its':=aX++[u]) hH e (by simp) (r.append (.cons ru .nil)) ?_,rfl,q⟩;rw[bj,jz];omega
def RQ:V->List V->Hp->VK->Prop:=λx vs H Q=>∃l xs i k y,x=.ref l/\vs=[.int i]/\H l=some (.lst xs)/\-(2 ^ 63)<=i/\i<2 ^ 63/\seqIndex? i xs.length=some k/\xs[k]?=some y/\Q y (upd H l (.lst (xs.eraseIdx k)))
theorem a68:Mr X "list.pop" RQ:=by
 intro pins s σ H x vs v us Q I rx rv h;obtain⟨l,xs,i,k,y,rfl,rfl,hH,h1,h2,hk,hy,q⟩:=h;cases rx;obtain⟨u,rfl,ru⟩:=rv.one;obtain⟨t,rfl⟩:=ru;obtain⟨z,aX,n,r,hl,e⟩:=I.xp hH;obtain⟨w,hw,gK⟩:=r.get hy;refine km F.slot_list_pop ⟨_,e,rfl⟩ F.entry_list_pop (F.args_list_pop_2 _ _)
  (MeetsSeq.list_pop_at l aX.toArray n i t k w (fitsIndex_both h1 h2) (by rw[aE,<- hl];exact hk) (by rw[<- eO];exact hw) (by rw[aE];omega)) ⟨e,?_⟩
 refine⟨y,_,I.qG (its':=aX.eraseIdx k) hH e ?_ (r.eraseIdx k) ?_,gK,q⟩
 ·show aX.toArray.eraseIdxIfInBounds k=(aX.eraseIdx k).toArray;rw[List.eraseIdxIfInBounds_toArray]
 ·have:=Jv xs k;omega
def VN:R2:=λx y H Q=>∃l b xs zs,x=.ref l/\y=.ref b/\H l=some (.lst xs)/\H b=some (.lst zs)/\xs.length+zs.length<=sizeLine/\∀p,H p=none->Q (.ref p) (upd H p (.lst (xs++zs)))
theorem Rb:gs X (binaryOp .Add) VN:=by
 intro pins s σ H x y v u Q I rx ry h;obtain⟨l,b,xs,zs,rfl,rfl,hH,hB,hz,q⟩:=h;cases rx;cases ry;obtain⟨z,aX,n,r,hl,e⟩:=I.xp hH;obtain⟨z2,nT,n2,r2,jO,e2⟩:=I.xp hB;refine PySem.P.add_list e e2 ?_ (by rw[aE,aE];omega);have ea:aX.toArray++nT.toArray=(aX++nT).toArray:=by simp
 rw[ea];exact⟨.ref _,_,I.Ic (t':=s.toks) (r.append r2) (by rw[bj];omega),rfl,q _ I.fresh⟩
def VR:R2:=λx y H Q=>∃l k xs,x=.ref l/\y=.int k/\H l=some (.lst xs)/\-(2 ^ 63)<=k/\k<2 ^ 63/\xs.length*k.toNat<=sizeLine /\
 ∀p,H p=none->Q (.ref p) (upd H p (.lst (List.replicate k.toNat xs).flatten))
theorem len_rep(xs:List α)(k:Nat):(List.replicate k xs).flatten.length=k*xs.length:=by
 induction k with
 |zero=>simp
 |succ k ih=>rw[cA,dF,bj,ih,Nat.succ_mul,Nat.add_comm]
theorem Ri:gs X (binaryOp .Mult) VR:=by
 intro pins s σ H x y v u Q I rx ry h;obtain⟨l,k,xs,rfl,rfl,hH,h1,h2,hz,q⟩:=h;cases rx;obtain⟨t,rfl⟩:=ry;obtain⟨z,aX,n,r,hl,e⟩:=I.xp hH;have hlen:aX.toArray.size*k.toNat<=sizeLine:=by rw[aE,<- hl];exact hz
 have Bz:¬aX.toArray.size*k.toNat>(2 ^ 63-1) / 8:=by
  have:(sizeLine:Nat)<=(2 ^ 63-1) / 8:=by decide
  omega
 have Bw:¬(!Builtin.List.listFitsIndex k)=true:=by
  rw[fitsIndex_both h1 h2];exact fy
 have vO:¬Builtin.List.listTooLong (aX.toArray.size*k.toNat)=true:=by
  rw[a65 hlen];exact fy
 have mL:List.foldl (λx1 x2=>x1++x2) #[] (List.replicate (if aX.toArray.isEmpty=true then 0 else k.toNat) aX.toArray)=(List.replicate k.toNat aX).flatten.toArray:=by
  have f0:∀m:Nat,List.foldl (λx1 x2=>x1++x2) #[] (List.replicate m aX.toArray)=(List.replicate m aX).flatten.toArray:=λm=>by
   have:=foldl_rep aX m [];rw[nB] at this;exact this
  rw[f0];cases aX with
  |nil=>simp
  |cons a r'=>rw[if_neg (by simp)]
 refine Fz (T:="list") (U:="int") ∅ ⟨_,e,rfl⟩ (λs'=>ny s' k t) noFill_list_mul F.fills_int_mul kH repeat_list F.slot_int_index.lookup
  (km kH (ny s k t) F.entry_int_rmul (F.args_int_rmul_2 _ _) (int___rmul___int_list k t l aX.toArray n)
   ⟨e,rfl,⟨_,e,rfl⟩,km F.slot_list_mul ⟨_,e,rfl⟩ F.entry_list_mul (F.args_list_mul_2 _ _) (AutoListH.list___mul___list_int_3 l aX.toArray n k t Bw Bz vO) ⟨e,?_⟩⟩)
 rw[mL];exact⟨.ref _,_,I.Ic (t':=s.toks) (r.rep k.toNat) (by rw[len_rep,lC];exact hz),rfl,q _ I.fresh⟩
section
variable{κ:Type}[DecidableEq κ]
def L8(kvs:List (κ×V))(k:κ):Option V:=(kvs.find? λkv=>decide (kv.1=k)).map (·.2)
def putK(kvs:List (κ×V))(k:κ)(v:V):List (κ×V) :=
 if(kvs.any λkv=>decide (kv.1=k))=true then kvs.map (λkv=>if kv.1=k then(kv.1,v) else kv) else kvs++[(k,v)]
theorem DB{p:κ×V}{r:List (κ×V)}{k:κ}(e:p.1=k):L8 (p::r) k=some p.2:=by simp[L8,List.find?_cons,e]
theorem DA{p:κ×V}{r:List (κ×V)}{k:κ}(e:¬p.1=k):L8 (p::r) k=L8 r k:=by simp[L8,List.find?_cons,e]
theorem Mi(k:κ):∀kvs:List (κ×V),(kvs.any λkv=>decide (kv.1=k))=(L8 kvs k).isSome
 |[]=>rfl
 |p::r=>by
  rw[fV];by_cases e:p.1=k
  ·simp only[DB e,decide_eq_true e,Bool.true_or,Option.isSome_some]
  ·rw[DA e,aD e,qS];exact Mi k r
theorem Kc(kvs:List (κ×V))(k:κ)(v:V):(putK kvs k v).length<=kvs.length+1:=by
 unfold putK;split
 ·rw[ag];omega
 ·rw[bj,eY,List.length_nil];omega
theorem G0.P5{u:Option Value}(r:G0 o u):o.isSome=u.isSome:=by
 cases o with
 |none=>cases u with
  |none=>rfl
  |some _=>exact(show False from r).elim
 |some _=>cases u with
  |none=>exact(show False from r).elim
  |some _=>rfl
theorem G0.getD{o:Option V}{u:Option Value}{d:V}{d':Value}(r:G0 o u)(rd:RelV d d'):RelV (o.getD d) (u.getD d'):=by
 cases o with
 |none=>cases u with
  |none=>exact rd
  |some _=>exact(show False from r).elim
 |some _=>cases u with
  |none=>exact(show False from r).elim
  |some _=>exact r
theorem KV.val{kvs:List (κ×V)}{vs:List (κ×Value)}(r:KV kvs vs)(k:κ):G0 (L8 kvs k) (valueAt vs k):=by
 unfold KV at r
 induction r with
 |nil=>exact True.intro
 |@cons p q ps qs h t ih =>
  obtain⟨h1,h2⟩:=h;by_cases e:p.1=k
  ·have e':q.1=k:=h1.symm.trans e;have b:valueAt (q::qs) k=some q.2:=by simp[valueAt,List.find?_cons,e']
   rw[DB e,b];exact h2
  ·have e':¬q.1=k:=λz=>e (h1.trans z);have b:valueAt (q::qs) k=valueAt qs k:=by simp[valueAt,List.find?_cons,e']
   rw[DA e,b];exact ih
theorem KV.any{kvs:List (κ×V)}{vs:List (κ×Value)}(r:KV kvs vs)(k:κ):(kvs.any λkv=>decide (kv.1=k))=vs.any λkv=>decide (kv.1=k):=by
 unfold KV at r
 induction r with
 |nil=>rfl
 |cons h t ih=>rw[fV,fV,ih,h.1]
theorem KV.Fl{kvs:List (κ×V)}{vs:List (κ×Value)}(r:KV kvs vs)(k:κ)(ry:RelV y u) :
  KV (kvs.map λkv=>if kv.1=k then(kv.1,y) else kv) (vs.map λkv=>if kv.1=k then(kv.1,u) else kv):=by
 unfold KV at r ⊢
 induction r with
 |nil=>exact .nil
 |@cons p q ps qs h t ih =>
  rw[bw,bw];refine .cons ?_ ih;obtain⟨h1,h2⟩:=h;by_cases e:p.1=k
  ·rw[aK e,aK (h1.symm.trans e)];exact⟨h1,ry⟩
  ·rw[aB e,aB (λz=>e (h1.trans z))];exact⟨h1,h2⟩
theorem KV.put{kvs:List (κ×V)}{vs:List (κ×Value)}(r:KV kvs vs)(k:κ)(ry:RelV y u):KV (putK kvs k y) (stored vs k u):=by
 unfold putK stored;rw[r.any k];by_cases e:(vs.any λkv=>decide (kv.1=k))=true
 ·rw[aK e,aK e];exact r.Fl k ry
 ·rw[aB e,aB e];exact Paired.snoc r ⟨rfl,ry⟩
theorem KV.keys{kvs:List (κ×V)}{vs:List (κ×Value)}(r:KV kvs vs):kvs.map (·.1)=vs.map (·.1):=by
 unfold KV at r
 induction r with
 |nil=>rfl
 |cons h t ih=>rw[bw,bw,ih,h.1]
theorem KV.length{kvs:List (κ×V)}{vs:List (κ×Value)}(r:KV kvs vs):kvs.length=vs.length:=mX r
end
theorem uC{k:Key}(r:RelV (kV k) u):(o6 P w).is k u=true:=by
 cases k with
 |inl i=>obtain⟨t,e⟩:=(show ∃t,u=Value.int i t from r);subst e;exact V4 P w i t
 |inr x=>obtain⟨t,e⟩:=(show ∃t,u=Value.str x t from r);subst e;exact aH8 P w x t
theorem Ju{P:Program}{w:World}:∀{ks:List Key} {us:List Value},Vals (ks.map kV) us->ItemsAre (o6 P w) ks us
 |[],_,r=>by rw[List.map_nil] at r;cases r;exact .nil
 |k::ks,_,r=>by
  rw[bw] at r;cases r with
  |cons h t=>exact .cons (uC h) (Ju t)
noncomputable abbrev KT(H:Hp):List (List Key×V)->List (List Key×Addr×Value)->Prop:=Paired λp q=>p.1=q.1/\H q.2.1=some (.tup (p.1.map kV))/\RelV p.2 q.2.2
theorem KT.val{xs:List (List Key×Addr×Value)}(r:KT H kvs xs)(k:List Key):G0 (L8 kvs k) ((atKey xs k).map (·.2)):=by
 induction r with
 |nil=>exact True.intro
 |@cons p q ps qs h t ih =>
  obtain⟨h1,_,h2⟩:=h;by_cases e:p.1=k
  ·have e':q.1=k:=h1.symm.trans e;have b:atKey (q::qs) k=some q.2:=by simp[atKey,List.find?_cons,e']
   rw[DB e,b];exact h2
  ·have e':¬q.1=k:=λz=>e (h1.trans z);have b:atKey (q::qs) k=atKey qs k:=by simp[atKey,List.find?_cons,e']
   rw[DA e,b];exact ih
theorem KT.Fl{xs:List (List Key×Addr×Value)}(r:KT H kvs xs)(k:List Key)(ry:RelV y u) :
  KT H (kvs.map λkv=>if kv.1=k then(kv.1,y) else kv) (xs.map (putAt k u)):=by
 induction r with
 |nil=>exact .nil
 |@cons p q ps qs h t ih =>
  rw[bw,bw];refine .cons ?_ ih;obtain⟨h1,h2,h3⟩:=h;unfold putAt;by_cases e:p.1=k
  ·rw[aK e,aK (h1.symm.trans e)];exact⟨h1,h2,ry⟩
  ·rw[aB e,aB (λz=>e (h1.trans z))];exact⟨h1,h2,h3⟩
theorem KT.put{xs:List (List Key×Addr×Value)}(r:KT H kvs xs)(k:List Key){b:Addr}(hb:H b=some (.tup (k.map kV)))(ry:RelV y u) :
  KT H (putK kvs k y) (storedH xs k b u):=by
 have e:(kvs.any λkv=>decide (kv.1=k))=(atKey xs k).isSome:=by
  rw[Mi,(r.val k).P5,hV]
 unfold putK storedH;rw[e];by_cases q:(atKey xs k).isSome=true
 ·rw[aK q,aK q];exact r.Fl k ry
 ·rw[aB q,aB q];exact Paired.snoc r ⟨rfl,hb,ry⟩
theorem KT.keeps{xs:List (List Key×Addr×Value)}(r:KT H kvs xs)(ht:∀b ys,H b=some (.tup ys)->H' b=some (.tup ys)):KT H' kvs xs :=
 Paired.Ie r λ_ _ z=>⟨z.1,ht _ _ z.2.1,z.2.2⟩
section
variable{h:Heap}
theorem IV{u:HO}(ok:gS P w H h)(e:Rd H a u):p0 P w H h a u:=e.ok ok
theorem U8{kvs:List (Key×V)}(ok:gS P w H h)(e:Rd H a (.dK kvs)):kvs.length<=sizeLine/\(a==sysModules)=false/\∃vs,KV kvs vs/\h.DictOf (o6 P w) a vs :=
 show p0 P w H h a (.dK kvs) from IV ok e
theorem ID{kvs:List (Key×V)}(ok:gS P w H h)(e:H a=some (.dK kvs)):kvs.length<=sizeLine/\(a==sysModules)=false/\∃vs,KV kvs vs/\h.DictOf (o6 P w) a vs:=U8 ok (.inl e)
theorem Y1{ks:List Key}(ok:gS P w H h)(e:H a=some (.tup (ks.map kV))):(tupleKind (o6 P w)).is h ks a:=by
 obtain⟨_,aX,r,o,h1,h2,⟨n,h3⟩,_⟩:=(show p0 P w H h a (.tup (ks.map kV)) from ok a _ e)
 exact⟨o,aX.toArray,n,h1,h2,h3,by simpa using Ju r⟩
theorem uA(ok:gS P w H h)(e:Rd H a (.dT kvs)):kvs.length<=sizeLine/\(a==sysModules)=false /\
  ∃xs,KT H kvs xs/\h.DictOfH (tupleKind (o6 P w)) a xs:=by
 obtain⟨z,y,xs,r,o,es,ep,h1,h2,h3,h4,h5⟩:=(show p0 P w H h a (.dT kvs) from IV ok e)
 refine⟨z,y,xs,r,o,es,ep,h1,h2,h3,h4,λx hx=>?_,h5⟩;have all:∀{l:List (List Key×V)} {m:List (List Key×Addr×Value)},KT H l m->∀x∈m,(tupleKind (o6 P w)).is h x.1 x.2.1:=by
  intro l m q
  induction q with
  |nil=>intro x hx;exact nomatch hx
  |@cons p q ps qs hq t ih =>
   intro x hx;rcases aH.mp hx with e|hx
   ·subst e;exact Y1 ok (by rw[<- hq.1];exact hq.2.1)
   ·exact ih x hx
 exact all r x hx
theorem WK(ok:gS P w H h)(e:H a=some (.dT kvs)):kvs.length<=sizeLine/\(a==sysModules)=false /\
  ∃xs,KT H kvs xs/\h.DictOfH (tupleKind (o6 P w)) a xs:=uA ok (.inl e)
end
def Q1(H:Hp)(a:Addr)(y:V)(r:Option V):Prop :=
 (∃kvs k,Rd H a (.dK kvs)/\y=kV k/\r=L8 kvs k)\/∃kvs k b,Rd H a (.dT kvs)/\y=.ref b/\H b=some (.tup (k.map kV))/\r=L8 kvs k
def zS(H:Hp)(a:Addr)(y v:V)(H':Hp):Prop :=
 (∃kvs k,H a=some (.dK kvs)/\y=kV k/\kvs.length<sizeLine/\H'=upd H a (.dK (putK kvs k v))) \/
 ∃kvs k b,H a=some (.dT kvs)/\y=.ref b/\H b=some (.tup (k.map kV))/\kvs.length<sizeLine/\H'=upd H a (.dT (putK kvs k v))
theorem Q1.k{H:Hp}{a:Addr}{kvs:List (Key×V)}{k:Key}(e:H a=some (.dK kvs)):Q1 H a (kV k) (L8 kvs k):=.inl ⟨kvs,k,.inl e,rfl,rfl⟩
theorem zS.k{H:Hp}{a:Addr}{kvs:List (Key×V)}{k:Key}{v:V}(e:H a=some (.dK kvs))(hl:kvs.length<sizeLine):zS H a (kV k) v (upd H a (.dK (putK kvs k v))):=.inl ⟨kvs,k,e,rfl,hl,rfl⟩
section
variable{v:V}{r:Value}
theorem Inv.big(I:Inv X pins σ H s):sysModules<s.heap.objs.size:=by
 have h:mainGlobals<s.heap.objs.size:=(I.mod.glob.keeps I.bk).lt;exact cN ∅ h
theorem a00(hu:A.units+1<cLine)(I:Inv X pins σ H s)(g:Q1 H a y (some v))(ry:RelV y u)(h:∀w' s',Inv X pins σ H s'->RelV v w'->Q w' s') :
  wpAny (model X.prog X.w) A (getItem (.ref a) u) Q E s:=by
 rcases g with⟨kvs,k,e,ey,l⟩|⟨kvs,k,b,e,ey,eb,l⟩
 ·subst ey;obtain⟨z,hd,vs,rel,dd⟩:=U8 I.cq e;obtain⟨w',hw,gK⟩:=G0.some_of (v:=v) (o:=valueAt vs k) (by rw[l];exact rel.val k);exact wpAny_getItem_of (uC ry) dd.mapOf hw (h w' _ (I.tok _) gK)
 ·subst ey;cases (show u=Value.ref b from ry);obtain⟨z,hd,xs,rel,dd⟩:=uA I.cq e;obtain⟨w',hw,gK⟩:=G0.some_of (v:=v) (o:=(atKey xs k).map (·.2)) (by rw[l];exact rel.val k);obtain⟨p,hp,Bg⟩:=ae.mp hw;refine wpAny_getItem_heap (fK hu) (Y1 I.cq eb) dd hp ?_;rw[Bg];exact h w' _ (I.tok _) gK
theorem Vm(hu:A.units+1<cLine)(I:Inv X pins σ H s)(g:Q1 H a y o)(ry:RelV y u)(h:∀s',Inv X pins σ H s'->Q (.bool o.isSome) s') :
  wpAny (model X.prog X.w) A (compareOp .In u (.ref a)) Q E s:=by
 rcases g with⟨kvs,k,e,ey,l⟩|⟨kvs,k,b,e,ey,eb,l⟩
 ·subst ey;obtain⟨z,hd,vs,rel,dd⟩:=U8 I.cq e;refine wpAny_in_of (uC ry) hd dd.mapOf ?_;rw[<- (rel.val k).P5,<- l];exact h _ (I.tok _)
 ·subst ey;cases (show u=Value.ref b from ry);obtain⟨z,hd,xs,rel,dd⟩:=uA I.cq e;refine wpAny_in_heap (fK hu) (Y1 I.cq eb) hd dd ?_;have q:=(rel.val k).P5;rw[hV] at q;rw[<- q,<- l];exact h _ (I.tok _)
theorem Th(hu:A.units+1<cLine)(I:Inv X pins σ H s)(g:Q1 H a y o)(ry:RelV y u)(h:∀s',Inv X pins σ H s'->Q (.bool (!o.isSome)) s') :
  wpAny (model X.prog X.w) A (compareOp .NotIn u (.ref a)) Q E s:=by
 rcases g with⟨kvs,k,e,ey,l⟩|⟨kvs,k,b,e,ey,eb,l⟩
 ·subst ey;obtain⟨z,hd,vs,rel,dd⟩:=U8 I.cq e;refine wpAny_notIn_of (uC ry) hd dd.mapOf ?_;rw[<- (rel.val k).P5,<- l];exact h _ (I.tok _)
 ·subst ey;cases (show u=Value.ref b from ry);obtain⟨z,hd,xs,rel,dd⟩:=uA I.cq e;refine wpAny_notIn_heap (fK hu) (Y1 I.cq eb) hd dd ?_;have q:=(rel.val k).P5;rw[hV] at q;rw[<- q,<- l];exact h _ (I.tok _)
theorem KU{h':Heap}{t':Nat}{ob:HO}(I:Inv X pins σ H s)(mu:xA (H a))(hs:Heap.SameBut a s.heap h')(he:∃q,h'.get? a=some q)(new:p0 X.prog X.w (upd H a ob) h' a ob) :
  Inv X pins σ (upd H a ob) { s with heap:=h',toks:=t' } :=
 I.write (x:=a) (e:=a) mu (.inl rfl) (λb q hb z=>(hs.2 b hb).trans z) he new
theorem EJ{h':Heap}{kvs:List (Key×V)}{vs:List (Key×Value)}(z:kvs.length<=sizeLine)(hd:(a==sysModules)=false)(rel:KV kvs vs)(dd:h'.DictOf (o6 P w) a vs) :
  p0 P w H' h' a (.dK kvs):=⟨z,hd,vs,rel,dd⟩
theorem YV{Q:Unit->Shared->Prop}(hu:A.units+1<cLine)(I:Inv X pins σ H s)(g:zS H a y v H')(ry:RelV y u)(rv:RelV v r)(h:∀s',Inv X pins σ H' s'->Q Unit.unit s') :
  wpAny (model X.prog X.w) A (setItem (.ref a) u r) Q E s:=by
 rcases g with⟨kvs,k,e,ey,l,eH⟩|⟨kvs,k,b,e,ey,eb,l,eH⟩
 ·subst ey eH;obtain⟨z,hd,vs,rel,dd⟩:=ID I.cq e;have hz:vs.length<=sizeLine:=by rw[<- rel.length];exact z
  have hl:(putK kvs k v).length<=sizeLine:=by have:=Kc kvs k v;omega
  refine wpAny_setItem_pairs (hsz:=hz) (uC ry) dd λh' ui hs=>h _ ?_;have he:∃q,h'.get? a=some q:=let ⟨q,_,_,hq,_⟩:=ui;⟨q,hq⟩
  exact KU I (by rw[e];exact True.intro) hs he (EJ hl hd (rel.put k rv) ui)
 ·subst ey eH;cases (show u=Value.ref b from ry);obtain⟨z,hd,xs,rel,dd⟩:=WK I.cq e;have hz:xs.length<=sizeLine:=by rw[<- mX rel];exact z
  have hl:(putK kvs k v).length<=sizeLine:=by have:=Kc kvs k v;omega
  refine wpAny_setItem_heap (hsz:=hz) (fK hu) (Y1 I.cq eb) dd λh' ui hs=>h _ ?_;obtain⟨q,es,ep,hq,h2,h3,h4,_,h5⟩:=ui;refine KU I (by rw[e];exact True.intro) hs ⟨q,hq⟩ ⟨hl,hd,_,(rel.put k eb rv).keeps λc ys ec=>?_,q,es,ep,hq,h2,h3,h4,h5⟩;rw[i6 (Xh ec e (λz=>nomatch z))];exact ec
end
section
variable{kvs:List (Key×V)}
theorem WI(I:Inv X pins σ H s)(e:Rd H a (.dK kvs))(h:∀t s',Inv X pins σ H s'->Q (.int kvs.length t) s'):wpAny (model X.prog X.w) A (call (.builtin "len") [.ref a]) Q E s:=by
 obtain⟨z,hd,vs,rel,dd⟩:=U8 I.cq e;refine call_len_dict hd dd (by rw[<- rel.length];rw[lB] at z;omega) ?_;rw[<- rel.length];exact h _ _ (I.tok _)
end
theorem aI2(I:Inv X pins σ H s)(g:Q1 H a y o):s.TypeIs (.ref a) "dict":=by
 rcases g with⟨kvs,k,e,_,_⟩|⟨kvs,k,b,e,_,_,_⟩
 ·obtain⟨_,_,vs,_,dd⟩:=U8 I.cq e;exact dd.typeIs
 ·obtain⟨_,_,xs,_,dd⟩:=uA I.cq e;exact dd.typeIs
theorem a82(h:Heap)(hb:sysModules<h.objs.size):p0 P w H (h.push { cls:=.type "dict",data:=.dict #[] }) h.objs.size (.dK []) :=
 ⟨cJ _,cO.mpr (cu (aI hb)),[],.nil,Heap.DictOf.new h⟩
def SF:TE:=λ_ H Q=>∀p,H p=none->Q (.ref p) (upd H p (.dK []))
theorem a59:PE X (.Dict [] [] pos) SF:=λpins s σ H Q I h =>
 wpAny_Dict_empty ⟨.ref s.heap.objs.size,_,I.laid (a:=s.heap.objs.size) (o:=.dK []) (t':=s.toks) (λ_ _ q=>aj _ q) (av _) (a82 s.heap I.big),rfl,h _ (I.cq.fresh (av _))⟩
def QT(kvs more:List (Key×V)):List (Key×V):=more.foldl (λacc kv=>putK acc kv.1 kv.2) kvs
theorem KV.merge:∀{more:List (Key×V)} {rs:List (Key×Value)} {kvs:List (Key×V)} {vs:List (Key×Value)},KV more rs->KV kvs vs->KV (QT kvs more) (merged vs rs):=by
 intro more rs kvs vs r;unfold KV at r
 induction r generalizing kvs vs with
 |nil=>intro q;exact q
 |@cons p q ps qs h t ih =>
  intro r0;have e:KV (putK kvs p.1 p.2) (stored vs q.1 q.2):=by
   have:=r0.put p.1 h.2;rw[<- h.1];exact this
  exact ih e
section
variable{d:V}{r:Value}
theorem Qs(hu:A.units+1<cLine)(I:Inv X pins σ H s)(g:Q1 H a y o)(ry:RelV y u)(rd:RelV d r)(h:∀w' s',Inv X pins σ H s'->RelV (o.getD d) w'->Q w' s') :
  wpAny (model X.prog X.w) A (call (.builtin "dict.get") [.ref a,u,r]) Q E s:=by
 rcases g with⟨kvs,k,e,ey,l⟩|⟨kvs,k,b,e,ey,eb,l⟩
 ·subst ey;obtain⟨z,hd,vs,rel,dd⟩:=U8 I.cq e;refine call_meetsIn jt dd.typeIs uK (tB _ _ _) (meets_dict_get_default (o6 X.prog X.w) a (uC ry) hd r) ⟨_,dd.mapOf,h _ _ (I.tok _) ?_⟩;rw[l];exact(rel.val k).getD rd
 ·subst ey;cases (show u=Value.ref b from ry);obtain⟨z,hd,xs,rel,dd⟩:=uA I.cq e;refine call_meetsIn jt dd.typeIs uK (tB _ _ _) (meetsH_dict_get_default (tupleKind (o6 X.prog X.w)) a b hd r) ⟨fK hu,k,xs,Y1 I.cq eb,dd,h _ _ (I.tok _) ?_⟩;rw[l];exact(rel.val k).getD rd
end
section
variable{kvs:List (Key×V)}
theorem a85(I:Inv X pins σ H s)(e:Rd H a (.dK kvs))(h:∀p s',H p=none->Inv X pins σ (upd H p (.dK kvs)) s'->Q (.ref p) s'):wpAny (model X.prog X.w) A (call (.type "dict") [.ref a]) Q E s:=by
 obtain⟨z,hd,vs,rel,dd⟩:=U8 I.cq e;refine kt_call_dict hd dd (by rw[<- rel.length];exact z) λh' ui hs=>?_;refine h _ _ (I.cq.fresh (av _)) (I.laid (a:=s.heap.objs.size) (o:=.dK kvs) (t':=s.toks) (λb q hq=>?_) (av _) (EJ z (cO.mpr (cu (aI I.big))) rel ui));exact(hs.2 b (aI (ay hq))).trans (aj _ hq)
end
end L2
namespace My
open PySem PySem.W PySem.Calls PyProof.Rows
theorem YJ{P:Params}{h:Heap}:∀(ns:List Int) (vs:List Value),WellAll P h vs (ns.map WData.int)->IntsAre vs ns:=by
 intro ns
 induction ns with
 |nil =>
  intro vs w;rw[List.map_nil] at w;cases w;exact .nil
 |cons n ns ih =>
  intro vs w;rw[bw] at w;cases w with
  |cons a b =>
   cases a;exact .cons _ _ (ih _ b)
theorem ZE{l:OpenLaw}{n:Nat}(hn:l.most=some n){P:Params}{h:Heap}{args:List WData}{vals:List Value}(pq:l.row.toRowW.claim.pre args=true)(Bc:WellAll P h vals args) :
  ∃a vs ns,vals=[Value.ref a]/\args=[WData.list (ns.map WData.int)]/\h.get? a=some { cls:=.type "list",data:=.seq vs.toArray }/\IntsAre vs ns/\ns.length<=n:=by
 have kA:WShape.hasAll [] args [.list .int]=true:=(pre_splitW pq).1;have hc:l.pre.holds [] { args:=args }=true:=(pre_splitW pq).2;obtain⟨d,r,rfl,h1,h2⟩:=hasAllW_cons kA;obtain rfl:=hasAllW_nil h2;obtain⟨xs,rfl,h3⟩:=hasW_list h1;obtain⟨ns,rfl⟩:=items_int h3;have hlen:ns.length<=n:=by
  unfold OpenLaw.pre at hc;have h4:(WTm.not (.lt (.lit (.int (n:Int))) (.len (.arg 0)))).holds [] { args:=[.list (ns.map .int)] }=true:=by
   have h4:=(holds_andW hc).1;rw[hn] at h4;exact h4
  have h5:=condW_of h4 (w_not (w_lt w_lit (w_len_list (w_arg rfl))));rw[ag] at h5;refine Nat.le_of_not_lt λq=>?_;have q':(n:Int)<((ns.length:Nat):Int):=by omega
  first
   |(rw[aw q'] at h5;exact absurd h5 ∅)
   |(simp at h5;omega)
 cases Bc with
 |cons w1 w2 =>
  cases w2;cases w1 with
  |list ho jU=>exact⟨_,_,ns,rfl,rfl,ho,YJ ns _ jU,hlen⟩
theorem Zy(l:OpenLaw)(args:List WData):l.row.toRowW.claim.post args (.bool true) args=true :=
 postW_of (r:=l.row.toRowW) (X:=(true==true))
  (show WShape.has [] (.bool true) .bool=true by first|rfl|decide|simp[WShape.has,WShape.arms,WShape.armsAll])
  (show(WTm.eq .res (.lit (.bool true))).value [] { args:=args,res:=some (.bool true),after:=args }=some (.bool (true==true)) from w_eq_bool (w_res rfl) w_lit) rfl
theorem aI6{l:OpenLaw}{n:Nat}{q:Program}{loose:List Str}{XP:(Str->Option Value)->Heap->Prop}{YP:World->Heap->Prop}{d:DefRec}(hn:l.most=some n)(vU:d.params.defaults=[])(call:∀ (w:World) (dI bY:Shared) (mg mb:Str->Option Value) (fa:Addr) (o:Obj) (pm cd doc:Value) (a:Addr) (vs:List Value) (ns:List Int),
   Ground q loose [] XP w dI mg mb bY.heap->YP w bY.heap ->
   bY.heap.get? fa=some o->o.data=.func (docDef d.name d.params d.body d.scope pm cd doc)->bY.heap.CodeRec cd d.name->mg d.name=some (.ref fa) ->
   bY.heap.get? a=some { cls:=.type "list",data:=.seq vs.toArray }->IntsAre vs ns->ns.length<=n->bY.gens=#[] ->
   codeAny (model l.prog w) callerA (.call (.ref fa) ⟨[.ref a],[]⟩) (λr s'=>r=.ok (.ret (.bool true))/\OldK bY.heap s'.heap/\s'.os=bY.os/\AllBare s'.gens) bY) :
  WalkO q loose XP YP l.row.toRowW d [] (λf vs=>PySem.call f vs):=by
 intro w dI bY mg mb G Y fa o pm cd doc dV kV ho hd mM hD hmg hg args vals as pq Od hrd Bc qh;obtain rfl:dV=.none:=Dflts.none hD vU;obtain rfl:kV=.none:=Dflts.noKw hD;obtain⟨a,vs,ns,rfl,rfl,jH,hints,hlen⟩:=ZE hn pq Bc;refine enter_call (ik (call w dI bY mg mb fa o pm cd doc a vs ns G Y ho (fd_plain hd) mM hmg jH hints hlen hg) λr s' hq=>?_);obtain⟨rfl,h2,h3,h4⟩:=hq;exact⟨.inl ⟨.bool true,.bool true,[],rfl,λ_=>rfl,.bool true,Zy l _,λ_=>⟨List.Pairwise.nil,λ_ hm=>(nomatch hm)⟩⟩,h2,h3,h4⟩
end My
namespace L2
open PySem PySem.Spec PyProof.Rows
variable{x:Str}
theorem JF:∀{vs:List Value} {ns:List Int},IntsAre vs ns->Vals (ns.map V.int) vs
 |_,_,.nil=>.nil
 |_,_,.cons n t h=>.cons ⟨t,rfl⟩ (JF h)
def zT(H:Hp):Prop:=∀b,H b=none\/∃o xs,H b=some (.kE o (.lst xs))
theorem a72{P:Program}{w:World}{K:PySem.W.Frag}{mg mb:Str->Option Value}{CX:oy}{k:Nat}{fa a:Addr}{fd:FuncData}{sp:Sp}{bY:Shared}{vs:List Value}{ns:List Int}(KX:K.In bY.heap)(rR:bY.heap.Ns mainGlobals mg)(hb:bY.heap.Ns builtinsNs mb)(BA:∀x:Str,x≠"__name__"->mb x=bootBuiltins x)(Bq:bY.heap.NoLimit)(hg:bY.gens=#[])(ha:bY.heap.get? a=some { cls:=.type "list",data:=.seq vs.toArray })(hi:IntsAre vs ns)(hl:ns.length<=sizeLine)(hr:x6 k callerA)(F:∀base:Heap,K.In base->base.Ns mainGlobals mg->iV P w K mg base CX k fa fd [x] sp)(vX:∀(s:Shared) (u:Value),BindsTo s fd ⟨[u],[]⟩ [(x,u)])(tP:∀H:Hp,zT H->gi K H a (ns.map V.int)->sp [.ref a] H (λv _=>v=.bl true) λ_ _ _=>False)(BJ:∀H e s',CX [] H bY (λ_ _ _=>False) e s'->False) :
  codeAny (model P w) callerA (.call (.ref fa) ⟨[.ref a],[]⟩) (λr s'=>r=.ok (.ret (.bool true))/\OldK bY.heap s'.heap/\s'.os=bY.os/\AllBare s'.gens) bY:=by
 have rv:=JF hi;have AS:=hi.length;have core:∀H:Hp,zT H->gi K H a (ns.map V.int)->gS P w H bY.heap->(∀b,H b≠none->b=a)->(H a≠none->K.lookup a=none) ->
   codeAny (model P w) callerA (.call (.ref fa) ⟨[.ref a],[]⟩) (λr s'=>r=.ok (.ret (.bool true))/\OldK bY.heap s'.heap/\s'.os=bY.os/\AllBare s'.gens) bY:=by
  intro H hO hS cq hA hK;have R8:∀{b:Addr} {o:Obj},bY.heap.get? b=some o->H b=none->(pO bY.heap H).get? b=some o:=λe n=>a80 e n;have vn:∀{b:Addr} {o:Obj} {es:Array DictEntry} {ep:Nat},bY.heap.get? b=some o->o.data=.dict es ep->H b=none:=λ{b o es ep} e d=>by
   cases q:H b with
   |none=>rfl
   |some u =>
    have e':b=a:=hA b (by rw[q];simp);subst e';rw[ha] at e;cases e;have d':Data.seq vs.toArray _=Data.dict es ep:=d;cases d'
  have xY:∀{b:Addr} {m:Str->Option Value},bY.heap.Ns b m->(pO bY.heap H).Ns b m:=λ{b m} ⟨o,es,ep,e,d,r⟩=>⟨o,es,ep,R8 e (vn e d),d,r⟩
  have Hn:K.In (pO bY.heap H):=λb o e=>R8 (KX b o e) (by
   cases q:H b with
   |none=>rfl
   |some u =>
    have e':b=a:=hA b (by rw[q];simp);subst e';rw [hK (by rw [q];simp)] at e;cases e)
  have hM:Mod K mg (pO bY.heap H):=⟨Hn,xY rR,⟨mb,xY hb,BA⟩,let ⟨mc,h1,h2⟩:=Bq;⟨mc,xY h1,h2⟩⟩
  have e0:sR P w K mg (pO bY.heap H) callerA [] bY H:=⟨rfl,hM,λb o e=>TK e,fF (Y' _ _),trivial,λb hb=>absurd (show b∈([]:List Addr) from hb) (by simp),cq,.of_eq hg⟩
  refine ik ((F _ Hn (xY rR)).run callerA [] bY H ⟨[.ref a],[]⟩ [.ref a] [.ref a] _ _ hr e0 (vX bY (.ref a)) (.cons rfl .nil) (tP H hO hS)) λr s' h=>?_;cases r with
  |error e=>exact(BJ H e s' h).elim
  |ok fl =>
   cases fl with
   |next=>exact False.elim h
   |brk=>exact False.elim h
   |cont=>exact False.elim h
   |ret u =>
    obtain⟨v,H',os,bare,un,Bh,r',q⟩:=h;have q':v=.bl true:=q;subst q';obtain rfl:u=Value.bool true:=r';refine⟨rfl,OldK.of_keep λb o e=>?_,os,bare⟩;cases q:H b with
    |none=>exact un.keep b o e q (by intro z;exact absurd (show b∈([]:List Addr) from z) (by simp)) (by simp)
    |some u =>
     rcases hO b with z|⟨ob,xs,z⟩
     ·rw[q] at z;cases z
     ·have z2:=un.ji b ob _ z;obtain⟨e1,_⟩:=cq b _ z;obtain⟨e2,_⟩:=Bh b _ z2;rw[e] at e1;cases e1;exact e2
 cases hk:K.lookup a with
 |some o =>
  have e:=KX a o hk;rw[ha] at e;cases e;refine core (λ_=>none) (λ_=>.inl rfl) (.inr ⟨_,vs.toArray,_,hk,rfl,rfl,rfl,by rw[aE,AS];exact hl,by simpa using rv⟩) (λb u z=>by have z':(none:Option HO)=some u:=z;cases z') (λb z=>absurd rfl z) λz=>absurd rfl z
 |none =>
  refine core (λb=>if b=a then some (.kE { cls:=.type "list",data:=.seq vs.toArray } (.lst (ns.map V.int))) else none) (λb=>?_) (.inl (.inr ⟨{ cls:=.type "list",data:=.seq vs.toArray },aK rfl⟩)) (λb u z=>?_) (λb z=>?_) λ_=>hk
  ·by_cases hb:b=a
   ·exact .inr ⟨_,_,aK hb⟩
   ·exact .inl (aB hb)
  ·by_cases hb:b=a
   ·have z':=(aK hb).symm.trans z;cases z';subst hb;exact⟨ha,by rw[ag];exact hl,vs,_,rv,ha⟩
   ·have z':=(aB hb).symm.trans z;cases z'
  ·by_cases hb:b=a
   ·exact hb
   ·exact absurd (aB hb) z
theorem US{l:PySem.W.OpenLaw}{n k:Nat}{q:Program}{loose:List Str}{XP:(Str->Option Value)->Heap->Prop}{YP:World->Heap->Prop}{d:DefRec}{K:Params->PySem.W.Frag}{CX:World->oy}{sp:World->Sp}(hn:l.most=some n)(nj:n<=sizeLine)(vU:d.params.defaults=[])(hr:x6 k callerA)(hY:∀(w:World) (h:Heap),YP w h->(K w.params).In h)(F:∀ (w:World) (mg:Str->Option Value) (fa:Addr) (h:Heap),(K w.params).In h->h.Ns mainGlobals mg->mg d.name=some (.ref fa) ->
   ∃fd:FuncData,(∀(s:Shared) (u:Value),BindsTo s fd ⟨[u],[]⟩ [(x,u)]) /\
    ∀ base:Heap,(K w.params).In base->base.Ns mainGlobals mg->iV l.prog w (K w.params) mg base (CX w) k fa fd [x] (sp w))(tP:∀(w:World) (H:Hp) (a:Addr) (ns:List Int),ns.length<=n->zT H->gi (K w.params) H a (ns.map V.int)->sp w [.ref a] H (λv _=>v=.bl true) λ_ _ _=>False)(BJ:∀(w:World) (H:Hp) (s:Shared) (e:Value) (s':Shared),CX w [] H s (λ_ _ _=>False) e s'->False) :
  PySem.W.WalkO q loose XP YP l.row.toRowW d [] (λf vs=>PySem.call f vs):=by
 refine My.aI6 hn vU λw dI bY mg mb fa o pm cd doc a vs ns G Y ho hd mM hmg jH hints hlen hg=>?_;have KX:=hY w _ Y;obtain⟨fd,hb,hF⟩:=F w mg fa _ KX G.T.g hmg;exact a72 KX G.T.g G.T.b G.T.builtins G.T.nolimit hg jH hints (aF hlen nj) hr hF hb (λH hO hS=>tP w H a ns hlen hO hS) λH e s'=>BJ w H bY e s'
def B8(s:Stmt):Arguments:=match s with
 |.FunctionDef _ a _ _ _ _ _ _ _ _=>a
 |_=>{ posonlyargs:=[],args:=[],vararg:=none,kwonlyargs:=[],kw_defaults:=[],kwarg:=none,defaults:=[] }
def s9(s:Stmt):List Stmt:=match s with
 |.FunctionDef _ _ b _ _ _ _ _ _ _=>b
 |_=>[]
def q9(s:Stmt):Scope:=match s with
 |.FunctionDef _ _ _ _ _ _ sc _ _ _=>sc
 |_=>{ kind:=.function,names:=[],isGenerator:=false,isCoroutine:=false }
structure qN(K:PySem.W.Frag)(x qual:Str)(st:Stmt)(f:Addr)(fd:FuncData):Prop where
 ex:∃(oc:Value) (od:Option Addr) (kV doc pm:Value) (an:Option Addr) (gh ct:Value) (nh:Array (Option Value)),
  fd=PySem.W.fnOf x qual (B8 st) (s9 st) (q9 st) .none kV doc pm an gh ct/\K.lookup f=some ⟨oc,od,.func fd,nh⟩/\PySem.W.codeIn K gh qual=true
 kp:PySem.W.keepIn K (.ref f)=true
section
variable{K:PySem.W.Frag}
theorem qN.binds{qual:Str}{st:Stmt}{f:Addr}{fd:FuncData}{ps:List Str}(F:qN K x qual st f fd)(h:∀(kV doc pm:Value) (an:Option Addr) (gh ct:Value) (us:List Value),us.length=ps.length->bindArgs (PySem.W.fnOf x qual (B8 st) (s9 st) (q9 st) .none kV doc pm an gh ct) ⟨us,[]⟩=pure (ps.zip us)):Binds K fd ps []:=by
 obtain⟨oc,od,kV,doc,pm,an,gh,ct,nh,rfl,lk,mM⟩:=F.ex;exact .all (h kV doc pm an gh ct)
theorem Kt{qual:Str}{st:Stmt}{f:Addr}{oc:Value}{od an:Option Addr}{nh:Array (Option Value)}{kV doc pm gh ct:Value}(l:K.lookup f=some ⟨oc,od,.func (PySem.W.fnOf x qual (B8 st) (s9 st) (q9 st) .none kV doc pm an gh ct),nh⟩)(c:PySem.W.codeIn K gh qual=true)(k:PySem.W.keepIn K (.ref f)=true):qN K x qual st f (PySem.W.fnOf x qual (B8 st) (s9 st) (q9 st) .none kV doc pm an gh ct):=⟨⟨oc,od,kV,doc,pm,an,gh,ct,nh,rfl,l,c⟩,k⟩
end
section
variable{X:Cx}
theorem a08:l9 X (.builtin "len") (λxs H Q=>∃a kvs,xs=[V.ref a]/\H a=some (.dK kvs)/\Q (.int kvs.length) H):=by
 intro pins s σ H xs us Q I r h;obtain⟨a,kvs,rfl,ha,q⟩:=h;obtain⟨u,rfl,ru⟩:=vals1 r;cases ru;exact WI I (.inl ha) λt s' I'=>⟨.int kvs.length,H,I',⟨t,rfl⟩,q⟩
end
end L2
namespace TS
open PySem PyProof.Rows
def Cf:Bool->Keyed->Array Keyed->Nat->Nat->Nat->StateT SortSt Sem (Option Nat):=sortPriv% PySem.Builtin.gallop
def Gv:Array Keyed->Array Keyed->StateT SortSt Sem (Array Keyed):=sortPriv% PySem.Builtin.mergeLo
def Gw:Array Keyed->Array Keyed->StateT SortSt Sem (Array Keyed):=sortPriv% PySem.Builtin.mergeHi
noncomputable abbrev kn(p:Keyed):Int:=numOf p.1
def IK(p:Keyed):Prop:=∃n t,p.1=.int n t
section
variable{prog:Program}{w:World}{A:Around}{E:Value->Shared->Prop}{s:Shared}
theorem yW{st:SortSt}{x y:Keyed}{Q:Option Bool->SortSt->Prop}(hk:kindOf st=oneType')(hx:IK x)(hy:IK y)(h:Q (some (decide (kn x<kn y))) st) :
  wpS (model prog w) A E s (lt' x y) Q st:=by
 obtain⟨a,t,ha⟩:=hx;obtain⟨b,u,hb⟩:=hy;rw[lt'_eq];refine aA (mU ?_);rw[hk,keyLt'_oneType,ha,hb];refine aA (pT (mV (oneLt_int ⟨rfl,?_⟩)));have:kn x=a/\kn y=b:=by unfold kn;rw[ha,hb];exact⟨rfl,rfl⟩
 rw[this.1,this.2] at h;exact aJ h
theorem y9{st:SortSt}{xs:Array Keyed}{i:Nat}{p:Keyed}{Q:Keyed->SortSt->Prop}(h1:xs[i]?=some p)(h:Q p st):wpS (model prog w) A E s (elem' xs i) Q st:=by
 rw[elem'_eq,h1];exact aJ h
theorem f9{M:Model}{σ α:Type}{c:Prop}[Decidable c]{x y:StateT σ Sem α}{Q:α->σ->Prop}{st:σ}(h1:c->wpS M A E s x Q st)(h2:¬c->wpS M A E s y Q st):wpS M A E s (if c then x else y) Q st:=by
 by_cases h:c
 ·rw[aK h];exact h1 h
 ·rw[aB h];exact h2 h
def fO(left:Bool)(key p:Keyed):Bool:=if left then decide (kn p<kn key) else !decide (kn key<kn p)
theorem zf{st:SortSt}{left:Bool}{key p:Keyed}{arr:Array Keyed}{i:Nat}{Q:Option Bool->SortSt->Prop}(hk:kindOf st=oneType')(gC:IK key)(hp:arr[i]?=some p)(hi:IK p)(h:Q (some (fO left key p)) st) :
  wpS (model prog w) A E s (elem' arr i >>= λx=>if left=true then lt' x key else lt' key x >>= λr=>pure (r.map λb=>!b)) Q st:=by
 refine aA (y9 hp ?_);cases left
 ·exact aA (yW hk gC hi (aJ h))
 ·exact yW hk hi gC h
theorem Qw{st:SortSt}{left:Bool}{key:Keyed}{arr:Array Keyed}{base n hint:Nat}{f:Nat->Keyed}{Q:Option Nat->SortSt->Prop}(hk:kindOf st=oneType')(gC:IK key)(hf:∀i,i<n->arr[base+i]?=some (f i)/\IK (f i))(hm:∀i j,i<=j->j<n->fO left key (f j)=true->fO left key (f i)=true)(hh:hint<n)(h:∀k,k<=n->(∀i,i<k->fO left key (f i)=true)->(∀i,k<=i->i<n->fO left key (f i)=false)->Q (some k) st):wpS (model prog w) A E s (Cf left key arr base n hint) Q st:=by
 have oH:∀i j,i<=j->j<n->fO left key (f i)=false->fO left key (f j)=false:=λi j a b c=>by
  cases e:fO left key (f j) with
  |false=>rfl
  |true=>rw[hm i j a b e] at c;exact absurd c ∅
 unfold Cf;refine aA ?_;refine zf hk gC (hf hint hh).1 (hf hint hh).2 ?_;have last:∀lo hi:Nat,lo<=hi->hi<=n->(∀i,i<lo->fO left key (f i)=true)->(∀i,hi<=i->i<n->fO left key (f i)=false)->∀(F:Nat->Option (Option Nat)×Nat×Nat->StateT SortSt Sem (ForInStep (Option (Option Nat)×Nat×Nat))),
   (F=λ_ c=>if c.2.1 >= c.2.2 then pure (.done (none,c.2.1,c.2.2)) else (elem' arr (base + (c.2.1 + (c.2.2 - c.2.1) / 2)) >>= λx=>if left=true then lt' x key else lt' key x >>= λr=>pure (r.map λb=>!b)) >>= λr=>match r with
    |some more=>if more=true then pure (.yield (none,c.2.1+(c.2.2-c.2.1) / 2+1,c.2.2)) else pure (.yield (none,c.2.1,c.2.1+(c.2.2-c.2.1) / 2))
    | x=>pure (.done (some none,c.2.1,c.2.2))) ->
   wpS (model prog w) A E s (forIn [0:n] (none,lo,hi) F) (λc aY=>aY=st/\c.1=none/\Q (some c.2.2) st) st:=by
  intro lo hi h1 h2 h3 h4 F e;subst e;refine dJ (I:=λx c aY=>aY=st/\c.1=none/\c.2.1<=c.2.2/\c.2.2<=n/\c.2.2-c.2.1<=n-x/\(∀i,i<c.2.1->fO left key (f i)=true)/\(∀i,c.2.2<=i->i<n->fO left key (f i)=false)) ?_ ?_ ⟨rfl,rfl,h1,h2,by show hi-lo<=_;omega,h3,h4⟩
  ·rintro x ⟨c1,l,r⟩ aY _ hx ⟨rfl,rfl,q1,q2,q3,q4,q5⟩;dsimp only at q1 q2 q3 q4 q5 ⊢;by_cases jT:l>=r
   ·rw[aK jT];have:l=r:=by omega
    subst this;exact aJ ⟨rfl,rfl,h l q2 q4 q5⟩
   ·rw[aB jT];have oG:l+(r-l) / 2<n:=by omega
    refine aA (zf hk gC (hf _ oG).1 (hf _ oG).2 ?_);cases e:fO left key (f (l+(r-l) / 2)) with
    |true=>exact aJ ⟨rfl,rfl,by dsimp only;omega,q2,by dsimp only;omega,λi hi=>hm i _ (Nat.le_of_lt_succ hi) oG e,q5⟩
    |false=>exact aJ ⟨rfl,rfl,by dsimp only;omega,by dsimp only;omega,by dsimp only;omega,q4,λi hi hn=>oH _ i hi hn e⟩
  ·rintro⟨c1,l,r⟩ aY ⟨rfl,rfl,q1,q2,q3,q4,q5⟩;dsimp only at q1 q2 q3 q4 q5;have:l=r:=by omega
   subst this;exact⟨rfl,rfl,h l q2 q4 q5⟩
 cases e0:fO left key (f hint) with
 |true =>
  refine aA (wpS_mono (dJ (I:=λx (c:Option (Option Nat) × Nat × Nat) aY=>aY=st/\c.1=none/\c.2.1 < c.2.2/\hint + c.2.1 < n/\x < c.2.2/\fO left key (f (hint + c.2.1))=true)
   (Q:=λc aY=>aY=st/\c.1=none/\c.2.1 < c.2.2/\hint + c.2.1 < n/\fO left key (f (hint + c.2.1))=true/\(c.2.2 >= n - hint \/ fO left key (f (hint + c.2.2))=false)) ?_ ?_ ⟨rfl,rfl,by decide,hh,by decide,e0⟩) ?_)
  ·rintro x ⟨c1,l,r⟩ aY _ hx ⟨rfl,rfl,q1,q2,q3,q4⟩;dsimp only at q1 q2 q3 q4 ⊢;by_cases jT:r>=n-hint
   ·rw[aK jT];exact aJ ⟨rfl,rfl,q1,q2,q4,.inl jT⟩
   ·rw[aB jT];have oG:hint+r<n:=by omega
    refine aA (zf hk gC (hf _ oG).1 (hf _ oG).2 ?_);cases e:fO left key (f (hint+r)) with
    |true=>exact aJ ⟨rfl,rfl,by show r<2*r+1;omega,oG,by show x+1<2*r+1;omega,e⟩
    |false=>exact aJ ⟨rfl,rfl,q1,q2,q4,.inr e⟩
  ·rintro⟨c1,l,r⟩ aY ⟨rfl,rfl,q1,q2,q3,q4⟩;dsimp only at q1 q2 q3 q4;exact⟨rfl,rfl,q1,q2,q4,.inl (by show r>=_;omega)⟩
  ·rintro⟨c1,l,r⟩ aY ⟨rfl,rfl,q1,q2,q3,q4⟩;dsimp only at q1 q2 q3 q4 ⊢;refine aA (wpS_mono (last (hint+l+1) (hint+min r (n-hint)) () () (λi hi=>hm i _ (Nat.le_of_lt_succ hi) q2 q3) ?_ _ rfl) ?_)
   ·intro i h1 h2;rcases q4 with q4|q4
    ·omega
    ·exact oH (hint+r) i () h2 q4
   ·rintro⟨c1,l,r⟩ aY ⟨rfl,rfl,q⟩;exact aJ q
 |false =>
  refine aA (wpS_mono (dJ (I:=λx (c:Option (Option Nat) × Nat × Nat) aY=>aY=st/\c.1=none/\c.2.1 < c.2.2/\c.2.1 <= hint/\x < c.2.2/\fO left key (f (hint - c.2.1))=false)
   (Q:=λc aY=>aY=st/\c.1=none/\c.2.1 < c.2.2/\c.2.1 <= hint/\fO left key (f (hint - c.2.1))=false/\(c.2.2 >= hint + 1 \/ fO left key (f (hint - c.2.2))=true)) ?_ ?_ ⟨rfl,rfl,by decide,cJ _,by decide,e0⟩) ?_)
  ·rintro x ⟨c1,l,r⟩ aY _ hx ⟨rfl,rfl,q1,q2,q3,q4⟩;dsimp only at q1 q2 q3 q4 ⊢;by_cases jT:r>=hint+1
   ·rw[aK jT];exact aJ ⟨rfl,rfl,q1,q2,q4,.inl jT⟩
   ·rw[aB jT];have oG:hint-r<n:=by omega
    refine aA (zf hk gC (hf _ oG).1 (hf _ oG).2 ?_);cases e:fO left key (f (hint-r)) with
    |true=>exact aJ ⟨rfl,rfl,q1,q2,q4,.inr e⟩
    |false=>exact aJ ⟨rfl,rfl,by show r<2*r+1;omega,by show r<=hint;omega,by show x+1<2*r+1;omega,e⟩
  ·rintro⟨c1,l,r⟩ aY ⟨rfl,rfl,q1,q2,q3,q4⟩;dsimp only at q1 q2 q3 q4;exact⟨rfl,rfl,q1,q2,q4,.inl (by show r>=_;omega)⟩
  ·rintro⟨c1,l,r⟩ aY ⟨rfl,rfl,q1,q2,q3,q4⟩;dsimp only at q1 q2 q3 q4 ⊢;refine aA (wpS_mono (last (hint+1-min r (hint+1)) (hint-l) () () ?_ (λi hi hn=>oH _ i hi hn q3) _ rfl) ?_)
   ·intro i h1;rcases q4 with q4|q4
    ·omega
    ·exact hm i (hint-r) () () q4
   ·rintro⟨c1,l,r⟩ aY ⟨rfl,rfl,q⟩;exact aJ q
theorem a92{left:Bool}{key p q:Keyed}(h:kn p<=kn q)(hq:fO left key q=true):fO left key p=true:=by
 unfold fO at hq ⊢;cases left
 ·simp only[Bool.false_eq_true,if_false,Bool.not_eq_true',decide_eq_false_iff_not] at hq ⊢;omega
 ·simp only[if_true,decide_eq_true_eq] at hq ⊢;omega
theorem ur{st:SortSt}{left:Bool}{key:Keyed}{xs:Array Keyed}{base n hint:Nat}{Q:Option Nat->SortSt->Prop}(hk:kindOf st=oneType')(gC:IK key)(gU:∀p∈xs.toList,IK p)(hs:∀i j (hj:j<xs.size) (iA:i<=j),base<=i->j<base+n->kn xs[i]<=kn xs[j])(hn:base+n<=xs.size)(hh:hint<n)(h:∀k,k<=n->(∀p∈(xs.toList.drop base).take k,fO left key p=true)->(∀p∈(xs.toList.drop (base+k)).take (n-k),fO left key p=false)->Q (some k) st):wpS (model prog w) A E s (Cf left key xs base n hint) Q st:=by
 refine Qw (f:=λt=>(xs[base+t]?).getD key) hk gC (λt ht=>?_) (λu v mI hv hq=>a92 ?_ hq) hh λk hk kB lx=>h k hk ?_ ?_
 ·rw[cF xs (base+t) ()];exact⟨rfl,gU _ (by simp)⟩
 ·rw[cF xs (base+u) (),cF xs (base+v) ()];exact hs _ _ () () () ()
 ·intro p hp;obtain⟨t,ht,rfl⟩:=bG.mp hp;simp only[List.length_take,List.length_drop,Array.length_toList] at ht;have:=kB t ();rw[cF xs (base+t) ()] at this;simpa using this
 ·intro p hp;obtain⟨t,ht,rfl⟩:=bG.mp hp;simp only[List.length_take,List.length_drop,Array.length_toList] at ht;have:=lx (k+t) () ();rw[cF xs (base+(k+t)) ()] at this;simpa[Nat.add_assoc] using this
end
section
variable{r:Keyed->Keyed->Prop}{all o x y u v:List Keyed}
structure MI(r:Keyed->Keyed->Prop)(all o x y:List Keyed):Prop where
 pm:(o++(x++y)).Perm all
 so:o.Pairwise r
 sx:x.Pairwise r
 sy:y.Pairwise r
 cr:∀p∈o,∀q,q∈x\/q∈y->r p q
 hl:∀q∈y,∀z,x.getLast?=some z->r q z
theorem MI.x1(h:MI r all o (u++v) y)(c:∀p∈u,∀q∈y,r p q)(ne:v≠[]):MI r all (o++u) v y:=by
 obtain⟨a1,a2,a3⟩:=aV.mp h.sx;refine⟨by have:=h.pm;simpa[List.append_assoc] using this,aV.mpr ⟨h.so,a1,λp hp q hq=>h.cr p hp q (.inl (bB _ hq))⟩,a2,h.sy,λp hp q hq=>?_,λq hq z hz=>h.hl q hq z ?_⟩
 ·rcases ba.mp hp with hp|hp
  ·exact h.cr p hp q (hq.imp (aP _) id)
  ·rcases hq with hq|hq
   ·exact a3 p hp q hq
   ·exact c p hp q hq
 ·rw[List.getLast?_append,hz];rfl
theorem MI.y1(h:MI r all o y (u++v))(c:∀p∈u,∀q∈y,r p q):MI r all (o++u) y v:=by
 obtain⟨a1,a2,a3⟩:=aV.mp h.sy;refine⟨?_,aV.mpr ⟨h.so,a1,λp hp q hq=>h.cr p hp q (.inr (bB _ hq))⟩,h.sx,a2,λp hp q hq=>?_,λq hq z hz=>h.hl q (aP _ hq) z hz⟩
 ·refine List.Perm.trans ?_ h.pm;rw[bI];refine eK _ ?_;rw[<- bI,<- bI];exact fG _ jw
 ·rcases ba.mp hp with hp|hp
  ·exact h.cr p hp q (hq.imp id (aP _))
  ·rcases hq with hq|hq
   ·exact c p hp q hq
   ·exact a3 p hp q hq
def Fn(r:Keyed->Keyed->Prop)(all z:List Keyed):Prop:=z.Perm all/\z.Pairwise r
theorem MI.e1(h:MI r all o x []):Fn r all (o++x):=by
 refine⟨by have:=h.pm;simpa using this,aV.mpr ⟨h.so,h.sx,λp hp q hq=>h.cr p hp q (.inl hq)⟩⟩
theorem MI.e0(h:MI r all o x y)(c:∀p∈x,∀q∈y,r p q):Fn r all (o++(x++y)) :=
 ⟨h.pm,aV.mpr ⟨h.so,aV.mpr ⟨h.sx,h.sy,c⟩,λp hp q hq=>h.cr p hp q (ba.mp hq)⟩⟩
theorem MI.e2{z:Keyed}(h:MI r all o [z] y):Fn r all (o++(y++[z])):=by
 refine⟨List.Perm.trans (eK _ jw) h.pm,aV.mpr ⟨h.so,aV.mpr ⟨h.sy,h.sx,λp hp q hq=>?_⟩,λp hp q hq=>?_⟩⟩
 ·rw[bK] at hq;subst hq;exact h.hl p hp q rfl
 ·exact h.cr p hp q ((ba.mp hq).symm)
theorem MI.len(h:MI r all o x y):o.length+x.length+y.length=all.length:=by
 have:=h.pm.length_eq;simp only[List.length_append] at this;omega
theorem MI.hx{p q:Keyed}(h:MI r all o (p::x) y)(tr:∀a b c,r a b->r b c->r a c)(c:r q p):∀z∈p::x,r q z:=by
 intro z hz;rcases aH.mp hz with rfl|hz
 ·exact c
 ·exact tr _ _ _ c ((dy.mp h.sx).1 z hz)
theorem MI.hy{p q:Keyed}(h:MI r all o y (p::x))(tr:∀a b c,r a b->r b c->r a c)(c:r q p):∀z∈p::x,r q z:=by
 intro z hz;rcases aH.mp hz with rfl|hz
 ·exact c
 ·exact tr _ _ _ c ((dy.mp h.sy).1 z hz)
def Sm(st aY:SortSt):Prop:=kindOf aY=kindOf st/\arrOf aY=arrOf st/\pendingOf aY=pendingOf st/\failedOf aY=failedOf st
theorem dc{xs:Array Keyed}{i:Nat}(h:i<xs.size):xs.toList.drop i=xs[i]::xs.toList.drop (i+1):=by
 rw[fc (by simpa using h)];simp
theorem ex(o':Array Keyed)(xs:Array Keyed)(i k:Nat):(o'++xs.extract i (i+k)).toList=o'.toList++(xs.toList.drop i).take k:=by
 rw[bt,dH,List.extract_eq_drop_take,Nat.add_sub_cancel_left]
theorem dk(l:List Keyed)(i k:Nat):l.drop i=(l.drop i).take k++l.drop (i+k):=by
 rw[<- gN,bU]
theorem Fc{k p:Keyed}(h:fO false k p=true):kn p<=kn k:=by
 unfold fO at h;simp only[Bool.false_eq_true,if_false,Bool.not_eq_true',decide_eq_false_iff_not] at h;omega
theorem yQ{k p:Keyed}(h:fO false k p=false):kn k<kn p:=by
 unfold fO at h;simpa using h
theorem zU{k p:Keyed}(h:fO true k p=true):kn p<kn k:=by
 unfold fO at h;simpa using h
theorem Eb{k p:Keyed}(h:fO true k p=false):kn k<=kn p:=by
 unfold fO at h;simp only[if_true,decide_eq_false_iff_not] at h;omega
theorem dt{xs:Array Keyed}{i n:Nat}(h:xs.size-i<=n):(xs.toList.drop i).take n=xs.toList.drop i:=dg (by simp;omega)
end
section
variable{prog:Program}{w:World}{A:Around}{E:Value->Shared->Prop}{s:Shared}
def VZ:Nat->StateT SortSt Sem Unit:=sortPriv% PySem.Builtin.setMinGallop
theorem Sm.trans{a b c:SortSt}(h:Sm a b)(q:Sm b c):Sm a c:=⟨q.1.trans h.1,q.2.1.trans h.2.1,q.2.2.1.trans h.2.2.1,q.2.2.2.trans h.2.2.2⟩
theorem za{st:SortSt}{g:Nat}{Q:Unit->SortSt->Prop}(h:∀aY,Sm st aY->Q Unit.unit aY):wpS (model prog w) A E s (VZ g) Q st:=mT (h _ ⟨rfl,rfl,rfl,rfl⟩)
def fs{β σ:Type}(Q I:β->σ->Prop):ForInStep β->σ->Prop
 |.done c,st=>Q c st
 |.yield c,st=>I c st
theorem forR{M:Model}{σ β:Type}{a b:Nat}{f:Nat->β->StateT σ Sem (ForInStep β)}(I:Nat->β->σ->Prop){Q:β->σ->Prop}(hs:∀i c st,a<=i->i<b->I i c st->wpS M A E s (f i c) (fs Q (I (i+1))) st)(hd:∀c st,I (max a b) c st->Q c st){c:β}{st:σ}(h:I a c st):wpS M A E s (forIn [a:b] c f) Q st :=
 dJ I (λi c st h1 h2 h3=>wpS_mono (hs i c st h1 h2 h3) λr aY hq=>by cases r<;>exact hq) hd h
noncomputable abbrev le(p q:Keyed):Prop:=kn p<=kn q
theorem yV:∀a b c,le a b->le b c->le a c:=λ_ _ _=>fH
theorem xi{xs:Array Keyed}(h:xs.toList.Pairwise le){u v:Nat}(hv:v<xs.size)(mI:u<=v):kn xs[u]<=kn xs[v]:=by
 by_cases e:u=v
 ·subst e;exact dZ _
 ·have:=eZ.mp h u v (by simp;omega) (by simpa using hv) ();simpa using this
section
variable{st aY:SortSt}{a b o:Array Keyed}{i j n k:Nat}{p q:Keyed}
structure LI(st:SortSt)(a b:Array Keyed)(n:Nat)(o:Array Keyed)(i j:Nat)(aY:SortSt):Prop where
 sm:Sm st aY
 mi:MI le (a.toList++b.toList) o.toList (a.toList.drop i) (b.toList.drop j)
 hi:i+1<a.size
 hj:j<b.size
 ho:n<o.size
theorem dq{xs:Array Keyed}{i:Nat}{p:Keyed}(h:xs[i]?=some p):xs.toList.drop i=p::xs.toList.drop (i+1):=by
 obtain⟨hi,rfl⟩:=oV.mp h;exact dc hi
theorem dn{xs:Array Keyed}{i:Nat}(h:xs.size<=i):xs.toList.drop i=[]:=uO (by simpa using h)
theorem uf(xs:Array Keyed)(i:Nat):(xs.extract i xs.size).toList=xs.toList.drop i:=by
 rw[dH,List.extract_eq_drop_take,dt (av _)]
theorem Ld{xs:Array Keyed}{i:Nat}(h:i<xs.size):xs.toList.drop i≠[]:=by rw[dc h];exact List.cons_ne_nil _ _
theorem fD(hm:MI le (a.toList++b.toList) o.toList (a.toList.drop i) (b.toList.drop j))(h:b.size<=j):Fn le (a.toList++b.toList) (o++a.extract i a.size++b.extract j b.size).toList:=by
 rw[bt,bt,uf,uf,dn h,dC];rw[dn h] at hm;exact hm.e1
theorem fL(hm:MI le (a.toList++b.toList) o.toList (a.toList.drop i) (b.toList.drop j))(h:i+1=a.size):Fn le (a.toList++b.toList) (o++b.extract j b.size++a.extract i a.size).toList:=by
 have e:a.toList.drop i=[a[i]]:=by rw[dc (),dn ()]
 rw[bt,bt,uf,uf,bI,e];rw[e] at hm;exact hm.e2
theorem LI.y(h:LI st a b n o i j aY)(hp:a[i]?=some p)(hq:b[j]?=some q)(hc:kn q<=kn p) :
  (j+1=b.size->Fn le (a.toList++b.toList) (o.push q++a.extract i a.size++b.extract (j+1) b.size).toList)/\(¬j+1=b.size->LI st a b (n+1) (o.push q) i (j+1) aY):=by
 have hm:MI le (a.toList++b.toList) (o.push q).toList (a.toList.drop i) (b.toList.drop (j+1)):=by
  have hm:=h.mi;rw[dq hp] at hm ⊢;rw[dq hq] at hm;rw[dG];exact hm.y1 (u:=[q]) λu hu z hz=>by rw[bK] at hu;subst hu;exact hm.hx yV hc z hz
 have hj:=h.hj;exact⟨λe=>fD hm (fF e.symm),λe=>⟨h.sm,hm,h.hi,by omega,by rw[jn];have:=h.ho;omega⟩⟩
theorem LI.x(h:LI st a b n o i j aY)(hp:a[i]?=some p)(hq:b[j]?=some q)(hc:kn p<=kn q) :
  (i+1+1=a.size->Fn le (a.toList++b.toList) (o.push p++b.extract j b.size++a.extract (i+1) a.size).toList)/\(¬i+1+1=a.size->LI st a b (n+1) (o.push p) (i+1) j aY):=by
 have hm:MI le (a.toList++b.toList) (o.push p).toList (a.toList.drop (i+1)) (b.toList.drop j):=by
  have hm:=h.mi;rw[dq hq] at hm ⊢;rw[dq hp] at hm;rw[dG];exact hm.x1 (u:=[p]) (λu hu z hz=>by rw[bK] at hu;subst hu;exact hm.hy yV hc z hz) (Ld h.hi)
 have hi:=h.hi;exact⟨λe=>fL hm e,λe=>⟨h.sm,hm,by omega,h.hj,by rw[jn];have:=h.ho;omega⟩⟩
theorem LI.gx(h:LI st a b n o i j aY)(hq:b[j]?=some q)(h1:k<=a.size-i)(h2:∀p∈(a.toList.drop i).take k,fO false q p=true)(h3:∀p∈(a.toList.drop (i+k)).take (a.size-i-k),fO false q p=false) :
  (i+k+1=a.size->Fn le (a.toList++b.toList) (o++a.extract i (i+k)++b.extract j b.size++a.extract (i+k) a.size).toList) /\
  (i+k=a.size->Fn le (a.toList++b.toList) (o++a.extract i (i+k)++a.extract (i+k) a.size++b.extract j b.size).toList) /\
  (¬i+k+1=a.size->¬i+k=a.size->LI st a b n (o++a.extract i (i+k)) (i+k) j aY)/\∀p,a[i+k]?=some p->kn q<=kn p:=by
 have hi:=h.hi;have XY:∀p∈(a.toList.drop i).take k,∀q∈b.toList.drop j,le p q:=λp hp q GO=>by
  have hm:=h.mi;rw[dq hq] at GO hm;exact hm.hy yV (Fc (h2 p hp)) q GO
 have M2:i+k<a.size->MI le (a.toList++b.toList) (o++a.extract i (i+k)).toList (a.toList.drop (i+k)) (b.toList.drop j):=λdS=>by
  have hm:=h.mi;rw[dk a.toList i k] at hm;rw[ex];exact hm.x1 XY (Ld dS)
 refine⟨λe=>fL (M2 ()) e,λe=>?_,λe1 e2=>⟨h.sm,M2 (),by omega,h.hj,by rw[ig];have:=h.ho;omega⟩,λp hp=>cG (yQ (h3 p ?_))⟩
 ·rw[bt,bt,ex,uf,uf,dn (fF e.symm),dt (),dC,bI];rw[dt ()] at XY;exact h.mi.e0 XY
 ·rw[dt (),dq hp];exact cR ..
theorem LI.gy(h:LI st a b n o i j aY)(hp:a[i]?=some p)(h1:k<=b.size-j)(h2:∀q∈(b.toList.drop j).take k,fO true p q=true)(h3:∀q∈(b.toList.drop (j+k)).take (b.size-j-k),fO true p q=false) :
  (j+k=b.size->Fn le (a.toList++b.toList) (o++b.extract j (j+k)++a.extract i a.size++b.extract (j+k) b.size).toList) /\
  (¬j+k=b.size->LI st a b n (o++b.extract j (j+k)) i (j+k) aY)/\∀q,b[j+k]?=some q->kn p<=kn q:=by
 have hj:=h.hj;have hm:MI le (a.toList++b.toList) (o++b.extract j (j+k)).toList (a.toList.drop i) (b.toList.drop (j+k)):=by
  have hm:=h.mi;rw[dk b.toList j k] at hm;rw[ex];refine hm.y1 λq hq z hz=>?_;rw[dq hp] at hz hm;exact hm.hx yV (cG (zU (h2 q hq))) z hz
 refine⟨λe=>fD hm (fF e.symm),λe=>⟨h.sm,hm,h.hi,by omega,by rw[ig];have:=h.ho;omega⟩,λq hq=>Eb (h3 q ?_)⟩;rw[dt (),dq hq];exact cR ..
theorem LI.ex(h:LI st a b n o i j aY)(gU:∀p∈a.toList++b.toList,IK p):∃p q,a[i]?=some p/\b[j]?=some q/\IK p/\IK q:=by
 have hi:=h.hi;have hj:=h.hj;exact⟨a[i],b[j],by simp,by simp,gU _ (bB _ (by simp)),gU _ (aP _ (by simp))⟩
theorem LI.vc(h:LI st a b n o i j aY){gT:SortSt}(q:Sm aY gT):LI st a b n o i j gT:=⟨h.sm.trans q,h.mi,h.hi,h.hj,h.ho⟩
theorem LI.wk(h:LI st a b n o i j aY){m:Nat}(hm:m<=n):LI st a b m o i j aY:=⟨h.sm,h.mi,h.hi,h.hj,dw hm h.ho⟩
theorem LI.full(h:LI st a b (a.size+b.size) o i j aY):False:=by
 have h1:=h.mi.len;have h2:=h.ho;simp only[List.length_append,Array.length_toList] at h1;omega
def LR(st:SortSt)(a b:Array Keyed)(n:Nat)(Q:Array Keyed->SortSt->Prop)(r:Option (Array Keyed))(o:Array Keyed)(i j:Nat)(aY:SortSt):Prop:=match r with
 |some z=>Q z aY
 |none=>LI st a b n o i j aY
end
noncomputable abbrev nQ:Array Keyed->SortSt->Prop:=λ_ _=>False
theorem QR{st:SortSt}{a b:Array Keyed}{Q:Array Keyed->SortSt->Prop}(hk:kindOf st=oneType')(gU:∀p∈a.toList++b.toList,IK p)(ha:0<a.size)(hb:0<b.size)(h0:MI le (a.toList++b.toList) [] a.toList b.toList)(hf:∀p∈a.toList,kn b[0]<=kn p)(h:∀z aY,Sm st aY->Fn le (a.toList++b.toList) z.toList->Q z aY):wpS (model prog w) A E s (Gv a b) Q st:=by
  have IA:∀p∈a.toList,IK p:=λp hp=>gU p (bB _ hp);have IB:∀p∈b.toList,IK p:=λp hp=>gU p (aP _ hp);have SA:∀x n u v (hv:v<a.size) (mI:u<=v),x<=u->v<x+n->kn a[u]<=kn a[v]:=λ_ _ u v hv mI _ _=>xi h0.sx hv mI;have SB:∀x n u v (hv:v<b.size) (mI:u<=v),x<=u->v<x+n->kn b[u]<=kn b[v]:=λ_ _ u v hv mI _ _=>xi h0.sy hv mI;have h1:MI le (a.toList++b.toList) (#[b[0]]:Array Keyed).toList (a.toList.drop 0) (b.toList.drop 1):=by
    have:b.toList=[b[0]]++b.toList.drop 1:=by have:=dc hb;simpa using this
    refine MI.y1 (o:=[]) (by rw[<- this];exact h0) ?_;intro p hp q hq;rw[bK] at hp;subst hp;exact hf q hq
  have s0:Sm st st:=⟨rfl,rfl,rfl,rfl⟩
  unfold Gv;refine aA (pT (cV ⟨rfl,?_⟩));refine aA (y9 (p:=b[0]) (by simp[hb]) ?_);refine f9 (λe=>aJ (h _ st s0 (fD h1 (fF (eq_of_beq e).symm)))) λe=>?_;refine f9 (λe2=>aJ (h _ st s0 (fL h1 (eq_of_beq e2)))) λe2=>?_;have e:¬1=b.size:=λz=>e (bz.mpr z);have e2:¬0+1=a.size:=λz=>e2 (bz.mpr z);refine aA (mU ?_);refine aA (wpS_mono (forR (I:=λn (c:Option (Array Keyed)×Array Keyed×Nat×Nat×Nat)=>LR st a b n nQ c.1 c.2.1 c.2.2.1 c.2.2.2.1) (Q:=λc=>LR st a b (a.size+b.size) Q c.1 c.2.1 c.2.2.1 c.2.2.2.1) ?_ ?_ (show LI st a b 0 #[b[0]] 0 1 st from⟨s0,h1,by omega,by omega,by simp⟩)) ?_)
  · rintro n ⟨c1,o,i,j,mg⟩ eU _ hn hL;cases c1 with
    |some z=>exact hL.elim
    |none =>
    replace hL:LI st a b n o i j eU:=hL
    refine aA (wpS_mono (forR (I:=λx (c:Option (Array Keyed)×Array Keyed×Nat×Nat×Nat×Nat)=>LR st a b (n+x) nQ c.1 c.2.1 c.2.2.1 c.2.2.2.1) (Q:=λc=>LR st a b (n+1) Q c.1 c.2.1 c.2.2.1 c.2.2.2.1) ?_ ?_ hL) ?_)
    · rintro x ⟨c1,o,i,j,ac,bc⟩ eU _ _ hL;cases c1 with
      |some z=>exact hL.elim
      |none =>
      replace hL:LI st a b (n+x) o i j eU:=hL
      obtain⟨p,q,hp,hq,ip,iq⟩:=hL.ex gU;refine aA (y9 hq (aA (y9 hp (aA (yW (hL.sm.1.trans hk) iq ip ?_)))));refine f9 (λhc=>aA (y9 hq ?_)) (λhc=>aA (y9 hp ?_))
      · have Y:=hL.y hp hq (cG (bg hc));refine f9 (λe=>aJ (h _ _ hL.sm (Y.1 (eq_of_beq e)))) λe=>?_;have Z:=Y.2 λz=>e (bz.mpr z);exact f9 (λ_=>aJ (Z.wk ())) (λ_=>aJ Z)
      · have Y:=hL.x hp hq (gP.mp λz=>hc (aw z));refine f9 (λe=>aJ (h _ _ hL.sm (Y.1 (eq_of_beq e)))) λe=>?_;have Z:=Y.2 λz=>e (bz.mpr z);exact f9 (λ_=>aJ (Z.wk ())) (λ_=>aJ Z)
    · rintro⟨c1,o,i,j,ac,bc⟩ eU hL;cases c1 with
      |some z=>exact hL.elim
      |none=>exact LI.wk hL ()
    · rintro⟨c1,o,i,j,ac,bc⟩ eU hL;cases c1 with
      |some z=>exact aJ hL
      |none =>
      replace hL:LI st a b (n+1) o i j eU:=hL
      refine aA (pT (cV ⟨rfl,?_⟩));refine aA (wpS_mono (forR (I:=λx (c:Option (Array Keyed)×Array Keyed×Nat×Nat×Nat×Nat×Nat)=>LR st a b (n+1) nQ c.1 c.2.1 c.2.2.1 c.2.2.2.1) (Q:=λc=>LR st a b (n+1) Q c.1 c.2.1 c.2.2.1 c.2.2.2.1) ?_ ?_ hL) ?_)
      · rintro x ⟨c1,o,i,j,mg,ac,bc⟩ eU _ _ hL;cases c1 with
        |some z=>exact hL.elim
        |none =>
        replace hL:LI st a b (n+1) o i j eU:=hL
        lift_lets
        intro s1 out s2 ia s3 ib s4 NA s5 YU U' GG jp;have e1:o=out:=rfl;have e2:i=ia:=rfl;have e3:j=ib:=rfl;have e4:j+1=GG:=rfl
        clear_value out ia ib GG
        subst e1 e2 e3 e4;have J:∀u m,wpS (model prog w) A E s (jp u m) (fs (λc=>LR st a b (n+1) Q c.1 c.2.1 c.2.2.1 c.2.2.2.1) (λc=>LR st a b (n+1) nQ c.1 c.2.1 c.2.2.1 c.2.2.2.1)) eU:=by
          intro u m;dsimp -zeta -zetaHave only[jp]
          clear_value jp
          refine aA (za (g:=m) λgT gI=>?_)
          replace hL:=hL.vc gI
          obtain⟨p,q,hp,hq,ip,iq⟩:=hL.ex gU;refine aA (y9 hq ?_);refine aA (ur (hL.sm.1.trans hk) iq IA (SA _ _) (by have:=hL.hi;omega) (by have:=hL.hi;omega) λk lQ kB lx=>?_);have G:=hL.gx hq lQ kB lx;clear lQ kB lx hp ip;dsimp -zeta -zetaHave only
          lift_lets
          intro DP pe AK ia2;have J2:∀u o i,LI st a b (n+1) o i j gT->(∀p,a[i]?=some p->kn q<=kn p)->wpS (model prog w) A E s (pe u o i) (fs (λc=>LR st a b (n+1) Q c.1 c.2.1 c.2.2.1 c.2.2.2.1) (λc=>LR st a b (n+1) nQ c.1 c.2.1 c.2.2.1 c.2.2.2.1)) gT:=by
            clear G hL;intro u o i hL hc;dsimp -zeta -zetaHave only[pe]
            clear_value pe DP
            obtain⟨p,q2,hp,_,ip,_⟩:=hL.ex gU;have Y:=hL.y hp hq (hc p hp);refine aA (y9 hq ?_);refine f9 (λe=>aJ (h _ _ hL.sm (Y.1 (eq_of_beq e)))) λe=>?_;have Z:=Y.2 λz=>e (bz.mpr z);refine aA (y9 hp ?_);refine aA (ur (hL.sm.1.trans hk) ip IB (SB _ _) (by have:=Z.hj;omega) (by have:=Z.hj;omega) λk lQ kB lx=>?_);have G:=Z.gy hp lQ kB lx;clear lQ kB lx Y e hc;dsimp -zeta -zetaHave only
            lift_lets
            intro UZ rJ AJ ib3;have J3:∀u o j,LI st a b (n+1) o i j gT->(∀q,b[j]?=some q->kn p<=kn q)->wpS (model prog w) A E s (rJ u o j) (fs (λc=>LR st a b (n+1) Q c.1 c.2.1 c.2.2.1 c.2.2.2.1) (λc=>LR st a b (n+1) nQ c.1 c.2.1 c.2.2.1 c.2.2.2.1)) gT:=by
              clear G Z hL hq;intro u o j hL hc;dsimp -zeta -zetaHave only[rJ];obtain⟨p2,q,_,hq,_,_⟩:=hL.ex gU;have Y:=hL.x hp hq (hc q hq);refine aA (y9 hp ?_);refine f9 (λe=>aJ (h _ _ hL.sm (Y.1 (eq_of_beq e)))) λe=>?_;have Z:=Y.2 λz=>e (bz.mpr z);exact f9 (λ_=>aJ (Z.wk (cB _))) (λ_=>aJ (Z.wk (cB _)))
            clear_value rJ
            refine f9 (λ_=>f9 (λe=>aJ (h _ _ hL.sm (G.1 (eq_of_beq e)))) λe=>J3 _ _ _ ((G.2.1 λz=>e (bz.mpr z)).wk (cB _)) G.2.2) (λe=>J3 _ _ _ (Z.wk (cB _)) ?_);have e:k=0:=by omega
            subst e;exact G.2.2
          clear_value pe
          refine f9 (λ_=>f9 (λe=>aJ (h _ _ hL.sm (G.1 (eq_of_beq e)))) λe=>f9 (λe2=>aJ (h _ _ hL.sm (G.2.1 (eq_of_beq e2)))) λe2=>J2 _ _ _ (G.2.2.1 (λz=>e (bz.mpr z)) (λz=>e2 (bz.mpr z))) G.2.2.2) (λe=>J2 _ _ _ hL ?_);have e:k=0:=by omega
          subst e;exact G.2.2.2
        clear_value jp
        exact f9 (λ_=>J _ _) (λ_=>J _ _)
      · rintro⟨c1,o,i,j,mg,ac,bc⟩ eU hL;cases c1 with
        |some z=>exact hL.elim
        |none=>exact hL
      · rintro⟨c1,o,i,j,mg,ac,bc⟩ eU hL;cases c1 with
        |some z=>exact aJ hL
        |none=>exact aA (za λgT gI=>aJ (LI.vc hL gI))
  · rintro⟨c1,o,i,j,mg⟩ eU hL;cases c1 with
    |some z=>exact hL.elim
    |none=>exact LI.wk hL ()
  · rintro⟨c1,o,i,j,mg⟩ eU hL;cases c1 with
    |some z=>exact aJ hL
    |none=>exact(LI.full hL).elim
end
section
variable{prog:Program}{w:World}{A:Around}{E:Value->Shared->Prop}{s:Shared}
noncomputable abbrev ge(p q:Keyed):Prop:=kn q<=kn p
theorem yT:∀a b c,ge a b->ge b c->ge a c:=λ_ _ _ h1 h2=>fH h2 h1
def rt(xs:Array Keyed)(n:Nat):List Keyed:=(xs.toList.take n).reverse
theorem Eo{xs:Array Keyed}{n:Nat}(h:n<xs.size):rt xs (n+1)=xs[n]::rt xs n:=by
 unfold rt;rw[List.take_succ_eq_append_getElem (by simpa using h),FE];simp
theorem KG{xs:Array Keyed}{n:Nat}{p:Keyed}(h:p∈rt xs n):p∈xs.toList:=cU (fT.mp h)
theorem ET(xs:Array Keyed){k n:Nat}(h:k<=n):rt xs n=((xs.toList.drop k).take (n-k)).reverse++rt xs k:=by
 unfold rt;rw[<- FE]
 congr 1
 have:=bU k (xs.toList.take n);rw[List.take_take,List.drop_take,Nat.min_eq_left h] at this;exact this.symm
theorem Ep(o xs:Array Keyed)(k n:Nat):(o++(xs.extract k n).reverse).toList=o.toList++((xs.toList.drop k).take (n-k)).reverse:=by
 rw[bt,fZ,dH,List.extract_eq_drop_take]
theorem uG(xs:Array Keyed)(n:Nat):(xs.extract 0 n).toList=(rt xs n).reverse:=by
 rw[dH,List.extract_eq_drop_take];simp[rt]
theorem Fn.rev{all l:List Keyed}(h:Fn ge all l):Fn le all l.reverse:=⟨(lE l).trans h.1,jx.mpr h.2⟩
theorem XG{xs:Array Keyed}{i:Nat}(h:0<i)(hi:i<xs.size):rt xs i≠[]:=by
 obtain⟨i,rfl⟩:∃m,i=m+1:=⟨i-1,by omega⟩
 rw[Eo ()];exact List.cons_ne_nil _ _
theorem xg(xs:Array Keyed):rt xs xs.size=xs.toList.reverse:=by unfold rt;rw[dg (by simp)]
section
variable{st aY:SortSt}{a b o:Array Keyed}{na nb n t:Nat}{p q:Keyed}
theorem Z9{xs:Array Keyed}{n:Nat}{p:Keyed}(h0:0<n)(h:xs[n-1]?=some p):rt xs n=p::rt xs (n-1):=by
 obtain⟨n,rfl⟩:∃m,n=m+1:=⟨n-1,by omega⟩
 obtain⟨hi,rfl⟩:=oV.mp h;exact Eo hi
theorem xr(xs:Array Keyed):rt xs 0=[]:=by simp[rt]
structure HI(st:SortSt)(a b:Array Keyed)(n:Nat)(na nb:Nat)(o:Array Keyed)(aY:SortSt):Prop where
 sm:Sm st aY
 mi:MI ge (a.toList++b.toList) o.toList (rt b nb) (rt a na)
 b1:1<nb
 b2:nb<=b.size
 a1:0<na
 a2:na<=a.size
 ho:n<o.size
theorem hD(hm:MI ge (a.toList++b.toList) o.toList (rt b nb) (rt a na))(h:na=0):Fn le (a.toList++b.toList) (a.extract 0 na++b.extract 0 nb++o.reverse).toList:=by
 subst h;rw[xr] at hm;rw[bt,bt,fZ,uG,uG,xr];simpa using hm.e1.rev
theorem hL(hm:MI ge (a.toList++b.toList) o.toList (rt b nb) (rt a na))(h:nb=1)(hb:0<b.size):Fn le (a.toList++b.toList) (b.extract 0 nb++a.extract 0 na++o.reverse).toList:=by
 subst h;have e:rt b 1=[b[0]]:=by rw[Eo hb,xr]
 rw[e] at hm;rw[bt,bt,fZ,uG,uG,e];simpa using hm.e2.rev
theorem HI.y(h:HI st a b n na nb o aY)(hp:a[na-1]?=some p)(hq:b[nb-1]?=some q)(hc:kn q<=kn p) :
  (na-1=0->Fn le (a.toList++b.toList) (a.extract 0 (na-1)++b.extract 0 nb++(o.push p).reverse).toList)/\(¬na-1=0->HI st a b (n+1) (na-1) nb (o.push p) aY):=by
 have h1:=h.b1;have h2:=h.a2;have hm:MI ge (a.toList++b.toList) (o.push p).toList (rt b nb) (rt a (na-1)):=by
  have hm:=h.mi;rw[Z9 () hq] at hm ⊢;rw[Z9 h.a1 hp] at hm;rw[dG];exact hm.y1 (u:=[p]) λu hu z hz=>by rw[bK] at hu;subst hu;exact hm.hx yT hc z hz
 exact⟨λe=>hD hm e,λe=>⟨h.sm,hm,h1,h.b2,by omega,by omega,by rw[jn];have:=h.ho;omega⟩⟩
theorem HI.x(h:HI st a b n na nb o aY)(hp:a[na-1]?=some p)(hq:b[nb-1]?=some q)(hc:kn p<=kn q) :
  (nb-1=1->Fn le (a.toList++b.toList) (b.extract 0 (nb-1)++a.extract 0 na++(o.push q).reverse).toList)/\(¬nb-1=1->HI st a b (n+1) na (nb-1) (o.push q) aY):=by
 have h1:=h.b1;have h2:=h.b2;have hm:MI ge (a.toList++b.toList) (o.push q).toList (rt b (nb-1)) (rt a na):=by
  have hm:=h.mi;rw[Z9 h.a1 hp] at hm ⊢;rw[Z9 () hq] at hm;rw[dG];exact hm.x1 (u:=[q]) (λu hu z hz=>by rw[bK] at hu;subst hu;exact hm.hy yT hc z hz) (XG () ())
 exact⟨λe=>hL hm e (),λe=>⟨h.sm,hm,by omega,by omega,h.a1,h.a2,by rw[jn];have:=h.ho;omega⟩⟩
theorem HI.gy(h:HI st a b n na nb o aY)(hq:b[nb-1]?=some q)(h1:t<=na)(h2:∀p∈(a.toList.drop 0).take t,fO false q p=true)(h3:∀p∈(a.toList.drop (0+t)).take (na-t),fO false q p=false) :
  (t=0->Fn le (a.toList++b.toList) (a.extract 0 t++b.extract 0 nb++(o++(a.extract t na).reverse).reverse).toList)/\(¬t=0->HI st a b n t nb (o++(a.extract t na).reverse) aY)/\∀p,0<t->a[t-1]?=some p->kn p<=kn q:=by
 have h4:=h.b1;have h5:=h.a2;rw[Nat.zero_add] at h3;have hm:MI ge (a.toList++b.toList) (o++(a.extract t na).reverse).toList (rt b nb) (rt a t):=by
  have hm:=h.mi;rw[ET a h1] at hm;rw[Ep];refine hm.y1 λp hp z hz=>?_;rw[Z9 () hq] at hz hm;exact hm.hx yT (cG (yQ (h3 p (fT.mp hp)))) z hz
 refine⟨λe=>hD hm e,λe=>⟨h.sm,hm,h4,h.b2,by omega,by omega,by rw[ig];have:=h.ho;omega⟩,λp h0 hp=>Fc (h2 p ?_)⟩;have:=Z9 h0 hp;exact fT.mp (show p∈rt a t by rw[this];exact cR ..)
theorem HI.gx(h:HI st a b n na nb o aY)(hp:a[na-1]?=some p)(h1:t<=nb)(h2:∀q∈(b.toList.drop 0).take t,fO true p q=true)(h3:∀q∈(b.toList.drop (0+t)).take (nb-t),fO true p q=false) :
  (t=1->Fn le (a.toList++b.toList) (b.extract 0 t++a.extract 0 na++(o++(b.extract t nb).reverse).reverse).toList)/\(t=0->Fn le (a.toList++b.toList) (a.extract 0 na++b.extract 0 t++(o++(b.extract t nb).reverse).reverse).toList) /\
  (¬t=1->¬t=0->HI st a b n na t (o++(b.extract t nb).reverse) aY)/\∀q,0<t->b[t-1]?=some q->kn q<=kn p:=by
 have h4:=h.b1;have h5:=h.b2;rw[Nat.zero_add] at h3;have Y2:∀p∈((b.toList.drop t).take (nb-t)).reverse,∀q∈rt a na,ge p q:=λq hq z hz=>by
  have hm:=h.mi;rw[Z9 h.a1 hp] at hz hm;exact hm.hy yT (Eb (h3 q (fT.mp hq))) z hz
 have hm:0<t->MI ge (a.toList++b.toList) (o++(b.extract t nb).reverse).toList (rt b t) (rt a na):=λh0=>by
  have hm:=h.mi;rw[ET b h1] at hm;rw[Ep];refine hm.x1 Y2 λe=>?_;have:=fY List.length e;simp only[rt,List.length_reverse,List.length_take,Array.length_toList,List.length_nil] at this;omega
 refine⟨λe=>hL (hm ()) e (),λe=>?_,λe1 e2=>⟨h.sm,hm (),by omega,by omega,h.a1,h.a2,by rw[ig];have:=h.ho;omega⟩,λq h0 hq=>cG (zU (h2 q ?_))⟩
 ·subst e;have hm:=h.mi;rw[ET b h1,xr,dC] at hm;have:=(hm.e0 Y2).rev;rw[bt,bt,fZ,Ep,uG,uG,xr];simpa[List.append_assoc] using this
 ·have:=Z9 h0 hq;exact fT.mp (show q∈rt b t by rw[this];exact cR ..)
theorem HI.ex(h:HI st a b n na nb o aY)(gU:∀p∈a.toList++b.toList,IK p):∃p q,a[na-1]?=some p/\b[nb-1]?=some q/\IK p/\IK q:=by
 have h1:=h.b1;have h2:=h.b2;have h3:=h.a1;have h4:=h.a2;have h5:na-1<a.size:=by omega
 have h6:nb-1<b.size:=by omega
 exact⟨a[na-1],b[nb-1],cF a (na-1) h5,cF b (nb-1) h6,gU _ (bB _ (by simp)),gU _ (aP _ (by simp))⟩
theorem HI.vc(h:HI st a b n na nb o aY){gT:SortSt}(q:Sm aY gT):HI st a b n na nb o gT:=⟨h.sm.trans q,h.mi,h.b1,h.b2,h.a1,h.a2,h.ho⟩
theorem HI.wk(h:HI st a b n na nb o aY){m:Nat}(hm:m<=n):HI st a b m na nb o aY:=⟨h.sm,h.mi,h.b1,h.b2,h.a1,h.a2,dw hm h.ho⟩
theorem HI.full(h:HI st a b (a.size+b.size) na nb o aY):False:=by
 have h1:=h.mi.len;have h2:=h.ho;simp only[List.length_append,Array.length_toList] at h1;omega
def HR(st:SortSt)(a b:Array Keyed)(n:Nat)(Q:Array Keyed->SortSt->Prop)(r:Option (Array Keyed))(na nb:Nat)(o:Array Keyed)(aY:SortSt):Prop:=match r with
 |some z=>Q z aY
 |none=>HI st a b n na nb o aY
end
theorem QQ{st:SortSt}{a b:Array Keyed}{Q:Array Keyed->SortSt->Prop}(hk:kindOf st=oneType')(gU:∀p∈a.toList++b.toList,IK p)(ha:0<a.size)(hb:0<b.size)(sa:a.toList.Pairwise le)(sb:b.toList.Pairwise le)(h0:MI ge (a.toList++b.toList) [] (rt b b.size) (rt a a.size))(hf:∀p∈b.toList,kn p<=kn a[a.size-1])(h:∀z aY,Sm st aY->Fn le (a.toList++b.toList) z.toList->Q z aY):wpS (model prog w) A E s (Gw a b) Q st:=by
  have IA:∀p∈a.toList,IK p:=λp hp=>gU p (bB _ hp);have IB:∀p∈b.toList,IK p:=λp hp=>gU p (aP _ hp);have SA:∀x n u v (hv:v<a.size) (mI:u<=v),x<=u->v<x+n->kn a[u]<=kn a[v]:=λ_ _ u v hv mI _ _=>xi sa hv mI;have SB:∀x n u v (hv:v<b.size) (mI:u<=v),x<=u->v<x+n->kn b[u]<=kn b[v]:=λ_ _ u v hv mI _ _=>xi sb hv mI;have tQ:a[a.size-1]?=some a[a.size-1]:=cF _ _ _;have h1:MI ge (a.toList++b.toList) (#[a[a.size-1]]:Array Keyed).toList (rt b b.size) (rt a (a.size-1)):=by
    rw[Z9 ha tQ] at h0;refine MI.y1 (o:=[]) (u:=[a[a.size-1]]) h0 ?_;intro p hp q hq;rw[bK] at hp;subst hp;exact hf q (KG hq)
  have s0:Sm st st:=⟨rfl,rfl,rfl,rfl⟩
  unfold Gw;refine aA (pT (cV ⟨rfl,?_⟩));refine aA (y9 tQ ?_);refine f9 (λe=>aJ (h _ st s0 (hD h1 (eq_of_beq e)))) λe=>?_;refine f9 (λe2=>aJ (h _ st s0 (hL h1 (eq_of_beq e2) hb))) λe2=>?_;have e:¬a.size-1=0:=λz=>e (bz.mpr z);have e2:¬b.size=1:=λz=>e2 (bz.mpr z);refine aA (mU ?_);refine aA (wpS_mono (forR (I:=λn (c:Option (Array Keyed)×Nat×Nat×Array Keyed×Nat)=>HR st a b n nQ c.1 c.2.1 c.2.2.1 c.2.2.2.1) (Q:=λc=>HR st a b (a.size+b.size) Q c.1 c.2.1 c.2.2.1 c.2.2.2.1) ?_ ?_ (show HI st a b 0 (a.size-1) b.size #[a[a.size-1]] st from⟨s0,h1,by omega,by omega,by omega,by omega,by simp⟩)) ?_)
  · rintro n ⟨c1,na,nb,o,mg⟩ eU _ hn hL;cases c1 with
    |some z=>exact hL.elim
    |none =>
    replace hL:HI st a b n na nb o eU:=hL
    refine aA (wpS_mono (forR (I:=λx (c:Option (Array Keyed)×Nat×Nat×Array Keyed×Nat×Nat)=>HR st a b (n+x) nQ c.1 c.2.1 c.2.2.1 c.2.2.2.1) (Q:=λc=>HR st a b (n+1) Q c.1 c.2.1 c.2.2.1 c.2.2.2.1) ?_ ?_ hL) ?_)
    · rintro x ⟨c1,na,nb,o,ac,bc⟩ eU _ _ hL;cases c1 with
      |some z=>exact hL.elim
      |none =>
      replace hL:HI st a b (n+x) na nb o eU:=hL
      obtain⟨p,q,hp,hq,ip,iq⟩:=hL.ex gU;refine aA (y9 hq (aA (y9 hp (aA (yW (hL.sm.1.trans hk) iq ip ?_)))));refine f9 (λhc=>aA (y9 hp ?_)) (λhc=>aA (y9 hq ?_))
      · have Y:=hL.y hp hq (cG (bg hc));refine f9 (λe=>aJ (h _ _ hL.sm (Y.1 (eq_of_beq e)))) λe=>?_;have Z:=Y.2 λz=>e (bz.mpr z);exact f9 (λ_=>aJ (Z.wk ())) (λ_=>aJ Z)
      · have Y:=hL.x hp hq (gP.mp λz=>hc (aw z));refine f9 (λe=>aJ (h _ _ hL.sm (Y.1 (eq_of_beq e)))) λe=>?_;have Z:=Y.2 λz=>e (bz.mpr z);exact f9 (λ_=>aJ (Z.wk ())) (λ_=>aJ Z)
    · rintro⟨c1,na,nb,o,ac,bc⟩ eU hL;cases c1 with
      |some z=>exact hL.elim
      |none=>exact HI.wk hL ()
    · rintro⟨c1,na,nb,o,ac,bc⟩ eU hL;cases c1 with
      |some z=>exact aJ hL
      |none =>
      replace hL:HI st a b (n+1) na nb o eU:=hL
      refine aA (pT (cV ⟨rfl,?_⟩));refine aA (wpS_mono (forR (I:=λx (c:Option (Array Keyed)×Nat×Nat×Array Keyed×Nat×Nat×Nat)=>HR st a b (n+1) nQ c.1 c.2.1 c.2.2.1 c.2.2.2.1) (Q:=λc=>HR st a b (n+1) Q c.1 c.2.1 c.2.2.1 c.2.2.2.1) ?_ ?_ hL) ?_)
      · rintro x ⟨c1,na,nb,o,mg,ac,bc⟩ eU _ _ hL;cases c1 with
        |some z=>exact hL.elim
        |none =>
        replace hL:HI st a b (n+1) na nb o eU:=hL
        lift_lets
        intro s1 Gp s2 Gn s3 out s4 NA s5 YU U' Gm jp;have e1:na=Gp:=rfl;have e2:nb=Gn:=rfl;have e3:o=out:=rfl;have e4:nb-1=Gm:=rfl
        clear_value Gp Gn out Gm
        subst e1 e2 e3 e4;have J:∀u m,wpS (model prog w) A E s (jp u m) (fs (λc=>HR st a b (n+1) Q c.1 c.2.1 c.2.2.1 c.2.2.2.1) (λc=>HR st a b (n+1) nQ c.1 c.2.1 c.2.2.1 c.2.2.2.1)) eU:=by
          intro u m;dsimp -zeta -zetaHave only[jp]
          clear_value jp
          refine aA (za (g:=m) λgT gI=>?_)
          replace hL:=hL.vc gI
          obtain⟨p,q,hp,hq,ip,iq⟩:=hL.ex gU;refine aA (y9 hq ?_);refine aA (ur (hL.sm.1.trans hk) iq IA (SA _ _) (by have:=hL.a2;omega) (by have:=hL.a1;omega) λk lQ kB lx=>?_);have G:=hL.gy hq lQ kB lx;clear kB lx hp ip;dsimp -zeta -zetaHave only
          lift_lets
          intro k2 DP pe AK na2;have J2:∀u na o,HI st a b (n+1) na nb o gT->(∀p,0<na->a[na-1]?=some p->kn p<=kn q)->wpS (model prog w) A E s (pe u na o) (fs (λc=>HR st a b (n+1) Q c.1 c.2.1 c.2.2.1 c.2.2.2.1) (λc=>HR st a b (n+1) nQ c.1 c.2.1 c.2.2.1 c.2.2.2.1)) gT:=by
            clear G hL;intro u na o hL hc;dsimp -zeta -zetaHave only[pe]
            clear_value pe DP
            obtain⟨p,q2,hp,_,ip,_⟩:=hL.ex gU;have Y:=hL.x hp hq (hc p hL.a1 hp);refine aA (y9 hq ?_);refine f9 (λe=>aJ (h _ _ hL.sm (Y.1 (eq_of_beq e)))) λe=>?_;have Z:=Y.2 λz=>e (bz.mpr z);refine aA (y9 hp ?_);refine aA (ur (hL.sm.1.trans hk) ip IB (SB _ _) (by have:=Z.b2;omega) (by have:=Z.b1;omega) λk lQ kB lx=>?_);have G:=Z.gx hp lQ kB lx;clear kB lx Y e hc;dsimp -zeta -zetaHave only
            lift_lets
            intro k3 UZ rJ AJ nb3;have J3:∀u nb o,HI st a b (n+1) na nb o gT->(∀q,0<nb->b[nb-1]?=some q->kn q<=kn p)->wpS (model prog w) A E s (rJ u nb o) (fs (λc=>HR st a b (n+1) Q c.1 c.2.1 c.2.2.1 c.2.2.2.1) (λc=>HR st a b (n+1) nQ c.1 c.2.1 c.2.2.1 c.2.2.2.1)) gT:=by
              clear G Z hL hq;intro u nb o hL hc;dsimp -zeta -zetaHave only[rJ];obtain⟨p2,q,_,hq,_,_⟩:=hL.ex gU;have Y:=hL.y hp hq (hc q (by have:=hL.b1;omega) hq);refine aA (y9 hp ?_);refine f9 (λe=>aJ (h _ _ hL.sm (Y.1 (eq_of_beq e)))) λe=>?_;have Z:=Y.2 λz=>e (bz.mpr z);exact f9 (λ_=>aJ (Z.wk (cB _))) (λ_=>aJ (Z.wk (cB _)))
            clear_value rJ
            refine f9 (λ_=>f9 (λe=>aJ (h _ _ hL.sm (G.1 (eq_of_beq e)))) λe=>f9 (λe2=>aJ (h _ _ hL.sm (G.2.1 (eq_of_beq e2)))) λe2=>J3 _ _ _ ((G.2.2.1 (λz=>e (bz.mpr z)) (λz=>e2 (bz.mpr z))).wk (cB _)) G.2.2.2) (λe=>J3 _ _ _ (Z.wk (cB _)) ?_);have e:k=nb-1:=by have e:¬nb-1-k>0:=e;omega
            subst e;exact G.2.2.2
          clear_value pe
          refine f9 (λ_=>f9 (λe=>aJ (h _ _ hL.sm (G.1 (eq_of_beq e)))) λe=>J2 _ _ _ (G.2.1 (λz=>e (bz.mpr z))) G.2.2) (λe=>J2 _ _ _ hL ?_);have e:k=na:=by have e:¬na-k>0:=e;omega
          subst e;exact G.2.2
        clear_value jp
        exact f9 (λ_=>J _ _) (λ_=>J _ _)
      · rintro⟨c1,na,nb,o,mg,ac,bc⟩ eU hL;cases c1 with
        |some z=>exact hL.elim
        |none=>exact hL
      · rintro⟨c1,na,nb,o,mg,ac,bc⟩ eU hL;cases c1 with
        |some z=>exact aJ hL
        |none=>exact aA (za λgT gI=>aJ (HI.vc hL gI))
  · rintro⟨c1,na,nb,o,mg⟩ eU hL;cases c1 with
    |some z=>exact hL.elim
    |none=>exact HI.wk hL ()
  · rintro⟨c1,na,nb,o,mg⟩ eU hL;cases c1 with
    |some z=>exact aJ hL
    |none=>exact(HI.full hL).elim
end
def seg(l:List Keyed)(s n:Nat):List Keyed:=(l.drop s).take n
theorem B6{l:List Keyed}{s n:Nat}(h:s+n<=l.length):(seg l s n).length=n:=by simp[seg];omega
theorem X4(l:List Keyed)(s n k:Nat):(seg l s n)[k]?=if k<n then l[s+k]? else none:=by
 unfold seg;rw[MK];split<;>simp
theorem Dj(l:List Keyed)(s n m:Nat):seg l s (n+m)=seg l s n++seg l (s+n) m:=by
 unfold seg;rw[List.take_add,gN]
theorem DN{l l':List Keyed}{s n:Nat}(h:∀k,s<=k->k<s+n->l'[k]?=l[k]?):seg l' s n=seg l s n:=by
 apply bW;intro k;rw[X4,X4];by_cases hk:k<n
 ·rw[aK hk,aK hk];exact h _ () ()
 ·rw[aB hk,aB hk]
def put(l:List Keyed)(s:Nat)(m:List Keyed):List Keyed:=l.take s++(m++l.drop (s+m.length))
theorem N1{l:List Keyed}{s:Nat}{m:List Keyed}(h:s+m.length<=l.length)(k:Nat):(put l s m)[k]?=if s<=k/\k<s+m.length then m[k-s]? else l[k]?:=by
 unfold put;rw[Am,cv,Nat.min_eq_left ()];by_cases h1:k<s
 ·rw[aK h1,aB (),MK,aK h1]
 ·rw[aB h1,Am];by_cases h2:k-s<m.length
  ·rw[aK h2,aK ()]
  ·rw[aB h2,aB (),List.getElem?_drop];congr 1;omega
theorem Ul{l:List Keyed}{s:Nat}{m:List Keyed}(h:s+m.length<=l.length):seg (put l s m) s m.length=m:=by
 apply bW;intro k;rw[X4,N1 h];by_cases hk:k<m.length
 ·rw[aK hk,aK ()];congr 1;omega
 ·rw[aB hk,aQ ()]
theorem a47{l:List Keyed}{s:Nat}{m:List Keyed}(h:m.Perm (seg l s m.length)):(put l s m).Perm l:=by
 have e:l=l.take s++(seg l s m.length++l.drop (s+m.length)):=by
  unfold seg;rw[<- gN,bU,bU]
 conv=>rhs;rw[e]
 exact eK _ (fG _ h)
theorem LW:∀(m:List Keyed) (s j:Nat) (a:Array Keyed),s+j+m.length<=a.size->((m.zipIdx j).foldl (λa (p:Keyed×Nat)=>a.setIfInBounds (s+p.2) p.1) a).toList=put a.toList (s+j) m
 |[],s,j,a,h=>by simp[put]
 |p::m,s,j,a,h=>by
  rw[List.zipIdx_cons,nC,LW m s (j+1) _ (by simp at h ⊢;omega)];have h1:s+j+(p::m).length<=a.toList.length:=by simpa using h
  have h2:s+(j+1)+m.length<=(a.setIfInBounds (s+j) p).toList.length:=by simp at h ⊢;omega
  apply bW;intro k;rw[N1 h1,N1 h2];simp only[Array.toList_setIfInBounds,List.getElem?_set,List.length_cons,Array.length_toList] at h ⊢;by_cases h3:s+(j+1)<=k/\k<s+(j+1)+m.length
  ·rw[aK h3,aK (),show k-(s+j)=(k-(s+(j+1)))+1 by omega,tF]
  ·rw[aB h3];by_cases e:s+j=k
   ·subst e;rw[aK rfl,aK (),aK (),Nat.sub_self];rfl
   ·rw[aB e,aB ()]
theorem a46{l z:List Keyed}{s k r:Nat}(h:s+k+z.length+r<=l.length):put l (s+k) z=put l s (seg l s k++(z++seg l (s+k+z.length) r)):=by
 have e:(seg l s k++(z++seg l (s+k+z.length) r)).length=k+z.length+r:=by
  rw[bj,bj,B6 (),B6 ()];omega
 have e2:l.drop (s+k+z.length)=seg l (s+k+z.length) r++l.drop (s+(k+z.length+r)):=by
  unfold seg;rw[show s+(k+z.length+r)=s+k+z.length+r by omega,<- gN (i:=r),bU]
 unfold put;rw[e,List.take_add,e2];simp only[seg,List.append_assoc]
theorem Tz{a1 a2 b1 b2 m:List Keyed}(sa:(a1++a2).Pairwise le)(sb:(b1++b2).Pairwise le)(hm:Fn le (a2++b1) m)(h1:∀p∈a1,∀q∈b1++b2,le p q)(h2:∀p∈a2,∀q∈b2,le p q):(a1++(m++b2)).Pairwise le:=by
 obtain⟨x1,x2,x3⟩:=aV.mp sa;obtain⟨y1,y2,y3⟩:=aV.mp sb;have mm:∀p∈m,p∈a2\/p∈b1:=λp hp=>ba.mp (hm.1.mem_iff.mp hp);refine aV.mpr ⟨x1,aV.mpr ⟨hm.2,y2,λp hp q hq=>?_⟩,λp hp q hq=>?_⟩
 ·rcases mm p hp with hp|hp
  ·exact h2 p hp q hq
  ·exact y3 p hp q hq
 ·rcases ba.mp hq with hq|hq
  ·rcases mm q hq with hq|hq
   ·exact x3 p hp q hq
   ·exact h1 p hp q (bB _ hq)
  ·exact h1 p hp q (aP _ hq)
def AQ:Nat->StateT SortSt Sem Bool:=sortPriv% PySem.Builtin.mergeAt
section
variable{prog:Program}{w:World}{A:Around}{E:Value->Shared->Prop}{s:Shared}
theorem UY{σ:Type}{M:Model}{x st:σ}{Q:PUnit->σ->Prop}(h:Q ⟨⟩ x):wpS M A E s (set x:StateT σ Sem PUnit) Q st:=by
 unfold wpS;rw[StateT.run_set];exact ai ⟨rfl,h⟩
theorem QP{st:SortSt}{i sa na pw sb nb tK:Nat}{Q:Bool->SortSt->Prop}(hk:kindOf st=oneType')(Oj:failedOf st=none)(gU:∀p∈(arrOf st).toList,IK p)(e1:(pendingOf st)[i]?=some (sa,na,pw))(e2:(pendingOf st)[i+1]?=some (sb,nb,tK))(PK:sb=sa+na)(hn:sb+nb<=(arrOf st).size)(Pl:0<na)(h0b:0<nb)(ha:(seg (arrOf st).toList sa na).Pairwise le)(hb:(seg (arrOf st).toList sb nb).Pairwise le)(h:∀ aY m,m.length=na + nb->m.Pairwise le->m.Perm (seg (arrOf st).toList sa (na + nb))->kindOf aY=oneType'->failedOf aY=none->(arrOf aY).toList=put (arrOf st).toList sa m ->
   pendingOf aY=((pendingOf st).setIfInBounds i (sa,na + nb,pw)).eraseIdxIfInBounds (i + 1)->Q true aY):wpS (model prog w) A E s (AQ i) Q st:=by
 obtain⟨kd,X,pd,mg,fl⟩:=st;dsimp only[arrOf,kindOf,pendingOf,failedOf] at *;subst hk Oj;unfold AQ;refine aA (mU ?_);rw[e1,e2];refine aA (m:=set _) (UY ?_);have hsz:X.toList.length=X.size:=by simp
 have tX:sb<X.size:=by omega
 refine aA (y9 (p:=X[sb]) (cF _ sb tX) ?_);have IX:∀t (ht:t<X.size),IK X[t]:=λt ht=>gU _ (by simp);have xT:∀u n,u+n<=X.size->(seg X.toList u n).Pairwise le->∀i j (hj:j<X.size) (iA:i<=j),u<=i->j<u+n->kn X[i]<=kn X[j]:=by
  intro u n hun hp i j hj iA h1 h2;by_cases e:i=j
  ·subst e;exact dZ _
  ·have l1:=B6 (l:=X.toList) (s:=u) (n:=n) ();have:=eZ.mp hp (i-u) (j-u) () () ();simp only[seg,List.getElem_take,List.getElem_drop,show u+(i-u)=i by omega,show u+(j-u)=j by omega,Array.getElem_toList] at this;exact this
 refine aA (ur (xs:=X) rfl (IX sb tX) gU (xT sa na () ha) () Pl λk lQ kB lx=>?_);have ea:seg X.toList sa na=seg X.toList sa k++seg X.toList (sa+k) (na-k):=by rw[<- Dj];congr 1;omega
 have wC:seg X.toList sa (na+nb)=seg X.toList sa na++seg X.toList sb nb:=by rw[Dj,PK]
 have iH:∀q∈seg X.toList sb nb,kn X[sb]<=kn q:=by
  intro q hq;obtain⟨t,ht,rfl⟩:=bG.mp hq;rw[B6 ()] at ht;simp only[seg,List.getElem_take,List.getElem_drop,Array.getElem_toList];exact xT sb nb hn hb sb (sb+t) () () () ()
 have X1:∀p∈seg X.toList sa k,∀q∈seg X.toList sb nb,le p q:=λp hp q hq=>fH (Fc (kB p hp)) (iH q hq);have keep:(∀p∈seg X.toList (sa+k) (na-k),∀q∈seg X.toList sb nb,le p q)->∀aY,kindOf aY=oneType'->failedOf aY=none->arrOf aY=X->pendingOf aY=(pd.setIfInBounds i (sa,na+nb,pw)).eraseIdxIfInBounds (i+1)->Q true aY:=by
  intro hc aY g1 g2 g3 g4;have l2:(seg X.toList sa (na+nb)).length=na+nb:=B6 ();refine h aY (seg X.toList sa (na+nb)) l2 ?_ (gO _) g1 g2 ?_ g4
  ·rw[wC];refine aV.mpr ⟨ha,hb,λp hp q hq=>?_⟩;rw[ea] at hp;rcases ba.mp hp with hp|hp
   ·exact X1 p hp q hq
   ·exact hc p hp q hq
  ·show(arrOf aY).toList=_;rw[g3];unfold put;rw[l2];unfold seg;rw[<- gN,bU,bU]
 dsimp only;refine f9 (λhe=>?_) (λhe=>?_)
 ·have he:na-k=0:=by simpa using he
  refine aJ (keep (λp hp=>?_) _ rfl rfl rfl rfl);rw[he] at hp;simp[seg] at hp
 have GS:0<na-k:=by simp at he;omega
 rw[show sa+k+(na-k)-1=sb-1 by omega];have tQ:sb-1<X.size:=by omega
 refine aA (y9 (p:=X[sb-1]) (cF X (sb-1) tQ) ?_);refine aA (ur (xs:=X) rfl (IX _ tQ) gU (xT sb nb hn hb) hn () λt ht1 GK NO=>?_);have yx:∀p∈seg X.toList (sa+k) (na-k),kn p<=kn X[sb-1]:=by
  intro q hq;obtain⟨u,hu,rfl⟩:=bG.mp hq;rw[B6 ()] at hu;simp only[seg,List.getElem_take,List.getElem_drop,Array.getElem_toList];exact xT sa na () ha (sa+k+u) (sb-1) tQ () () ()
 have eb:seg X.toList sb nb=seg X.toList sb t++seg X.toList (sb+t) (nb-t):=by rw[<- Dj];congr 1;omega
 have X2:∀p∈seg X.toList (sa+k) (na-k),∀q∈seg X.toList (sb+t) (nb-t),le p q:=λp hp q hq=>fH (yx p hp) (Eb (NO q hq));dsimp only;refine f9 (λhe=>?_) (λhe=>?_)
 ·have he:t=0:=by simpa using he
  subst he;refine aJ (keep (λp hp q hq=>?_) _ rfl rfl rfl rfl);exact X2 p hp q hq
 have ht:0<t:=by simp at he;omega
 have pI:(X.extract (sa+k) sb).toList=seg X.toList (sa+k) (na-k):=by
  rw[dH,List.extract_eq_drop_take];unfold seg;congr 1;omega
 have pH:(X.extract sb (sb+t)).toList=seg X.toList sb t:=by
  rw[dH,List.extract_eq_drop_take];unfold seg;congr 1;omega
 rw[ea] at ha;rw[eb] at hb;have s1:=(aV.mp ha).2.1;have s2:=(aV.mp hb).1;have z1:(X.extract (sa+k) sb).size=na-k:=by simp;omega
 have z2:(X.extract sb (sb+t)).size=t:=by simp;omega
 have sub:∀u n p,p∈seg X.toList u n->IK p:=λu n p hp=>gU p (Al (cU hp));have GF:∀p∈(X.extract (sa+k) sb).toList++(X.extract sb (sb+t)).toList,IK p:=by
  rw[pI,pH];intro p hp;rcases ba.mp hp with hp|hp
  ·exact sub _ _ p hp
  ·exact sub _ _ p hp
 have y0:∀h,kn ((X.extract sb (sb+t))[0]'h)=kn X[sb]:=λh=>by simp
 have xl:∀h,kn ((X.extract (sa+k) sb)[(X.extract (sa+k) sb).size-1]'h)=kn X[sb-1]:=λh=>by
  simp only[Array.getElem_extract];congr 2;omega
 have lst:∀z,(seg X.toList (sa+k) (na-k)).getLast?=some z->kn z=kn X[sb-1]:=by
  intro z hz;rw[List.getLast?_eq_getElem?,B6 (),X4,aK (),show sa+k+(na-k-1)=sb-1 by omega,ao ()] at hz;cases hz;simp
 refine f9 (λhc=>?_) (λhc=>?_);refine aA (QR rfl GF () () ⟨gO _,List.Pairwise.nil,by rw[pI];exact s1,by rw[pH];exact s2,λp hp=>absurd hp mr,λq hq z hz=>?_⟩ (λp hp=>?_) λz aY hs hz=>?_)
 ·rw[pI] at hz;rw[pH] at hq;show kn q<=kn z;rw[lst z hz];exact cG (zU (GK q hq))
 ·rw[pI] at hp;rw[y0];exact cG (yQ (lx p hp))
 rotate_left
 refine aA (QQ rfl GF () () (by rw[pI];exact s1) (by rw[pH];exact s2) ⟨?_,List.Pairwise.nil,?_,?_,λp hp=>absurd hp mr,λq hq z hz=>?_⟩ (λp hp=>?_) λz aY hs hz=>?_)
 ·rw[xg,xg,nB];exact(List.Perm.append (lE _) (lE _)).trans jw
 ·rw[xg,pH];exact jx.mpr s2
 ·rw[xg,pI];exact jx.mpr s1
 ·have hq:=KG hq;rw[pI] at hq;rw[xg,List.getLast?_reverse,pH,List.head?_eq_getElem?,X4,aK ht,ao (by simp;omega)] at hz;cases hz;exact cG (by simpa using yQ (lx q hq))
 ·rw[pH] at hp;rw[xl];exact cG (zU (GK p hp))
 all_goals
  refine aA (mT (aA (mU (aJ ?_))));show Q (failedOf aY).isNone _;rw[hs.2.2.2];have hzl:z.toList.length=na-k+t:=by rw[hz.1.length_eq,bj,pI,pH,B6 (),B6 ()]
  rw[pI,pH] at hz;have hA:(seg X.toList sa k).length=k:=B6 ();have hB:(seg X.toList (sb+t) (nb-t)).length=nb-t:=B6 ();refine h _ (seg X.toList sa k++(z.toList++seg X.toList (sb+t) (nb-t))) (by rw[bj,bj,hA,hB];omega) (Tz ha hb hz (by rw[<- eb];exact X1) X2) ?_ hs.1 hs.2.2.2 ?_ hs.2.2.1
  ·rw[wC,ea,eb,bI];refine eK _ ?_;rw[<- bI];exact fG _ hz.1
  ·have:=LW z.toList (sa+k) 0 (arrOf aY) (by rw[hs.2.1];show sa+k+0+_<=X.size;omega);refine Eq.trans this ?_;rw[hs.2.1];have:=a46 (l:=X.toList) (z:=z.toList) (s:=sa) (k:=k) (r:=nb-t) ();rw[show sa+k+z.toList.length=sb+t by omega] at this;exact this
end
structure Nr(st aY:SortSt)(lo hi:Nat):Prop where
 kd:kindOf aY=oneType'
 fl:failedOf aY=none
 pd:pendingOf aY=pendingOf st
 pm:(arrOf aY).Perm (arrOf st)
 out:∀k,k<lo\/hi<=k->(arrOf aY)[k]?=(arrOf st)[k]?
theorem Nr.arr{st aY:SortSt}{lo hi:Nat}(h:Nr st aY lo hi){xs:Array Keyed}(hp:xs.Perm (arrOf aY))(ho:∀k,k<lo\/hi<=k->xs[k]?=(arrOf aY)[k]?):Nr st (setArr aY xs) lo hi :=
 ⟨h.kd,h.fl,h.pd,hp.trans h.pm,λk hk=>(ho k hk).trans (h.out k hk)⟩
def SB(xs:Array Keyed)(lo m:Nat):Prop:=∀i j,lo<=i->i<=j->j<lo+m->K xs i<=K xs j
def ND(xs:Array Keyed)(lo m:Nat):Prop:=∀i j,lo<=i->i<=j->j<lo+m->K xs j<=K xs i
theorem SB.one(xs:Array Keyed)(lo:Nat):SB xs lo 1:=λi j a b c=>by
 have:i=j:=by omega
 subst this;exact dZ _
theorem SB.more{xs:Array Keyed}{lo x:Nat}(h:SB xs lo x)(h0:0<x)(hc:¬K xs (lo+x)<K xs (lo+x-1)):SB xs lo (x+1):=by
 intro i j h1 h2 h3;by_cases hj:j<lo+x
 ·exact h i j h1 h2 hj
 ·have:j=lo+x:=by omega
  subst this;by_cases hi:i=lo+x
  ·subst hi;exact dZ _
  ·exact fH (h i (lo+x-1) h1 () ()) (gP.mp hc)
theorem ND.more{xs:Array Keyed}{lo x:Nat}(h:ND xs lo x)(h0:0<x)(hc:K xs (lo+x)<=K xs (lo+x-1)):ND xs lo (x+1):=by
 intro i j h1 h2 h3;by_cases hj:j<lo+x
 ·exact h i j h1 h2 hj
 ·have:j=lo+x:=by omega
  subst this;by_cases hi:i=lo+x
  ·subst hi;exact dZ _
  ·exact fH hc (h i (lo+x-1) h1 () ())
theorem ND.same{xs ys:Array Keyed}{lo m:Nat}(h:ND xs lo m)(hk:∀k,K ys k=K xs k):ND ys lo m:=λi j a b c=>by rw[hk,hk];exact h i j a b c
section
variable{prog:Program}{w:World}{A:Around}{E:Value->Shared->Prop}{s:Shared}
theorem Jj{xs:Array Keyed}{i:Nat}(hi:i<xs.size)(hk:IK xs[i]):∃t q,xs[i]?=some (.int (K xs i) t,q):=by
 obtain⟨n,t,e⟩:=hk;refine⟨t,xs[i].2,?_⟩;have e2:xs[i]?=some xs[i]:=cF _ i hi;have e3:xs[i]=(.int n t,xs[i].2):=Aj e rfl;unfold K;rw[e2,e3]
 rfl
theorem vx{st:SortSt}{i j:Nat}{Q:Option Bool->SortSt->Prop}(hk:kindOf st=oneType')(h0:∀p∈(arrOf st).toList,IK p)(hi:i<(arrOf st).size)(hj:j<(arrOf st).size)(h:Q (some (decide (K (arrOf st) i<K (arrOf st) j))) st) :
  wpS (model prog w) A E s (ltAt' i j) Q st:=by
 obtain⟨t,p,e1⟩:=Jj hi (h0 _ (by simp));obtain⟨u,q,e2⟩:=Jj hj (h0 _ (by simp));exact wpS_ltAt hk e1 e2 h
theorem Qo{st:SortSt}{lo n ok:Nat}{Q:Bool->SortSt->Prop}(hk:kindOf st=oneType')(hf:failedOf st=none)(h0:∀p∈(arrOf st).toList,IK p)(hn:lo+n<=(arrOf st).size)(cq:ok<=n)(hs:SB (arrOf st) lo ok)(h:∀aY,Nr st aY lo (lo+n)->SB (arrOf aY) lo n->Q true aY):wpS (model prog w) A E s (binarySort' lo n ok) Q st:=by
 unfold binarySort';refine aA (wpS_mono (dJ (I:=λk (c:Option Bool × Unit) aY=>c=(none,Unit.unit)/\Nr st aY lo (lo + n)/\SB (arrOf aY) lo (min k n))
  (Q:=λc aY=>c=(none,Unit.unit)/\Nr st aY lo (lo + n)/\SB (arrOf aY) lo n) ?_ ?_ ⟨rfl,⟨hk,hf,rfl,nE _,λ_ _=>rfl⟩,?_⟩) ?_)
 ·rintro k c aY hak hkn ⟨rfl,hN,jq⟩;rw[show min k n=k by omega] at jq;have hsz:(arrOf aY).size=(arrOf st).size:=hN.pm.size_eq;have ue:∀p∈(arrOf aY).toList,IK p:=λp hp=>h0 p ((cb.mp hN.pm).mem_iff.mp hp);refine aA (wpS_mono (dJ (I:=λx (c:Option Bool × Nat × Nat) gQ=>gQ=aY/\c.1=none/\c.2.1 <= c.2.2/\c.2.2 <= k/\c.2.2 - c.2.1 <= k - x /\
    (∀ i,lo <= i->i < lo + c.2.1->K (arrOf aY) i <= K (arrOf aY) (lo + k))/\(∀ i,lo + c.2.2 <= i->i < lo + k->K (arrOf aY) (lo + k) < K (arrOf aY) i))
   (Q:=λc gQ=>gQ=aY/\c.1=none/\c.2.1<=k/\(∀i,lo<=i->i<lo+c.2.1->K (arrOf aY) i<=K (arrOf aY) (lo+k))/\(∀i,lo+c.2.1<=i->i<lo+k->K (arrOf aY) (lo+k)<K (arrOf aY) i)) ?_ ?_
   ⟨rfl,rfl,cJ _,av _,av _,λi h1 h2=>absurd h2 (by dsimp only;omega),λi h1 h2=>absurd h2 (by dsimp only at h1;omega)⟩) ?_)
  ·rintro x ⟨c1,l,r⟩ gQ _ hx ⟨rfl,rfl,q1,q2,q3,q4,q5⟩;dsimp only at q1 q2 q3 q4 q5;refine f9 (λjT=>?_) (λjT=>?_)
   ·have:l=r:=by dsimp only at jT;omega
    subst this;exact aJ ⟨rfl,rfl,q2,q4,q5⟩
   ·have jT:l<r:=by dsimp only at jT;omega
    refine aA (vx hN.kd ue (by rw[hsz];omega) (by rw[hsz];dsimp only;omega) ?_);refine f9 (λhc=>?_) (λhc=>?_)
    ·have hc:=bg hc;exact aJ ⟨rfl,rfl,by dsimp only;omega,by dsimp only;omega,by dsimp only;omega,q4,λi h1 h2=>Int.lt_of_lt_of_le hc (jq _ _ () h1 h2)⟩
    ·have hc:=gP.mp λz=>hc (aw z);exact aJ ⟨rfl,rfl,by dsimp only;omega,q2,by dsimp only;omega,λi h1 h2=>fH (jq i (lo+(l+r) / 2) h1 (by dsimp only at h2;omega) ()) hc,q5⟩
  ·rintro⟨c1,l,r⟩ gQ ⟨rfl,rfl,q1,q2,q3,q4,q5⟩;dsimp only at q1 q2 q3 q4 q5;have:l=r:=by omega
   subst this;exact⟨rfl,rfl,q2,q4,q5⟩
  ·rintro⟨c1,l,r⟩ gQ ⟨rfl,rfl,q1,q2,q3⟩;dsimp only at q1 q2 q3 ⊢;have tS:lo+k<(arrOf gQ).size:=by rw[hsz];omega
   refine aA (mT (aJ ⟨rfl,hN.arr (bubble_perm _ (lo+k) (lo+k-(lo+l))) (λt ht=>?_),?_⟩))
   ·show(bubble (arrOf gQ) (lo+k) (lo+k-(lo+l)))[t]?=_;rw[getElem?_bubble tS _ (),aB (),aB ()]
   ·rw[show min (k+1) n=k+1 by omega];intro i j h1 iA hj;show K (bubble (arrOf gQ) (lo+k) (lo+k-(lo+l))) i<=K (bubble (arrOf gQ) (lo+k) (lo+k-(lo+l))) j;rw[K_bubble tS (),K_bubble tS (),show lo+k-(lo+k-(lo+l))=lo+l by omega]
    repeat' split
    all_goals first
     |(exfalso;omega)
     |exact dZ _
     |exact q2 _ () ()
     |exact cG (q3 _ () ())
     |exact jq _ _ () () ()
 ·rintro c aY ⟨rfl,hN,jq⟩;refine⟨rfl,hN,?_⟩
  rwa [show min (max (max ok 1) n) n=n by omega] at jq
 ·intro i j h1 iA hj;by_cases e:ok=0
  ·have:i=j:=by omega
   subst this;exact dZ _
  ·exact hs i j h1 iA ()
 ·rintro c aY ⟨rfl,hN,jq⟩;exact aJ (h aY hN jq)
theorem Nr.yb{st aY:SortSt}{lo hi i j:Nat}(h:Nr st aY lo hi)(h1:lo<=i)(h2:j<=hi)(h3:j<=(arrOf aY).size):Nr st (setArr aY (mirror (arrOf aY) i j ((j-i) / 2))) lo hi :=
 h.arr (mirror_perm _ _ _ _) λk hk=>by rw[getElem?_mirror_all h3,aB ()]
theorem RS{st:SortSt}{lo gw:Nat}{Q:Option Nat->SortSt->Prop}(hk:kindOf st=oneType')(hf:failedOf st=none)(h0:∀p∈(arrOf st).toList,IK p)(hn:lo+gw<=(arrOf st).size)(h1:1<=gw)(h:∀m aY,Nr st aY lo (lo+gw)->1<=m->m<=gw->SB (arrOf aY) lo m->Q (some m) aY):wpS (model prog w) A E s (countRun' lo gw) Q st:=by
 have asc:∀aY n,Nr st aY lo (lo+gw)->1<=n->n<=gw->SB (arrOf aY) lo n->∀(F:Nat->Option (Option Nat)×Nat->StateT SortSt Sem (ForInStep (Option (Option Nat)×Nat))),
   (F=λ_ c=>ltAt' (lo + c.2) (lo + c.2 - 1) >>= λr=>match r with
    |some b=>if b=true then pure (.done (none,c.2)) else pure (.yield (none,c.2+1))
    | x=>pure (.done (some none,c.2))) ->
   wpS (model prog w) A E s (forIn [n:gw] (none,n) F) (λc gQ=>gQ=aY/\c.1=none/\1<=c.2/\c.2<=gw/\SB (arrOf aY) lo c.2/\(c.2=gw\/K (arrOf aY) (lo+c.2)<K (arrOf aY) (lo+c.2-1))) aY:=by
  intro aY n hN h2 h3 hs F e;subst e;have hsz:(arrOf aY).size=(arrOf st).size:=hN.pm.size_eq;have ue:∀p∈(arrOf aY).toList,IK p:=λp hp=>h0 p ((cb.mp hN.pm).mem_iff.mp hp);refine dJ (I:=λx c gQ=>gQ=aY/\c=(none,x)/\1<=x/\SB (arrOf aY) lo x) ?_ ?_ ⟨rfl,rfl,h2,hs⟩
  ·rintro x c gQ Hi GI ⟨rfl,rfl,q1,q2⟩;refine aA (vx hN.kd ue (by rw[hsz];dsimp only;omega) (by rw[hsz];dsimp only;omega) ?_);refine f9 (λhc=>?_) (λhc=>?_)
   ·exact aJ ⟨rfl,rfl,q1,by dsimp only;omega,q2,.inr (bg hc)⟩
   ·exact aJ ⟨rfl,rfl,by omega,q2.more () λz=>hc (aw z)⟩
  ·rintro c gQ ⟨rfl,rfl,q1,q2⟩;rw[show max n gw=gw by omega] at q1 q2 ⊢;exact⟨rfl,rfl,q1,av _,q2,.inl rfl⟩
 have N0:Nr st st lo (lo+gw):=⟨hk,hf,rfl,nE _,λ_ _=>rfl⟩
 unfold countRun';refine aA (wpS_mono (asc st 1 N0 (av _) h1 (SB.one _ _) _ rfl) ?_);rintro⟨c1,n⟩ eU ⟨rfl,rfl,yj,nj,hs,GQ⟩;dsimp only at yj nj hs GQ ⊢;refine f9 (λhe=>aJ (h n eU N0 yj nj hs)) (λhe=>?_);have hnn:n<gw:=by simp at he;omega
 have dS:K (arrOf eU) (lo+n)<K (arrOf eU) (lo+n-1):=GQ.resolve_left ();refine f9 (λhg=>?_) (λhg=>?_);refine aA (vx hk h0 () () ?_);refine f9 (λhc=>aJ (h n eU N0 yj nj hs)) (λhc=>?_);have hc:=gP.mp λz=>hc (aw z);have jU:∀k,lo<=k->k<lo+n->K (arrOf eU) k=K (arrOf eU) (lo+n-1):=by
  intro k lQ kB;have a1:=hs lo k (av _) lQ kB;have a2:=hs k (lo+n-1) lQ () ();omega
 refine aA (wpS_reverse ?_);have hN:=N0.yb (i:=lo) (j:=lo+n) (av _) () ();have hD:ND (arrOf (setArr eU (mirror (arrOf eU) lo (lo+n) ((lo+n-lo) / 2)))) lo (n+1):=by
  refine ND.more (x:=n) (ND.same (xs:=arrOf eU) (λi j a b c=>?_) λk=>jX () jU k) () ?_
  ·rw[jU i a (),jU j () c];exact dZ _
  ·rw[jX () jU,jX () jU];exact cG dS
 generalize setArr eU (mirror (arrOf eU) lo (lo+n) ((lo+n-lo) / 2))=gT at hN hD ⊢
 rotate_left
 have Bk:n=1:=by omega
 subst Bk;have hN:=N0;have hD:ND (arrOf eU) lo (1+1):=ND.more (x:=1) (λi j a b c=>by rw[show i=j by omega];exact dZ _) ∅ (cG dS)
 all_goals
  refine aA (pT (cV ⟨rfl,?_⟩));refine aA (wpS_mono (dJ (I:=λx (c:Option (Option Nat) × Nat × Nat) aY=>c.1=none/\c.2.1=x/\Nr eU aY lo (lo + gw)/\ND (arrOf aY) lo x/\c.2.2 + 1 <= x/\∀ i,lo + x - (c.2.2 + 1) <= i->i < lo + x->K (arrOf aY) i=K (arrOf aY) (lo + x - 1))
   (Q:=λc aY=>c.1=none/\1<=c.2.1/\c.2.1<=gw/\Nr eU aY lo (lo+gw)/\ND (arrOf aY) lo c.2.1/\c.2.2+1<=c.2.1/\∀i,lo+c.2.1-(c.2.2+1)<=i->i<lo+c.2.1->K (arrOf aY) i=K (arrOf aY) (lo+c.2.1-1)) ?_ ?_
   ⟨rfl,rfl,hN,hD,by dsimp only;omega,λi a b=>by dsimp only at a;congr 1;omega⟩) ?_)
  ·rintro x ⟨c1,c2,q⟩ aY Hi GI ⟨rfl,rfl,mf,jq,hq,ly⟩;dsimp only at Hi GI jq hq ly ⊢;have hsz:(arrOf aY).size=(arrOf eU).size:=mf.pm.size_eq;have ue:∀p∈(arrOf aY).toList,IK p:=λp hp=>h0 p ((cb.mp mf.pm).mem_iff.mp hp);refine aA (vx mf.kd ue (by rw[hsz];omega) (by rw[hsz];omega) ?_);refine f9 (λhc=>?_) (λhc=>?_)
   ·have hm:=jq.more () (cG (bg hc));refine f9 (λhg=>?_) (λhg=>?_)
    ·exact aA (wpS_reverse (aJ ⟨rfl,rfl,mf.yb () () (by rw[hsz];omega),hm.same λk=>jX (by rw[hsz];omega) ly k,by dsimp only;omega,λi a b=>by dsimp only at a;congr 1;omega⟩))
    ·exact aJ ⟨rfl,rfl,mf,hm,by dsimp only;omega,λi a b=>by dsimp only at a;congr 1;omega⟩
   ·have hc:=gP.mp λz=>hc (aw z);refine aA (vx mf.kd ue (by rw[hsz];omega) (by rw[hsz];omega) ?_);refine f9 (λhd=>aJ ⟨rfl,by dsimp only;omega,by dsimp only;omega,mf,jq,hq,ly⟩) (λhd=>?_);have hd:=gP.mp λz=>hd (aw z);refine aJ ⟨rfl,rfl,mf,jq.more () hd,by dsimp only;omega,λi a b=>?_⟩;rw[show lo+(c2+1)-1=lo+c2 by omega];by_cases e:i=lo+c2
    ·rw[e]
    ·rw[ly i (by dsimp only at a;omega) ()];omega
  ·rintro⟨c1,c2,q⟩ aY ⟨rfl,e2,mf,jq,hq,ly⟩;dsimp only at e2;have e3:c2=gw:=by omega
   rw[<- e2] at jq hq ly;exact⟨rfl,by dsimp only;omega,by dsimp only;omega,mf,jq,hq,ly⟩
  ·rintro⟨c1,n,q⟩ aY ⟨rfl,rS,GU,mf,jq,hq,ly⟩;dsimp only at rS GU jq hq ly ⊢;have hsz:(arrOf aY).size=(arrOf eU).size:=mf.pm.size_eq;refine f9 (λhg=>aA (wpS_reverse ?_)) (λhg=>?_);have ua:=mf.yb (i:=lo+n-(q+1)) (j:=lo+n) () () (by rw[hsz];omega);have gI:ND (arrOf (setArr aY (mirror (arrOf aY) (lo+n-(q+1)) (lo+n) ((lo+n-(lo+n-(q+1))) / 2)))) lo n:=jq.same λk=>jX (by rw[hsz];omega) ly k;generalize setArr aY (mirror (arrOf aY) (lo+n-(q+1)) (lo+n) ((lo+n-(lo+n-(q+1))) / 2))=jC at ua gI ⊢
   rotate_left
   have ua:=mf;have gI:=jq
   all_goals
    have hsz2:=ua.pm.size_eq;refine aA (wpS_reverse ?_);have tZ:=ua.yb (i:=lo) (j:=lo+n) (av _) () ();refine aA (wpS_mono (asc _ n tZ rS GU (λi j a b c=>?_) _ rfl) ?_)
    ·show K (mirror _ lo (lo+n) _) i<=K (mirror _ lo (lo+n) _) j;rw[K_mirror (),K_mirror (),aK (),aK ()];exact gI _ _ () () ()
    ·rintro⟨c1,m⟩ st4 ⟨rfl,rfl,q1,q2,q3,_⟩;exact aJ (h m _ tZ q1 q2 q3)
end
def Ch(l:List Keyed):List (Nat×Nat×Nat)->Nat->Nat->Prop
 |[],a,b=>a=b
 |(s,n,_)::r,a,b=>s=a/\0<n/\(seg l a n).Pairwise le/\Ch l r (a+n) b
theorem Ch.le{l:List Keyed}:∀{p:List (Nat×Nat×Nat)} {a b:Nat},Ch l p a b->a+p.length<=b
 |[],a,b,h=>fF h
 |(s,n,w)::r,a,b,⟨_,h1,_,h2⟩=>by have:=Ch.le h2;simp only[List.length_cons];omega
theorem Ch.congr{l l':List Keyed}:∀{p:List (Nat×Nat×Nat)} {a b:Nat},Ch l p a b->(∀k,a<=k->k<b->l'[k]?=l[k]?)->Ch l' p a b
 |[],a,b,h,_=>h
 |(s,n,w)::r,a,b,⟨h0,h1,h2,h3⟩,hc=>by
  have:=Ch.le h3;exact⟨h0,h1,by rw[DN λk a b=>hc k a ()];exact h2,Ch.congr h3 λk a b=>hc k () b⟩
theorem Ch.push{l:List Keyed}{n w:Nat}:∀{p:List (Nat×Nat×Nat)} {a b:Nat},Ch l p a b->0<n->(seg l b n).Pairwise TS.le->Ch l (p++[(b,n,w)]) a (b+n)
 |[],a,b,h,h1,h2=>by cases h;exact⟨rfl,h1,h2,rfl⟩
 |(s,m,v)::r,a,b,⟨g0,g1,g2,g3⟩,h1,h2=>⟨g0,g1,g2,Ch.push g3 h1 h2⟩
theorem Ch.pow{l:List Keyed}{f:Nat×Nat×Nat->Nat×Nat×Nat}(hf:∀x,(f x).1=x.1/\(f x).2.1=x.2.1):∀{p:List (Nat×Nat×Nat)} {a b i:Nat},Ch l p a b->Ch l (p.modify i f) a b
 |[],a,b,i,h=>by simpa using h
 |(s,m,v)::r,a,b,0,⟨g0,g1,g2,g3⟩=>by
  obtain⟨x,y⟩:∃z,f (s,m,v)=(s,m,z):=⟨(f (s,m,v)).2.2,Aj (hf _).1 (Aj (hf _).2 rfl)⟩
  rw[List.modify_zero_cons,y];exact⟨g0,g1,g2,g3⟩
 |(s,m,v)::r,a,b,i+1,⟨g0,g1,g2,g3⟩=>by rw[List.modify_succ_cons];exact⟨g0,g1,g2,Ch.pow hf g3⟩
theorem Ch.merge{l:List Keyed}{b sa na pw sb nb tK:Nat}:∀{i:Nat} {p:List (Nat×Nat×Nat)} {a:Nat},Ch l p a b->p[i]?=some (sa,na,pw)->p[i+1]?=some (sb,nb,tK)->a<=sa/\sb=sa+na/\0<na/\0<nb/\sb+nb<=b/\(seg l sa na).Pairwise TS.le/\(seg l sb nb).Pairwise TS.le /\
  ∀m,m.length=na+nb->m.Pairwise TS.le->b<=l.length->Ch (put l sa m) ((p.set i (sa,na+nb,pw)).eraseIdx (i+1)) a b
 |0,(s,n,w)::(s',n',w')::r,a,⟨g0,g1,g2,g3,g4,g5,g6⟩,e1,e2=>by
  simp only[List.getElem?_cons_zero,List.getElem?_cons_succ,Nat.zero_add,Option.some.injEq,Prod.mk.injEq] at e1 e2;obtain⟨rfl,rfl,rfl⟩:=e1;obtain⟨rfl,rfl,rfl⟩:=e2;subst g0;have:=Ch.le g6;subst g3;refine⟨av _,rfl,g1,g4,by omega,g2,g5,λm hm hs hb=>?_⟩;simp only[List.set_cons_zero,Nat.zero_add,List.eraseIdx_cons_succ,List.eraseIdx_cons_zero];have hl:s+m.length<=l.length:=by omega
  refine⟨rfl,by omega,by rw[<- hm,Ul hl];exact hs,?_⟩;rw[<- Nat.add_assoc];exact Ch.congr g6 λk h1 h2=>by rw[N1 hl,aB ()]
 |i+1,(s,n,w)::r,a,⟨g0,g1,g2,g3⟩,e1,e2=>by
  rw[tF] at e1 e2;obtain⟨h1,h2,h3,h4,h5,h6,h7,h8⟩:=Ch.merge g3 e1 e2;refine⟨by omega,h2,h3,h4,h5,h6,h7,λm hm hs hb=>?_⟩;rw[List.set_cons_succ,List.eraseIdx_cons_succ];refine⟨g0,g1,?_,h8 m hm hs hb⟩;rw[DN (l:=l) (l':=put l sa m) λk h1 h2=>by rw[N1 (),aB ()]];exact g2
theorem SB.seg{xs:Array Keyed}{lo n:Nat}(hn:lo+n<=xs.size)(h:SB xs lo n):(seg xs.toList lo n).Pairwise le:=by
 rw[eZ];intro i j hi hj iA;rw[B6 (by simpa using hn)] at hi hj;have:=h (lo+i) (lo+j) () () ();rw[K_eq (),K_eq ()] at this;simpa[TS.seg] using this
section
variable{prog:Program}{w:World}{A:Around}{E:Value->Shared->Prop}{s:Shared}
structure Go(a₀:Array Keyed)(st:SortSt)(lo:Nat):Prop where
 kd:kindOf st=oneType'
 fl:failedOf st=none
 pm:(arrOf st).Perm a₀
 ch:Ch (arrOf st).toList (pendingOf st).toList 0 lo
theorem Lu{a₀:Array Keyed}{st:SortSt}{lo i:Nat}{Q:Bool->SortSt->Prop}(h0:∀p∈a₀.toList,IK p)(hG:Go a₀ st lo)(qh:lo<=a₀.size)(hi:i+1<(pendingOf st).size)(h:∀aY,Go a₀ aY lo->(pendingOf aY).size+1=(pendingOf st).size->(∀k,lo<=k->(arrOf aY).toList[k]?=(arrOf st).toList[k]?)->Q true aY):wpS (model prog w) A E s (AQ i) Q st:=by
 obtain⟨sa,na,pw,e1⟩:∃sa na pw,(pendingOf st)[i]?=some (sa,na,pw):=⟨_,_,_,cF _ i ()⟩
 obtain⟨sb,nb,tK,e2⟩:∃sb nb tK,(pendingOf st)[i+1]?=some (sb,nb,tK):=⟨_,_,_,cF _ (i+1) hi⟩
 obtain⟨g1,g2,g3,g4,g5,g6,g7,g8⟩:=hG.ch.merge (i:=i) (by simpa using e1) (by simpa using e2);have hsz:=hG.pm.size_eq;have hl:(arrOf st).toList.length=a₀.size:=by simpa using hsz
 refine QP hG.kd hG.fl (λp hp=>h0 p ((cb.mp hG.pm).mem_iff.mp hp)) e1 e2 g2 () g3 g4 g6 g7 λaY m m1 m2 m3 m4 m5 m6 m7=>h aY ⟨m4,m5,?_,?_⟩ ?_ ?_
 ·refine Array.Perm.trans (cb.mpr ?_) hG.pm;rw[m6];exact a47 (by rw[m1];exact m3)
 ·rw[m6,m7];have:=g8 m m1 m2 ();simpa using this
 ·rw[m7,<- bp,Array.toList_eraseIdxIfInBounds,List.length_eraseIdx,Array.toList_setIfInBounds,List.length_set,bp,aK hi];omega
 ·intro k hk;rw[m6,N1 (),aB ()]
theorem NH{c:Prop}[Decidable c]{n:Nat}(h:1<n):(if c then n-2-1 else n-2)+1<n:=by split<;>omega
theorem Go.near{a₀:Array Keyed}{st aY:SortSt}{lo hi:Nat}(h:Go a₀ st lo)(hN:Nr st aY lo hi):Go a₀ aY lo :=
 ⟨hN.kd,hN.fl,hN.pm.trans h.pm,by rw[hN.pd];exact h.ch.congr λk _ hk=>by rw[eO,eO];exact hN.out k (.inl hk)⟩
theorem Ur{a₀:Array Keyed}{st:SortSt}{Q:Unit->SortSt->Prop}(h0:∀p∈a₀.toList,IK p)(hG:Go a₀ st 0)(h2:0<a₀.size)(h:∀aY,(arrOf aY).Perm a₀->failedOf aY=none->(arrOf aY).toList.Pairwise le->Q Unit.unit aY):wpS (model prog w) A E s sortRuns' Q st:=by
 unfold sortRuns';refine aA (mU ?_);have hsz:∀aY lo,Go a₀ aY lo->(arrOf aY).size=a₀.size:=λaY lo h=>h.pm.size_eq;have e0:=hsz st 0 hG;refine aA (wpS_mono (dJ (I:=λx (c:Option Unit × Nat) aY=>c.1=none/\Go a₀ aY c.2/\c.2 <= a₀.size/\x <= c.2)
  (Q:=λc aY=>c.1=none/\Go a₀ aY a₀.size) ?_ ?_ ⟨rfl,hG,cJ _,cJ _⟩) ?_)
 ·rintro x ⟨c1,lo⟩ eU _ hx ⟨rfl,mP,qh,yd⟩;dsimp only at mP qh yd;rw[e0];refine f9 (λjT=>aJ ⟨rfl,?_⟩) (λjT=>?_)
  ·have:lo=a₀.size:=by dsimp only at jT;omega
   rw[<- this];exact mP
  have jT:lo<a₀.size:=by dsimp only at jT;omega
  have z1:=hsz eU lo mP;have i1:∀p∈(arrOf eU).toList,IK p:=λp hp=>h0 p ((cb.mp mP.pm).mem_iff.mp hp);refine aA (RS mP.kd mP.fl i1 (by dsimp only;omega) (by dsimp only;omega) λm gT hN Ob Oa hs=>?_);dsimp only at hN Oa hs ⊢;rw[show lo+(a₀.size-lo)=a₀.size by omega] at hN;have z2:(arrOf gT).size=a₀.size:=hN.pm.size_eq.trans z1;have i2:∀p∈(arrOf gT).toList,IK p:=λp hp=>i1 p ((cb.mp hN.pm).mem_iff.mp hp);have fin:∀jC n,Go a₀ jC lo->0<n->lo+n<=a₀.size->(seg (arrOf jC).toList lo n).Pairwise le->(λc aY=>c.1=none/\Go a₀ aY c.2/\c.2<=a₀.size/\x+1<=c.2:Option Unit×Nat->SortSt->Prop) (none,lo+n) (setPending jC ((pendingOf jC).push (lo,n,0))):=by
   intro jC n hG h1 h2 h3;refine⟨rfl,⟨hG.kd,hG.fl,hG.pm,?_⟩,h2,by dsimp only;omega⟩;show Ch _ ((pendingOf jC).push (lo,n,0)).toList 0 _;rw[dG];exact hG.ch.push h1 h3
  refine f9 (λhc=>?_) (λhc=>?_);refine aA (pT (cV ⟨rfl,?_⟩));refine aA (Qo hN.kd hN.fl i2 () () hs λjC tZ GL=>?_);simp only[Bool.not_true,Bool.false_eq_true,if_false];have hc:m<minRun' a₀.size a₀.size 0:=hc;have rS:lo+min (a₀.size-lo) (minRun' a₀.size a₀.size 0)<=a₀.size:=by omega
  have hq:=GL.seg (by rw[tZ.pm.size_eq,z2];exact rS);have Bl:0<min (a₀.size-lo) (minRun' a₀.size a₀.size 0):=by omega
  have yB:=(mP.near hN).near tZ;clear tZ GL hN hs i2 z2;change Go a₀ jC lo at yB
  rotate_left
  have Bl:0<m:=Ob;have yB:=mP.near hN;have rS:lo+m<=a₀.size:=by omega
  have hq:=hs.seg ();clear hN hs i2 z2;generalize gT=jC at *
  all_goals
   refine aA (mU ?_);cases hb:(pendingOf jC).back? with
   |none=>exact aA (mT (aJ (fin jC _ yB Bl rS hq)))
   |some q =>
    obtain⟨s1,n1,p1⟩:=q;refine aA (wpS_mono (dJ (I:=λ_ (c:Option Unit × Unit) aY=>c=(none,Unit.unit)/\Go a₀ aY lo/\∀ k,lo <= k->(arrOf aY).toList[k]?=(arrOf jC).toList[k]?)
     (Q:=λc aY=>c=(none,Unit.unit)/\Go a₀ aY lo/\∀ k,lo <= k->(arrOf aY).toList[k]?=(arrOf jC).toList[k]?) ?_ (λ_ _ z=>z) ⟨rfl,yB,λ_ _=>rfl⟩) ?_)
    ·rintro y c aY _ _ ⟨rfl,kL,jh⟩;refine aA (mU ?_);by_cases hp:(pendingOf aY).size>1
     ·rw[aK hp,cF (pendingOf aY) ((pendingOf aY).size-2) ()];exact f9 (λ_=>aJ ⟨rfl,kL,jh⟩) λ_=>aA (Lu h0 kL qh (show(pendingOf aY).size-2+1<(pendingOf aY).size by omega) λmG g1 g2 g3=>aJ ⟨rfl,g1,λk hk=>(g3 k hk).trans (jh k hk)⟩)
     ·rw[aB hp];exact aJ ⟨rfl,kL,jh⟩
    ·rintro c aY ⟨rfl,kL,jh⟩;refine aA (mT (aA (mT (aJ (fin (setPending aY ((pendingOf aY).modify ((pendingOf aY).size-1) _)) _ ⟨kL.kd,kL.fl,kL.pm,?_⟩ Bl rS ?_)))))
     ·show Ch _ ((pendingOf aY).modify _ _).toList 0 lo;rw[Array.toList_modify];refine Ch.pow ?_ kL.ch;exact λx=>⟨rfl,rfl⟩
     ·show(seg (arrOf aY).toList lo _).Pairwise le;rw[DN λk h1 _=>jh k h1];exact hq
 ·rintro⟨c1,lo⟩ eU ⟨rfl,mP,qh,yd⟩;rw[e0] at yd;have:lo=a₀.size:=by dsimp only at yd qh;omega
  subst this;exact⟨rfl,mP⟩
 ·rintro⟨c1,lo⟩ eU ⟨rfl,mP⟩;dsimp only;rw[e0];refine aA (wpS_mono (dJ (I:=λx (c:Option Unit × Unit) aY=>c=(none,Unit.unit)/\Go a₀ aY a₀.size/\(pendingOf aY).size <= max 1 (a₀.size - x))
   (Q:=λc aY=>c=(none,Unit.unit)/\Go a₀ aY a₀.size/\(pendingOf aY).size <= 1) ?_ ?_ ⟨rfl,mP,?_⟩) ?_)
  ·rintro y c aY _ hy ⟨rfl,kL,jh⟩;refine aA (mU ?_);refine f9 (λhp=>aJ ⟨rfl,kL,hp⟩) λhp=>?_;have hp:1<(pendingOf aY).size:=Nat.lt_of_not_le hp;refine aA (Lu h0 kL (av _) ?_ λmG g1 g2 g3=>aJ ⟨rfl,g1,by omega⟩);exact NH hp
  ·rintro c aY ⟨rfl,kL,jh⟩;exact⟨rfl,kL,by omega⟩
  ·have:=mP.ch.le;simp at this;show(pendingOf eU).size<=_;omega
  ·rintro c aY ⟨rfl,kL,jh⟩;refine aJ (h aY kL.pm kL.fl ?_);have hc:=kL.ch
   match hp:(pendingOf aY).toList with
   |[]=>rw[hp] at hc;exact absurd (show 0=a₀.size from hc) ()
   |[(s1,n1,w1)] =>
    rw[hp] at hc;obtain⟨q1,q2,q3,q4⟩:=hc;have q4:0+n1=a₀.size:=q4;have e:seg (arrOf aY).toList 0 n1=(arrOf aY).toList:=by
     have:=kL.pm.size_eq;unfold seg;rw[List.drop_zero,dg (by simp;omega)]
    rw[e] at q3;exact q3
   |_::_::_ =>
    have:(pendingOf aY).toList.length<=1:=by simpa using jh
    rw[hp] at this;simp at this
theorem Md{a:Addr}{vs:List Value}{ns:List Int}{n:Nat}{P:Fin->Shared->Prop}(ho:s.heap.get? a=some (seqObj "list" vs.toArray n))(hI:IntsAre vs ns)(hl:vs.length<=100000)(h:∀(out:Array Value) (kS:List Int),IntsAre out.toList kS->kS.Perm ns->kS.Pairwise (·<=·)->P (.done (.ret .none)) { s with heap:=sortedHeap s.heap a vs out }):wpAny (model prog w) A (Builtin.«list.sort» ⟨[.ref a],[]⟩) P E s:=by
 by_cases yC:vs.length<64
 ·exact list_sort_tree ho hI yC h
 rw[list_sort_plain];have ha:=ay ho;refine aa (listItems_at ho rfl (aa (listUpdate_at ho rfl ?_)));have qf:=get?_update_seq ho (λ_=>#[]);refine aa (seqEpoch_at qf rfl (aa (wpAny_newTuple (aa (Mz (bL ?_))))));have GR:(((s.heap.update a (Obj.mapSeq λ_=>#[])).push (seqObj "tuple" vs.toArray 0)).push (seqObj "list" #[] 0)).get? a=some (seqObj "list" #[] (if((λ_=>#[]) vs.toArray:Array Value).size==vs.toArray.size then n else n+1)):=by
  rw[Heap.get?_push_ne _ _ _ (by rw[jW,Heap.size_update];exact aI (ic ha)),Heap.get?_push_ne _ _ _ (by rw[Heap.size_update];exact aI ha)];exact qf
 dsimp only;have h2:¬vs.toArray.size<2:=by simp;omega
 rw[aB h2,aB h2];obtain⟨v1,v2,r,rfl⟩:∃v1 v2 r,vs=v1::v2::r:=by
  match vs,yC with
  |[],h=>simp at h
  |[_],h=>simp at h
  |x::y::r,_=>exact⟨x,y,r,rfl⟩
 rw[keyKind_ints hI];refine aa (ai (aa (bO (Ur (a₀:=pairsOf (v1::v2::r)) (Q:=λ_ aY=>(arrOf aY).Perm (pairsOf (v1::v2::r))/\failedOf aY=none/\(arrOf aY).toList.Pairwise le) hI.intKeys ⟨rfl,rfl,nE _,rfl⟩ (by rw[pairsOf_size];simp) λaY a1 a2 a3=>⟨a1,a2,a3⟩) ?_ λ_ _ e=>e)));rintro⟨⟨⟩,aY⟩ s' ⟨rfl,hp,hf,hs⟩;dsimp only;refine aa (seqEpoch_at GR rfl (aa (listUpdate_at GR rfl ?_ (hsz2:=?_))))
 ·rw[hf];simp only[bne_self_eq_false,Bool.false_eq_true,if_false];obtain⟨kS,q1,q2,q3⟩:=sorted_out hI hp λi j iA hj=>by
   have e:=hp.size_eq;rw[K_eq (),K_eq ()];exact xi hs () iA
  exact ai (h _ kS q1 q2 q3)
 ·rw[Array.size_map,hp.size_eq,pairsOf_size,lB];omega
end
end TS
namespace L2
open PySem PySem.Spec PyProof.Rows
variable{A:Around}{s:Shared}{elt iter tg:Expr}{ifs:List Expr}{scope:Scope}{pos:Pos}{X:Cx}{cl:List (Str×Addr)}{C:Addr}{x:Str}{N':List Str}{d5:List Nat}{fp:List Addr}{g:TG}{tc:TT}{te:TE}
section
variable{prog:Program}{w:World}{R:Result->Shared->Prop}
theorem aF3{target:Expr}{it acc:Value}{env:Env}(I:Nat->Shared->Prop)(turn:∀ n s,I n s->wpAny (model prog w) A (pyNext it) (λr bY=>match r with
   |none=>R (.ok .next) bY
   | some v=>wpAny (model prog w) A (letOwnedTupleGo target it v) (λ_ bY=>wpAny (model prog w) A (assign target env v) (λ_ iw =>
     wpAny (model prog w) A (forIn ifs true λc r=>if r=true then do let ok <- isTrue c env (eval c env);pure (ForInStep.yield ok) else pure (ForInStep.yield r)) (λok gf =>
      if ok=true then wpAny (model prog w) A (eval elt env) (λx kx =>
       wpAny (model prog w) A (call (.builtin "list.append") [acc,x]) (λ_ nH=>∃ m,m < n/\I m nH) (λ_ _=>False) kx) (notedBy (model prog w) A env λe s'=>R (.error e) s') gf
      else ∃ m,m < n/\I m gf) (λ_ _=>False) iw) (λ_ _=>False) bY) (λ_ _=>False) bY) (λ_ _=>False) s)(n:Nat)(h:I n s) :
  codeAny (model prog w) A (.compLoop (.ListComp elt [⟨target,iter,ifs,0⟩] scope pos) 0 it acc env) R s:=by
 refine codeAny_loop rfl I (λn s hI=>?_) n h;show wpAny _ A ((compTurn (.ListComp elt [⟨target,iter,ifs,0⟩] scope pos) 0 it acc env).onRaise (λx=>do noteFrame x env;theTreesLotGoes x)) _ _ s;refine wpAny_noted ?_;rw[compTurn_list];refine aa (fC (aa (bO (turn n s hI) (λr bY eA=>?_) λ_ _ h'=>h'.elim)));cases r with
 |none=>exact ai eA
 |some v =>
  refine aa (bO eA (λ_ bY eA=>?_) λ_ _ h'=>h'.elim);refine aa (bO eA (λ_ iw jG=>aa (bO jG (λok gf nV=>?_) λ_ _ h'=>h'.elim)) λ_ _ h'=>h'.elim);cases ok with
  |false=>exact wpAny_pure ⟨rfl,nV⟩
  |true =>
   exact aa (aa (bO nV (λx kx rP=>aa (bO rP (λ_ nH rO=>ai (ai ⟨rfl,rO⟩)) λ_ _ h'=>h'.elim)) λ_ _ h'=>h'))
end
def mq(X:Cx)(es:List Expr)(t:TT):Prop :=
 ∀(pins:List (Addr×Obj)) (s:Shared) (σ:St) (H:Hp) (Q:Bool->Hp->Prop),Inv X pins σ H s->t σ H Q ->
  wpAny (model X.prog X.w) X.A (forIn es true λc r=>if r=true then do let ok <- isTrue c X.env (eval c X.env);pure (ForInStep.yield ok) else pure (ForInStep.yield r)) (TP X pins σ Q) X.xe s
def Wr:TT:=λ_ H Q=>Q true H
theorem Uj:mq X [] Wr:=λpins s σ H Q I h=>ai ⟨H,I,h⟩
theorem Uk{c:Expr}{t:TT}(h:PT X c t):mq X [c] t:=by
 intro pins s σ H Q I q;simp only[List.forIn_cons,List.forIn_nil,if_true];exact aa (aa (bO (h pins s σ H Q I q) (λb s' hb=>ai (ai hb)) λ_ _ x=>x))
def K9(scope:Scope)(cl:List (Str×Addr))(C:Addr):List (Str×Addr):=cellsFrom (C+1) scope.names []++cl
theorem E7:∀(names:List (Str×NameKind)) (n:Nat) (acc:List (Str×Addr)),cellsFrom n names acc=cellsFrom n names []++acc
 |[],_,_=>rfl
 |(y,k)::r,n,acc=>by
  unfold cellsFrom;split
  ·rw[E7 r (n+1) ((y,n)::acc),E7 r (n+1) [(y,n)],bI]
   rfl
  ·exact E7 r n acc
theorem T2{x:Str}{c:Addr}:∀{names:List (Str×NameKind)} {n:Nat},(x,c)∈cellsFrom n names []->(x,NameKind.cell)∈names
 |[],_,h=>by simp[cellsFrom] at h
 |(y,k)::r,n,h=>by
  unfold cellsFrom at h;split at h
  ·rename_i hk;rw[E7] at h;rcases ba.mp h with z|z
   ·exact bH _ (T2 z)
   ·cases bK.mp z;rw[show k=NameKind.cell from by simpa using hk];exact cR
  ·exact bH _ (T2 h)
theorem J1{α:Type}{x:Str}:∀{a b:List (Str×α)},(a++b).lookup x=(a.lookup x).or (b.lookup x)
 |[],_=>rfl
 |(y,v)::r,b=>by
  rw[List.cons_append,cS,cS];cases x==y
  ·exact J1
  ·rfl
theorem Jr(h:scope.names.lookup x=some .cell\/∃c,cl.lookup x=some c):∃c,(K9 scope cl C).lookup x=some c:=by
 unfold K9;rw[J1];cases e:(cellsFrom (C+1) scope.names []).lookup x with
 |some c=>exact⟨c,rfl⟩
 |none =>
  rcases h with h|h
  ·have q:=ei scope.names (C+1) [] (.inl h);rw[e] at q;cases q
  ·exact h
theorem M8{env:Env}:∀{names:List (Str×NameKind)} {x:Str},names.lookup x=some .cell ->
  (names.map λ(n,k)=>if(k==NameKind.free&&env.scope.kind==.function&&env.kindOf n==some .cell) then(n,NameKind.cell) else(n,k)).lookup x=some .cell
 |[],_,h=>by simp at h
 |(n,k)::r,x,h=>by
  have ih:=@M8 env r x;show List.lookup x ((if(k==NameKind.free&&env.scope.kind==.function&&env.kindOf n==some .cell)=true then(n,NameKind.cell) else(n,k))::_)=_;cases hx:x==n with
  |true =>
   simp only[List.lookup_cons,hx] at h;cases h;simp[List.lookup_cons,hx]
  |false =>
   simp only[List.lookup_cons,hx] at h;by_cases hc:(k==NameKind.free&&env.scope.kind==.function&&env.kindOf n==some .cell)=true
   ·rw[aK hc];simp only[List.lookup_cons,hx];exact ih h
   ·rw[aB hc];simp only[List.lookup_cons,hx];exact ih h
theorem zJ{h:Heap}(ck:CellsOk h (C+1) (cellsFrom (C+1) scope.names [])){c:Addr}(e:(K9 scope cl C).lookup x=some c):C<c\/cl.lookup x=some c:=by
 unfold K9 at e;rw[J1] at e;cases e2:(cellsFrom (C+1) scope.names []).lookup x with
 |some c' =>
  rw[e2] at e;cases e;exact .inl (ck.empty x c (aT e2)).2
 |none =>
  rw[e2] at e;exact .inr e
theorem Kr{M:Model}{E:Value->Shared->Prop}{globals:Addr}{qual:Str}{outer:Env}{Q:Env->Shared->Prop}(hQ:∀ eA:Heap,eA.Ns s.heap.objs.size (λ_=>none)->(∀ b o,s.heap.get? b=some o->eA.get? b=some o)->CellsOk eA (s.heap.objs.size + 1) (cellsFrom (s.heap.objs.size + 1) scope.names []) ->
   Q (newEnv scope s.heap.objs.size globals (K9 scope cl s.heap.objs.size) qual none .none (some outer) builtinsNs) { s with heap:=eA }) :
  wpAny M A (newFunctionEnv scope globals cl [] qual none .none (some outer)) Q E s:=by
 simp only[newFunctionEnv,Option.isSome_some,if_true];refine aa (wpAny_alloc ?_);refine aa (wpAny_layCells _ (λname kind cells=>by cases Oh:kind==NameKind.cell<;>simp[Oh]) _ _ _ _ ?_);have ok:=cellsFrom_ok scope.names (s.heap.push { cls:=.type "dict",data:=.dict #[] }) (s.heap.objs.size+1) [] ⟨λ_ _ hm=>(nomatch hm),List.Pairwise.nil⟩ (by rw[eI];exact av _);rw[eI] at ok;rw[show({ s with heap:=s.heap.push { cls:=.type "dict",data:=.dict #[] } }:Shared).heap.objs.size=s.heap.objs.size+1 from eI ..];rw[List.forIn_nil];refine aa (ai (ai ?_));rw[E7];exact hQ _ ((Heap.Ns.new s.heap (.type "dict")).keeps (pushCells_keeps _ _)) (λb o e=>pushCells_keeps _ _ b o (aj _ e)) ok
def d6(X:Cx)(pins:List (Addr×Obj))(scope:Scope)(N':List Str)(cl:List (Str×Addr))(C:Addr)(s:Shared)(H:Hp)(fp:List Addr):Cx where
 prog:=X.prog
 w:=X.w
 K:=X.K
 mg:=X.mg
 base:=X.base
 A:=X.A
 N:=N'
 dI:=s
 jV:=H
 env:=compEnvC scope (K9 scope cl C) C X.env
 outer:=X.stack
 stack:=X.stack
 ex:=fp
 calm:=true
 fn:=λx=>decide (scope.names.lookup x=some .cell)
 pn:=X.pn++pins
 xe:=λ_ _=>False
structure dR(X:Cx)(scope:Scope)(N':List Str)(d5:List Nat)(cl:List (Str×Addr)):Prop where
 kind:scope.kind=.function
 cells:∀y∈scope.names,y.2=.cell->scope.names.lookup y.1=some .cell
 names:∀y∈scope.names,y.2=.local->scope.names.lookup y.1=some .local
 sO:closureFor scope X.env=pure cl
 cin:∀x c,cl.lookup x=some c->X.env.cells.lookup x=some c
 wM:∀x,scope.names.lookup x=some .free->∃c,cl.lookup x=some c
 nd:N'.Nodup
 Qn:∀(i j:Nat),d5[i]?=some j->∃x,N'[i]?=some x/\X.N[j]?=some x/\scope.names.lookup x=some .free/\(X.env.kindOf x=some .cell\/X.env.kindOf x=some .free)
 CC:d5.length<=N'.length
theorem F0{env:Env}:∀{names:List (Str×NameKind)} {x:Str},names.lookup x=some .free ->
  (names.map λ(n,k)=>if(k==NameKind.free&&env.scope.kind==.function&&env.kindOf n==some .cell) then(n,NameKind.cell) else(n,k)).lookup x=some .cell \/
  (names.map λ(n,k)=>if(k==NameKind.free&&env.scope.kind==.function&&env.kindOf n==some .cell) then(n,NameKind.cell) else(n,k)).lookup x=some .free
 |[],_,h=>by simp at h
 |(n,k)::r,x,h=>by
  have ih:=@F0 env r x;show List.lookup x ((if(k==NameKind.free&&env.scope.kind==.function&&env.kindOf n==some .cell)=true then(n,NameKind.cell) else(n,k))::_)=_\/List.lookup x ((if(k==NameKind.free&&env.scope.kind==.function&&env.kindOf n==some .cell)=true then(n,NameKind.cell) else(n,k))::_)=_;cases hx:x==n with
  |true =>
   simp only[List.lookup_cons,hx] at h;cases h;by_cases hc:(NameKind.free==NameKind.free&&env.scope.kind==.function&&env.kindOf n==some .cell)=true
   ·rw[aK hc];simp[List.lookup_cons,hx]
   ·rw[aB hc];simp[List.lookup_cons,hx]
  |false =>
   simp only[List.lookup_cons,hx] at h;by_cases hc:(k==NameKind.free&&env.scope.kind==.function&&env.kindOf n==some .cell)=true
   ·rw[aK hc];simp only[List.lookup_cons,hx];exact ih h
   ·rw[aB hc];simp only[List.lookup_cons,hx];exact ih h
theorem M9{env:Env}:∀{names:List (Str×NameKind)} {x:Str},((names.map λ(n,k)=>if(k==NameKind.free&&env.scope.kind==.function&&env.kindOf n==some .cell) then(n,NameKind.cell) else(n,k)).lookup x=some .cell \/
  (names.map λ(n,k)=>if (k == NameKind.free && env.scope.kind == .function && env.kindOf n == some .cell) then (n,NameKind.cell) else (n,k)).lookup x=some .free)->names.lookup x=some .free \/ names.lookup x=some .cell
 |[],_,h=>by simp at h
 |(n,k)::r,x,h=>by
  have ih:=@M9 env r x;rw[bw] at h;cases hx:x==n with
  |true =>
   simp only[List.lookup_cons,hx];by_cases hc:(k==NameKind.free&&env.scope.kind==.function&&env.kindOf n==some .cell)=true
   ·refine .inl ?_;simp only[Bool.and_eq_true,beq_iff_eq] at hc;rw[hc.1.1]
   ·simp only[if_neg hc,List.lookup_cons,hx] at h;rcases h with h|h
    ·exact .inr h
    ·exact .inl h
  |false =>
   simp only[List.lookup_cons,hx];by_cases hc:(k==NameKind.free&&env.scope.kind==.function&&env.kindOf n==some .cell)=true
   ·simp only[if_pos hc,List.lookup_cons,hx] at h;exact ih h
   ·simp only[if_neg hc,List.lookup_cons,hx] at h;exact ih h
def C5(σ:St)(d5:List Nat)(n:Nat):St:=d5.map (λj=>(σ[j]?).join)++List.replicate (n-d5.length) none
section
variable{pins:List (Addr×Obj)}{σ:St}{H:Hp}
theorem Inv.JN{h1:Heap}{tk:Nat}(I:Inv X pins σ H s)(S:dR X scope N' d5 cl)(hc:X.calm=true)(hf:∀b∈fp,C7 X pins H b)(ho:∀b∈fp,∃o,s.heap.get? b=some o)(hC:s.heap.objs.size<=C)(hn:∃m,h1.Ns C m)(k:∀b o,s.heap.get? b=some o->h1.get? b=some o)(ck:CellsOk h1 (C+1) (cellsFrom (C+1) scope.names [])) :
  Inv (d6 X pins scope N' cl C s H fp) [] (C5 σ d5 N'.length) H { s with heap:=h1,toks:=tk }:=by
 obtain⟨m,hm⟩:=hn;have Og:(relabel scope X.env).kind=.function:=S.kind;have Gh:∀b o,s.heap.get? b=some o->b≠C:=λb o e z=>absurd (ay e) (by rw[z];exact kO.mpr hC);have two:∀{x:Str} {c:Addr},(K9 scope cl C).lookup x=some c->(C<c/\h1.IsCell c none/\(x,c)∈cellsFrom (C+1) scope.names [])\/(cl.lookup x=some c/\(cellsFrom (C+1) scope.names []).lookup x=none):=λ{x c} h=>by
  unfold K9 at h;rw[J1] at h;cases e:(cellsFrom (C+1) scope.names []).lookup x with
  |some c' =>
   rw[e] at h;cases h;have hm:=aT e;exact .inl ⟨(ck.empty x c hm).2,(ck.empty x c hm).1,hm⟩
  |none =>
   rw[e] at h;exact .inr ⟨h,rfl⟩
 have vh:∀{x:Str} {c:Addr},cl.lookup x=some c->c<s.heap.objs.size:=λ{x c} h=>by
  obtain⟨v,o,e,_⟩:=I.cell x c (S.cin x c h);exact ay e
 have frees:∀{x:Str},scope.names.lookup x=some .free->(K9 scope cl C).lookup x=cl.lookup x:=λ{x} h=>by
  unfold K9;rw[J1];cases e:(cellsFrom (C+1) scope.names []).lookup x with
  |some c' =>
   have:=S.cells _ (T2 (aT e)) rfl;rw[h] at this;cases this
  |none=>rfl
 refine⟨⟨I.mod,Og,I.ok.glob,I.ok.blt,hC,?_,?_,?_,λ_=>I.ok.hd hc,I.ok.frames,.inl rfl,?_,I.bs,?_,?_,?_,I.stack,I.Dk⟩,rfl,I.bare,Un.kept k,⟨m,hm,?_⟩,?_,?_,?_,?_,I.cq.kept k,?_⟩
 ·intro x y c h1 h2;rcases two h1 with⟨l1,_,q1⟩|⟨q1,_⟩<;>rcases two h2 with⟨l2,_,q2⟩|⟨q2,_⟩
  ·exact PySem.name_of_addr ck.apart q1 q2
  ·exact absurd (cN l1 (az (vh q2) hC)) (bJ _)
  ·exact absurd (cN l2 (az (vh q1) hC)) (bJ _)
  ·exact I.ok.inj x y c (S.cin x c q1) (S.cin y c q2)
 ·intro x hx;rcases M9 (env:=X.env) (names:=scope.names) hx with z|z
  ·obtain⟨c,hc⟩:=S.wM x z;exact⟨c,(frees z).trans hc⟩
  ·have q:=ei scope.names (C+1) [] (.inl z);obtain⟨c,hc⟩:=fk.mp q;refine⟨c,?_⟩;show(K9 scope cl C).lookup x=some c;unfold K9;rw[J1,hc]
   rfl
 ·intro x c hf h;have z:scope.names.lookup x=some .cell:=bg hf;have q:=ei scope.names (C+1) [] (.inl z);rcases two h with⟨l,_⟩|⟨_,e⟩
  ·exact eX (dw hC l)
  ·rw[e] at q;cases q
 ·intro b hb;obtain⟨f0,f1,f2,f3,f4,f5⟩:=hf b hb;obtain⟨o,e⟩:=ho b hb;refine⟨Gh b o e,λx c h=>?_⟩;rcases two h with⟨l,_⟩|⟨q,_⟩
  ·intro z;subst z;exact absurd (cN l (az (ay e) hC)) (bJ _)
  ·exact f4 x c (S.cin x c q)
 ·exact aF I.ok.qw I.sz
 ·intro b o e hb;obtain⟨f0,f1,f2,f3,f4,f5⟩:=hf b hb;rcases f3 with f3|f3
  ·exact I.ok.nN b o e f3
  ·exact absurd (ay (I.ok.bs b o e).1) (kO.mpr f3)
 ·intro b hb z;obtain⟨f0,f1,f2,f3,f4,f5⟩:=hf b hb;rcases aH.mp (I.M1 b z) with z|z
  ·exact f1 z
  ·exact f2 z
 ·intro i x v Ph h2 h3;have hi:i<d5.length:=by
   unfold C5 at h2;by_cases hi:i<d5.length
   ·exact hi
   ·rw[eT (by simpa using hi),fB] at h2;split at h2<;>cases h2
  obtain⟨j,hj⟩:∃j,d5[i]?=some j:=⟨_,ao hi⟩
  have hs:σ[j]?=some (some v):=by
   unfold C5 at h2;rw[aO (by simpa using hi),ak,hj] at h2;simp only[Option.map_some] at h2;cases e:σ[j]? with
   |none=>rw[e] at h2;cases h2
   |some a=>rw[e] at h2;exact fY some (aS h2)
  obtain⟨y,NK,NJ,Ba,GH⟩:=S.Qn i j hj;have ey:y=x:=by
   have wu:N'[i]?=some x:=Ph;rw[NK] at wu;exact aS wu
  subst ey;obtain⟨m0,hm0,hl⟩:=I.loc;obtain ⟨u,ru,hu⟩:=hl j y v NJ hs (by
   rcases GH with z|z
   ·exact .inr (.inl z)
   ·exact .inr (.inr z))
  refine⟨u,ru,.inr ⟨F0 (env:=X.env) (names:=scope.names) Ba,?_⟩⟩;rcases hu with⟨z,_⟩|⟨_,c,rZ,qk⟩
  ·rcases GH with z'|z'<;>(rw[z'] at z;cases z)
  ·obtain⟨c',jJ⟩:=S.wM y Ba;have e:=S.cin y c' jJ;rw[rZ] at e;cases e;obtain⟨o,e1,e2⟩:=qk;exact⟨c,(frees Ba).trans jJ,o,k _ _ e1,e2⟩
 ·intro x c h;rcases two h with⟨_,q,_⟩|⟨q,_⟩
  ·exact⟨none,q⟩
  ·obtain⟨v,o,e1,e2⟩:=I.cell x c (S.cin x c q);exact⟨v,o,k _ _ e1,e2⟩
 ·exact I.cq.fresh hC
 ·intro x c h;rcases two h with⟨l,_⟩|⟨q,_⟩
  ·exact I.cq.fresh (eX (dw hC l))
  ·exact I.gp x c (S.cin x c q)
 ·intro p hp;have gn:p∈X.pn++pins:=by simpa[d6] using hp
  obtain⟨p1,p2,p3,p4,p5⟩:=I.pin p gn;refine⟨k _ _ p1,p2,Gh _ _ p1,λz=>?_,p5⟩;rcases aH.mp (I.M1 _ z) with z|z
  ·exact p3 z
  ·exact p4 z
 ·unfold C5;show _=N'.length;rw[bj,ag,xK];have:=S.CC;omega
theorem Inv.LC{lX:List (Addr×Obj)}{cM:St}{H':Hp}{s':Shared}(I:Inv X pins σ H s)(hf:∀b∈fp,C7 X pins H b)(J:Inv (d6 X pins scope N' cl C s H fp) lX cM H' s'):Inv X pins σ H' s' :=
 I.Ec (ch:=fp) J.os J.base J.cq J.bare λb hb=>by
  obtain⟨f0,f1,f2,f3,f4,f5⟩:=hf b hb;exact⟨f3,f1,f4,f5⟩
theorem Inv.Ya{D:Addr}{ys:List V}{aX:List Value}{n:Nat}(I:Inv X pins σ H s)(f:C7 X pins H D)(hs:X.dI.heap.objs.size<=D)(hv:Vals ys aX)(hz:ys.length<=sizeLine)(ho:s.heap.get? D=some { cls:=.type "list",data:=.seq aX.toArray n }):Inv X pins σ (upd H D (.lst ys)) s:=by
 obtain⟨f0,f1,f2,f3,f4,f5⟩:=f;have fA:∀b o,X.dI.heap.get? b=some o->b≠D:=λb o e z=>absurd (ay e) (by rw[z];exact kO.mpr hs);have tup:∀b u,H b=some u->upd H D (.lst ys) b=some u:=λb u e=>by rw[i6 (n8 e f0)];exact e
 refine⟨I.ok,I.os,I.bare,⟨?_,?_,?_,I.base.there,?_,?_,?_⟩,I.loc,I.cell,?_,?_,?_,?_,I.len⟩
 ·exact λb o e n1 n2 n3=>I.base.keep b o e n1 n2 n3
 ·exact λb o e n1 n2 n3=>I.base.slot b o e n1 n2 n3
 ·exact λb o e n1 n2=>by rw[i6 (fA b o e)];exact I.base.free b o e n1 n2
 ·exact λb xs e=>tup _ _ (I.base.jA b xs e)
 ·exact λb o u e=>tup _ _ (I.base.ji b o u e)
 ·exact λb ps e=>by
   obtain⟨more,q⟩:=I.base.jB b ps e;exact⟨more,tup _ _ q⟩
 ·rw[i6 f1.symm];exact I.free
 ·exact λx c e=>by rw[i6 (f4 x c e)];exact I.gp x c e
 ·intro p hp;obtain⟨p1,p2,p3⟩:=I.pin p hp;exact⟨p1,by rw[i6 (f5 p hp)];exact p2,p3⟩
 ·intro a o e;by_cases ha:a=D
  ·subst ha;rw[u5] at e;cases e;exact⟨hz,aX,n,hv,ho⟩
  ·rw[i6 ha] at e;have q:=I.cq a o e;refine q.Z2 (λb u _ h=>h) (λb hb=>tup _ _ hb) (λb xs hb=>tup _ _ hb)
end
def Eu(wi:TI)(d5:List Nat)(n:Nat)(g:TG)(tc:TT)(te:TE):TE:=λσ H Q=>wi σ H λJ H1=>∃W:Nat->Nat->List V->St->Hp->Prop,(∃m,W 0 m [] (C5 σ d5 n) H1)/\∀i m ys σ H,W i m ys σ H ->
 (J.stop i H/\∀p,H p=none->Q (.ref p) (upd H p (.lst ys))) \/
 (J.go i H/\ys.length < sizeLine/\∀ x H',J.qV i H x H'->g x σ H' λcT H2=>tc cT H2 λb H3 =>
  if b=true then te cT H3 λy H4=>∃ m',m' < m/\W (i + 1) m' (ys ++ [y]) cT H4 else ∃ m',m' < m/\W (i + 1) m' ys cT H3)
noncomputable abbrev N4(aX:List Value)(n:Nat):Obj:={ cls:=.type "list",data:=.seq aX.toArray n }
section
variable{pins:List (Addr×Obj)}{σ:St}{H:Hp}
theorem JM{it:Addr}{tn:Nat->Heap->Prop}{J:It}{xx:Addr->Shared->Hp->Value->Shared->Prop}{RR:Value->Addr->Result->Shared->Prop}{E:Value->Shared->Prop}{W:Nat->Nat->List V->St->Hp->Prop}{m0:Nat}{Q:VK}(S:dR X scope N' d5 cl)(hc:X.calm=true)(hg:∀C s H,PG (d6 X pins scope N' cl C s H fp) tg g)(ht:∀C s H,mq (d6 X pins scope N' cl C s H fp) ifs tc)(he:∀C s H,PE ((d6 X pins scope N' cl C s H fp).Y9 (xx C s H)) elt te)(I:Inv X pins σ H s)(T:Turn X.prog X.w X.K tg J fp it tn)(st:tn 0 s.heap)(hf:∀b∈fp,C7 X pins H b)(w0:W 0 m0 [] (C5 σ d5 N'.length) H)(turn:∀ i m ys σ H,W i m ys σ H->(J.stop i H/\∀ p,H p=none->Q (.ref p) (upd H p (.lst ys))) \/
   (J.go i H/\ys.length < sizeLine/\∀ x H',J.qV i H x H'->g x σ H' λcT H2=>tc cT H2 λb H3 =>
    if b=true then te cT H3 λy H4=>∃ m',m' < m/\W (i + 1) m' (ys ++ [y]) cT H4 else ∃ m',m' < m/\W (i + 1) m' ys cT H3))(BG:∀D C s' H' m,Inv X pins σ H' s'->Q (.ref D) H'->s'.heap.Ns C m->H' C=none->s.heap.objs.size<=C->RR (.ref D) C (.ok .next) s')(OK:∀D C e s',s.heap.objs.size<=C->xx C s H e s'->notedBy (model X.prog X.w) X.A (compEnvC scope (K9 scope cl C) C X.env) (λe s'=>RR (.ref D) C (.error e) s') e s') :
  wpAny (model X.prog X.w) X.A (newList []) (λacc gf=>wpAny (model X.prog X.w) X.A (newFunctionEnv scope X.env.globals cl [] X.env.qual none .none (some X.env)) (λmS kx =>
   mS.frame=X.env.frame/\codeAny (model X.prog X.w) X.A (.compStart (.ListComp elt [⟨tg,iter,ifs,0⟩] scope pos) 0 (.ref it) acc { mS with scope:=relabel scope X.env }) (RR acc mS.locals) kx) E gf) E s:=by
 refine cI (Kr λeA hJ gg oh=>?_);dsimp only at hJ gg oh ⊢;generalize si:s.heap.push { cls:=.type "list",dict:=none,data:=.seq ([]:List Value).toArray }=H2 at hJ gg oh ⊢;generalize eD:s.heap.objs.size=D at *;have hC:H2.objs.size=D+1:=by rw[<- si,eI,eD]
 generalize eC:H2.objs.size=C at *;have wg:D≠C:=by omega
 have lt:∀b o,s.heap.get? b=some o->b<D:=λb o e=>by rw[<- eD];exact ay e
 have rH:D<=C:=by omega
 have qa:∀b o,s.heap.get? b=some o->b≠C:=λb o e=>aI (az (lt b o e) rH);have nO:∀b o,s.heap.get? b=some o->b≠D:=λb o e=>aI (lt b o e);have old:∀b o,s.heap.get? b=some o->eA.get? b=some o:=λb o e=>gg b o (si▸aj _ e);have lR:eA.get? D=some (N4 [] 0):=gg _ _ (by rw[<- si,<- eD];exact aG _ rfl);have jH:∀b∈fp,∃o,s.heap.get? b=some o:=λb hb=>by
  obtain⟨o,e,_⟩:=T.obj _ _ st b hb;exact⟨o,e⟩
 have we:D∉fp:=λhm=>by
  obtain⟨o,e⟩:=jH D hm;exact nO D o e rfl
 have X1:Inv (d6 X pins scope N' cl C s H fp) [] (C5 σ d5 N'.length) H { s with heap:=eA } :=
  I.JN S hc hf jH (by rw[eD];omega) ⟨_,hJ⟩ old oh
 have eU:tn 0 eA:=T.keep _ _ _ st λb _ o e=>old b o e;have Cg:∀{H':Hp},(∀b∈fp,H' b=none)->∀b∈fp,C7 (d6 X pins scope N' cl C s H fp) [] H' b:=λhn b hb=>by
  obtain⟨f0,f1,f2,f3,f4,f5⟩:=hf b hb;obtain⟨o,e⟩:=jH b hb;refine⟨hn b hb,?_,?_,.inl hb,λx c q=>(zJ oh q).elim (λl z=>absurd (cN (z▸l) (az (lt b o e) rH)) (bJ _)) λq=>f4 x c (S.cin x c q),λp hp=>?_⟩
  ·exact qa b o e
  ·exact λz=>by
    rcases aH.mp (I.M1 b z) with z|z
    ·exact f1 z
    ·exact f2 z
  ·have gn:p∈X.pn++pins:=by simpa[d6] using hp
   exact f5 p gn
 have fD:∀{H':Hp},H' D=none->C7 (d6 X pins scope N' cl C s H fp) [] H' D:=λhn=>by
  refine⟨hn,wg,λz=>?_,.inr (by show s.heap.objs.size<=D;omega),λx c q=>?_,λp hp=>?_⟩
  ·exact absurd (I.xq (a:=D) ()) λpA=>by
    rcases aH.mp (I.M1 D z) with z|z
    ·exact absurd I.lt (by rw[<- z,eD];exact bJ _)
    ·exact pA z
  ·rcases zJ oh q with l|q
   ·exact λz=>absurd (az (z▸l) rH) (bJ _)
   ·obtain⟨v,o,e,_⟩:=I.cell x c (S.cin x c q);exact nO c o e
  ·have gn:p∈X.pn++pins:=by simpa[d6] using hp
   exact nO _ _ (I.pin p gn).1
 have rD:∀{H':Hp} {s':Shared} {cM:St} {aX:List Value} {n:Nat},Inv (d6 X pins scope N' cl C s H fp) [] cM H' s'->H' D=none->s'.heap.get? D=some (N4 aX n) ->
   Inv (d6 X pins scope N' cl C s H fp) [(D,N4 aX n)] cM H' s':=λ{H' s' cM aX n} J0 hn e=>J0.L0 λp hp=>by
  have z:p=(D,N4 aX n):=by simpa using hp
  subst z;obtain⟨f0,f1,f2,_⟩:=fD hn;exact⟨e,f0,f1,f2,λv z=>nomatch z⟩
 have sH:∀{H':Hp} {aX:List Value} {n:Nat},(∀b∈fp,H' b=none)->∀b∈fp,C7 (d6 X pins scope N' cl C s H fp) [(D,N4 aX n)] H' b:=λ{H' aX n} hn b hb=>by
  obtain⟨f0,f1,f2,f3,f4,f5⟩:=Cg hn b hb;refine⟨f0,f1,f2,f3,f4,λp hp=>?_⟩;have gn:p∈(d6 X pins scope N' cl C s H fp).pn\/p=(D,N4 aX n):=by simpa using hp
  rcases gn with z|z
  ·exact f5 p (bB _ z)
  ·subst z;exact λz=>we (by rw[show D=b from z];exact hb)
 have loop:∀gf:Shared,gf={ s with heap:=eA } ->
   codeAny (model X.prog X.w) X.A (.compLoop (.ListComp elt [⟨tg,iter,ifs,0⟩] scope pos) 0 (.ref it) (.ref D) (compEnvC scope (K9 scope cl C) C X.env)) (RR (.ref D) C) gf:=by
  rintro gf rfl;refine aF3 (λn s'=>∃ i ys cM H' aX nn,Inv (d6 X pins scope N' cl C s H fp) [] cM H' s'/\tn i s'.heap/\(∀ b ∈ fp,H' b=none)/\H' D=none/\Vals ys aX/\ys.length <= sizeLine /\
   s'.heap.get? D=some (N4 aX nn)/\W i n ys cM H') ?_ m0 ⟨0,[],_,H,[],0,X1,eU,λb hb=>(hf b hb).1,I.cq.fresh (),.nil,cJ _,lR,w0⟩
  rintro n s3 ⟨i,ys,lV,H3,aX,nn,I3,jC,qt,d3,v3,z3,o3,w3⟩;have xD:=rD I3 d3 o3;rcases turn i n ys lV H3 w3 with⟨stop,q⟩|⟨go,hz,step⟩
  ·refine cX (T.done (d6 X pins scope N' cl C s H fp) rfl rfl rfl rfl i _ s3 _ H3 _ xD (sH qt) jC stop) λr s4 ⟨hr,I4⟩=>?_;subst hr;have o4:=(I4.pin (D,N4 aX nn) (by simp)).1;have J4:Inv X pins σ H3 s4:=I.LC hf I4;have Ci:C7 X pins H3 D:=by
    refine⟨d3,bV (by rw[<- eD];exact I.lt),I.xq (),.inr (by have:=I.sz;omega),λx c q=>?_,λp hp=>?_⟩
    ·obtain⟨v,o,e,_⟩:=I.cell x c q;exact nO c o e
    ·exact nO _ _ (I.pin p hp).1
   obtain⟨mC,Bn,_⟩:=I4.loc;exact BG D C s4 (upd H3 D (.lst ys)) mC (J4.Ya Ci (by have:=I.sz;omega) v3 z3 o4) (q D d3) Bn (by rw[i6 wg.symm];exact I4.free) ()
  ·refine cX (T.item (d6 X pins scope N' cl C s H fp) rfl rfl rfl rfl i _ s3 _ H3 _ xD (sH qt) jC go) λr s4 ⟨u,hr,h4⟩=>?_;subst hr;refine cX h4 λ_ s5 bD=>?_;obtain⟨x,H5,I5,r5,y5,mG,wA⟩:=bD;have o5:=I5.pin (D,N4 aX nn) (by simp);have xC:=I5.pinned (sH wA) (T.obj _ _ mG);refine cX (hg C s H _ s5 _ H5 x u _ xC r5 (step x H5 y5)) λ_ s6 bD=>?_;obtain⟨mz,H6,I6,q6⟩:=bD;refine cX (ht C s H _ s6 mz H6 _ I6 q6) λok s7 ⟨H7,I7,q7⟩=>?_;have back:∀{uQ:St} {H8:Hp} {s8:Shared},Inv (d6 X pins scope N' cl C s H fp) ([(D,N4 aX nn)]++X8 fp s5.heap) uQ H8 s8->(∀b∈fp,H8 b=none)/\tn (i+1) s8.heap/\H8 D=none/\s8.heap.get? D=some (N4 aX nn) :=
    λ{uQ H8 s8} I8=>by
     have pf:∀b∈fp,∀o,s5.heap.get? b=some o->s8.heap.get? b=some o/\H8 b=none:=λb hb o e=>by
      have:=I8.pin (b,o) (aP _ (aP _ (Q4 hb e)));exact⟨this.1,this.2.1⟩
     have pd:=I8.pin (D,N4 aX nn) (by simp);refine⟨λb hb=>?_,T.keep _ _ _ mG λb hb o e=>(pf b hb o e).1,pd.2.1,pd.1⟩;obtain⟨o,e,_⟩:=T.obj _ _ mG b hb;exact(pf b hb o e).2
   cases ok with
   |false =>
    obtain⟨m',hm,w7⟩:=q7;obtain⟨b1,b2,b3,b4⟩:=back I7;exact⟨m',hm,i+1,ys,mz,H7,aX,nn,I7.L0 λp hp=>absurd hp (by simp),b2,b1,b3,v3,z3,b4,w7⟩
   |true =>
    refine bO (he C s H _ s7 mz H7 _ (I7.Y9 _) q7) (λxv s8 bD=>?_) λe s' hx=>OK D C e s' () hx;obtain⟨y,H8,I8,r8,m',hm,w8⟩:=bD;have I8:=I8.EX;obtain⟨b1,b2,b3,b4⟩:=back I8;refine km F.slot_list_append ⟨_,b4,rfl⟩ F.entry_list_append (F.args_list_append_2 _ _) (PySem.list_append D aX.toArray nn xv (by rw[aE];have:=v3.length;omega)) ⟨b4,?_⟩;have q:∃n',(s8.heap.update D (Obj.mapSeq (·.push xv))).get? D=some (N4 (aX++[xv]) n'):=by
     have q0:=PySem.IsL.update b4 (·.push xv);have e0:aX.toArray.push xv=(aX++[xv]).toArray:=by simp
     rw[e0] at q0;exact⟨_,q0⟩
    obtain⟨n',q⟩:=q;have Fu:Inv (d6 X pins scope N' cl C s H fp) [] mz H8 s8:=I8.L0 λp hp=>absurd hp (by simp);obtain⟨f0,f1,f2,f3,f4,f5⟩:=fD (H':=H8) b3;have kp:∀b o,b≠D->s8.heap.get? b=some o->(s8.heap.update D (Obj.mapSeq (·.push xv))).get? b=some o:=λb' u hb hu=>(eQ s8.heap (Obj.mapSeq (·.push xv)) (cu hb)).trans hu;refine⟨m',hm,i+1,ys++[y],mz,H8,aX++[xv],n',Fu.turned (it:=D) (t':=s8.toks) kp f0 f1 f3 f4 f5,T.keep _ _ _ b2 λb hb o e=>kp b o (λz=>we (by rw[<- z];exact hb)) e,b1,b3,v3.append (.cons r8 .nil),?_,q,w8⟩;rw[bj,jz];omega
 exact⟨rfl,codeAny_compStart_list (loop _ rfl) (T.self _ 0 _ _ _ eU (loop _ rfl))⟩
theorem Inv.IP{h':Heap}{s2:Shared}{H2:Hp}(I:Inv X pins σ H s)(hC:s2.heap.objs.size<=C)(I2:Inv X pins σ H2 s2)(hn:H C=none)(sb:Heap.SameBut C s.heap h'):Inv X pins σ H { s with heap:=h' }:=by
 have f:=I2.sS (b:=C) (H':=H) hC hn;obtain⟨f0,f1,f2,f3,f4,f5⟩:=f;exact I.turned (t':=s.toks) (λb o hb e=>sb.extBut b o hb e) f0 f1 f3 f4 f5
theorem JP{M:Model}{E:Value->Shared->Prop}{a:Sem Value}{b:Sem Env}{P:Env->Prop}{Q:Value->Env->Shared->Prop}(h:wpAny M A a (λx s1=>wpAny M A b (λy s2=>P y/\Q x y s2) E s1) E s):wpAny M A a (λx s1=>wpAny M A b (λy s2=>Q x y s2) E s1) E s :=
 bO h (λ_ _ h=>bO h (λ_ _ h=>h.2) λ_ _ z=>z) λ_ _ z=>z
theorem Lh{wi:TI}(S:dR X scope N' d5 cl)(hc:X.calm=true)(hi:PI X tg iter wi)(hg:∀pins C s H fp,PG (d6 X pins scope N' cl C s H fp) tg g)(ht:∀pins C s H fp,mq (d6 X pins scope N' cl C s H fp) ifs tc)(he:∀pins C s H fp,PE (d6 X pins scope N' cl C s H fp) elt te)(hs:∀x,foldedSetIterable iter X.env x=pure x):PE X (.ListComp elt [⟨tg,iter,ifs,0⟩] scope pos) (Eu wi d5 N'.length g tc te):=by
 intro pins s σ H Q I h;rw[eval_ListComp];refine js (use:=none) rfl hs S.sO S.kind S.names (cX (hi pins s σ H _ I h) λxv bY eA=>cX eA λvH iw jG=>?_);obtain⟨it,fp,tn,J,H2,e,I2,T,gT,f2,W,⟨m0,w0⟩,turn⟩:=jG;subst e;refine JP (JM (xx:=λ_ _ _ _ _=>False) (RR:=λacc C=>compPost (model X.prog X.w) X.A X.xe none (EP X pins σ Q) acc C) S hc (λC s H=>hg pins C s H fp) (λC s H=>ht pins C s H fp) (λC s H=>he pins C s H fp) I2 T gT f2 w0 turn ?_ λ_ _ _ _ _ z=>z.elim);intro D C s' H' m I' q hn hC hsz;exact⟨m,hn,λh' sb=>⟨.ref D,H',I'.IP hsz I2 hC sb,rfl,q⟩⟩
theorem aH6{vb px:Pos}{wi:TI}{i:Nat}(S:dR X scope N' d5 cl)(hc:X.calm=true)(hi:PI X tg iter wi)(hg:∀pins C s H fp,PG (d6 X pins scope N' cl C s H fp) tg g)(ht:∀pins C s H fp,mq (d6 X pins scope N' cl C s H fp) ifs tc)(he:∀pins C s H fp,PE (d6 X pins scope N' cl C s H fp) elt te)(hs:∀x,foldedSetIterable iter X.env x=pure x)(hN:X.N.Nodup)(vS:X.N[i]?=some x)(hx:Loc X.env.scope x)(hf:X.fn x=true\/X.env.scope.names.lookup x=some .local) :
  PS X (.Assign [.Name x px] (.ListComp elt [⟨tg,iter,ifs,0⟩] scope pos) vb) (xt (Eu wi d5 N'.length g tc te) (uB i)):=by
 intro pins s σ H D I h;have yf:∃b,swapsWith (.ListComp elt [⟨tg,iter,ifs,0⟩] scope pos) (some (.Name x px)) vb.line X.env=pure b:=⟨_,rfl⟩
 obtain⟨b,yf⟩:=yf;cases b with
 |false=>exact KC hN vS hx (Lh S hc hi hg ht he hs) yf hf pins s σ H D I h
 |true =>
  rw[exec_Assign_Name_used _ _ _ _ yf];refine aa (fC (aa ?_));show wpAny _ X.A (do let _ <- comprehension (.ListComp elt [⟨tg,iter,ifs,0⟩] scope pos) scope X.env _ (newList []) false (eval iter X.env) (some (assign (.Name x px) X.env))) _ _ s;refine aa (bO (js (use:=some (assign (.Name x px) X.env)) (Q:=λ_ s'=>SP X pins D .next s') rfl hs S.sO S.kind S.names
   (cX (hi pins s σ H _ I h) λxv bY eA=>cX eA λvH iw jG=>?_)) (λ_ s' hq=>ai (ai hq)) λ_ _ e=>e)
  obtain⟨it,fp,tn,J,H2,e,I2,T,gT,f2,W,⟨m0,w0⟩,turn⟩:=jG;subst e;refine JP (JM (xx:=λ_ _ _ _ _=>False) (Q:=λv H1=>uB i v σ H1 D.nx) (RR:=λacc C=>compPost (model X.prog X.w) X.A X.xe (some (assign (.Name x px) X.env)) (λ_ s'=>SP X pins D .next s') acc C) S hc (λC s H=>hg pins C s H fp) (λC s H=>ht pins C s H fp) (λC s H=>he pins C s H fp) I2 T gT f2 w0 turn ?_ λ_ _ _ _ _ z=>z.elim);intro Dl C s' H' m I' q hn hC hsz;show wpAny _ X.A (assign (.Name x px) X.env (.ref Dl)) _ _ _;refine wpAny_assign_Name (JE I' hN vS hx (v:=.ref Dl) rfl (λs3 I3 ⟨a,sb,ha⟩=>?_) hf);have OO:C≠a:=by
   obtain⟨f0,f1,f2,f3,f4,f5⟩:=I2.sS (b:=C) (H':=H') hsz hC;rcases ha with z|z
   ·rw[z];exact f1
   ·exact λz'=>f4 _ _ z z'.symm
  obtain⟨f0,f1,f2,f3,f4,f5⟩:=I2.sS (b:=C) (H':=H') hsz hC;refine⟨m,hn.sameBut sb OO,λh3 Ng=>⟨_,H',I3.turned (t':=s3.toks) (λb o hb e=>Ng.extBut b o hb e) f0 f1 f3 f4 f5,q⟩⟩
end
end L2
namespace HT
open PySem PyProof.Rows
section
variable{prog:Program}{w:World}{A:Around}{E:Value->Shared->Prop}{s:Shared}
theorem a88{t b:Addr}{ws:List Value}{Q:Value->Shared->Prop}(ht:IsTup s.heap t #[])(hb:IsTup s.heap b ws.toArray)(h1:Q (.ref b) s):wpAny (model prog w) A (binaryOp .Add (.ref t) (.ref b)) Q E s:=by
 obtain⟨⟨cls,dd,data,sl⟩,ho,hc,n,hd⟩:=id ht;obtain⟨⟨CA,yL,data2,rg⟩,mK,qk,n2,hd2⟩:=id hb;simp only at hc hd qk hd2;subst hc hd qk hd2;exact concat_meets ⟨_,ho,rfl⟩ ⟨_,mK,rfl⟩ qP MB ja iM (ir _ _)
   (tuple_addW0 t b #[] ws.toArray n n2 dd yL sl rg rfl) ⟨ho,mK,h1⟩
theorem YT{t sl:Addr}{items:Array Value}{vl vu:Value}{lo hi:Option Int}{Q:Value->Shared->Prop}(ht:IsTup s.heap t items)(hs:s.heap.IsSliceOf sl vl vu .none)(pl:IsPart vl lo)(pu:IsPart vu hi)(hw:dW items.size 0 lo=0/\dW items.size items.size hi=items.size)(h:Q (.ref t) s):wpAny (model prog w) A (getItem (.ref t) (.ref sl)) Q E s:=by
 obtain⟨os,mJ,rY,oJ⟩:=id hs;have wa:s.TypeIs (.ref sl) "slice":=⟨os,mJ,rY⟩
 unfold getItem
 try with_reducible refine bL ?_
 first|refine aa (ai ?_)|skip
 refine aa (oQ ht.typeIs ∅ ?_);refine aa (eE (name:=Str.ofString "__getitem__") ht.typeIs br
  (cC br ht.typeIs tu ?_ (xH _ _)))
 show wpAny _ _ (Builtin.Tuple.tupleItemsOf (.ref t) >>= _) _ _ s;refine aa (uI ht ?_);refine aa (dB wa ?_);rw[aK ∅];refine aa (S0 hs pl pu ?_);have AZ:((((dW items.size 0 lo:Nat):Int)==0&&(1:Int)==1&&(dW items.size items.size hi-dW items.size 0 lo)==items.size)=true):=by
  rw[hw.1,hw.2];simp
 show wpAny _ _ (if(((dW items.size 0 lo:Nat):Int)==0&&(1:Int)==1&&(dW items.size items.size hi-dW items.size 0 lo)==items.size)=true then _ else _) _ _ s;rw[aK AZ];obtain⟨o,ho,hc,_⟩:=id ht;unfold Builtin.Tuple.tupleIsExact;refine aa (aa (dB ht.typeIs (ai ?_)));rw[aK ∅]
 first
  |exact wpAny_bind (wpAny_rule (wpAny_bind (wpAny_pure ⟨_,rfl,wpAny_pure h⟩)))
  |exact wpAny_bind (wpAny_rule (wpAny_pure ⟨_,rfl,wpAny_pure h⟩))
  |exact wpAny_bind (wpAny_rule (wpAny_bind (wpAny_pure (wpAny_pure ⟨_,rfl,wpAny_pure h⟩))))
end
end HT
namespace L2
open PySem PySem.Spec PyProof.Rows
section
variable{X:Cx}
def RP(K:PySem.W.Frag):R2:=λx y H Q=>∃a b xs ys,x=.ref a/\y=.ref b/\iU K H a xs/\iU K H b ys/\xs.length+ys.length<=sizeLine /\
 (xs=[]->Q (.ref b) H)/\(ys=[]->Q (.ref a) H)/\(∀p,H p=none->Q (.ref p) (upd H p (.tup (xs++ys))))
theorem a63:gs X (binaryOp .Add) (RP X.K):=by
 intro pins s σ H x y v u Q I rx ry h;obtain⟨a,b,xs,ys,rfl,rfl,ha,hb,hz,q0,q1,q2⟩:=h;by_cases hx:xs=[]
 ·subst hx;cases rx;cases ry;obtain⟨aX,r1,p1,_⟩:=I.tuple ha;obtain⟨nT,r2,p2,_⟩:=I.tuple hb;cases r1;exact HT.a88 p1 p2 ⟨.ref b,H,I,rfl,q0 rfl⟩
 ·exact TM pins s σ H _ _ v u Q I rx ry ⟨a,b,xs,ys,rfl,rfl,ha,hb,hx,hz,q1,λ_=>q2⟩
def XE(K:PySem.W.Frag):V->Option Int->Option Int->Hp->VK->Prop:=λx lo hi H Q=>∃a xs,x=.ref a/\iU K H a xs /\
 (T1 xs lo hi=xs->Q (.ref a) H)/\∀p,H p=none->Q (.ref p) (upd H p (.tup (T1 xs lo hi)))
theorem UI:xu X (XE X.K):=by
 intro pins s σ H x v vl vu lo hi sl Q I rx hs pl pu h;obtain⟨a,xs,rfl,hx,q0,q⟩:=h;by_cases hw:HT.dW xs.length 0 lo=0/\HT.dW xs.length xs.length hi=xs.length
 ·cases rx;obtain⟨aX,r,ht,hz⟩:=I.tuple hx;have hlen:aX.toArray.size=xs.length:=by rw[aE];exact r.length.symm
  refine⟨"tuple",_,br.lookup,ht.typeIs,?_⟩;exact HT.YT ht hs pl pu (by rw[hlen];exact hw) ⟨.ref a,H,I,rfl,q0 (by unfold T1;rw[hw.1,hw.2];simp)⟩
 ·exact Sl pins s σ H _ v vl vu lo hi sl Q I rx hs pl pu ⟨a,xs,rfl,hx,hw,q⟩
theorem aI4:l9 X (.builtin "isinstance") (λxs H Q=>∃x t c b,xs=[x,.ty c]/\iB X.K H x t/\PySem.W.kitOne X.K t (.type c)=some b/\Q (.bl b) H):=by
 intro pins s σ H xs us Q I r h;obtain⟨x,t,c,b,rfl,hT,hk,q⟩:=h;obtain⟨u,w',rfl,ru,gK⟩:=vals2 r;cases (show w'=Value.type c from gK);exact Zb I ru hT hk λtk=>⟨.bl b,H,I.tok tk,rfl,q⟩
theorem a10(hc:X.calm=true):l9 X (.builtin "all") (λxs H Q=>∃(a:Addr) (bs:List Bool),xs=[.ref a]/\gi X.K H a (bs.map V.bl)/\Q (.bl (bs.all id)) H):=by
 intro pins s σ H xs us Q I r h;obtain⟨a,bs,rfl,ha,q⟩:=h;obtain⟨u,rfl,ru⟩:=vals1 r;cases ru;obtain⟨aX,rv,p,hz⟩:=I.list ha;refine call_all_walk ?_;refine fX p.isList ?_;have fA:a≠s.heap.objs.size:=by
  obtain⟨o,e,_⟩:=id p.isList;exact aI (ay e)
 have hl:=rv.length;rw[ag] at hl;refine⟨s.heap.objs.size,_,_,_,_,_,λi=>bs.getD i true,rfl,Ai (A:=X.A.in1) (I.ok.hd hc) _ a fA aX.toArray,⟨⟨_,aG _ rfl,rfl,rfl⟩,?_⟩,?_,λh' tk k=>?_⟩
 ·obtain⟨o,e,q1⟩:=id p.isList;exact⟨o,aj _ e,q1⟩
 ·intro i v s' Q' E' hP hQ;have hv:aX[i]?=some v:=by simpa using hP
  have hi:i<bs.length:=by rw[hl];exact(ax.mp hv).1
  obtain⟨u',vK,AG⟩:=rv.get (i:=i) (x:=V.bl bs[i]) (by rw[ak,ao hi];rfl);rw[hv] at vK;cases vK;cases (show v=Value.bool bs[i] from AG);refine cP ?_;have:bs.getD i true=bs[i]:=by simp[List.getD,hi]
  dsimp only at hQ;rw[this] at hQ;exact hQ
 ·have e1:(List.range aX.toArray.size).all (λi=>bs.getD i true)=bs.all id:=by
   rw[aE,<- hl];rw[aW];simp only[List.all_eq_true,List.mem_range,id];constructor
   ·intro hh x hx;obtain⟨i,hi,rfl⟩:=bG.mp hx;have:=hh i hi;simpa[List.getD,hi] using this
   ·intro hh i hi;have:=hh bs[i] (cK hi);simpa[List.getD,hi] using this
  rw[e1];exact ⟨.bl (bs.all id),H,I.kept (t':=tk) λb o e=>k b o (by
   intro hb;have:b=s.heap.objs.size:=by simpa using hb
   exact absurd (ay e) (by rw [this];exact bJ _)) (aj _ e),rfl,q⟩
end
end L2
namespace HT
open PySem PyProof.Rows
section
variable{prog:Program}{w:World}{A:Around}{E:Value->Shared->Prop}{s:Shared}
theorem YO{sl:Addr}{n:Nat}{t:Tok}{Q:Int×Int×Nat->Shared->Prop}(hs:s.heap.IsSliceOf sl .none .none (.int (-1) t))(h:Q ((n:Int)-1,-1,n) s) :
  wpAny (model prog w) A (Builtin.Slice.sliceApplied (.ref sl) (pure (n:Int))) Q E s:=by
 obtain⟨os,mJ,rY,oJ⟩:=id hs;unfold Builtin.Slice.sliceApplied Builtin.Slice.sliceFields;refine aa (aa (jk mJ oJ (x:=.none) rfl (aa (jk mJ oJ (x:=.none) rfl (aa (jk mJ oJ (x:=.int (-1) t) rfl (ai ?_)))))));refine aa (slicePart_int ?_);show wpAny _ _ (if((-1:Int)==0)=true then _ else _) _ _ s;rw[aB ∅];refine aa (pU (aa (pU (aa (ai ?_)))));show wpAny _ _ (match Builtin.Slice.sliceAdjust none none (-1) (n:Int) with|(lo,hi)=>pure (lo,(-1:Int),Builtin.Slice.slicePlaces lo hi (-1))) _ _ s;have e1:Builtin.Slice.sliceAdjust none none (-1) (n:Int)=((n:Int)-1,-1):=rfl;rw[e1];show wpAny _ _ (pure ((n:Int)-1,(-1:Int),Builtin.Slice.slicePlaces ((n:Int)-1) (-1) (-1))) _ _ s;have e2:Builtin.Slice.slicePlaces ((n:Int)-1) (-1) (-1)=n:=by
  unfold Builtin.Slice.slicePlaces;have h1:¬((-1:Int)>0):=by omega
  simp only[h1,if_false];have h2:(-(-1:Int))=1:=by omega
  rw[h2];simp only[Int.ediv_one];split<;>omega
 rw[e2];exact ai h
theorem LV(xs:Array Value):((List.range xs.size).filterMap λ(m:Nat)=>xs[(((xs.size:Nat):Int)-1+(m:Int)*(-1)).toNat]?).toArray=xs.toList.reverse.toArray:=by
 congr 1
 apply bW;intro i;have e:(List.range xs.size).filterMap (λ(m:Nat)=>xs[(((xs.size:Nat):Int)-1+(m:Int)*(-1)).toNat]?)=(List.range xs.size).map λm=>xs.toList.reverse.getD m .none:=by
  have:∀(l:List Nat),(∀m∈l,m<xs.size)->l.filterMap (λ(m:Nat)=>xs[(((xs.size:Nat):Int)-1+(m:Int)*(-1)).toNat]?)=l.map λm=>xs.toList.reverse.getD m .none:=by
   intro l hl
   induction l with
   |nil=>rfl
   |cons a r ih =>
    have ha:=hl a (by simp);have e1:(((xs.size:Nat):Int)-1+(a:Int)*(-1)).toNat=xs.size-1-a:=by omega
    have e2:xs[xs.size-1-a]?=some xs[xs.size-1-a]:=by simp
    have e3:xs.toList.reverse.getD a .none=xs[xs.size-1-a]:=by
     have hl:a<xs.toList.reverse.length:=by simpa using ha
     rw[List.getD_eq_getElem?_getD,ao hl];simp[List.getElem_reverse]
    rw[dO,e1,e2,bw,e3,ih λm hm=>hl m (by simp[hm])]
  exact this _ λm hm=>by simpa using hm
 rw[e];by_cases hi:i<xs.size
 ·rw[ak,bT hi];simp only[Option.map_some,List.getD_eq_getElem?_getD];rw[ao (by simpa using hi)]
  rfl
 ·rw[aQ (by simpa using hi),aQ (by simpa using hi)]
theorem YR{t sl:Addr}{items:Array Value}{tk:Tok}{Q:Value->Shared->Prop}(ht:IsTup s.heap t items)(hs:s.heap.IsSliceOf sl .none .none (.int (-1) tk))(h:Q (.ref s.heap.objs.size) { s with heap:=s.heap.push { cls:=.type "tuple",data:=.seq items.toList.reverse.toArray } })(hsz:items.size<=sizeLine):wpAny (model prog w) A (getItem (.ref t) (.ref sl)) Q E s:=by
 have iz:sizeOk (.seq items.toList.reverse.toArray):=by
  show items.toList.reverse.toArray.size<=sizeLine;rw[aE,kq,bp];exact hsz
 obtain⟨os,mJ,rY,oJ⟩:=id hs;have wa:s.TypeIs (.ref sl) "slice":=⟨os,mJ,rY⟩
 unfold getItem
 try with_reducible refine bL ?_
 first|refine aa (ai ?_)|skip
 refine aa (oQ ht.typeIs ∅ ?_);refine aa (eE (name:=Str.ofString "__getitem__") ht.typeIs br
  (cC br ht.typeIs tu ?_ (xH _ _)))
 show wpAny _ _ (Builtin.Tuple.tupleItemsOf (.ref t) >>= _) _ _ s;refine aa (uI ht ?_);refine aa (dB wa ?_);rw[aK ∅];refine aa (YO hs ?_);have pA:¬((((items.size:Nat):Int)-1==0&&(-1:Int)==1&&items.size==items.size)=true):=by
  intro q;rw[aR,aR] at q;exact absurd q.1.2 ∅
 show wpAny _ _ (if(((items.size:Nat):Int)-1==0&&(-1:Int)==1&&items.size==items.size)=true then _ else _) _ _ s;rw[aB pA,LV]
 first
  |exact wpAny_bind (m:=Builtin.Tuple.tupleExact _) (wpAny_newObj_type (wpAny_pure ⟨_,rfl,wpAny_pure h⟩) iz)
  |exact wpAny_bind (m:=Builtin.Tuple.tupleExact _) (wpAny_newObj_type (wpAny_bind (wpAny_pure (wpAny_pure ⟨_,rfl,wpAny_pure h⟩))) iz)
  |exact wpAny_bind (wpAny_bind (m:=Builtin.Tuple.tupleExact _) (wpAny_newObj_type (wpAny_pure (wpAny_pure ⟨_,rfl,wpAny_pure h⟩)) iz))
  |exact wpAny_bind (wpAny_bind (m:=Builtin.Tuple.tupleExact _) (wpAny_newObj_type (wpAny_pure ⟨_,rfl,wpAny_pure h⟩) iz))
end
end HT
namespace L2
open PySem PySem.Spec PyProof.Rows
variable{X:Cx}{pos p:Pos}{H H':Hp}{σ:St}{s s':Shared}{B:Heap}{ea C:Addr}{a0:Value}{ta:TA}
section
variable{e st:Expr}{te ts:TE}{p2:Pos}
theorem Yu(aX:List Value):slicePick aX.toArray none none (some (-1))=aX.reverse.toArray:=by
 have h:=HT.LV aX.toArray;unfold slicePick;have e1:(sliceBounds none none (some (-1)) aX.toArray.size).1=((aX.toArray.size:Nat):Int)-1:=rfl;have e2:(sliceBounds none none (some (-1)) aX.toArray.size).2.1=-1:=rfl;have e3:(sliceBounds none none (some (-1)) aX.toArray.size).2.2=-1:=rfl;rw[e1,e2,e3];have e4:sliceRange (((aX.toArray.size:Nat):Int)-1) (-1) (-1)=(List.range aX.toArray.size).map λ(m:Nat)=>(((aX.toArray.size:Nat):Int)-1+(m:Int)*(-1)).toNat:=by
  unfold sliceRange;have h1:¬((-1:Int)>0):=by omega
  simp only[h1,if_false];have h2:(if((aX.toArray.size:Nat):Int)-1 > -1 then(((aX.toArray.size:Nat):Int)-1-(-1)-(-1)-1) / (-(-1)) else 0).toNat=aX.toArray.size:=by
   rw[show(-(-1):Int)=1 from rfl,Int.ediv_one];split<;>omega
  rw[h2]
  congr 1
  funext m
  congr 1
  omega
 rw[e4,ML];rw[show aX.reverse=aX.toArray.toList.reverse from rfl,<- h]
 rfl
theorem Rz(he:PE X e te)(hs:PE X st ts):PE X (.Subscript e (.Slice none none (some st) p2) pos) (λσ H Q=>te σ H λx H1=>ts σ H1 λy H2=>y=.int (-1)/\∃a xs,x=.ref a/\((iU X.K H2 a xs/\∀p,H2 p=none->Q (.ref p) (upd H2 p (.tup xs.reverse)))\/(gi X.K H2 a xs/\∀p,H2 p=none->Q (.ref p) (upd H2 p (.lst xs.reverse))))):=by
 intro pins s σ H Q I h;refine Subscript_ (cX (he pins s σ H _ I h) λv s1 bD=>?_);obtain⟨x,H1,I1,r1,q1⟩:=bD;refine wpAny_Slice ?_;rw[MC];refine ai ?_;refine ai ?_;rw[evalPart_some];refine cX (hs pins s1 σ H1 _ I1 q1) λu s2 bD=>?_;obtain⟨y,H2,I2,r2,q2⟩:=bD;obtain⟨rfl,a,xs,rfl,q⟩:=q2;obtain⟨t,rfl⟩:=r2;cases r1;have I4:Inv X pins σ H2 { s2 with heap:=s2.heap.push { cls:=.type "slice",data:=.fields #[.none,.none,.int (-1) t] } }:=I2.kept (t':=s2.toks) λb ob q=>aj _ q;show wpAny (model X.prog X.w) X.A (subscriptTail e (.Slice none none (some st) p2) (.ref a) (.ref s2.heap.objs.size)) (EP X pins σ Q) X.xe { s2 with heap:=s2.heap.push { cls:=.type "slice",data:=.fields #[.none,.none,.int (-1) t] } };rcases q with⟨hx,q⟩|⟨hx,q⟩
 ·obtain⟨aX,r,ht,hz⟩:=I4.tuple hx;have hlen:aX.toArray.size=xs.length:=by rw[aE];exact r.length.symm
  refine FA (ops:=[.ref a,.ref s2.heap.objs.size]) ht.typeIs br.lookup (HT.YR ht (nD ..) ?_ (by rw[hlen];exact hz)) (by with_unfolding_all rfl);have ee:aX.toArray.toList.reverse.toArray=aX.reverse.toArray:=by simp
  rw[ee];refine⟨.ref _,_,I4.laid (t':=s2.toks) (o:=.tup xs.reverse) (λb ob q=>aj _ q) (av _) ?_,rfl,q _ (I4.cq.fresh (av _))⟩;exact⟨by rw[kq];exact hz,aX.reverse,r.reverse,K2.new _ _⟩
 ·obtain⟨aX,r,ht,hz⟩:=I4.list hx;have hlen:aX.toArray.size=xs.length:=by rw[aE];exact r.length.symm
  refine FA (ops:=[.ref a,.ref s2.heap.objs.size]) ht.isList.typeIs oR.lookup (MA ht.isList (nD ..) .none .none (.int (-1) t) (by simp) ?_ (by rw[hlen];exact hz)) (by with_unfolding_all rfl);rw[Yu];refine⟨.ref _,_,I4.laid (t':=s2.toks) (o:=.lst xs.reverse) (λb ob q=>aj _ q) (av _) ?_,rfl,q _ (I4.cq.fresh (av _))⟩;exact⟨by rw[kq];exact hz,_,0,r.reverse,aG _ rfl⟩
end
theorem p0.get{P:Program}{w:World}{h:Heap}{a:Addr}:∀{o:HO},p0 P w H h a o->∃ob,h.get? a=some ob
 |.lst _,x=>by obtain⟨_,_,_,_,e⟩:=x;exact⟨_,e⟩
 |.tup _,x=>by obtain⟨_,_,_,o,e,_⟩:=x;exact⟨o,e⟩
 |.dK _,x=>by obtain⟨_,_,_,_,o,es,ep,e,_⟩:=x;exact⟨o,e⟩
 |.dT _,x=>by obtain⟨_,_,_,_,o,es,ep,e,_⟩:=x;exact⟨o,e⟩
 |.set _ _,x=>by obtain⟨o,es,ep,t,e,_⟩:=x;exact⟨o,e⟩
 |.ins _ _ _,x=>by obtain⟨_,_,_,e,_⟩:=x;exact⟨_,e⟩
 |.own _,x=>x
 |.xd _,x=>by obtain⟨mA,n,_⟩:=x;obtain⟨od,e,_⟩:=Jw n;exact⟨od,e⟩
 |.ng _ _,x=>by obtain⟨_,_,_,e⟩:=x;exact⟨_,e⟩
 |.kE _ _,x=>⟨_,x.1⟩
 |.lW _,x=>⟨_,x⟩
 |.met _ _,x=>⟨_,x⟩
 |.ext _,x=>x.2.1
def DX(H':Hp)(h0:Heap)(l:List Env)(e:Value)(C:Addr)(h:Heap):Prop :=
 ∃(ea:Addr) (a0:Value) (B:Heap),e=.ref ea/\Heap.FlyingW B l ea (.ref C) a0 h/\∀b o,h.get? b=some o->b∉iJ l->(H' b≠none\/∃o0,h0.get? b=some o0)->B.get? b=some o
def jQ(P:Program)(w:World):oy:=λouter H s E e s'=>∃(C:Addr) (H':Hp),s'.os=s.os/\AllBare s'.gens/\Un (iJ outer) [] H H' s.heap s'.heap/\gS P w H' s'.heap/\DX H' s.heap outer e C s'.heap/\E (.ref C) none H'
section
variable{pins:List (Addr×Obj)}{E:XK}{e:Value}
theorem Inv.flew(I:Inv X pins σ H s)(h:jQ X.prog X.w X.stack H s E e s'):∃C H',Inv X pins σ H' s'/\DX H' s.heap X.stack e C s'.heap/\E (.ref C) none H':=by
 obtain⟨C,H',ho,hb,hu,cq,fl,hE⟩:=h;exact⟨C,H',I.Ec (ch:=[]) ho hu cq hb (by simp),fl,hE⟩
theorem Dr(I:Inv X pins σ H s){b:Addr}(hb:b∈iJ X.stack):∃o,s.heap.get? b=some o/\∀vs,o.data≠.fields vs:=(I.stack.mem hb).2
theorem Ee{oP:Heap}(I:Inv X pins σ H s)(fz:X.stack=X.env::X.outer)(hex:X.ex=[])(hf:X.env.frame=some X.env.locals)(vI:∀b o,s.heap.get? b=some o->b∉iJ X.stack->(H b≠none\/∃o0,X.dI.heap.get? b=some o0)->B.get? b=some o)(sl:∀b∈iJ X.stack,∀o,s.heap.get? b=some o->∃sl,oP.get? b=some { o with slots:=sl })(fw:Heap.FlyingW B X.outer ea (.ref C) a0 oP)(hE:E (.ref C) none H):jQ X.prog X.w X.outer X.jV X.dI E (.ref ea) { s with heap:=oP }:=by
 have Bf:∀b,b∈iJ X.outer->b∈iJ X.stack:=λb hb=>by rw[fz];unfold iJ at hb ⊢;rw[dO,hf];exact bH _ hb
 have vm:∀b o,X.dI.heap.get? b=some o->b∉iJ X.outer->b∉iJ X.stack:=λb o e hb z=>by
  rcases aH.mp (I.M1 b z) with z|z
  ·exact absurd (ay e) (by rw[z];exact kO.mpr I.ok.above)
  ·exact hb z
 have qW:∀b u,H b=some u->b∉iJ X.stack:=λb u e z=>by rw[I.Dk b z] at e;cases e
 have kept:∀b o,s.heap.get? b=some o->b∉iJ X.stack->(H b≠none\/∃o0,X.dI.heap.get? b=some o0)->oP.get? b=some o:=λb o e n q=>fw.1 b o (vI b o e n q);have vo:∀b,b∉X.ex:=λb=>by rw[hex];simp
 refine⟨C,H,I.os,I.bare,⟨?_,?_,?_,?_,I.base.jA,I.base.ji,I.base.jB⟩,?_,⟨ea,a0,B,rfl,fw,?_⟩,hE⟩
 ·exact λb o e n1 n2 _=>kept b o (I.base.keep b o e n1 n2 (vo b)) (vm b o e n2) (.inr ⟨o,e⟩)
 ·intro b o e n1 n2 _;obtain⟨sl1,e1⟩:=I.base.slot b o e n1 n2 (vo b);obtain⟨rg,e2⟩:=sl b (Bf b n2) _ e1;exact⟨rg,e2⟩
 ·exact λb o e n1 _=>I.base.free b o e n1 (vo b)
 ·intro b o e _;obtain⟨o1,e1⟩:=I.base.there b o e (vo b);by_cases hb:b∈iJ X.stack
  ·obtain⟨rg,e2⟩:=sl b hb _ e1;exact⟨_,e2⟩
  ·exact⟨o1,kept b o1 e1 hb (.inr ⟨o,e⟩)⟩
 ·intro a o e;exact (I.cq a o e).Z2 (λb u hb q=>by
   have lZ:∃v,H b=some v:=by
    rcases hb with rfl|hb
    ·exact⟨o,e⟩
    ·exact⟨_,hb⟩
   obtain⟨v,hv⟩:=lZ;exact kept b u q (qW b v hv) (.inl (by rw [hv];simp))) (λb hb=>hb) (λb xs hb=>hb)
 ·intro b o e n q;rcases q with q|⟨o0,q⟩
  ·obtain⟨v,hv⟩:=Option.ne_none_iff_exists'.mp q;obtain⟨o1,e1⟩:=(I.cq b v hv).get;have z:=vI b o1 e1 (qW b v hv) (.inl (by rw[hv];simp));have z':=fw.1 b o1 z;have:o=o1:=by
    have e':oP.get? b=some o:=e;rw[z'] at e';exact(aS e').symm
   subst this;exact z
  ·obtain⟨o1,e1⟩:=I.base.there b o0 q (vo b);have z:=vI b o1 e1 (vm b o0 q n) (.inr ⟨o0,q⟩);have z':=fw.1 b o1 z;have:o=o1:=by
    have e':oP.get? b=some o:=e;rw[z'] at e';exact(aS e').symm
   subst this;exact z
theorem aD7{h0:Heap}{Ex:Value->Shared->Prop}(I:Inv X pins σ H s)(fl:DX H h0 X.stack e C s.heap)(Pk:∀b o,X.dI.heap.get? b=some o->∃o',h0.get? b=some o')(fz:X.stack=X.env::X.outer)(hex:X.ex=[])(hf:X.env.frame=some X.env.locals)(hE:E (.ref C) none H):wpAny (model X.prog X.w) X.A (leaving X.env e) (λ_ oY=>jQ X.prog X.w X.outer X.jV X.dI E e oY) Ex s:=by
 obtain⟨ea,a0,B,rfl,fw,hB⟩:=fl;have fw0:=fw;rw[fz] at fw;refine wpAny_leaves_onW (by rw[I.ok.frames,fz]) hf fw λoP Px us=>?_;refine Ee I fz hex hf (λb o e n q=>hB b o e n (q.imp id λ⟨o0,q⟩=>Pk b o0 q)) (λb hb o e=>?_) Px hE;obtain⟨o1,e1,nf⟩:=Dr I hb;rw[e] at e1;cases e1;exact us b o e nf
theorem aQ4{h':Heap}{vs:List Value}{Ex:Value->Shared->Prop}(I:Inv X pins σ H s)(hx:Heap.MadeExcOf s.heap h' ea (.ref C) vs)(fz:X.stack=X.env::X.outer)(hex:X.ex=[])(hf:X.env.frame=some X.env.locals)(hE:E (.ref C) none H):wpAny (model X.prog X.w) X.A (leaving X.env (.ref ea)) (λ_ oY=>jQ X.prog X.w X.outer X.jV X.dI E (.ref ea) oY) Ex { s with heap:=h' }:=by
 have tV:=I.stack;rw[fz] at tV;have kC:∀env∈(X.env::X.outer),∀b,env.frame=some b->b∈iJ X.stack:=λenv he b hb=>by rw[fz];exact kP.mpr ⟨env,he,hb⟩
 refine wpAny_leaves_madeW (s:={ s with heap:=h' }) (base:=PySem.W.hideAll s.heap (iJ X.stack)) (h:=s.heap) (by rw[I.ok.frames,fz]) hf (λb o q=>MD _ q) (PySem.W.funFrames_hide tV kC) hx λoP t fw _ _ us=>?_;refine(show jQ X.prog X.w X.outer X.jV X.dI E (.ref ea) { s with heap:=oP } from Ee I fz hex hf (λb o e n _=>FC _ e n) (λb hb o e=>?_) fw hE);obtain⟨o1,e1,nf⟩:=Dr I hb;rw[e] at e1;cases e1;exact us b o (hx.keeps b o e) nf
structure Lies(X:Cx)(H H':Hp)(s:Shared)(B:Heap)(ea C:Addr)(a0:Value)(s':Shared):Prop where
 os:s'.os=s.os
 bare:AllBare s'.gens
 un:Un (iJ X.stack) [] H H' s.heap s'.heap
 cq:gS X.prog X.w H' s'.heap
 vI:∀b o,s'.heap.get? b=some o->b∉iJ X.stack->(H' b≠none\/∃o0,s.heap.get? b=some o0)->B.get? b=some o
theorem Lies.inv(I:Inv X pins σ H s)(l:Lies X H H' s B ea C a0 s'):Inv X pins σ H' s':=I.Ec (ch:=[]) l.os l.un l.cq l.bare (by simp)
theorem leave_held{Ex:Value->Shared->Prop}(I:Inv X pins σ H s)(l:Lies X H H' s B ea C a0 s')(hh:Heap.HeldW B X.stack ea (.ref C) a0 X.env.locals s'.heap)(fz:X.stack=X.env::X.outer)(hex:X.ex=[])(hf:X.env.frame=some X.env.locals)(hE:E (.ref C) none H'):wpAny (model X.prog X.w) X.A (leaving X.env (.ref ea)) (λ_ oY=>jQ X.prog X.w X.outer X.jV X.dI E (.ref ea) oY) Ex s':=by
 have J:=l.inv I;have Bv:=hh;rw[fz] at Bv;unfold leaving;refine aa (wpAny_noteFrame_againW hf Bv.2.2.2 ?_);refine wpAny_landsW Bv λoP fl us=>?_;obtain⟨k1,k2,⟨_,_,k3⟩,k4⟩:=fl;refine Ee J fz hex hf (λb o e n q=>l.vI b o e n (q.imp id λ⟨o0,q⟩=>I.base.there b o0 q (by rw[hex];simp))) (λb hb o e=>?_) ⟨k1,k2,k3,k4⟩ hE;obtain⟨o1,e1,nf⟩:=Dr J hb;rw[e] at e1;cases e1;exact us b o e nf
def zr(X:Cx)(Ξ:XK):Prop:=∀(pins:List (Addr×Obj)) (σ:St) (H:Hp) (s:Shared) (h':Heap) (ea C:Addr) (vs:List Value),Inv X pins σ H s->Heap.MadeExcOf s.heap h' ea (.ref C) vs->Ξ (.ref C) none H->X.xe (.ref ea) { s with heap:=h' }
def Mj(X:Cx)(Ξ:XK):Prop:=∀(pins:List (Addr×Obj)) (σ:St) (H H':Hp) (s s':Shared) (B:Heap) (ea C:Addr) (a0:Value),Inv X pins σ H s->Lies X H H' s B ea C a0 s'->Heap.HeldW B X.stack ea (.ref C) a0 X.env.locals s'.heap->Ξ (.ref C) none H'->X.xe (.ref ea) s'
def SG(C:Addr)(Ξ:XK)(t:TA):TS:=λ_ σ H=>t σ H λvs H1=>vs.length<=sizeLine/\Ξ (.ref C) none H1
theorem a52{x:Str}{B newId gY:String}{bm:List Value}{np gD:Pos}{kF:Expr}{rest:List Expr}{t:TA}{Ξ:XK}(hc:X.calm=true)(O:OwnCls x C bm newId X.mg X.base)(FB:ExcBaseFacts B newId gY bm)(hg:Gl X x)(ha:PA X (kF::rest) t)(hr:zr X Ξ)(he:starEach (kF::rest) X.env=(false,eval kF X.env)::starEach rest X.env)(gZ:(backTo gD (starEach rest X.env)).any (·.1)=false)(hd:(x==("__debug__":Str))=false) :
  PS X (.Raise (some (.Call (.Name x np) (kF::rest) [] gD)) none pos) (SG C Ξ t):=by
 intro pins s σ H D I h;obtain⟨tl,N,nm,q,bs,hdct,sn,sub,ab,col,dd,k0,k1,k2,k3,k5,mN,hC,hN,yh,T⟩:=O.obj;refine wpAny_Raise_call_subT (C:=C) (nm:=nm) (q:=q) (N:=N) (bs:=bs) (bm:=tl) (hdct:=hdct) (sn:=sn) (sub:=sub) (ab:=ab) (col:=col) (dd:=dd) (k0:=k0) (k1:=k1) (k2:=k2) (k3:=k3) (k5:=k5)
  FB (mN:=mN) (T.hasType FB.hasBase) (I.ok.hd hc) (by rw[he];show(false||(backTo gD (starEach rest X.env)).any (·.1))=false;rw[gZ];rfl) yh (R6 I hg O.bound ⟨rfl,?_⟩ hd)
 have h':=ha gD pins s σ H _ I h;rw[he] at h' ⊢;refine Calls.evalArgs_plain (bO h' (λvs iw jG=>?_) λ_ _ y=>y);obtain⟨ws,H1,I1,rv,hz,hE⟩:=jG;exact⟨rfl,by rw[<- rv.length];exact hz,I1.bk _ _ hC,hN.keeps I1.bk,T.keeps I1.bk,λh2 ea hm=>hr pins σ H1 iw h2 ea C vs I1 hm hE⟩
end
def Ft(K:PySem.W.Frag)(a:Addr):It :=
 ⟨λi H=>∃xs x,gi K H a xs/\xs[i]?=some x,λi H v H'=>∃p x,H p=none/\v=.ref p/\(∀xs,gi K H a xs->xs[i]?=some x)/\H'=upd H p (.tup [.int i,x]),λi H=>∃xs,gi K H a xs/\xs.length<=i⟩
theorem ZM{P:Program}{w:World}{K:PySem.W.Frag}{elts:List Expr}{x1:Nat}{tp:Pos}(a e it:Addr)(Hd:e≠it):Turn P w K (.Tuple elts x1 tp) (Ft K a) [e,it] e (λi h=>(∃old,IsEnum h e it i old)/\h.IsListIter it a i) where
 mem:=by simp
 obj:=λi h st b hb=>by
  obtain⟨⟨old,h1⟩,o,h2,c,d⟩:=st;rcases aH.mp hb with z|z
  ·subst z;exact ⟨_,h1,λv z=>by
    have z':Data.fields _=Data.cell v:=z;cases z'⟩
  ·have z:b=it:=by simpa using z
   subst z;exact⟨o,h2,λv z=>by rw[d] at z;cases z⟩
 keep:=λi h h' st k=>by
  obtain⟨⟨old,h1⟩,h2⟩:=st;exact⟨⟨old,k e (by simp) _ h1⟩,h2.at λo x=>k it (by simp) o x⟩
 item:=by
  intro X hP hw hK hc i pins s σ H E I hf st hg;subst hP hw hK;obtain⟨⟨old,h1⟩,h2⟩:=st;obtain⟨xs,x,hq,hx⟩:=hg;obtain⟨aX,rv,p,hz⟩:=I.list hq;obtain⟨u,hu,ru⟩:=rv.get hx;obtain⟨e0,e1,e2,e3,e4,e5⟩:=hf e (by simp);obtain⟨f0,f1,f2,f3,f4,f5⟩:=hf it (by simp);refine wpAny_pyNext_enum_item h1 h2 p.isList (x:=u) (by simpa using hu) Hd λh' qi Bs qd hz' oI=>?_;refine⟨_,rfl,wpAny_letOwnedTupleGo_enum qi λwq Om gI=>?_⟩;have gI:Heap.SameBut e h' wq:=gI;have elt:e<s.heap.objs.size:=ay h1;have kp:∀b o,b≠e->b≠it->s.heap.get? b=some o->wq.get? b=some o:=λb o b1 b2 q=>(gI.2 b b1).trans (oI b o b1 b2 q);have hn:H s.heap.objs.size=none:=I.cq.fresh (av _);have Ay:wq.get? s.heap.objs.size=some { cls:=.type "tuple",data:=.seq #[.int i s.toks,u] }:=(gI.2 _ (bV elt)).trans qd;have ne:∀b u',H b=some u'->b≠e/\b≠it:=λb u' q=>And.intro (λ(z:b=e)=>by rw[z,e0] at q;cases q) (λ(z:b=it)=>by rw[z,f0] at q;cases q);have cq:gS X.prog X.w (upd H s.heap.objs.size (.tup [.int i,x])) wq:=λb o q=>by
   by_cases hb:b=s.heap.objs.size
   ·subst hb;rw[u5] at q;cases q;exact⟨by show 2<=sizeLine;decide,[.int i s.toks,u],.cons ⟨_,rfl⟩ (.cons ru .nil),_,Ay,rfl,⟨_,rfl⟩,rfl⟩
   ·rw[i6 hb] at q;refine(I.cq b o q).Z2 (λc v hc q'=>?_) (λc q'=>by rw[i6 (n8 q' hn)];exact q') λc ys q'=>by rw[i6 (n8 q' hn)];exact q'
    rcases hc with z|z
    ·subst z;exact kp _ _ (ne _ _ q).1 (ne _ _ q).2 q'
    ·exact kp _ _ (ne _ _ z).1 (ne _ _ z).2 q'
  have I2:Inv X pins σ (upd H s.heap.objs.size (.tup [.int i,x])) { s with heap:=wq,toks:=s.toks+1 }:=by
   refine I.step (g':=s.gens) (d':=s.drawn) (t':=s.toks+1) (ch:=[e,it]) (λb hb=>?_) (λb o _ _ hb q _=>kp b o (λz=>hb (by simp[z])) (λz=>hb (by simp[z])) q) (λb o _ _ hb q _=>⟨o.slots,kp b o (λz=>hb (by simp[z])) (λz=>hb (by simp[z])) q⟩)
    (λb o _ q n=>by rw[i6 (aI (ay q))];exact n) (λb o hb q=>⟨o,kp b o (λz=>hb (by simp[z])) (λz=>hb (by simp[z])) q⟩)
    (λb ys q=>by rw[i6 (n8 q hn)];exact q) (λb o' ys q=>by rw[i6 (n8 q hn)];exact q) (λb ps q=>⟨#[],by rw[i6 (n8 q hn),q];simp⟩) (λm hm=>?_) cq I.bare
   ·rcases aH.mp hb with z|z
    ·subst z;exact⟨e3,e1,e4,e5⟩
    ·have z:b=it:=by simpa using z
     subst z;exact⟨f3,f1,f4,f5⟩
   ·obtain⟨o,es,ep,ho,r⟩:=hm;exact⟨o,es,ep,kp _ o (cu e1) (cu f1) ho,r⟩
  refine⟨.ref s.heap.objs.size,_,I2,rfl,⟨s.heap.objs.size,x,hn,rfl,λys hy=>by rw[I.LO hy hq];exact hx,rfl⟩,⟨⟨u,by simpa using Om⟩,Bs.at λo y=>(gI.2 it Hd.symm).trans y⟩,λb hb=>?_⟩;have lZ:b<s.heap.objs.size:=by
   rcases aH.mp hb with z|z
   ·subst z;exact elt
   ·have z:b=it:=by simpa using z
    subst z;obtain⟨o,h2,_⟩:=h2;exact ay h2
  rw[i6 (aI lZ)];exact(hf b hb).1
 done:=by
  intro X hP hw hK hc i pins s σ H E I hf st hg;subst hP hw hK;obtain⟨⟨old,h1⟩,h2⟩:=st;obtain⟨xs,hq,hx⟩:=hg;obtain⟨aX,rv,p,hz⟩:=I.list hq;obtain⟨f0,f1,f2,f3,f4,f5⟩:=hf it (by simp);have hl:=rv.length;exact wpAny_pyNext_enum_end (I.ok.hd hc) h1 h2 p.isList (by simp;omega) λh' eb=>⟨rfl,I.turned (t':=s.toks) (λb o hb e=>eb b o hb e) f0 f1 f3 f4 f5⟩
 self:=λ_ _ _ _ _ st h=>by
  obtain⟨⟨old,h1⟩,h2⟩:=st;exact wpAny_pyIter_enum h1 h
theorem Ud{l:Expr}{tp:Pos}{elts:List Expr}{x1:Nat}(hg:Gl X "enumerate")(hm:X.mg "enumerate"=none)(ha:PA X [l] ta)(hs:starEach [l] X.env=[(false,eval l X.env)]) :
  PI X (.Tuple elts x1 tp) (.Call (.Name "enumerate" p) [l] [] pos) (λσ H R=>ta σ H λvs H1=>∃a,vs=[.ref a]/\(∃xs,gi X.K H1 a xs)/\R (Ft X.K a) H1):=by
 intro pins s σ H R I h;refine Call_ (P2 I hg hm PyProof.Rows.boot_enumerate (cL (cX (ha pos pins s σ H _ I h) λus s1 bD=>?_) hs rfl));obtain⟨vs,H1,I1,r1,q1⟩:=bD;obtain⟨a,e,⟨xs,hq⟩,q⟩:=q1;subst e;cases r1 with
 |cons r rr =>
  cases rr;cases r;obtain⟨aX,rv,p,hz⟩:=I1.list hq;refine call_enumerate_list p.isList λh' he hit hsz hk=>wpAny_pyIter_enum he ?_;refine⟨s1.heap.objs.size+1,[s1.heap.objs.size+1,s1.heap.objs.size],_,_,H1,rfl,I1.kept (t':=s1.toks) hk,ZM a _ _ (by simp),⟨⟨_,he⟩,hit⟩,λb hb=>?_,q⟩;have lZ:s1.heap.objs.size<=b:=by
   rcases aH.mp hb with z|z
   ·rw[z];exact cB _
   ·have z:b=s1.heap.objs.size:=by simpa using z
    rw[z];exact av _
  exact I1.sS lZ (I1.cq.fresh lZ)
theorem Xt{e:Expr}{t:TE}(he:PE X e t):PE X (.FormattedValue e (-1) none pos) (λσ H Q=>t σ H λx H1=>(∃i,x=.int i/\i.natAbs.log2<1920/\Q (.str (toString i)) H1)\/∃y,x=.str y/\y.length<=sizeLine/\Q (.str y) H1):=by
 intro pins s σ H Q I h;refine wpAny_FormattedValue_plain (cX (he pins s σ H _ I h) λv s1 bD=>?_);obtain⟨x,H1,I1,r1,q1⟩:=bD;rcases q1 with⟨i,rfl,hd,q⟩|⟨y,rfl,hy,q⟩
 ·obtain⟨t,rfl⟩:=r1;exact wpAny_formatField_int hd ⟨.str _,H1,I1.tok _,⟨_,rfl⟩,q⟩
 ·obtain⟨t,rfl⟩:=r1;exact wpAny_formatField_str ⟨.str _,H1,I1,⟨_,rfl⟩,q⟩ ⟨.str _,H1,I1.tok _,⟨_,rfl⟩,q⟩ hy
inductive uH(X:Cx):List Expr->List TE->Prop
 |nil:uH X [] []
 |cons {e:Expr} {t:TE} {es:List Expr} {ts:List TE} (h:PE X e t) (r:uH X es ts):uH X (e::es) (t::ts)
def zb:List TE->St->Hp->Str->(Str->Hp->Prop)->Prop
 |[],_,H,acc,Q=>Q acc H
 |t::ts,σ,H,acc,Q=>t σ H λx H1=>∃y,x=.str y/\(acc++y).length<=sizeLine/\zb ts σ H1 (acc++y) Q
theorem LM{pins:List (Addr×Obj)}{σ:St}{Q:Str->Hp->Prop}:∀{es:List Expr} {ts:List TE},uH X es ts->∀{s:Shared} {H:Hp} {acc:Str},Inv X pins σ H s->zb ts σ H acc Q ->
  Joins (model X.prog X.w) X.A X.xe (evalEach es X.env) acc (λout s1=>∃H1,Inv X pins σ H1 s1/\Q out H1) s
 |_,_,.nil,s,H,acc,I,h=>⟨H,I,h⟩
 |_,_,.cons he r,s,H,acc,I,h=>by
  rw[arm_evalEach_cons];refine cX (he pins s σ H _ I h) λv s1 bD=>?_;obtain⟨x,H1,I1,r1,y,ey,hy,q1⟩:=bD;subst ey;obtain⟨t,rfl⟩:=r1;exact⟨y,t,rfl,hy,LM r I1 q1⟩
theorem JJ{M:Model}{A:Around}{E:Value->Shared->Prop}{Q Q':Str->Shared->Prop}(hq:∀x s,Q x s->Q' x s):∀{l:List (Sem Value)} {acc:Str} {s:Shared},Joins M A E l acc Q s->Joins M A E l acc Q' s
 |[],acc,s,h=>hq _ _ h
 |x::r,acc,s,h=>cX h λv s1 ⟨y,t,e,hz,h1⟩=>⟨y,t,e,hz,JJ hq h1⟩
theorem Ua{mD mB:Expr}{rest:List Expr}{ts:List TE}(h:uH X (mD::mB::rest) ts):PE X (.JoinedStr (mD::mB::rest) pos) (λσ H Q=>zb ts σ H Str.empty λout H1=>out.length<=sizeLine/\Q (.str out) H1):=by
 intro pins s σ H Q I hw;refine wpAny_JoinedStr (JJ (λx s1 ⟨H1,I1,hl,q⟩=>⟨hl,.str x,H1,I1.tok _,⟨_,rfl⟩,q⟩) (LM h I hw))
theorem aQ6{lo:Int}{acc:Array Value}{n:Nat}(h:ItemsOf (λi v=>∃t,v=.int (lo+i*1) t) acc n):Vals ((List.range n).map λ(k:Nat)=>V.int (lo+k)) acc.toList:=by
 have hl:acc.toList.length=n:=by
  have:=h.1;simpa using this
 have go:∀(m:Nat) (l:List Value),l.length<=n->m+l.length=n->(∀i v,l[i]?=some v->∃t,v=Value.int (lo+((m+i:Nat):Int)) t)->Vals ((List.range' m l.length).map λ(k:Nat)=>V.int (lo+k)) l:=by
  intro m l
  induction l generalizing m with
  |nil=>intro _ _ _;exact .nil
  |cons x r ih =>
   intro h1 h2 h3;simp only[List.length_cons,List.range'_succ,List.map_cons];refine .cons ?_ (ih (m+1) (by simp at h1;omega) (by simp at h2;omega) λi v hv=>?_)
   ·obtain⟨t,e⟩:=h3 0 x rfl;exact⟨t,by rw[e];simp⟩
   ·obtain⟨t,e⟩:=h3 (i+1) v (by simpa using hv);exact⟨t,by rw[e,show m+(i+1)=m+1+i by omega]⟩
 have:=go 0 acc.toList () () λi v hv=>?_
 ·rw[hl,<- List.range_eq_range'] at this;exact this
 ·have hi:i<n:=by
   have:=(ax.mp hv).1;omega
  have:acc[i]?=some v:=by rw[<- eO];exact hv
  obtain⟨t,e⟩:=h.2 i v this;refine⟨t,?_⟩;rw[e];simp
theorem Ko(hc:X.calm=true):l9 X (.type "list") (λxs H Q=>∃a lo hi,xs=[.ref a]/\H a=some (.ng lo hi)/\(-(2 ^ 62)<=lo/\lo<2 ^ 62/\-(2 ^ 62)<=hi/\hi<2 ^ 62/\hi-lo<=100000)/\∀p,H p=none->Q (.ref p) (upd H p (.lst ((List.range (hi-lo).toNat).map λ(k:Nat)=>V.int (lo+k))))):=by
 intro pins s σ H xs us Q I r h;obtain⟨a,lo,hi,rfl,ha,⟨h1,h2,h3,h4,h5⟩,q⟩:=h;obtain⟨t,u,v,ho⟩:=I.cq a _ ha;cases r with
 |cons r rr =>
 cases rr;cases r;have hn:Builtin.Range.rangeSize lo hi 1=((hi-lo).toNat:Nat):=by rw[rangeSize_one];split<;>omega
 refine call_list_range (n:=(hi-lo).toNat) (I.ok.hd hc) ho (small_one h1 h2 h3 h4) hn () λh' kJ acc c hk hS jP=>?_;have hp:H s.heap.objs.size=none:=I.cq.fresh (av _);refine⟨.ref _,_,I.laid (a:=s.heap.objs.size) (o:=.lst ((List.range (hi-lo).toNat).map λ(k:Nat)=>V.int (lo+k))) (t':=kJ) hk (av _) ⟨?_,acc.toList,c,aQ6 jP,by simpa using hS⟩,rfl,q _ hp⟩;rw[ag,lG];have:(hi-lo).toNat<=100000:=by omega
 exact aF this ∅
theorem Zr{a:Expr}(hg:Gl X "range")(hm:X.mg "range"=none)(ha:PA X [a] ta)(hs:starEach [a] X.env=[(false,eval a X.env)]):PE X (.Call (.Name "range" p) [a] [] pos) (λσ H Q=>ta σ H λvs H1=>∃j:Int,vs=[.int j]/\∀q,H1 q=none->Q (.ref q) (upd H1 q (.ng 0 j))):=by
 intro pins s σ H Q I h;refine cW (P2 I hg hm boot_range (cL (cX (ha pos pins s σ H _ I h) λus s1 bD=>?_) hs rfl));obtain⟨vs,H1,I1,r1,q1⟩:=bD;obtain⟨j,e,q⟩:=q1;subst e;cases r1 with
 |cons r rr =>
  cases rr;obtain⟨t,rfl⟩:=r;exact call_range_1 ⟨.ref s1.heap.objs.size,_,I1.laid (a:=s1.heap.objs.size) (o:=.ng 0 j) (λb o e=>aj _ e) (av _) ⟨_,_,_,aG _ rfl⟩,rfl,q _ (I1.cq.fresh (av _))⟩
theorem Zs{a b:Expr}(hg:Gl X "range")(hm:X.mg "range"=none)(ha:PA X [a,b] ta)(hs:starEach [a,b] X.env=[(false,eval a X.env),(false,eval b X.env)])(gI:starEach [b] X.env=[(false,eval b X.env)]):PE X (.Call (.Name "range" p) [a,b] [] pos) (λσ H Q=>ta σ H λvs H1=>∃i j:Int,vs=[.int i,.int j]/\∀q,H1 q=none->Q (.ref q) (upd H1 q (.ng i j))):=by
 intro pins s σ H Q I h;refine cW (P2 I hg hm boot_range (cL (cX (ha pos pins s σ H _ I h) λus s1 bD=>?_) (by rw[hs,gI]) (by rw[gI];rfl)));obtain⟨vs,H1,I1,r1,q1⟩:=bD;obtain⟨i,j,e,q⟩:=q1;subst e;cases r1 with
 |cons r rr =>
  cases rr with
  |cons r' rr =>
   cases rr;obtain⟨t,rfl⟩:=r;obtain⟨t',rfl⟩:=r';exact call_range_2 ⟨.ref s1.heap.objs.size,_,I1.laid (a:=s1.heap.objs.size) (o:=.ng i j) (λb o e=>aj _ e) (av _) ⟨_,_,_,aG _ rfl⟩,rfl,q _ (I1.cq.fresh (av _))⟩
def wV(K:PySem.W.Frag)(P:Params)(a:Addr)(kvs:List (Str×V)):Prop :=
 ∃es n,K.lookup a=some ⟨.type "dict",none,.dict es n,#[]⟩/\PySem.W.KeysLit P es.toList/\(a==sysModules)=false/\∀x,G0 (kvs.lookup x) (findBy Value.isStrOf es x)
theorem Kv{kvs:List (Str×V)}(neg:Bool):gs X (compareOp (if neg then .NotIn else .In)) (λx y H Q=>∃a z,y=.ref a/\wV X.K X.w.params a kvs/\x=.str z/\Q (.bl (xor neg (kvs.lookup z).isSome)) H):=by
 intro pins s σ H x y v u Q I rx ry h;obtain⟨a,z,rfl,⟨es,n,hl,hk,lo,hf⟩,rfl,q⟩:=h;obtain⟨t,rfl⟩:=rx;cases ry;have hm:=PySem.W.mapOf_K (prog:=X.prog) (w:=X.w) I.iF hl hk;have e:=hf z;have ee:(findBy Value.isStrOf es z).isSome=(kvs.lookup z).isSome:=by
  cases h1:kvs.lookup z<;>cases h2:findBy Value.isStrOf es z<;>rw[h1,h2] at e<;>first|rfl|exact e.elim
 cases neg
 ·exact wpAny_in_of (strKind_is X.prog X.w z t) lo hm ⟨.bl _,H,I.tok _,by rw[ee];rfl,by simpa using q⟩
 ·exact wpAny_notIn_of (strKind_is X.prog X.w z t) lo hm ⟨.bl _,H,I.tok _,by rw[ee];rfl,by simpa using q⟩
theorem WV{kvs:List (Str×V)}:tq X (λx y H Q=>∃a z v,x=.ref a/\wV X.K X.w.params a kvs/\y=.str z/\kvs.lookup z=some v/\Q v H):=by
 intro value slice pins s σ H x y v u Q I rx ry h hs;obtain⟨a,z,d,rfl,⟨es,n,hl,hk,lo,hf⟩,rfl,hz,q⟩:=h;cases rx;obtain⟨t,rfl⟩:=ry;have hm:=PySem.W.mapOf_K (prog:=X.prog) (w:=X.w) I.iF hl hk;have e:=hf z;rw[hz] at e;cases h2:findBy Value.isStrOf es z with
 |none=>rw[h2] at e;exact e.elim
 |some r =>
  rw[h2] at e;exact FA hm.typeIs slot_dict_getitem.lookup (wpAny_getItem_of (strKind_is X.prog X.w z t) hm h2 ⟨d,H,I.tok _,e,q⟩) hs
theorem Tr(hu:X.A.units+1<cLine):tq X (λx y H Q=>∃a v,x=.ref a/\Q1 H a y (some v)/\Q v H):=by
 intro value slice pins s σ H x y v u Q I rx ry h hs;obtain⟨a,d,rfl,g,q⟩:=h;cases rx;exact FA (aI2 I g) slot_dict_getitem.lookup (a00 hu I g ry λw' s3 I3 gK=>⟨d,H,I3,gK,q⟩) hs
end L2
namespace ST
open PySem PyProof.Rows
variable{xs:Array Nat}{i k j n ep:Nat}{t:SetTable}{h h':Heap}{L:Bool}{es:Array (Int×Value)}{x f:Value}{prog:Program}{w:World}{a I b l:Addr}{ks ns:List Int}{A:Around}{E Q:Value->Shared->Prop}{s:Shared}{pl:List Nat}{α:Type}{r:Rd}{items:Array Value}
noncomputable abbrev lA(xs:Array Nat):Prop:=xs.toList.Pairwise (· < ·)
theorem lA.lt(h:lA xs)(gU:i<k)(hk:k<xs.size):xs.getD i 0<xs.getD k 0:=by
 have:=eZ.mp h i k (by simpa using cN gU hk) (by simpa using hk) gU;simp only[Array.getElem_toList] at this;rw[<- eM (h:=cN gU hk),<- eM (h:=hk)];exact this
theorem lA.le(h:lA xs)(gU:i<=k)(hk:k<xs.size):xs.getD i 0<=xs.getD k 0:=by
 rcases Nat.eq_or_lt_of_le gU with e|e
 ·rw[e];exact av _
 ·exact eX (h.lt e hk)
theorem CY{xs:Array Nat}{j:Nat}(h:lA xs):∀(fuel lo hi:Nat),hi-lo<=fuel->lo<=hi->hi<=xs.size->(∀i,i<lo->xs.getD i 0<j)->(∀i,hi<=i->i<xs.size->j<=xs.getD i 0) ->
  SetTable.below.go xs j fuel lo hi<=xs.size/\(∀i,i<SetTable.below.go xs j fuel lo hi->xs.getD i 0<j)/\∀i,SetTable.below.go xs j fuel lo hi<=i->i<xs.size->j<=xs.getD i 0
 |0,lo,hi,h1,h2,h3,h4,h5=>by
  unfold SetTable.below.go;have:lo=hi:=by omega
  subst this;exact⟨h3,h4,h5⟩
 |fuel+1,lo,hi,h1,h2,h3,h4,h5=>by
  unfold SetTable.below.go;split
  ·rename_i hl;have hm:(lo+hi) / 2<xs.size:=by omega
   have em:xs.getD ((lo+hi) / 2) j=xs.getD ((lo+hi) / 2) 0:=by simp[Array.getD,hm]
   dsimp only;rw[em];by_cases hc:xs.getD ((lo+hi) / 2) 0<j
   ·rw[aK hc];exact CY h fuel _ hi () () h3 (λi jP=>dw (h.le () hm) hc) h5
   ·rw[aB hc];exact CY h fuel lo _ () () () h4 λi jP hs=>aF (Nat.le_of_not_lt hc) (h.le jP hs)
  ·have:lo=hi:=by omega
   subst this;exact⟨h3,h4,h5⟩
theorem Q8(j:Nat)(h:lA xs):SetTable.below xs j<=xs.size/\(∀i,i<SetTable.below xs j->xs.getD i 0<j)/\∀i,SetTable.below xs j<=i->i<xs.size->j<=xs.getD i 0 :=
 CY h _ 0 _ () () (av _) (λi hi=>absurd hi (Nat.not_lt_zero _)) λi h1 h2=>absurd h2 ()
theorem below_at(h:lA xs)(hi:i<xs.size):SetTable.below xs (xs.getD i 0)=i:=by
 obtain⟨h1,h2,h3⟩:=Q8 (xs.getD i 0) h;rcases hX (SetTable.below xs (xs.getD i 0)) i with z|z|z
 ·exact absurd (h3 _ (av _) ()) (Nat.not_le_of_lt (h.lt z hi))
 ·exact z
 ·exact absurd (h2 i z) (bJ _)
theorem ZT(h:lA xs)(hi:i<xs.size):SetTable.below xs (xs.getD i 0+1)=i+1:=by
 obtain⟨h1,h2,h3⟩:=Q8 (xs.getD i 0+1) h;rcases hX (SetTable.below xs (xs.getD i 0+1)) (i+1) with z|z|z
 ·have:=h3 i () hi;omega
 ·exact z
 ·have:=h2 (i+1) z;have:=h.lt (fS i) (k:=i+1) ();omega
theorem ZU(h:lA xs):SetTable.below xs 0=0:=by
 obtain⟨_,h2,_⟩:=Q8 0 h;rcases Nat.eq_zero_or_pos (SetTable.below xs 0) with z|z
 ·exact z
 ·exact absurd (h2 0 z) (Nat.not_lt_zero _)
theorem getD_mem(hi:i<xs.size):xs[i]?=some (xs.getD i 0):=by simp[Array.getD,hi]
theorem aN3(h:lA t.place)(hs:t.slot j=.empty):j∉t.place.toList:=by
 intro hm;obtain⟨i,hi,e⟩:=bG.mp hm;have jP:i<t.place.size:=by simpa using hi
 have ej:t.place.getD i 0=j:=by rw[<- eM (h:=jP)];simpa using e
 have hb:=below_at h jP;rw[ej] at hb;unfold SetTable.slot at hs;dsimp only at hs;rw[hb,getD_mem jP,ej] at hs;simp at hs
theorem aO1(h:lA xs)(hj:j∉xs.toList):lA (SetTable.insertAt xs (SetTable.below xs j) j):=by
 obtain⟨h1,h2,h3⟩:=Q8 j h;show(SetTable.insertAt xs (SetTable.below xs j) j).toList.Pairwise (· < ·);rw[SetTable.toList_insertAt,aV];have tk:∀a∈xs.toList.take (SetTable.below xs j),a<j:=λa ha=>by
  obtain⟨i,hi,e⟩:=bG.mp ha;rw[cv] at hi;rw[List.getElem_take] at e;have hs:i<xs.size:=by simp at hi;omega
  have:=h2 i ();rw[<- eM (h:=hs)] at this;simp at e;omega
 have dp:∀b∈xs.toList.drop (SetTable.below xs j),j<b:=λb hb=>by
  obtain⟨i,hi,e⟩:=bG.mp hb;rw[mx] at hi;rw[List.getElem_drop] at e;have hs:SetTable.below xs j+i<xs.size:=by simp at hi;omega
  have:=h3 (SetTable.below xs j+i) () hs;rw[<- eM (h:=hs)] at this;have fA:b≠j:=λz=>hj (by rw[<- z];exact Al hb);simp at e;omega
 refine⟨h.take,dy.mpr ⟨dp,h.drop⟩,λa ha b hb=>?_⟩;have oi:=tk a ha;rcases aH.mp hb with z|z
 ·omega
 ·have:=dp b z;omega
theorem ZC(n:Nat):lA (Array.range n):=by
 show(Array.range n).toList.Pairwise (· < ·);rw[Array.toList_range];exact uM
structure Well(L:Bool)(t:SetTable):Prop where
 xV:lA t.place
 Ct:t.dummies=#[]
 led:t.led=L
theorem a66(hd:t.dummies=#[])(j:Nat):t.slot j≠.dummy:=by
 unfold SetTable.slot;dsimp only;split
 ·intro z;cases z
 ·rw[hd];split
  ·rename_i z;simp[SetTable.has] at z
  ·intro z;cases z
theorem Kg{t:SetTable}(hd:t.dummies=#[]){hashAt:Nat->Int}{h:Int}:∀(fuel:Nat) (p:SetTable.Probe) {j:Nat} {dm:Option Nat},p.dummy=none->SetTable.probe.go t hashAt h fuel p=some (.empty j dm)->t.slot j=.empty/\dm=none
 |0,p,j,dm,_,e=>by simp[SetTable.probe.go] at e
 |fuel+1,p,j,dm,hp,e=>by
  unfold SetTable.probe.go at e;have ad:∀q:SetTable.Probe,q.dummy=none->(t.advance q).dummy=none:=λq hq=>by
   unfold SetTable.advance;split
   ·exact hq
   ·exact hq
  split at e
  ·rename_i hs;cases e;exact⟨hs,hp⟩
  ·rename_i hs;exact absurd hs (a66 hd _)
  ·split at e
   ·cases e
   ·exact Kg hd fuel _ (ad p hp) e
theorem YX(hd:t.dummies=#[]){h:Int}{wd:Bool}(e:t.freeSlot h=some (j,wd)):t.slot j=.empty/\wd=false:=by
 unfold SetTable.freeSlot at e;split at e
 ·rename_i j' dm hp;obtain⟨h1,h2⟩:=Kg hd _ _ rfl hp;subst h2;cases e;exact⟨h1,rfl⟩
 ·cases e
theorem M3(h:Well L t)(n:Nat):Well L (t.standIn n):=⟨ZC n,rfl,h.led⟩
theorem aH9{h:Int}(hw:Well L t):Well L (layNew t es h x).2.1/\(layNew t es h x).2.2.1=false:=by
 unfold layNew;split
 ·rename_i slot wd e;obtain⟨h1,h2⟩:=YX hw.Ct e;refine⟨?_,h2⟩;have hd:SetTable.has t.dummies slot=false:=by rw[hw.Ct];simp[SetTable.has]
  have w2:Well L (t.put slot).1:=⟨aO1 hw.xV (aN3 hw.xV h1),by simp only[SetTable.put,hd];exact hw.Ct,hw.led⟩
  dsimp only;unfold SetTable.orStandIn;split
  ·exact w2
  ·exact M3 w2 _
 ·exact⟨M3 hw _,rfl⟩
theorem Zf{mask finger moves:Nat}{led plain:Bool}{hashes:Array Int}{o:Array Nat}(hl:led=L)(e:SetTable.laid mask finger moves led plain hashes=some (t,o)):Well L t:=by
 unfold SetTable.laid at e;cases ho:SetTable.layClean mask hashes with
 |none=>rw[ho] at e;cases e
 |some owner =>
  rw[ho] at e;simp only[Option.bind_eq_bind,Option.bind_some,Option.pure_def,Option.some.injEq,Prod.mk.injEq] at e;obtain⟨rfl,_⟩:=e;refine⟨?_,rfl,hl⟩;show(List.map _ _).toArray.toList.Pairwise (· < ·);rw[List.toList_toArray];have sub:((List.range (mask+1)).filterMap λj=>(owner.getD j none).map (j,·)).map (·.1) |>.Sublist (List.range (mask+1)):=by
   generalize List.range (mask+1)=l
   induction l with
   |nil=>simp
   |cons a r ih =>
    rw[dO];cases owner.getD a none with
    |none=>exact ih.cons a
    |some k=>exact ih.cons_cons a
  exact List.Pairwise.sublist sub uM
theorem Yr(hw:Well L t):Well L (relayAll t es n).2.1:=by
 unfold relayAll;split
 ·rename_i t' order e;dsimp only;split
  ·exact Zf hw.led e
  ·exact M3 hw _
 ·exact M3 hw _
def toI:Value->Int
 |.int k _=>k
 |_=>0
def Led(w:World):Bool:=!(w.params.followText "set-order")
def A3(prog:Program)(w:World)(h:Heap)(a:Addr)(ks:List Int):Prop :=
 ∃o es ep t,h.get? a=some o/\o.ExactSet/\o.data=.set es ep t/\ElemsOf (intKind prog w) es.toList/\(es.toList.map λe=>toI e.2).Perm ks/\ks.Nodup/\es.size<scanBound/\t.fits es.size=true/\Well (Led w) t
theorem A3.at(x:A3 prog w h a ks)(k:∀o,h.get? a=some o->h'.get? a=some o):A3 prog w h' a ks:=by
 obtain⟨o,es,ep,t,e,r⟩:=x;exact⟨o,es,ep,t,k o e,r⟩
theorem zA{e:Int×Value}{es:List (Int×Value)}(h:ElemsOf (intKind prog w) es)(he:e∈es):∃tk,e.2=.int (toI e.2) tk/\e.1=(intKind prog w).hash (toI e.2):=by
 obtain⟨⟨k,h1,h2⟩,_⟩:=h e he;obtain⟨t,ht⟩:=oS (k:=k) (v:=e.2) h1;refine⟨t,by rw[ht];rfl,?_⟩;rw[h2,ht]
 rfl
theorem Ks{e:Int×Value}{es:List (Int×Value)}(h:ElemsOf (intKind prog w) es)(he:e∈es)(k:Int):(intKind prog w).is k e.2=decide (toI e.2=k):=by
 obtain⟨t,ht,_⟩:=zA h he;show Value.isInt k e.2=_;rw[ht];generalize toI e.2=m;show Value.isInt k (.int m t)=decide (m=k);by_cases z:m=k
 ·subst z;simp[Value.isInt]
 ·rw[aD z];cases hv:Value.isInt k (.int m t) with
  |false=>rfl
  |true =>
   obtain⟨t',e'⟩:=oS hv;cases e';exact absurd rfl z
theorem A3.mem{a:Addr}{es:List (Int×Value)}(h:ElemsOf (intKind prog w) es)(hp:(es.map λe=>toI e.2).Perm ks)(k:Int):(es.findIdx? λe=>(intKind prog w).is k e.2).isSome=decide (k∈ks):=by
 rw[aW,bE,<- hp.mem_iff,aL,fk];constructor
 ·rintro⟨i,hi⟩;obtain⟨h1,h2,_⟩:=lq.mp hi;have hm:=cK h1;rw[Ks h hm] at h2;exact⟨_,hm,bg h2⟩
 ·rintro⟨e,he,rfl⟩;cases hf:es.findIdx? λe'=>(intKind prog w).is (toI e.2) e'.2 with
  |some i=>exact⟨i,rfl⟩
  |none =>
   have:=List.findIdx?_eq_none_iff.mp hf e he;rw[Ks h he] at this;simp at this
def B4(ks:List Int)(k:Int):List Int:=if k∈ks then ks else ks++[k]
theorem a96(ks:List Int)(k:Int):(B4 ks k).length<=ks.length+1:=by unfold B4;split<;>simp
theorem Iu{k:Int}{tk:Tok}{Q:Bool->Shared->Prop}(hS:A3 prog w s.heap a ks)(hr:ks.length+1<scanBound)(h:∀h' b,Heap.SameBut a s.heap h'->A3 prog w h' a (B4 ks k)->Q b { s with heap:=h' }):wpAny (model prog w) A (setAddHashed a (.int k tk) ((intKind prog w).hash k)) Q E s:=by
 obtain⟨o,es,ep,t,ho,hx,hd,og,hp,hn,hb,hf,hw⟩:=hS;have hlen:es.size=ks.length:=by rw[<- hp.length_eq];simp
 have gC:(intKind prog w).is k (.int k tk)=true:=iK _ _ _ _;have gv:∀(b:Bool) (s1:Shared) (Q':Unit->Shared->Prop),Q' Unit.unit s1->wpAny (model prog w) A (match b with|true=>rule "set.scan.the-table-gave-way"|false=>pure Unit.unit) Q' E s1:=λb s1 Q' q=>by
  cases b
  ·exact ai q
  ·exact cV q
 unfold setAddHashed setAddHashedIn;refine bL (aa (cQ ho hd hf ?_));dsimp only;rw[byScan_of rfl hb og,aK rfl];unfold setAddByScan;refine aa (aa (cV (aa (wpAny_setScan_of gC ho hd hf og ?_))));have hm:=A3.mem (a:=a) og hp k;cases fe:es.toList.findIdx? (λe=>(intKind prog w).is k e.2) with
 |some j =>
  rw[fe] at hm;have hk:k∈ks:=by simpa using hm.symm
  refine ai (ai ?_);have e0:s={ s with heap:=s.heap }:=rfl;rw[e0];refine h s.heap _ (Heap.SameBut.refl a s.heap) ?_;unfold B4;rw[aK hk];exact⟨o,es,ep,t,ho,hx,hd,og,hp,hn,hb,hf,hw⟩
 |none =>
  rw[fe] at hm;have hk:k∉ks:=by simpa using hm.symm
  dsimp only;have p1:=layNew_perm t es ((intKind prog w).hash k) (.int k tk);have f1:=layNew_fits t es ((intKind prog w).hash k) (.int k tk);obtain⟨w1,Av⟩:=aH9 (es:=es) (h:=(intKind prog w).hash k) (x:=.int k tk) hw;generalize layNew t es ((intKind prog w).hash k) (.int k tk)=R1 at p1 f1 w1 Av ⊢;obtain⟨hU,t1,wd,Pt⟩:=R1;dsimp only at p1 f1 w1 Av ⊢;subst Av;rw[dG] at p1;have HB:ElemsOf (intKind prog w) hU.toList:=(og.push gC rfl).perm p1;have sz1:hU.size=es.size+1:=by rw[<- bp,p1.length_eq];simp
  have k1:(hU.toList.map λe=>toI e.2).Perm (B4 ks k):=by
   unfold B4;rw[aB hk];refine(p1.map _).trans ?_;rw[da];exact hp.append_right _
  have n1:(B4 ks k).Nodup:=by
   unfold B4;rw[aB hk,cY];exact⟨hn,by simp,λx hx y hy=>by simp at hy;subst hy;exact λz=>hk (z▸hx)⟩
  refine aa (gv _ _ _ ?_);have fin:∀ (t2:SetTable),t2.fits hU.size=true->Well (Led w) t2->wpAny (model prog w) A (do
    storeSet a hU t2
    if(!false&&t2.tooFull)=true then do
      (match(relayAll t2 hU (SetTable.grown hU.size)).2.2 with|true=>rule "set.scan.the-table-gave-way"|false=>pure Unit.unit)
      storeSet a (relayAll t2 hU (SetTable.grown hU.size)).1 (relayAll t2 hU (SetTable.grown hU.size)).2.1
      pure (some true)
     else pure (some true)) (λr s'=>wpAny (model prog w) A (match r with | some added=>pure added | none=>setAddHashedIn a (.int k tk) ((intKind prog w).hash k) 99999) Q E s') E s:=λt2 f2 w2=>by
   have g1:(s.heap.update a (Obj.putSet hU t2)).get? a=some { o with data:=.set hU (ep+1) t2 }:=by
    have:=bx (Obj.putSet hU t2) ho (by rw[lT hU t2 hd];rfl);rw[lT hU t2 hd] at this;exact this
   refine aa (wpAny_storeSet_of ho hd ?_ (fits_of_scanBound ()));have FX:=bX s.heap a (Obj.putSet hU t2);split
   ·have p2:=relayAll_perm t2 hU (SetTable.grown hU.size);have f3:=relayAll_fits t2 hU (SetTable.grown hU.size);have w3:=Yr (es:=hU) (n:=SetTable.grown hU.size) w2;generalize relayAll t2 hU (SetTable.grown hU.size)=R2 at p2 f3 w3 ⊢;obtain⟨oq,t3,gv2⟩:=R2;dsimp only at p2 f3 w3 ⊢;have sz2:oq.size=hU.size:=by rw[<- bp,p2.length_eq,bp]
    refine aa (gv _ _ _ ?_);refine aa (wpAny_storeSet_of g1 rfl ?_ (fits_of_scanBound ()));refine ai (ai (h _ _ (FX.trans (bX _ a _)) ?_));have g2:((s.heap.update a (Obj.putSet hU t2)).update a (Obj.putSet oq t3)).get? a=some { o with data:=.set oq (ep+1+1) t3 }:=by
     have:=bx (Obj.putSet oq t3) g1 (by rw[lT oq t3 rfl];rfl);rw[lT oq t3 rfl] at this;exact this
    exact⟨_,oq,_,t3,g2,hx,rfl,HB.perm p2,(p2.map _).trans k1,n1,by omega,f3,w3⟩
   ·exact ai (ai (h _ _ FX ⟨_,hU,_,t2,g1,hx,rfl,HB,k1,n1,by omega,f1 |> λ_=>f2,w2⟩))
  split
  ·refine aa (eP (hashByValue_scannable 8 rfl) ?_);exact fin _ f1 w1
  ·refine aa (ai ?_);exact fin _ f1 w1
theorem aE8:entryFor table "set.__iter__"=some Builtin.«frozenset.__iter__» :=
 entryFor_alias (id':="frozenset.__iter__") (by kernel_rfl) rfl (by decide +kernel) (by kernel_rfl)
theorem C4:Slot "set_iterator" "__next__" "set_iterator.__next__" :=
 .of (owner:="set_iterator") (n:="__next__") (by rw[gX,eV];kernel_rfl) (by decide +kernel) (by decide +kernel) (by decide +kernel)
  (by first|exact .inl (by decide +kernel)|exact .inr (by decide +kernel)) (by rw[eF];kernel_rfl)
theorem J':entryFor table "set_iterator.__next__"=some Builtin.«set_iterator.__next__»:=entryFor_of_tree (by kernel_rfl)
theorem Kk(a:Value):argsOk "set_iterator.__next__" ⟨[a],[]⟩:=by
 unfold argsOk
 kernel_rfl
theorem Kn:Slot "set_iterator" "__iter__" "set_iterator.__iter__" :=
 .of (owner:="set_iterator") (n:="__iter__") (by rw[gX,eV];kernel_rfl) (by decide +kernel) (by decide +kernel) (by decide +kernel)
  (by first|exact .inl (by decide +kernel)|exact .inr (by decide +kernel)) (by rw[eF];kernel_rfl)
theorem aI1:entryFor table "set_iterator.__iter__"=some Builtin.«dict_keyiterator.__iter__» :=
 entryFor_alias (id':="dict_keyiterator.__iter__") (by kernel_rfl) rfl (by decide +kernel) (by kernel_rfl)
theorem aG6(a:Value):argsOk "set_iterator.__iter__" ⟨[a],[]⟩:=by
 unfold argsOk
 kernel_rfl
inductive Rd|text|plain|drawn
structure Lies(h:Heap)(a:Addr)(es:Array (Int×Value))(ep:Nat)(t:SetTable):Prop where
 at_:∃o,h.get? a=some o/\o.cls=.type "set"/\o.data=.set es ep t
 fit:t.fits es.size=true
theorem Lies.at(x:Lies h a es ep t)(k:∀o,h.get? a=some o->h'.get? a=some o):Lies h' a es ep t :=
 ⟨let ⟨o,e,r⟩:=x.at_;⟨o,k o e,r⟩,x.fit⟩
def E4(h:Heap)(I a:Addr)(f:Value)(i n ep:Nat):Prop:=∃o,h.get? I=some o/\o.cls=.type "set_iterator"/\o.data=.fields #[f,rawInt i,.ref a,rawInt n,rawInt ep]
theorem E4.at(x:E4 h I a f i n ep)(k:∀o,h.get? I=some o->h'.get? I=some o):E4 h' I a f i n ep:=let ⟨o,e,r⟩:=x;⟨o,k o e,r⟩
theorem E4.ty(x:E4 s.heap I a f i n ep):s.TypeIs (.ref I) "set_iterator":=let ⟨o,e,c,_⟩:=x;⟨o,e,c⟩
def wY(w:World)(a:Addr)(es:Array (Int×Value))(ep:Nat)(pl:List Nat):Rd->List Value
 |.text=>(pickOrder (w.params.setOrder a ep) es).toList.map (·.2)
 |.plain=>es.toList.map (·.2)
 |.drawn=>pl.map λj=>(es.getD j (0,.none)).2
def slotAt(t:SetTable):Nat->Nat
 |0=>0
 |i+1=>t.place.getD i 0+1
def N9(h:Heap)(t:SetTable)(b:Addr)(pl:List Nat)(i:Nat)(f:Value):Rd->Prop
 |.text=>∃k:Nat,f=rawInt k
 |.plain=>f=rawInt (slotAt t i)
 |.drawn=>f=.ref b/\∃o e,h.get? b=some o/\o.cls=.type "tuple"/\o.data=.seq (pl.map λj=>rawInt (j:Nat)).toArray e
def uq(w:World)(es:Array (Int×Value))(t:SetTable)(pl:List Nat):Rd->Prop
 |.text=>w.params.followText "set-order"=true
 |.plain=>w.params.followText "set-order"=false/\(t.plain=true\/es.size<=1)/\Well true t
 |.drawn=>w.params.followText "set-order"=false/\pl.Perm (List.range es.size)
theorem xb{Q:Bool->Shared->Prop}(h:Q (w.params.followText "set-order") s):wpAny (model prog w) A setsByText Q E s:=by
 unfold setsByText;exact aa (qO (ai h))
theorem Jy(hL:Lies s.heap a es ep t)(ht:w.params.followText "set-order"=true){sl g:Nat}{Q:Option (Value×Nat)->Shared->Prop}(h:Q (((pickOrder (w.params.setOrder a ep) es)[g]?).map λe=>(e.2,sl)) s) :
  wpAny (model prog w) A (setNext a sl g ep) Q E s:=by
 obtain⟨o,ho,_,hd⟩:=hL.at_;unfold setNext;refine aa (cQ ho hd hL.fit ?_);refine aa (xb ?_);rw[ht,aK rfl,aB (by simp)];unfold setWalk;refine aa (aa (cQ ho hd hL.fit ?_));refine aa (xb ?_);rw[ht,aK rfl];exact aa (qO (ai (ai h)))
theorem JT(hL:Lies s.heap a es ep t)(ht:w.params.followText "set-order"=false)(hp:t.plain=true\/es.size<=1)(hl:t.led=true){sl g:Nat}{Q:Option (Value×Nat)->Shared->Prop}(h:Q (match es[SetTable.below t.place sl]?,t.place[SetTable.below t.place sl]? with|some (_,x),some j=>some (x,j+1)|_,_=>none) s):wpAny (model prog w) A (setNext a sl g ep) Q E s:=by
 obtain⟨o,ho,_,hd⟩:=hL.at_;unfold setNext;refine aa (cQ ho hd hL.fit ?_);refine aa (xb ?_);rw[ht,aB ∅];show wpAny _ _ (if(!t.plain&&decide (es.size>1))=true then _ else _) _ _ _;rw[aB (by rcases hp with e|e<;>simp[e])];refine aa (eP (a:=Unit.unit) ?_ (ai h));show((if(!t.led&&!es.isEmpty)=true then unsupported "set:maker-not-led" else pure Unit.unit):Sem Unit)=pure Unit.unit;rw[hl]
 rfl
theorem aP2(hL:Lies s.heap a es ep t)(hj:j<es.size)(h:Q (es.getD j (0,.none)).2 s):wpAny (model prog w) A (setNextDrawn a j ep) Q E s:=by
 obtain⟨o,ho,_,hd⟩:=hL.at_;unfold setNextDrawn;refine aa (cQ ho hd hL.fit ?_);dsimp only;rw[aB (by simp)];have e:es[j]?=some (es.getD j (0,.none)):=by simp[Array.getD,hj]
 rw[e];exact ai h
theorem Mg(hL:Lies s.heap a es ep t):t.place.size=es.size:=by
 have:=hL.fit;unfold SetTable.fits at this;simp at this;exact this.1
theorem JL(hw:lA t.place)(hi:i<=t.place.size):SetTable.below t.place (slotAt t i)=i:=by
 cases i with
 |zero=>exact ZU hw
 |succ i=>exact ZT hw ()
theorem entries{Q:Array (Int×Value)->Shared->Prop}(hL:Lies s.heap a es ep t)(h:Q es s):wpAny (model prog w) A (setEntries a) Q E s:=by
 obtain⟨o,ho,_,hd⟩:=hL.at_;unfold setEntries;exact aa (cQ ho hd hL.fit (ai h))
theorem Vp{f':Value}(hi:E4 h I a f i n ep)(hx:x=rawInt ((i:Int)+1)):E4 ((h.update I (Obj.mapFields (·.setIfInBounds 0 f'))).update I (Obj.mapFields (·.setIfInBounds 1 x))) I a f' (i+1) n ep:=by
 obtain⟨o,ho,hc,hd⟩:=hi;have h1:=bx (Obj.mapFields (·.setIfInBounds 0 f')) ho (eW (cz hd _));have d1:(Obj.mapFields (·.setIfInBounds 0 f') o).data=.fields #[f',rawInt i,.ref a,rawInt n,rawInt ep]:=by rw[cz hd];simp
 have h2:=bx (Obj.mapFields (·.setIfInBounds 1 x)) h1 (eW (cz d1 _));refine⟨_,h2,(oT ..).trans ((oT ..).trans hc),?_⟩;rw[cz d1];subst hx;simp[rawInt]
theorem Vo(hi:E4 h I a f i n ep)(hx:x=rawInt ((i:Int)+1)):E4 (h.update I (Obj.mapFields (·.setIfInBounds 1 x))) I a f (i+1) n ep:=by
 obtain⟨o,ho,hc,hd⟩:=hi;have h2:=bx (Obj.mapFields (·.setIfInBounds 1 x)) ho (eW (cz hd _));refine⟨_,h2,(oT ..).trans hc,?_⟩;rw[cz hd];subst hx;simp[rawInt]
theorem Il{f':Value}{m:Sem α}{Q':α->Shared->Prop}(hi:E4 s.heap I a f i n ep)(hx:x=rawInt ((i:Int)+1))(h:∀h',E4 h' I a f' (i+1) n ep->Heap.SameBut I s.heap h'->wpAny (model prog w) A m Q' E { s with heap:=h' }) :
  wpAny (model prog w) A (do setField (.ref I) 0 f';setField (.ref I) 1 x;m) Q' E s:=by
 obtain⟨o,ho,hc,hd⟩:=id hi;refine aa (fj ho hd (by simp) ?_);have h1:=bx (Obj.mapFields (·.setIfInBounds 0 f')) ho (eW (cz hd _));have d1:(Obj.mapFields (·.setIfInBounds 0 f') o).data=.fields #[f',rawInt i,.ref a,rawInt n,rawInt ep]:=by rw[cz hd];simp
 refine aa (fj (s:={ s with heap:=_ }) h1 d1 (by simp) ?_);exact h _ (Vp hi hx) ((bX ..).trans (bX ..))
theorem VX{m:Sem α}{Q':α->Shared->Prop}(hi:E4 s.heap I a f i n ep)(hx:x=rawInt ((i:Int)+1))(h:∀h',E4 h' I a f (i+1) n ep->Heap.SameBut I s.heap h'->wpAny (model prog w) A m Q' E { s with heap:=h' }) :
  wpAny (model prog w) A (do setField (.ref I) 1 x;m) Q' E s:=by
 obtain⟨o,ho,hc,hd⟩:=id hi;refine aa (fj ho hd (by simp) ?_);exact h _ (Vo hi hx) (bX ..)
theorem Dw(next:Nat->Nat)(xs:Array α):(pickOrder next xs).toList.Perm xs.toList:=by
 have go:∀(fuel k:Nat) (left:List α) (out:Array α),fuel=left.length->(pickOrder.go next fuel k left out).toList.Perm (out.toList++left):=by
  intro fuel
  induction fuel with
  |zero =>
   intro k left out e;have:left=[]:=dY e.symm;subst this;simp[pickOrder.go]
  |succ n ih =>
   intro k left out e;have dS:next k % left.length<left.length:=MH _ ()
   unfold pickOrder.go;rw[ao dS];refine(ih _ _ _ (by rw[gM dS];omega)).trans ?_;rw[dG,bI];refine eK _ ?_;have:left.Perm (left[next k % left.length]::left.eraseIdx (next k % left.length)):=by
    rw[lU]
    conv=>lhs;rw[<- bU (next k % left.length) left,fc dS]
    exact List.perm_middle
   exact this.symm
 have:=go xs.size 0 xs.toList #[] (by simp);simpa[pickOrder] using this
theorem next_item{Q:Option Value->Shared->Prop}(hL:Lies s.heap a es ep t)(hr:uq w es t pl r)(hi:E4 s.heap I a f i es.size ep)(hf:N9 s.heap t b pl i f r)(fA:b≠I)(dS:i<es.size)(h:∀v h' f',(wY w a es ep pl r)[i]?=some v->E4 h' I a f' (i+1) es.size ep->N9 h' t b pl (i+1) f' r->Heap.SameBut I s.heap h'->Q (some v) { s with heap:=h' }):wpAny (model prog w) A (pyNext (.ref I)) Q E s:=by
 obtain⟨o,ho,hc,hd⟩:=id hi;unfold pyNext;refine aa (mV (eE (name:=Str.ofString "__next__") hi.ty C4 (cC C4 hi.ty J' ?_ (Kk _))));unfold Builtin.«set_iterator.__next__»;refine aa (ai ?_);refine aa (wpAny_fieldsOf ho hd ?_);dsimp only[rawInt];refine aa (entries hL ?_);rw[aB (by simp)];rw[cZ,cZ];cases r with
 |text =>
  obtain⟨k,rfl⟩:=hf;dsimp only[rawInt];refine aa (Jy hL hr ?_);have hl:i<(pickOrder (w.params.setOrder a ep) es).size:=by
   have:=(Dw (w.params.setOrder a ep) es).length_eq;simp at this;omega
  rw[pW hl];refine Il hi rfl λh' h1 h2=>ai ⟨_,rfl,ai (h _ _ _ ?_ h1 ⟨_,rfl⟩ h2)⟩;show((pickOrder (w.params.setOrder a ep) es).toList.map (·.2))[i]?=_;simp[hl]
 |plain =>
  obtain⟨r1,r2,r3⟩:=hr;have hs:=Mg hL;obtain rfl:=hf;dsimp only[rawInt];rw[cZ];refine aa (JT hL r1 r2 r3.led ?_);rw[JL r3.xV (),pW dS,getD_mem ()];refine Il hi rfl λh' h1 h2=>ai ⟨_,rfl,ai (h _ _ _ ?_ h1 rfl h2)⟩;show(es.toList.map (·.2))[i]?=_;simp[dS]
 |drawn =>
  obtain⟨r1,r2⟩:=hr;obtain⟨rfl,ob,e,hb,Hh,yw⟩:=hf;have iT:i<pl.length:=by rw[r2.length_eq];simpa using dS
  dsimp only;refine aa (wpAny_seqItems hb yw ?_);have hj:pl[i]<es.size:=by
   have:=r2.mem_iff.mp (cK iT);simpa using this
  have e1:(pl.map λj=>rawInt (j:Nat)).toArray[i]?=some (rawInt (pl[i]:Nat)):=by simp[iT]
  dsimp only;rw[e1];dsimp only[rawInt];rw[cZ];refine aa (aP2 hL hj ?_);refine VX hi rfl λh' h1 h2=>ai ⟨_,rfl,ai (h _ _ _ ?_ h1 ⟨rfl,ob,e,by rw[h2.2 b fA];exact hb,Hh,yw⟩ h2)⟩;show(pl.map λj=>(es.getD j (0,.none)).2)[i]?=_;simp[iT]
theorem Dy{Q:Option Value->Shared->Prop}{h0:Heap}(hh:A.handled=none)(Pj:Heap.ExtBut I h0 s.heap)(h:∀h',Heap.ExtBut I h0 h'->Q none { s with heap:=h' }) :
  wpAny (model prog w) A.in1 (newExc (.type "StopIteration") [] >>= λe=>(raiseNew e:Sem Fin)) (λfin s'=>∃v,fin=Fin.done (Flow.ret v)/\wpAny (model prog w) A (pure (some v)) Q E s')
   (λe s'=>wpAny (model prog w) A (do
     let x <- isInstance e (Value.type "StopIteration")
     if x=true then pure none else throw e) Q E s') s:=by
 refine aa ?_;simp only[newExc,newTuple];refine aa (cI ?_ (by size_fits));refine aa (m:=firstArgMember _ _) (eP (a:=Value.none) (by first|rfl|(simp only[firstArgMember];rfl)) ?_);refine cI ?_ (by size_fits);simp only[raiseNew];refine aa (wpAny_handled ?_);rw[show A.in1.handled=none from hh];refine aa (ai (wpAny_throw ?_));refine aa (ft (T:="StopIteration") (b:=true) ⟨_,aG _ rfl,rfl⟩ isSubtype_stop ?_);exact ai (h _ ((Pj.push _).push _))
theorem next_end{Q:Option Value->Shared->Prop}(hh:A.handled=none)(hL:Lies s.heap a es ep t)(hr:uq w es t pl r)(hi:E4 s.heap I a f es.size es.size ep)(hf:N9 s.heap t b pl es.size f r)(fA:b≠I)(h:∀h',Heap.ExtBut I s.heap h'->Q none { s with heap:=h' }):wpAny (model prog w) A (pyNext (.ref I)) Q E s:=by
 obtain⟨o,ho,hc,hd⟩:=id hi;unfold pyNext;refine aa (mV (eE (name:=Str.ofString "__next__") hi.ty C4 (cC C4 hi.ty J' ?_ (Kk _))));unfold Builtin.«set_iterator.__next__»;refine aa (ai ?_);refine aa (wpAny_fieldsOf ho hd ?_);dsimp only[rawInt];refine aa (entries hL ?_);rw[aB (by simp)];rw[cZ,cZ];cases r with
 |text =>
  obtain⟨k,rfl⟩:=hf;dsimp only[rawInt];refine aa (Jy hL hr ?_);have hl:(pickOrder (w.params.setOrder a ep) es).size<=es.size:=by
   have:=(Dw (w.params.setOrder a ep) es).length_eq;simp at this;omega
  rw[uP hl];refine aa (fj ho hd (by simp) ?_);exact Dy (s:={ s with heap:=_ }) hh (bX ..).extBut h
 |plain =>
  obtain⟨r1,r2,r3⟩:=hr;have hs:=Mg hL;obtain rfl:=hf;dsimp only[rawInt];rw[cZ];refine aa (JT hL r1 r2 r3.led ?_);rw[JL r3.xV (),uP (av _)];refine aa (fj ho hd (by simp) ?_);exact Dy (s:={ s with heap:=_ }) hh (bX ..).extBut h
 |drawn =>
  obtain⟨r1,r2⟩:=hr;obtain⟨rfl,ob,e,hb,Hh,yw⟩:=hf;have iT:pl.length=es.size:=by rw[r2.length_eq];simp
  dsimp only;refine aa (wpAny_seqItems hb yw ?_);have e1:(pl.map λj=>rawInt (j:Nat)).toArray[es.size]?=none:=by simp[iT]
  dsimp only;rw[e1];dsimp only[rawInt];refine aa (fj ho hd (by simp) ?_);have h1:=bx (Obj.mapFields (·.setIfInBounds 0 (Value.int 0 0))) ho (eW (cz hd _));refine aa (fj (s:={ s with heap:=_ }) h1 (cz hd _) (by simp) ?_);exact Dy (s:={ s with heap:=_ }) hh ((bX ..).trans (bX ..)).extBut h
theorem Zt{l:List α}(dS:k<l.length):(l[k]::l.eraseIdx k).Perm l:=by
 rw[lU]
 conv=>rhs;rw[<- bU k l,fc dS]
 exact List.perm_middle.symm
theorem JO{α:Type}:∀(n:Nat) (xs:List α) (s:Shared) (Q:List α->Shared->Prop),n=xs.length->(∀ys d,ys.Perm xs->Q ys { s with drawn:=d })->wpAny (model prog w) A (drawOrder n xs) Q E s
 |0,xs,s,Q,e,h=>by
  have:xs=[]:=dY e.symm;subst this;exact ai (h [] s.drawn (gO _))
 |n+1,[],s,Q,e,h=>by simp at e
 |n+1,x::xs,s,Q,e,h=>by
  unfold drawOrder;refine aa ?_;intro Γ p hΓ;refine⟨by simp,?_⟩;generalize (model prog w).w.draws .order (s.drawn.get .order)=k;have dS:k % (x::xs).length<(x::xs).length:=MH _ (by simp);have go:wpAny (model prog w) A (match (x :: xs)[k % (x :: xs).length]? with
   |some y=>do
    let ys <- drawOrder n ((x::xs).eraseIdx (k % (x::xs).length))
    pure (y::ys)
   | none=>unsupported "internal:drawOrder") Q E { s with drawn:=s.drawn.bump .order }:=by
   rw[ao dS];refine aa (JO n _ _ _ (by rw[gM dS];simp at e ⊢;omega) λys d hp=>ai ?_);exact h _ d ((List.Perm.cons _ hp).trans (Zt dS))
  exact go
theorem LU(hr:uq w es t pl r):(wY w a es ep pl r).Perm (es.toList.map (·.2)):=by
 cases r with
 |text=>exact(Dw _ es).map _
 |plain=>exact gO _
 |drawn =>
  refine(hr.2.map _).trans ?_;have:(List.range es.size).map (λj=>(es.getD j (0,.none)).2)=es.toList.map (·.2):=by
   apply List.ext_getElem
   ·simp
   ·intro i h1 h2;simp at h1;simp[Array.getD,h1]
  rw[this]
theorem Lies.ty(hL:Lies s.heap a es ep t):s.TypeIs (.ref a) "set":=let ⟨o,e,c,_⟩:=hL.at_;⟨o,e,c⟩
theorem a30(hL:Lies s.heap a es ep t)(hw:Well (Led w) t)(hz:es.size<=10000)(h:∀r pl b f I h' d',uq w es t pl r->E4 h' I a f 0 es.size ep->N9 h' t b pl 0 f r->b≠I->(b=a\/s.heap.objs.size<=b)->(∀c o,s.heap.get? c=some o->h'.get? c=some o)->s.heap.objs.size<=I->s.heap.objs.size<=h'.objs.size->Q (.ref I) { s with heap:=h',drawn:=d' }) :
  wpAny (model prog w) A (pyIter (.ref a)) Q E s:=by
 obtain⟨o,ho,Bj,hd⟩:=hL.at_;refine wpAny_pyIter_slot hL.ty F.slot_set_iter (cC F.slot_set_iter hL.ty aE8 ?_ (F.args_set_iter_1 _));unfold Builtin.«frozenset.__iter__»;refine aa (ai ?_);unfold Builtin.Frozenset.sizeOf;refine aa (aa (entries hL (ai ?_)));unfold setDrawn;refine aa (aa (cQ ho hd hL.fit ?_));refine aa (xb (ai ?_));have dS:=ay ho;have fin:∀(r:Rd) (f:Value) (b:Addr) (pl:List Nat) (h1:Heap) (d1:Drawn),uq w es t pl r->(∀h',(∀c o,h1.get? c=some o->h'.get? c=some o)->N9 h' t b pl 0 f r)->b<h1.objs.size->(b=a\/s.heap.objs.size<=b)->(∀c o,s.heap.get? c=some o->h1.get? c=some o)->s.heap.objs.size<=h1.objs.size ->
   wpAny (model prog w) A.in1 (do
    let e <- setEpoch a
    ret (<- newFields "set_iterator" [f,rawInt 0,.ref a,rawInt es.size,rawInt e])) (λfin s'=>∃ v,fin=Fin.done (Flow.ret v)/\∃ T' r,s'.TypeIs v T'/\typeLookup (.type T') "__next__"=pure (some r)/\Q v s') E { s with heap:=h1,drawn:=d1 }:=λr f b pl h1 d1 hr hf hb tX he hsz=>by
  have ub:Lies h1 a es ep t:=hL.at λo e=>he a o e;obtain⟨o1,qf,_,Hg⟩:=ub.at_;unfold setEpoch;refine aa (aa (cQ (s:={ s with heap:=h1,drawn:=d1 }) qf Hg ub.fit (ai ?_)));refine aa (cI (ai ⟨_,rfl,"set_iterator",_,⟨_,aG _ rfl,rfl⟩,C4.lookup,?_⟩));refine h r pl b f h1.objs.size _ d1 hr ⟨_,aG _ rfl,rfl,rfl⟩ (hf _ λc o e=>aj _ e) (aI hb) tX (λc o e=>aj _ (he c o e)) hsz (by rw[jW];exact Nat.le_succ_of_le hsz)
 have e0:s={ s with heap:=s.heap,drawn:=s.drawn }:=rfl;cases hT:w.params.followText "set-order" with
 |true =>
  dsimp only[Bool.not_true,Bool.false_and];rw[aB (by simp)];refine aa (ai ?_);rw[e0];exact fin .text (rawInt 0) a [] s.heap s.drawn hT (λh' _=>⟨0,rfl⟩) dS (.inl rfl) (λc o e=>e) (av _)
 |false =>
  show wpAny _ _ (if(!false&&(!t.plain&&decide (es.size>1)))=true then _ else _ ) _ _ _;by_cases hp:t.plain=true\/es.size<=1
  ·rw[aB (by rcases hp with e|e<;>simp[e])];refine aa (ai ?_);rw[e0];refine fin .plain (rawInt 0) a [] s.heap s.drawn ⟨hT,hp,?_⟩ (λh' _=>rfl) dS (.inl rfl) (λc o e=>e) (av _);have:Led w=true:=by unfold Led;rw[hT];rfl
   rw[<- this];exact hw
  ·have h1:t.plain=false:=by cases hq:t.plain with|true=>exact absurd (.inl hq) hp|false=>rfl
   have h2:¬es.size<=1:=λz=>hp (.inr z);rw[aK (by simp[h1];omega)];refine aa (JO _ _ _ _ (lG).symm λys d hy=>?_);have hl:ys.length=es.size:=by rw[hy.length_eq];simp
   refine aa (cI ?_ (by show(List.map _ ys).toArray.size<=sizeLine;rw[aE,ag,hl];exact aF hz ∅));refine fin .drawn (.ref s.heap.objs.size) s.heap.objs.size ys _ d ⟨hT,hy⟩ (λh' hk=>⟨rfl,_,_,hk _ _ (aG _ rfl),rfl,rfl⟩) (by rw[jW];exact fS _) (.inr (av _)) (λc o e=>aj _ e) (by rw[jW];exact cB _)
theorem ZG(hh:A.handled=none)(hr:uq w es t pl r)(fA:b≠I)(GS:a≠I) :
  Walks prog w A I [I,a,b] [I] es.size (λi v=>(wY w a es ep pl r)[i]?=some v) (λi h=>Lies h a es ep t/\∃f,E4 h I a f i es.size ep/\N9 h t b pl i f r) where
 sub:=λc hc=>by simp at hc;simp[hc]
 frame:=λi h h' st hk=>by
  obtain⟨hL,f,hi,hf⟩:=st;refine⟨hL.at λo e=>hk a (by simp) o e,f,hi.at λo e=>hk I (by simp) o e,?_⟩;cases r with
  |text=>exact hf
  |plain=>exact hf
  |drawn =>
   obtain⟨e1,o,e,h1,h2⟩:=hf;exact⟨e1,o,e,hk b (by simp) o h1,h2⟩
 item:=λi s Q E hi st hQ=>by
  obtain⟨hL,f,hI,hf⟩:=st;exact next_item hL hr hI hf fA hi λv h' f' hv h1 h2 h3=>hQ v h' s.toks hv ⟨hL.at λo e=>by rw[h3.2 a GS];exact e,f',h1,h2⟩ λc o hc e=>h3.extBut c o (λz=>hc (by simp[z])) e
 done:=λs Q E st hQ=>by
  obtain⟨hL,f,hI,hf⟩:=st;exact next_end hh hL hr hI hf fA λh' he=>hQ h' s.toks λc o hc e=>he c o (λz=>hc (by simp[z])) e
 self:=λi s Q E st hQ=>by
  obtain⟨hL,f,hI,hf⟩:=st;refine wpAny_pyIter_slot hI.ty Kn (cC Kn hI.ty aI1 ?_ (aG6 _));exact aa (ai (ai ⟨_,rfl,"set_iterator",_,hI.ty,C4.lookup,hQ⟩))
theorem aD4:typeLookup (.type "set") "__len__"=pure (some (.builtin "set.__len__")):=by rw[gX,eV];kernel_rfl
theorem aH4(hh:A.handled=none)(hL:Lies s.heap a es ep t)(hw:Well (Led w) t)(hz:es.size<=10000){Q:List Value->Shared->Prop}(h:∀(vs:List Value) h' d' kJ,vs.Perm (es.toList.map (·.2))->(∀c o,s.heap.get? c=some o->h'.get? c=some o)->s.heap.objs.size<=h'.objs.size->s.toks<=kJ->Q vs { s with heap:=h',drawn:=d',toks:=kJ }) :
  wpAny (model prog w) A (collect (.ref a)) Q E s:=by
 have dS:a<s.heap.objs.size:=let ⟨o,ho,_⟩:=hL.at_;ay ho
 unfold collect;refine aa (wpAny_runValue (dN F.entry_proto_collect ?_));rw[df F.plain_proto_collect _];show wpAny _ A.in1 (newList [] >>= λl=>again (.builtin "list.__iadd__" ⟨[l,.ref a],[]⟩)) _ _ s;refine aa (cI ?_);refine ai ⟨gJ F.plain_list_iadd _,dN F.entry_list_iadd ?_⟩;rw[df F.plain_list_iadd _];have ub:Lies (s.heap.push { cls:=.type "list",data:=.seq ([]:List Value).toArray }) a es ep t:=hL.at λo e=>aj _ e;have OJ:(s.heap.push { cls:=.type "list",data:=.seq ([]:List Value).toArray }).get? s.heap.objs.size=some { cls:=.type "list",data:=.seq ([]:List Value).toArray }:=aG _ rfl;have fA:s.heap.objs.size≠a:=bV dS;have h1:Builtin.List.listSameRef (.ref s.heap.objs.size) (.ref a)=false:=by simp[Builtin.List.listSameRef,fA]
 show wpAny _ A.in1 (Builtin.List.listExtendWith (.ref s.heap.objs.size) (.ref a) (.ref s.heap.objs.size)) _ _ _;unfold Builtin.List.listExtendWith;refine aa (dB (Lies.ty (s:={ s with heap:=_ }) ub) ?_);rw[aB (by rw[h1];decide)];refine aa (a30 (s:={ s with heap:=_ }) ub hw hz λr pl b f I h2 d2 hr hI hf hb Oy he BH h2z=>?_);have sf:Lies h2 a es ep t:=ub.at λo e=>he a o e;have ql:=he _ _ OJ;refine aa (bL ?_);unfold Builtin.List.listLengthHint;refine aa (wpAny_specialOf (Lies.ty (s:={ s with heap:=h2,drawn:=d2 }) sf) aD4 ?_);generalize GX:("set.__len__":String)=NI;dsimp only;rw[show splitId NI=some ("set","__len__") from by subst GX;decide +kernel];dsimp only;refine aa (ft (b:=true) (Lies.ty (s:={ s with heap:=h2,drawn:=d2 }) sf) (by rw[eF];kernel_rfl) ?_);rw[aB ∅];subst GX;rw[aK (by decide +kernel)];refine aa (dB (Lies.ty (s:={ s with heap:=h2,drawn:=d2 }) sf) ?_);refine ai ?_;rw[aK (by decide +kernel)];refine aa (cV ?_);refine aa ?_;show wpAny _ A.in1 (updateSeq s.heap.objs.size (·.push .none) >>= λ_=>updateSeq s.heap.objs.size (·.pop)) _ _ _;refine aa (wpAny_updateSeq (s:={ s with heap:=h2,drawn:=d2 }) ql rfl ?_);have Hm:=bx (Obj.mapSeq (·.push Value.none)) ql rfl;refine wpAny_updateSeq (s:={ s with heap:=_,drawn:=d2 }) Hm rfl ?_;have OI:=bx (Obj.mapSeq (·.pop)) Hm rfl;have xX:∀c o,c≠s.heap.objs.size->h2.get? c=some o->((h2.update s.heap.objs.size (Obj.mapSeq (·.push Value.none))).update s.heap.objs.size (Obj.mapSeq (·.pop))).get? c=some o :=
  λc o hc e=>(eQ _ _ (cu hc)).trans ((eQ _ _ (cu hc)).trans e)
 have tO:s.heap.objs.size<(s.heap.push { cls:=.type "list",data:=.seq ([]:List Value).toArray }).objs.size:=by rw[jW];exact fS _
 have hSI:I≠s.heap.objs.size:=bV (az tO BH);have hSb:b≠s.heap.objs.size:=by
  rcases Oy with z|z
  ·rw[z];exact cu fA
  ·exact bV (az tO z)
 have W:=(ZG (prog:=prog) (w:=w) (A:=A.in1) (a:=a) (b:=b) (I:=I) (es:=es) (ep:=ep) (t:=t) (pl:=pl) hh hr hb (aI (az (cN dS tO) BH))).toS;have st:Lies h2 a es ep t/\∃f,E4 h2 I a f 0 es.size ep/\N9 h2 t b pl 0 f r:=⟨sf,f,hI,hf⟩
 have gT:=W.frame 0 ({ s with heap:=h2,drawn:=d2 }:Shared) _ s.toks st (av _) λc hc o e=>xX c o (λz=>by simp at hc;rcases hc with y|y|y<;>simp_all) e;refine ai ⟨gJ F.plain_extend_loop _,codeAny_extend_loopS W (aF hz ∅) _ (λz=>by simp at z;rcases z with y|y|y<;>simp_all) _ es.size 0 _ _ _ rfl (cJ _) gT OI (ItemsOf.nil _) λs' xk c' hm oO lR=>?_⟩;show wpAny _ A (load s.heap.objs.size >>= _) _ _ s';refine aa (wpAny_load oO ?_);refine ai ?_;have eS:s'={ s with heap:=s'.heap,drawn:=d2,toks:=s'.toks }:=by
  obtain⟨gn,g',d',kJ,rE⟩:=s';have m1:g'=s.gens:=hm.gens;have m2:d'=d2:=hm.drawn;have m3:rE=s.os:=hm.os;subst m1;subst m2;subst m3
  rfl
 have eo:xk.toList=wY w a es ep pl r:=by
  have l1:(wY w a es ep pl r).length=es.size:=by rw[(LU hr).length_eq];simp
  apply List.ext_getElem
  ·rw[l1];simpa using lR.1
  ·intro i h1 h2;have:=lR.2 i xk.toList[i] (by simp at h1 ⊢);dsimp only at this;rw[ao h2] at this;exact(aS this).symm
 rw[eo,eS];refine h _ _ d2 s'.toks (LU hr) (λc o e=>?_) (eX (ay oO)) hm.toks;have hc:c<s.heap.objs.size:=ay e;have n1:c≠s.heap.objs.size:=aI hc;have n2:c≠I:=aI (az (cN hc tO) BH);exact hm.heap c o (by simp[n1,n2]) (xX c o n1 (he c o (aj _ e)))
theorem aN1(hh:A.handled=none)(hS:A3 prog w s.heap a ks)(yC:ks.length<=600)(h:∀(S:Addr) (vs:List Value) (ns:List Int) e h' d' kJ,IntsAre vs ns->ns.Perm ks->ns.Pairwise (·<=·)->h'.get? S=some (seqObj "list" vs.toArray e)->s.heap.objs.size<=S->(∀c o,s.heap.get? c=some o->h'.get? c=some o)->s.toks<=kJ->Q (.ref S) { s with heap:=h',drawn:=d',toks:=kJ }) :
  wpAny (model prog w) A (call (.builtin "sorted") [.ref a]) Q E s:=by
 obtain⟨o,es,ep,t,ho,hx,hd,og,hp,hn,hb,hf,hw⟩:=hS;have hL:Lies s.heap a es ep t:=⟨⟨o,ho,hx.1,hd⟩,hf⟩
 have hz:es.size=ks.length:=by rw[<- hp.length_eq];simp
 refine FJ kind_sorted plain_sorted entry_sorted (args_sorted1 _) ?_;unfold Builtin.«sorted»;refine aa (m:=checkCount "sorted" 1 1 _) (ai ?_);refine aa (aH4 (A:=A.in1) hh hL hw () λvs h1 d1 uY hv he tO vL=>?_);have hI:IntsAre vs (vs.map toI):=by
  have all:∀v∈vs,∃tk,v=.int (toI v) tk:=λv Be=>by
   obtain⟨e,ly,rfl⟩:=aL.mp (hv.mem_iff.mp Be);obtain⟨tk,h1,_⟩:=zA og ly;exact⟨tk,h1⟩
  clear hv
  induction vs with
  |nil=>exact .nil
  |cons v r ih =>
   obtain⟨tk,e⟩:=all v (by simp);have:=IntsAre.cons (toI v) tk (ih λu hu=>all u (by simp[hu]));rw[<- e] at this;exact this
 have hk:(vs.map toI).Perm ks:=by
  refine(hv.map toI).trans ?_;rw[bA];exact hp
 have hl:vs.length<=100000:=by rw[hv.length_eq];simp;omega
 refine aa (Mz (s:={ s with heap:=h1,drawn:=d1,toks:=uY }) ?_);have pz:(h1.push (seqObj "list" vs.toArray 0)).get? h1.objs.size=some (seqObj "list" vs.toArray 0):=aG _ rfl;refine aa (bL (cC (s:={ s with heap:=h1.push (seqObj "list" vs.toArray 0),drawn:=d1,toks:=uY }) slot_list_sort ⟨_,pz,rfl⟩ entry_list_sort (TS.Md pz hI hl λout kS a1 a2 a3=>⟨_,rfl,?_⟩) (args_list_sort _)));obtain⟨e,ly⟩:=sortedHeap_at (vs:=vs) (out:=out) pz;refine ai ⟨_,rfl,h h1.objs.size out.toList kS e _ d1 uY a1 (a2.trans hk) a3 ly tO (λc o' e'=>?_) vL⟩;have hc:=ay (he c o' e');rw[sortedHeap_old (aI hc) (by rw[jW];exact ic hc)];exact aj _ (he c o' e')
def i0(ks xs:List Int):List Int:=xs.foldl B4 ks
theorem M7:∀(xs ks:List Int),(i0 ks xs).length<=ks.length+xs.length
 |[],ks=>by simp[i0]
 |x::xs,ks=>by
  have:=M7 xs (B4 ks x);have h2:=a96 ks x;show(i0 (B4 ks x) xs).length<=_;simp only[List.length_cons];omega
theorem Q5:∀(xs ks:List Int) (k:Int),k∈i0 ks xs↔k∈ks\/k∈xs
 |[],ks,k=>by simp[i0]
 |x::xs,ks,k=>by
  show k∈i0 (B4 ks x) xs↔_;rw[Q5 xs];unfold B4;split
  ·rename_i h;constructor
   ·rintro(a|a)
    ·exact .inl a
    ·exact .inr (by simp[a])
   ·rintro(a|a)
    ·exact .inl a
    ·rcases aH.mp a with rfl|b
     ·exact .inl h
     ·exact .inr b
  ·simp[or_assoc]
theorem DL:∀(xs ks:List Int),ks.Nodup->(i0 ks xs).Nodup
 |[],ks,h=>h
 |x::xs,ks,h=>by
  show(i0 (B4 ks x) xs).Nodup;refine DL xs _ ?_;unfold B4;split
  ·exact h
  ·rename_i hk;rw[cY];exact⟨h,by simp,λa ha b hb=>by simp at hb;subst hb;exact λz=>hk (z▸ha)⟩
theorem ZZ:Well (Led w) (SetTable.fresh 0 0 (Led w)):=⟨by simp[lA,SetTable.fresh],rfl,rfl⟩
theorem Js(e:h.get? a=some { cls:=.type "set",dict:=none,data:=.set #[] 0 (.fresh 0 0 (Led w)) }):A3 prog w h a [] :=
 ⟨_,#[],0,_,e,⟨rfl,rfl,rfl⟩,rfl,(by intro e he;simp at he),by simp,by simp,by decide,by rfl,ZZ⟩
theorem a20{R:Result->Shared->Prop}{fp wr:List Addr}{G:Array GenState->Array GenState->Prop}{P:Nat->Value->Prop}{St:Nat->Shared->Prop}(W:WalksS prog w A.in1 I fp wr G n P St)(Hl:a∉fp)(hn:n=ns.length)(hv:∀i v,P i v->∃tk,v=.int (ns.getD i 0) tk)(hb:n+1<scanBound):∀(k i:Nat) (s:Shared),i+k=n->St i s->A3 prog w s.heap a (i0 [] (ns.take i)) ->
   (∀s',Moved (a::wr) G s s'->A3 prog w s'.heap a (i0 [] ns)->R (.ok (.ret .none)) s')->codeAny (model prog w) A (.builtin "set.update.loop" ⟨[.ref a,.ref I],[]⟩) R s:=by
 have hw:a∉wr:=λh=>Hl (W.sub _ h);have nJ:∀b∈wr,b∈a::wr:=λb hb=>by simp[hb]
 intro k
 induction k with
 |zero =>
  intro i s e st hS hR;obtain rfl:i=n:=by omega
  refine dN ko ?_;rw[df ff _];unfold Builtin.«set.update.loop»;refine aa (W.done s _ _ st λs' m=>ai (hR s' (m.mono nJ) (A3.at ?_ λo e=>m.heap a o hw e)));rw[hn,bS] at hS;exact hS
 |succ k ih =>
  intro i s e st hS hR;have dS:i<ns.length:=by omega
  refine dN ko ?_;rw[df ff _];unfold Builtin.«set.update.loop»;refine aa (W.item i s _ _ () st λv s' hP aY m=>?_);obtain⟨tk,rfl⟩:=hv i v hP;have oO:=A3.at hS λo e=>m.heap a o hw e;have hl:=M7 (ns.take i) [];rw[cv] at hl;simp only[List.length_nil] at hl;refine aa (bL ?_);unfold setAdd;refine bL (aa ((intKind prog w).pyHash (k:=ns.getD i 0) (iK _ _ _ _) ?_));refine Iu (s:={ s' with toks:=s'.toks+1 }) oO () λh' bb sb ql=>?_;have e2:B4 (i0 [] (ns.take i)) (ns.getD i 0)=i0 [] (ns.take (i+1)):=by
   unfold i0;rw[bQ,List.foldl_append,ao dS];simp[List.getD,dS]
  rw[e2] at ql;refine ai ⟨gJ ff _,ih (i+1) _ () (W.frame _ s' _ _ aY (cB _) λb hb o e=>by rw[sb.2 b λz=>Hl (z▸hb)];exact e) ql λs2 m2 h2=>?_⟩;exact hR s2 (Moved.trans W.gtrans ((m.mono nJ).then_heap (cB _) λb o hb e=>by rw[sb.2 b λz=>hb (by rw[z];simp)];exact e) m2) h2
noncomputable abbrev A6(w:World):Obj:={ cls:=.type "set",dict:=none,data:=.set #[] 0 (.fresh 0 0 (Led w)) }
theorem Le(h:Q (.ref s.heap.objs.size) { s with heap:=s.heap.push (A6 w) }):wpAny (model prog w) A (newSet (.type "set")) Q E s:=by
 unfold newSet;refine aa (xb ?_);exact cI h (cJ _)
theorem a86(x:Value)(h:Q (.ref s.heap.objs.size) { s with heap:=s.heap.push (A6 w) }):codeAny (model prog w) A (.call (.builtin "set.__new__") ⟨[.type "set",x],[]⟩) (wants Q E) s:=by
 refine uJ (?_:wpAny _ A.in1 (do
  checkBuiltinCall "set.__new__" ⟨[.type "set",x],[]⟩
  again (.builtin "set.__new__" ⟨[.type "set",x],[]⟩)) _ _ s)
 refine aa (eP (F.newCall_set_1 x) (ai ⟨gJ F.plain_set_new _,?_⟩));refine dN F.entry_set_new ?_;rw[df F.plain_set_new _];unfold Builtin.«set.__new__»;have sub:=sub_set_self;refine aa (m:=Builtin.Frozenset.newClass "set" _) ?_;unfold Builtin.Frozenset.newClass;dsimp only;refine aa (eP (a:=true) (by first|rfl|(simp[isType];rfl)) ?_);rw[aB ∅];refine aa (eP sub ?_);rw[aB ∅];refine ai ?_;exact aa (Le (ai h))
theorem zK{vs:List Value}(h:IntsAre vs ns):vs.length=ns.length:=by
 induction h with
 |nil=>rfl
 |cons n t r ih=>simp[ih]
def xn(h:Heap)(l:Addr)(items:Array Value):Prop:=h.IsList l items\/h.IsTuple l items
theorem xn.lt(x:xn h l items):l<h.objs.size:=by
 rcases x with⟨_,e,_⟩|⟨_,e,_⟩<;>exact ay e
theorem a78{Q:Fin->Shared->Prop}(hh:A.handled=none)(hS:s.heap.get? a=some (A6 w))(hl:xn s.heap l items)(hi:IntsAre items.toList ns)(hb:items.size+1<scanBound)(fA:a≠l)(h:∀h' tk,A3 prog w h' a (i0 [] ns)->(∀b o,b≠a->s.heap.get? b=some o->h'.get? b=some o)->s.toks<=tk->wpAny (model prog w) A (ret .none) Q E { s with heap:=h',toks:=tk }) :
  wpAny (model prog w) A (Builtin.«set.__init__» ⟨[.ref a,.ref l],[]⟩) Q E s:=by
 have hT:s.TypeIs (.ref a) "set":=⟨_,hS,rfl⟩
 have hLi:Lies s.heap a #[] 0 (SetTable.fresh 0 0 (Led w)):=⟨⟨_,hS,rfl,rfl⟩,rfl⟩
 have dS:=hl.lt;have yi:l≠s.heap.objs.size:=aI dS;unfold Builtin.«set.__init__» noKeywords;dsimp only;refine aa (eP (a:=Unit.unit) rfl ?_);have nm:∀{Q':String->Shared->Prop},(∀x,Q' x s)->wpAny (model prog w) A (typeNameOfCut 200 (.ref a)) Q' E s:=λ{Q'} q=>by
  unfold typeNameOfCut shownTypeOf;refine aa (aa (dB hT ?_));rw[aB ∅];refine ai (eP (a:="set") ?_ (q _));unfold typeNameCut;dsimp only
  first|(unfold typeName;rw[find?_eq_fast];kernel_rfl)|kernel_rfl
 refine aa (nm λx=>?_);refine aa (m:=checkCount _ 0 1 _) (ai ?_);refine aa (m:=Builtin.Frozenset.addrOf _) (ai ?_);unfold setUsed;refine aa (aa (cQ hS rfl rfl (ai ?_)));rw[aB (by show ¬((SetTable.fill (SetTable.fresh 0 0 (Led w)) != 0)=true);unfold SetTable.fill;simp[SetTable.fresh])];unfold Builtin.Frozenset.updateFrom Builtin.Frozenset.isAnySet;obtain⟨c,tW,wb,it,hit,GW,St,W,fz⟩:∃c:String,(c="list"\/c="tuple")/\s.TypeIs (.ref l) c/\∃it:Obj,(∀Q':Value->Shared->Prop,Q' (.ref s.heap.objs.size) { s with heap:=s.heap.push it }->wpAny (model prog w) A (pyIter (.ref l)) Q' E s) /\
   (∀b o,s.heap.get? b=some o->(s.heap.push it).get? b=some o)/\∃St:Nat->Shared->Prop,WalksS prog w A.in1 s.heap.objs.size [s.heap.objs.size,l] [s.heap.objs.size] (λa b=>b=a) items.size (λi v=>items[i]?=some v) St/\St 0 { s with heap:=s.heap.push it }:=by
  rcases hl with hl|hl
  ·obtain⟨o,ho,hc,_⟩:=id hl;exact⟨"list",.inl rfl,⟨o,ho,hc⟩,_,λQ' q=>fX hl q,λb o e=>aj _ e,_,(Ai (A:=A.in1) hh _ l yi items).toS,⟨⟨_,aG _ rfl,rfl,rfl⟩,hl.push _⟩⟩
  ·obtain⟨o,ho,hc,_⟩:=id hl;exact⟨"tuple",.inr rfl,⟨o,ho,hc⟩,_,λQ' q=>wpAny_pyIter_tuple hl q,λb o e=>aj _ e,_,(Walks.tuple (A:=A.in1) hh _ l yi items).toS,⟨⟨_,aG _ rfl,rfl,rfl⟩,hl.push _⟩⟩
 refine aa (aa (aa (ft (b:=false) wb (by rcases tW with rfl|rfl<;>(rw[eF];kernel_rfl)) ?_)));show wpAny (model prog w) A (isInstance (Value.ref l) (Value.type "frozenset")) _ _ _;refine ft (b:=false) wb (by rcases tW with rfl|rfl<;>(rw[eF];kernel_rfl)) ?_;rw[aB ∅];refine aa (dB wb ?_);rw[aB (by rcases tW with rfl|rfl<;>decide)];refine aa (hit _ ?_);refine aa (wpAny_runValue ?_);have OB:a<s.heap.objs.size:=ay hS;have hsz:items.size=ns.length:=by rw[<- bp];exact zK hi
 refine a20 (a:=a) (ns:=ns) W (by simp only[List.mem_cons,List.not_mem_nil,or_false,not_or];exact⟨aI OB,fA⟩) hsz (λi v hv=>IntsAre.int_at hi i v (by rw[eO];exact hv)) hb items.size 0 _ ()
  fz (Js (GW _ _ hS)) λs' m oO=>?_
 have eS:s'={ s with heap:=s'.heap,toks:=s'.toks }:=by
  obtain⟨gn,g',d',kJ,rE⟩:=s';have m1:g'=s.gens:=m.gens;have m2:d'=s.drawn:=m.drawn;have m3:rE=s.os:=m.os;subst m1;subst m2;subst m3
  rfl
 rw[eS];refine ai (h _ _ oO (λb o hb e=>?_) m.toks);exact m.heap b o (by simp only[List.mem_cons,List.not_mem_nil,or_false,not_or];exact⟨hb,aI (ay e)⟩) (GW _ _ e)
theorem Lz(hh:A.handled=none)(hl:xn s.heap l items)(hi:IntsAre items.toList ns)(hb:items.size+1<scanBound)(h:∀h' tk,A3 prog w h' s.heap.objs.size (i0 [] ns)->(∀b o,s.heap.get? b=some o->h'.get? b=some o)->s.toks<=tk->Q (.ref s.heap.objs.size) { s with heap:=h',toks:=tk }) :
  wpAny (model prog w) A (call (.type "set") [.ref l]) Q E s:=by
 have cs:=F.called_set;obtain⟨_,_,y1⟩:=cs.mro;have y2:=cs.made;have y3:=cs.sub;have y4:=cs.notType;have y5:=cs.canCreate;have y6:=F.typeCall_set_1 (.ref l);refine wpAny_call (uJ (?_:wpAny _ _ (callAny (.type "set") _) _ _ _));refine ai ⟨Code.quiet_builtin _ (by decide +kernel),dN F.entry_type_call ?_⟩;rw[Around.under_plain (weight_type_call_type "set" [.ref l] []) rfl]
 repeat (any_goals (first|assumption|wp_step))
 refine ik (a86 (.ref l) (E:=E) (Q:=λv s1=>v=.ref s.heap.objs.size/\s1={ s with heap:=s.heap.push (A6 w) }) ⟨rfl,rfl⟩) ?_;rintro(e|fl) s1 hr
 ·exact hr
 cases fl with
 |next=>exact hr
 |brk=>exact hr
 |cont=>exact hr
 |ret v =>
 obtain⟨rfl,rfl⟩:=hr;have hS:(s.heap.push (A6 w)).get? s.heap.objs.size=some (A6 w):=aG _ rfl;have hT:Shared.TypeIs { s with heap:=s.heap.push (A6 w) } (.ref s.heap.objs.size) "set":=⟨_,hS,rfl⟩
 have y7:=cs.init.lookup;have y8:=cs.init.bind (.ref s.heap.objs.size)
 repeat (any_goals (first|assumption|wp_step))
 refine ik (codeAny_call_builtin (R:=wants (λv s2=>v=.none/\∃h' tk,s2={ s with heap:=h',toks:=tk }/\A3 prog w h' s.heap.objs.size (i0 [] ns)/\(∀b o,s.heap.get? b=some o->h'.get? b=some o)/\s.toks<=tk) E) cs.init.plain F.entry_set_init (check_set_init_1 hT ?_)) ?_
 ·have iG:xn (s.heap.push (A6 w)) l items:=hl.imp (·.push _) (·.push _);have Oc:=hl.lt;refine a78 (s:={ s with heap:=s.heap.push (A6 w) }) (by simp[hh]) hS iG hi hb (bV Oc) λh' tk h1 h2 h3=>ai ⟨rfl,h',tk,rfl,h1,λb o e=>h2 b o (aI (ay e)) (aj _ e),h3⟩
 ·rintro(e|fl) s2 hr
  ·exact hr
  cases fl with
  |next=>exact hr
  |brk=>exact hr
  |cont=>exact hr
  |ret v =>
  obtain⟨rfl,h',tk,rfl,h1,h2,h3⟩:=hr
  repeat (any_goals (first|assumption|wp_step))
  exact h _ _ h1 h2 h3
end ST
namespace L2
open PySem PySem.Spec PyProof.Rows
def sU(X:Cx)(a:Addr)(ks:List Int):HO:=.ext λh=>ST.A3 X.prog X.w h a ks
def o8(ns:List Int):List Int:=(ST.i0 [] ns).mergeSort (λa b=>decide (a<=b))
theorem U3:∀{a b:List Int},a.Perm b->a.Pairwise (·<=·)->b.Pairwise (·<=·)->a=b
 |[],b,h,_,_=>by rw[List.nil_perm.mp h]
 |x::a,[],h,_,_=>absurd h.length_eq (by simp)
 |x::a,y::b,h,h1,h2=>by
  rw[dy] at h1 h2;have e:x=y:=by
   have m1:=h.mem_iff (a:=y);have m2:=h.mem_iff (a:=x);simp only[List.mem_cons,true_or,true_iff,iff_true] at m1 m2;rcases m1 with z|z
   ·exact z.symm
   ·rcases m2 with z'|z'
    ·exact z'
    ·have:=h1.1 y z;have:=h2.1 x z';omega
  subst e;rw[U3 (h.cons_inv) h1.2 h2.2]
theorem Z4(ns:List Int):(o8 ns).Pairwise (·<=·):=by
 have:=tE (le:=λa b:Int=>decide (a<=b)) (λa b c h1 h2=>by simp at *;omega) (λa b=>by simp;omega) (ST.i0 [] ns);exact this.imp λh=>by simpa using h
theorem M4(ns:List Int):(o8 ns).Perm (ST.i0 [] ns):=FF _ _
theorem O8(ns:List Int):(o8 ns).length<=ns.length:=by
 rw[(M4 ns).length_eq];have:=ST.M7 ns [];simpa using this
section
variable{X:Cx}{pins:List (Addr×Obj)}{σ:St}{H:Hp}{s:Shared}
theorem Inv.draw(I:Inv X pins σ H s)(d:Drawn):Inv X pins σ H { s with drawn:=d } :=
 I.step (g':=s.gens) (t':=s.toks) (d':=d) (ch:=[]) (by simp) (λb o _ _ _ e _=>e) (λb o _ _ _ e _=>⟨o.slots,e⟩) (λb o _ _ e=>e) (λb o _ e=>⟨o,e⟩) (λ_ _ e=>e) (λ_ _ _ e=>e) (λb ps e=>⟨#[],by simp[e]⟩) (λm hm=>hm) I.cq I.bare
theorem Lq{h:Heap}{a:Addr}{ks:List Int}(x:ST.A3 X.prog X.w h a ks):p0 X.prog X.w H h a (sU X a ks) :=
 ⟨x,by obtain⟨o,_,_,_,e,_⟩:=x;exact⟨o,e⟩,λh1 h2 y k=>y.at k⟩
theorem JY{ns:List Int}{vs:List Value}(h:IntsAre vs ns):Vals (ns.map V.int) vs:=by
 induction h with
 |nil=>exact .nil
 |cons n t r ih=>exact .cons ⟨t,rfl⟩ ih
theorem E0:∀{ns:List Int} {vs:List Value},Vals (ns.map V.int) vs->IntsAre vs ns
 |[],_,h=>by cases h;exact .nil
 |n::ns,_,h=>by
  cases h with
  |cons r rr =>
   obtain⟨t,rfl⟩:=r;exact .cons n t (E0 rr)
theorem Kl(hc:X.calm=true):l9 X (.type "set") (λxs H Q=>∃a ns,xs=[.ref a]/\gi X.K H a (ns.map V.int)/\ns.length<600/\∀p,H p=none->Q (.ref p) (upd H p (sU X p (ST.i0 [] ns)))):=by
 intro pins s σ H xs us Q I r h;obtain⟨a,ns,rfl,hq,hl,q⟩:=h;cases r with
 |cons r rr =>
 cases rr;cases r;obtain⟨aX,rv,p,hz⟩:=I.list hq;have hI:=E0 rv;have hlen:=ST.zK hI;refine ST.Lz (ns:=ns) (I.ok.hd hc) (.inl p.isList) (by simpa using hI) (by rw[aE,hlen];exact az (Nat.succ_lt_succ hl) ∅) λh' tk hS hk _=>?_;exact⟨.ref _,_,I.laid (a:=s.heap.objs.size) (t':=tk) hk (av _) (Lq hS),rfl,q _ (I.cq.fresh (av _))⟩
theorem U9(hc:X.calm=true):l9 X (.builtin "sorted") (λxs H Q=>∃a ns,xs=[.ref a]/\H a=some (sU X a (ST.i0 [] ns))/\ns.length<600/\∀p,H p=none->Q (.ref p) (upd H p (.lst ((o8 ns).map V.int)))):=by
 intro pins s σ H xs us Q I r h;obtain⟨a,ns,rfl,ha,hl,q⟩:=h;cases r with
 |cons r rr =>
 cases rr;cases r;have hS:ST.A3 X.prog X.w s.heap a (ST.i0 [] ns):=(I.cq a _ ha).1;have hn:=ST.M7 ns [];simp only[List.length_nil] at hn;refine ST.aN1 (I.ok.hd hc) hS () λS vs kS e h' d' kJ h1 h2 h3 h4 h5 h6 _=>?_;have e1:kS=o8 ns:=U3 (h2.trans (M4 ns).symm) h3 (Z4 ns);subst e1;have hz:=O8 ns;exact⟨.ref S,_,(I.laid (a:=S) (o:=.lst ((o8 ns).map V.int)) (t':=kJ) h6 h5 ⟨by rw[ag];exact aF hz (aF (eX hl) ∅),vs,e,JY h1,h4⟩).draw d',rfl,q S (I.cq.fresh h5)⟩
end
end L2
namespace ST
open PySem PyProof.Rows
theorem a89{prog:Program}{w:World}{A:Around}{E:Value->Shared->Prop}{s:Shared}{a:Addr}{ks:List Int}{k:Int}{tk:Tok}{Q:Value->Shared->Prop}(hS:A3 prog w s.heap a ks)(hr:ks.length+1<scanBound)(h:∀h',Heap.SameBut a s.heap h'->A3 prog w h' a (B4 ks k)->Q .none { s with heap:=h',toks:=s.toks+1 }):wpAny (model prog w) A (call (.builtin "set.add") [.ref a,.int k tk]) Q E s:=by
 have hT:s.TypeIs (.ref a) "set":=let ⟨o,_,_,_,e,x,_⟩:=hS;⟨o,e,x.1⟩
 refine cC F.slot_set_add hT F.entry_set_add ?_ (F.args_set_add_2 _ _);have go:∀(Q':Fin->Shared->Prop),(∀h',Heap.SameBut a s.heap h'->A3 prog w h' a (B4 ks k)->wpAny (model prog w) A.in1 (ret .none) Q' E { s with heap:=h',toks:=s.toks+1 })->wpAny (model prog w) A.in1 (do let _ <- setAdd a (.int k tk);ret .none) Q' E s:=λQ' q=>by
  unfold setAdd;refine aa (bL (aa ((intKind prog w).pyHash (k:=k) (iK _ _ _ _) ?_)));exact Iu (s:={ s with toks:=s.toks+1 }) hS hr λh' b sb S2=>q h' sb S2
 unfold Builtin.«set.add» Builtin.Frozenset.oneOther;simp only[List.isEmpty_nil,bind_assoc];unfold Builtin.Frozenset.addrOf;refine aa (ai ?_)
 try dsimp only
 refine aa (ai ?_)
 try dsimp only
 exact go _ λh' sb S2=>ai ⟨_,rfl,h h' sb S2⟩
end ST
namespace L2
open PySem PySem.Spec PyProof.Rows
variable{elt iter:Expr}{ifs:List Expr}{scope:Scope}{pos:Pos}
section
variable{prog:Program}{w:World}{A:Around}{R:Result->Shared->Prop}{s:Shared}
theorem aM6(elt target iter:Expr)(ifs:List Expr)(scope:Scope)(pos:Pos)(it acc:Value)(env:Env):compTurn (.SetComp elt [⟨target,iter,ifs,0⟩] scope pos) 0 it acc env=(do
      standAt iter.pos
      match <- pyNext it with
      |none=>pure (.done .next)
      |some v =>
        letOwnedTupleGo target it v
        assign target env v
        let mut ok:=true
        for c in ifs do if ok then ok <- isTrue c env (eval c env)
        if ok then(do let x <- eval elt env;standAt elt.pos;let _ <- call (.builtin "set.add") [acc,x])
        again (.compLoop (.SetComp elt [⟨target,iter,ifs,0⟩] scope pos) 0 it acc env)):=by rfl
theorem Ys{target:Expr}{it acc:Value}{env:Env}(I:Nat->Shared->Prop)(turn:∀ n s,I n s->wpAny (model prog w) A (pyNext it) (λr bY=>match r with
   |none=>R (.ok .next) bY
   | some v=>wpAny (model prog w) A (letOwnedTupleGo target it v) (λ_ bY=>wpAny (model prog w) A (assign target env v) (λ_ iw =>
     wpAny (model prog w) A (forIn ifs true λc r=>if r=true then do let ok <- isTrue c env (eval c env);pure (ForInStep.yield ok) else pure (ForInStep.yield r)) (λok gf =>
      if ok=true then wpAny (model prog w) A (eval elt env) (λx kx =>
       wpAny (model prog w) A (call (.builtin "set.add") [acc,x]) (λ_ nH=>∃ m,m < n/\I m nH) (λ_ _=>False) kx) (λ_ _=>False) gf
      else ∃ m,m < n/\I m gf) (λ_ _=>False) iw) (λ_ _=>False) bY) (λ_ _=>False) bY) (λ_ _=>False) s)(n:Nat)(h:I n s) :
  codeAny (model prog w) A (.compLoop (.SetComp elt [⟨target,iter,ifs,0⟩] scope pos) 0 it acc env) R s:=by
 refine codeAny_loop rfl I (λn s hI=>?_) n h;show wpAny _ A ((compTurn (.SetComp elt [⟨target,iter,ifs,0⟩] scope pos) 0 it acc env).onRaise (λx=>do noteFrame x env;theTreesLotGoes x)) _ _ s;refine wpAny_noted ?_;rw[aM6];refine aa (fC (aa (bO (turn n s hI) (λr bY eA=>?_) λ_ _ h'=>h'.elim)));cases r with
 |none=>exact ai eA
 |some v =>
  refine aa (bO eA (λ_ bY eA=>?_) λ_ _ h'=>h'.elim);refine aa (bO eA (λ_ iw jG=>aa (bO jG (λok gf nV=>?_) λ_ _ h'=>h'.elim)) λ_ _ h'=>h'.elim);cases ok with
  |false=>exact wpAny_pure ⟨rfl,nV⟩
  |true =>
   exact aa (aa (bO nV (λx kx rP=>aa (fC (aa (bO rP (λ_ nH rO=>ai (ai ⟨rfl,rO⟩)) λ_ _ h'=>h'.elim)))) λ_ _ h'=>h'.elim))
theorem aN8{target:Expr}{it acc:Value}{env:Env}(h0:codeAny (model prog w) A (.compLoop (.SetComp elt [⟨target,iter,ifs,0⟩] scope pos) 0 it acc env) R s)(h:wpAny (model prog w) A (pyIter it) (λGC s'=>codeAny (model prog w) A (.compLoop (.SetComp elt [⟨target,iter,ifs,0⟩] scope pos) 0 GC acc env) R s') (notedBy (model prog w) A env λx s'=>R (.error x) s') s) :
  codeAny (model prog w) A (.compStart (.SetComp elt [⟨target,iter,ifs,0⟩] scope pos) 0 it acc env) R s:=by
 refine uJ (?_:wpAny _ _ ((compStart (.SetComp elt [⟨target,iter,ifs,0⟩] scope pos) 0 it acc env).onRaise (λx=>do noteFrame x env;standAt theWindowsPlace)) _ _ s);refine wpAny_notedAt ?_;unfold compStart;refine aa (qO (wpAny_ite ?_));split
 ·first
   |exact ai ⟨rfl,h0⟩
   |exact aa (ai (ai ⟨rfl,h0⟩))
 ·refine aa (cV ?_);exact aa (fC (aa (bO h (λGC s' h'=>ai ⟨rfl,h'⟩) λ_ _ x=>x)))
end
def EE(o:Obj):Prop:=∀v,o.data≠.cell v
def SH(X:Cx)(wi:TI)(d5:List Nat)(n:Nat)(g:TG)(tc:TT)(te:TE):TE:=λσ H Q=>wi σ H λJ H1=>∃W:Nat->Nat->List Int->St->Hp->Prop,(∃m,W 0 m [] (C5 σ d5 n) H1)/\∀i m ys σ H,W i m ys σ H ->
 (J.stop i H/\∀p,H p=none->Q (.ref p) (upd H p (sU X p (ST.i0 [] ys)))) \/
 (J.go i H/\ys.length < 60/\∀ x H',J.qV i H x H'->g x σ H' λcT H2=>tc cT H2 λb H3 =>
  if b=true then te cT H3 λy H4=>∃ k,y=.int k/\∃ m',m' < m/\W (i + 1) m' (ys ++ [k]) cT H4 else ∃ m',m' < m/\W (i + 1) m' ys cT H3)
section
variable{X:Cx}{pins:List (Addr×Obj)}{σ:St}{H:Hp}{s:Shared}
theorem Inv.SJ{D:Addr}{φ:Heap->Prop}(I:Inv X pins σ H s)(f:C7 X pins H D)(hs:X.dI.heap.objs.size<=D)(ho:p0 X.prog X.w (upd H D (.ext φ)) s.heap D (.ext φ)):Inv X pins σ (upd H D (.ext φ)) s:=by
 obtain⟨f0,f1,f2,f3,f4,f5⟩:=f;have fA:∀b o,X.dI.heap.get? b=some o->b≠D:=λb o e z=>absurd (ay e) (by rw[z];exact kO.mpr hs);have tup:∀b u,H b=some u->upd H D (.ext φ) b=some u:=λb u e=>by rw[i6 (n8 e f0)];exact e
 refine⟨I.ok,I.os,I.bare,⟨?_,?_,?_,I.base.there,?_,?_,?_⟩,I.loc,I.cell,?_,?_,?_,?_,I.len⟩
 ·exact λb o e n1 n2 n3=>I.base.keep b o e n1 n2 n3
 ·exact λb o e n1 n2 n3=>I.base.slot b o e n1 n2 n3
 ·exact λb o e n1 n2=>by rw[i6 (fA b o e)];exact I.base.free b o e n1 n2
 ·exact λb xs e=>tup _ _ (I.base.jA b xs e)
 ·exact λb o u e=>tup _ _ (I.base.ji b o u e)
 ·exact λb ps e=>by
   obtain⟨more,q⟩:=I.base.jB b ps e;exact⟨more,tup _ _ q⟩
 ·rw[i6 f1.symm];exact I.free
 ·exact λx c e=>by rw[i6 (f4 x c e)];exact I.gp x c e
 ·intro p hp;obtain⟨p1,p2,p3⟩:=I.pin p hp;exact⟨p1,by rw[i6 (f5 p hp)];exact p2,p3⟩
 ·intro a o e;by_cases ha:a=D
  ·subst ha;rw[u5] at e;cases e;exact ho
  ·rw[i6 ha] at e;have q:=I.cq a o e;refine q.Z2 (λb u _ h=>h) (λb hb=>tup _ _ hb) (λb xs hb=>tup _ _ hb)
theorem aH5{tg:Expr}{N':List Str}{d5:List Nat}{cl:List (Str×Addr)}{it:Addr}{fp:List Addr}{tn:Nat->Heap->Prop}{J:It}{g:TG}{tc:TT}{te:TE}{RR:Value->Addr->Result->Shared->Prop}{E:Value->Shared->Prop}{W:Nat->Nat->List Int->St->Hp->Prop}{m0:Nat}{Q:VK}(S:dR X scope N' d5 cl)(hc:X.calm=true)(hg:∀C s H,PG (d6 X pins scope N' cl C s H fp) tg g)(ht:∀C s H,mq (d6 X pins scope N' cl C s H fp) ifs tc)(he:∀C s H,PE (d6 X pins scope N' cl C s H fp) elt te)(I:Inv X pins σ H s)(T:Turn X.prog X.w X.K tg J fp it tn)(st:tn 0 s.heap)(hf:∀b∈fp,C7 X pins H b)(w0:W 0 m0 [] (C5 σ d5 N'.length) H)(turn:∀ i m ys σ H,W i m ys σ H->(J.stop i H/\∀ p,H p=none->Q (.ref p) (upd H p (sU X p (ST.i0 [] ys)))) \/
   (J.go i H/\ys.length < 60/\∀ x H',J.qV i H x H'->g x σ H' λcT H2=>tc cT H2 λb H3 =>
    if b=true then te cT H3 λy H4=>∃ k,y=.int k/\∃ m',m' < m/\W (i + 1) m' (ys ++ [k]) cT H4 else ∃ m',m' < m/\W (i + 1) m' ys cT H3))(BG:∀D C s' H' m,Inv X pins σ H' s'->Q (.ref D) H'->s'.heap.Ns C m->H' C=none->s.heap.objs.size<=C->RR (.ref D) C (.ok .next) s') :
  wpAny (model X.prog X.w) X.A (newSet (.type "set")) (λacc gf=>wpAny (model X.prog X.w) X.A (newFunctionEnv scope X.env.globals cl [] X.env.qual none .none (some X.env)) (λmS kx =>
   codeAny (model X.prog X.w) X.A (.compStart (.SetComp elt [⟨tg,iter,ifs,0⟩] scope pos) 0 (.ref it) acc { mS with scope:=relabel scope X.env }) (RR acc mS.locals) kx) E gf) E s:=by
 refine ST.Le (Kr λeA hJ gg oh=>?_);dsimp only at hJ gg oh ⊢;generalize si:s.heap.push (ST.A6 X.w)=H2 at hJ gg oh ⊢;generalize eD:s.heap.objs.size=D at *;have hC:H2.objs.size=D+1:=by rw[<- si,eI,eD]
 generalize eC:H2.objs.size=C at *;have wg:D≠C:=by omega
 have lt:∀b o,s.heap.get? b=some o->b<D:=λb o e=>by rw[<- eD];exact ay e
 have rH:D<=C:=by omega
 have qa:∀b o,s.heap.get? b=some o->b≠C:=λb o e=>aI (az (lt b o e) rH);have nO:∀b o,s.heap.get? b=some o->b≠D:=λb o e=>aI (lt b o e);have old:∀b o,s.heap.get? b=some o->eA.get? b=some o:=λb o e=>gg b o (si▸aj _ e);have lR:eA.get? D=some (ST.A6 X.w):=gg _ _ (by rw[<- si,<- eD];exact aG _ rfl);have jH:∀b∈fp,∃o,s.heap.get? b=some o:=λb hb=>by
  obtain⟨o,e,_⟩:=T.obj _ _ st b hb;exact⟨o,e⟩
 have we:D∉fp:=λhm=>by
  obtain⟨o,e⟩:=jH D hm;exact nO D o e rfl
 have X1:Inv (d6 X pins scope N' cl C s H fp) [] (C5 σ d5 N'.length) H { s with heap:=eA } :=
  I.JN S hc hf jH (by rw[eD];omega) ⟨_,hJ⟩ old oh
 have eU:tn 0 eA:=T.keep _ _ _ st λb _ o e=>old b o e;have Cg:∀{H':Hp},(∀b∈fp,H' b=none)->∀b∈fp,C7 (d6 X pins scope N' cl C s H fp) [] H' b:=λhn b hb=>by
  obtain⟨f0,f1,f2,f3,f4,f5⟩:=hf b hb;obtain⟨o,e⟩:=jH b hb;refine⟨hn b hb,?_,?_,.inl hb,λx c q=>(zJ oh q).elim (λl z=>absurd (cN (z▸l) (az (lt b o e) rH)) (bJ _)) λq=>f4 x c (S.cin x c q),λp hp=>?_⟩
  ·exact qa b o e
  ·exact λz=>by
    rcases aH.mp (I.M1 b z) with z|z
    ·exact f1 z
    ·exact f2 z
  ·have gn:p∈X.pn++pins:=by simpa[d6] using hp
   exact f5 p gn
 have fD:∀{H':Hp},H' D=none->C7 (d6 X pins scope N' cl C s H fp) [] H' D:=λhn=>by
  refine⟨hn,wg,λz=>?_,.inr (by show s.heap.objs.size<=D;omega),λx c q=>?_,λp hp=>?_⟩
  ·exact absurd (I.xq (a:=D) ()) λpA=>by
    rcases aH.mp (I.M1 D z) with z|z
    ·exact absurd I.lt (by rw[<- z,eD];exact bJ _)
    ·exact pA z
  ·rcases zJ oh q with l|q
   ·exact λz=>absurd (az (z▸l) rH) (bJ _)
   ·obtain⟨v,o,e,_⟩:=I.cell x c (S.cin x c q);exact nO c o e
  ·have gn:p∈X.pn++pins:=by simpa[d6] using hp
   exact nO _ _ (I.pin p gn).1
 have rD:∀{H':Hp} {s':Shared} {cM:St} {oD:Obj},EE oD->Inv (d6 X pins scope N' cl C s H fp) [] cM H' s'->H' D=none->s'.heap.get? D=some oD ->
   Inv (d6 X pins scope N' cl C s H fp) [(D,oD)] cM H' s':=λ{H' s' cM oD} kf J0 hn e=>J0.L0 λp hp=>by
  have z:p=(D,oD):=by simpa using hp
  subst z;obtain⟨f0,f1,f2,_⟩:=fD hn;exact⟨e,f0,f1,f2,kf⟩
 have sH:∀{H':Hp} {oD:Obj},(∀b∈fp,H' b=none)->∀b∈fp,C7 (d6 X pins scope N' cl C s H fp) [(D,oD)] H' b:=λ{H' oD} hn b hb=>by
  obtain⟨f0,f1,f2,f3,f4,f5⟩:=Cg hn b hb;refine⟨f0,f1,f2,f3,f4,λp hp=>?_⟩;have gn:p∈(d6 X pins scope N' cl C s H fp).pn\/p=(D,oD):=by simpa using hp
  rcases gn with z|z
  ·exact f5 p (bB _ z)
  ·subst z;exact λz=>we (by rw[show D=b from z];exact hb)
 have loop:∀gf:Shared,gf={ s with heap:=eA } ->
   codeAny (model X.prog X.w) X.A (.compLoop (.SetComp elt [⟨tg,iter,ifs,0⟩] scope pos) 0 (.ref it) (.ref D) (compEnvC scope (K9 scope cl C) C X.env)) (RR (.ref D) C) gf:=by
  rintro gf rfl;refine Ys (λn s'=>∃ (i:Nat) (ys:List Int) (cM:St) (H':Hp) (oD:Obj),Inv (d6 X pins scope N' cl C s H fp) [] cM H' s'/\tn i s'.heap/\(∀ b ∈ fp,H' b=none)/\H' D=none/\ys.length <= 60/\EE oD /\
   s'.heap.get? D=some oD/\ST.A3 X.prog X.w s'.heap D (ST.i0 [] ys)/\W i n ys cM H') ?_ m0 ⟨0,[],_,H,ST.A6 X.w,X1,eU,λb hb=>(hf b hb).1,I.cq.fresh (),cJ _,(λv (z:Data.set _ _ _=_)=>by cases z),lR,ST.Js lR,w0⟩
  rintro n s3 ⟨i,ys,lV,H3,oD,I3,jC,qt,d3,z3,c3,o3,S3,w3⟩;have xD:=rD c3 I3 d3 o3;rcases turn i n ys lV H3 w3 with⟨stop,q⟩|⟨go,hz,step⟩
  ·refine cX (T.done (d6 X pins scope N' cl C s H fp) rfl rfl rfl rfl i _ s3 _ H3 _ xD (sH qt) jC stop) λr s4 ⟨hr,I4⟩=>?_;subst hr;have o4:=(I4.pin (D,oD) (by simp)).1;have J4:Inv X pins σ H3 s4:=I.LC hf I4;have Ci:C7 X pins H3 D:=by
    refine⟨d3,bV (by rw[<- eD];exact I.lt),I.xq (),.inr (by have:=I.sz;omega),λx c q=>?_,λp hp=>?_⟩
    ·obtain⟨v,o,e,_⟩:=I.cell x c q;exact nO c o e
    ·exact nO _ _ (I.pin p hp).1
   obtain⟨mC,Bn,_⟩:=I4.loc;exact BG D C s4 (upd H3 D (sU X D (ST.i0 [] ys))) mC (J4.SJ Ci (by have:=I.sz;omega) (Lq (S3.at λo e=>by rw[o3] at e;cases e;exact o4))) (q D d3) Bn (by rw[i6 wg.symm];exact I4.free) ()
  ·refine cX (T.item (d6 X pins scope N' cl C s H fp) rfl rfl rfl rfl i _ s3 _ H3 _ xD (sH qt) jC go) λr s4 ⟨u,hr,h4⟩=>?_;subst hr;refine cX h4 λ_ s5 bD=>?_;obtain⟨x,H5,I5,r5,y5,mG,wA⟩:=bD;have o5:=I5.pin (D,oD) (by simp);have xC:=I5.pinned (sH wA) (T.obj _ _ mG);refine cX (hg C s H _ s5 _ H5 x u _ xC r5 (step x H5 y5)) λ_ s6 bD=>?_;obtain⟨mz,H6,I6,q6⟩:=bD;refine cX (ht C s H _ s6 mz H6 _ I6 q6) λok s7 ⟨H7,I7,q7⟩=>?_;have back:∀{uQ:St} {H8:Hp} {s8:Shared},Inv (d6 X pins scope N' cl C s H fp) ([(D,oD)]++X8 fp s5.heap) uQ H8 s8->(∀b∈fp,H8 b=none)/\tn (i+1) s8.heap/\H8 D=none/\s8.heap.get? D=some oD :=
    λ{uQ H8 s8} I8=>by
     have pf:∀b∈fp,∀o,s5.heap.get? b=some o->s8.heap.get? b=some o/\H8 b=none:=λb hb o e=>by
      have:=I8.pin (b,o) (aP _ (aP _ (Q4 hb e)));exact⟨this.1,this.2.1⟩
     have pd:=I8.pin (D,oD) (by simp);refine⟨λb hb=>?_,T.keep _ _ _ mG λb hb o e=>(pf b hb o e).1,pd.2.1,pd.1⟩;obtain⟨o,e,_⟩:=T.obj _ _ mG b hb;exact(pf b hb o e).2
   cases ok with
   |false =>
    obtain⟨m',hm,w7⟩:=q7;obtain⟨b1,b2,b3,b4⟩:=back I7;exact⟨m',hm,i+1,ys,mz,H7,oD,I7.L0 λp hp=>absurd hp (by simp),b2,b1,b3,z3,c3,b4,S3.at λo e=>by rw[o3] at e;cases e;exact b4,w7⟩
   |true =>
    refine cX (he C s H _ s7 mz H7 _ I7 q7) λxv s8 bD=>?_;obtain⟨y,H8,I8,r8,kk,ey,m',hm,w8⟩:=bD;subst ey;obtain⟨tk,rfl⟩:=r8;obtain⟨b1,b2,b3,b4⟩:=back I8;have S8:ST.A3 X.prog X.w s8.heap D (ST.i0 [] ys):=S3.at λo e=>by rw[o3] at e;cases e;exact b4
    have AU:=ST.M7 ys [];simp only[List.length_nil] at AU;refine ST.a89 S8 (az (by omega:_<62) ∅) λh' sb S9=>?_;have e9:ST.B4 (ST.i0 [] ys) kk=ST.i0 [] (ys++[kk]):=by unfold ST.i0;rw[List.foldl_append];rfl
    rw[e9] at S9;obtain⟨o9,es9,ep9,t9,g9,x9,d9,r9⟩:=id S9;have c9:EE o9:=λv z=>by rw[d9] at z;cases z
    have Fu:Inv (d6 X pins scope N' cl C s H fp) [] mz H8 s8:=I8.L0 λp hp=>absurd hp (by simp);obtain⟨f0,f1,f2,f3,f4,f5⟩:=fD (H':=H8) b3;have kp:∀b o,b≠D->s8.heap.get? b=some o->h'.get? b=some o:=λb' u hb hu=>by rw[sb.2 b' hb];exact hu
    refine⟨m',hm,i+1,ys++[kk],mz,H8,o9,Fu.turned (it:=D) (t':=s8.toks+1) kp f0 f1 f3 f4 f5,T.keep _ _ _ b2 λb hb o e=>kp b o (λz=>we (by rw[<- z];exact hb)) e,b1,b3,?_,c9,g9,S9,w8⟩;rw[bj,jz];omega
 exact aN8 (loop _ rfl) (T.self _ 0 _ _ _ eU (loop _ rfl))
theorem a56{tg:Expr}{N':List Str}{d5:List Nat}{cl:List (Str×Addr)}{wi:TI}{g:TG}{tc:TT}{te:TE}(S:dR X scope N' d5 cl)(hc:X.calm=true)(hi:PI X tg iter wi)(hg:∀pins C s H fp,PG (d6 X pins scope N' cl C s H fp) tg g)(ht:∀pins C s H fp,mq (d6 X pins scope N' cl C s H fp) ifs tc)(he:∀pins C s H fp,PE (d6 X pins scope N' cl C s H fp) elt te)(hs:∀x,foldedSetIterable iter X.env x=pure x):PE X (.SetComp elt [⟨tg,iter,ifs,0⟩] scope pos) (SH X wi d5 N'.length g tc te):=by
 intro pins s σ H Q I h;rw[arm_eval_SetComp];refine js (use:=none) rfl hs S.sO S.kind S.names (cX (hi pins s σ H _ I h) λxv bY eA=>cX eA λvH iw jG=>?_);obtain⟨it,fp,tn,J,H2,e,I2,T,gT,f2,W,⟨m0,w0⟩,turn⟩:=jG;subst e;refine aH5 (RR:=λacc C=>compPost (model X.prog X.w) X.A X.xe none (EP X pins σ Q) acc C) S hc (λC s H=>hg pins C s H fp) (λC s H=>ht pins C s H fp) (λC s H=>he pins C s H fp) I2 T gT f2 w0 turn ?_;intro D C s' H' m I' q hn hC hsz;exact⟨m,hn,λh' sb=>⟨.ref D,H',I'.IP hsz I2 hC sb,rfl,q⟩⟩
end
end L2
namespace HT
open PySem PyProof.Rows Builtin
theorem YN:fillsNumberSlot (.type "tuple") "mul"=pure false :=
 PySem.fillsNumberSlot_seq (id:="tuple.__mul__") (r:=some (.builtin "tuple.__rmul__")) qR.lookup (by decide +kernel) F.slot_tuple_rmul.lookup (by decide +kernel)
theorem aB7:seqRepeat? (.type "tuple")=pure (some (.builtin "tuple.__mul__")):=by
 unfold seqRepeat?;rw[PySem.seqSlot_of (T:="tuple") (name:="__mul__") (id:="tuple.__mul__") qR.lookup (by decide +kernel),PySem.seqSlot_of (T:="tuple") (name:="__rmul__") (id:="tuple.__rmul__") F.slot_tuple_rmul.lookup (by decide +kernel)]
 rfl
theorem YC(a:Int)(t:Tok)(l:Addr)(items:Array Value)(n:Nat)(dd:Option Addr)(sl:Array (Option Value)) :
  Meets (Builtin.«int.__rmul__» ⟨[.int a t,.ref l],[]⟩) (λ_ R s=>s.heap.get? l=some { cls:=.type "tuple",dict:=dd,data:=.seq items n,slots:=sl }/\R (.ok (.ret Value.notImplemented)) s) :=
 .of_wp λprog w A R s h=>by obtain⟨hp,g,d,tk,os⟩:=s;obtain⟨hl,h⟩:=h;wp_walk;exact⟨_,rfl,h⟩
theorem YG(t:Value)(c:Value):Builtin.«tuple.__mul__» ⟨[t,c],[]⟩=(do
 let n <- asIndex c
 if n < -(2 ^ 63)||n>=2 ^ 63 then
  rule "tuple.repeat.overflow";raiseError "OverflowError" s!"cannot fit '{<- typeNameOf c}' into an index-sized integer"
 let xs <- Builtin.Tuple.tupleItemsOf t
 if xs.isEmpty||n==1 then
  if <- Builtin.Tuple.tupleIsExact t then rule "tuple.repeat.same-object";return <- ret t
 if n<=0||xs.isEmpty then return <- ret (<- Builtin.Tuple.tupleExact #[])
 if xs.size*n>(2 ^ 63-1) / 8 then rule "tuple.repeat.no-memory";raiseNew (<- newExc (.type "MemoryError") [])
 if Builtin.Tuple.tupleTooMany (xs.size*n) then unsupported "tuple.__mul__:memory"
 ret (<- Builtin.Tuple.tupleExact ((List.replicate n.toNat xs).foldl (· ++ ·) #[]))):=rfl
section
variable{prog:Program}{w:World}{A:Around}{E:Value->Shared->Prop}{s:Shared}
theorem ZX(aX:List Value):∀(m:Nat) (acc:Array Value),List.foldl (λx1 x2=>x1++x2) acc (List.replicate m aX.toArray)=acc++(List.replicate m aX).flatten.toArray:=by
 intro m
 induction m with
 |zero=>intro acc;simp
 |succ m ih=>intro acc;rw[cA,nC,ih,cA,dF];simp
theorem ZL{a:Addr}{aX:List Value}{n:Int}{t:Tok}{Q:Value->Shared->Prop}(ht:IsTup s.heap a aX.toArray)(fA:aX≠[])(h1:1<=n)(h2:n<2 ^ 62)(hz:aX.length*n.toNat<=sizeLine)(q1:n=1->Q (.ref a) s)(q2:Q (.ref s.heap.objs.size) { s with heap:=s.heap.push { cls:=.type "tuple",data:=.seq (List.replicate n.toNat aX).flatten.toArray } }):wpAny (model prog w) A (binaryOp .Mult (.ref a) (.int n t)) Q E s:=by
 obtain⟨o,ho,hc,k,hd⟩:=id ht;obtain⟨cls,dict,data,slots⟩:=o;dsimp only at hc hd;subst hc hd;have he:aX.toArray.isEmpty=false:=by cases aX<;>first|exact absurd rfl fA|rfl
 refine Fz (T:="tuple") (U:="int") ∅ ht.typeIs (λs'=>ny s' n t) YN F.fills_int_mul kH aB7 F.slot_int_index.lookup
  (km kH (ny s n t) F.entry_int_rmul (F.args_int_rmul_2 _ _) (YC n t a aX.toArray k dict slots) ⟨ho,rfl,ht.typeIs,?_⟩)
 refine cC qR ht.typeIs F.entry_tuple_mul ?_ (F.args_tuple_mul_2 _ _);rw[YG];refine aa (eP (show asIndex (.int n t)=pure n from rfl) ?_);dsimp only;rw[aB (by simp only[Bool.or_eq_true,decide_eq_true_eq];omega)];refine aa (uI ht ?_);have big:¬((aX.toArray.size:Int)*n>(2 ^ 63-1) / 8):=by
  rw[aE];have:((aX.length*n.toNat:Nat):Int)=(aX.length:Int)*n:=by rw[Int.natCast_mul];rw[show((n.toNat:Nat):Int)=n by omega]
  rw[<- this];have hs:sizeLine<2 ^ 59:=by decide
  omega
 have many:¬(Builtin.Tuple.tupleTooMany ((aX.toArray.size:Int)*n)=true):=by
  unfold Builtin.Tuple.tupleTooMany;rw[aE,bE];have:((aX.length*n.toNat:Nat):Int)=(aX.length:Int)*n:=by rw[Int.natCast_mul];rw[show((n.toNat:Nat):Int)=n by omega]
  rw[<- this];omega
 have hsz:sizeOk (.seq (List.replicate n.toNat aX).flatten.toArray):=by
  show(List.replicate n.toNat aX).flatten.toArray.size<=sizeLine;simp only[List.size_toArray,List.length_flatten,List.map_replicate,List.sum_replicate_nat];rw[lC];exact hz
 by_cases e1:n=1
 ·subst e1;rw[aK (by rw[he];rfl)];unfold Builtin.Tuple.tupleIsExact;refine aa (aa (dB ht.typeIs (ai ?_)));rw[aK ∅]
  first
   |exact aa (cV (aa (ai ⟨_,rfl,ai (q1 rfl)⟩)))
   |exact aa (cV (ai ⟨_,rfl,(q1 rfl)⟩))
   |exact aa (cV (ai ⟨_,rfl,ai (q1 rfl)⟩))
 ·rw[aB (by rw[he];simpa using e1)];rw[aB (by rw[he];simp;omega),aB big,aB many];rw[show List.foldl (λx1 x2=>x1++x2) #[] (List.replicate n.toNat aX.toArray)=(List.replicate n.toNat aX).flatten.toArray by rw[ZX];simp]
  first
   |exact aa (m:=Builtin.Tuple.tupleExact _) (cI (ai ⟨_,rfl,q2⟩) hsz)
   |exact aa (m:=Builtin.Tuple.tupleExact _) (cI (ai ⟨_,rfl,ai q2⟩) hsz)
end
end HT
namespace L2
open PySem PySem.Spec PyProof.Rows
section
variable{X:Cx}
def XC(K:PySem.W.Frag):R2:=λx y H Q=>∃(a:Addr) (n:Int) (xs:List V),x=.ref a/\y=.int n/\iU K H a xs/\xs≠[]/\1<=n/\n<2 ^ 62/\xs.length*n.toNat<=sizeLine /\
 (n=1->Q (.ref a) H)/\(∀p,H p=none->Q (.ref p) (upd H p (.tup (List.replicate n.toNat xs).flatten)))
theorem TR:gs X (binaryOp .Mult) (XC X.K):=by
 intro pins s σ H x y v u Q I rx ry h;obtain⟨a,n,xs,rfl,rfl,ha,fA,h1,h2,hz,q1,q2⟩:=h;cases rx;obtain⟨tk,rfl⟩:=ry;obtain⟨aX,r,p,_⟩:=I.tuple ha;refine HT.ZL p (λz=>fA (r.zG.mp z)) h1 h2 (by rw[<- r.length];exact hz) (λe=>⟨.ref a,H,I,rfl,q1 e⟩) ?_;refine⟨.ref s.heap.objs.size,_,I.laid (t':=s.toks) (o:=.tup (List.replicate n.toNat xs).flatten) (λb ob q=>aj _ q) (av _) ?_,rfl,q2 _ (I.cq.fresh (av _))⟩;exact⟨by rw[len_rep,lC];exact hz,_,r.rep _,K2.new _ _⟩
def Tt(sep:Str)(ys:List Str):Nat:=ys.foldl (λn y=>n+y.length+sep.length) 0
end
end L2
namespace HT
open PySem PyProof.Rows Builtin PySem.SeqAt
end HT
namespace L2
open PySem PySem.Spec PyProof.Rows
def Fb(K:PySem.W.Frag)(H:Hp)(a:Addr)(xs:List V):Prop :=
 H a=some (.tup xs)\/∃(o:Obj) (aX:Array Value) (n:Nat),K.lookup a=some o/\o.cls=.type "tuple"/\o.dict=none/\o.data=.seq aX n/\aX.size<=sizeLine/\Vals xs aX.toList
theorem Fb.sq{K:PySem.W.Frag}{H:Hp}{a:Addr}{xs:List V}(h:Fb K H a xs):iU K H a xs:=by
 rcases h with h|⟨o,aX,n,h1,h2,_,h3,h4,h5⟩
 ·exact .inl (.inl h)
 ·exact .inr ⟨o,aX,n,h1,h2,h3,h4,h5⟩
end L2
namespace ST
open PySem PyProof.Rows
def Spot(k:Int):Prop:=0<=k/\k<8
structure Own(mask:Nat)(owner:Array (Option Nat))(pre:List Int):Prop where
 sz:owner.size=mask+1
 fwd:∀(i:Nat) (k:Int),pre[i]?=some k->owner[k.toNat]?=some (some i)
 bwd:∀(j i:Nat),owner[j]?=some (some i)->pre[i]?=some (j:Int)
section
variable{a:Addr}
theorem N1{h:Heap}{o:Obj}{es pJ:Array (Int×Value)}{ep:Nat}{t t':SetTable}(ho:h.get? a=some o)(hd:o.data=.set es ep t):(h.update a (Obj.putSet pJ t')).get? a=some { o with data:=.set pJ (ep+1) t' }:=by
 have:=bx (Obj.putSet pJ t') ho (by rw[lT pJ t' hd];rfl);rw[lT pJ t' hd] at this;exact this
end
end ST
namespace L2
open PySem PySem.Spec PyProof.Rows
variable{X:Cx}
end L2
namespace ST
open PySem PyProof.Rows
end ST
namespace L2
open PySem PySem.Spec PyProof.Rows
variable{X:Cx}
theorem Kj:∀{ns ks:List Int},(ks++ns).Nodup->ST.i0 ks ns=ks++ns
 |[],ks,_=>by simp[ST.i0]
 |n::r,ks,h=>by
  have hn:n∉ks:=λz=>by
   have:=(cY.mp h).2.2 n z n (by simp);exact this rfl
  have e:ST.B4 ks n=ks++[n]:=by
   unfold ST.B4;rw[aB (by simpa using hn)]
  show ST.i0 (ST.B4 ks n) r=_;rw[e,Kj (by rw[bI];exact h),bI]
  rfl
theorem W3{aX:List Value}{ns:List Int}(hi:IntsAre aX ns):∃xs,aX.toArray=intItems xs/\ns=xs.toList.map (·.1):=by
 obtain⟨xs,e⟩:=hi.allInts.items;exact⟨xs,e,by rw[<- hi.numsOf,<- nums_intItems,<- e]⟩
theorem a03(hc:X.calm=true):l9 X (.builtin "sum") (λxs H Q=>∃a,∃ns:List Int,xs=[.ref a]/\gi X.K H a (ns.map V.int)/\Q (.int ns.sum) H):=by
 intro pins s σ H xs us Q I r h;obtain⟨a,ns,rfl,ha,q⟩:=h;obtain⟨u,rfl,ru⟩:=vals1 r;cases ru;obtain⟨aX,rv,p,hz⟩:=I.list ha;obtain⟨xs,e,en⟩:=W3 (E0 rv);refine sum_intListG (xs:=xs) (I.ok.hd hc) (by rw[<- e];exact p.isList) λh' tk t' k=>⟨.int ns.sum,H,I.kept k,⟨t',?_⟩,q⟩
 rw[preSum_eq,dg (by simp),en]
theorem a06(hc:X.calm=true):l9 X (.builtin "max") (λxs H Q=>∃a,∃(ns:List Int) (M:Int),xs=[.ref a]/\gi X.K H a (ns.map V.int)/\M∈ns/\(∀x∈ns,x<=M)/\Q (.int M) H):=by
 intro pins s σ H xs us Q I r h;obtain⟨a,ns,M,rfl,ha,hm,hM,q⟩:=h;obtain⟨u,rfl,ru⟩:=vals1 r;cases ru;obtain⟨aX,rv,p,hz⟩:=I.list ha;obtain⟨xs,e,en⟩:=W3 (E0 rv);have hsz:0<xs.size:=by
  have:=jc hm;rw[en,ag,bp] at this;exact this
 refine max_intList (xs:=xs) (I.ok.hd hc) (by rw[<- e];exact p.isList) hsz λv h' tk hv k=>?_;obtain⟨t,rfl⟩:=intItems_at hv;obtain⟨h1,h2⟩:=argBest_gt (numAt xs) (xs.size-1);generalize argBest (λi j=>decide (numAt xs i>numAt xs j)) (xs.size-1)=j0 at *;have m1:numAt xs j0∈ns:=by rw[en,numAt_eq];exact getD_mem (by rw[ag,bp];omega)
 have m2:M<=numAt xs j0:=by
  rw[en] at hm;obtain⟨j,hj,rfl⟩:=mem_getD hm;rw[ag,bp] at hj;rw[<- numAt_eq];exact h2 j ()
 have e2:numAt xs j0=M:=Int.le_antisymm (hM _ m1) m2;exact⟨.int M,H,I.kept k,⟨t,by rw[e2]⟩,q⟩
theorem a04(hc:X.calm=true):l9 X (.builtin "min") (λxs H Q=>∃a,∃(ns:List Int) (M:Int),xs=[.ref a]/\gi X.K H a (ns.map V.int)/\M∈ns/\(∀x∈ns,M<=x)/\Q (.int M) H):=by
 intro pins s σ H xs us Q I r h;obtain⟨a,ns,M,rfl,ha,hm,hM,q⟩:=h;obtain⟨u,rfl,ru⟩:=vals1 r;cases ru;obtain⟨aX,rv,p,hz⟩:=I.list ha;obtain⟨xs,e,en⟩:=W3 (E0 rv);have hsz:0<xs.size:=by
  have:=jc hm;rw[en,ag,bp] at this;exact this
 refine min_intList (xs:=xs) (I.ok.hd hc) (by rw[<- e];exact p.isList) hsz λv h' tk hv k=>?_;obtain⟨t,rfl⟩:=intItems_at hv;obtain⟨h1,h2⟩:=argBest_lt (numAt xs) (xs.size-1);generalize argBest (λi j=>decide (numAt xs i<numAt xs j)) (xs.size-1)=j0 at *;have m1:numAt xs j0∈ns:=by rw[en,numAt_eq];exact getD_mem (by rw[ag,bp];omega)
 have m2:numAt xs j0<=M:=by
  rw[en] at hm;obtain⟨j,hj,rfl⟩:=mem_getD hm;rw[ag,bp] at hj;rw[<- numAt_eq];exact h2 j ()
 have e2:numAt xs j0=M:=Int.le_antisymm m2 (hM _ m1);exact⟨.int M,H,I.kept k,⟨t,by rw[e2]⟩,q⟩
theorem a09(hc:X.calm=true):l9 X (.builtin "all") (λxs H Q=>∃(a:Addr) (ns:List Int),xs=[.ref a]/\gi X.K H a (ns.map V.int)/\Q (.bl (ns.all λn=>n != 0)) H):=by
 intro pins s σ H xs us Q I r h;obtain⟨a,ns,rfl,ha,q⟩:=h;obtain⟨u,rfl,ru⟩:=vals1 r;cases ru;obtain⟨aX,rv,p,hz⟩:=I.list ha;refine call_all_walk ?_;refine fX p.isList ?_;have fA:a≠s.heap.objs.size:=by
  obtain⟨o,e,_⟩:=id p.isList;exact aI (ay e)
 have hl:=rv.length;rw[ag] at hl;refine⟨s.heap.objs.size,_,_,_,_,_,λi=>ns.getD i 1 != 0,rfl,Ai (A:=X.A.in1) (I.ok.hd hc) _ a fA aX.toArray,⟨⟨_,aG _ rfl,rfl,rfl⟩,?_⟩,?_,λh' tk k=>?_⟩
 ·obtain⟨o,e,q1⟩:=id p.isList;exact⟨o,aj _ e,q1⟩
 ·intro i v s' Q' E' hP hQ;have hv:aX[i]?=some v:=by simpa using hP
  have hi:i<ns.length:=by rw[hl];exact(ax.mp hv).1
  obtain⟨u',vK,AG⟩:=rv.get (i:=i) (x:=V.int ns[i]) (by rw[ak,ao hi];rfl);rw[hv] at vK;cases vK;obtain⟨t,rfl⟩:=AG;refine truthy_int ?_;have:ns.getD i 1=ns[i]:=by simp[List.getD,hi]
  dsimp only at hQ;rw[this] at hQ;exact hQ
 ·have e1:(List.range aX.toArray.size).all (λi=>ns.getD i 1 != 0)=ns.all λn=>n != 0:=by
   rw[aE,<- hl];rw[aW];simp only[List.all_eq_true,List.mem_range];constructor
   ·intro hh x hx;obtain⟨i,hi,rfl⟩:=bG.mp hx;have:=hh i hi;simpa[List.getD,hi] using this
   ·intro hh i hi;have:=hh ns[i] (cK hi);simpa[List.getD,hi] using this
  rw[e1];exact ⟨.bl _,H,I.kept (t':=tk) λb o e=>k b o (by
   intro hb;have:b=s.heap.objs.size:=by simpa using hb
   exact absurd (ay e) (by rw [this];exact bJ _)) (aj _ e),rfl,q⟩
theorem Yl:l9 X (.builtin "len") (λxs H Q=>∃a,∃ks:List Int,xs=[.ref a]/\H a=some (sU X a ks)/\Q (.int ks.length) H):=by
 intro pins s σ H xs us Q I r h;obtain⟨a,ks,rfl,ha,q⟩:=h;obtain⟨u,rfl,ru⟩:=vals1 r;cases ru;have hS:ST.A3 X.prog X.w s.heap a ks:=(I.cq a _ ha).1;obtain⟨o,es,ep,t,e,ex,ed,_,hp,nd,hz,hf,_⟩:=hS;have hl:es.size=ks.length:=by have:=hp.length_eq;simpa using this
 refine call_len_set e ex ed hf (by have:scanBound<2 ^ 62:=∅;omega) ⟨.int ks.length,H,I.tok _,⟨_,by rw[hl]⟩,q⟩
theorem Zm:gs X (compareOp .In) (λx y H Q=>∃i a S n,x=.int i/\y=.ref a/\H a=some (.set S n)/\Q (.bl (S i)) H):=by
 intro pins s σ H x y v u Q I rx ry h;obtain⟨i,a,S,n,rfl,rfl,ha,q⟩:=h;obtain⟨t,rfl⟩:=rx;cases ry;exact wpAny_inSet_of (knd:=intKind X.prog X.w) (k:=i) (iK _ _ _ _) rfl (I.cq a _ ha) ⟨.bl (S i),H,I.tok _,rfl,q⟩
theorem aC5:gs X (compareOp .NotIn) (λx y H Q=>∃i a S n,x=.int i/\y=.ref a/\H a=some (.set S n)/\Q (.bl (!S i)) H):=by
 intro pins s σ H x y v u Q I rx ry h;obtain⟨i,a,S,n,rfl,rfl,ha,q⟩:=h;obtain⟨t,rfl⟩:=rx;cases ry;exact wpAny_notInSet_of (knd:=intKind X.prog X.w) (k:=i) (iK _ _ _ _) rfl (I.cq a _ ha) ⟨.bl (!S i),H,I.tok _,rfl,q⟩
end L2
namespace ST
open PySem PyProof.Rows
section
variable{prog:Program}{w:World}{A:Around}{E:Value->Shared->Prop}{s:Shared}{a:Addr}
theorem aN2{T:String}{o:Obj}{items:Array Value}{n:Nat}{ns:List Int}(hT:T="list"\/T="tuple")(ho:s.heap.get? a=some o)(hc:o.cls=.type T)(hd:o.data=.seq items n)(hI:IntsAre items.toList ns)(yC:ns.length<=10000){Q:Value->Shared->Prop}(h:∀(h1:Heap) (vs:List Value) (kS:List Int) e h',(∀b o',s.heap.get? b=some o'->h1.get? b=some o')->IntsAre vs kS->kS.Perm ns->kS.Pairwise (·<=·)->h'.get? h1.objs.size=some (seqObj "list" vs.toArray e)->(∀c o,h1.get? c=some o->h'.get? c=some o)->Q (.ref h1.objs.size) { s with heap:=h' }) :
  wpAny (model prog w) A (call (.builtin "sorted") [.ref a]) Q E s:=by
 have hl:items.toList.length=ns.length:=zK hI;refine FJ kind_sorted plain_sorted entry_sorted (args_sorted1 _) ?_;unfold Builtin.«sorted»;refine aa (m:=checkCount "sorted" 1 1 _) (ai ?_);refine aa (wpAny_collect_seq (A:=A.in1) a hT ho hc hd (λh1 kp=>?_) (by simp at hl;unfold sizeLine;omega));have jO:items.toList.length<=100000:=by omega
 generalize items.toList=vs at *;refine aa (Mz (s:={ s with heap:=h1 }) ?_);have pz:(h1.push (seqObj "list" vs.toArray 0)).get? h1.objs.size=some (seqObj "list" vs.toArray 0):=aG _ rfl;refine aa (bL (cC (s:={ s with heap:=h1.push (seqObj "list" vs.toArray 0) }) slot_list_sort ⟨_,pz,rfl⟩ entry_list_sort (TS.Md pz hI jO λout kS a1 a2 a3=>⟨_,rfl,?_⟩) (args_list_sort _)));obtain⟨e,ly⟩:=sortedHeap_at (vs:=vs) (out:=out) pz;refine ai ⟨_,rfl,h h1 out.toList kS e _ kp a1 a2 a3 ly (λc o' e'=>?_)⟩;have hc:=ay e';rw[sortedHeap_old (aI hc) (by rw[jW];exact ic hc)];exact aj _ e'
end
end ST
namespace L2
open PySem PyProof.Rows
def K4(ns:List Int):List Int:=ns.mergeSort (λa b=>decide (a<=b))
theorem JX(ns:List Int):(K4 ns).Pairwise (·<=·):=by
 have:=tE (le:=λa b:Int=>decide (a<=b)) (λa b c h1 h2=>by simp at *;omega) (λa b=>by simp;omega) ns;exact this.imp λh=>by simpa using h
theorem Z5(ns:List Int):(K4 ns).Perm ns:=FF _ _
section
variable{X:Cx}
theorem Yx:l9 X (.builtin "sorted") (λxs H Q=>∃p,∃ns:List Int,xs=[.ref p]/\(gi X.K H p (ns.map V.int)\/iU X.K H p (ns.map V.int))/\ns.length<=10000/\∀l,H l=none->Q (.ref l) (upd H l (.lst ((K4 ns).map V.int)))):=by
 intro pins s σ H xs us Q I r h;obtain⟨p,ns,rfl,hq,hl,q⟩:=h;obtain⟨u,rfl,rx⟩:=vals1 r;cases rx;obtain⟨T,aX,o,n,hT,r',ho,hc,hd⟩:∃T,∃(aX:List Value) (o:Obj) (n:Nat),(T="list"\/T="tuple")/\Vals (ns.map V.int) aX/\s.heap.get? p=some o/\o.cls=.type T/\o.data=.seq aX.toArray n:=by
  rcases hq with hq|hq
  ·obtain⟨aX,r',pl,_⟩:=I.list hq;obtain⟨o,ho,hc,n,hd⟩:=pl.isList;exact⟨_,aX,o,n,.inl rfl,r',ho,hc,hd⟩
  ·obtain⟨aX,r',⟨o,ho,hc,n,hd⟩,_⟩:=I.tuple hq;exact⟨_,aX,o,n,.inr rfl,r',ho,hc,hd⟩
 refine ST.aN2 hT ho hc hd (E0 r') hl λh1 vs kS e h' kp i1 i2 i3 i4 i5=>?_;have e1:kS=K4 ns:=U3 (i2.trans (Z5 ns).symm) i3 (JX ns);subst e1;have I1:Inv X pins σ H { s with heap:=h1 }:=I.kept (t':=s.toks) kp;have hz:(K4 ns).length<=10000:=by rw[(Z5 ns).length_eq];exact hl
 exact⟨.ref h1.objs.size,_,(I1.laid (a:=h1.objs.size) (o:=.lst ((K4 ns).map V.int)) (t':=s.toks) i5 (av _) ⟨by rw[ag];exact aF hz ∅,vs,e,JY i1,i4⟩),rfl,q _ (I1.cq.fresh (av _))⟩
theorem JG:∀{ks:List Key} {l:List Value},l.length=ks.length->(∀(i:Nat) v,l[i]?=some v->∃k,ks[i]?=some k/\sW k v=true)->Vals (ks.map kV) l
 |[],[],_,_=>.nil
 |k::ks,v::l,hl,h=>by
  obtain⟨k',e,hk⟩:=h 0 v rfl;cases e;refine .cons ?_ (JG (by simpa using hl) λi v e=>h (i+1) v e);rcases u7 hk with⟨i,t,rfl,rfl⟩|⟨x,t,rfl,rfl⟩<;>exact⟨t,rfl⟩
theorem Yw(hc:X.calm=true):l9 X (.type "list") (λxs H Q=>∃a kvs,xs=[.ref a]/\H a=some (.dK kvs)/\kvs.length<=10000/\∀p,H p=none->Q (.ref p) (upd H p (.lst ((kvs.map (·.1)).map kV)))):=by
 intro pins s σ H xs us Q I r h;obtain⟨a,kvs,rfl,ha,hl,q⟩:=h;obtain⟨u,rfl,rx⟩:=vals1 r;cases rx;obtain⟨_,hd,vs,kv,hD⟩:=ID I.cq ha;obtain⟨ep,hA⟩:=hD.dictAt;have jO:vs.length<=10000:=by rw[<- kv.length];exact hl
 refine PySem.W.kdl_call (PySem.W.kdl_dict (kvs:=vs) (ep:=ep) hd) (I.ok.hd hc) hA (aF jO ∅) λh' tk acc c k1 k2 k3=>?_;have hv:Vals ((kvs.map (·.1)).map kV) acc.toList:=by
  refine JG (by rw[bp,k3.1,ag,kv.length]) λi v e=>?_;obtain⟨k,x,e1,e2⟩:=k3.2 i v (by simpa using e);exact⟨k,by rw[kv.keys,ak,e1];rfl,e2⟩
 exact⟨.ref s.heap.objs.size,_,(I.laid (a:=s.heap.objs.size) (o:=.lst ((kvs.map (·.1)).map kV)) (t':=tk) k1 (av _) ⟨by rw[ag,ag];exact aF hl ∅,acc.toList,c,hv,by simpa using k2⟩),rfl,q _ (I.cq.fresh (av _))⟩
end
end L2
namespace ST
open PySem PyProof.Rows
variable{tk:Tok}{items:Array Value}{n:Nat}{ks:List Int}
theorem aD5:typeLookup (.type "list") "keys"=pure none:=by rw[gX,eV];kernel_rfl
theorem YL:typeLookup (.type "list") "__getattr__"=pure none:=by rw[gX,eV];kernel_rfl
section
variable{prog:Program}{w:World}{A:Around}{E:Value->Shared->Prop}{h:Heap}{g:Array GenState}{d:Drawn}{t:Nat}{os:OsState}{a:Addr}{o:Obj}
theorem YK{Q:Fin->Shared->Prop}(hh:A.handled=none)(hx:h.get? a=some o)(hc:o.cls=.type "list")(hn:o.dict=none)(hd:o.data=.seq items n)(hq:∀e h' tk,(∀b o,h.get? b=some o->h'.get? b=some o)->t<=tk->(∃oe,h'.get? e=some oe/\oe.cls=.type "AttributeError")->E (.ref e) ⟨h',g,d,tk,os⟩) :
  wpAny (model prog w) A (Builtin.«object.__getattribute__» ⟨[.ref a,.str "keys" tk],[]⟩) Q E ⟨h,g,d,t,os⟩:=by
 have hT:(⟨h,g,d,t,os⟩:Shared).TypeIs (.ref a) "list":=⟨_,hx,hc⟩
 have f4:=aD5
 repeat (any_goals (first|assumption|wp_step))
 rw[hd];dsimp only;unfold instanceDict
 repeat (any_goals (first|assumption|wp_step))
 rw[hc];dsimp only;rw[hn];dsimp only;rw[aK (by rfl)];refine ai ?_;unfold Builtin.ObjectAttr.inDict;refine ai ?_;dsimp only
 repeat (any_goals (first|assumption|wp_step))
 have hm:(Str.ofString (toString "'"++toString ((Manifest.find? "list").elim "list" λx=>x.tpName)++toString "' object has no attribute '")++Str.ofString "keys"++Str.ofString "'").length<=sizeLine:=by decide +kernel
 generalize (Str.ofString (toString "'"++toString ((Manifest.find? "list").elim "list" λx=>x.tpName)++toString "' object has no attribute '")++Str.ofString "keys"++Str.ofString "'")=msg at *;unfold raiseAttrError
 repeat (any_goals (first|assumption|wp_step))
 have f5:isSubtype (.type "AttributeError") (.type "AttributeError")=pure true:=by rw[eF];kernel_rfl
 refine eP f5 ?_;rw[aB ∅]
 repeat (any_goals (first|assumption|wp_step))
 refine wpAny_raiseNew_none hh (hq _ _ _ (λb ob e=>?_) () ?_)
 ·have hb:b≠(h.push { cls:=Value.type "tuple",data:=Data.seq #[Value.str msg t] }).objs.size:=by
   have:=ay e;rw[eI];exact aI (ic this)
  exact((bX _ _ _).2 b hb).trans (aj _ (aj _ e))
 ·exact⟨_,bx _ (aG _ rfl) rfl,rfl⟩
theorem YE{R:Result->Shared->Prop}(hh:A.handled=none)(hx:h.get? a=some o)(hc:o.cls=.type "list")(hn:o.dict=none)(hd:o.data=.seq items n)(hq:∀e h' tk,(∀b o,h.get? b=some o->h'.get? b=some o)->t<=tk->(∃oe,h'.get? e=some oe/\oe.cls=.type "AttributeError")->R (.error (.ref e)) ⟨h',g,d,tk,os⟩) :
  codeAny (model prog w) A (.call (.builtin "list.__getattribute__") ⟨[.ref a,.str "keys" tk],[]⟩) R ⟨h,g,d,t,os⟩ :=
 codeAny_call_builtin fI.plain F.entry_list_ga (fI.check _ _ _ _ _ _ _ _ (show(⟨h,g,d,t,os⟩:Shared).TypeIs (.ref a) "list" from⟨_,hx,hc⟩) (F.args_list_getattribute_2 _ _) (YK (by simp[hh]) hx hc hn hd hq))
theorem aD8{Q:Value->Shared->Prop}(hh:A.handled=none)(hx:h.get? a=some o)(hc:o.cls=.type "list")(hn:o.dict=none)(hd:o.data=.seq items n)(hq:∀e h' tk,(∀b o,h.get? b=some o->h'.get? b=some o)->t<=tk->(∃oe,h'.get? e=some oe/\oe.cls=.type "AttributeError")->E (.ref e) ⟨h',g,d,tk,os⟩):wpAny (model prog w) A (getAttrBy (.ref a) (.str "keys" tk) false) Q E ⟨h,g,d,t,os⟩:=by
 have hT:(⟨h,g,d,t,os⟩:Shared).TypeIs (.ref a) "list":=⟨_,hx,hc⟩
 have f2:=fI.lookup;have f3:=fI.bind (.ref a)
 repeat (any_goals (first|assumption|wp_step))
 refine YE hh hx hc hn hd λe h' kJ k1 k2 ⟨oe,he,yq⟩=>?_;have OE:(⟨h',g,d,kJ,os⟩:Shared).TypeIs (.ref e) "AttributeError":=⟨_,he,yq⟩
 have f5:isSubtype (.type "AttributeError") (.type "AttributeError")=pure true:=by rw[eF];kernel_rfl
 have f6:=YL;dsimp only;unfold getattributeRaised;refine aa (ft OE f5 ?_);rw[aK rfl];unfold hookBehind
 repeat (any_goals (first|assumption|wp_step))
 exact hq e h' kJ k1 k2 ⟨oe,he,yq⟩
theorem YD{Q:Option Value->Shared->Prop}(hh:A.handled=none)(hx:h.get? a=some o)(hc:o.cls=.type "list")(hn:o.dict=none)(hd:o.data=.seq items n)(hq:∀h' tk,(∀b o,h.get? b=some o->h'.get? b=some o)->t<=tk->Q none ⟨h',g,d,tk,os⟩):wpAny (model prog w) A (getAttr? (.ref a) "keys") Q E ⟨h,g,d,t,os⟩:=by
 unfold getAttr? getAttrBy?;have f5:isSubtype (.type "AttributeError") (.type "AttributeError")=pure true:=by rw[eF];kernel_rfl
 refine aa (wpAny_mkText ?_);refine aa (mV (aD8 hh hx hc hn hd λe h' kJ k1 k2 ⟨oe,he,yq⟩=>?_));dsimp only;refine aa (ft (show(⟨h',g,d,kJ,os⟩:Shared).TypeIs (.ref e) "AttributeError" from⟨_,he,yq⟩) f5 ?_);rw[aK rfl];exact ai (hq h' kJ k1 (Nat.le_of_succ_le k2))
theorem O2:plainId "dict.update.loop"=true:=by decide +kernel
theorem Ka:entryFor table "dict.update.loop"=some Builtin.«dict.update.loop»:=entryFor_of_tree (by kernel_rfl)
def K1(ks:List Int):List (L2.Key×Value):=ks.map λk=>(.inl k,.bool true)
theorem stored_new{k:Int}(h:k∉ks):stored (K1 ks) (.inl k:L2.Key) (.bool true)=K1 (ks++[k]):=by
 unfold stored;rw[aB]
 ·simp[K1]
 ·intro z;rw[aU] at z;obtain⟨x,hx,e⟩:=z;obtain⟨j,hj,rfl⟩:=aL.mp hx;have:j=k:=mW (bg e);exact h (this▸hj)
theorem aO4{R:Result->Shared->Prop}{I:Addr}{fp wr:List Addr}{G:Array GenState->Array GenState->Prop}{P:Nat->Value->Prop}{St:Nat->Shared->Prop}(W:WalksS prog w A.in1 I fp wr G n P St)(Hj:a∉fp)(hn:n=ks.length){tp:Nat->Addr}(hv:∀i v,P i v->v=.ref (tp i))(GJ:∀i,i<n->tp i∉a::wr)(hb:n<=10000)(nd:ks.Nodup):∀(k i:Nat) (s:Shared),i+k=n->St i s->(∀j,j<n->∃tk,s.heap.IsTuple (tp j) #[.int (ks.getD j 0) tk,.bool true])->s.heap.DictOf (L2.o6 prog w) a (K1 (ks.take i)) ->
   (∀s',Moved (a::wr) G s s'->s'.heap.DictOf (L2.o6 prog w) a (K1 ks)->R (.ok (.ret .none)) s')->codeAny (model prog w) A (.builtin "dict.update.loop" ⟨[.ref a,.ref I,rawInt i,.none],[]⟩) R s:=by
 have hw:a∉wr:=λh=>Hj (W.sub _ h);have nJ:∀b∈wr,b∈a::wr:=λb hb=>by simp[hb]
 intro k
 induction k with
 |zero =>
  intro i s e st ht hS hR;obtain rfl:i=n:=by omega
  refine dN Ka ?_;rw[df O2 _];unfold Builtin.«dict.update.loop»;dsimp only;refine aa (W.done s _ _ st λs' m=>?_);refine aa (m:=Builtin.Dict.addKeywords _ _) (ai ?_);refine ai (hR s' (m.mono nJ) ?_);rw[hn,bS] at hS;obtain⟨o,es,ep,ho,r⟩:=hS;exact⟨o,es,ep,m.heap a o hw ho,r⟩
 |succ k ih =>
  intro i s e st ht hS hR;have dS:i<ks.length:=by omega
  refine dN Ka ?_;rw[df O2 _];unfold Builtin.«dict.update.loop»;dsimp only;refine aa (W.item i s _ _ () st λv s' hP aY m=>?_);cases hv i v hP;have oO:s'.heap.DictOf (L2.o6 prog w) a (K1 (ks.take i)):=by
   obtain⟨o,es,ep,ho,r⟩:=hS;exact⟨o,es,ep,m.heap a o hw ho,r⟩
  have qd:∀j,j<n->∃tk,s'.heap.IsTuple (tp j) #[.int (ks.getD j 0) tk,.bool true]:=λj hj=>by
   obtain⟨tk,o,ho,r⟩:=ht j hj;exact⟨tk,o,m.heap _ o (λz=>GJ j hj (by simp[z])) ho,r⟩
  obtain⟨tk,o,ho,hc,nn,hd⟩:=qd i ();refine aa (bL ?_);refine aa (wpAny_tryCatch ?_);unfold Builtin.Dict.pairItems;refine aa (dB (show s'.TypeIs (.ref (tp i)) "tuple" from⟨o,ho,hc⟩) ?_);rw[aK ∅];unfold seqItems?;dsimp only;refine aa (aa (wpAny_load ho ?_));rw[hd];refine ai (ai ?_);show wpAny (model prog w) A.in1 (holding [.int (ks.getD i 0) tk,.bool true] (dictSet a (.int (ks.getD i 0) tk) (.bool true))) _ _ _;refine bL ?_;unfold dictSet;refine bL (aa ((L2.o6 prog w).pyHash (k:=.inl (ks.getD i 0)) (L2.V4 _ _ _ _) ?_));have hl:(K1 (ks.take i)).length<=10000:=by
   unfold K1;rw[ag,cv];omega
  refine wpAny_dictSetHashed_pairs (s:={ s' with toks:=s'.toks+1 }) (k:=(.inl (ks.getD i 0):L2.Key)) (L2.V4 _ _ _ _) oO (λh' ql sb=>?_) (aF hl ∅);have ek:ks.take (i+1)=ks.take i++[ks.getD i 0]:=by
   rw[bQ,ao dS];simp[List.getD,dS]
  have pA:ks.getD i 0∉ks.take i:=by
   have:(ks.take (i+1)).Nodup:=nd.sublist (lD _ _);rw[ek,cY] at this;exact λz=>this.2.2 _ z _ (by simp) rfl
  rw[stored_new pA,<- ek] at ql;refine ai ⟨gJ O2 _,?_⟩;rw[show((i:Nat):Int)+1=((i+1:Nat):Int) by omega];refine ih (i+1) _ () (W.frame _ s' _ _ aY (cB _) λb hb o e=>by rw[sb.2 b λz=>Hj (z▸hb)];exact e) (λj hj=>?_) ql λs2 m2 h2=>?_
  ·obtain⟨tk,o,ho,r⟩:=qd j hj;exact⟨tk,o,(sb.2 _ λz=>GJ j hj (by simp[z])).trans ho,r⟩
  ·exact hR s2 (Moved.trans W.gtrans ((m.mono nJ).then_heap (cB _) λb o hb e=>by rw[sb.2 b λz=>hb (by rw[z];simp)];exact e) m2) h2
theorem ZV{l:Addr}{tp:Nat->Addr}{nn:Nat}{s:Shared}{Q:Value->Shared->Prop}(hh:A.handled=none)(ho:s.heap.get? l=some o)(hc:o.cls=.type "list")(hn:o.dict=none)(hd:o.data=.seq items nn)(hsz:items.size=ks.length)(hit:∀(i:Nat) (v:Value),items[i]?=some v->v=.ref (tp i))(ht:∀j,j<ks.length->∃tk,s.heap.IsTuple (tp j) #[.int (ks.getD j 0) tk,.bool true])(hb:ks.length<=10000)(nd:ks.Nodup)(h:∀h' tk,h'.DictOf (L2.o6 prog w) s.heap.objs.size (K1 ks)->(∀b o,s.heap.get? b=some o->h'.get? b=some o)->s.toks<=tk->Q (.ref s.heap.objs.size) { s with heap:=h',toks:=tk }) :
  wpAny (model prog w) A (call (.type "dict") [.ref l]) Q E s:=by
 refine callType_codes (Q₁:=λobj bY=>obj=.ref s.heap.objs.size/\bY={ s with heap:=s.heap.push { cls:=.type "dict",data:=.dict #[] } }) F.kt_called_dict (F.kt_typeCall_dict_1 _) F.entry_dict_init (kt_code_dict_new _ ⟨rfl,rfl⟩) ?_;rintro obj bY ⟨rfl,rfl⟩;have mL:(s.heap.push { cls:=.type "dict",data:=.dict #[] }).DictOf (L2.o6 prog w) s.heap.objs.size []:=Heap.DictOf.new s.heap;refine⟨mL.typeIs,F.args_dict_init_2 _ _,?_⟩;have qf:(s.heap.push { cls:=.type "dict",data:=.dict #[] }).get? l=some o:=aj _ ho;have wb:Shared.TypeIs { s with heap:=s.heap.push { cls:=.type "dict",data:=.dict #[] } } (.ref l) "list":=⟨o,qf,hc⟩
 unfold Builtin.«dict.__init__»;refine aa ?_;unfold Builtin.Dict.selfAndRest;refine aa (wpAny_notOrdered_dict mL.typeIs ?_);show wpAny _ _ (pure (s.heap.objs.size,[Value.ref l])) _ _ _;refine ai ?_;show wpAny _ _ (Builtin.Dict.updateFrom "dict.__init__" s.heap.objs.size (.ref l) [] .none) _ _ _;unfold Builtin.Dict.updateFrom;refine aa (dB wb ?_);rw[aK ∅];refine aa (YD (by simp[hh]) qf hc hn hd λh1 uY k1 k2=>?_);rw[aK (by rfl)];refine aa (cV ?_);have mK:h1.get? l=some o:=k1 _ _ qf;have jO:h1.IsList l items:=⟨o,mK,hc,nn,hd⟩
 have dS:l<h1.objs.size:=ay mK;have yi:l≠h1.objs.size:=aI dS;refine aa (fX (s:={ s with heap:=h1,toks:=uY }) jO ?_);refine ai ⟨gJ O2 _,?_⟩;have la:l<s.heap.objs.size:=ay ho;obtain⟨oa,_,_,NV,_⟩:=id mL;have oN:s.heap.objs.size<h1.objs.size:=ay (k1 _ _ NV);have tl:∀j,j<ks.length->tp j<s.heap.objs.size:=λj hj=>by
  obtain⟨_,o',e,_⟩:=ht j hj;exact ay e
 refine aO4 (A:=A.in1) (a:=s.heap.objs.size) (ks:=ks) (tp:=tp) (Ai (A:=A.in1.in1) (by simp[hh]) h1.objs.size l yi items).toS (λz=>?_) hsz hit (λj hj z=>?_) () nd items.size 0 _ () ⟨⟨_,aG _ rfl,rfl,rfl⟩,jO.push _⟩ (λj hj=>?_) ?_ λs' m oO=>?_
 ·simp only[List.mem_cons,List.not_mem_nil,or_false] at z;rcases z with z|z
  ·exact aI oN z
  ·exact bV la z
 ·have:=tl j ();simp only[List.mem_cons,List.not_mem_nil,or_false] at z;rcases z with z|z
  ·exact aI this z
  ·exact aI (cN this oN) z
 ·obtain⟨tk,o',e,r⟩:=ht j ();exact⟨tk,o',aj _ (k1 _ _ (aj _ e)),r⟩
 ·obtain⟨o',es,ep,e,r⟩:=mL;exact⟨o',es,ep,aj _ (k1 _ _ e),r⟩
 ·have eS:s'={ s with heap:=s'.heap,toks:=s'.toks }:=by
   obtain⟨gn,g',d',kJ,rE⟩:=s';have m1:g'=s.gens:=m.gens;have m2:d'=s.drawn:=m.drawn;have m3:rE=s.os:=m.os;subst m1;subst m2;subst m3
   rfl
  rw[eS];refine⟨rfl,h _ _ oO (λb o' e=>?_) (aF k2 m.toks)⟩;have lb:=ay e;refine m.heap b o' (λz=>?_) (aj _ (k1 _ _ (aj _ e)));simp only[List.mem_cons,List.not_mem_nil,or_false] at z;rcases z with z|z
  ·exact aI lb z
  ·exact aI (cN lb oN) z
end
end ST
namespace L2
open PySem PyProof.Rows
section
variable{X:Cx}
theorem Lw:∀ks:List Int,KV (ks.map λk=>((.inl k:Key),V.bl true)) (ST.K1 ks)
 |[]=>.nil
 |_::ks=>.cons ⟨rfl,rfl⟩ (Lw ks)
theorem YH(hc:X.calm=true):l9 X (.type "dict") (λxs H Q=>∃a,∃(ts:List Addr) (ks:List Int),xs=[.ref a]/\gi X.K H a (ts.map V.ref)/\ts.length=ks.length/\(∀(i:Nat) t k,ts[i]?=some t->ks[i]?=some k->iU X.K H t [.int k,.bl true])/\ks.length<=10000/\ks.Nodup/\∀p,H p=none->Q (.ref p) (upd H p (.dK (ks.map λk=>(.inl k,.bl true))))):=by
 intro pins s σ H xs us Q I r h;obtain⟨a,ts,ks,rfl,hq,hl,ht,hz,nd,q⟩:=h;obtain⟨u,rfl,ru⟩:=vals1 r;cases ru;obtain⟨aX,rv,⟨o,n,ho,kf,Oo,hd⟩,_⟩:=I.list hq;have hlen:aX.length=ts.length:=by rw[<- rv.length];simp
 refine ST.ZV (tp:=λi=>ts.getD i 0) (ks:=ks) (I.ok.hd hc) ho kf Oo hd (by rw[aE];omega) (λi v hv=>?_) (λj hj=>?_) hz nd λh' tk hS hk vL=>?_
 ·rw[List.getElem?_toArray] at hv;have hi:i<ts.length:=by rw[<- hlen];exact(ax.mp hv).1
  obtain⟨u,hu,ru⟩:=rv.get (i:=i) (x:=V.ref ts[i]) (by rw[ak,ao hi];rfl);rw[hv] at hu;cases hu;rw[show ts.getD i 0=ts[i] by simp[List.getD,hi]];exact ru
 ·have tT:j<ts.length:=by omega
  obtain⟨nT,Ni,p2,_⟩:=I.tuple (ht j ts[j] ks[j] (ao tT) (ao hj));cases Ni with
  |cons r1 r2 =>
  cases r2 with
  |cons r2 r3 =>
  cases r3;obtain⟨tk,rfl⟩:=r1;cases r2;rw[show ts.getD j 0=ts[j] by simp[List.getD,tT],show ks.getD j 0=ks[j] by simp[List.getD,hj]];exact⟨tk,p2⟩
 ·exact⟨.ref _,_,I.laid (a:=s.heap.objs.size) (t':=tk) hk (av _) (EJ (by rw[ag];exact aF hz ∅) (cO.mpr (cu (aI I.big))) (Lw ks) hS),rfl,q _ (I.cq.fresh (av _))⟩
theorem UA{h:Heap}{a:Addr}{ns:List Int}(x:ST.A3 X.prog X.w h a (ST.i0 [] ns)):h.SetOf (intKind X.prog X.w) a (λk=>decide (k∈ns)) (ST.i0 [] ns).length:=by
 obtain⟨o,es,ep,t,ho,hx,hd,og,hp,hn,hb,hf,hw⟩:=x;refine⟨o,es,ep,t,ho,hx,hd,og,λk=>?_,hb,hf,by rw[<- hp.length_eq];simp⟩;have mem:k∈ns↔k∈es.toList.map λe=>ST.toI e.2:=by rw[hp.mem_iff,ST.Q5];simp
 rw[bE,mem];constructor
 ·intro z;obtain⟨e,he,rfl⟩:=aL.mp z;obtain⟨tk,h1,_⟩:=ST.zA og he;refine⟨e,he,?_⟩;rw[h1];exact iK _ _ _ _
 ·rintro⟨e,he,z⟩;obtain⟨tk,h1,_⟩:=ST.zA og he;refine aL.mpr ⟨e,he,?_⟩;have h2:(intKind X.prog X.w).is (ST.toI e.2) e.2=true:=by rw[h1];exact iK _ _ _ _
  exact(intKind X.prog X.w).inj _ _ _ h2 z
theorem Ym(hc:X.calm=true):l9 X (.type "set") (λxs H Q=>∃a ns,xs=[.ref a]/\gi X.K H a (ns.map V.int)/\ns.length<600/\∀p,H p=none->Q (.ref p) (upd H p (.set (λk=>decide (k∈ns)) (ST.i0 [] ns).length))):=by
 intro pins s σ H xs us Q I r h;obtain⟨a,ns,rfl,hq,hl,q⟩:=h;cases r with
 |cons r rr =>
 cases rr;cases r;obtain⟨aX,rv,p,hz⟩:=I.list hq;have hI:=E0 rv;have hlen:=ST.zK hI;refine ST.Lz (ns:=ns) (I.ok.hd hc) (.inl p.isList) (by simpa using hI) (by rw[aE,hlen];exact az (Nat.succ_lt_succ hl) ∅) λh' tk hS hk _=>?_;exact⟨.ref _,_,I.laid (a:=s.heap.objs.size) (o:=.set (λk=>decide (k∈ns)) (ST.i0 [] ns).length) (t':=tk) hk (av _) (UA hS),rfl,q _ (I.cq.fresh (av _))⟩
end
end L2
namespace M
open PySem L2
set_option genInjectivity true in
inductive D where
 |cE|bl (b:Bool)|int (i:Int)|str (x:Str)|ty (n:String)|ref (i:Nat)|tup (l:List D)
set_option genInjectivity true in
inductive O where
 |lst (l:List D)|pE (l:List D)
 |dz (kvs:List (Key×D))
 |ins (c:Str) (fs:List (Str×D))
 |set (S:Int->Bool) (n:Nat)
def O.mut:O->Bool
 |.pE _=>false
 |_=>true
def pP:D->Option Key
 |.int i=>some (.inl i)
 |.str x=>some (.inr x)
 |_=>none
def u9(kvs:List (Key×D))(k:Key):Option D:=(kvs.find? λkv=>decide (kv.1=k)).map (·.2)
def putD(kvs:List (Key×D))(k:Key)(v:D):List (Key×D) :=
 if(kvs.any λkv=>decide (kv.1=k))=true then kvs.map (λkv=>if kv.1=k then(kv.1,v) else kv) else kvs++[(k,v)]
def n5(f:Str)(v:D):List (Str×D)->List (Str×D)
 |[]=>[(f,v)]
 |(g,x)::r=>if g=f then(g,v)::r else(g,x)::n5 f v r
def O5:List D->Str->Option D
 |.tup [.str y,v]::r,x=>if x=y then some v else O5 r x
 |_::_,_=>none
 |[],_=>none
def U7:List D->Option Str
 |[]=>some Str.empty
 |.str x::r=>(U7 r).map λy=>x++y
 |_=>none
structure Xn where
 cls:Str
noncomputable abbrev G:=List O
noncomputable abbrev S:=List (Option D)
noncomputable abbrev KD:=D->G->Prop
noncomputable abbrev KX:=Xn->G->Prop
noncomputable abbrev ki:KX:=λ_ _=>False
def EL:Option O->Option (List D)
 |some (.lst l)=>some l
 |some (.pE l)=>some l
 |_=>none
noncomputable abbrev c8(g:G)(a:Nat):Option (List D):=EL g[a]?
def rd(g:G):Nat->D->Option PyData
 |_,.cE=>some .none
 |_,.bl b=>some (.bool b)
 |_,.int i=>some (.int i)
 |_,.str x=>some (.str x)
 |_,.ty _=>none
 |0,.ref _=>none
 |0,.tup _=>none
 |n+1,.ref a=>match c8 g a with
  |some l=>(l.mapM (rd g n)).map .list
  |none=>none
 |n+1,.tup l=>(l.mapM (rd g n)).map .tuple
def Nj(g:G)(l:List D):Option (List PyData):=l.mapM (rd g 6)
def P4(g:G):D->Option (List D)
 |.tup l=>some l
 |.ref a=>c8 g a
 |_=>none
def O6:D->Bool
 |.cE=>true
 |_=>false
def cut{α:Type}(xs:List α)(lo hi:Option Int):List α:=(xs.drop (HT.dW xs.length 0 lo)).take (HT.dW xs.length xs.length hi-HT.dW xs.length 0 lo)
def Fg(g:G)(x:D)(c:String):Option Bool:=match x with
 |.cE=>some (c=="NoneType")
 |.bl _=>some (c=="bool"||c=="int")
 |.int _=>some (c=="int")
 |.str _=>some (c=="str")
 |.tup _=>some (c=="tuple")
 |.ref a=>match g[a]? with
  |some (.lst _)=>some (c=="list")
  |_=>none
 |.ty _=>none
def j7(lo:Int)(n:Nat):List D:=(List.range n).map λ(k:Nat)=>.int (lo+k)
def V3:List D->Option Bool
 |[]=>some true
 |.bl b::r=>(V3 r).map λc=>b&&c
 |_=>none
inductive Pr where
 |bin (op:Operator)|un (op:UnaryOp)|cmp (op:CmpOp)
 |ix|lL (lo hi:Bool)|rev|tup|lst|W6
 |len|list|tuple|isin|all|max|min|int|str|jE|kW|sset|Nd|lg
 |Hs|wy|oo|fv|mR|fld (f:Str)
 |append|pop|get|index|join|iadd|clear|AH|extend|any|jZ|sum|qG|AW|vf|nS|ve (i:Int)
noncomputable abbrev DR:=List D->G->D->G->Prop
def YB:Operator->Int->Int->Int->Prop
 |.Add,i,j,r=>r=i+j
 |.Sub,i,j,r=>r=i-j
 |.Mult,i,j,r=>sQ i j/\r=i*j
 |.FloorDiv,i,j,r=>CI i j/\r=i / j
 |.Mod,i,j,r=>0<j/\r=i % j
 |.Pow,i,j,r=>X3 i j/\r=i ^ j.toNat
 |.LShift,i,j,r=>X3 i j/\r=i*2 ^ j.toNat
 |.BitAnd,i,j,r=>r=Builtin.bitAnd i j
 |.BitOr,i,j,r=>r=Builtin.bitOr i j
 |_,_,_,_=>False
def Vg(op:Operator):DR:=λxs g d g' =>
 (∃i j r,xs=[.int i,.int j]/\YB op i j r/\d=.int r/\g'=g) \/
 (op=.Add/\((∃ l m,xs=[.tup l,.tup m]/\l.length + m.length <= 100000/\d=.tup (l ++ m)/\g'=g) \/
  (∃a b l m,xs=[.ref a,.ref b]/\g[a]?=some (.lst l)/\g[b]?=some (.lst m)/\l.length+m.length<=100000/\d=.ref g.length/\g'=g++[.lst (l++m)]) \/
  (∃ x y,xs=[.str x,.str y]/\x.length + y.length <= 100000/\d=.str (x ++ y)/\g'=g))) \/
 (op=.Mult/\((∃ a l n,xs=[.ref a,.int n]/\g[a]?=some (.lst l)/\-(2 ^ 62) <= n/\n < 2 ^ 62/\l.length * n.toNat <= 100000/\d=.ref g.length/\g'=g ++ [.lst (List.replicate n.toNat l).flatten]) \/
  (∃ l n,xs=[.tup l,.int n]/\l ≠ []/\1 <= n/\n < 2 ^ 62/\l.length * n.toNat <= 100000/\d=.tup (List.replicate n.toNat l).flatten/\g'=g)))
def MW(op:UnaryOp):DR:=λxs g d g'=>op=.USub/\∃i,xs=[.int i]/\d=.int (-i)/\g'=g
def wB(g:G)(x y:D)(b:Bool):Prop :=
 (∃i j,x=.int i/\y=.int j/\b=decide (i=j))\/(∃i j,x=.bl i/\y=.bl j/\b=(i==j))\/(∃i j,x=.str i/\y=.str j/\b=decide (i=j)) \/
 ∃p q,rd g 6 x=some p/\rd g 6 y=some q/\p.canLay0=true/\q.canLay0=true/\b=PyData.eqv p q
def inR(g:G)(x y:D)(b:Bool):Prop :=
 (∃a kvs c,y=.ref a/\g[a]?=some (.dz kvs)/\pP x=some c/\b=(u9 kvs c).isSome) \/
 ∃l ps p,P4 g y=some l/\Nj g l=some ps/\rd g 6 x=some p/\PyData.canLayAll0 ps=true/\p.canLay0=true/\b=(ps.any λq=>PyData.eqv q p)
def Im(g:G)(x y:D)(b:Bool):Prop:=∃a S n i,y=.ref a/\g[a]?=some (.set S n)/\x=.int i/\b=S i
def HX(g:G)(x y:D)(b:Bool):CmpOp->Prop
 |.Eq=>wB g x y b
 |.NotEq=>wB g x y (!b)
 |.In=>inR g x y b\/Im g x y b
 |.NotIn=>inR g x y (!b)\/Im g x y (!b)
 |.Lt=>∃i j,x=.int i/\y=.int j/\b=decide (i<j)
 |.LtE=>∃i j,x=.int i/\y=.int j/\b=decide (i<=j)
 |.Gt=>∃i j,x=.int i/\y=.int j/\b=decide (j<i)
 |.GtE=>∃i j,x=.int i/\y=.int j/\b=decide (j<=i)
 |.Is=>y=.cE/\b=O6 x
 |.IsNot=>y=.cE/\b=!O6 x
def Vl(op:CmpOp):DR:=λxs g d g'=>∃x y b,xs=[x,y]/\HX g x y b op/\d=.bl b/\g'=g
def Ip(g:G)(x:D)(b:Bool):Prop :=
 (x=.cE/\b=false)\/x=.bl b\/(∃i,x=.int i/\b=(i != 0))\/(∃l,x=.tup l/\b=!l.isEmpty)\/∃a l,x=.ref a/\c8 g a=some l/\b=!l.isEmpty
def NG:DR:=λxs g d g'=>g'=g/\((∃x l i,xs=[x,.int i]/\P4 g x=some l/\gF l i=some d)\/(∃a kvs y c,xs=[.ref a,y]/\g[a]?=some (.dz kvs)/\pP y=some c/\u9 kvs c=some d) \/
 ∃ x i c,xs=[.str x,.int i]/\x.length <= 100000/\gF x.cps.toList i=some c/\d=.str ⟨#[c]⟩)
def vd(x:D)(lo hi:Option Int)(g:G)(d:D)(g':G):Prop:=(∃l,x=.tup l/\d=.tup (cut l lo hi)/\g'=g)\/∃a l,x=.ref a/\c8 g a=some l/\d=.ref g.length/\g'=g++[.lst (cut l lo hi)]
def V':Bool->Bool->DR
 |false,false,xs,g,d,g'=>∃x,xs=[x]/\vd x none none g d g'
 |true,false,xs,g,d,g'=>∃x i,xs=[x,.int i]/\vd x (some i) none g d g'
 |false,true,xs,g,d,g'=>∃x j,xs=[x,.int j]/\vd x none (some j) g d g'
 |true,true,xs,g,d,g'=>∃x i j,xs=[x,.int i,.int j]/\vd x (some i) (some j) g d g'
def VV:DR:=λxs g d g'=>(∃l,xs=[.tup l]/\d=.tup l.reverse/\g'=g)\/∃a l,xs=[.ref a]/\c8 g a=some l/\d=.ref g.length/\g'=g++[.lst l.reverse]
def Wu:DR:=λxs g d g'=>xs.length<=1000/\d=.tup xs/\g'=g
def VA:DR:=λxs g d g'=>xs.length<=1000/\d=.ref g.length/\g'=g++[.lst xs]
def HY:List D->List (Key×D)->Option (List (Key×D))
 |[],kvs=>some kvs
 |k::v::r,kvs=>(pP k).bind λc=>HY r (putD kvs c v)
 |_,_=>none
def WJ:DR:=λxs g d g'=>xs=[]/\d=.ref g.length/\g'=g++[.dz []]
def Vz:DR:=λxs g d g'=>g'=g/\((∃x l,xs=[x]/\P4 g x=some l/\d=.int l.length)\/(∃a kvs,xs=[.ref a]/\g[a]?=some (.dz kvs)/\d=.int kvs.length)\/∃x,xs=[.str x]/\x.length<=100000/\d=.int x.length)
def kD:Key->D
 |.inl i=>.int i
 |.inr x=>.str x
def Xb:DR:=λxs g d g'=>(∃x l,xs=[x]/\P4 g x=some l/\d=.ref g.length/\g'=g++[.lst l])\/∃a kvs,xs=[.ref a]/\g[a]?=some (.dz kvs)/\kvs.length<=10000/\d=.ref g.length/\g'=g++[.lst ((kvs.map (·.1)).map kD)]
def SN:DR:=λxs g d g'=>∃x l,xs=[x]/\P4 g x=some l/\d=.tup l/\g'=g
def WT:DR:=λxs g d g'=>∃x c b,xs=[x,.ty c]/\c∈["int","bool","str","tuple","list"]/\Fg g x c=some b/\d=.bl b/\g'=g
def allR:DR:=λxs g d g'=>∃a l b,xs=[.ref a]/\c8 g a=some l/\(V3 l=some b\/∃ns:List Int,l=ns.map .int/\b=ns.all λn=>n != 0)/\d=.bl b/\g'=g
def Iv:List D->Option Bool
 |[]=>some false
 |.bl b::r=>(Iv r).map λc=>b||c
 |_=>none
def anyR:DR:=λxs g d g'=>∃a l b,xs=[.ref a]/\c8 g a=some l/\Iv l=some b/\d=.bl b/\g'=g
def Sn:DR:=λxs g d g'=>False\/∃x,∃ns:List Int,xs=[x]/\P4 g x=some (ns.map .int)/\ns.length<=10000/\d=.ref g.length/\g'=g++[.lst ((K4 ns).map .int)]
def VB:DR:=λxs g d g'=>g'=g/\((∃i j,xs=[.int i,.int j]/\d=.int (if j>i then j else i))\/∃a,∃(ns:List Int) (M:Int),xs=[.ref a]/\c8 g a=some (ns.map .int)/\M∈ns/\(∀x∈ns,x<=M)/\d=.int M)
def VC:DR:=λxs g d g'=>g'=g/\((∃i j,xs=[.int i,.int j]/\d=.int (if j<i then j else i))\/∃a,∃(ns:List Int) (M:Int),xs=[.ref a]/\c8 g a=some (ns.map .int)/\M∈ns/\(∀x∈ns,M<=x)/\d=.int M)
def XH:DR:=λxs g d g'=>∃a i S n,xs=[.ref a,.int i]/\g[a]?=some (.set S n)/\n+1<4096/\d=.cE/\g'=g.set a (.set (λk=>S k||decide (k=i)) (if S i then n else n+1))
def Xa:DR:=λxs g d g'=>∃a,∃ns:List Int,xs=[.ref a]/\c8 g a=some (ns.map .int)/\ns.length<600/\d=.ref g.length/\g'=g++[.set (λk=>decide (k∈ns)) (ST.i0 [] ns).length]
def RU(i:Int):DR:=λxs g d g'=>xs=[]/\d=.ref g.length/\g'=g++[.set (λk=>decide (k=i)) 1]
def Wb:DR:=λxs g d g'=>∃a,∃ns:List Int,xs=[.ref a]/\c8 g a=some (ns.map .int)/\d=.int ns.sum/\g'=g
def Xc:DR:=λxs g d g'=>∃a,∃ns:List Int,xs=[.ref a]/\c8 g a=some (ns.map .int)/\ns.length<60/\d=.int (ST.i0 [] ns).length/\g'=g
def WU:DR:=λxs g d g'=>∃i j,xs=[.int i,.int j]/\d=.int (i-j)/\g'=g
def Vw:DR:=λxs g d g'=>g'=g/\((∃i,xs=[.int i]/\d=.int i)\/∃b,xs=[.bl b]/\d=.int (if b then 1 else 0))
def Wa:DR:=λxs g d g'=>(∃i,xs=[.int i]/\i.natAbs.log2<1920/\d=.str (toString i)/\g'=g)\/∃x,xs=[.str x]/\d=.str x/\g'=g
def QL:DR:=λxs g d g'=>∃j,xs=[.int j]/\-(2 ^ 62)<=j/\j<=100000/\d=.ref g.length/\g'=g++[.lst (j7 0 j.toNat)]
def QM:DR:=λxs g d g'=>∃i j,xs=[.int i,.int j]/\(-(2 ^ 62)<=i/\i<2 ^ 62/\-(2 ^ 62)<=j/\j<2 ^ 62/\j-i<=100000)/\d=.ref g.length/\g'=g++[.lst (j7 i (j-i).toNat)]
def XM:DR:=λxs g d g'=>∃a ns,xs=[.ref a]/\c8 g a=some (ns.map .int)/\ns.length<600/\d=.ref g.length/\g'=g++[.lst ((o8 ns).map .int)]
def Wc:DR:=λxs g d g'=>∃ns ms:List Int,xs=[.tup (ns.map .int),.tup (ms.map .int)]/\(∀k∈ns,ST.Spot k)/\(∀k∈ms,ST.Spot k)/\ns.length+ms.length<50/\d=.ref g.length/\g'=g++[.lst ((o8 (ns++ms)).map .int)]
def Ff(neg:Bool):DR:=λxs g d g'=>∃kvs x,xs=[.tup kvs,.str x]/\d=.bl (xor neg (O5 kvs x).isSome)/\g'=g
def WN:DR:=λxs g d g'=>∃kvs x,xs=[.tup kvs,.str x]/\O5 kvs x=some d/\g'=g
def Py:DR:=λxs g d g'=>g'=g/\((∃i,xs=[.int i]/\i.natAbs.log2<1920/\d=.str (toString i))\/∃x,xs=[.str x]/\x.length<=2000/\d=.str x)
def WM:DR:=λxs g d g'=>∃x,U7 xs=some x/\d=.str x/\g'=g
def Vq(f:Str):DR:=λxs g d g'=>∃a c fs,xs=[.ref a]/\g[a]?=some (.ins c fs)/\fs.lookup f=some d/\g'=g
def appendR:DR:=λxs g d g'=>∃a y l,xs=[.ref a,y]/\g[a]?=some (.lst l)/\l.length<100000/\d=.cE/\g'=g.set a (.lst (l++[y]))
def VL:DR:=λxs g d g'=>∃a i l k,xs=[.ref a,.int i]/\g[a]?=some (.lst l)/\-(2 ^ 63)<=i/\i<2 ^ 63/\seqIndex? i l.length=some k/\l[k]?=some d/\g'=g.set a (.lst (l.eraseIdx k))
def Vt:DR:=λxs g d g'=>∃a y z kvs c,xs=[.ref a,y,z]/\g[a]?=some (.dz kvs)/\pP y=some c/\d=(u9 kvs c).getD z/\g'=g
def IG:D->Bool
 |.cE=>true
 |.bl _=>true
 |.int _=>true
 |.str _=>true
 |_=>false
def toV:D->V
 |.bl b=>.bl b
 |.int i=>.int i
 |.str x=>.str x
 |_=>.cE
def Yh(l:List D)(y:D)(n:Nat):Prop:=l.all IG=true/\IG y=true/\(∃z,l[n]?=some z/\HA (toV z) (toV y)=true)/\∀(m:Nat) z,m<n->l[m]?=some z->HA (toV z) (toV y)=false
def Qy:DR:=λxs g d g'=>∃x y l n,xs=[x,y]/\P4 g x=some l/\Yh l y n/\l.length<=100000/\d=.int n/\g'=g
def joinR:DR:=λxs g d g'=>∃sep a ys,xs=[.str sep,.ref a]/\c8 g a=some (ys.map .str)/\Tt sep ys<=100000/\d=.str (Builtin.Str.glued sep ys)/\g'=g
def WR:DR:=λxs g d g'=>(∃i j,xs=[.int i,.int j]/\d=.int (i+j)/\g'=g)\/∃l m,xs=[.tup l,.tup m]/\l.length+m.length<=100000/\d=.tup (l++m)/\g'=g
def Qq:DR:=λxs g d g'=>∃a l,xs=[.ref a]/\g[a]?=some (.lst l)/\d=.cE/\g'=g.set a (.lst [])
def Xx:DR:=λxs g d g'=>∃a l,xs=[.ref a]/\g[a]?=some (.lst (l++[d]))/\g'=g.set a (.lst l)
def Ti:DR:=λxs g d g'=>∃a b l m,xs=[.ref a,.ref b]/\g[a]?=some (.lst l)/\g[b]?=some (.lst m)/\l.length+m.length<=100000/\d=.cE/\g'=g.set a (.lst (l++m))
def Qt:DR:=λxs g d g'=>(∃a kvs,xs=[.ref a]/\g[a]?=some (.dz kvs)/\d=.ref g.length/\g'=g++[.dz kvs])\/∃a,∃ks:List Int,xs=[.ref a]/\c8 g a=some (ks.map λk=>.tup [.int k,.bl true])/\ks.length<=1000/\ks.Nodup/\d=.ref g.length/\g'=g++[.dz (ks.map λk=>(.inl k,.bl true))]
def PR:Pr->DR
 |.clear=>Qq
 |.any=>anyR
 |.sum=>Wb
 |.vf=>XH
 |.nS=>Xa
 |.ve i=>RU i
 |.qG=>Xc
 |.AW=>WU
 |.jZ=>Sn
 |.extend=>Ti
 |.AH=>Xx
 |.lg=>Qt
 |.bin op=>Vg op
 |.un op=>MW op
 |.cmp op=>Vl op
 |.ix=>NG
 |.lL a b=>V' a b
 |.rev=>VV
 |.tup=>Wu
 |.lst=>VA
 |.W6=>WJ
 |.len=>Vz
 |.list=>Xb
 |.tuple=>SN
 |.isin=>WT
 |.all=>allR
 |.max=>VB
 |.min=>VC
 |.int=>Vw
 |.str=>Wa
 |.jE=>QL
 |.kW=>QM
 |.sset=>XM
 |.Nd=>Wc
 |.Hs=>Ff false
 |.wy=>Ff true
 |.oo=>WN
 |.fv=>Py
 |.mR=>WM
 |.fld f=>Vq f
 |.append=>appendR
 |.pop=>VL
 |.get=>Vt
 |.index=>Qy
 |.join=>joinR
 |.iadd=>WR
def de(p:Pr)(xs:List D)(g:G)(Q:KD):Prop:=∃d g',PR p xs g d g'/\Q d g'
def sJ(g:G)(x y:D)(k:Bool->Prop):Prop:=∃b,wB g x y b/\k b
def rL(g:G)(x y:D)(k:Bool->Prop):Prop:=∃b,inR g x y b/\k b
def qI(g:G)(x:D)(k:Bool->Prop):Prop:=∃b,Ip g x b/\k b
def VY(x y v:D)(g g':G):Prop:=(∃a i l j,x=.ref a/\y=.int i/\g[a]?=some (.lst l)/\lO l.length i=some j/\g'=g.set a (.lst (l.set j v))) \/
 ∃a kvs c,x=.ref a/\g[a]?=some (.dz kvs)/\pP y=some c/\kvs.length<100000/\g'=g.set a (.dz (putD kvs c v))
def Z7(x y v:D)(g:G)(k:G->Prop):Prop:=∃g',VY x y v g g'/\k g'
def IY(f:Str)(cs:List Str)(x v:D)(g g':G):Prop:=∃a c fs,x=.ref a/\g[a]?=some (.ins c fs)/\c∈cs/\fs.length<100/\g'=g.set a (.ins c (n5 f v fs))
def wZ(f:Str)(cs:List Str)(x v:D)(g:G)(k:G->Prop):Prop:=∃g',IY f cs x v g g'/\k g'
def oC:Pr->D->G->Prop
 |.get,x,g=>∃a kvs,x=.ref a/\g[a]?=some (.dz kvs)
 |.join,x,g=>∃y,x=.str y
 |.vf,x,g=>∃a S n,x=.ref a/\g[a]?=some (.set S n)
 |.index,x,g=>(∃l,x=.tup l)\/∃a l,x=.ref a/\c8 g a=some l
 |_,x,g=>∃a l,x=.ref a/\c8 g a=some l
inductive IK where
 |fix (l:List D)|lst (a:Nat)|pK (a:Nat)|FZ (a n:Nat)
def IK.at:IK->Nat->G->Option (Option D)
 |.fix l,i,_=>some l[i]?
 |.lst a,i,g=>match c8 g a with
  |some l=>some l[i]?
  |none=>none
 |.pK a,i,g=>match c8 g a with
  |some l=>some (l[i]?.map λd=>.tup [.int i,d])
  |none=>none
 |.FZ a n,i,g=>match c8 g a with
  |some l=>if l.length=n then some (if i<n then l[n-1-i]? else none) else none
  |none=>none
inductive MT where
 |one (i:Nat)|many (is:List Nat)
def E6:List Nat->List D->S->Option S
 |[],[],σ=>some σ
 |i::is,d::ds,σ=>E6 is ds (σ.set i (some d))
 |_,_,_=>none
def ku(t:MT)(x:D)(σ:S)(k:S->Prop):Prop:=match t with
 |.one i=>k (σ.set i (some x))
 |.many is=>∃l cM,x=.tup l/\E6 is l σ=some cM/\k cM
set_option genInjectivity false in
set_option genSizeOf false in
inductive ME where
 |var (i:Nat)|lit (d:D)
 |nil|cons (a b:ME)|prim (p:Pr) (es:ME)|fJ (p:Pr) (o es:ME)|wG (es:ME)
 |chain (o1 o2:CmpOp) (a b c:ME)
 |dM (a b:ME)|jN (a b:ME)|eR (a:ME)|ite (c a b:ME)
 |call (f:Nat) (es:ME)|make (c:Str) (f:Nat) (es:ME)|kT (m:Str) (cs:List (Str×Nat)) (o es:ME)
 |comp (d5:List Nat) (n:Nat) (tg:MT) (it cond elt:ME)|iy (d5:List Nat) (n:Nat) (tg:MT) (it cond elt:ME)|kR (d5:List Nat) (n:Nat) (tg:MT) (it cond elt:ME)
 |fi (e:ME)|fh (a:ME)|kX (a b:ME)|lP (e:ME)|tN (e:ME)|fR (e:ME)|no
noncomputable abbrev fP:=Nat->List D->G->KD->KX->Prop
def J8(σ:S)(d5:List Nat)(n:Nat):S:=d5.map (λj=>(σ[j]?).join)++List.replicate (n-d5.length) none
def turns(k:IK)(σ:S)(g:G)(fin:S->G->Prop)(turn:D->(S->G->Prop)->S->G->Prop):Prop :=
 ∃W:Nat->Nat->S->G->Prop,(∃m,W 0 m σ g)/\∀i m σ g,W i m σ g->(k.at i g=some none/\fin σ g)\/∃x,k.at i g=some (some x)/\∃N2:S->G->Prop,(∀cM g',N2 cM g'->∃m',m'<m/\W (i+1) m' cM g')/\turn x N2 σ g
def zq(k:IK)(σ:S)(g:G)(fin:List D->G->Prop)(turn:D->(Option D->S->G->Prop)->S->G->Prop):Prop :=
 ∃W:Nat->Nat->List D->S->G->Prop,(∃m,W 0 m [] σ g)/\∀i m ys σ g,W i m ys σ g->(k.at i g=some none/\fin ys g) \/
  ∃x,k.at i g=some (some x)/\ys.length<100000/\turn x (λy cM g'=>∃m',m'<m/\W (i+1) m' (ys++y.toList) cM g') σ g
def EW(k:IK)(σ:S)(g:G)(fin:List Int->G->Prop)(turn:D->(Option Int->S->G->Prop)->S->G->Prop):Prop :=
 ∃W:Nat->Nat->List Int->S->G->Prop,(∃m,W 0 m [] σ g)/\∀i m ys σ g,W i m ys σ g->(k.at i g=some none/\ys.length<60/\fin ys g) \/
  ∃x,k.at i g=some (some x)/\ys.length<60/\turn x (λy cM g'=>∃m',m'<m/\W (i+1) m' (ys++y.toList) cM g') σ g
mutual
noncomputable def bh(P:fP):ME->S->G->KD->KX->Prop
 |.var i,σ,g,Q,_=>∃d,σ[i]?=some (some d)/\Q d g
 |.lit d,_,g,Q,_=>Q d g
 |.prim p es,σ,g,Q,E=>gG P es σ g (λxs g1=>de p xs g1 Q) E
 |.fJ p o es,σ,g,Q,E=>bh P o σ g (λx g1=>oC p x g1/\gG P es σ g1 (λxs g2=>de p (x::xs) g2 Q) E) E
 |.wG es,σ,g,Q,E=>gG P es σ (g++[.dz []]) (λxs g1=>∃kvs,HY xs []=some kvs/\xs.length<=30/\g1[g.length]?=some (.dz [])/\Q (.ref g.length) (g1.set g.length (.dz kvs))) E
 |.chain o1 o2 a b c,σ,g,Q,E=>bh P a σ g (λx g1=>bh P b σ g1 (λy g2=>de (.cmp o1) [x,y] g2 λz g3=>∃t,z=.bl t/\if t=true then bh P c σ g3 (λw g4=>de (.cmp o2) [y,w] g4 Q) E else Q (.bl false) g3) E) E
 |.dM a b,σ,g,Q,E=>bh P a σ g (λx g1=>∃t,x=.bl t/\if t=true then bh P b σ g1 Q E else Q (.bl false) g1) E
 |.jN a b,σ,g,Q,E=>bh P a σ g (λx g1=>∃t,x=.bl t/\if t=true then Q (.bl true) g1 else bh P b σ g1 Q E) E
 |.eR a,σ,g,Q,E=>bh P a σ g (λx g1=>∃t,x=.bl t/\Q (.bl (!t)) g1) E
 |.ite c a b,σ,g,Q,E=>dD P c σ g (λt g1=>if t=true then bh P a σ g1 Q E else bh P b σ g1 Q E) E
 |.call f es,σ,g,Q,E=>gG P es σ g (λxs g1=>P f xs g1 Q E) E
 |.make c f es,σ,g,Q,E=>gG P es σ g (λxs g1=>P f (.ref g1.length::xs) (g1++[.ins c []]) (λd g2=>d=.cE/\Q (.ref g1.length) g2) E) E
 |.kT m cs o es,σ,g,Q,E=>bh P o σ g (λx g1=>∃a c fs f,x=.ref a/\g1[a]?=some (.ins c fs)/\fs.lookup m=none/\cs.lookup c=some f/\gG P es σ g1 (λxs g2=>P f (x::xs) g2 Q E) E) E
 |.comp d5 n tg it cond elt,σ,g,Q,E=>iN P it σ g (λk g1=>zq k (J8 σ d5 n) g1 (λys g=>Q (.ref g.length) (g++[.lst ys])) λx N σ g=>ku tg x σ λcT=>dD P cond cT g (λb g3=>if b=true then bh P elt cT g3 (λy g4=>N (some y) cT g4) ki else N none cT g3) ki) E
 |.kR d5 n tg it cond elt,σ,g,Q,E=>iN P it σ g (λk g1=>zq k (J8 σ d5 n) g1 (λys g=>Q (.ref g.length) (g++[.lst ys])) λx N σ g=>ku tg x σ λcT=>dD P cond cT g (λb g3=>if b=true then bh P elt cT g3 (λy g4=>N (some y) cT g4) E else N none cT g3) ki) E
 |.iy d5 n tg it cond elt,σ,g,Q,E=>iN P it σ g (λk g1=>EW k (J8 σ d5 n) g1 (λys g=>Q (.ref g.length) (g++[.lst ((o8 ys).map .int)])) λx N σ g=>ku tg x σ λcT=>dD P cond cT g (λb g3=>if b=true then bh P elt cT g3 (λy g4=>∃j,y=.int j/\N (some j) cT g4) ki else N none cT g3) ki) E
 |.nil,_,_,_,_=>False
 |.cons _ _,_,_,_,_=>False
 |.fi _,_,_,_,_=>False
 |.fh _,_,_,_,_=>False
 |.kX _ _,_,_,_,_=>False
 |.lP _,_,_,_,_=>False
 |.tN _,_,_,_,_=>False
 |.fR _,_,_,_,_=>False
 |.no,_,_,_,_=>False
noncomputable def gG(P:fP):ME->S->G->(List D->G->Prop)->KX->Prop
 |.nil,_,g,Q,_=>Q [] g
 |.cons a b,σ,g,Q,E=>bh P a σ g (λx g1=>gG P b σ g1 (λxs g2=>Q (x::xs) g2) E) E
 |_,_,_,_,_=>False
noncomputable def dD(P:fP):ME->S->G->(Bool->G->Prop)->KX->Prop
 |.dM a b,σ,g,Q,E=>dD P a σ g (λt g1=>if t=true then dD P b σ g1 Q E else Q false g1) E
 |.jN a b,σ,g,Q,E=>dD P a σ g (λt g1=>if t=true then Q true g1 else dD P b σ g1 Q E) E
 |.eR a,σ,g,Q,E=>dD P a σ g (λt g1=>Q (!t) g1) E
 |.no,_,g,Q,_=>Q true g
 |.fR e,σ,g,Q,E=>bh P e σ g (λx g1=>qI g1 x λb=>Q b g1) E
 |_,_,_,_,_=>False
noncomputable def iN(P:fP):ME->S->G->(IK->G->Prop)->KX->Prop
 |.fi e,σ,g,R,E=>bh P e σ g (λx g1=>(∃l,x=.tup l/\R (.fix l) g1)\/∃a l,x=.ref a/\c8 g1 a=some l/\R (.lst a) g1) E
 |.fh a,σ,g,R,E=>bh P a σ g (λx g1=>∃j:Int,x=.int j/\-(2 ^ 62)<=j/\j<2 ^ 62/\R (.fix (j7 0 j.toNat)) g1) E
 |.kX a b,σ,g,R,E=>bh P a σ g (λx g1=>bh P b σ g1 (λy g2=>∃i j:Int,x=.int i/\y=.int j/\(-(2 ^ 62)<=i/\i<2 ^ 62/\-(2 ^ 62)<=j/\j<2 ^ 62)/\R (.fix (j7 i (j-i).toNat)) g2) E) E
 |.lP e,σ,g,R,E=>bh P e σ g (λx g1=>∃a l,x=.ref a/\c8 g1 a=some l/\R (.pK a) g1) E
 |.tN e,σ,g,R,E=>bh P e σ g (λx g1=>∃a l,x=.ref a/\c8 g1 a=some l/\R (.FZ a l.length) g1) E
 |_,_,_,_,_=>False
end
set_option genInjectivity false in
set_option genSizeOf false in
inductive MS where
 |pass|seq (a b:MS)|expr (e:ME)|set (i:Nat) (e:ME)|mE (t:MT) (e:ME)|fg (o i v:ME)|iO (f:Str) (cs:List Str) (o v:ME)
 |wR (f:Str) (cs:List Str) (o v:ME)|wQ (i:Nat) (p:Pr) (v:ME)|xR (o1 i1 o2 i2 e:ME)
 |ifs (c:ME) (a b:MS)|dX (t:MT) (it:ME) (b:MS)|uW (c:ME) (b:MS)|ret (e:ME)|rm|brk|cont
 |raise (x:Str) (es:ME)|uX (b:MS) (hs:List (Str×ME))
structure Ends where
 nx:S->G->Prop
 rt:KD
 bk:S->G->Prop:=λ_ _=>False
 ct:S->G->Prop:=λ_ _=>False
def uV(P:fP)(N:Ends)(σ:S)(E:KX):List (Str×ME)->KX
 |[],x,g=>E x g
 |(y,e)::r,x,g=>if x.cls=y\/y="MintError" then bh P e σ g N.rt ki else uV P N σ E r x g
def wpS(P:fP):MS->Ends->S->G->KX->Prop
 |.pass,N,σ,g,_=>N.nx σ g
 |.seq a b,N,σ,g,E=>wpS P a { N with nx:=λkr g1=>wpS P b N kr g1 E } σ g E
 |.expr e,N,σ,g,E=>bh P e σ g (λ_ g1=>N.nx σ g1) E
 |.set i e,N,σ,g,E=>bh P e σ g (λx g1=>N.nx (σ.set i (some x)) g1) E
 |.mE t e,N,σ,g,E=>bh P e σ g (λx g1=>ku t x σ λkr=>N.nx kr g1) E
 |.fg o i v,N,σ,g,E=>bh P v σ g (λx g1=>bh P o σ g1 (λy g2=>bh P i σ g2 (λz g3=>Z7 y z x g3 λg4=>N.nx σ g4) E) E) E
 |.iO f cs o v,N,σ,g,E=>bh P v σ g (λx g1=>bh P o σ g1 (λy g2=>wZ f cs y x g2 λg3=>N.nx σ g3) E) E
 |.wR f cs o v,N,σ,g,E=>bh P o σ g (λy g1=>∃a c fs x,y=.ref a/\g1[a]?=some (.ins c fs)/\c∈cs/\fs.lookup f=some x/\bh P v σ g1 (λz g3=>de .iadd [x,z] g3 λw g4=>∃sE,g4[a]?=some (.ins c sE)/\sE.length<100/\N.nx σ (g4.set a (.ins c (n5 f w sE)))) E) E
 |.xR o1 i1 o2 i2 e,N,σ,g,E=>bh P e σ g (λx g1=>∃u v,x=.tup [u,v]/\bh P o1 σ g1 (λy1 g2=>bh P i1 σ g2 (λz1 g3=>Z7 y1 z1 u g3 λg4=>bh P o2 σ g4 (λy2 g5=>bh P i2 σ g5 (λz2 g6=>Z7 y2 z2 v g6 λg7=>N.nx σ g7) E) E) E) E) E
 |.wQ i p v,N,σ,g,E=>∃x,σ[i]?=some (some x)/\bh P v σ g (λz g1=>de p [x,z] g1 λw g2=>N.nx (σ.set i (some w)) g2) E
 |.ifs c a b,N,σ,g,E=>dD P c σ g (λt g1=>if t=true then wpS P a N σ g1 E else wpS P b N σ g1 E) E
 |.dX t it b,N,σ,g,E=>iN P it σ g (λk g1=>turns k σ g1 N.nx λx N2 σ g=>ku t x σ λcT=>wpS P b { N with nx:=N2,ct:=N2,bk:=N.nx } cT g E) E
 |.uW c b,N,σ,g,E=>∃W:Nat->S->G->Prop,(∃m,W m σ g)/\∀m σ g,W m σ g->dD P c σ g (λt g1=>if t=true then ∃N2:S->G->Prop,(∀cM g',N2 cM g'->∃m',m'<m/\W m' cM g')/\wpS P b { N with nx:=N2,ct:=N2,bk:=N.nx } σ g1 E else N.nx σ g1) E
 |.ret e,N,σ,g,E=>bh P e σ g N.rt E
 |.rm,N,_,g,_=>N.rt .cE g
 |.brk,N,σ,g,_=>N.bk σ g
 |.cont,N,σ,g,_=>N.ct σ g
 |.raise x es,_,σ,g,E=>gG P es σ g (λvs g1=>vs.length<=1000/\E ⟨x⟩ g1) E
 |.uX b hs,N,σ,g,E=>wpS P b N σ g (uV P N (σ.map λ_=>none) E hs)
structure bo where
 ar:Nat
 n:Nat
 body:MS
def d0(m:bo)(ds:List D):S:=ds.map some++List.replicate (m.n-ds.length) none
def c5(T:Nat->Option bo):Nat->fP
 |0,_,_,_,_,_=>False
 |k+1,f,ds,g,Q,E=>∃m,T f=some m/\ds.length=m.ar/\wpS (c5 T k) m.body ⟨λ_ g'=>Q .cE g',Q,λ_ _=>False,λ_ _=>False⟩ (d0 m ds) g E
end M
namespace M
open PySem L2
variable{g:G}{K:PySem.W.Frag}{H:Hp}{a p:Addr}{vs:List V}{i:Nat}{o:O}{u:HO}{l:List D}
theorem v8{p xs}{Q Q':KD}(h:∀d g,Q d g->Q' d g)(q:de p xs g Q):de p xs g Q':=by
 obtain⟨d,g',a,b⟩:=q;exact⟨d,g',a,h _ _ b⟩
theorem ZJ{x}{k k':Bool->Prop}(h:∀b,k b->k' b)(q:qI g x k):qI g x k':=by
 obtain⟨b,a,z⟩:=q;exact⟨b,a,h _ z⟩
theorem U2{x y v}{k k':G->Prop}(h:∀g,k g->k' g)(q:Z7 x y v g k):Z7 x y v g k':=by
 obtain⟨b,a,z⟩:=q;exact⟨b,a,h _ z⟩
theorem aN5{f cs x v}{k k':G->Prop}(h:∀g,k g->k' g)(q:wZ f cs x v g k):wZ f cs x v g k':=by
 obtain⟨b,a,z⟩:=q;exact⟨b,a,h _ z⟩
theorem A8{t x σ}{k k':S->Prop}(h:∀σ,k σ->k' σ)(q:ku t x σ k):ku t x σ k':=by
 cases t with
 |one i=>exact h _ q
 |many is=>obtain⟨l,cM,a,b,c⟩:=q;exact⟨l,cM,a,b,h _ c⟩
theorem aM4{k σ g}{fin kZ:S->G->Prop}{turn iW:D->(S->G->Prop)->S->G->Prop}(h:∀σ g,fin σ g->kZ σ g)(h2:∀x N σ g,turn x N σ g->iW x N σ g)(q:turns k σ g fin turn):turns k σ g kZ iW:=by
 obtain⟨W,w0,q⟩:=q;refine⟨W,w0,λi m σ g w=>?_⟩;rcases q i m σ g w with⟨a,b⟩|⟨x,a,N2,b,c⟩
 ·exact .inl ⟨a,h _ _ b⟩
 ·exact .inr ⟨x,a,N2,b,h2 _ _ _ _ c⟩
theorem Ki{k σ g}{fin kZ:List D->G->Prop}{turn iW:D->(Option D->S->G->Prop)->S->G->Prop}(h:∀ys g,fin ys g->kZ ys g)(h2:∀x N σ g,turn x N σ g->iW x N σ g)(q:zq k σ g fin turn):zq k σ g kZ iW:=by
 obtain⟨W,w0,q⟩:=q;refine⟨W,w0,λi m ys σ g w=>?_⟩;rcases q i m ys σ g w with⟨a,b⟩|⟨x,a,b,c⟩
 ·exact .inl ⟨a,h _ _ b⟩
 ·exact .inr ⟨x,a,b,h2 _ _ _ _ c⟩
theorem aH2{k σ g}{fin kZ:List Int->G->Prop}{turn iW:D->(Option Int->S->G->Prop)->S->G->Prop}(h:∀ys g,fin ys g->kZ ys g)(h2:∀x N σ g,turn x N σ g->iW x N σ g)(q:EW k σ g fin turn):EW k σ g kZ iW:=by
 obtain⟨W,w0,q⟩:=q;refine⟨W,w0,λi m ys σ g w=>?_⟩;rcases q i m ys σ g w with⟨a,b,c⟩|⟨x,a,b,c⟩
 ·exact .inl ⟨a,b,h _ _ c⟩
 ·exact .inr ⟨x,a,b,h2 _ _ _ _ c⟩
theorem F6{t:Bool}{A B A' B':Prop}(h1:A->A')(h2:B->B')(q:if t=true then A else B):if t=true then A' else B':=by
 cases t
 ·exact h2 q
 ·exact h1 q
def j6(P:fP):Prop:=∀f xs g Q Q' E E',(∀d g,Q d g->Q' d g)->(∀x g,E x g->E' x g)->P f xs g Q E->P f xs g Q' E'
mutual
theorem b9{P:fP}(hP:j6 P):∀(e:ME) (σ:S) (g:G) (Q Q':KD) (E E':KX),(∀d g,Q d g->Q' d g)->(∀x g,E x g->E' x g)->bh P e σ g Q E->bh P e σ g Q' E'
 |.var i,σ,g,Q,Q',E,E',h,hx,q=>by
  obtain⟨d,a,b⟩:=q;exact⟨d,a,h _ _ b⟩
 |.lit d,σ,g,Q,Q',E,E',h,hx,q=>by exact h _ _ q
 |.prim p es,σ,g,Q,Q',E,E',h,hx,q=>by
  exact A4 hP es _ _ _ _ _ _ (λxs g1 q=>v8 h q) hx q
 |.fJ p o es,σ,g,Q,Q',E,E',h,hx,q=>by
  exact b9 hP o _ _ _ _ _ _ (λx g1 q=>⟨q.1,A4 hP es _ _ _ _ _ _ (λxs g2 q=>v8 h q) hx q.2⟩) hx q
 |.wG es,σ,g,Q,Q',E,E',h,hx,q=>by
  exact A4 hP es _ _ _ _ _ _ (λxs g1 ⟨kvs,a,b,c,d⟩=>⟨kvs,a,b,c,h _ _ d⟩) hx q
 |.chain o1 o2 a b c,σ,g,Q,Q',E,E',h,hx,q=>by
  refine b9 hP a _ _ _ _ _ _ (λx g1 q=>b9 hP b _ _ _ _ _ _ (λy g2 q=>v8 (λz g3 q=>?_) q) hx q) hx q;obtain⟨t,e,q⟩:=q;exact⟨t,e,F6 (λq=>b9 hP c _ _ _ _ _ _ (λw g4 q=>v8 h q) hx q) (h _ _) q⟩
 |.dM a b,σ,g,Q,Q',E,E',h,hx,q=>by
  refine b9 hP a _ _ _ _ _ _ (λx g1 q=>?_) hx q;obtain⟨t,e,q⟩:=q;exact⟨t,e,F6 (λq=>b9 hP b _ _ _ _ _ _ h hx q) (h _ _) q⟩
 |.jN a b,σ,g,Q,Q',E,E',h,hx,q=>by
  refine b9 hP a _ _ _ _ _ _ (λx g1 q=>?_) hx q;obtain⟨t,e,q⟩:=q;exact⟨t,e,F6 (h _ _) (λq=>b9 hP b _ _ _ _ _ _ h hx q) q⟩
 |.eR a,σ,g,Q,Q',E,E',h,hx,q=>by
  refine b9 hP a _ _ _ _ _ _ (λx g1 q=>?_) hx q;obtain⟨t,e,q⟩:=q;exact⟨t,e,h _ _ q⟩
 |.ite c a b,σ,g,Q,Q',E,E',h,hx,q=>by
  exact t8 hP c _ _ _ _ _ _ (λt g1 q=>F6 (λq=>b9 hP a _ _ _ _ _ _ h hx q) (λq=>b9 hP b _ _ _ _ _ _ h hx q) q) hx q
 |.call f es,σ,g,Q,Q',E,E',h,hx,q=>by
  exact A4 hP es _ _ _ _ _ _ (λxs g1 q=>hP _ _ _ _ _ _ _ h hx q) hx q
 |.make c f es,σ,g,Q,Q',E,E',h,hx,q=>by
  exact A4 hP es _ _ _ _ _ _ (λxs g1 q=>hP _ _ _ _ _ _ _ (λd g2 q=>⟨q.1,h _ _ q.2⟩) hx q) hx q
 |.kT m cs o es,σ,g,Q,Q',E,E',h,hx,q=>by
  refine b9 hP o _ _ _ _ _ _ (λx g1 q=>?_) hx q;obtain⟨a,c,fs,f,q1,q2,q3,q4,q⟩:=q;exact⟨a,c,fs,f,q1,q2,q3,q4,A4 hP es _ _ _ _ _ _ (λxs g2 q=>hP _ _ _ _ _ _ _ h hx q) hx q⟩
 |.comp d5 n tg it cond elt,σ,g,Q,Q',E,E',h,hx,q=>by
  exact C2 hP it _ _ _ _ _ _ (λk g1 q=>Ki (λys g q=>h _ _ q) (λ_ _ _ _ q=>q) q) hx q
 |.kR d5 n tg it cond elt,σ,g,Q,Q',E,E',h,hx,q=>by
  exact C2 hP it _ _ _ _ _ _ (λk g1 q=>Ki (λys g q=>h _ _ q) (λx N σ g q=>A8 (λcT q=>t8 hP cond _ _ _ _ _ _ (λb g3 q=>by
   cases b
   ·exact q
   ·exact b9 hP elt _ _ _ _ _ _ (λ_ _ z=>z) hx q) (λ_ _ z=>z) q) q) q) hx q
 |.iy d5 n tg it cond elt,σ,g,Q,Q',E,E',h,hx,q=>by
  exact C2 hP it _ _ _ _ _ _ (λk g1 q=>aH2 (λys g q=>h _ _ q) (λ_ _ _ _ q=>q) q) hx q
 |.nil,σ,g,Q,Q',E,E',h,hx,q=>(show False from q).elim
 |.cons _ _,σ,g,Q,Q',E,E',h,hx,q=>(show False from q).elim
 |.fi _,σ,g,Q,Q',E,E',h,hx,q=>(show False from q).elim
 |.fh _,σ,g,Q,Q',E,E',h,hx,q=>(show False from q).elim
 |.kX _ _,σ,g,Q,Q',E,E',h,hx,q=>(show False from q).elim
 |.lP _,σ,g,Q,Q',E,E',h,hx,q|.tN _,σ,g,Q,Q',E,E',h,hx,q=>(show False from q).elim
 |.fR _,σ,g,Q,Q',E,E',h,hx,q=>(show False from q).elim
 |.no,σ,g,Q,Q',E,E',h,hx,q=>(show False from q).elim
theorem A4{P:fP}(hP:j6 P):∀(e:ME) (σ:S) (g:G) (Q Q':List D->G->Prop) (E E':KX),(∀d g,Q d g->Q' d g)->(∀x g,E x g->E' x g)->gG P e σ g Q E->gG P e σ g Q' E'
 |.nil,σ,g,Q,Q',E,E',h,hx,q=>by exact h _ _ q
 |.cons a b,σ,g,Q,Q',E,E',h,hx,q=>by
  exact b9 hP a _ _ _ _ _ _ (λx g1 q=>A4 hP b _ _ _ _ _ _ (λxs g2 q=>h _ _ q) hx q) hx q
 |.var _,σ,g,Q,Q',E,E',h,hx,q|.lit _,σ,g,Q,Q',E,E',h,hx,q|.prim _ _,σ,g,Q,Q',E,E',h,hx,q|.fJ _ _ _,σ,g,Q,Q',E,E',h,hx,q|.wG _,σ,g,Q,Q',E,E',h,hx,q|.chain _ _ _ _ _,σ,g,Q,Q',E,E',h,hx,q|.dM _ _,σ,g,Q,Q',E,E',h,hx,q|.jN _ _,σ,g,Q,Q',E,E',h,hx,q|.eR _,σ,g,Q,Q',E,E',h,hx,q|.ite _ _ _,σ,g,Q,Q',E,E',h,hx,q|.call _ _,σ,g,Q,Q',E,E',h,hx,q
 |.make _ _ _,σ,g,Q,Q',E,E',h,hx,q|.kT _ _ _ _,σ,g,Q,Q',E,E',h,hx,q|.comp _ _ _ _ _ _,σ,g,Q,Q',E,E',h,hx,q|.iy _ _ _ _ _ _,σ,g,Q,Q',E,E',h,hx,q|.kR _ _ _ _ _ _,σ,g,Q,Q',E,E',h,hx,q|.fi _,σ,g,Q,Q',E,E',h,hx,q|.fh _,σ,g,Q,Q',E,E',h,hx,q|.kX _ _,σ,g,Q,Q',E,E',h,hx,q|.lP _,σ,g,Q,Q',E,E',h,hx,q|.tN _,σ,g,Q,Q',E,E',h,hx,q|.fR _,σ,g,Q,Q',E,E',h,hx,q|.no,σ,g,Q,Q',E,E',h,hx,q=>(show False from q).elim
theorem t8{P:fP}(hP:j6 P):∀(e:ME) (σ:S) (g:G) (Q Q':Bool->G->Prop) (E E':KX),(∀d g,Q d g->Q' d g)->(∀x g,E x g->E' x g)->dD P e σ g Q E->dD P e σ g Q' E'
 |.dM a b,σ,g,Q,Q',E,E',h,hx,q=>by
  exact t8 hP a _ _ _ _ _ _ (λt g1 q=>F6 (λq=>t8 hP b _ _ _ _ _ _ h hx q) (h _ _) q) hx q
 |.jN a b,σ,g,Q,Q',E,E',h,hx,q=>by
  exact t8 hP a _ _ _ _ _ _ (λt g1 q=>F6 (h _ _) (λq=>t8 hP b _ _ _ _ _ _ h hx q) q) hx q
 |.eR a,σ,g,Q,Q',E,E',h,hx,q=>by exact t8 hP a _ _ _ _ _ _ (λt g1 q=>h _ _ q) hx q
 |.no,σ,g,Q,Q',E,E',h,hx,q=>by exact h _ _ q
 |.fR e,σ,g,Q,Q',E,E',h,hx,q=>by exact b9 hP e _ _ _ _ _ _ (λx g1 q=>ZJ (λb q=>h _ _ q) q) hx q
 |.var _,σ,g,Q,Q',E,E',h,hx,q|.lit _,σ,g,Q,Q',E,E',h,hx,q|.prim _ _,σ,g,Q,Q',E,E',h,hx,q|.fJ _ _ _,σ,g,Q,Q',E,E',h,hx,q|.wG _,σ,g,Q,Q',E,E',h,hx,q|.chain _ _ _ _ _,σ,g,Q,Q',E,E',h,hx,q|.ite _ _ _,σ,g,Q,Q',E,E',h,hx,q|.call _ _,σ,g,Q,Q',E,E',h,hx,q|.nil,σ,g,Q,Q',E,E',h,hx,q|.cons _ _,σ,g,Q,Q',E,E',h,hx,q
 |.make _ _ _,σ,g,Q,Q',E,E',h,hx,q|.kT _ _ _ _,σ,g,Q,Q',E,E',h,hx,q|.comp _ _ _ _ _ _,σ,g,Q,Q',E,E',h,hx,q|.iy _ _ _ _ _ _,σ,g,Q,Q',E,E',h,hx,q|.kR _ _ _ _ _ _,σ,g,Q,Q',E,E',h,hx,q|.fi _,σ,g,Q,Q',E,E',h,hx,q|.fh _,σ,g,Q,Q',E,E',h,hx,q|.kX _ _,σ,g,Q,Q',E,E',h,hx,q|.lP _,σ,g,Q,Q',E,E',h,hx,q|.tN _,σ,g,Q,Q',E,E',h,hx,q=>(show False from q).elim
theorem C2{P:fP}(hP:j6 P):∀(e:ME) (σ:S) (g:G) (Q Q':IK->G->Prop) (E E':KX),(∀d g,Q d g->Q' d g)->(∀x g,E x g->E' x g)->iN P e σ g Q E->iN P e σ g Q' E'
 |.fi e,σ,g,Q,Q',E,E',h,hx,q=>by
  exact b9 hP e _ _ _ _ _ _ (λx g1 q=>q.imp (λ⟨l,a,b⟩=>⟨l,a,h _ _ b⟩) λ⟨i,l,a,b,c⟩=>⟨i,l,a,b,h _ _ c⟩) hx q
 |.fh a,σ,g,Q,Q',E,E',h,hx,q=>by
  exact b9 hP a _ _ _ _ _ _ (λx g1 ⟨j,a,b,c,d⟩=>⟨j,a,b,c,h _ _ d⟩) hx q
 |.kX a b,σ,g,Q,Q',E,E',h,hx,q=>by
  exact b9 hP a _ _ _ _ _ _ (λx g1 q=>b9 hP b _ _ _ _ _ _ (λy g2 ⟨i,j,a,b,c,d⟩=>⟨i,j,a,b,c,h _ _ d⟩) hx q) hx q
 |.lP e,σ,g,Q,Q',E,E',h,hx,q=>by
  exact b9 hP e _ _ _ _ _ _ (λx g1 ⟨i,l,a,b,c⟩=>⟨i,l,a,b,h _ _ c⟩) hx q
 |.tN e,σ,g,Q,Q',E,E',h,hx,q=>by
  exact b9 hP e _ _ _ _ _ _ (λx g1 ⟨i,l,a,b,c⟩=>⟨i,l,a,b,h _ _ c⟩) hx q
 |.var _,σ,g,Q,Q',E,E',h,hx,q|.lit _,σ,g,Q,Q',E,E',h,hx,q|.prim _ _,σ,g,Q,Q',E,E',h,hx,q|.fJ _ _ _,σ,g,Q,Q',E,E',h,hx,q|.wG _,σ,g,Q,Q',E,E',h,hx,q|.chain _ _ _ _ _,σ,g,Q,Q',E,E',h,hx,q|.ite _ _ _,σ,g,Q,Q',E,E',h,hx,q|.call _ _,σ,g,Q,Q',E,E',h,hx,q|.nil,σ,g,Q,Q',E,E',h,hx,q|.cons _ _,σ,g,Q,Q',E,E',h,hx,q
 |.dM _ _,σ,g,Q,Q',E,E',h,hx,q|.jN _ _,σ,g,Q,Q',E,E',h,hx,q|.eR _,σ,g,Q,Q',E,E',h,hx,q|.fR _,σ,g,Q,Q',E,E',h,hx,q|.no,σ,g,Q,Q',E,E',h,hx,q
 |.make _ _ _,σ,g,Q,Q',E,E',h,hx,q|.kT _ _ _ _,σ,g,Q,Q',E,E',h,hx,q|.comp _ _ _ _ _ _,σ,g,Q,Q',E,E',h,hx,q|.iy _ _ _ _ _ _,σ,g,Q,Q',E,E',h,hx,q|.kR _ _ _ _ _ _,σ,g,Q,Q',E,E',h,hx,q=>(show False from q).elim
end
structure Ends.le(N N':Ends):Prop where
 nx:∀σ g,N.nx σ g->N'.nx σ g
 rt:∀d g,N.rt d g->N'.rt d g
 bk:∀σ g,N.bk σ g->N'.bk σ g
 ct:∀σ g,N.ct σ g->N'.ct σ g
theorem Jl{P:fP}(hP:j6 P){N N':Ends}{E E':KX}(h:N.le N')(hx:∀x g,E x g->E' x g){σ:S}:∀(hs:List (Str×ME)) x g,uV P N σ E hs x g->uV P N' σ E' hs x g
 |[],x,g,q=>hx x g q
 |(y,e)::r,x,g,q=>by
  unfold uV at q ⊢;split
  ·rename_i hh;rw[aK hh] at q;exact b9 hP e _ _ _ _ _ _ h.rt (λ_ _ z=>z) q
  ·rename_i hh;rw[aB hh] at q;exact Jl hP h hx r x g q
theorem wpS_mono{P:fP}(hP:j6 P):∀(s:MS) (N N':Ends) (σ:S) (g:G) (E E':KX),N.le N'->(∀x g,E x g->E' x g)->wpS P s N σ g E->wpS P s N' σ g E'
 |.pass,N,N',σ,g,E,E',h,hx,q=>h.nx _ _ q
 |.seq a b,N,N',σ,g,E,E',h,hx,q=>wpS_mono hP a { N with nx:=λkr g1=>wpS P b N kr g1 E } { N' with nx:=λkr g1=>wpS P b N' kr g1 E' } _ _ _ _ ⟨λkr g1 q=>wpS_mono hP b _ _ _ _ _ _ h hx q,h.rt,h.bk,h.ct⟩ hx q
 |.expr e,N,N',σ,g,E,E',h,hx,q=>b9 hP e _ _ _ _ _ _ (λx g1 q=>h.nx _ _ q) hx q
 |.set i e,N,N',σ,g,E,E',h,hx,q=>b9 hP e _ _ _ _ _ _ (λx g1 q=>h.nx _ _ q) hx q
 |.mE t e,N,N',σ,g,E,E',h,hx,q=>b9 hP e _ _ _ _ _ _ (λx g1 q=>A8 (λσ q=>h.nx _ _ q) q) hx q
 |.fg o i v,N,N',σ,g,E,E',h,hx,q=>b9 hP v _ _ _ _ _ _ (λx g1 q=>b9 hP o _ _ _ _ _ _ (λy g2 q=>b9 hP i _ _ _ _ _ _ (λz g3 q=>U2 (λg q=>h.nx _ _ q) q) hx q) hx q) hx q
 |.iO f cs o v,N,N',σ,g,E,E',h,hx,q=>b9 hP v _ _ _ _ _ _ (λx g1 q=>b9 hP o _ _ _ _ _ _ (λy g2 q=>aN5 (λg q=>h.nx _ _ q) q) hx q) hx q
 | .wR f cs o v,N,N',σ,g,E,E',h,hx,q=>b9 hP o _ _ _ _ _ _ (λy g1 q=>by
   obtain⟨a,c,fs,x,q1,q2,q3,q4,q⟩:=q;exact ⟨a,c,fs,x,q1,q2,q3,q4,b9 hP v _ _ _ _ _ _ (λz g3 q=>v8 (λw g4 q=>by
    obtain⟨sE,k1,k2,k3⟩:=q;exact ⟨sE,k1,k2,h.nx _ _ k3⟩) q) hx q⟩) hx q
 |.xR o1 i1 o2 i2 e,N,N',σ,g,E,E',h,hx,q=>b9 hP e _ _ _ _ _ _ (λx g1 q=>let ⟨u,v,q1,q⟩:=q;⟨u,v,q1,b9 hP o1 _ _ _ _ _ _ (λy g2 q=>b9 hP i1 _ _ _ _ _ _ (λz g3 q=>U2 (λg4 q=>b9 hP o2 _ _ _ _ _ _ (λy g5 q=>b9 hP i2 _ _ _ _ _ _ (λz g6 q=>U2 (λg q=>h.nx _ _ q) q) hx q) hx q) q) hx q) hx q⟩) hx q
 |.wQ i p v,N,N',σ,g,E,E',h,hx,q=>let ⟨x,q1,q⟩:=q;⟨x,q1,b9 hP v _ _ _ _ _ _ (λz g1 q=>v8 (λw g2 q=>h.nx _ _ q) q) hx q⟩
 |.ifs c a b,N,N',σ,g,E,E',h,hx,q=>t8 hP c _ _ _ _ _ _ (λt g1 q=>F6 (λq=>wpS_mono hP a _ _ _ _ _ _ h hx q) (λq=>wpS_mono hP b _ _ _ _ _ _ h hx q) q) hx q
 |.dX t it b,N,N',σ,g,E,E',h,hx,q=>C2 hP it _ _ _ _ _ _ (λk g1 q=>aM4 h.nx (λx N2 σ g q=>A8 (λcT q=>wpS_mono hP b { N with nx:=N2,ct:=N2,bk:=N.nx } { N' with nx:=N2,ct:=N2,bk:=N'.nx } _ _ _ _ ⟨λ_ _ z=>z,h.rt,h.nx,λ_ _ z=>z⟩ hx q) q) q) hx q
 |.uW c b,N,N',σ,g,E,E',h,hx,q=>by
  obtain⟨W,w0,q⟩:=q;refine⟨W,w0,λm σ g w=>t8 hP c _ _ _ _ _ _ (λt g1 q=>F6 (λq=>?_) (h.nx _ _) q) hx (q m σ g w)⟩;obtain⟨N2,a,q⟩:=q;exact⟨N2,a,wpS_mono hP b { N with nx:=N2,ct:=N2,bk:=N.nx } { N' with nx:=N2,ct:=N2,bk:=N'.nx } _ _ _ _ ⟨λ_ _ z=>z,h.rt,h.nx,λ_ _ z=>z⟩ hx q⟩
 |.ret e,N,N',σ,g,E,E',h,hx,q=>b9 hP e _ _ _ _ _ _ h.rt hx q
 |.rm,N,N',σ,g,E,E',h,hx,q=>h.rt _ _ q
 |.brk,N,N',σ,g,E,E',h,hx,q=>h.bk _ _ q
 |.cont,N,N',σ,g,E,E',h,hx,q=>h.ct _ _ q
 |.raise x es,N,N',σ,g,E,E',h,hx,q=>A4 hP es _ _ _ _ _ _ (λvs g1 q=>⟨q.1,hx _ _ q.2⟩) hx q
 |.uX b hs,N,N',σ,g,E,E',h,hx,q=>wpS_mono hP b _ _ _ _ _ _ h (λx g q=>Jl hP h hx hs x g q) q
theorem a9(T:Nat->Option bo):∀k,j6 (c5 T k)
 |0=>λf xs g Q Q' E E' h hx q=>q.elim
 |k+1=>λf xs g Q Q' E E' h hx q=>by
  obtain⟨m,a,b,q⟩:=q;exact⟨m,a,b,wpS_mono (a9 T k) m.body ⟨λ_ g'=>Q .cE g',Q,λ_ _=>False,λ_ _=>False⟩ _ _ _ _ _ ⟨λ_ _ z=>h _ _ z,h,λ_ _ z=>z,λ_ _ z=>z⟩ hx q⟩
def TupAt(K:PySem.W.Frag)(H:Hp)(a:Addr)(vs:List V):Prop :=
 H a=some (.tup vs)\/∃(o:Obj) (aX:Array Value) (n:Nat),K.lookup a=some o/\o.cls=.type "tuple"/\o.dict=none/\o.data=.seq aX n/\aX.size<=sizeLine/\Vals vs aX.toList
theorem TupAt.d(h:TupAt K H a vs):Fb K H a vs:=h
theorem TupAt.sq{K:PySem.W.Frag}{H:Hp}{a:Addr}{vs:List V}(h:TupAt K H a vs):iU K H a vs:=h.d.sq
mutual
inductive d8(K:PySem.W.Frag)(ρ:List Addr)(H:Hp):D->V->Prop
 |cE:d8 K ρ H .cE .cE
 |bl (b:Bool):d8 K ρ H (.bl b) (.bl b)
 |int (i:Int):d8 K ρ H (.int i) (.int i)
 |str (x:Str):d8 K ρ H (.str x) (.str x)
 |ty (n:String):d8 K ρ H (.ty n) (.ty n)
 |ref {i:Nat} {a:Addr} (h:ρ[i]?=some a):d8 K ρ H (.ref i) (.ref a)
 |tup {l:List D} {a:Addr} {vs:List V} (h:TupAt K H a vs) (r:b8 K ρ H l vs):d8 K ρ H (.tup l) (.ref a)
inductive b8(K:PySem.W.Frag)(ρ:List Addr)(H:Hp):List D->List V->Prop
 |nil:b8 K ρ H [] []
 |cons {d:D} {v:V} {ds:List D} {vs:List V} (h:d8 K ρ H d v) (r:b8 K ρ H ds vs):b8 K ρ H (d::ds) (v::vs)
end
structure Ext(ρ:List Addr)(H:Hp)(cy:List Addr)(H':Hp):Prop where
 pre:∃more,cy=ρ++more
 tup:∀a xs,H a=some (.tup xs)->H' a=some (.tup xs)
theorem Ext.refl(ρ:List Addr)(H:Hp):Ext ρ H ρ H:=⟨⟨[],by simp⟩,λ_ _ h=>h⟩
theorem Ext.trans{ρ H cx H1 gb H2}(a:Ext ρ H cx H1)(b:Ext cx H1 gb H2):Ext ρ H gb H2:=by
 obtain⟨⟨m,rfl⟩,t⟩:=a;obtain⟨⟨m',rfl⟩,t'⟩:=b;exact⟨⟨m++m',by simp⟩,λx xs h=>t' _ _ (t _ _ h)⟩
theorem Ext.get{ρ H cy H'}(e:Ext ρ H cy H')(h:ρ[i]?=some a):cy[i]?=some a:=by
 obtain⟨⟨m,rfl⟩,_⟩:=e;rw[aO (ax.mp h).1];exact h
theorem TupAt.ext{K ρ H cy H'}(e:Ext ρ H cy H'){a:Addr}{vs:List V}(h:TupAt K H a vs):TupAt K H' a vs:=h.elim (λz=>.inl (e.tup _ _ z)) .inr
mutual
theorem d8.ext{K ρ H cy H'}(e:Ext ρ H cy H'):∀{d v},d8 K ρ H d v->d8 K cy H' d v
 |_,_,.cE=>.cE
 |_,_,.bl b=>.bl b
 |_,_,.int i=>.int i
 |_,_,.str x=>.str x
 |_,_,.ty n=>.ty n
 |_,_,.ref h=>.ref (e.get h)
 |_,_,.tup h r=>.tup (h.ext e) (b8.ext e r)
theorem b8.ext{K ρ H cy H'}(e:Ext ρ H cy H'):∀{ds vs},b8 K ρ H ds vs->b8 K cy H' ds vs
 |_,_,.nil=>.nil
 |_,_,.cons h r=>.cons (d8.ext e h) (b8.ext e r)
end
theorem b8.length{K ρ H}{ds:List D}{vs:List V}(h:b8 K ρ H ds vs):ds.length=vs.length:=by
 induction ds generalizing vs with
 |nil=>cases h;rfl
 |cons d ds ih =>
  cases h with
  |cons q r=>simp[ih r]
theorem b8.get{K ρ H}:∀{ds vs} {i:Nat} {d:D},b8 K ρ H ds vs->ds[i]?=some d->∃v,vs[i]?=some v/\d8 K ρ H d v
 |_,_,_,_,.nil,h=>by simp at h
 |_,_,0,_,.cons h _,e=>by simp at e;subst e;exact⟨_,rfl,h⟩
 |_,_,i+1,d,.cons _ r,e=>by
  obtain⟨v,h1,h2⟩:=b8.get (i:=i) (d:=d) r (by simpa using e);exact⟨v,by simpa using h1,h2⟩
theorem b8.set{K ρ H}{d:D}{v:V}(h:d8 K ρ H d v):∀{ds vs} (i:Nat),b8 K ρ H ds vs->b8 K ρ H (ds.set i d) (vs.set i v)
 |_,_,_,.nil=>.nil
 |_,_,0,.cons _ r=>.cons h r
 |_,_,i+1,.cons q r=>.cons q (b8.set h i r)
theorem b8.append{K ρ H}{ds es:List D}{ws:List V}(h:b8 K ρ H ds vs)(s:b8 K ρ H es ws):b8 K ρ H (ds++es) (vs++ws):=by
 induction ds generalizing vs with
 |nil=>cases h;exact s
 |cons d ds ih =>
  cases h with
  |cons q r=>exact .cons q (ih r)
theorem b8.rep{K ρ H}{ds:List D}{vs:List V}(r:b8 K ρ H ds vs):∀n,b8 K ρ H (List.replicate n ds).flatten (List.replicate n vs).flatten
 |0=>.nil
 |n+1=>by
  rw[cA,cA,dF,dF];exact b8.append r (b8.rep r n)
theorem b8.erase{K ρ H}:∀{ds:List D} {vs:List V} (i:Nat),b8 K ρ H ds vs->b8 K ρ H (ds.eraseIdx i) (vs.eraseIdx i)
 |_,_,_,.nil=>.nil
 |_,_,0,.cons _ r=>r
 |_,_,i+1,.cons q r=>.cons q (b8.erase i r)
theorem b8.take{K ρ H}:∀{ds:List D} {vs:List V} (n:Nat),b8 K ρ H ds vs->b8 K ρ H (ds.take n) (vs.take n)
 |_,_,0,_=>.nil
 |_,_,_+1,.nil=>.nil
 |_,_,n+1,.cons h r=>.cons h (b8.take n r)
theorem b8.drop{K ρ H}:∀{ds:List D} {vs:List V} (n:Nat),b8 K ρ H ds vs->b8 K ρ H (ds.drop n) (vs.drop n)
 |_,_,0,r=>r
 |_,_,_+1,.nil=>.nil
 |_,_,n+1,.cons _ r=>b8.drop n r
theorem b8.reverse{K ρ H}:∀{ds:List D} {vs:List V},b8 K ρ H ds vs->b8 K ρ H ds.reverse vs.reverse
 |_,_,.nil=>.nil
 |_,_,.cons h r=>by
  rw[ie,ie];exact b8.append (b8.reverse r) (.cons h .nil)
theorem b8.cut{K ρ H}{ds:List D}{vs:List V}(r:b8 K ρ H ds vs)(lo hi:Option Int):b8 K ρ H (M.cut ds lo hi) (T1 vs lo hi):=by
 unfold M.cut T1;rw[r.length];exact(r.drop _).take _
theorem b8.ints{K ρ H}:∀{ns:List Int} {vs:List V},b8 K ρ H (ns.map D.int) vs->vs=ns.map V.int
 |[],_,.nil=>rfl
 |_::_,_,.cons h r=>by cases h;rw[b8.ints r];rfl
theorem b8.ofInts{K ρ H}:∀(ns:List Int),b8 K ρ H (ns.map D.int) (ns.map V.int)
 |[]=>.nil
 |n::r=>.cons (.int n) (b8.ofInts r)
def uy(K:PySem.W.Frag)(H:Hp)(a:Addr)(vs:List V):Prop :=
 (∃o,H a=some (.kE o (.lst vs)))\/∃(o:Obj) (aX:Array Value) (n:Nat),K.lookup a=some o/\o.cls=.type "list"/\o.dict=none/\o.data=.seq aX n/\aX.size<=sizeLine/\Vals vs aX.toList
theorem uy.sq(h:uy K H a vs):gi K H a vs:=h.elim (λ⟨o,z⟩=>.inl (.inr ⟨o,z⟩)) .inr
inductive j4{α:Type}(K:PySem.W.Frag)(ρ:List Addr)(H:Hp):List (α×D)->List (α×V)->Prop
 |nil:j4 K ρ H [] []
 |cons {k:α} {d:D} {v:V} {ds:List (α×D)} {vs:List (α×V)} (h:d8 K ρ H d v) (r:j4 K ρ H ds vs):j4 K ρ H ((k,d)::ds) ((k,v)::vs)
theorem j4.ext{α:Type}{K ρ H cy H'}(e:Ext ρ H cy H'){ds:List (α×D)}{vs:List (α×V)}(h:j4 K ρ H ds vs):j4 K cy H' ds vs:=by
 induction h with
 |nil=>exact .nil
 |cons h r ih=>exact .cons (h.ext e) ih
theorem j4.length{α:Type}{K ρ H}{ds:List (α×D)}{vs:List (α×V)}(h:j4 K ρ H ds vs):ds.length=vs.length:=by
 induction h with
 |nil=>rfl
 |cons h r ih=>simp[ih]
def sV(K:PySem.W.Frag)(ρ:List Addr)(H:Hp):Option D->Option V->Prop
 |some d,some v=>d8 K ρ H d v
 |none,none=>True
 |_,_=>False
theorem j4.val{K ρ H}:∀{ds vs} (k:Key),j4 K ρ H ds vs->sV K ρ H (u9 ds k) (L8 vs k)
 |_,_,k,.nil=>trivial
 |_,_,k,.cons (k:=k') h r=>by
  unfold u9 L8;rw[fo,fo];by_cases e:k'=k
  ·simp only[e,decide_true];exact h
  ·simp only[e,decide_false];exact j4.val k r
theorem j4.Iw{K ρ H}:∀{ds vs} (k:Key),j4 K ρ H ds vs->(ds.any λkv=>decide (kv.1=k))=(vs.any λkv=>decide (kv.1=k))
 |_,_,k,.nil=>rfl
 |_,_,k,.cons h r=>by simp only[List.any_cons,j4.Iw k r]
theorem j4.snoc{K ρ H}{k:Key}{d:D}{v:V}(h:d8 K ρ H d v){ds vs}(t:j4 K ρ H ds vs):j4 K ρ H (ds++[(k,d)]) (vs++[(k,v)]):=by
 induction ds generalizing vs with
 |nil=>cases t;exact .cons h .nil
 |cons d ds ih =>
  cases t with
  |cons q r=>exact .cons q (ih r)
theorem j4.EO{K ρ H}{k:Key}{d:D}{v:V}(h:d8 K ρ H d v):∀{ds vs},j4 K ρ H ds vs->j4 K ρ H (ds.map λkv=>if kv.1=k then(kv.1,d) else kv) (vs.map λkv=>if kv.1=k then(kv.1,v) else kv)
 |_,_,.nil=>.nil
 |_,_,.cons (k:=k') q r=>by
  simp only[List.map_cons];by_cases e:k'=k
  ·rw[aK e,aK e];exact .cons h (j4.EO h r)
  ·rw[aB e,aB e];exact .cons q (j4.EO h r)
theorem j4.put{K ρ H}{k:Key}{d:D}{v:V}(h:d8 K ρ H d v){ds vs}(r:j4 K ρ H ds vs):j4 K ρ H (putD ds k d) (putK vs k v):=by
 unfold putD putK;rw[r.Iw k];split
 ·exact r.EO h
 ·exact r.snoc h
noncomputable abbrev x5(K:PySem.W.Frag)(x:Str)(C:Addr):Prop:=PySem.W.nsIn K mainGlobals x=some (some (.ref C))
theorem j4.look{K ρ H}{ds:List (Str×D)}{vs:List (Str×V)}(f:Str)(h:j4 K ρ H ds vs):sV K ρ H (ds.lookup f) (vs.lookup f):=by
 induction h with
 |nil=>trivial
 |cons h r ih =>
  rename_i k d v ds vs;rw[cS,cS];cases f==k
  ·exact ih
  ·exact h
theorem j4.A9{K ρ H}{f:Str}{d:D}{v:V}(h:d8 K ρ H d v){ds:List (Str×D)}{vs:List (Str×V)}(r:j4 K ρ H ds vs):j4 K ρ H (n5 f d ds) (L2.A9 f v vs):=by
 induction r with
 |nil=>exact .cons h .nil
 |cons q r ih =>
  unfold n5 L2.A9;split
  ·exact .cons h r
  ·exact .cons q ih
theorem JV{f:Str}{d:D}{p:Str->Prop}(hf:p f):∀{ds:List (Str×D)},(∀x∈ds,p x.1)->∀x∈n5 f d ds,p x.1
 |[],_,x,hx=>by
  have:x=(f,d):=by simpa[n5] using hx
  rw[this];exact hf
 |(k,e)::r,h,x,hx=>by
  unfold n5 at hx;split at hx
  ·rcases aH.mp hx with z|z
   ·rw[z];exact h (k,e) (by simp)
   ·exact h x (by simp[z])
  ·rcases aH.mp hx with z|z
   ·rw[z];exact h (k,e) (by simp)
   ·exact JV hf (λy hy=>h y (by simp[hy])) x z
def OH(K:PySem.W.Frag)(ρ:List Addr)(H:Hp):O->HO->Prop
 |.lst l,.lst vs=>b8 K ρ H l vs
 |.dz kvs,.dK vs=>j4 K ρ H kvs vs
 |.set S n,.set S' n'=>S=S'/\n=n'
 |.ins c fs,.ins C _ vs=>x5 K c C/\jM K C/\j4 K ρ H fs vs/\∀x∈fs,C1 K C x.1
 |_,_=>False
theorem OH.ext{K ρ H cy H'}(e:Ext ρ H cy H'){o:O}{u:HO}(h:OH K ρ H o u):OH K cy H' o u:=by
 cases o<;>cases u<;>first|exact h.elim|exact b8.ext e h|exact j4.ext e h|exact⟨h.1,h.2.1,h.2.2.1.ext e,h.2.2.2⟩|exact h
theorem OH.uF{K ρ H}{xs:List V}(h:OH K ρ H o (.tup xs)):False:=by cases o<;>exact h
theorem OH.Xi{K ρ H}{ob:Obj}(h:OH K ρ H o (.kE ob u)):False:=by cases o<;>exact h
def K0(K:PySem.W.Frag)(ρ:List Addr)(H:Hp)(o:O)(a:Addr):Prop:=match o with
 |.pE l=>∃vs,uy K H a vs/\b8 K ρ H l vs
 |o=>∃u,H a=some u/\OH K ρ H o u
theorem K0.of{K ρ H}(hu:H a=some u)(h:OH K ρ H o u):K0 K ρ H o a:=by
 cases o<;>first|exact⟨u,hu,h⟩|(cases u<;>exact h.elim)
theorem K0.inv{K ρ H}(m:o.mut=true)(h:K0 K ρ H o a):∃u,H a=some u/\OH K ρ H o u:=by
 cases o<;>first|exact h|cases m
theorem K0.lst{K ρ H}{l:List D}{a:Addr}(h:K0 K ρ H (.lst l) a):∃vs,H a=some (.lst vs)/\b8 K ρ H l vs:=by
 obtain⟨u,h1,h2⟩:=h;cases u<;>first|exact⟨_,h1,h2⟩|exact h2.elim
theorem K0.dz{K ρ H}{l:List (Key×D)}{a:Addr}(h:K0 K ρ H (.dz l) a):∃vs,H a=some (.dK vs)/\j4 K ρ H l vs:=by
 obtain⟨u,h1,h2⟩:=h;cases u<;>first|exact⟨_,h1,h2⟩|exact h2.elim
theorem K0.set{K ρ H}{S:Int->Bool}{n:Nat}{a:Addr}(h:K0 K ρ H (.set S n) a):H a=some (.set S n):=by
 obtain⟨u,h1,h2⟩:=h;cases u<;>first|(obtain⟨rfl,rfl⟩:=(show _/\_ from h2);exact h1)|exact h2.elim
theorem K0.ins{K ρ H}{c:Str}{fs:List (Str×D)}{a:Addr}(h:K0 K ρ H (.ins c fs) a):∃C dx vs,H a=some (.ins C dx vs)/\x5 K c C/\jM K C/\j4 K ρ H fs vs/\∀x∈fs,C1 K C x.1:=by
 obtain⟨u,h1,h2⟩:=h;cases u<;>first|exact⟨_,_,_,h1,h2⟩|exact h2.elim
structure Rl(K:PySem.W.Frag)(ρ:List Addr)(g:G)(H:Hp):Prop where
 len:ρ.length=g.length
 obj:∀(i:Nat) o a,g[i]?=some o->ρ[i]?=some a->K0 K ρ H o a
 nd:∀(i j:Nat) o o' a,g[i]?=some o->g[j]?=some o'->o.mut=true->o'.mut=true->ρ[i]?=some a->ρ[j]?=some a->i=j
section
variable{ρ:List Addr}
theorem Rl.lst(R:Rl K ρ g H){i:Nat}{l:List D}{a:Addr}(h:g[i]?=some (.lst l))(ha:ρ[i]?=some a):∃vs,H a=some (.lst vs)/\b8 K ρ H l vs:=(R.obj _ _ _ h ha).lst
theorem Rl.dz(R:Rl K ρ g H){i:Nat}{l:List (Key×D)}{a:Addr}(h:g[i]?=some (.dz l))(ha:ρ[i]?=some a):∃vs,H a=some (.dK vs)/\j4 K ρ H l vs:=(R.obj _ _ _ h ha).dz
theorem Rl.set(R:Rl K ρ g H){i:Nat}{S:Int->Bool}{n:Nat}{a:Addr}(h:g[i]?=some (.set S n))(ha:ρ[i]?=some a):H a=some (.set S n):=(R.obj _ _ _ h ha).set
theorem Rl.ins(R:Rl K ρ g H){i:Nat}{c:Str}{fs:List (Str×D)}{a:Addr}(h:g[i]?=some (.ins c fs))(ha:ρ[i]?=some a):∃C dx vs,H a=some (.ins C dx vs)/\x5 K c C/\jM K C/\j4 K ρ H fs vs/\∀x∈fs,C1 K C x.1:=(R.obj _ _ _ h ha).ins
theorem Rl.items(R:Rl K ρ g H)(h:c8 g i=some l)(ha:ρ[i]?=some a):∃vs,gi K H a vs/\b8 K ρ H l vs:=by
 cases e:g[i]? with
 |none=>rw[c8,e] at h;cases h
 |some o =>
  rw[c8,e] at h;have q:=R.obj _ _ _ e ha;cases o with
  |lst m=>cases h;obtain⟨vs,z,r⟩:=q.lst;exact⟨vs,gi.of z,r⟩
  |pE m=>cases h;obtain⟨vs,z,r⟩:=q;exact⟨vs,z.sq,r⟩
  |_=>cases h
theorem B5{o:HO}(hp:H p=none):Ext ρ H ρ (upd H p o):=⟨⟨[],by simp⟩,λa xs h=>by rw[i6 (n8 h hp)];exact h⟩
theorem uy.upd{p a:Addr}{o:HO}{vs:List V}(h:uy K H a vs)(hp:∀ob u,H p≠some (.kE ob u)):uy K (upd H p o) a vs:=by
 rcases h with⟨ob,z⟩|z
 ·refine .inl ⟨ob,?_⟩;rw[i6 ?_]
  ·exact z
  ·intro e;subst e;exact hp _ _ z
 ·exact .inr z
theorem K0.upd{p a:Addr}{o:O}{u:HO}{cy:List Addr}(h:K0 K ρ H o a)(fA:o.mut=true->a≠p)(hp:∀ob u,H p≠some (.kE ob u))(e:Ext ρ H cy (L2.upd H p u)):K0 K cy (L2.upd H p u) o a:=by
 cases hm:o.mut with
 |true =>
  obtain⟨u',h1,h2⟩:=h.inv hm;exact .of (by rw[i6 (fA hm)];exact h1) (h2.ext e)
 |false =>
  cases o<;>first|cases hm|skip
  obtain⟨vs,z,r⟩:=h;exact⟨vs,z.upd hp,r.ext e⟩
theorem Rl.grow{o:HO}(R:Rl K ρ g H)(hp:H p=none):Rl K ρ g (upd H p o):=by
 have e:Ext ρ H ρ (upd H p o):=B5 hp;refine⟨R.len,λi ob a h1 h2=>?_,R.nd⟩;have q:=R.obj _ _ _ h1 h2;refine q.upd (λhm=>?_) (λob u z=>by rw[hp] at z;cases z) e;obtain⟨u,h1,_⟩:=q.inv hm;exact n8 h1 hp
theorem Rl.A5(R:Rl K ρ g H)(p:Addr):(ρ++[p])[g.length]?=some p:=by rw[<- R.len];simp
theorem E2{o:HO}(hp:H p=none):Ext ρ H (ρ++[p]) (upd H p o):=⟨⟨[p],rfl⟩,(B5 (ρ:=ρ) hp).tup⟩
theorem Rl.new{p:Addr}{o:O}{u:HO}(R:Rl K ρ g H)(hp:H p=none)(r:OH K ρ H o u):Rl K (ρ++[p]) (g++[o]) (upd H p u):=by
 have e:Ext ρ H (ρ++[p]) (upd H p u):=E2 hp;have old:∀{i:Nat} {ob:O} {a:Addr},g[i]?=some ob->(ρ++[p])[i]?=some a->ρ[i]?=some a:=λ{i ob a} h1 h2=>by
  rw[aO (by rw[R.len];exact(ax.mp h1).1)] at h2;exact h2
 have split:∀{i:Nat} {ob:O},(g++[o])[i]?=some ob->g[i]?=some ob\/(i=g.length/\ob=o):=λ{i ob} h=>by
  rcases hX i g.length with q|q|q
  ·rw[aO q] at h;exact .inl h
  ·subst q;simp at h;exact .inr ⟨rfl,h.symm⟩
  ·rw[aQ (by simp;omega)] at h;cases h
 refine⟨by simp[R.len],λi ob a h1 h2=>?_,λi j o1 o2 a h1 h2 m1 m2 h3 h4=>?_⟩
 ·rcases split h1 with q|⟨rfl,rfl⟩
  ·have z:=R.obj _ _ _ q (old q h2);refine z.upd (λhm=>?_) (λob u z=>by rw[hp] at z;cases z) e;obtain⟨u,h1,_⟩:=z.inv hm;exact n8 h1 hp
  ·rw[R.A5] at h2;cases h2;exact .of u5 (r.ext e)
 ·have nq:∀{i:Nat} {o:O} {a:Addr},g[i]?=some o->o.mut=true->ρ[i]?=some a->a≠p:=λ{i o a} h1 hm h2=>by
   obtain⟨u,z,_⟩:=(R.obj _ _ _ h1 h2).inv hm;exact n8 z hp
  rcases split h1 with q|⟨rfl,_⟩
  ·rcases split h2 with q'|⟨rfl,_⟩
   ·exact R.nd _ _ _ _ _ q q' m1 m2 (old q h3) (old q' h4)
   ·rw[R.A5] at h4;cases h4;exact absurd rfl (nq q m1 (old q h3))
  ·rcases split h2 with q'|⟨rfl,_⟩
   ·rw[R.A5] at h3;cases h3;exact absurd rfl (nq q' m2 (old q' h4))
   ·rfl
theorem Rl.alloc(R:Rl K ρ g H)(hp:H p=none)(r:b8 K ρ H l vs):Rl K (ρ++[p]) (g++[.lst l]) (upd H p (.lst vs)):=R.new hp r
theorem Rl.put{o':O}(R:Rl K ρ g H)(h:g[i]?=some o)(hm:o.mut=true)(ha:ρ[i]?=some a)(r:OH K ρ H o' u) :
  Rl K ρ (g.set i o') (upd H a u)/\Ext ρ H ρ (upd H a u):=by
 obtain⟨u0,z0,Gg⟩:=(R.obj _ _ _ h ha).inv hm;have e:Ext ρ H ρ (upd H a u):=⟨⟨[],by simp⟩,λb xs q=>by rw[i6];exact q;intro z;subst z;rw[z0] at q;cases q;exact Gg.uF⟩
 refine⟨⟨by simp[R.len],λj ob b h1 h2=>?_,λj k o1 o2 b h1 h2 m1 m2 h3 h4=>?_⟩,e⟩
 ·by_cases iA:i=j
  ·subst iA;rw[ha] at h2;cases h2;have hi:i<g.length:=(ax.mp h).1;rw[bf hi] at h1;cases h1;exact .of u5 (r.ext e)
  ·rw[aC iA] at h1;refine(R.obj _ _ _ h1 h2).upd (λoH ez=>?_) (λob u z=>by rw[z0] at z;cases z;exact Gg.Xi) e;subst ez;exact iA (R.nd _ _ _ _ _ h h1 hm oH ha h2)
 ·have back:∀{j:Nat} {m:O},(g.set i o')[j]?=some m->m.mut=true->∃m',g[j]?=some m'/\m'.mut=true:=λ{j m} q oH=>by
   by_cases iA:i=j
   ·subst iA;exact⟨o,h,hm⟩
   ·rw[aC iA] at q;exact⟨m,q,oH⟩
  obtain⟨_,q1,n1⟩:=back h1 m1;obtain⟨_,q2,n2⟩:=back h2 m2;exact R.nd _ _ _ _ _ q1 q2 n1 n2 h3 h4
theorem Rl.write{l':List D}(R:Rl K ρ g H)(h:g[i]?=some (.lst l))(ha:ρ[i]?=some a)(r:b8 K ρ H l' vs) :
  Rl K ρ (g.set i (.lst l')) (upd H a (.lst vs))/\Ext ρ H ρ (upd H a (.lst vs)):=R.put h rfl ha r
end
structure t6(K:PySem.W.Frag)(ρ:List Addr)(H:Hp)(σ:S)(cH:St):Prop where
 len:σ.length=cH.length
 val:∀(i:Nat) d,σ[i]?=some (some d)->∃v,cH[i]?=some (some v)/\d8 K ρ H d v
section
variable{ρ cy:List Addr}{H':Hp}
theorem t6.ext{σ cH}(e:Ext ρ H cy H')(r:t6 K ρ H σ cH):t6 K cy H' σ cH:=⟨r.len,λi d h=>let ⟨v,a,b⟩:=r.val i d h;⟨v,a,b.ext e⟩⟩
theorem t6.set{σ cH d v}(r:t6 K ρ H σ cH)(i:Nat)(h:d8 K ρ H d v):t6 K ρ H (σ.set i (some d)) (cH.set i (some v)):=by
 refine⟨by simp[r.len],λj e q=>?_⟩;by_cases iA:i=j
 ·subst iA;have hi:i<σ.length:=by
   have:=(ax.mp q).1;simpa using this
  rw[bf hi] at q;cases q;exact⟨v,by rw[bf (by rw[<- r.len];exact hi)],h⟩
 ·rw[aC iA] at q ⊢;exact r.val j e q
theorem t6.start{ds vs}{n:Nat}(r:b8 K ρ H ds vs):t6 K ρ H (ds.map some++List.replicate (n-ds.length) none) (vs.map some++List.replicate (n-vs.length) none):=by
 refine⟨by simp[r.length],λi d h=>?_⟩;by_cases hi:i<ds.length
 ·rw[aO (by simpa using hi),ak] at h;cases e:ds[i]? with
  |none=>rw[e] at h;cases h
  |some x =>
   rw[e] at h;cases h;obtain⟨v,h1,h2⟩:=r.get e;refine⟨v,?_,h2⟩;rw[aO (by rw[ag,<- r.length];exact hi),ak,h1]
   rfl
 ·rw[eT (by simpa using hi),fB] at h;split at h<;>cases h
theorem t6.d5{σ cH}(r:t6 K ρ H σ cH)(d5:List Nat)(n:Nat):t6 K ρ H (J8 σ d5 n) (C5 cH d5 n):=by
 refine⟨by simp[J8,C5],λi d h=>?_⟩;unfold J8 at h;unfold C5;by_cases hi:i<d5.length
 ·rw[aO (by simpa using hi),ak,ao hi] at h;rw[aO (by simpa using hi),ak,ao hi];simp only[Option.map_some] at h ⊢;cases e:σ[d5[i]]? with
  |none=>rw[e] at h;cases h
  |some x =>
   rw[e] at h;have hx:x=some d:=aS h;subst hx;obtain⟨v,h1,h2⟩:=r.val _ _ e;exact⟨v,by rw[h1];rfl,h2⟩
 ·rw[eT (by simpa using hi),fB] at h;split at h<;>cases h
end
end M
namespace M
open PySem L2 PySem.Spec PyProof.Rows
variable{b:Bool}{d:D}{X:Cx}{ρ:List Addr}{g:G}{H:Hp}{σ:L2.St}{s:Shared}{l:List D}{v x:V}
def LQ(K:PySem.W.Frag)(ρ:List Addr)(H:Hp)(Q:VK):KD:=λd g'=>∀cy H' v,Ext ρ H cy H'->Rl K cy g' H'->d8 K cy H' d v->Q v H'
theorem LQ.ext{K ρ H cx H1 Q d g}(e:Ext ρ H cx H1)(h:LQ K ρ H Q d g):LQ K cx H1 Q d g:=λcy H' v e' R r=>h cy H' v (e.trans e') R r
theorem LQ.now{K ρ H Q d g v}(h:LQ K ρ H Q d g)(R:Rl K ρ g H)(r:d8 K ρ H d v):Q v H:=h ρ H v (.refl _ _) R r
theorem LQ.new{K ρ H Q}{g:G}{l:List D}{vs:List V}{p:Addr}(h:LQ K ρ H Q (.ref g.length) (g++[.lst l]))(R:Rl K ρ g H)(hp:H p=none)(r:b8 K ρ H l vs):Q (.ref p) (upd H p (.lst vs)) :=
 h (ρ++[p]) _ _ (E2 hp) (R.alloc hp r) (.ref (R.A5 p))
theorem LQ.tup{K ρ H Q}{g:G}{l:List D}{vs:List V}{p:Addr}(h:LQ K ρ H Q (.tup l) g)(R:Rl K ρ g H)(hp:H p=none)(r:b8 K ρ H l vs):Q (.ref p) (upd H p (.tup vs)) :=
 h ρ _ _ (B5 hp) (R.grow hp) (.tup (.inl u5) (r.ext (B5 hp)))
def r2(K:PySem.W.Frag)(p:Pr):R2:=λx y H Q=>∃d e g ρ,Rl K ρ g H/\d8 K ρ H d x/\d8 K ρ H e y/\de p [d,e] g (LQ K ρ H Q)
def r1(K:PySem.W.Frag)(p:Pr):V->Hp->VK->Prop:=λx H Q=>∃d g ρ,Rl K ρ g H/\d8 K ρ H d x/\de p [d] g (LQ K ρ H Q)
def rN(K:PySem.W.Frag)(p:Pr):List V->Hp->VK->Prop:=λxs H Q=>∃ds g ρ,Rl K ρ g H/\b8 K ρ H ds xs/\de p ds g (LQ K ρ H Q)
theorem p8{n:Nat}(h:n<=100000):n<=sizeLine:=aF h ∅
theorem Dd{n:Nat}(h:n<100000):n<sizeLine:=az h ∅
theorem d8.j8{K ρ H i v}(h:d8 K ρ H (.int i) v):v=.int i:=by cases h;rfl
theorem d8.E5{K ρ H i v}(h:d8 K ρ H (.str i) v):v=.str i:=by cases h;rfl
theorem d8.M5{K ρ H i v}(h:d8 K ρ H (.bl i) v):v=.bl i:=by cases h;rfl
theorem d8.zm{K ρ H v}(h:d8 K ρ H .cE v):v=.cE:=by cases h;rfl
theorem d8.Yc{K ρ H n v}(h:d8 K ρ H (.ty n) v):v=.ty n:=by cases h;rfl
theorem d8.j9{K ρ H i v}(h:d8 K ρ H (.ref i) v):∃a,v=.ref a/\ρ[i]?=some a:=by cases h;exact⟨_,rfl,by assumption⟩
theorem d8.L9{K ρ H l v}(h:d8 K ρ H (.tup l) v):∃a vs,v=.ref a/\TupAt K H a vs/\b8 K ρ H l vs:=by cases h;exact⟨_,_,rfl,by assumption,by assumption⟩
theorem b8.one{K ρ H d vs}(h:b8 K ρ H [d] vs):∃v,vs=[v]/\d8 K ρ H d v:=by
 cases h with
 |cons r rr=>cases rr;exact⟨_,rfl,r⟩
theorem b8.two{K ρ H d e vs}(h:b8 K ρ H [d,e] vs):∃v w,vs=[v,w]/\d8 K ρ H d v/\d8 K ρ H e w:=by
 cases h with
 |cons r rr=>obtain⟨w,rfl,q⟩:=rr.one;exact⟨_,_,rfl,r,q⟩
theorem E8{a b c:D}(h:[a,b]=[c,d]):a=c/\b=d:=by cases h;exact⟨rfl,rfl⟩
section
theorem Ra(op:Operator):gs X (binaryOp op) (r2 X.K (.bin op)):=by
 intro pins s σ H x y v u Q I rx ry h;obtain⟨d,e,g,ρ,R,rd,re,d',g',h,q⟩:=h;rcases h with⟨i,j,r,ex,ha,rfl,rfl⟩|⟨rfl,h⟩|⟨rfl,h⟩
 ·obtain⟨rfl,rfl⟩:=E8 ex;obtain rfl:=rd.j8;obtain rfl:=re.j8;have fin:=q.now R (.int r);cases op<;>first|exact(show False from ha).elim|skip
  ·cases ha;exact QY pins s σ H _ _ v u Q I rx ry ⟨i,j,rfl,rfl,fin⟩
  ·cases ha;exact Rk pins s σ H _ _ v u Q I rx ry ⟨i,j,rfl,rfl,fin⟩
  ·obtain⟨hc,rfl⟩:=ha;exact Rg pins s σ H _ _ v u Q I rx ry ⟨i,j,rfl,rfl,hc,fin⟩
  ·obtain⟨hc,rfl⟩:=ha;exact Rf pins s σ H _ _ v u Q I rx ry ⟨i,j,rfl,rfl,hc,fin⟩
  ·obtain⟨hc,rfl⟩:=ha;exact Rh pins s σ H _ _ v u Q I rx ry ⟨i,j,rfl,rfl,hc,fin⟩
  ·obtain⟨hc,rfl⟩:=ha;exact Rj pins s σ H _ _ v u Q I rx ry ⟨i,j,rfl,rfl,hc,fin⟩
  ·cases ha;exact Xo pins s σ H _ _ v u Q I rx ry ⟨i,j,rfl,rfl,fin⟩
  ·cases ha;exact QZ pins s σ H _ _ v u Q I rx ry ⟨i,j,rfl,rfl,fin⟩
  ·obtain⟨hc,rfl⟩:=ha;exact TN pins s σ H _ _ v u Q I rx ry ⟨i,j,rfl,rfl,hc,fin⟩
 ·rcases h with⟨l,m,ex,hz,rfl,rfl⟩|⟨a,b,l,m,ex,ha,hb,hz,rfl,rfl⟩|⟨x',y',ex,hz,rfl,rfl⟩
  ·obtain⟨rfl,rfl⟩:=E8 ex;obtain⟨a,vs,rfl,ta,rs⟩:=rd.L9;obtain⟨b,ws,rfl,tb,rt⟩:=re.L9;refine a63 pins s σ H _ _ v u Q I rx ry ⟨a,b,vs,ws,rfl,rfl,ta.sq,tb.sq,?_,λz=>?_,λz=>?_,λp hp=>q.tup R hp (rs.append rt)⟩
   ·rw[<- rs.length,<- rt.length];exact p8 hz
   ·subst z;cases rs;exact q.now R (.tup tb rt)
   ·subst z;cases rt;rw[dC] at q;exact q.now R (.tup ta rs)
  ·obtain⟨rfl,rfl⟩:=E8 ex;obtain⟨a',rfl,ra⟩:=rd.j9;obtain⟨b',rfl,rb⟩:=re.j9;obtain⟨vs,z1,rs⟩:=R.lst ha ra;obtain⟨ws,z2,rt⟩:=R.lst hb rb;exact Rb pins s σ H _ _ v u Q I rx ry ⟨_,_,vs,ws,rfl,rfl,z1,z2,by rw[<- rs.length,<- rt.length];exact p8 hz,λp hp=>q.new R hp (rs.append rt)⟩
  ·obtain⟨rfl,rfl⟩:=E8 ex;obtain rfl:=rd.E5;obtain rfl:=re.E5;exact aO9 pins s σ H _ _ v u Q I rx ry ⟨_,_,rfl,rfl,p8 hz,q.now R (.str _)⟩
 ·rcases h with⟨a,l,n,ex,ha,h1,h2,hz,rfl,rfl⟩|⟨l,n,ex,fA,h1,h2,hz,rfl,rfl⟩
  rotate_left
  ·obtain⟨rfl,rfl⟩:=E8 ex;obtain⟨a',vs,rfl,ta,rs⟩:=rd.L9;obtain rfl:=re.j8;refine TR pins s σ H _ _ v u Q I rx ry ⟨_,_,vs,rfl,rfl,ta.sq,λz=>?_,h1,h2,by rw[<- rs.length];exact p8 hz,λz=>?_,λp hp=>q.tup R hp (rs.rep _)⟩
   ·subst z;cases rs;exact fA rfl
   ·subst z;have:(List.replicate (Int.toNat 1) l).flatten=l:=by simp
    rw[this] at q;exact q.now R (.tup ta rs)
  obtain⟨rfl,rfl⟩:=E8 ex;obtain⟨a',rfl,ra⟩:=rd.j9;obtain rfl:=re.j8;obtain⟨vs,z1,rs⟩:=R.lst ha ra;exact Ri pins s σ H _ _ v u Q I rx ry ⟨_,_,vs,rfl,rfl,z1,by omega,by omega,by rw[<- rs.length];exact p8 hz,λp hp=>q.new R hp (rs.rep _)⟩
theorem Xp(op:UnaryOp):Af X (unaryOp op) (r1 X.K (.un op)):=by
 intro pins s σ H x v Q I rx h;obtain⟨d,g,ρ,R,rd,d',g',⟨rfl,i,ex,rfl,rfl⟩,q⟩:=h;cases ex;obtain rfl:=rd.j8;exact SO pins s σ H _ v Q I rx ⟨_,rfl,q.now R (.int _)⟩
section
variable{pins:List (Addr×Obj)}
theorem Kh(I:Inv X pins σ H s)(R:Rl X.K ρ g H)(n:Nat)(ih:∀{d:D} {v:V} {u:Value} {p:PyData},rd g n d=some p->d8 X.K ρ H d v->RelV v u->∃as,Reads s.heap u p as/\p.depth<=n):∀{vs:List V} {us:List Value} {ps:List PyData},l.mapM (rd g n)=some ps->b8 X.K ρ H l vs->Vals vs us->∃as,ReadsAll s.heap us ps as/\PyData.depthAll ps<=n:=by
 induction l with
 |nil =>
  intro vs us ps h rs rv;cases rs;cases rv;simp at h;subst h;exact⟨_,.nil,cJ _⟩
 |cons d l il =>
  intro vs us ps h rs rv;cases rs with
  |cons iX rs =>
   cases rv with
   |cons ru rv =>
    rw[List.mapM_cons] at h;cases e:rd g n d with
    |none=>rw[e] at h;cases h
    |some p =>
     rw[e] at h;cases e2:l.mapM (rd g n) with
     |none=>rw[e2] at h;cases h
     |some qs =>
      rw[e2] at h;cases h;obtain⟨as,q1,d1⟩:=ih e iX ru;obtain⟨bs,q2,d2⟩:=il e2 rs rv;refine⟨_,.cons q1 q2,?_⟩;simp only[PyData.depthAll];omega
theorem S4(I:Inv X pins σ H s)(R:Rl X.K ρ g H)(n:Nat):∀{d:D} {v:V} {u:Value} {p:PyData},rd g n d=some p->d8 X.K ρ H d v->RelV v u->∃as,Reads s.heap u p as/\p.depth<=n:=by
 induction n with
 |zero =>
  intro d v u p h r ru;cases r with
  |cE=>simp only[rd] at h;cases h;cases ru;exact⟨_,.none,Nat.zero_le _⟩
  |bl b=>simp only[rd] at h;cases h;cases ru;exact⟨_,.bool b,Nat.zero_le _⟩
  |int i=>simp only[rd] at h;cases h;obtain⟨t,rfl⟩:=ru;exact⟨_,.int i t,Nat.zero_le _⟩
  |str x=>simp only[rd] at h;cases h;obtain⟨t,rfl⟩:=ru;exact⟨_,.str x t,Nat.zero_le _⟩
  |_=>simp only[rd] at h;cases h
 |succ n ih =>
  intro d v u p h r ru;cases r with
  |cE=>simp only[rd] at h;cases h;cases ru;exact⟨_,.none,Nat.zero_le _⟩
  |bl b=>simp only[rd] at h;cases h;cases ru;exact⟨_,.bool b,Nat.zero_le _⟩
  |int i=>simp only[rd] at h;cases h;obtain⟨t,rfl⟩:=ru;exact⟨_,.int i t,Nat.zero_le _⟩
  |str x=>simp only[rd] at h;cases h;obtain⟨t,rfl⟩:=ru;exact⟨_,.str x t,Nat.zero_le _⟩
  |ty x=>simp only[rd] at h;cases h
  |ref ha =>
   rename_i i a;simp only[rd] at h;cases e:c8 g i with
   |none=>rw[e] at h;cases h
   |some l =>
    rw[e] at h;dsimp only at h;cases e2:l.mapM (rd g n) with
    |none=>rw[e2] at h;cases h
    |some ps =>
     rw[e2] at h;cases h;cases ru;obtain⟨vs,hq,rs⟩:=R.items e ha;obtain⟨aX,rv,p,hz⟩:=I.list hq;obtain⟨as,q,hd⟩:=Kh I R n ih e2 rs rv;obtain⟨o,ho,hc,k,rX⟩:=p.isList;refine⟨_,.list ho hc rX (by simpa using q),?_⟩;simp only[PyData.depth];omega
  |tup ht rs =>
   rename_i l a vs;simp only[rd] at h;cases e2:l.mapM (rd g n) with
   |none=>rw[e2] at h;cases h
   |some ps =>
    rw[e2] at h;cases h;cases ru;obtain⟨aX,rv,pt,hz⟩:=I.tuple ht.sq;obtain⟨as,q,hd⟩:=Kh I R n ih e2 rs rv;obtain⟨o,ho,hc,k,rX⟩:=id pt;refine⟨_,.tuple ho hc rX (by simpa using q),?_⟩;simp only[PyData.depth];omega
end
end
theorem zw{α:Type}[BEq α][LawfulBEq α][DecidableEq α](a b:α):decide (a=b)=(a==b):=by
 by_cases e:a=b
 ·subst e;simp
 ·rw[aD e];exact(cO.mpr e).symm
theorem zC{K ρ H}{c:Key}(h:pP d=some c)(r:d8 K ρ H d v):v=kV c:=by
 cases r<;>first|(cases h;rfl)|cases h
theorem sV.some{K ρ H}{o:Option V}{d:D}(h:sV K ρ H (some d) o):∃v,o=some v/\d8 K ρ H d v:=by
 cases o with
 |none=>exact h.elim
 |some v=>exact⟨v,rfl,h⟩
theorem sV.isSome{K ρ H}{o:Option V}{d:Option D}(h:sV K ρ H d o):d.isSome=o.isSome:=by
 cases o<;>cases d<;>first|rfl|exact h.elim
theorem IE{pins:List (Addr×Obj)}{e:D}{y:V}{v u:Value}{Q:VK}(hu:X.A.units+100<cLine)(I:Inv X pins σ H s)(rx:RelV x v)(ry:RelV y u)(R:Rl X.K ρ g H)(iX:d8 X.K ρ H d x)(re:d8 X.K ρ H e y)(h:wB g d e b)(neg:Bool)(q:Q (.bl (xor neg b)) H):wpAny (model X.prog X.w) X.A (compareOp (if neg then .NotEq else .Eq) v u) (EP X pins σ Q) X.xe s:=by
 rcases h with⟨i,j,rfl,rfl,rfl⟩|⟨i,j,rfl,rfl,rfl⟩|⟨i,j,rfl,rfl,rfl⟩|⟨p,p',h1,h2,c1,c2,rfl⟩
 ·obtain rfl:=iX.j8;obtain rfl:=re.j8;cases neg
  ·exact Ek pins s σ H _ _ v u Q I rx ry ⟨rfl,by rw[zx];simpa[zw] using q⟩
  ·exact El pins s σ H _ _ v u Q I rx ry ⟨rfl,by rw[zx];simpa[zw] using q⟩
 ·obtain rfl:=iX.M5;obtain rfl:=re.M5;cases neg
  ·exact Ek pins s σ H _ _ v u Q I rx ry ⟨rfl,by rw[zg];simpa using q⟩
  ·exact El pins s σ H _ _ v u Q I rx ry ⟨rfl,by rw[zg];simpa using q⟩
 ·obtain rfl:=iX.E5;obtain rfl:=re.E5;cases neg
  ·exact Ek pins s σ H _ _ v u Q I rx ry ⟨rfl,by rw[zy];simpa[zw] using q⟩
  ·exact El pins s σ H _ _ v u Q I rx ry ⟨rfl,by rw[zy];simpa[zw] using q⟩
 ·obtain⟨as,q1,d1⟩:=S4 I R 6 h1 iX rx;obtain⟨bs,q2,d2⟩:=S4 I R 6 h2 re ry;have hr:X.A.units+min p.depth p'.depth<cLine:=by omega
  cases neg
  ·exact SeqAt.compareEq_reads q1 q2 c1 c2 hr ⟨.bl _,H,I,rfl,by simpa using q⟩
  ·exact SeqAt.compareNe_reads q1 q2 c1 c2 hr ⟨.bl _,H,I,rfl,by simpa using q⟩
theorem in_of{pins:List (Addr×Obj)}{e:D}{y:V}{v u:Value}{Q:VK}(hu:X.A.units+100<cLine)(I:Inv X pins σ H s)(rx:RelV x v)(ry:RelV y u)(R:Rl X.K ρ g H)(iX:d8 X.K ρ H d x)(re:d8 X.K ρ H e y)(h:inR g d e b)(neg:Bool)(q:Q (.bl (xor neg b)) H):wpAny (model X.prog X.w) X.A (compareOp (if neg then .NotIn else .In) v u) (EP X pins σ Q) X.xe s:=by
 rcases h with⟨a,kvs,c,rfl,ha,hc,rfl⟩|⟨l,ps,p,h0,h1,h2,c1,c2,rfl⟩
 ·obtain⟨a',rfl,ra⟩:=re.j9;obtain⟨vs,z,rs⟩:=R.dz ha ra;have:=zC hc iX;subst this;cases ry;rw[(rs.val c).isSome] at q;cases neg
  ·exact Vm () I (Q1.k z) rx λs' I'=>⟨.bl _,H,I',rfl,by simpa using q⟩
  ·exact Th () I (Q1.k z) rx λs' I'=>⟨.bl _,H,I',rfl,by simpa using q⟩
 ·obtain⟨as,q1,d1⟩:=S4 I R 6 h2 iX rx;cases e with
  |tup m =>
   cases h0;have h3:rd g 7 (.tup l)=some (.tuple ps):=by simp only[rd];rw[show l.mapM (rd g 6)=some ps from h1];rfl
   obtain⟨bs,q2,d2⟩:=S4 I R 7 h3 re ry;have hr:X.A.units+1+min (PyData.depthAll ps) p.depth<cLine:=by omega
   cases neg
   ·exact SeqAt.in_tuple_reads q2 q1 c1 c2 hr ⟨.bl _,H,I,rfl,by simpa using q⟩
   ·exact SeqAt.notIn_tuple_reads q2 q1 c1 c2 hr ⟨.bl _,H,I,rfl,by simpa using q⟩
  |ref a =>
   have h3:rd g 7 (.ref a)=some (.list ps):=by
    simp only[rd];rw[show c8 g a=some l from h0];dsimp only;rw[show l.mapM (rd g 6)=some ps from h1]
    rfl
   obtain⟨bs,q2,d2⟩:=S4 I R 7 h3 re ry;have hr:X.A.units+1+min (PyData.depthAll ps) p.depth<cLine:=by omega
   cases neg
   ·exact SeqAt.in_list_reads q2 q1 c1 c2 hr ⟨.bl _,H,I,rfl,by simpa using q⟩
   ·exact SeqAt.notIn_list_reads q2 q1 c1 c2 hr ⟨.bl _,H,I,rfl,by simpa using q⟩
  |_=>cases h0
theorem Y0(hu:X.A.units+100<cLine)(op:CmpOp):gs X (compareOp op) (r2 X.K (.cmp op)):=by
 intro pins s σ H x y v u Q I rx ry h;obtain⟨d,e,g,ρ,R,iX,re,d',g',⟨x',y',b,ex,h,rfl,rfl⟩,q⟩:=h;obtain⟨rfl,rfl⟩:=E8 ex;have fin:=q.now R (.bl b);have ph:∀{P:Int->Int->Bool},(∃i j,d=.int i/\e=.int j/\b=P i j)->∃i j,x=.int i/\y=.int j/\b=P i j:=λhh=>by
  obtain⟨i,j,z1,z2,z3⟩:=hh;exact⟨i,j,(z1▸iX).j8,(z2▸re).j8,z3⟩
 cases op
 ·exact IE hu I rx ry R iX re h false (by simpa using fin)
 ·exact IE hu I rx ry R iX re h true (by simpa using fin)
 ·obtain⟨i,j,e1,e2,e3⟩:=ph (P:=λi j=>decide (i<j)) h;exact Xm pins s σ H _ _ v u Q I rx ry ⟨i,j,e1,e2,by subst e3;exact fin⟩
 ·obtain⟨i,j,e1,e2,e3⟩:=ph (P:=λi j=>decide (i<=j)) h;exact Xl pins s σ H _ _ v u Q I rx ry ⟨i,j,e1,e2,by subst e3;exact fin⟩
 ·obtain⟨i,j,e1,e2,e3⟩:=ph (P:=λi j=>decide (j<i)) h;exact Xk pins s σ H _ _ v u Q I rx ry ⟨i,j,e1,e2,by subst e3;exact fin⟩
 ·obtain⟨i,j,e1,e2,e3⟩:=ph (P:=λi j=>decide (j<=i)) h;exact Xj pins s σ H _ _ v u Q I rx ry ⟨i,j,e1,e2,by subst e3;exact fin⟩
 ·obtain⟨rfl,rfl⟩:=(show _/\_ from h)
  obtain rfl:=re.zm;refine Rc pins s σ H _ _ v u Q I rx ry ⟨rfl,?_⟩;have e:O6 d=decide (x=V.cE):=by cases iX<;>simp[O6]
  rw[<- e];exact fin
 ·obtain⟨rfl,rfl⟩:=(show _/\_ from h)
  obtain rfl:=re.zm;refine TQ pins s σ H _ _ v u Q I rx ry ⟨rfl,?_⟩;have e:O6 d=decide (x=V.cE):=by cases iX<;>simp[O6]
  rw[<- e];exact fin
 ·rcases h with h|⟨a,S,n,i,rfl,ha,rfl,rfl⟩
  ·exact in_of hu I rx ry R iX re h false (by simpa using fin)
  ·obtain⟨a',rfl,ra⟩:=re.j9;obtain rfl:=iX.j8;exact Zm pins s σ H _ _ v u Q I rx ry ⟨i,a',S,n,rfl,rfl,R.set ha ra,fin⟩
 ·rcases h with h|⟨a,S,n,i,rfl,ha,rfl,hb⟩
  ·exact in_of hu I rx ry R iX re h true (by simpa using fin)
  ·obtain⟨a',rfl,ra⟩:=re.j9;obtain rfl:=iX.j8;exact aC5 pins s σ H _ _ v u Q I rx ry ⟨i,a',S,n,rfl,rfl,R.set ha ra,by rw[<- hb,lJ];exact fin⟩
theorem empty_eq{K ρ H}{vs:List V}(r:b8 K ρ H l vs):l.isEmpty=vs.isEmpty:=by cases r<;>rfl
theorem SK{K:PySem.W.Frag}(R:Rl K ρ g H)(r:d8 K ρ H d x)(h:Ip g d b):EZ K x H b:=by
 rcases h with⟨rfl,rfl⟩|rfl|⟨i,rfl,rfl⟩|⟨l,rfl,rfl⟩|⟨a,l,rfl,hl,rfl⟩
 ·obtain rfl:=r.zm;rfl
 ·obtain rfl:=r.M5;rfl
 ·obtain rfl:=r.j8;rfl
 ·obtain⟨a,vs,rfl,ht,rs⟩:=r.L9;exact .inr (.inl ⟨_,ht.sq,by rw[empty_eq rs]⟩)
 ·obtain⟨a',rfl,ha⟩:=r.j9;obtain⟨vs,hq,rs⟩:=R.items hl ha;exact .inl ⟨_,hq,by rw[empty_eq rs]⟩
theorem Tb{K ρ H}{vs:List V}{i:Int}(r:b8 K ρ H l vs)(h:gF l i=some d):∃v,gF vs i=some v/\d8 K ρ H d v:=by
 unfold gF at h ⊢;rw[<- r.length];cases e:lO l.length i with
 |none=>rw[e] at h;cases h
 |some j =>
  rw[e] at h;exact r.get h
theorem xh{K ρ H}{x:D}(R:Rl K ρ g H)(r:d8 K ρ H x v)(h:P4 g x=some l):∃a vs,v=.ref a/\b8 K ρ H l vs/\((∃i,x=.ref i/\ρ[i]?=some a)/\gi K H a vs\/x=.tup l/\TupAt K H a vs):=by
 cases r with
 |tup ht rs=>cases h;exact⟨_,_,rfl,rs,.inr ⟨rfl,ht⟩⟩
 |ref ha=>obtain⟨vs,hq,rs⟩:=R.items h ha;exact⟨_,_,rfl,rs,.inl ⟨⟨_,rfl,ha⟩,hq⟩⟩
 |_=>cases h
theorem WW(hu:X.A.units+100<cLine):tq X (r2 X.K .ix):=by
 intro value slice pins s σ H x y v u Q I rx ry h hs;obtain⟨d,e,g,ρ,R,iX,re,d',g',⟨rfl,h⟩,q⟩:=h;rcases h with⟨x',l,i,ex,hl,ha⟩|⟨a,kvs,y',c,ex,ha,hc,hv⟩|⟨x',i,c,ex,h0,h1,rfl⟩
 ·obtain⟨rfl,rfl⟩:=E8 ex;obtain rfl:=re.j8;obtain⟨a,vs,rfl,rs,h⟩:=xh R iX hl;obtain⟨w,hw,gK⟩:=Tb rs ha;rcases h with⟨_,hq⟩|⟨_,ht⟩
  ·exact Ts value slice pins s σ H _ _ v u Q I rx ry ⟨_,_,i,w,rfl,rfl,hq,hw,q.now R gK⟩ hs
  ·exact QC value slice pins s σ H _ _ v u Q I rx ry ⟨_,_,i,w,rfl,rfl,ht.sq,hw,q.now R gK⟩ hs
 ·obtain⟨rfl,rfl⟩:=E8 ex;obtain⟨a',rfl,ra⟩:=iX.j9;obtain⟨vs,z,rs⟩:=R.dz ha ra;have:=zC hc re;subst this;have q2:=rs.val c;rw[hv] at q2;obtain⟨w,hw,gK⟩:=q2.some;exact Tr () value slice pins s σ H _ _ v u Q I rx ry ⟨_,w,rfl,by have:=Q1.k (k:=c) z;rw[hw] at this;exact this,q.now R gK⟩ hs
 ·obtain⟨rfl,rfl⟩:=E8 ex;obtain rfl:=iX.E5;obtain rfl:=re.j8;exact QB value slice pins s σ H _ _ v u Q I rx ry ⟨x',i,c,rfl,rfl,p8 h0,h1,q.now R (.str _)⟩ hs
def Nk(K:PySem.W.Frag):V->Option Int->Option Int->Hp->VK->Prop:=λx lo hi H Q=>∃d g ρ d' g',Rl K ρ g H/\d8 K ρ H d x/\vd d lo hi g d' g'/\LQ K ρ H Q d' g'
theorem Es:xu X (Nk X.K):=by
 intro pins s σ H x v vl vu lo hi sl Q I rx hs pl pu h;obtain⟨d,g,ρ,d',g',R,iX,h,q⟩:=h;rcases h with⟨l,rfl,rfl,rfl⟩|⟨a,l,rfl,hl,rfl,rfl⟩
 ·obtain⟨a,vs,rfl,ht,rs⟩:=iX.L9;refine UI pins s σ H _ v vl vu lo hi sl Q I rx hs pl pu ⟨_,_,rfl,ht.sq,λz=>?_,λp hp=>q.tup R hp (rs.cut lo hi)⟩;refine q.now R (.tup ht ?_);have:=rs.cut lo hi;rw[z] at this;exact this
 ·obtain⟨a',rfl,ha⟩:=iX.j9;obtain⟨vs,hq,rs⟩:=R.items hl ha;exact UH pins s σ H _ v vl vu lo hi sl Q I rx hs pl pu ⟨_,_,rfl,hq,λp hp=>q.new R hp (rs.cut lo hi)⟩
def VS(K:PySem.W.Frag):V->V->V->Hp->(Hp->Prop)->Prop:=λo i v H Q=>∃Cu di dv g ρ,Rl K ρ g H/\d8 K ρ H Cu o/\d8 K ρ H di i/\d8 K ρ H dv v/\Z7 Cu di dv g (λg'=>∀cy H',Ext ρ H cy H'->Rl K cy g' H'->Q H')
theorem Si(hu:X.A.units+100<cLine):CJ X (VS X.K):=by
 intro pins s σ H o i v ov iv u Q I ro ri rv h;obtain⟨Cu,di,dv,g,ρ,R,r1,r2,r3,g',h,q⟩:=h;rcases h with⟨a,i',l,j,rfl,rfl,hl,hj,rfl⟩|⟨a,kvs,c,rfl,ha,hc,hz,rfl⟩
 ·obtain⟨a',rfl,ha⟩:=r1.j9;obtain rfl:=r2.j8;obtain⟨vs,z,rs⟩:=R.lst hl ha;obtain⟨R',e'⟩:=R.write hl ha (rs.set r3 j);exact set_list pins s σ H _ _ _ ov iv u Q I ro ri rv ⟨_,vs,_,j,rfl,rfl,z,by rw[<- rs.length];exact hj,q ρ _ e' R'⟩
 ·obtain⟨a',rfl,ra⟩:=r1.j9;obtain⟨vs,z,rs⟩:=R.dz ha ra;have:=zC hc r2;subst this;obtain⟨R',e'⟩:=R.put (o':=.dz (putD kvs c dv)) (u:=.dK (putK vs c v)) ha rfl ra (rs.put r3);cases ro;exact YV () I (zS.k z (by rw[<- rs.length];exact Dd hz)) ri rv λs' I'=>⟨_,I',q ρ _ e' R'⟩
theorem QK:l9 X (.builtin "len") (rN X.K .len):=by
 intro pins s σ H xs us Q I r h;obtain⟨ds,g,ρ,R,rs,d',g',⟨rfl,h⟩,q⟩:=h;rcases h with⟨x,l,rfl,hl,rfl⟩|⟨a,kvs,rfl,ha,rfl⟩|⟨x,rfl,hz,rfl⟩
 ·obtain⟨v,rfl,rv⟩:=rs.one;obtain⟨a,vs,rfl,rl,h⟩:=xh R rv hl;refine aF9 pins s σ H _ us Q I r ⟨_,_,rfl,?_,by rw[<- rl.length];exact q.now R (.int _)⟩;exact h.imp (λz=>z.2) (λz=>z.2.sq)
 ·obtain⟨v,rfl,rv⟩:=rs.one;obtain⟨a',rfl,ra⟩:=rv.j9;obtain⟨vs,z,rk⟩:=R.dz ha ra;exact a08 pins s σ H _ us Q I r ⟨_,_,rfl,z,by rw[<- rk.length];exact q.now R (.int _)⟩
 ·obtain⟨v,rfl,rv⟩:=rs.one;obtain rfl:=rv.E5;exact aF8 pins s σ H _ us Q I r ⟨_,rfl,p8 hz,q.now R (.int _)⟩
theorem Ds{K ρ H}:∀(ks:List Key),b8 K ρ H (ks.map kD) (ks.map kV)
 |[]=>.nil
 |.inl _::r=>.cons (.int _) (Ds r)
 |.inr _::r=>.cons (.str _) (Ds r)
theorem j4.keys{α:Type}{K ρ H}{ds:List (α×D)}{vs:List (α×V)}(h:j4 K ρ H ds vs):ds.map (·.1)=vs.map (·.1):=by
 induction h with
 |nil=>rfl
 |cons _ _ ih=>rw[bw,bw,ih]
theorem Tw(hc:X.calm=true):l9 X (.type "list") (rN X.K .list):=by
 intro pins s σ H xs us Q I r h;obtain⟨ds,g,ρ,R,rs,d',g',⟨x,l,rfl,hl,rfl,rfl⟩|⟨a,kvs,rfl,ha,hn,rfl,rfl⟩,q⟩:=h
 rotate_left
 ·obtain⟨v,rfl,rv⟩:=rs.one;obtain⟨a',rfl,ra⟩:=rv.j9;obtain⟨vs,z,rk⟩:=R.dz ha ra;exact Yw hc pins s σ H _ us Q I r ⟨_,vs,rfl,z,by rw[<- rk.length];exact hn,λp hp=>q (ρ++[p]) _ _ (E2 hp) (R.new hp (o:=.lst ((kvs.map (·.1)).map kD)) (u:=.lst ((vs.map (·.1)).map kV)) (by rw[rk.keys];exact Ds _)) (.ref (R.A5 p))⟩
 obtain⟨v,rfl,rv⟩:=rs.one;obtain⟨a,vs,rfl,rl,h⟩:=xh R rv hl;exact aF7 pins s σ H _ us Q I r ⟨_,_,rfl,h.imp (λz=>z.2) (λz=>z.2.sq),λp hp=>q.new R hp rl⟩
theorem a22:l9 X (.type "tuple") (rN X.K .tuple):=by
 intro pins s σ H xs us Q I r h;obtain⟨ds,g,ρ,R,rs,d',g',⟨x,l,rfl,hl,rfl,rfl⟩,q⟩:=h;obtain⟨v,rfl,rv⟩:=rs.one;obtain⟨a,vs,rfl,rl,h⟩:=xh R rv hl;refine Yn pins s σ H _ us Q I r ⟨a,vs,rfl,?_⟩;exact h.imp (λz=>⟨z.2,λp hp=>q.tup R hp rl⟩) (λz=>⟨z.2.sq,q.now R (.tup z.2 rl)⟩)
theorem Tq:l9 X (.builtin "isinstance") (rN X.K .isin):=by
 intro pins s σ H xs us Q I r h;obtain⟨ds,g,ρ,R,rs,d',g',⟨x,c,b,rfl,hc,hb,rfl,rfl⟩,q⟩:=h;obtain⟨v,w,rfl,r1,r2⟩:=rs.two;obtain rfl:=r2.Yc;have fin:=q.now R (.bl b);have go:∀(t:Value) (v:V),iB X.K H v t->PySem.W.kitOne X.K t (.type c)=some b->Vals [v,V.ty c] us->wpAny (model X.prog X.w) X.A (call (.builtin "isinstance") us) (EP X pins σ Q) X.xe s :=
  λt v ht hk r=>aI4 pins s σ H _ us Q I r ⟨v,t,c,b,rfl,ht,hk,fin⟩
 simp only[List.mem_cons,List.mem_nil_iff,or_false] at hc;cases r1 with
 |cE=>refine go _ _ .cE ?_ r;cases hb;rcases hc with rfl|rfl|rfl|rfl|rfl<;>rfl
 |bl y=>refine go _ _ (.bl y) ?_ r;cases hb;rcases hc with rfl|rfl|rfl|rfl|rfl<;>rfl
 |int y=>refine go _ _ (.int y) ?_ r;cases hb;rcases hc with rfl|rfl|rfl|rfl|rfl<;>rfl
 |str y=>refine go _ _ (.str y) ?_ r;cases hb;rcases hc with rfl|rfl|rfl|rfl|rfl<;>rfl
 |ty _=>cases hb
 |tup ht rs =>
  cases hb;rcases ht with ht|ht
  ·refine go _ _ (.tup ht) ?_ r;rcases hc with rfl|rfl|rfl|rfl|rfl<;>rfl
  ·obtain⟨o,aX,n,lk,kf,_⟩:=ht;obtain⟨u,w',rfl,ru,gK⟩:=vals2 r;cases (show w'=Value.type c from gK);cases ru;have hk:PySem.W.kitOne X.K (.type "tuple") (.type c)=some (c=="tuple"):=by rcases hc with rfl|rfl|rfl|rfl|rfl<;>rfl
   exact cj MF I.iF ⟨o,I.iF _ _ lk,kf⟩ hk (λz=>nomatch z) λtk=>⟨.bl _,H,I.tok tk,rfl,fin⟩
 |@ref i a ha =>
  have vY:∃m,g'[i]?=some (.lst m)/\b=(c=="list"):=by
   simp only[Fg] at hb;split at hb
   ·exact⟨_,by assumption,(aS hb).symm⟩
   ·cases hb
  obtain⟨m,e,rfl⟩:=vY;obtain⟨vs,z,_⟩:=R.lst e ha;refine go _ _ (.lst z) ?_ r;rcases hc with rfl|rfl|rfl|rfl|rfl<;>rfl
theorem ZQ:∀{l:List D} {b:Bool},V3 l=some b->∃bs:List Bool,l=bs.map D.bl/\b=bs.all id:=by
 intro l
 induction l with
 |nil=>intro b h;cases h;exact⟨[],rfl,rfl⟩
 |cons d r ih =>
  intro b h;cases d<;>first|(cases h;done)|skip
  rename_i c;simp only[V3] at h;cases e:V3 r with
  |none=>rw[e] at h;cases h
  |some b' =>
   rw[e] at h;cases h;obtain⟨bs,rfl,rfl⟩:=ih e;exact⟨c::bs,rfl,by simp⟩
theorem b8.SY{K ρ H}:∀{bs:List Bool} {vs:List V},b8 K ρ H (bs.map D.bl) vs->vs=bs.map V.bl:=by
 intro bs
 induction bs with
 |nil=>intro vs h;cases h;rfl
 |cons b r ih =>
  intro vs h;cases h with
  |cons h rr=>rw[ih rr,h.M5];rfl
theorem Yj(hc:X.calm=true):l9 X (.builtin "all") (rN X.K .all):=by
 intro pins s σ H xs us Q I r h;obtain⟨ds,g,ρ,R,rs,d',g',⟨a,l,b,rfl,hl,hb,rfl,rfl⟩,q⟩:=h;obtain⟨v,rfl,rv⟩:=rs.one;obtain⟨a',rfl,ra⟩:=rv.j9;obtain⟨vs,hq,rs⟩:=R.items hl ra;rcases hb with hb|⟨ns,rfl,rfl⟩
 rotate_left
 ·have:=rs.ints;subst this;exact a09 hc pins s σ H _ us Q I r ⟨_,ns,rfl,hq,q.now R (.bl _)⟩
 obtain⟨bs,rfl,rfl⟩:=ZQ hb;have:=rs.SY;subst this;exact a10 hc pins s σ H _ us Q I r ⟨_,bs,rfl,hq,q.now R (.bl _)⟩
theorem LL{K ρ H}:∀(ns:List Int),b8 K ρ H (ns.map D.int) (ns.map V.int)
 |[]=>.nil
 |_::r=>.cons (.int _) (LL r)
theorem a29(hc:X.calm=true):l9 X (.builtin "sorted") (rN X.K .jZ):=by
 intro pins s σ H xs us Q I r h;obtain⟨ds,g,ρ,R,rs,d',g',z|⟨x,ns,rfl,hx,hn,rfl,rfl⟩,q⟩:=h
 rotate_left
 ·obtain⟨v,rfl,rv⟩:=rs.one;obtain⟨a,vs,rfl,rl,h⟩:=xh R rv hx;have:=rl.ints;subst this;exact Yx pins s σ H _ us Q I r ⟨_,ns,rfl,h.imp (λz=>z.2) (λz=>z.2.sq),hn,λp hp=>q (ρ++[p]) _ _ (E2 hp) (R.new hp (o:=.lst ((K4 ns).map .int)) (u:=.lst ((K4 ns).map V.int)) (LL _)) (.ref (R.A5 p))⟩
 exact z.elim
theorem QS(hc:X.calm=true):l9 X (.builtin "max") (rN X.K .max):=by
 intro pins s σ H xs us Q I r h;obtain⟨ds,g,ρ,R,rs,d',g',⟨rfl,⟨i,j,rfl,rfl⟩|⟨a,ns,M,rfl,hl,h1,h2,rfl⟩⟩,q⟩:=h
 rotate_left
 ·obtain⟨v,rfl,rv⟩:=rs.one;obtain⟨a',rfl,ra⟩:=rv.j9;obtain⟨vs,hq,rs⟩:=R.items hl ra;have:=rs.ints;subst this;exact a06 hc pins s σ H _ us Q I r ⟨_,ns,M,rfl,hq,h1,h2,q.now R (.int _)⟩
 obtain⟨v,w,rfl,r1,r2⟩:=rs.two;obtain rfl:=r1.j8;obtain rfl:=r2.j8;exact a07 hc pins s σ H _ us Q I r ⟨i,j,rfl,q.now R (.int _)⟩
theorem QU(hc:X.calm=true):l9 X (.builtin "min") (rN X.K .min):=by
 intro pins s σ H xs us Q I r h;obtain⟨ds,g,ρ,R,rs,d',g',⟨rfl,⟨i,j,rfl,rfl⟩|⟨a,ns,M,rfl,hl,h1,h2,rfl⟩⟩,q⟩:=h
 rotate_left
 ·obtain⟨v,rfl,rv⟩:=rs.one;obtain⟨a',rfl,ra⟩:=rv.j9;obtain⟨vs,hq,rs⟩:=R.items hl ra;have:=rs.ints;subst this;exact a04 hc pins s σ H _ us Q I r ⟨_,ns,M,rfl,hq,h1,h2,q.now R (.int _)⟩
 obtain⟨v,w,rfl,r1,r2⟩:=rs.two;obtain rfl:=r1.j8;obtain rfl:=r2.j8;exact a05 hc pins s σ H _ us Q I r ⟨i,j,rfl,q.now R (.int _)⟩
theorem Sw(hc:X.calm=true):l9 X (.builtin "sum") (rN X.K .sum):=by
 intro pins s σ H xs us Q I r h;obtain⟨ds,g,ρ,R,rs,d',g',⟨a,ns,rfl,hl,rfl,rfl⟩,q⟩:=h;obtain⟨v,rfl,rv⟩:=rs.one;obtain⟨a',rfl,ra⟩:=rv.j9;obtain⟨vs,hq,rs⟩:=R.items hl ra;have:=rs.ints;subst this;exact a03 hc pins s σ H _ us Q I r ⟨_,ns,rfl,hq,q.now R (.int _)⟩
theorem QA:l9 X (.type "int") (rN X.K .int):=by
 intro pins s σ H xs us Q I r h;obtain⟨ds,g,ρ,R,rs,d',g',⟨rfl,h⟩,q⟩:=h;rcases h with⟨i,rfl,rfl⟩|⟨b,rfl,rfl⟩
 ·obtain⟨v,rfl,rv⟩:=rs.one;obtain rfl:=rv.j8;exact Jq pins s σ H _ us Q I r (.inl ⟨i,rfl,q.now R (.int _)⟩)
 ·obtain⟨v,rfl,rv⟩:=rs.one;obtain rfl:=rv.M5;exact Jq pins s σ H _ us Q I r (.inr ⟨b,rfl,q.now R (.int _)⟩)
def rM(K:PySem.W.Frag)(p:Pr):V->List V->Hp->VK->Prop:=λx xs H Q=>∃d ds g ρ,Rl K ρ g H/\d8 K ρ H d x/\b8 K ρ H ds xs/\de p (d::ds) g (LQ K ρ H Q)
theorem Dq{a b:D}{m:List D}(h:a::l=b::m):a=b/\l=m:=by cases h;exact⟨rfl,rfl⟩
theorem a15:pQ X "list.append" (rM X.K .append):=by
 intro pins s σ H x xs v us Q I rx r h;obtain⟨d,ds,g,ρ,R,rd,rs,d',g',⟨a,y,l,ex,ha,hz,rfl,rfl⟩,q⟩:=h;obtain⟨rfl,rfl⟩:=Dq ex;obtain⟨a',rfl,ra⟩:=rd.j9;obtain⟨w,rfl,gK⟩:=rs.one;obtain⟨vs,z1,rv⟩:=R.lst ha ra;obtain⟨R2,e2⟩:=R.write ha ra (rv.append (.cons gK .nil));exact Zj pins s σ H _ _ v us Q I rx r ⟨_,vs,_,rfl,rfl,z1,by rw[<- rv.length];exact Dd hz,q ρ _ _ e2 R2 .cE⟩
theorem Tu(hc:X.calm=true):l9 X (.type "set") (rN X.K .nS):=by
 intro pins s σ H xs us Q I r h;obtain⟨ds,g,ρ,R,rs,d',g',⟨a,ns,rfl,ha,hz,rfl,rfl⟩,q⟩:=h;obtain⟨v,rfl,rv⟩:=rs.one;obtain⟨a',rfl,ra⟩:=rv.j9;obtain⟨vs,z1,rk⟩:=R.items ha ra;obtain rfl:=rk.ints;refine Ym hc pins s σ H _ us Q I r ⟨a',ns,rfl,z1,hz,λp hp=>?_⟩;exact q (ρ++[p]) _ _ (E2 hp) (R.new hp (o:=.set (λk=>decide (k∈ns)) (ST.i0 [] ns).length) (u:=.set (λk=>decide (k∈ns)) (ST.i0 [] ns).length) ⟨rfl,rfl⟩) (.ref (R.A5 p))
theorem j4.Jf{K ρ H}:∀ks:List Int,j4 K ρ H (ks.map λk=>((.inl k:Key),D.bl true)) (ks.map λk=>((.inl k:Key),V.bl true))
 |[]=>.nil
 |_::ks=>.cons (.bl true) (j4.Jf ks)
theorem JA{K ρ H}:∀{ks:List Int} {vs:List V},b8 K ρ H (ks.map λk=>.tup [.int k,.bl true]) vs->∃ts:List Addr,vs=ts.map V.ref/\ts.length=ks.length/\∀(i:Nat) t k,ts[i]?=some t->ks[i]?=some k->iU K H t [.int k,.bl true]
 |[],_,h=>by cases h;exact⟨[],rfl,rfl,λi t k z=>by cases i<;>cases z⟩
 |k::ks,_,h=>by
  cases h with
  |cons r rs =>
  obtain⟨ts,rfl,hl,ht⟩:=JA rs;obtain⟨a,vs,rfl,h1,h2⟩:=r.L9;refine⟨a::ts,rfl,by simp[hl],λi t k' e1 e2=>?_⟩;cases i with
  |zero =>
   cases e1;cases e2;cases h2 with
   |cons r1 r2 =>
   cases r2 with
   |cons r2 r3 =>
   cases r3;cases r1;cases r2;exact h1.sq
  |succ i=>exact ht i t k' e1 e2
theorem a84(hc:X.calm=true):l9 X (.type "dict") (rN X.K .lg):=by
 intro pins s σ H xs us Q I r h;obtain⟨ds,g,ρ,R,rs,d',g',⟨a,kvs,rfl,ha,rfl,rfl⟩|⟨a,ks,rfl,ha,hz,nd,rfl,rfl⟩,q⟩:=h
 ·obtain⟨v,rfl,rv⟩:=rs.one;obtain⟨a',rfl,ra⟩:=rv.j9;obtain⟨vs,z1,rk⟩:=R.dz ha ra;cases r with
  |cons r rr =>
  cases rr;cases r;refine a85 I (.inl z1) λp s' hp I'=>⟨.ref p,_,I',rfl,?_⟩
  exact q (ρ++[p]) _ _ (E2 hp) (R.new hp (o:=.dz kvs) (u:=.dK vs) rk) (.ref (R.A5 p))
 ·obtain⟨v,rfl,rv⟩:=rs.one;obtain⟨a',rfl,ra⟩:=rv.j9;obtain⟨vs,z1,rk⟩:=R.items ha ra;obtain⟨ts,rfl,hl,ht⟩:=JA rk;refine YH hc pins s σ H _ us Q I r ⟨a',ts,ks,rfl,z1,hl,ht,by omega,nd,λp hp=>?_⟩;exact q (ρ++[p]) _ _ (E2 hp) (R.new hp (o:=.dz (ks.map λk=>(.inl k,.bl true))) (u:=.dK (ks.map λk=>(.inl k,.bl true))) (j4.Jf ks)) (.ref (R.A5 p))
theorem Qx(hu:X.A.units+100<cLine):pQ X "dict.get" (rM X.K .get):=by
 intro pins s σ H x xs v us Q I rx r h;obtain⟨d,ds,g,ρ,R,rd,rs,d',g',⟨a,y,z,kvs,c,ex,ha,hc,rfl,rfl⟩,q⟩:=h;obtain⟨rfl,rfl⟩:=Dq ex;obtain⟨a',rfl,ra⟩:=rd.j9;obtain⟨w1,w2,rfl,r1,r2⟩:=rs.two;obtain⟨vs,z1,rv⟩:=R.dz ha ra;have:=zC hc r1;subst this;obtain⟨u1,u2,rfl,p1,p2⟩:=vals2 r;cases rx;refine Qs () I (Q1.k z1) p1 p2 λw' s4 I4 gK=>⟨_,H,I4,gK,q.now R ?_⟩
 have q:=rv.val c;cases e1:u9 kvs c with
 |none =>
  rw[e1] at q;cases e2:L8 vs c with
  |none=>exact r2
  |some w=>rw[e2] at q;exact q.elim
 |some d' =>
  rw[e1] at q;obtain⟨w,hw,q⟩:=q.some;rw[hw];exact q
theorem a53:pQ X "list.pop" (rM X.K .pop):=by
 intro pins s σ H x xs v us Q I rx r h;obtain⟨d,ds,g,ρ,R,rd,rs,y,g',⟨a,i,l,k,ex,ha,h1,h2,hk,hy,rfl⟩,q⟩:=h;obtain⟨rfl,rfl⟩:=Dq ex;obtain⟨a',rfl,ra⟩:=rd.j9;obtain⟨w,rfl,gK⟩:=rs.one;obtain rfl:=gK.j8;obtain⟨vs,z1,rv⟩:=R.lst ha ra;obtain⟨w,hw,gK⟩:=rv.get hy;obtain⟨R2,e2⟩:=R.write ha ra (rv.erase k);exact a68 pins s σ H _ _ v us Q I rx r ⟨_,vs,i,k,w,rfl,rfl,z1,h1,h2,by rw[<- rv.length];exact hk,hw,q ρ _ _ e2 R2 (gK.ext e2)⟩
theorem ty_list(R:Rl X.K ρ g H)(r:d8 X.K ρ H d v)(h:∃a l,d=.ref a/\c8 g a=some l):oW X.K "list" v H:=by
 obtain⟨a,l,rfl,hl⟩:=h;obtain⟨a',rfl,ra⟩:=r.j9;obtain⟨vs,hq,_⟩:=R.items hl ra;exact .inl ⟨rfl,vs,hq⟩
theorem ty_dict(R:Rl X.K ρ g H)(r:d8 X.K ρ H d v)(h:oC .get d g):oW X.K "dict" v H:=by
 obtain⟨a,l,rfl,hl⟩:=h;obtain⟨a',rfl,ra⟩:=r.j9;obtain⟨vs,hq,_⟩:=R.dz hl ra;exact .inr (.inr (.inl ⟨rfl,.inl ⟨vs,hq⟩⟩))
noncomputable abbrev iZ:=List Str×XK
def LX(K:PySem.W.Frag)(ρ:List Addr)(H:Hp)(Ξ:iZ):KX:=λx g'=>∀cy H' C,Ext ρ H cy H'->Rl K cy g' H'->x.cls∈Ξ.1->x5 K x.cls C->Ξ.2 (.ref C) none H'
theorem LX.ext{K:PySem.W.Frag}{ρ cx:List Addr}{H H1:Hp}{Ξ:iZ}(e:Ext ρ H cx H1){x:Xn}{g:G}(h:LX K ρ H Ξ x g):LX K cx H1 Ξ x g:=λcy H' C e' R hm c=>h cy H' C (e.trans e') R hm c
noncomputable abbrev sZ(ex:List Str):iZ:=(ex,λ_ _ _=>False)
def LE(K:PySem.W.Frag)(Ξ:iZ)(t:S->G->KD->KX->Prop):TE:=λcH H Q=>∃σ g ρ,t6 K ρ H σ cH/\Rl K ρ g H/\t σ g (LQ K ρ H Q) (LX K ρ H Ξ)
def LT(K:PySem.W.Frag)(Ξ:iZ)(t:S->G->(Bool->G->Prop)->KX->Prop):TT:=λcH H Q=>∃σ g ρ,t6 K ρ H σ cH/\Rl K ρ g H/\t σ g (λb g'=>∀cy H',Ext ρ H cy H'->Rl K cy g' H'->Q b H') (LX K ρ H Ξ)
def LA(K:PySem.W.Frag)(Ξ:iZ)(t:S->G->(List D->G->Prop)->KX->Prop):TA:=λcH H Q=>∃σ g ρ,t6 K ρ H σ cH/\Rl K ρ g H/\t σ g (λds g'=>∀cy H' vs,Ext ρ H cy H'->Rl K cy g' H'->b8 K cy H' ds vs->Q vs H') (LX K ρ H Ξ)
def qy(K:PySem.W.Frag)(iC:List Addr)(H0:Hp)(k:IK)(J:It):Prop:=∀ρ g H,Ext iC H0 ρ H->Rl K ρ g H->∀i,(k.at i g=some none->J.stop i H) /\
 ∀d,k.at i g=some (some d)->J.go i H/\∀v H',J.qV i H v H'->Ext ρ H ρ H'/\Rl K ρ g H'/\d8 K ρ H' d v
def LI(K:PySem.W.Frag)(Ξ:iZ)(t:S->G->(IK->G->Prop)->KX->Prop):TI:=λcH H R=>∃σ g ρ,t6 K ρ H σ cH/\Rl K ρ g H/\t σ g (λk g'=>∀cy H' J,Ext ρ H cy H'->Rl K cy g' H'->qy K cy H' k J->R J H') (LX K ρ H Ξ)
def LG(K:PySem.W.Frag)(t:MT):TG:=λv cH H Q=>∃d σ g ρ,t6 K ρ H σ cH/\Rl K ρ g H/\d8 K ρ H d v/\ku t d σ (λcM=>∀dU,t6 K ρ H cM dU->Q dU H)
def LN(K:PySem.W.Frag)(ρ:List Addr)(H:Hp)(N:L2.Ends):Ends where
 nx:=λcM g'=>∀cy H' dU,Ext ρ H cy H'->Rl K cy g' H'->t6 K cy H' cM dU->N.nx dU H'
 rt:=LQ K ρ H N.rt
 bk:=λcM g'=>∀cy H' dU,Ext ρ H cy H'->Rl K cy g' H'->t6 K cy H' cM dU->N.bk dU H'
 ct:=λcM g'=>∀cy H' dU,Ext ρ H cy H'->Rl K cy g' H'->t6 K cy H' cM dU->N.ct dU H'
def LS(K:PySem.W.Frag)(Ξ:iZ)(t:Ends->S->G->KX->Prop):TS:=λN cH H=>∃σ g ρ,t6 K ρ H σ cH/\Rl K ρ g H/\t (LN K ρ H N) σ g (LX K ρ H Ξ)
end M
namespace L2
open PySem PySem.Spec PyProof.Rows
variable{t t':TT}
section
variable{X:Cx}{e:Expr}
theorem PE.imp{t t':TE}(h:PE X e t)(i:∀σ H Q,t' σ H Q->t σ H Q):PE X e t':=λpins s σ H Q I q=>h pins s σ H Q I (i σ H Q q)
theorem PT.imp(h:PT X e t)(i:∀σ H Q,t' σ H Q->t σ H Q):PT X e t':=λpins s σ H Q I q=>h pins s σ H Q I (i σ H Q q)
theorem PW.imp(h:PW X e t)(i:∀σ H Q,t' σ H Q->t σ H Q):PW X e t':=λw pins s σ H Q I q=>h w pins s σ H Q I (i σ H Q q)
theorem PA.imp{es:List Expr}{t t':TA}(h:PA X es t)(i:∀σ H Q,t' σ H Q->t σ H Q):PA X es t':=λp pins s σ H Q I q=>h p pins s σ H Q I (i σ H Q q)
theorem mq.imp{es:List Expr}(h:mq X es t)(i:∀σ H Q,t' σ H Q->t σ H Q):mq X es t':=λpins s σ H Q I q=>h pins s σ H Q I (i σ H Q q)
theorem PI.imp{tg:Expr}{t t':TI}(h:PI X tg e t)(i:∀σ H Q,t' σ H Q->t σ H Q):PI X tg e t':=λpins s σ H Q I q=>h pins s σ H Q I (i σ H Q q)
theorem PG.imp{t t':TG}(h:PG X e t)(i:∀v σ H Q,t' v σ H Q->t v σ H Q):PG X e t':=λpins s σ H v u Q I r q=>h pins s σ H v u Q I r (i v σ H Q q)
theorem PS.imp{st:Stmt}{t t':TS}(h:PS X st t)(i:∀N σ H,t' N σ H->t N σ H):PS X st t':=λpins s σ H N I q=>h pins s σ H N I (i N σ H q)
theorem lh.imp{st:List Stmt}{t t':TS}(h:lh X st t)(i:∀N σ H,t' N σ H->t N σ H):lh X st t':=λpins s σ H N I q=>h pins s σ H N I (i N σ H q)
end
end L2
namespace M
open PySem L2 PySem.Spec PyProof.Rows
variable{Ξ:iZ}{P:fP}{op iY:CmpOp}{rest es:List Expr}{iE:ME}{p2 q ky:Pos}
section
variable{K:PySem.W.Frag}(hP:j6 P){ρ iC:List Addr}{H H0:Hp}{σ:S}{cH:L2.St}{g:G}{m:ME}
include hP
theorem fW{Q0:KD}{Q:VK}(s:t6 K ρ H σ cH)(R:Rl K ρ g H)(e0:Ext iC H0 ρ H)(h:bh P m σ g Q0 (LX K iC H0 Ξ))(k:∀x g1 cx H1 v1,Ext ρ H cx H1->Rl K cx g1 H1->d8 K cx H1 x v1->Q0 x g1->Q v1 H1):LE K Ξ (bh P m) cH H Q :=
 ⟨σ,g,ρ,s,R,b9 hP m _ _ _ _ _ _ (λx g1 h cx H1 v1 e1 R1 r1=>k x g1 cx H1 v1 e1 R1 r1 h) (λ_ _ z=>LX.ext e0 z) h⟩
theorem lr{Q0:List D->G->Prop}{Q:List V->Hp->Prop}(s:t6 K ρ H σ cH)(R:Rl K ρ g H)(e0:Ext iC H0 ρ H)(h:gG P m σ g Q0 (LX K iC H0 Ξ))(k:∀x g1 cx H1 v1,Ext ρ H cx H1->Rl K cx g1 H1->b8 K cx H1 x v1->Q0 x g1->Q v1 H1):LA K Ξ (gG P m) cH H Q :=
 ⟨σ,g,ρ,s,R,A4 hP m _ _ _ _ _ _ (λx g1 h cx H1 v1 e1 R1 r1=>k x g1 cx H1 v1 e1 R1 r1 h) (λ_ _ z=>LX.ext e0 z) h⟩
theorem qY{Q0:Bool->G->Prop}{Q:Bool->Hp->Prop}(s:t6 K ρ H σ cH)(R:Rl K ρ g H)(e0:Ext iC H0 ρ H)(h:dD P m σ g Q0 (LX K iC H0 Ξ))(k:∀t g1 cx H1,Ext ρ H cx H1->Rl K cx g1 H1->Q0 t g1->Q t H1):LT K Ξ (dD P m) cH H Q :=
 ⟨σ,g,ρ,s,R,t8 hP m _ _ _ _ _ _ (λt g1 h cx H1 e1 R1=>k t g1 cx H1 e1 R1 h) (λ_ _ z=>LX.ext e0 z) h⟩
theorem uZ{ms:MS}{N:L2.Ends}{N0:Ends}(s:t6 K ρ H σ cH)(R:Rl K ρ g H)(e0:Ext iC H0 ρ H)(h:wpS P ms N0 σ g (LX K iC H0 Ξ))(k:N0.le (LN K ρ H N)):LS K Ξ (wpS P ms) N cH H :=
 ⟨σ,g,ρ,s,R,wpS_mono hP ms _ _ _ _ _ _ k (λ_ _ z=>LX.ext e0 z) h⟩
end
theorem b8.ng{K ρ H}(lo:Int)(n:Nat):b8 K ρ H (j7 lo n) ((List.range n).map λ(k:Nat)=>V.int (lo+k)):=by
 unfold j7;have:∀l:List Nat,b8 K ρ H (l.map λ(k:Nat)=>D.int (lo+k)) (l.map λ(k:Nat)=>V.int (lo+k)):=by
  intro l
  induction l with
  |nil=>exact .nil
  |cons x r ih=>exact .cons (.int _) ih
 exact this _
section
variable{X:Cx}(hP:j6 P){a b c e:Expr}{ma mb mc:ME}{pos:Pos}{p:Pr}
include hP
theorem EU(h:PE X e (tH (r2 X.K p) (LE X.K Ξ (bh P ma)) (LE X.K Ξ (bh P mb)))):PE X e (LE X.K Ξ (bh P (.prim p (.cons ma (.cons mb .nil))))) :=
 h.imp λcH H Q bD=>by
  obtain⟨σ,g,ρ,s,R,h⟩:=bD;exact fW hP s R (.refl _ _) h λx g1 cx H1 v1 e1 R1 r1 h=>fW hP (s.ext e1) R1 e1 h λy g2 gb H2 v2 e2 R2 r2 h =>
   ⟨x,y,g2,gb,R2,r1.ext e2,r2,v8 (λd g' h=>h.ext (e1.trans e2)) h⟩
theorem Su(h:PT X e (Ew (tH (r2 X.K (.cmp op)) (LE X.K Ξ (bh P ma)) (LE X.K Ξ (bh P mb))))):PT X e (LT X.K Ξ (dD P (.fR (.prim (.cmp op) (.cons ma (.cons mb .nil)))))) :=
 h.imp λcH H Q bD=>by
  obtain⟨σ,g,ρ,s,R,h⟩:=bD;refine fW hP s R (.refl _ _) h λx g1 cx H1 v1 e1 R1 r1 h=>fW hP (s.ext e1) R1 e1 h λy g2 gb H2 v2 e2 R2 r2 h=>?_;obtain⟨d',g',h,q⟩:=h;obtain⟨x',y',t,ex,hc,rfl,rfl⟩:=id h;refine⟨x,y,g',gb,R2,r1.ext e2,r2,_,_,h,λcy H' v e' R' r'=>?_⟩;obtain⟨t',ht,q⟩:=q;rcases ht with⟨z,_⟩|z|⟨i,z,_⟩|⟨l,z,_⟩|⟨a,l,z,_⟩<;>cases z
  exact⟨_,r'.M5,q cy H' (e1.trans (e2.trans e')) R'⟩
theorem IW{op:UnaryOp}(ha:PE X a (LE X.K Ξ (bh P ma))):PE X (.UnaryOp op a pos) (LE X.K Ξ (bh P (.prim (.un op) (.cons ma .nil)))) :=
 (Xw (Xp op) ha).imp λcH H Q bD=>by
  obtain⟨σ,g,ρ,s,R,h⟩:=bD;exact fW hP s R (.refl _ _) h λx g1 cx H1 v1 e1 R1 r1 h=>⟨x,g1,cx,R1,r1,v8 (λd g' h=>h.ext e1) h⟩
theorem LB:∀cH H Q,LE X.K Ξ (bh P (.chain op iY ma mb mc)) cH H Q->EV (r2 X.K (.cmp op)) (r2 X.K (.cmp iY)) (LE X.K Ξ (bh P ma)) (LE X.K Ξ (bh P mb)) (LE X.K Ξ (bh P mc)) cH H Q:=λcH H Q bD=>by
 obtain⟨σ,g,ρ,s,R,h⟩:=bD;refine fW hP s R (.refl _ _) h λx g1 cx H1 v1 e1 R1 r1 h=>fW hP (s.ext e1) R1 e1 h λy g2 gb H2 v2 e2 R2 r2 h=>?_;refine⟨x,y,g2,gb,R2,r1.ext e2,r2,v8 (λd g3 h lK H3 v3 e3 R3 r3=>?_) h⟩;obtain⟨t,rfl,h⟩:=h;obtain rfl:=r3.M5;refine⟨t,rfl,?_⟩;cases t
 ·exact h lK H3 _ (e1.trans (e2.trans e3)) R3 (.bl _)
 ·exact fW hP (s.ext (e1.trans (e2.trans e3))) R3 (e1.trans (e2.trans e3)) h λz g4 qU H4 v4 e4 R4 r4 h =>
   ⟨y,z,g4,qU,R4,r2.ext (e3.trans e4),r4,v8 (λd g' h=>h.ext (e1.trans (e2.trans (e3.trans e4)))) h⟩
theorem a39(hu:X.A.units+100<cLine)(ha:PE X a (LE X.K Ξ (bh P ma)))(hb:PE X b (LE X.K Ξ (bh P mb)))(hc:PE X c (LE X.K Ξ (bh P mc)))(hm:lastMarks [op,iY] [b,c]=false) :
  PE X (.Compare a [op,iY] [b,c] pos) (LE X.K Ξ (bh P (.chain op iY ma mb mc))):=(a60 (Y0 hu op) (Y0 hu iY) ha hb hc hm).imp (LB hP)
theorem a87{σ:S}{g:G}{Q:Bool->G->Prop}{E:KX}(h:dD P (.fR (.chain op iY ma mb mc)) σ g Q E):bh P (.chain op iY ma mb mc) σ g (λd g'=>∃t,d=.bl t/\Q t g') E:=by
 have one:∀{o:CmpOp} {xs:List D} {g:G},de (.cmp o) xs g (λd g1=>qI g1 d λb=>Q b g1)->de (.cmp o) xs g λd g'=>∃t,d=.bl t/\Q t g':=by
  intro o xs g h;obtain⟨d',g',h,t',ht,q⟩:=h;obtain⟨x',y',t,ex,hc,rfl,rfl⟩:=id h;refine⟨_,_,h,t',?_,q⟩;rcases ht with⟨z,_⟩|z|⟨i,z,_⟩|⟨l,z,_⟩|⟨a,l,z,_⟩<;>first|exact z|cases z
 refine b9 hP ma _ _ _ _ _ _ (λx g1 h=>b9 hP mb _ _ _ _ _ _ (λy g2 h=>v8 (λz g3 h=>?_) h) (λ_ _ z=>z) h) (λ_ _ z=>z) h;obtain⟨t,rfl,h⟩:=h;refine⟨t,rfl,?_⟩;cases t
 ·obtain⟨b,hb,q⟩:=(show qI g3 (.bl false) λb=>Q b g3 from h)
  rcases hb with⟨z,_⟩|z|⟨i,z,_⟩|⟨l,z,_⟩|⟨a,l,z,_⟩<;>first|(cases z;exact⟨_,rfl,q⟩)|cases z
 ·exact b9 hP mc _ _ _ _ _ _ (λw g4 h=>one h) (λ_ _ z=>z) h
theorem a28(hu:X.A.units+100<cLine)(ha:PE X a (LE X.K Ξ (bh P ma)))(hb:PE X b (LE X.K Ξ (bh P mb)))(hc:PE X c (LE X.K Ξ (bh P mc)))(hm:lastMarks [op,iY] [b,c]=false) :
  PT X (.Compare a [op,iY] [b,c] pos) (LT X.K Ξ (dD P (.fR (.chain op iY ma mb mc)))) :=
 (a50 (Y0 hu op) (Y0 hu iY) ha hb hc hm).imp λcH H Q ⟨σ,g,ρ,s,R,h⟩ =>
  LB hP cH H _ (fW hP s R (.refl _ _) (a87 hP h) λx g1 cx H1 v1 e1 R1 r1 h=>by
   obtain⟨t,rfl,h⟩:=h;exact ⟨t,r1.M5,h cx H1 e1 R1⟩)
theorem RV(ha:PE X a (LE X.K Ξ (bh P ma)))(hb:PE X (.BoolOp .And (b::rest) pos) (LE X.K Ξ (bh P mb))):PE X (.BoolOp .And (a::b::rest) pos) (LE X.K Ξ (bh P (.dM ma mb))) :=
 (Rp ha hb).imp λcH H Q bD=>by
  obtain⟨σ,g,ρ,s,R,h⟩:=bD;refine fW hP s R (.refl _ _) h λx g1 cx H1 v1 e1 R1 r1 h=>?_;obtain⟨t,rfl,h⟩:=h;refine⟨t,r1.M5,?_⟩;cases t
  ·exact h cx H1 _ e1 R1 (.bl _)
  ·exact fW hP (s.ext e1) R1 e1 h λy g2 gb H2 v2 e2 R2 r2 h=>h gb H2 v2 (e1.trans e2) R2 r2
theorem XJ(ha:PE X a (LE X.K Ξ (bh P ma)))(hb:PE X (.BoolOp .Or (b::rest) pos) (LE X.K Ξ (bh P mb))):PE X (.BoolOp .Or (a::b::rest) pos) (LE X.K Ξ (bh P (.jN ma mb))) :=
 (Xv ha hb).imp λcH H Q bD=>by
  obtain⟨σ,g,ρ,s,R,h⟩:=bD;refine fW hP s R (.refl _ _) h λx g1 cx H1 v1 e1 R1 r1 h=>?_;obtain⟨t,rfl,h⟩:=h;refine⟨t,r1.M5,?_⟩;cases t
  ·exact fW hP (s.ext e1) R1 e1 h λy g2 gb H2 v2 e2 R2 r2 h=>h gb H2 v2 (e1.trans e2) R2 r2
  ·exact h cx H1 _ e1 R1 (.bl _)
theorem Sd(ha:PE X a (LE X.K Ξ (bh P ma))):PE X (.UnaryOp .Not a pos) (LE X.K Ξ (bh P (.eR ma))) :=
 (Rx ha).imp λcH H Q bD=>by
  obtain⟨σ,g,ρ,s,R,h⟩:=bD;refine fW hP s R (.refl _ _) h λx g1 cx H1 v1 e1 R1 r1 h=>?_;obtain⟨t,rfl,h⟩:=h;exact⟨t,r1.M5,h cx H1 _ e1 R1 (.bl _)⟩
theorem Sa(hc:PT X c (LT X.K Ξ (dD P mc)))(ha:PE X a (LE X.K Ξ (bh P ma)))(hb:PE X b (LE X.K Ξ (bh P mb))):PE X (.IfExp c a b pos) (LE X.K Ξ (bh P (.ite mc ma mb))) :=
 (a58 hc ha hb).imp λcH H Q bD=>by
  obtain⟨σ,g,ρ,s,R,h⟩:=bD;refine qY hP s R (.refl _ _) h λt g1 cx H1 e1 R1 h=>?_;cases t
  ·exact fW hP (s.ext e1) R1 e1 h λy g2 gb H2 v2 e2 R2 r2 h=>h gb H2 v2 (e1.trans e2) R2 r2
  ·exact fW hP (s.ext e1) R1 e1 h λy g2 gb H2 v2 e2 R2 r2 h=>h gb H2 v2 (e1.trans e2) R2 r2
theorem Sf{k:Nat}(h:PA X es (LA X.K Ξ (gG P iE))):PE X (.Tuple es k pos) (LE X.K Ξ (bh P (.prim .tup iE))) :=
 (RA h).imp λcH H Q bD=>by
  obtain⟨σ,g,ρ,s,R,h⟩:=bD;refine lr hP s R (.refl _ _) h λds g1 cx H1 vs e1 R1 r1 h=>?_;obtain⟨d',g',⟨hz,rfl,rfl⟩,q⟩:=h;exact⟨by rw[<- r1.length];exact p8 (aF hz ∅),λp hp=>(q.ext e1).tup R1 hp r1⟩
theorem Sb(h:PA X es (LA X.K Ξ (gG P iE))):PE X (.List es pos) (LE X.K Ξ (bh P (.prim .lst iE))) :=
 (Rv h).imp λcH H Q bD=>by
  obtain⟨σ,g,ρ,s,R,h⟩:=bD;refine lr hP s R (.refl _ _) h λds g1 cx H1 vs e1 R1 r1 h=>?_;obtain⟨d',g',⟨hz,rfl,rfl⟩,q⟩:=h;exact⟨by rw[<- r1.length];exact p8 (aF hz ∅),λp hp=>(q.ext e1).new R1 hp r1⟩
theorem O9:PA X [] (LA X.K Ξ (gG P .nil)) :=
 (X9 (X:=X)).imp λcH H Q bD=>by
  obtain⟨σ,g,ρ,s,R,h⟩:=bD;exact h ρ H [] (.refl _ _) R .nil
theorem E9(ha:PE X a (LE X.K Ξ (bh P ma)))(h:PA X es (LA X.K Ξ (gG P iE)))(hs:starEach (a::es) X.env=(false,eval a X.env)::starEach es X.env):PA X (a::es) (LA X.K Ξ (gG P (.cons ma iE))) :=
 (R5 ha h hs).imp λcH H Q bD=>by
  obtain⟨σ,g,ρ,s,R,h⟩:=bD;exact fW hP s R (.refl _ _) h λx g1 cx H1 v1 e1 R1 r1 h=>lr hP (s.ext e1) R1 e1 h λxs g2 gb H2 vs e2 R2 r2 h=>h gb H2 _ (e1.trans e2) R2 (.cons (r1.ext e2) r2)
theorem a33(ha:PE X a (LE X.K Ξ (bh P ma))):PE X (.Subscript a (.Slice none none none p2) pos) (LE X.K Ξ (bh P (.prim (.lL false false) (.cons ma .nil)))) :=
 (Dv Es ha zI zI).imp λcH H Q bD=>by
  obtain⟨σ,g,ρ,s,R,h⟩:=bD;refine fW hP s R (.refl _ _) h λx g1 cx H1 v1 e1 R1 r1 h=>?_;obtain⟨d',g',⟨x',ex,h⟩,q⟩:=h;cases ex;exact⟨x,g1,cx,d',g',R1,r1,h,q.ext e1⟩
theorem a31(ha:PE X a (LE X.K Ξ (bh P ma)))(hb:PE X b (LE X.K Ξ (bh P mb))):PE X (.Subscript a (.Slice (some b) none none p2) pos) (LE X.K Ξ (bh P (.prim (.lL true false) (.cons ma (.cons mb .nil))))) :=
 (Dv Es ha (Lj hb) zI).imp λcH H Q bD=>by
  obtain⟨σ,g,ρ,s,R,h⟩:=bD;refine fW hP s R (.refl _ _) h λx g1 cx H1 v1 e1 R1 r1 h=>fW hP (s.ext e1) R1 e1 h λy g2 gb H2 v2 e2 R2 r2 h=>?_;obtain⟨d',g',⟨x',i,ex,h⟩,q⟩:=h;cases ex;exact⟨i,r2.j8,x,g2,gb,d',g',R2,r1.ext e2,h,q.ext (e1.trans e2)⟩
theorem a32(ha:PE X a (LE X.K Ξ (bh P ma)))(hb:PE X b (LE X.K Ξ (bh P mb))):PE X (.Subscript a (.Slice none (some b) none p2) pos) (LE X.K Ξ (bh P (.prim (.lL false true) (.cons ma (.cons mb .nil))))) :=
 (Dv Es ha zI (Lj hb)).imp λcH H Q bD=>by
  obtain⟨σ,g,ρ,s,R,h⟩:=bD;refine fW hP s R (.refl _ _) h λx g1 cx H1 v1 e1 R1 r1 h=>fW hP (s.ext e1) R1 e1 h λy g2 gb H2 v2 e2 R2 r2 h=>?_;obtain⟨d',g',⟨x',i,ex,h⟩,q⟩:=h;cases ex;exact⟨i,r2.j8,x,g2,gb,d',g',R2,r1.ext e2,h,q.ext (e1.trans e2)⟩
theorem Sv(ha:PE X a (LE X.K Ξ (bh P ma)))(he:∀whole,isTrue a X.env whole=(do let v <- whole;standAt a.pos;holding [v] (truthy v))):PT X a (LT X.K Ξ (dD P (.fR ma))) :=
 (a49 ha he).imp λcH H Q bD=>by
  obtain⟨σ,g,ρ,s,R,h⟩:=bD;refine fW hP s R (.refl _ _) h λx g1 cx H1 v1 e1 R1 r1 h=>?_;obtain⟨b,h1,h2⟩:=h;exact⟨b,SK R1 r1 h1,h2 cx H1 e1 R1⟩
theorem Ss(ha:PT X a (LT X.K Ξ (dD P ma))):PT X (.UnaryOp .Not a pos) (LT X.K Ξ (dD P (.eR ma))) :=
 (RL ha).imp λcH H Q bD=>by
  obtain⟨σ,g,ρ,s,R,h⟩:=bD;exact qY hP s R (.refl _ _) h λt g1 cx H1 e1 R1 h=>h cx H1 e1 R1
theorem Sx(ha:PT X a (LT X.K Ξ (dD P ma)))(hb:PW X (.BoolOp .And (b::rest) pos) (LT X.K Ξ (dD P mb))):PW X (.BoolOp .And (a::b::rest) pos) (LT X.K Ξ (dD P (.dM ma mb))) :=
 (RN ha hb).imp λcH H Q bD=>by
  obtain⟨σ,g,ρ,s,R,h⟩:=bD;refine qY hP s R (.refl _ _) h λt g1 cx H1 e1 R1 h=>?_;cases t
  ·exact h cx H1 e1 R1
  ·exact qY hP (s.ext e1) R1 e1 h λt g2 gb H2 e2 R2 h=>h gb H2 (e1.trans e2) R2
theorem XO(ha:PT X a (LT X.K Ξ (dD P ma)))(hb:PW X (.BoolOp .Or (b::rest) pos) (LT X.K Ξ (dD P mb))):PW X (.BoolOp .Or (a::b::rest) pos) (LT X.K Ξ (dD P (.jN ma mb))) :=
 (Xz ha hb).imp λcH H Q bD=>by
  obtain⟨σ,g,ρ,s,R,h⟩:=bD;refine qY hP s R (.refl _ _) h λt g1 cx H1 e1 R1 h=>?_;cases t
  ·exact qY hP (s.ext e1) R1 e1 h λt g2 gb H2 e2 R2 h=>h gb H2 (e1.trans e2) R2
  ·exact h cx H1 e1 R1
theorem UL:mq X [] (LT X.K Ξ (dD P .no)) :=
 (Uj (X:=X)).imp λcH H Q bD=>by
  obtain⟨σ,g,ρ,s,R,h⟩:=bD;exact h ρ H (.refl _ _) R
theorem RX{x:Str}{v:Value}(hv:(∃id,v=.builtin id)\/∃T,v=.type T)(hc:l9 X v (rN X.K p))(hg:Gl X x)(hm:X.mg x=none)(hb:bootBuiltins x=some v)(ha:PA X (e::es) (LA X.K Ξ (gG P iE)))(hn:x≠"__name__")(hd:(x==("__debug__":Str))=false)(fz:starEach (e::es) X.env=(false,eval e X.env)::starEach es X.env)(iT:(backTo pos (starEach es X.env)).any (·.1)=false):PE X (.Call (.Name x q) (e::es) [] pos) (LE X.K Ξ (bh P (.prim p iE))):=by
 have base:PE X (.Call (.Name x q) (e::es) [] pos) (AB (rN X.K p) (LA X.K Ξ (gG P iE))):=by
  rcases hv with⟨id,rfl⟩|⟨T,rfl⟩
  ·exact zQ hc hg hm hb ha hn hd fz iT
  ·exact P1 hc hg hm hb ha hn hd fz iT
 refine base.imp λcH H Q bD=>?_;obtain⟨σ,g,ρ,s,R,h⟩:=bD;exact lr hP s R (.refl _ _) h λxs g1 cx H1 vs e1 R1 r1 h=>⟨xs,g1,cx,R1,r1,v8 (λd g' h=>h.ext e1) h⟩
theorem Uy{o:Expr}{mo:ME}{T:String}{name:Str}{id:String}{apos:Pos}(pa:PlainAttrs T)(slot:Slot T name id)(ke:typeOf (.builtin id)=pure (.type "method_descriptor"))(hm:pQ X id (rM X.K p))(hk:∀{d:D} {v:V} {g:G} {ρ:List Addr} {H:Hp},Rl X.K ρ g H->d8 X.K ρ H d v->oC p d g->oW X.K T v H)(ho:PE X o (LE X.K Ξ (bh P mo)))(ha:PA X (e::es) (LA X.K Ξ (gG P iE)))(jK:attributeBase o name X.env (eval o X.env)=eval o X.env)(rW:((backTo pos (starEach (e::es) X.env)).all (λx=>!x.1)&&(backToKw pos (keywordEach [] X.env)).all (λx=>x.1.isSome)&&decide ((e::es).length+([]:List Keyword).length+(if([]:List Keyword).isEmpty then 0 else 1)<30))=true)(jI:(apos.endLine==pos.line)=true)(hs:starEach (e::es) X.env=(false,eval e X.env)::starEach es X.env)(gZ:(backTo pos (starEach es X.env)).any (·.1)=false) :
  PE X (.Call (.Attribute o name apos) (e::es) [] pos) (LE X.K Ξ (bh P (.fJ p mo iE))) :=
 (Xs pa slot ke hm ho ha jK rW jI hs gZ).imp λcH H Q bD=>by
  obtain⟨σ,g,ρ,s,R,h⟩:=bD;exact fW hP s R (.refl _ _) h λx g1 cx H1 v1 e1 R1 r1 h=>⟨hk R1 r1 h.1,lr hP (s.ext e1) R1 e1 h.2 λxs g2 gb H2 ws e2 R2 r2 h =>
   ⟨x,xs,g2,gb,R2,r1.ext e2,r2,v8 (λd g' h=>h.ext (e1.trans e2)) h⟩⟩
theorem a35{o:Expr}{mo:ME}{T:String}{name:Str}{id:String}{apos:Pos}(pa:PlainAttrs T)(slot:Slot T name id)(ke:typeOf (.builtin id)=pure (.type "method_descriptor"))(hm:pQ X id (rM X.K p))(hk:∀{d:D} {v:V} {g:G} {ρ:List Addr} {H:Hp},Rl X.K ρ g H->d8 X.K ρ H d v->oC p d g->oW X.K T v H)(ho:PE X o (LE X.K Ξ (bh P mo)))(jK:attributeBase o name X.env (eval o X.env)=eval o X.env)(jI:(apos.endLine==pos.line)=true) :
  PE X (.Call (.Attribute o name apos) [] [] pos) (LE X.K Ξ (bh P (.fJ p mo .nil))) :=
 (Rq pa slot ke hm ho jK jI).imp λcH H Q bD=>by
  obtain⟨σ,g,ρ,s,R,h⟩:=bD;exact fW hP s R (.refl _ _) h λx g1 cx H1 v1 e1 R1 r1 h=>⟨hk R1 r1 h.1,x,[],g1,cx,R1,r1,.nil,v8 (λd g' h=>h.ext e1) h.2⟩
theorem a38(hc:X.calm=true)(ha:PE X a (LE X.K Ξ (bh P ma)))(nY:Gl X "list")(pB:X.mg "list"=none)(hg:Gl X "range")(hm:X.mg "range"=none)(hs:starEach [a] X.env=[(false,eval a X.env)]) :
  PE X (.Call (.Name "list" p2) [.Call (.Name "range" q) [a] [] pos] [] ky) (LE X.K Ξ (bh P (.prim .jE (.cons ma .nil)))) :=
 (P1 (Ko hc) nY pB (by first|exact fE|decide +kernel) (R5 (Zr hg hm (E9 hP ha (O9 hP) (by rw[hs];rfl)) hs) X9)).imp λcH H Q bD=>by
  obtain⟨σ,g,ρ,s,R,h⟩:=bD;refine lr hP s R (.refl _ _) h λxs g1 cx H1 vs e1 R1 r1 h=>?_;obtain⟨d',g',⟨j,rfl,h1,h2,rfl,rfl⟩,q⟩:=h;obtain⟨v,rfl,rv⟩:=r1.one;obtain rfl:=rv.j8;refine⟨j,rfl,λq' hq=>⟨q',0,j,rfl,u5,⟨by omega,by omega,h1,by omega,by omega⟩,λp hp=>?_⟩⟩;rw[show(j-0).toNat=j.toNat by omega];exact(q.ext (e1.trans (B5 hq))).new (R1.grow hq) hp (b8.ng 0 _)
theorem a37(hc:X.calm=true)(ha:PE X a (LE X.K Ξ (bh P ma)))(hb:PE X b (LE X.K Ξ (bh P mb)))(nY:Gl X "list")(pB:X.mg "list"=none)(hg:Gl X "range")(hm:X.mg "range"=none)(hs:starEach [a,b] X.env=[(false,eval a X.env),(false,eval b X.env)])(gI:starEach [b] X.env=[(false,eval b X.env)]) :
  PE X (.Call (.Name "list" p2) [.Call (.Name "range" q) [a,b] [] pos] [] ky) (LE X.K Ξ (bh P (.prim .kW (.cons ma (.cons mb .nil))))) :=
 (P1 (Ko hc) nY pB (by first|exact fE|decide +kernel) (R5 (Zs hg hm (E9 hP ha (E9 hP hb (O9 hP) (by rw[gI];rfl)) (by rw[hs,gI])) hs gI) X9)).imp λcH H Q bD=>by
  obtain⟨σ,g,ρ,s,R,h⟩:=bD;refine lr hP s R (.refl _ _) h λxs g1 cx H1 vs e1 R1 r1 h=>?_;obtain⟨d',g',⟨i,j,rfl,hb,rfl,rfl⟩,q⟩:=h;obtain⟨v,w,rfl,rv,gK⟩:=r1.two;obtain rfl:=rv.j8;obtain rfl:=gK.j8;exact⟨i,j,rfl,λq' hq=>⟨q',i,j,rfl,u5,hb,λp hp=>(q.ext (e1.trans (B5 hq))).new (R1.grow hq) hp (b8.ng i _)⟩⟩
theorem Uz(hc:X.calm=true)(ha:PE X a (LE X.K Ξ (bh P ma)))(nY:Gl X "sorted")(pB:X.mg "sorted"=none)(hg:Gl X "set")(hm:X.mg "set"=none)(hs:starEach [a] X.env=[(false,eval a X.env)]) :
  PE X (.Call (.Name "sorted" p2) [.Call (.Name "set" q) [a] [] pos] [] ky) (LE X.K Ξ (bh P (.prim .sset (.cons ma .nil)))) :=
 (zQ (U9 hc) nY pB (by first|exact iu|decide +kernel) (R5 (P1 (Kl hc) hg hm (by first|exact ju|decide +kernel) (E9 hP ha (O9 hP) (by rw[hs];rfl)) ∅ ∅ (by rw[hs];rfl) rfl) X9)).imp λcH H Q bD=>by
  obtain⟨σ,g,ρ,s,R,h⟩:=bD;refine lr hP s R (.refl _ _) h λxs g1 cx H1 vs e1 R1 r1 h=>?_;obtain⟨d',g',⟨i,ns,rfl,hl,hz,rfl,rfl⟩,q⟩:=h;obtain⟨v,rfl,rv⟩:=r1.one;obtain⟨a',rfl,ra⟩:=rv.j9;obtain⟨ws,hq,rs⟩:=R1.items hl ra;obtain rfl:=rs.ints;refine⟨_,ns,rfl,hq,hz,λq' nW=>⟨q',ns,rfl,u5,hz,λp hp=>?_⟩⟩;exact(q.ext (e1.trans (B5 nW))).new (R1.grow nW) hp (b8.ofInts _)
theorem Uw(hc:X.calm=true)(ha:PE X a (LE X.K Ξ (bh P ma)))(nY:Gl X "len")(pB:X.mg "len"=none)(hg:Gl X "set")(hm:X.mg "set"=none)(hs:starEach [a] X.env=[(false,eval a X.env)]) :
  PE X (.Call (.Name "len" p2) [.Call (.Name "set" q) [a] [] pos] [] ky) (LE X.K Ξ (bh P (.prim .qG (.cons ma .nil)))) :=
 (zQ Yl nY pB PySem.boot_len (R5 (P1 (Kl hc) hg hm (by first|exact ju|decide +kernel) (E9 hP ha (O9 hP) (by rw[hs];rfl)) ∅ ∅ (by rw[hs];rfl) rfl) X9)).imp λcH H Q bD=>by
  obtain⟨σ,g,ρ,s,R,h⟩:=bD;refine lr hP s R (.refl _ _) h λxs g1 cx H1 vs e1 R1 r1 h=>?_;obtain⟨d',g',⟨i,ns,rfl,hl,hz,rfl,rfl⟩,q⟩:=h;obtain⟨v,rfl,rv⟩:=r1.one;obtain⟨a',rfl,ra⟩:=rv.j9;obtain⟨ws,hq,rs⟩:=R1.items hl ra;obtain rfl:=rs.ints;refine⟨_,ns,rfl,hq,by omega,λq' nW=>⟨q',_,rfl,u5,?_⟩⟩;exact(q.ext (e1.trans (B5 nW))).now (R1.grow nW) (.int _)
theorem RY{f:Str}(ha:PE X a (LE X.K Ξ (bh P ma)))(hb:attributeBase a f X.env (eval a X.env)=eval a X.env):PE X (.Attribute a f pos) (LE X.K Ξ (bh P (.prim (.fld f) (.cons ma .nil)))) :=
 (Rt ha hb).imp λcH H Q bD=>by
  obtain⟨σ,g,ρ,s,R,h⟩:=bD;refine fW hP s R (.refl _ _) h λx g1 cx H1 v1 e1 R1 r1 h=>?_;obtain⟨d',g',⟨i,c,fs,ex,hi,hf,rfl⟩,q⟩:=h;cases ex;obtain⟨a',rfl,ra⟩:=r1.j9;obtain⟨C,dx,vs,hH,_,hC,rk,na⟩:=R1.ins hi ra;have lk:=rk.look f;rw[hf] at lk;obtain⟨v,hv,rv⟩:=lk.some;exact⟨a',C,dx,vs,v,rfl,hH,hC,na _ (aT hf),hv,q cx H1 v e1 R1 rv⟩
end
section
variable{X:Cx}{pos:Pos}
theorem Sg{i:Nat}{x:Str}(hN:X.N[i]?=some x)(hv:Ae X.env.scope x)(hd:(x==("__debug__":Str))=false)(mM:(x==("__classdict__":Str))=false):PE X (.Name x pos) (LE X.K Ξ (bh P (.var i))) :=
 (RB hN hv hd mM).imp λcH H Q bD=>by
  obtain⟨σ,g,ρ,s,R,h⟩:=bD;obtain⟨d,e,h⟩:=h;obtain⟨v,h1,h2⟩:=s.val _ _ e;exact⟨v,h1,h.now R h2⟩
theorem S1{e:Expr}{d:D}{v:V}(h:PE X e (tC v))(r:∀ρ H,d8 X.K ρ H d v):PE X e (LE X.K Ξ (bh P (.lit d))) :=
 h.imp λcH H Q bD=>by
  obtain⟨σ,g,ρ,s,R,h⟩:=bD;exact LQ.now h R (r ρ H)
theorem Ut:PE X (.Dict [] [] pos) (LE X.K Ξ (bh P (.prim .W6 .nil))) :=
 (a59 (X:=X)).imp λcH H Q ⟨σ,g,ρ,s,R,h⟩ p hp=>by
  obtain⟨d',g',⟨_,rfl,rfl⟩,q⟩:=h;exact q (ρ++[p]) _ _ (E2 hp) (R.new hp (o:=.dz []) (u:=.dK []) j4.nil) (.ref (R.A5 p))
end
end M
namespace L2
open PySem PySem.Spec PyProof.Rows
end L2
namespace M
open PySem L2 PySem.Spec PyProof.Rows
variable{K:PySem.W.Frag}{H H0:Hp}{neg:Bool}{a fa C:Addr}{x:Str}{p:Pos}{kvs:List D}{k f:Nat}{fd:FuncData}{ps:List Str}{iC:List Addr}{vs:List V}
inductive qx(K:PySem.W.Frag):List D->List (Str×V)->Prop
 |nil:qx K [] []
 |cons {x:Str} {d:D} {v:V} {ds:List D} {vs:List (Str×V)} (h:∀ρ H,d8 K ρ H d v) (r:qx K ds vs):qx K (.tup [.str x,d]::ds) ((x,v)::vs)
theorem qx.look{ρ:List Addr}{ds vs}(x:Str)(h:qx K ds vs):sV K ρ H (O5 ds x) (vs.lookup x):=by
 induction h with
 |nil=>trivial
 |cons h r ih =>
  rename_i y d v ds vs;unfold O5;rw[cS];by_cases e:x=y
  ·rw[aK e,show(x==y)=true from by simp[e]];exact h ρ H
  ·rw[aB e,show(x==y)=false from by simpa using e];exact ih
def yM(X:Cx)(x:Str)(kvs:List D):Prop:=∃A vs,X.mg x=some (.ref A)/\wV X.K X.w.params A vs/\qx X.K kvs vs
def yU(neg:Bool):Pr:=if neg then .wy else .Hs
theorem KZ:PR (yU neg)=Ff neg:=by cases neg<;>rfl
theorem ZH(a b c:Str):a++b++c=a++(b++c):=by
 cases a;cases b;cases c;show Str.mk _=Str.mk _;exact fY Str.mk (MO ..)
theorem UK(x:Str):x++Str.empty=x:=by cases x;show Str.mk _=_;simp[Str.empty]
theorem TJ(x:Str):Str.empty++x=x:=by cases x;show Str.mk _=_;simp[Str.empty]
section
variable{X:Cx}{Ξ:iZ}{P:fP}(hP:j6 P){a c:Expr}{ma:ME}{pos:Pos}
include hP
theorem RZ(hg:Gl X x)(hd:(x==("__debug__":Str))=false)(hG:yM X x kvs)(ha:PE X a (LE X.K Ξ (bh P ma)))(hm:behindInMarks (if neg then .NotIn else .In) (.Name x p)=false) :
  PE X (.Compare a [if neg then .NotIn else .In] [.Name x p] pos) (LE X.K Ξ (bh P (.prim (yU neg) (.cons (.lit (.tup kvs)) (.cons ma .nil))))):=by
 obtain⟨A,vs,hmg,hk,gr⟩:=hG;refine(Lg (Kv (kvs:=vs) neg) ha (zH (v:=.ref A) hg hmg rfl hd) hm).imp λcH H Q bD=>?_;obtain⟨σ,g,ρ,s,R,h⟩:=bD;refine fW hP s R (.refl _ _) h λd g1 cx H1 v1 e1 R1 r1 h=>?_;obtain⟨d',g',h,q⟩:=h;rw[KZ] at h;obtain⟨jg,z,ex,rfl,rfl⟩:=h;cases ex;obtain rfl:=r1.E5;refine⟨A,z,rfl,hk,rfl,?_⟩;rw[<- (gr.look (ρ:=cx) (H:=H1) z).isSome];exact q cx H1 _ e1 R1 (.bl _)
theorem Sr(hg:Gl X x)(hd:(x==("__debug__":Str))=false)(hG:yM X x kvs)(ha:PE X a (LE X.K Ξ (bh P ma)))(hm:behindInMarks (if neg then .NotIn else .In) (.Name x p)=false) :
  PT X (.Compare a [if neg then .NotIn else .In] [.Name x p] pos) (LT X.K Ξ (dD P (.fR (.prim (yU neg) (.cons (.lit (.tup kvs)) (.cons ma .nil)))))):=by
 obtain⟨A,vs,hmg,hk,gr⟩:=hG;refine(Ll (Kv (kvs:=vs) neg) ha (zH (v:=.ref A) hg hmg rfl hd) hm).imp λcH H Q bD=>?_;obtain⟨σ,g,ρ,s,R,h⟩:=bD;refine fW hP s R (.refl _ _) h λd g1 cx H1 v1 e1 R1 r1 h=>?_;obtain⟨d',g',h,t,ht,q⟩:=h;rw[KZ] at h;obtain⟨jg,z,ex,rfl,rfl⟩:=h;cases ex;obtain rfl:=r1.E5;refine⟨A,z,rfl,hk,rfl,t,?_,q cx H1 e1 R1⟩;rw[<- (gr.look (ρ:=cx) (H:=H1) z).isSome];rcases ht with⟨z,_⟩|z|⟨i,z,_⟩|⟨l,z,_⟩|⟨a,l,z,_⟩<;>cases z
 rfl
theorem Uv(hg:Gl X x)(hd:(x==("__debug__":Str))=false)(hG:yM X x kvs)(ha:PE X a (LE X.K Ξ (bh P ma)))(hs:CO a):PE X (.Subscript (.Name x p) a pos) (LE X.K Ξ (bh P (.prim .oo (.cons (.lit (.tup kvs)) (.cons ma .nil))))):=by
 obtain⟨A,vs,hmg,hk,gr⟩:=hG;refine(IT (WV (kvs:=vs)) (zH (v:=.ref A) hg hmg rfl hd) ha hs).imp λcH H Q bD=>?_;obtain⟨σ,g,ρ,s,R,h⟩:=bD;refine fW hP s R (.refl _ _) h λd g1 cx H1 v1 e1 R1 r1 h=>?_;obtain⟨d',g',⟨jg,z,ex,hz,rfl⟩,q⟩:=h;cases ex;obtain rfl:=r1.E5;have lk:=gr.look (ρ:=cx) (H:=H1) z;rw[hz] at lk;obtain⟨w,hw,lk⟩:=lk.some;exact⟨A,z,w,rfl,hk,rfl,hw,q cx H1 _ e1 R1 lk⟩
theorem XI(ha:PE X a (LE X.K Ξ (bh P ma))):PE X (.FormattedValue a (-1) none pos) (LE X.K Ξ (bh P (.prim .fv (.cons ma .nil)))) :=
 (Xt ha).imp λcH H Q bD=>by
  obtain⟨σ,g,ρ,s,R,h⟩:=bD;refine fW hP s R (.refl _ _) h λd g1 cx H1 v1 e1 R1 r1 h=>?_;obtain⟨d',g',⟨rfl,h⟩,q⟩:=h;rcases h with⟨i,ex,h1,rfl⟩|⟨z,ex,h1,rfl⟩
  ·cases ex;exact .inl ⟨i,r1.j8,h1,q cx H1 _ e1 R1 (.str _)⟩
  ·cases ex;exact .inr ⟨z,r1.E5,p8 (),q cx H1 _ e1 R1 (.str _)⟩
omit hP in
inductive nv(X:Cx)(Ξ:iZ)(P:fP):List Expr->ME->List TE->Prop
 |nil:nv X Ξ P [] .nil []
 |lit {x:Str} {j:Nat} {p:Pos} {es:List Expr} {ms:ME} {ts:List TE} (hx:x.length<=2000) (r:nv X Ξ P es ms ts):nv X Ξ P (.Constant (.str x) j p::es) (.cons (.lit (.str x)) ms) (LE X.K Ξ (bh P (.lit (.str x)))::ts)
 |val {e:Expr} {m:ME} {p:Pos} {es:List Expr} {ms:ME} {ts:List TE} (he:PE X e (LE X.K Ξ (bh P m))) (r:nv X Ξ P es ms ts):nv X Ξ P (.FormattedValue e (-1) none p::es) (.cons (.prim .fv (.cons m .nil)) ms) (LE X.K Ξ (bh P (.prim .fv (.cons m .nil)))::ts)
theorem nv.Nn{es ms ts}(h:nv X Ξ P es ms ts):uH X es ts:=by
 induction h with
 |nil=>exact .nil
 |lit hx r ih=>exact .cons (S1 Kx λ_ _=>.str _) ih
 |val he r ih=>exact .cons (XI hP he) ih
theorem nv.join{cH:L2.St}{Q:Str->Hp->Prop}{es ms ts}(hf:nv X Ξ P es ms ts):∀{σ:S} {g:G} {ρ:List Addr} {H:Hp} {acc:Str},acc.length+2000*es.length<=100000->t6 X.K ρ H σ cH->Rl X.K ρ g H ->
  gG P ms σ g (λds g1=>∃x,U7 ds=some x/\∀cy H',Ext ρ H cy H'->Rl X.K cy g1 H'->Q (acc++x) H') (LX X.K ρ H Ξ)->zb ts cH H acc (λout H1=>out.length<=sizeLine/\Q out H1):=by
 have tl:∀{acc y:Str} {ρ:List Addr} {H:Hp} {cx:List Addr} {H1:Hp} {ds:List D} {g1:G},Ext ρ H cx H1->(∃x,U7 (.str y::ds)=some x/\∀cy H',Ext ρ H cy H'->Rl X.K cy g1 H'->Q (acc++x) H')->∃x,U7 ds=some x/\∀cy H',Ext cx H1 cy H'->Rl X.K cy g1 H'->Q (acc++y++x) H':=by
  intro acc y ρ H cx H1 ds g1 e1 h;obtain⟨x,hx,h⟩:=h;simp only[U7] at hx;cases hj:U7 ds with
  |none=>rw[hj] at hx;cases hx
  |some x' =>
   rw[hj] at hx;cases hx;refine⟨x',rfl,λcy H' e' R'=>?_⟩;rw[ZH];exact h cy H' (e1.trans e') R'
 induction hf with
 |nil =>
  intro σ g ρ H acc ha s R h;obtain⟨x,hx,h⟩:=h;cases hx;rw[UK] at h;exact⟨p8 (by simpa using ha),h ρ H (.refl _ _) R⟩
 |lit hx r ih =>
  rename_i y j p es ms ts;intro σ g ρ H acc ha s R h;refine⟨σ,g,ρ,s,R,?_⟩;intro cx H1 v1 e1 R1 r1;obtain rfl:=r1.E5;have hl:(acc++y).length<=acc.length+2000:=by rw[strLen_append];omega
  simp only[List.length_cons] at ha;exact⟨y,rfl,p8 (),ih () (s.ext e1) R1 (A4 hP _ _ _ _ _ _ _ (λds g1 h=>tl e1 h) (λ_ _ z=>LX.ext e1 z) h)⟩
 |val he r ih =>
  rename_i e m p es ms ts;intro σ g ρ H acc ha s R h;refine⟨σ,g,ρ,s,R,?_⟩;simp only[List.length_cons] at ha;refine b9 hP m _ _ _ _ _ _ (λd g1 h=>?_) (λ_ _ z=>z) h;obtain⟨d',g',⟨rfl,h⟩,q⟩:=h;have hy:∃y,d'=.str y/\y.length<=2000:=by
   rcases h with⟨i,ex,h1,rfl⟩|⟨z,ex,h1,rfl⟩
   ·exact⟨_,rfl,by rw[PySem.ofString_length];have:=int_text_length_le (k:=1920) ∅ h1;omega⟩
   ·exact⟨z,rfl,h1⟩
  obtain⟨y,rfl,hy⟩:=hy;refine⟨_,_,⟨rfl,h⟩,λcx H1 v1 e1 R1 r1=>?_⟩;obtain rfl:=r1.E5;have hl:(acc++y).length<=acc.length+2000:=by rw[strLen_append];omega
  exact⟨y,rfl,p8 (),ih () (s.ext e1) R1 (A4 hP _ _ _ _ _ _ _ (λds g1 h=>tl e1 h) (λ_ _ z=>LX.ext e1 z) q)⟩
theorem Uu{mD mB:Expr}{rest:List Expr}{ms:ME}{ts:List TE}(h:nv X Ξ P (mD::mB::rest) ms ts)(hl:(mD::mB::rest).length<=40):PE X (.JoinedStr (mD::mB::rest) pos) (LE X.K Ξ (bh P (.prim .mR ms))) :=
 (Ua (h.Nn hP)).imp λcH H Q bD=>by
  obtain⟨σ,g,ρ,s,R,hw⟩:=bD;refine nv.join hP h (Q:=λout H1=>Q (.str out) H1) (acc:=Str.empty) ?_ s R (A4 hP ms _ _ _ _ _ _ (λds g1 hw=>?_) (λ_ _ z=>z) hw)
  ·have:Str.empty.length=0:=rfl;omega
  ·obtain⟨d',g',⟨x,hx,rfl,rfl⟩,q⟩:=hw;refine⟨x,hx,λcy H' e' R'=>?_⟩;rw[TJ];exact q cy H' _ e' R' (.str _)
omit hP in
def pY(ex:List Str)(K:PySem.W.Frag)(n:Nat)(t:List D->G->KD->KX->Prop):Sp:=λvs H Q E=>vs.length=n/\∃ds g ρ,b8 K ρ H ds vs/\Rl K ρ g H/\t ds g (LQ K ρ H Q) (LX K ρ H (ex,E))
omit hP in
def pR(X:Cx)(P:fP)(ex:List Str)(k f:Nat)(fa:Addr)(fd:FuncData)(ps:List Str):Prop :=
 iV X.prog X.w X.K X.mg X.base (jQ X.prog X.w) k fa fd ps (pY ex X.K ps.length (P f))/\Binds X.K fd ps []/\∀ds g Q E,P f ds g Q E->ds.length=ps.length
theorem Et{k:Nat}(F:pR X P Ξ.1 k f fa fd ps){ρ:List Addr}{g:G}{xs:List D}{Q0:KD}{Q:VK}(e0:Ext iC H0 ρ H)(R:Rl X.K ρ g H)(r:b8 X.K ρ H xs vs)(h:P f xs g Q0 (LX X.K iC H0 Ξ))(k:∀d g',Q0 d g'->LQ X.K ρ H Q d g'):pY Ξ.1 X.K ps.length (P f) (vs++[]) H Q Ξ.2:=by
 rw[dC];exact⟨by rw[<- r.length];exact F.2.2 _ _ _ _ h,xs,g,ρ,r,R,hP _ _ _ _ _ _ _ k (λ_ _ z=>LX.ext e0 z) h⟩
theorem Us{es:List Expr}{e:Expr}{iE:ME}(hx:Passes (jQ X.prog X.w) X Ξ.2)(F:pR X P Ξ.1 k f fa fd ps)(hr:x6 k X.A)(hg:Gl X x)(hm:X.mg x=some (.ref fa))(hk:PySem.W.keepIn X.K (.ref fa)=true)(ha:PA X (e::es) (LA X.K Ξ (gG P iE)))(hd:(x==("__debug__":Str))=false)(fz:starEach (e::es) X.env=(false,eval e X.env)::starEach es X.env)(iT:(backTo pos (starEach es X.env)).any (·.1)=false):PE X (.Call (.Name x p) (e::es) [] pos) (LE X.K Ξ (bh P (.call f iE))) :=
 (TZ F.1 hr hg hm hk F.2.1 .nil hx ha hd fz iT).imp λcH H Q bD=>by
  obtain⟨σ,g,ρ,s,R,h⟩:=bD;exact lr hP s R (.refl _ _) h λxs g1 cx H1 vs e1 R1 r1 h=>Et hP F e1 R1 r1 h λd g' h=>h.ext e1
theorem a40(hx:Passes (jQ X.prog X.w) X Ξ.2)(F:pR X P Ξ.1 k f fa fd ps)(hr:x6 k X.A)(hg:Gl X x)(hm:X.mg x=some (.ref fa))(hk:PySem.W.keepIn X.K (.ref fa)=true)(hd:(x==("__debug__":Str))=false):PE X (.Call (.Name x p) [] [] pos) (LE X.K Ξ (bh P (.call f .nil))) :=
 (a61 F.1 hr hg hm hk F.2.1 .nil hx hd).imp λcH H Q bD=>by
  obtain⟨σ,g,ρ,s,R,h⟩:=bD;exact Et hP F (.refl _ _) R .nil h λd g' h=>h
theorem Lb{c:Str}(F:pR X P Ξ.1 k f fa fd ps)(hC:x5 X.K c C)(hc:jM X.K C){ρ:List Addr}{g1:G}{xs:List D}{Q:VK}(e0:Ext iC H0 ρ H)(R:Rl X.K ρ g1 H)(r:b8 X.K ρ H xs vs)(h:P f (.ref g1.length::xs) (g1++[.ins c []]) (λd g2=>d=.cE/\LQ X.K iC H0 Q (.ref g1.length) g2) (LX X.K iC H0 Ξ)):∀x dx,H x=none->H dx=none->dx≠x->pY Ξ.1 X.K ps.length (P f) (.ref x::(vs++[])) (upd (upd H dx (.own x)) x (.ins C dx [])) (λv H2=>v=.cE/\Q (.ref x) H2) Ξ.2:=by
 intro x dx hx He fA;have ye:upd H dx (.own x) x=none:=by rw[i6 (cu fA)];exact hx
 have R2:=R.grow (o:=.own x) He;have e2:Ext ρ H ρ (upd H dx (.own x)):=B5 He;have R3:=R2.new (o:=.ins c []) (u:=.ins C dx []) ye ⟨hC,hc,.nil,λx hx=>absurd hx (by simp)⟩;have e3:Ext ρ (upd H dx (.own x)) (ρ++[x]) (upd (upd H dx (.own x)) x (.ins C dx [])):=E2 ye;have:=Et hP F (e0.trans (e2.trans e3)) R3 (.cons (.ref (R.A5 x)) (r.ext (e2.trans e3))) h (Q:=λv H2=>v=.cE/\Q (.ref x) H2) λd g' q cy H' v e' R' r'=>by
  obtain⟨rfl,q⟩:=q;exact⟨r'.zm,q cy H' _ (e0.trans (e2.trans (e3.trans e'))) R' (.ref (e'.get (R.A5 x)))⟩
 exact this
theorem Ux{es:List Expr}{e:Expr}{iE:ME}(hx:Passes (jQ X.prog X.w) X Ξ.2)(F:pR X P Ξ.1 k f fa fd ps)(M:Mk X.K C fa)(hC:x5 X.K x C)(hc:jM X.K C)(hr:x6 (k+1) X.A)(hg:Gl X x)(hm:X.mg x=some (.ref C))(ha:PA X (e::es) (LA X.K Ξ (gG P iE)))(hd:(x==("__debug__":Str))=false)(fz:starEach (e::es) X.env=(false,eval e X.env)::starEach es X.env)(iT:(backTo pos (starEach es X.env)).any (·.1)=false):PE X (.Call (.Name x p) (e::es) [] pos) (LE X.K Ξ (bh P (.make x f iE))) :=
 (Ub M F.1 hr hg hm F.2.1 .nil hx ha hd fz iT).imp λcH H Q bD=>by
  obtain⟨σ,g,ρ,s,R,h⟩:=bD;exact lr hP s R (.refl _ _) h λxs g1 cx H1 vs e1 R1 r1 h=>Lb hP F hC hc e1 R1 r1 h
theorem a36(hx:Passes (jQ X.prog X.w) X Ξ.2)(F:pR X P Ξ.1 k f fa fd ps)(M:Mk X.K C fa)(hC:x5 X.K x C)(hc:jM X.K C)(hr:x6 (k+1) X.A)(hg:Gl X x)(hm:X.mg x=some (.ref C))(hd:(x==("__debug__":Str))=false):PE X (.Call (.Name x p) [] [] pos) (LE X.K Ξ (bh P (.make x f .nil))) :=
 (a57 M F.1 hr hg hm F.2.1 .nil hx hd).imp λcH H Q bD=>by
  obtain⟨σ,g,ρ,s,R,h⟩:=bD;exact Lb hP F hC hc (.refl _ _) R .nil h
end
inductive ow(K:PySem.W.Frag)(ρ:List Addr)(H:Hp):List D->List (V×V)->Prop
 |nil:ow K ρ H [] []
 |cons {k d:D} {x y:V} {ds:List D} {ps:List (V×V)} (h1:d8 K ρ H k x) (h2:d8 K ρ H d y) (r:ow K ρ H ds ps):ow K ρ H (k::d::ds) ((x,y)::ps)
section
variable{X:Cx}{Ξ:iZ}{P:fP}(hP:j6 P)
inductive xF(X:Cx)(Ξ:iZ)(P:fP):List (Option Expr)->List Expr->ME->List (TE×TE)->Prop
 |nil:xF X Ξ P [] [] .nil []
 |cons {k v:Expr} {ks:List (Option Expr)} {vs:List Expr} {mk mv ms:ME} {xP:List (TE×TE)} (hk:PE X k (LE X.K Ξ (bh P mk))) (hv:PE X v (LE X.K Ξ (bh P mv))) (r:xF X Ξ P ks vs ms xP) :
   xF X Ξ P (some k::ks) (v::vs) (.cons mk (.cons mv ms)) ((LE X.K Ξ (bh P mk),LE X.K Ξ (bh P mv))::xP)
theorem xF.len{ks vs ms xP}(h:xF X Ξ P ks vs ms xP):ks.all (·.isSome)=true/\ks.length=vs.length:=by
 induction h with
 |nil=>exact⟨rfl,rfl⟩
 |cons hk hv r ih=>exact⟨by simpa using ih.1,by simp[ih.2]⟩
include hP
end
theorem WZ{l:List D}(ht:TupAt K H0 a vs)(rs:b8 K iC H0 l vs):qy K iC H0 (.fix l) (Fq K a):=by
 intro ρ g H e R i;have qd:=ht.ext e;have rj:=rs.ext e;refine⟨λh=>⟨vs,qd.sq,?_⟩,λd h=>?_⟩
 ·simp only[IK.at] at h;have:=fb.mp (aS h);rw[<- rj.length];exact this
 ·simp only[IK.at] at h;obtain⟨v,hv,rv⟩:=rj.get (aS h);refine⟨⟨vs,v,qd.sq,hv⟩,λw H' y=>?_⟩;obtain⟨rfl,y⟩:=y;have:=y vs qd.sq;rw[hv] at this;cases this;exact⟨.refl _ _,R,rv⟩
theorem WY{j:Nat}(ha:iC[j]?=some a):qy K iC H0 (.lst j) (Fs K a):=by
 intro ρ g H e R i;have oi:=e.get ha;refine⟨λh=>?_,λd h=>?_⟩
 ·simp only[IK.at] at h;cases el:c8 g j with
  |none=>rw[el] at h;cases h
  |some l =>
   rw[el] at h;obtain⟨vs,hq,rs⟩:=R.items el oi;refine⟨vs,hq,?_⟩;have:=fb.mp (aS h);rw[<- rs.length];exact this
 ·simp only[IK.at] at h;cases el:c8 g j with
  |none=>rw[el] at h;cases h
  |some l =>
   rw[el] at h;obtain⟨vs,hq,rs⟩:=R.items el oi;obtain⟨v,hv,rv⟩:=rs.get (aS h);refine⟨⟨vs,v,hq,hv⟩,λw H' y=>?_⟩;obtain⟨rfl,y⟩:=y;have:=y vs hq;rw[hv] at this;cases this;exact⟨.refl _ _,R,rv⟩
theorem IL{lo:Int}{n:Nat}:qy K iC H0 (.fix (j7 lo n)) (xB lo n):=by
 unfold j7;intro ρ g H e R i;refine⟨λh=>?_,λd h=>?_⟩
 ·simp only[IK.at] at h;have:=fb.mp (aS h);show n<=i;simpa using this
 ·simp only[IK.at] at h;have h:=aS h;have hi:i<n:=by
   have:=(ax.mp h).1;simpa using this
  rw[ak,bT hi] at h;cases h;refine⟨hi,λw H' y=>?_⟩;obtain⟨rfl,rfl⟩:=y;exact⟨.refl _ _,R,.int _⟩
theorem WX{j:Nat}(ha:iC[j]?=some a):qy K iC H0 (.pK j) (Ft K a):=by
 intro ρ g H e R i;have oi:=e.get ha;refine⟨λh=>?_,λd h=>?_⟩
 ·simp only[IK.at] at h;cases el:c8 g j with
  |none=>rw[el] at h;cases h
  |some l =>
   rw[el] at h;obtain⟨vs,hq,rs⟩:=R.items el oi;refine⟨vs,hq,?_⟩;have h:=aS h;rw[Option.map_eq_none_iff] at h;have:=fb.mp h;rw[<- rs.length];exact this
 ·simp only[IK.at] at h;cases el:c8 g j with
  |none=>rw[el] at h;cases h
  |some l =>
   rw[el] at h;obtain⟨vs,hq,rs⟩:=R.items el oi;have h:=aS h;rw[ae] at h;obtain⟨d',hd,rfl⟩:=h;obtain⟨v,hv,rv⟩:=rs.get hd;refine⟨⟨vs,v,hq,hv⟩,λw H' y=>?_⟩;obtain⟨p,x,hp,rfl,y,rfl⟩:=y;have:=y vs hq;rw[hv] at this;cases this;exact⟨B5 hp,R.grow hp,.tup (.inl u5) (.cons (.int _) (.cons (rv.ext (B5 hp)) .nil))⟩
end M
namespace L2
open PySem PySem.Spec PyProof.Rows
theorem RE{X:Cx}{tg l:Expr}{tl:TE}(hl:PE X l tl):PI X tg l (λσ H R=>tl σ H λx H1=>(∃a,x=.ref a/\(∃xs,gi X.K H1 a xs)/\R (Fs X.K a) H1)\/(∃a,x=.ref a/\(∃xs,iU X.K H1 a xs)/\R (Fq X.K a) H1)):=by
 intro pins s σ H R I h;refine cX (hl pins s σ H _ I h) λv s1 bD=>?_;obtain⟨x,H1,I1,r1,q1⟩:=bD;rcases q1 with⟨a,e,⟨xs,hq⟩,q⟩|⟨a,e,⟨xs,hq⟩,q⟩
 ·subst e;cases r1;obtain⟨aX,rv,p,hz⟩:=I1.list hq;refine fX p.isList ?_;refine⟨s1.heap.objs.size,[s1.heap.objs.size],_,_,H1,rfl,I1.kept (t':=s1.toks) λb o e=>aj _ e,ZN a _,⟨_,aG _ rfl,rfl,rfl⟩,λb hb=>?_,q⟩;have e:b=s1.heap.objs.size:=by simpa using hb
  subst e;exact I1.sS (av _) (I1.cq.fresh (av _))
 ·subst e;cases r1;obtain⟨aX,rv,p,hz⟩:=I1.tuple hq;refine wpAny_pyIter_tuple (show s1.heap.IsTuple a aX.toArray from p) ?_;refine⟨s1.heap.objs.size,[s1.heap.objs.size],_,_,H1,rfl,I1.kept (t':=s1.toks) λb o e=>aj _ e,aM5 a _,⟨_,aG _ rfl,rfl,rfl⟩,λb hb=>?_,q⟩;have e:b=s1.heap.objs.size:=by simpa using hb
  subst e;exact I1.sS (av _) (I1.cq.fresh (av _))
end L2
namespace M
open PySem L2 PySem.Spec PyProof.Rows
variable{X:Cx}{Ξ:iZ}{P:fP}{a b o e d:Expr}{c:i7}{ma mi m:ME}{pos tp p2 px:Pos}{p:Pr}{i k n:Nat}{x f qual:Str}{es args:List Expr}{t:MT}{H:Hp}{scope:Scope}{env:Env}{r:CF}{cd:Value}{N:List Str}{A:Around}{outer:List Env}{s:Shared}{E:XK}
section
variable(hP:j6 P){tg:Expr}{mb:ME}{p:Pos}
include hP
theorem Sk(ha:PE X a (LE X.K Ξ (bh P ma))):PI X tg a (LI X.K Ξ (iN P (.fi ma))) :=
 (RE ha).imp λcH H R bD=>by
  obtain⟨σ,g,ρ,s,Rr,h⟩:=bD;refine fW hP s Rr (.refl _ _) h λx g1 cx H1 v1 e1 R1 r1 h=>?_;rcases h with⟨l,rfl,h⟩|⟨i,l,rfl,hl,h⟩
  ·obtain⟨a',vs,rfl,ht,rs⟩:=r1.L9;exact .inr ⟨_,rfl,⟨_,ht.sq⟩,h cx H1 _ e1 R1 (WZ ht rs)⟩
  ·obtain⟨a',rfl,oi⟩:=r1.j9;obtain⟨vs,hq,rs⟩:=R1.items hl oi;exact .inl ⟨_,rfl,⟨_,hq⟩,h cx H1 _ e1 R1 (WY oi)⟩
theorem UD{elts:List Expr}{x1:Nat}(ha:PE X a (LE X.K Ξ (bh P ma)))(hg:Gl X "enumerate")(hm:X.mg "enumerate"=none)(hs:starEach [a] X.env=[(false,eval a X.env)]):PI X (.Tuple elts x1 tp) (.Call (.Name "enumerate" p) [a] [] pos) (LI X.K Ξ (iN P (.lP ma))) :=
 (Ud hg hm (E9 hP ha (O9 hP) (by rw[hs];rfl)) hs).imp λcH H R bD=>by
  obtain⟨σ,g,ρ,s,Rr,h⟩:=bD;refine lr hP (m:=.cons ma .nil) s Rr (.refl _ _) (Q0:=λxs g1=>∃a l,xs=[.ref a]/\c8 g1 a=some l/\∀cy H' J,Ext ρ H cy H'->Rl X.K cy g1 H'->qy X.K cy H' (.pK a) J->R J H') ?_ λxs g1 cx H1 vs e1 R1 r1 h=>?_
  ·skip
   exact b9 hP ma _ _ _ _ _ _ (λx g1 ⟨i,l,e,hl,h⟩=>⟨i,l,by rw[e],hl,h⟩) (λ_ _ z=>z) h
  ·obtain⟨j,l,rfl,hl,h⟩:=h;obtain⟨v,rfl,rv⟩:=r1.one;obtain⟨a',rfl,ra⟩:=rv.j9;obtain⟨vs,hq,rs⟩:=R1.items hl ra;exact⟨_,rfl,⟨_,hq⟩,h cx H1 _ e1 R1 (WX ra)⟩
theorem UE(ha:PE X a (LE X.K Ξ (bh P ma)))(hg:Gl X "range")(hm:X.mg "range"=none)(hs:starEach [a] X.env=[(false,eval a X.env)]):PI X tg (.Call (.Name "range" p) [a] [] pos) (LI X.K Ξ (iN P (.fh ma))) :=
 (Zv hg hm (E9 hP ha (O9 hP) (by rw[hs];rfl)) hs).imp λcH H R bD=>by
  obtain⟨σ,g,ρ,s,Rr,h⟩:=bD;refine lr hP (m:=.cons ma .nil) s Rr (.refl _ _) (Q0:=λxs g1=>∃j:Int,xs=[.int j]/\-(2 ^ 62)<=j/\j<2 ^ 62/\∀cy H' J,Ext ρ H cy H'->Rl X.K cy g1 H'->qy X.K cy H' (.fix (j7 0 j.toNat)) J->R J H') ?_ λxs g1 cx H1 vs e1 R1 r1 h=>?_
  ·skip
   exact b9 hP ma _ _ _ _ _ _ (λx g1 ⟨j,e,h1,h2,h⟩=>⟨j,by rw[e],h1,h2,h⟩) (λ_ _ z=>z) h
  ·obtain⟨j,rfl,h1,h2,h⟩:=h;obtain⟨v,rfl,rv⟩:=r1.one;obtain rfl:=rv.j8;exact⟨_,rfl,h1,h2,h cx H1 _ e1 R1 IL⟩
theorem UG(ha:PE X a (LE X.K Ξ (bh P ma)))(hb:PE X b (LE X.K Ξ (bh P mb)))(hg:Gl X "range")(hm:X.mg "range"=none)(hs:starEach [a,b] X.env=[(false,eval a X.env),(false,eval b X.env)])(gI:starEach [b] X.env=[(false,eval b X.env)]) :
  PI X tg (.Call (.Name "range" p) [a,b] [] pos) (LI X.K Ξ (iN P (.kX ma mb))) :=
 (Zw hg hm (E9 hP ha (E9 hP hb (O9 hP) (by rw[gI];rfl)) (by rw[hs,gI])) hs gI).imp λcH H R bD=>by
  obtain⟨σ,g,ρ,s,Rr,h⟩:=bD;refine lr hP (m:=.cons ma (.cons mb .nil)) s Rr (.refl _ _) (Q0:=λxs g1=>∃i j:Int,xs=[.int i,.int j]/\(-(2 ^ 62)<=i/\i<2 ^ 62/\-(2 ^ 62)<=j/\j<2 ^ 62)/\∀cy H' J,Ext ρ H cy H'->Rl X.K cy g1 H'->qy X.K cy H' (.fix (j7 i (j-i).toNat)) J->R J H') ?_ λxs g1 cx H1 vs e1 R1 r1 h=>?_
  ·skip
   exact b9 hP ma _ _ _ _ _ _ (λx g1 h=>b9 hP mb _ _ _ _ _ _ (λy g2 ⟨i,j,e,e',h1,h⟩=>⟨i,j,by rw[e,e'],h1,h⟩) (λ_ _ z=>z) h) (λ_ _ z=>z) h
  ·obtain⟨i,j,rfl,h1,h⟩:=h;obtain⟨v,w,rfl,rv,gK⟩:=r1.two;obtain rfl:=rv.j8;obtain rfl:=gK.j8;exact⟨_,_,rfl,h1,h cx H1 _ e1 R1 IL⟩
end
theorem Sj(hN:X.N.Nodup)(hi:X.N[i]?=some x)(hx:Loc X.env.scope x)(hf:X.fn x=true\/X.env.scope.names.lookup x=some .local):PG X (.Name x pos) (LG X.K (.one i)) :=
 (Li hN hi hx hf).imp λv cH H Q hq=>by
  obtain⟨d,σ,g,ρ,s,R,r,h⟩:=hq;exact h _ (s.set i r)
inductive gk(X:Cx):List Expr->List Nat->Prop
 |nil:gk X [] []
 |cons {x:Str} {p:Pos} {i:Nat} {es:List Expr} {is:List Nat} (hi:X.N[i]?=some x) (hx:Loc X.env.scope x) (hf:X.fn x=true\/X.env.scope.names.lookup x=some .local) (r:gk X es is):gk X (.Name x p::es) (i::is)
def EK:List Nat->qJ
 |[]=>Ia
 |i::is=>IH (uB i) (EK is)
theorem Zu(hN:X.N.Nodup){is:List Nat}(h:gk X es is):xy X es (EK is):=by
 induction h with
 |nil=>exact Uc
 |cons hi hx hf r ih=>exact a55 (Li hN hi hx hf) ih rfl
theorem DO:∀{es:List Expr} {is:List Nat},gk X es is->(assignEach es X.env).length=is.length/\(assignEach es X.env).findIdx? (·.1)=none
 |_,_,.nil=>⟨rfl,rfl⟩
 |_,_,.cons (x:=x) (p:=p) (es:=es) hi hx hf r=>by
  obtain⟨h1,h2⟩:=DO r;have e:assignEach (.Name x p::es) X.env=(false,assign (.Name x p) X.env)::assignEach es X.env:=rfl;rw[e];refine⟨by simp[h1],?_⟩;rw[List.findIdx?_cons,h2]
  rfl
theorem Jt{K:PySem.W.Frag}{ρ:List Addr}{H:Hp}{k:S->Prop}{Q:L2.St->Hp->Prop}:∀{is:List Nat} {l:List D} {vs:List V} {σ cM:S} {cH:L2.St},E6 is l σ=some cM->b8 K ρ H l vs->t6 K ρ H σ cH->(∀dU,t6 K ρ H cM dU->Q dU H)->EK is vs cH H Q
 |[],_,_,_,_,_,h,.nil,s,q=>by
  simp only[E6] at h;cases h;exact⟨rfl,q _ s⟩
 |[],_,_,_,_,_,h,.cons _ _,s,q=>by simp only[E6] at h;cases h
 |i::is,_,_,_,_,_,h,.nil,s,q=>by simp only[E6] at h;cases h
 |i::is,_,_,_,_,_,h,.cons r rr,s,q=>by
  simp only[E6] at h;exact⟨_,_,rfl,Jt (k:=k) h rr (s.set i r) q⟩
theorem Z8:∀{is:List Nat} {l:List D} {σ cM:S},E6 is l σ=some cM->l.length=is.length
 |[],[],_,_,_=>rfl
 |[],_::_,_,_,h=>by simp only[E6] at h;cases h
 |_::_,[],_,_,h=>by simp only[E6] at h;cases h
 |_::is,_::l,_,_,h=>by simp only[E6] at h;simp[Z8 h]
theorem Lr{is:List Nat}(hc:X.calm=true)(hN:X.N.Nodup)(hs:gk X es is):PG X (.Tuple es k pos) (LG X.K (.many is)) :=
 (RD hc (Zu hN hs) (DO hs).1 (DO hs).2).imp λv cH H Q bD=>by
  obtain⟨d,σ,g,ρ,s,R,r,h⟩:=bD;obtain⟨l,cM,rfl,e,h⟩:=h;obtain⟨a',vs,rfl,ht,rs⟩:=r.L9;exact⟨_,_,rfl,ht.sq,by rw[<- rs.length];exact Z8 e,Jt (k:=λ_=>True) e rs s h⟩
theorem LN.ext{K ρ H N cx H1}(e:Ext ρ H cx H1):(LN K ρ H N).le (LN K cx H1 N) :=
 ⟨λσ g h cy H' dU e' R s=>h cy H' dU (e.trans e') R s,λd g h=>h.ext e,λσ g h cy H' dU e' R s=>h cy H' dU (e.trans e') R s,λσ g h cy H' dU e' R s=>h cy H' dU (e.trans e') R s⟩
section
variable(hP:j6 P){c tg:Expr}{mb mc:ME}{st:Stmt}{rest:List Stmt}{AO nP:MS}{p:Pos}
include hP
theorem So:lh X [] (LS X.K Ξ (wpS P .pass)) :=
 (Ui (X:=X)).imp λN cH H ⟨σ,g,ρ,s,R,h⟩=>h ρ H cH (.refl _ _) R s
theorem UJ(h1:PS X st (LS X.K Ξ (wpS P AO)))(h2:lh X rest (LS X.K Ξ (wpS P nP))):lh X (st::rest) (LS X.K Ξ (wpS P (.seq AO nP))) :=
 (a51 h1 h2).imp λN cH H ⟨σ,g,ρ,s,R,h⟩ =>
  uZ hP s R (.refl _ _) (show wpS P AO { LN X.K ρ H N with nx:=λkr g1=>wpS P nP (LN X.K ρ H N) kr g1 (LX X.K ρ H Ξ) } σ g (LX X.K ρ H Ξ) from h) ⟨λkr g1 h cx H1 MP e1 R1 s1=>uZ hP s1 R1 e1 h (LN.ext e1),λ_ _ z=>z,λ_ _ z=>z,λ_ _ z=>z⟩
theorem UM(ha:PE X a (LE X.K Ξ (bh P ma)))(hs:swapsWith a none pos.line X.env=pure false):PS X (.Expr a pos) (LS X.K Ξ (wpS P (.expr ma))) :=
 (Ue ha hs).imp λN cH H ⟨σ,g,ρ,s,R,h⟩=>fW hP s R (.refl _ _) h λx g1 cx H1 v1 e1 R1 r1 h=>h cx H1 cH e1 R1 (s.ext e1)
theorem KN(h0:PS X (.Assign [.Name x p] a pos) (xt (LE X.K Ξ (bh P ma)) (uB i))):PS X (.Assign [.Name x p] a pos) (LS X.K Ξ (wpS P (.set i ma))) :=
 h0.imp λN cH H ⟨σ,g,ρ,s,R,h⟩=>fW hP s R (.refl _ _) h λx g1 cx H1 v1 e1 R1 r1 h=>h cx H1 _ e1 R1 ((s.ext e1).set i r1)
theorem SE(h0:PS X (.Assign [tg] a pos) (xt (LE X.K Ξ (bh P ma)) (LG X.K t))):PS X (.Assign [tg] a pos) (LS X.K Ξ (wpS P (.mE t ma))) :=
 h0.imp λN cH H ⟨σ,g,ρ,s,R,h⟩=>fW hP s R (.refl _ _) h λx g1 cx H1 v1 e1 R1 r1 h=>⟨x,σ,g1,cx,s.ext e1,R1,r1,A8 (λcM h dU s'=>h cx H1 dU e1 R1 s') h⟩
theorem a26(hu:X.A.units+100<cLine){i:Expr}{mo:ME}(ha:PE X a (LE X.K Ξ (bh P ma)))(ho:PE X o (LE X.K Ξ (bh P mo)))(hi:PE X i (LE X.K Ξ (bh P mi)))(hs:swapsWithSole [.Subscript o i tp] a pos.line X.env=pure false)(oi:∀ v,assign (.Subscript o i tp) X.env v=(do
   let ov <- holding [v] (eval o X.env)
   let iv <- holding [v,ov] (eval i X.env)
   standAt tp
   holding [v,ov,iv] (setItem ov iv v)
   release [v,ov,iv] [])):PS X (.Assign [.Subscript o i tp] a pos) (LS X.K Ξ (wpS P (.fg mo mi ma))) :=
 (KA ha (RC ho hi (Si hu) oi) hs).imp λN cH H ⟨σ,g,ρ,s,R,h⟩ =>
  fW hP s R (.refl _ _) h λx g1 cx H1 v1 e1 R1 r1 h=>fW hP (s.ext e1) R1 e1 h λy g2 gb H2 v2 e2 R2 r2 h=>fW hP (s.ext (e1.trans e2)) R2 (e1.trans e2) h λz g3 lK H3 v3 e3 R3 r3 h =>
   ⟨y,z,x,g3,lK,R3,r2.ext e3,r3,r1.ext (e2.trans e3),U2 (λg4 h qU H4 e4 R4=>h qU H4 cH (e1.trans (e2.trans (e3.trans e4))) R4 (s.ext (e1.trans (e2.trans (e3.trans e4))))) h⟩
omit hP in
def ED(K:PySem.W.Frag)(f:Str)(cs:List Str):Prop:=∀c C,c∈cs->x5 K c C->C1 K C f
omit hP in
theorem UC{cs:List Str}(hF:ED X.K f cs){ρ:List Addr}{g g':G}{x v:D}{xv vv:V}(R:Rl X.K ρ g H)(rx:d8 X.K ρ H x xv)(rv:d8 X.K ρ H v vv)(h:IY f cs x v g g') :
  ∃a C dx fs,xv=.ref a/\H a=some (.ins C dx fs)/\jM X.K C/\C1 X.K C f/\fs.length<1000/\Rl X.K ρ g' (upd H a (.ins C dx (A9 f vv fs)))/\Ext ρ H ρ (upd H a (.ins C dx (A9 f vv fs))):=by
 obtain⟨i,c,fs,rfl,hi,hc,hz,rfl⟩:=h;obtain⟨a',rfl,ra⟩:=rx.j9;obtain⟨C,dx,vs,hH,hC,kf,rk,na⟩:=R.ins hi ra;obtain⟨R',e'⟩:=R.put (o':=.ins c (n5 f v fs)) (u:=.ins C dx (A9 f vv vs)) hi rfl ra ⟨hC,kf,rk.A9 rv,JV (p:=λy=>C1 X.K C y) (hF c C hc hC) na⟩;exact⟨a',C,dx,vs,rfl,hH,kf,hF c C hc hC,by rw[<- rk.length];omega,R',e'⟩
theorem UN{cs:List Str}{mo:ME}(hF:ED X.K f cs)(ho:PE X o (LE X.K Ξ (bh P mo)))(ha:PE X a (LE X.K Ξ (bh P ma)))(hs:swapsWith a (some (.Attribute o f tp)) pos.line X.env=pure false):PS X (.Assign [.Attribute o f tp] a pos) (LS X.K Ξ (wpS P (.iO f cs mo ma))) :=
 (RH ho ha hs).imp λN cH H ⟨σ,g,ρ,s,R,h⟩=>fW hP s R (.refl _ _) h λx g1 cx H1 v1 e1 R1 r1 h=>fW hP (s.ext e1) R1 e1 h λy g2 gb H2 v2 e2 R2 r2 h=>by
  obtain⟨g3,h,q⟩:=h;obtain⟨a',C,dx,fs,hx,hH,kf,na,hz,R3,e3⟩:=UC hF R2 r2 (r1.ext e2) h;exact⟨a',C,dx,fs,hx,hH,kf,na,hz,q gb _ cH (e1.trans (e2.trans e3)) R3 (s.ext (e1.trans (e2.trans e3)))⟩
theorem XQ{sa sb:List Stmt}{Gu msb:MS}(hc:PT X c (LT X.K Ξ (dD P mc)))(ha:lh X sa (LS X.K Ξ (wpS P Gu)))(hb:lh X sb (LS X.K Ξ (wpS P msb))):PS X (.If c sa sb pos) (LS X.K Ξ (wpS P (.ifs mc Gu msb))) :=
 (Xy hc ha hb).imp λN cH H ⟨σ,g,ρ,s,R,h⟩=>qY hP s R (.refl _ _) h λt g1 cx H1 e1 R1 h=>by
  cases t
  ·exact uZ hP (s.ext e1) R1 e1 h (LN.ext e1)
  ·exact uZ hP (s.ext e1) R1 e1 h (LN.ext e1)
theorem SD(ha:PE X a (LE X.K Ξ (bh P ma))):PS X (.Return (some a) pos) (LS X.K Ξ (wpS P (.ret ma))) :=
 (RK ha).imp λN cH H ⟨σ,g,ρ,s,R,h⟩=>⟨σ,g,ρ,s,R,h⟩
theorem Sy{iter:Expr}{body:List Stmt}{mb:MS}(hp:PassesOwn (model X.prog X.w) X.A X.env X.xe)(hc:X.calm=true)(hi:PI X tg iter (LI X.K Ξ (iN P mi)))(hg:PG X tg (LG X.K t))(hb:lh X body (LS X.K Ξ (wpS P mb)))(hs:∀x,foldedSetIterable iter X.env x=pure x):PS X (.For tg iter body [] pos) (LS X.K Ξ (wpS P (.dX t mi mb))) :=
 (RI hp hc hi hg hb hs).imp λN cH H bD=>by
  obtain⟨σ,g,ρ,s,R,h⟩:=bD;refine⟨σ,g,ρ,s,R,C2 hP mi _ _ _ _ _ _ (λk g1 h cx H1 J e1 R1 j1=>?_) (λ_ _ z=>z) h⟩;obtain⟨W,⟨m0,w0⟩,h⟩:=h;refine⟨λi m dU H'=>∃cM g' cy,Ext cx H1 cy H'/\t6 X.K cy H' cM dU/\Rl X.K cy g' H'/\W i m cM g',⟨m0,σ,g1,cx,.refl _ _,s.ext e1,R1,w0⟩,?_⟩;rintro i m dU H' ⟨cM,g',cy,e',s',R',w'⟩;obtain⟨vG,vF⟩:=j1 cy g' H' e' R' i;rcases h i m cM g' w' with⟨ek,q⟩|⟨x,ek,N2,ua,q⟩
  ·exact .inl ⟨vG ek,q cy H' dU (e1.trans e') R' s'⟩
  ·obtain⟨go,yl⟩:=vF x ek;refine .inr ⟨go,λnF H2=>∃cT g2 gb,Ext cx H1 gb H2/\t6 X.K gb H2 cT nF/\Rl X.K gb g2 H2/\N2 cT g2,?_,?_⟩
   ·rintro nF H2 ⟨cT,g2,gb,e2,s2,R2,n2⟩;obtain⟨m',hm,w2⟩:=ua cT g2 n2;exact⟨m',hm,cT,g2,gb,e2,s2,R2,w2⟩
   ·intro v H2 y;obtain⟨e2,R2,r2⟩:=yl v H2 y;refine⟨x,cM,g',cy,s'.ext e2,R2,r2,A8 (λcT q nF s2=>?_) q⟩;refine uZ hP s2 R2 (e1.trans (e'.trans e2)) q ⟨?_,?_,?_,?_⟩
    ·exact λlV g3 n3 lK H3 qT e3 R3 s3=>⟨lV,g3,lK,(e'.trans e2).trans e3,s3,R3,n3⟩
    ·exact λd g3 h=>h.ext (e1.trans (e'.trans e2))
    ·exact λlV g3 h lK H3 qT e3 R3 s3=>h lK H3 qT (e1.trans ((e'.trans e2).trans e3)) R3 s3
    ·exact λlV g3 n3 lK H3 qT e3 R3 s3=>⟨lV,g3,lK,(e'.trans e2).trans e3,s3,R3,n3⟩
theorem LD{d5:List Nat}{jD me:ME}:∀cH H Q,LE X.K Ξ (bh P (.comp d5 n t mi jD me)) cH H Q->Eu (LI X.K Ξ (iN P mi)) d5 n (LG X.K t) (LT X.K (sZ Ξ.1) (dD P jD)) (LE X.K (sZ Ξ.1) (bh P me)) cH H Q:=λcH H Q bD=>by
 obtain⟨σ,g,ρ,s,R,h⟩:=bD;refine⟨σ,g,ρ,s,R,C2 hP mi _ _ _ _ _ _ (λk g1 h cx H1 J e1 R1 j1=>?_) (λ_ _ z=>z) h⟩;obtain⟨W,⟨m0,w0⟩,h⟩:=h;refine⟨λi m FK dU H'=>∃ys cM g' cy,Ext cx H1 cy H'/\t6 X.K cy H' cM dU/\Rl X.K cy g' H'/\b8 X.K cy H' ys FK/\W i m ys cM g',⟨m0,[],_,g1,cx,.refl _ _,(s.ext e1).d5 d5 n,R1,.nil,w0⟩,?_⟩;rintro i m FK dU H' ⟨ys,cM,g',cy,e',s',R',ry,w'⟩;obtain⟨vG,vF⟩:=j1 cy g' H' e' R' i;rcases h i m ys cM g' w' with⟨ek,q⟩|⟨x,ek,hz,q⟩
 ·exact .inl ⟨vG ek,λp hp=>(q.ext (e1.trans e')).new R' hp ry⟩
 ·obtain⟨go,yl⟩:=vF x ek;refine .inr ⟨go,by rw[<- ry.length];exact Dd hz,λv H2 y=>?_⟩;obtain⟨e2,R2,r2⟩:=yl v H2 y;refine⟨x,cM,g',cy,s'.ext e2,R2,r2,A8 (λcT q nF s2=>?_) q⟩;refine⟨cT,g',cy,s2,R2,t8 hP jD _ _ _ _ _ _ (λb g3 q lK H3 e3 R3=>?_) (λ_ _ z=>z.elim) q⟩;cases b
  ·obtain⟨m',hm,w3⟩:=q;exact⟨m',hm,ys,cT,g3,lK,(e'.trans e2).trans e3,s2.ext e3,R3,(ry.ext e2).ext e3,by simpa using w3⟩
  ·refine⟨cT,g3,lK,s2.ext e3,R3,b9 hP me _ _ _ _ _ _ (λz g4 q qU H4 v4 e4 R4 r4=>?_) (λ_ _ z=>z.elim) q⟩;obtain⟨m',hm,w4⟩:=q;exact⟨m',hm,ys++[z],cT,g4,qU,(e'.trans e2).trans (e3.trans e4),(s2.ext e3).ext e4,R4,(((ry.ext e2).ext e3).ext e4).append (.cons r4 .nil),by simpa using w4⟩
theorem a34{elt iter:Expr}{ifs:List Expr}{N':List Str}{d5:List Nat}{cl:List (Str×Addr)}{ky:Pos}{jD me:ME}(S:dR X scope N' d5 cl)(hc:X.calm=true)(hi:PI X tg iter (LI X.K Ξ (iN P mi)))(hg:∀pins C s H fp,PG (d6 X pins scope N' cl C s H fp) tg (LG X.K t))(ht:∀pins C s H fp,mq (d6 X pins scope N' cl C s H fp) ifs (LT X.K (sZ Ξ.1) (dD P jD)))(he:∀pins C s H fp,PE (d6 X pins scope N' cl C s H fp) elt (LE X.K (sZ Ξ.1) (bh P me)))(hs:∀x,foldedSetIterable iter X.env x=pure x)(nY:Gl X "sorted")(pB:X.mg "sorted"=none):PE X (.Call (.Name "sorted" p2) [.SetComp elt [⟨tg,iter,ifs,0⟩] scope pos] [] ky) (LE X.K Ξ (bh P (.iy d5 N'.length t mi jD me))) :=
 (zQ (U9 hc) nY pB (by first|exact iu|decide +kernel) (R5 (a56 S hc hi hg ht he hs) X9)).imp λcH H Q bD=>by
  obtain⟨σ,g,ρ,s,R,h⟩:=bD;refine⟨σ,g,ρ,s,R,C2 hP mi _ _ _ _ _ _ (λk g1 h cx H1 J e1 R1 j1=>?_) (λ_ _ z=>z) h⟩;obtain⟨W,⟨m0,w0⟩,h⟩:=h;refine⟨λi m ys dU H'=>∃cM g' cy,Ext cx H1 cy H'/\t6 X.K cy H' cM dU/\Rl X.K cy g' H'/\W i m ys cM g',⟨m0,_,g1,cx,.refl _ _,(s.ext e1).d5 d5 _,R1,w0⟩,?_⟩;rintro i m ys dU H' ⟨cM,g',cy,e',s',R',w'⟩;obtain⟨vG,vF⟩:=j1 cy g' H' e' R' i;rcases h i m ys cM g' w' with⟨ek,hz,q⟩|⟨x,ek,hz,q⟩
  ·exact .inl ⟨vG ek,λp hp=>⟨p,ys,rfl,u5,by omega,λp' gn=>(q.ext ((e1.trans e').trans (B5 hp))).new (R'.grow hp) gn (b8.ofInts _)⟩⟩
  ·obtain⟨go,yl⟩:=vF x ek;refine .inr ⟨go,hz,λv H2 y=>?_⟩;obtain⟨e2,R2,r2⟩:=yl v H2 y;refine⟨x,cM,g',cy,s'.ext e2,R2,r2,A8 (λcT q nF s2=>?_) q⟩;refine⟨cT,g',cy,s2,R2,t8 hP jD _ _ _ _ _ _ (λb g3 q lK H3 e3 R3=>?_) (λ_ _ z=>z.elim) q⟩;cases b
   ·obtain⟨m',hm,w3⟩:=q;exact⟨m',hm,cT,g3,lK,(e'.trans e2).trans e3,s2.ext e3,R3,by simpa using w3⟩
   ·refine⟨cT,g3,lK,s2.ext e3,R3,b9 hP me _ _ _ _ _ _ (λz g4 q qU H4 v4 e4 R4 r4=>?_) (λ_ _ z=>z.elim) q⟩;obtain⟨j,rfl,m',hm,w4⟩:=q;obtain rfl:=r4.j8;exact⟨j,rfl,m',hm,cT,g4,qU,(e'.trans e2).trans (e3.trans e4),(s2.ext e3).ext e4,R4,by simpa using w4⟩
end
section
variable(hP:j6 P)
include hP
theorem a27{C:Addr}{B newId gY:String}{bm:List Value}{np gD:Pos}{kF:Expr}{rest:List Expr}{iE:ME}(hc:X.calm=true)(O:OwnCls x C bm newId X.mg X.base)(FB:ExcBaseFacts B newId gY bm)(hg:Gl X x)(ha:PA X (kF::rest) (LA X.K Ξ (gG P iE)))(hr:zr X Ξ.2)(hx:x∈Ξ.1)(hC:x5 X.K x C)(he:starEach (kF::rest) X.env=(false,eval kF X.env)::starEach rest X.env)(gZ:(backTo gD (starEach rest X.env)).any (·.1)=false)(hd:(x==("__debug__":Str))=false):PS X (.Raise (some (.Call (.Name x np) (kF::rest) [] gD)) none pos) (LS X.K Ξ (wpS P (.raise x iE))) :=
 (a52 hc O FB hg ha hr he gZ hd).imp λN cH H bD=>by
  obtain⟨σ,g,ρ,s,R,h⟩:=bD;refine lr hP s R (.refl _ _) h λds g1 cx H1 vs e1 R1 r1 h=>?_;exact⟨by rw[<- r1.length];exact p8 (aF h.1 ∅),h.2 cx H1 C e1 R1 hx hC⟩
end
structure i7 where
 N:List Str
 nm:List (Str×NameKind)
 qu:Bool
 fns:List (Str×Nat)
 con:List (Str×D)
 blt:List Str
 exc:List Str
 gd:List (Str×List D)
 cls:List (Str×Nat)
 rG:List (Str×Str×Nat)
 pF:List (Str×Str)
 mH:Bool
 oX:Bool
def gH:Expr->Bool
 |.Set ..=>false
 |.Starred ..=>false
 |.Slice ..=>false
 |_=>true
def A1:Expr->Bool
 |.ListComp ..=>false
 |.SetComp ..=>false
 |.DictComp ..=>false
 |_=>true
def uF:Expr->Bool
 |.Tuple ..=>false
 |_=>true
def DM:Expr->Bool
 |.Name ..=>true
 |.Call ..=>true
 |.Subscript ..=>true
 |.Constant ..=>true
 |.Attribute ..=>true
 |.BinOp ..=>true
 |_=>false
def zo:Expr->Bool
 |.Call (.Name ..) ..=>false
 |_=>true
def i7.idx(c:i7)(x:Str):Option Nat:=c.N.findIdx? λy=>decide (y=x)
def i7.Ax(c:i7)(x:Str):Bool:=match c.nm.lookup x with
 |some .local=>true
 |some .cell=>true
 |some .free=>true
 |_=>false
def i7.gl(c:i7)(x:Str):Bool:=decide (c.nm.lookup x=some .globalImplicit)
def i7.C9(c:i7)(x:Str):Bool:=decide (c.nm.lookup x=some .local)||decide (c.nm.lookup x=some .cell)
def qH(x:Str):Bool:=(x==("__debug__":Str))==false&&(x==("__classdict__":Str))==false&&decide (x≠"__name__")
def Ey:List (Str×String):=[("int","int"),("bool","bool"),("str","str"),("tuple","tuple"),("list","list")]
def EH:List (Str×Pr):=[("len",.len),("list",.list),("tuple",.tuple),("isinstance",.isin),("all",.all),("max",.max),("min",.min),("int",.int),("dict",.lg),("sorted",.jZ),("sum",.sum),("set",.nS)]
def zF:List (Str×Pr):=[]
def ER:List (Str×Pr):=[("append",.append),("pop",.pop),("get",.get)]
def zu:Expr->Option (Str×List Expr)
 |.Call (.Name x _) args [] _=>some (x,args)
 |_=>none
def Iz:Expr->Bool
 |.Tuple ..=>true
 |_=>false
def asName:Expr->Option Str
 |.Name x _=>some x
 |_=>none
def frees(sc:Scope):List Str:=(sc.names.filter λy=>decide (y.2=.free)).map (·.1)
def locals(sc:Scope):List Str:=(sc.names.filter λy=>decide (y.2=.local)||decide (y.2=.cell)).map (·.1)
def i7.inner(c:i7)(sc:Scope):i7:={ c with N:=frees sc++locals sc,nm:=sc.names,qu:=false,mH:=false,oX:=false }
def i7.d5(c:i7)(sc:Scope):List Nat:=(frees sc).map λx=>(c.idx x).getD 0
def i7.Di(c:i7)(sc:Scope):Bool :=
 decide (sc.kind=.function)&&sc.names.all (λy=>!decide (y.2=.cell)||decide (sc.names.lookup y.1=some .cell))&&sc.names.all (λy=>!decide (y.2=.local)||decide (sc.names.lookup y.1=some .local)) &&
 decide (frees sc++locals sc).Nodup&&(frees sc).all (λx=>(c.idx x).isSome&&decide (sc.names.lookup x=some .free)&&(decide (c.nm.lookup x=some .cell)||decide (c.nm.lookup x=some .free)))
def i7.slot(c:i7)(e:Expr):Option Nat:=(asName e).bind λx=>if c.C9 x then c.idx x else none
def i7.slots(c:i7):List Expr->Option (List Nat)
 |[]=>some []
 |e::r=>(c.slot e).bind λi=>(c.slots r).map λis=>i::is
def i7.tg(c:i7)(e:Expr):Option MT:=((c.slot e).map .one).orElse λ_=>match e with
 |.Tuple es _ _=>(c.slots es).map .many
 |_=>none
def Ed:Const->Option D
 |.int i=>some (.int i)
 |.bool b=>some (.bl b)
 |.none=>some .cE
 |.str x=>some (.str x)
 |_=>none
structure CF where
 e:i7->Expr->Option ME
 t:i7->Expr->Option ME
 s:i7->Stmt->Option MS
section
variable(r:CF)(c:i7)
def c1(p:Pr)(a:Expr):Option ME:=(r.e c a).map λm=>.prim p (.cons m .nil)
def c2(p:Pr)(a b:Expr):Option ME:=(r.e c a).bind λma=>(r.e c b).map λmb=>.prim p (.cons ma (.cons mb .nil))
def J7:List Expr->Option ME
 |[]=>some .nil
 |e::es=>if gH e then(r.e c e).bind λm=>(J7 es).map λms=>.cons m ms else none
def Mm:Expr->Option Str
 |.Constant (.str x) _ _=>some x
 |_=>none
def HV:Expr->Option Expr
 |.FormattedValue e k none _=>if k=-1 then some e else none
 |_=>none
def uz:List Expr->Option ME
 |[]=>some .nil
 |e::es=>((Mm e).bind λx=>if x.length<=2000 then(uz es).map λms=>.cons (.lit (.str x)) ms else none).orElse λ_ =>
   (HV e).bind λa=>(r.e c a).bind λm=>(uz es).map λms=>.cons (.prim .fv (.cons m .nil)) ms
def yR(op:BoolOp):List Expr->Option ME
 |[]=>none
 |[a]=>r.e c a
 |a::b::rs=>(r.e c a).bind λma=>(yR op (b::rs)).map λmb=>match op with
  |.And=>.dM ma mb
  |.Or=>.jN ma mb
def yS(op:BoolOp):List Expr->Option ME
 |[]=>none
 |[a]=>r.t c a
 |a::b::rs=>(r.t c a).bind λma=>(yS op (b::rs)).map λmb=>match op with
  |.And=>.dM ma mb
  |.Or=>.jN ma mb
def Mo:List Expr->Option ME
 |[]=>some .no
 |[e]=>r.t c e
 |_=>none
def C0:List Stmt->Option MS
 |[]=>some .pass
 |s::rs=>(r.s c s).bind λm=>(C0 rs).map λms=>.seq m ms
def EC(x:Str):Option ME :=
 if qH x then(if c.Ax x then(c.idx x).map .var else if c.gl x then((c.con.lookup x).map .lit).orElse λ_=>if c.blt.contains x then(Ey.lookup x).map λt=>.lit (.ty t) else none else none) else none
def Aq(op:UnaryOp)(a:Expr):Option ME:=if op=.Not then(r.e c a).map .eR else c1 r c (.un op) a
def i7.zX(b:Expr):Option (List D):=(asName b).bind λx=>if c.gl x&&qH x then c.gd.lookup x else none
def Vv:CmpOp->Option Bool
 |.In=>some false
 |.NotIn=>some true
 |_=>none
def wO(a:Expr)(ops:List CmpOp)(bs:List Expr):Option ME:=match ops,bs with
 |[op],[b]=>if behindInMarks op b then none else((Vv op).bind λneg=>(c.zX b).bind λkvs=>(r.e c a).map λma=>.prim (yU neg) (.cons (.lit (.tup kvs)) (.cons ma .nil))).orElse λ_=>c2 r c (.cmp op) a b
 |[op,iY],[b,d]=>if lastMarks [op,iY] [b,d] then none else(r.e c a).bind λma=>(r.e c b).bind λmb=>(r.e c d).map λmd=>.chain op iY ma mb md
 |_,_=>none
def EF:Expr->Bool
 |.UnaryOp .USub (.Constant (.int i) _ _) _=>decide (i=1)
 |_=>false
def Vf:Expr->Option (Option Expr×Option Expr×Option Expr)
 |.Slice lo hi st _=>some (lo,hi,st)
 |_=>none
def FL(a:Expr):Option Expr->Option Expr->Option Expr->Option ME
 |none,none,none=>c1 r c (.lL false false) a
 |some b,none,none=>c2 r c (.lL true false) a b
 |none,some b,none=>c2 r c (.lL false true) a b
 |none,none,some d=>if EF d then c1 r c .rev a else none
 |_,_,_=>none
def Fo(a b:Expr):Option ME:=((Vf b).bind λq=>FL r c a q.1 q.2.1 q.2.2).orElse λ_=>if gH b then((c.zX a).bind λkvs=>(r.e c b).map λmb=>.prim .oo (.cons (.lit (.tup kvs)) (.cons mb .nil))).orElse λ_=>c2 r c .ix a b else none
def Ar(x:Str)(e:Expr):Option ME:=(zu e).bind λq =>
 if x="list" && q.1="range" && c.blt.contains "list" && c.blt.contains "range" && c.gl "range" then (match q.2 with
  |[a]=>if gH a then c1 r c .jE a else none
  |[a,b]=>if gH a&&gH b then c2 r c .kW a b else none
  | _=>none)
 else if x="sorted" && q.1="set" && c.blt.contains "sorted" && c.blt.contains "set" && c.gl "set" then (match q.2 with
  |[a]=>if gH a then c1 r c .sset a else none
  | _=>none)
 else if x="len" && q.1="set" && c.blt.contains "len" && c.blt.contains "set" && c.gl "set" then (match q.2 with
  |[a]=>if gH a then c1 r c .qG a else none
  | _=>none)
 else none
def Ww(x:Str)(e:Expr):List Expr->Option ME
 |[]=>Ar r c x e
 |_=>none
def CL(x:Str):Option ME:=if qH x&&c.gl x then((c.fns.lookup x).map λf=>.call f .nil).orElse λ_=>(c.cls.lookup x).map λf=>.make x f .nil else none
def CM(x:Str)(e:Expr)(es:List Expr):Option ME:=if qH x&&c.gl x then(Ww r c x e es).orElse λ_=>(J7 r c (e::es)).bind λms=>((c.fns.lookup x).map λf=>.call f ms).orElse λ_=>((c.cls.lookup x).map λf=>.make x f ms).orElse λ_=>if c.blt.contains x then(EH.lookup x).map λp=>.prim p ms else none else none
def KQ(x:Str):List Expr->Option ME
 |[]=>CL c x
 |e::es=>CM r c x e es
def CN(o:Expr)(m:Str)(apos pos:Pos)(args:List Expr):Option ME :=
 if zo o && (apos.endLine == pos.line) && decide (args.length < 20) then (r.e c o).bind λmo=>(J7 r c args).bind λms=>if m="index" then none else if args.isEmpty && (zF.lookup m).isSome then (zF.lookup m).map λp=>.fJ p mo ms else (match ER.lookup m with
  |some p=>if args.isEmpty then none else some (.fJ p mo ms)
  | none=>none) else none
def EB(f:Expr)(args:List Expr)(jS:List Keyword)(pos:Pos):Option ME:=if jS.isEmpty then(match f with
 |.Name x _=>KQ r c x args
 |.Attribute o m apos=>CN r c o m apos pos args
 | _=>none) else none
def wX(tg e:Expr):Option ME:=(((zu e).bind λq =>
  if q.1="enumerate" then (match q.2 with
   |[a]=>if c.gl "enumerate"&&c.blt.contains "enumerate"&&gH a&&Iz tg then(r.e c a).map .lP else none
   | _=>none)
  else if q.1="range" then (match q.2 with
   |[a]=>if c.gl "range"&&c.blt.contains "range"&&gH a then(r.e c a).map .fh else none
   |[a,b]=>if c.gl "range"&&c.blt.contains "range"&&gH a&&gH b then(r.e c a).bind λma=>(r.e c b).map λmb=>.kX ma mb else none
   | _=>none)
  else none):Option ME).orElse λ_=>if gH e then (r.e c e).map .fi else none
def Y7(elt:Expr)(gens:List Comprehension)(sc:Scope):Option ME:=match gens with
 |[⟨tg,it,ifs,GD⟩]=>if c.Di sc&&decide (GD=0)&&gH it then((c.inner sc).tg tg).bind λt=>(wX r c tg it).bind λmi=>(Mo r (c.inner sc) ifs).bind λmc=>(r.e (c.inner sc) elt).map λme=>.comp (c.d5 sc) (frees sc++locals sc).length t mi mc me else none
 |_=>none
def Vd:Expr->Option Str
 |.Name x _=>some x
 |_=>none
def Ve:Expr->Option (Expr×List Comprehension×Scope)
 |.SetComp elt gens sc _=>some (elt,gens,sc)
 |_=>none
def Wt:ME->Option ME
 |.comp a n t i k e=>some (.iy a n t i k e)
 |_=>none
def As(f:Expr)(args:List Expr)(jS:List Keyword):Option ME:=match args with
 |[a]=>if jS.isEmpty&&decide (Vd f=some "sorted")&&c.gl "sorted"&&c.blt.contains "sorted" then(Ve a).bind λq=>(Y7 r c q.1 q.2.1 q.2.2).bind Wt else none
 |_=>none
def xM(f:Expr)(args:List Expr)(jS:List Keyword):Option ME:=(λ(_:i7)=>none) c
def Ja:Expr->Option ME
 |.Name x _=>EC c x
 |.Constant k _ _=>(Ed k).map .lit
 |.BinOp a op b _=>c2 r c (.bin op) a b
 |.UnaryOp op a _=>Aq r c op a
 |.Compare a ops bs _=>wO r c a ops bs
 |.BoolOp op vs _=>yR r c op vs
 |.IfExp t a b _=>(r.t c t).bind λmt=>(r.e c a).bind λma=>(r.e c b).map λmb=>.ite mt ma mb
 |.Tuple es _ _=>(J7 r c es).map (.prim .tup)
 |.List es _=>(J7 r c es).map (.prim .lst)
 |.Subscript a b _=>Fo r c a b
 |.Dict ks vs _=>if ks.isEmpty&&vs.isEmpty then some (.prim .W6 .nil) else none
 |.JoinedStr vs _=>if decide (2<=vs.length)&&decide (vs.length<=40) then(uz r c vs).map (.prim .mR) else none
 |.Attribute o f _=>if zo o then c1 r c (.fld f) o else none
 |.Call f args jS pos=>(As r c f args jS).orElse λ_=>(xM c f args jS).orElse λ_=>EB r c f args jS pos
 |.ListComp elt gens sc _=>Y7 r c elt gens sc
 |_=>none
def stepT:Expr->Option ME
 |.UnaryOp op a _=>if op=.Not then(r.t c a).map .eR else none
 |.BoolOp op vs _=>yS r c op vs
 |.Compare a ops bs _=>(wO r c a ops bs).map .fR
 |e=>if DM e then(r.e c e).map .fR else none
def Iy:Expr->Option (Str×Pos)
 |.Name x p=>some (x,p)
 |_=>none
def WA:Expr->Option (Expr×Expr)
 | .Tuple es _ _=>(match es with
  |[a,b]=>some (a,b)
  | _=>none)
 |_=>none
def i7.Fj(x:Str)(px:Pos)(y:Str)(py:Pos)(a b:Expr):Bool:=decide (c.nm.lookup x=some .local)&&decide (c.nm.lookup y=some .local)&&decide (x≠y)&&decide (py.line=px.line)&&gH a&&gH b&&!([a,b].all (foldedForSure 8))&&!([a,b].all (constantsAlone 8))
def i7.yZ:List Expr->Expr->Bool
 |[s,t],e=>((Iy s).bind λp=>(Iy t).bind λq=>(WA e).map λz=>c.Fj p.1 p.2 q.1 q.2 z.1 z.2).getD false
 |_,_=>false
def CQ(e f:Option Expr):Option (Str×Expr×List Expr):=if f.isNone then e.bind λe=>(zu e).bind λq=>q.2.head?.map λa=>(q.1,a,q.2.tail) else none
def i7.zW(f:Str):List Str:=(c.pF.filter λy=>decide (y.1=f)).map (·.2)
def EG:List Expr->Option (Expr×Expr×Expr×Expr)
 |_=>none
def Ij(tg e:Expr):Option MS:=match tg with
 |.Name x _=>if c.C9 x then(c.idx x).bind λi=>(r.e c e).map λm=>.set i m else none
 |.Tuple es _ _=>(EG es).elim (if(uF e&&A1 e)||c.yZ es e then(c.slots es).bind λis=>(r.e c e).map λm=>.mE (.many is) m else none) λq=>if A1 e&&gH q.2.1&&gH q.2.2.2 then(r.e c q.1).bind λm1=>(r.e c q.2.1).bind λn1=>(r.e c q.2.2.1).bind λm2=>(r.e c q.2.2.2).bind λn2=>(r.e c e).map λm=>.xR m1 n1 m2 n2 m else none
 |.Subscript o i _=>if gH i&&A1 e then(r.e c o).bind λmo=>(r.e c i).bind λmi=>(r.e c e).map λm=>.fg mo mi m else none
 |.Attribute o f _=>if A1 e then(r.e c o).bind λmo=>(r.e c e).map λm=>.iO f (c.zW f) mo m else none
 |_=>none
def toR(e:Expr)(m:ME):ME:=(λ(_:i7)=>m) c
def Jb:Stmt->Option MS
 |.Expr e _=>if A1 e then(r.e c e).map .expr else none
 | .Assign AA e _=>(match AA with
  |[tg]=>Ij r c tg e
  | _=>none)
 |.If t a b _=>(r.t c t).bind λmt=>(C0 r c a).bind λma=>(C0 r c b).map λmb=>.ifs mt ma mb
 |.For tg it body yH _=>if c.qu&&(yH.isEmpty&&gH it) then(c.tg tg).bind λt=>(wX r c tg it).bind λmi=>(C0 r c body).map λmb=>.dX t mi mb else none
 | .Return e _=>(match e with
  |some e=>(r.e c e).map λm=>.ret (toR c e m)
  | none=>some .rm)
 |.Pass _=>some .pass
 |.Raise e f _=>(CQ e f).bind λq=>if c.mH&&c.exc.contains q.1&&c.gl q.1&&qH q.1 then(J7 r c (q.2.1::q.2.2)).map (.raise q.1) else none
 |_=>none
end
def comp:Nat->CF
 |0=>⟨λ_ _=>none,λ_ _=>none,λ_ _=>none⟩
 |n+1=>⟨Ja (comp n),stepT (comp n),λc s=>(Jb (comp n) c s).orElse λ_=>some (.expr .no)⟩
structure jj(X:Cx)(c:i7)(P:fP)(Ξ:iZ):Prop where
 N:X.N=c.N
 nd:c.N.Nodup
 loc:∀x,c.nm.lookup x=some .local->X.env.scope.names.lookup x=some .local
 CD:∀x,c.nm.lookup x=some .cell->X.env.scope.names.lookup x=some .cell
 Hu:∀x,c.nm.lookup x=some .free->X.env.scope.names.lookup x=some .cell\/X.env.scope.names.lookup x=some .free
 Po:∀x,c.nm.lookup x=some .globalImplicit->X.env.scope.names.lookup x=some .globalImplicit
 cells:∀x,(c.nm.lookup x=some .cell\/c.nm.lookup x=some .free)->∃a,X.env.cells.lookup x=some a
 qu:∀x,c.nm.lookup x=some .cell->X.fn x=true
 calm:X.calm=true
 units:X.A.units+100<cLine
 own:c.qu=true->PassesOwn (model X.prog X.w) X.A X.env X.xe
 mono:j6 P
 con:∀x d,c.con.lookup x=some d->∃v u,X.mg x=some u/\RelV v u/\∀ρ H,d8 X.K ρ H d v
 blt:∀x,c.blt.contains x=true->X.mg x=none
 fns:∀x f,c.fns.lookup x=some f->∃k fa fd ps,pR X P Ξ.1 k f fa fd ps/\x6 k X.A/\X.mg x=some (.ref fa)/\PySem.W.keepIn X.K (.ref fa)=true
 cls:∀x f,c.cls.lookup x=some f->∃k C fa fd ps,pR X P Ξ.1 k f fa fd ps/\x6 (k+1) X.A/\X.mg x=some (.ref C)/\x5 X.K x C/\jM X.K C/\Mk X.K C fa
 rG:∀m y f C,(m,y,f)∈c.rG->x5 X.K y C->∃k fa fd ps,Meth X.K C m fa/\pR X P Ξ.1 k f fa fd ps/\x6 k X.A
 pF:∀f y C,(f,y)∈c.pF->x5 X.K y C->C1 X.K C f
 Hv:Ξ.1=c.exc
 pass:Passes (jQ X.prog X.w) X Ξ.2
 mH:c.mH=true->zr X Ξ.2
 oX:c.oX=true->X.stack=X.env::X.outer/\X.env.frame=some X.env.locals/\Mj X Ξ.2
 exc:∀x,c.exc.contains x=true->∃C,X.mg x=some (.ref C)/\x5 X.K x C/\∃B newId gY bm,OwnCls x C bm newId X.mg X.base/\ExcBaseFacts B newId gY bm
 Pz:∀x y C C',c.exc.contains x=true->c.exc.contains y=true->x5 X.K x C->x5 X.K y C'->PySem.W.exmOne X.K (.ref C) (.ref C')=some (decide (x=y\/y="MintError"))
 yE:∀x kvs,c.gd.lookup x=some kvs->yM X x kvs
 code:c.qu=true->PySem.W.kdsCode X.K X.env.code=true
theorem Tp(h:c.idx x=some i):c.N[i]?=some x:=by
 unfold i7.idx at h;rw[lq] at h;obtain⟨h1,h2,_⟩:=h;rw[ao h1,bg h2]
theorem jj.Ye(C:jj X c P Ξ)(h:c.Ax x=true):Ae X.env.scope x:=by
 unfold i7.Ax at h;split at h
 ·rename_i e;exact .inl (C.loc x e)
 ·rename_i e;exact .inr (.inl (C.CD x e))
 ·rename_i e;rcases C.Hu x e with z|z
  ·exact .inr (.inl z)
  ·exact .inr (.inr z)
 ·cases h
theorem jj.B0(C:jj X c P Ξ)(h:c.gl x=true):Gl X x:=C.Po x (bg h)
theorem jj.C9(C:jj X c P Ξ){x:Str}(h:c.C9 x=true):Loc X.env.scope x/\(X.fn x=true\/X.env.scope.names.lookup x=some .local):=by
 unfold i7.C9 at h;rw[eJ] at h;rcases h with h|h
 ·have:=C.loc x (bg h);exact⟨.inl this,.inr this⟩
 ·exact⟨.inr (C.CD x (bg h)),.inl (C.qu x (bg h))⟩
theorem jj.uu(C:jj X c P Ξ)(h:c.idx x=some i):X.N[i]?=some x:=by rw[C.N];exact Tp h
theorem jj.tL(C:jj X c P Ξ):X.N.Nodup:=by rw[C.N];exact C.nd
theorem JK(h:asName e=some x):∃p,e=.Name x p:=by
 cases e<;>first|(cases h;exact⟨_,rfl⟩)|cases h
theorem Mc(h:c.slot e=some i):∃x p,e=.Name x p/\c.C9 x=true/\c.idx x=some i:=by
 unfold i7.slot at h;obtain⟨x,hx,h2⟩:=au.mp h;obtain⟨p,rfl⟩:=JK hx;split at h2
 ·exact⟨x,p,rfl,by assumption,h2⟩
 ·cases h2
theorem jj.slots(C:jj X c P Ξ):∀{es:List Expr} {is:List Nat},c.slots es=some is->gk X es is:=by
 intro es
 induction es with
 |nil=>intro is h;cases h;exact .nil
 |cons e r ih =>
  intro is h;unfold i7.slots at h;obtain⟨i,hi,h⟩:=au.mp h;obtain⟨is',hs,rfl⟩:=ae.mp h;obtain⟨x,p,rfl,hl,hx⟩:=Mc hi;exact .cons (C.uu hx) (C.C9 hl).1 (C.C9 hl).2 (ih hs)
theorem orElse_some{α:Type}{a:Option α}{b:Unit->Option α}{m:α}(h:a.orElse b=some m):a=some m\/b Unit.unit=some m:=by
 cases a with
 |none=>exact .inr h
 |some x=>exact .inl h
theorem jj.Io(C:jj X c P Ξ){tg:Expr}(h:c.tg tg=some t):PG X tg (LG X.K t):=by
 unfold i7.tg at h;rcases orElse_some h with h|h
 ·obtain⟨i,hi,rfl⟩:=ae.mp h;obtain⟨x,p,rfl,hl,hx⟩:=Mc hi;exact Sj C.tL (C.uu hx) (C.C9 hl).1 (C.C9 hl).2
 ·cases tg<;>first|(cases h;done)|skip
  obtain⟨is,hs,rfl⟩:=ae.mp (show(c.slots _).map MT.many=some t from h);exact Lr C.calm C.tL (C.slots hs)
theorem q8(h:gH e=true):starEach (e::es) env=(false,eval e env)::starEach es env:=by
 cases e<;>first|rfl|cases h
theorem zP(h:gH e=true):∀x,foldedSetIterable e env x=pure x:=by
 intro x;cases e<;>first|rfl|cases h
theorem Ku(h:gH e=true):CO e:=by
 intro o i;cases e<;>first|rfl|cases h
theorem TL{i:Expr}(h:gH i=true):∀v,assign (.Subscript o i tp) env v=(do
      let ov <- holding [v] (eval o env)
      let iv <- holding [v,ov] (eval i env)
      standAt tp
      holding [v,ov,iv] (setItem ov iv v)
      release [v,ov,iv] []):=by
  intro v;cases i<;>first|rfl|cases h
theorem U4{t:Option Expr}(h:A1 e=true):swapsWith e t n env=pure false:=by
 cases e<;>first|rfl|cases h
theorem a67{p:Pos}(h:uF e=true):swappedStores [.Tuple es k p] e env=pure none:=by
 cases e<;>first|rfl|cases h
theorem Zx(h:DM e=true):∀whole,isTrue e env whole=(do let v <- whole;standAt e.pos;holding [v] (truthy v)):=by
 intro w;cases e<;>first|rfl|cases h
theorem X0{q:Str×List Expr}(h:zu e=some q):∃p pos,e=.Call (.Name q.1 p) q.2 [] pos:=by
 cases e<;>first|(cases h;done)|skip
 rename_i f as jS pos;cases f<;>first|(cases h;done)|skip
 cases jS<;>first|(cases h;done)|skip
 cases h;exact⟨_,_,rfl⟩
theorem a13(h:Iz e=true):∃es k p,e=.Tuple es k p:=by
 cases e<;>first|exact⟨_,_,_,rfl⟩|cases h
theorem LK{kvs:List D}(h:c.zX b=some kvs):∃x p,b=.Name x p/\c.gl x=true/\qH x=true/\c.gd.lookup x=some kvs:=by
 unfold i7.zX at h;obtain⟨x,hx,h2⟩:=au.mp h;obtain⟨p,rfl⟩:=JK hx;split at h2
 ·rename_i hc;rw[aR] at hc;exact⟨x,p,rfl,hc.1,hc.2,h2⟩
 ·cases h2
theorem R8(h:zo o=true):attributeBase o f env (eval o env)=eval o env:=by
 cases o<;>first|rfl|skip
 rename_i f as jS pos;cases f<;>first|rfl|cases h
theorem CV{env:Env}:∀(names:List (Str×NameKind)) (acc:List (Str×Addr)),(∀y∈names,y.2=.free->∃a,env.cells.lookup y.1=some a)->(∀x a,acc.lookup x=some a->env.cells.lookup x=some a) ->
  ∃ cl,(forIn names acc λ(y:Str × NameKind) (cs:List (Str × Addr))=>(match y with
   |(name,kind)=>if(kind==NameKind.free)=true then do
     let __do_lift <- cellOf env name
     pure (ForInStep.yield ((name,__do_lift)::cs))
    else pure (ForInStep.yield cs):Sem (ForInStep (List (Str × Addr)))))=pure cl/\(∀ x a,cl.lookup x=some a->env.cells.lookup x=some a)/\(∀ y ∈ names,y.2=.free->∃ a,cl.lookup y.1=some a)/\∀ x a,acc.lookup x=some a->∃ a',cl.lookup x=some a'
 |[],acc,_,h2=>⟨acc,rfl,h2,λy hy=>absurd hy (by simp),λx a h=>⟨a,h⟩⟩
 |(n,k)::r,acc,h1,h2=>by
  rw[List.forIn_cons];by_cases hk:k=.free
  ·subst hk;obtain⟨a,ha⟩:=h1 (n,.free) (by simp) rfl;have hc:cellOf env n=pure a:=by unfold cellOf;rw[ha]
   obtain ⟨cl,e,q1,q2,q3⟩:=CV r ((n,a) :: acc) (λy hy=>h1 y (by simp [hy])) (λx b hb=>by
    rw[cS] at hb;cases hx:x==n with
    |true=>rw[hx] at hb;cases hb;rw[eq_of_beq hx];exact ha
    | false=>rw [hx] at hb;exact h2 x b hb)
   refine⟨cl,?_,q1,λy hy hf=>?_,λx b hb=>?_⟩
   ·simp only[beq_self_eq_true,if_true,hc];exact e
   ·rcases aH.mp hy with z|z
    ·subst z;exact q3 n a (by simp[List.lookup_cons])
    ·exact q2 y z hf
   ·cases hx:x==n with
    |true=>exact q3 x a (by rw[cS,hx])
    |false=>exact q3 x b (by rw[cS,hx];exact hb)
  ·have hb:(k==NameKind.free)=false:=by simpa using hk
   obtain⟨cl,e,q1,q2,q3⟩:=CV r acc (λy hy=>h1 y (by simp[hy])) h2;refine⟨cl,?_,q1,λy hy hf=>?_,q3⟩
   ·simp only[hb,Bool.false_eq_true,if_false];exact e
   ·rcases aH.mp hy with z|z
    ·subst z;exact absurd hf hk
    ·exact q2 y z hf
theorem Zq{P:Program}{w:World}:Passes (jQ P w) X (λ_ _ _=>False):=λ_ _ _ _ _ _ _ h=>by
 obtain⟨_,_,_,_,_,_,_,z⟩:=h;exact z.elim
theorem Q2{env:Env}:∀{names:List (Str×NameKind)} {x:Str},names.lookup x=some .globalImplicit ->
  (names.map λ(n,k)=>if(k==NameKind.free&&env.scope.kind==.function&&env.kindOf n==some .cell) then(n,NameKind.cell) else(n,k)).lookup x=some .globalImplicit
 |[],_,h=>by simp at h
 |(n,k)::r,x,h=>by
  have ih:=@Q2 env r x;show List.lookup x ((if(k==NameKind.free&&env.scope.kind==.function&&env.kindOf n==some .cell)=true then(n,NameKind.cell) else(n,k))::_)=_;cases hx:x==n with
  |true =>
   simp only[List.lookup_cons,hx] at h;cases h;simp[List.lookup_cons,hx]
  |false =>
   simp only[List.lookup_cons,hx] at h;by_cases hc:(k==NameKind.free&&env.scope.kind==.function&&env.kindOf n==some .cell)=true
   ·rw[aK hc];simp only[List.lookup_cons,hx];exact ih h
   ·rw[aB hc];simp only[List.lookup_cons,hx];exact ih h
theorem jj.comp(C:jj X c P Ξ){sc:Scope}(h:c.Di sc=true):∃cl,dR X sc (frees sc++locals sc) (c.d5 sc) cl/\∀pins A s H fp,jj (d6 X pins sc (frees sc++locals sc) cl A s H fp) (c.inner sc) P (sZ Ξ.1):=by
 unfold i7.Di at h;simp only[Bool.and_eq_true,decide_eq_true_eq,List.all_eq_true] at h;obtain⟨⟨⟨⟨h1,h2⟩,h3⟩,h4⟩,h5⟩:=h;have nZ:∀x,sc.names.lookup x=some .free->x∈frees sc:=λx hx=>by
  unfold frees;exact aL.mpr ⟨(x,.free),bR.mpr ⟨aT hx,by simp⟩,rfl⟩
 have fr:∀x∈frees sc,(∃i,c.idx x=some i)/\sc.names.lookup x=some .free/\(c.nm.lookup x=some .cell\/c.nm.lookup x=some .free):=λx hx=>by
  have:=h5 x hx;rw[fk,eJ] at this;simp only[decide_eq_true_eq] at this;exact⟨this.1.1,this.1.2,this.2⟩
 have sP:∀y∈sc.names,y.2=.free->∃a,X.env.cells.lookup y.1=some a:=λy hy hf=>by
  have hm:y.1∈frees sc:=aL.mpr ⟨y,bR.mpr ⟨hy,by simp[hf]⟩,rfl⟩;exact C.cells y.1 (fr y.1 hm).2.2
 obtain⟨cl,e,q1,q2,_⟩:=CV sc.names [] sP (λx a h=>by simp at h);have h2:∀y∈sc.names,y.2=.cell->sc.names.lookup y.1=some .cell:=λy hy hl=>by
  have:=h2 y hy;rw[eJ] at this;simp only[Bool.not_eq_true',decide_eq_false_iff_not,decide_eq_true_eq] at this;exact this.resolve_left λz=>z hl
 refine⟨cl,⟨h1,h2,λy hy hl=>?_,?_,q1,λx hx=>q2 (x,.free) (aT hx) rfl,h4,λi j iA=>?_,?_⟩,λpins A s H fp=>?_⟩
 ·have:=h3 y hy;rw[eJ] at this;simp only[Bool.not_eq_true',decide_eq_false_iff_not,decide_eq_true_eq] at this;exact this.resolve_left λz=>z hl
 ·simp only[closureFor];rw[e]
  rfl
 ·unfold i7.d5 at iA;rw[ak] at iA;cases ex:(frees sc)[i]? with
  |none=>rw[ex] at iA;cases iA
  |some x =>
   rw[ex] at iA;have hx:x∈frees sc:=aN ex;obtain⟨⟨k,hk⟩,hl,hc⟩:=fr x hx;have hj:k=j:=by
    have:=aS iA;dsimp only at this;rw[hk] at this;exact this
   subst hj;refine⟨x,?_,C.uu hk,hl,?_⟩
   ·rw[aO (ax.mp ex).1];exact ex
   ·rcases hc with z|z
    ·exact .inl (C.CD x z)
    ·exact C.Hu x z
 ·unfold i7.d5;rw[ag,bj];omega
 ·refine⟨rfl,h4,λx hx=>lookup_relabel_local hx,λx hx=>?_,λx hx=>F0 hx,λx hx=>Q2 hx,λx hx=>?_,λx _=>?_,rfl,C.units,(λ_=>PassesOwn.never),C.mono,C.con,C.blt,C.fns,C.cls,C.rG,C.pF,C.Hv,Zq,(λz=>by cases z),(λz=>by cases z),C.exc,C.Pz,C.yE,(λz=>by cases z)⟩
  ·exact M8 hx
  ·rcases hx with hx|hx
   ·exact Jr (.inl hx)
   ·exact Jr (.inr (q2 (x,.free) (aT hx) rfl))
  ·exact aw ‹_›
theorem L1(h:qH x=true):(x==("__debug__":Str))=false/\(x==("__classdict__":Str))=false/\x≠"__name__":=by
 unfold qH at h;simp only[Bool.and_eq_true,decide_eq_true_eq,beq_iff_eq] at h;exact⟨h.1.1,h.1.2,h.2⟩
theorem a21{t:String}(h:Ey.lookup x=some t):bootBuiltins x=some (.type t):=by
 have hm:=aT h;simp only[Ey,List.mem_cons,List.mem_nil_iff,or_false] at hm;rcases hm with z|z|z|z|z<;>(cases z;first|exact xI|exact PyProof.Rows.boot_bool|exact PyProof.Rows.boot_str|exact tD|exact fE|decide +kernel|rfl)
theorem a11(hc:X.calm=true)(h:EH.lookup x=some p):∃v,((∃id,v=.builtin id)\/∃T,v=.type T)/\bootBuiltins x=some v/\l9 X v (rN X.K p):=by
 have hm:=aT h;simp only[EH,List.mem_cons,List.mem_nil_iff,or_false] at hm;rcases hm with z|z|z|z|z|z|z|z|z|z|z|z
 ·cases z;exact⟨.builtin "len",.inl ⟨_,rfl⟩,PySem.boot_len,QK⟩
 ·cases z;exact⟨.type "list",.inr ⟨_,rfl⟩,by first|exact fE|decide +kernel,Tw hc⟩
 ·cases z;exact⟨.type "tuple",.inr ⟨_,rfl⟩,by first|exact tD|decide +kernel,a22⟩
 ·cases z;exact⟨.builtin "isinstance",.inl ⟨_,rfl⟩,by first|exact PyProof.Rows.boot_isinstance|decide +kernel,Tq⟩
 ·cases z;exact⟨.builtin "all",.inl ⟨_,rfl⟩,by first|exact PyProof.Rows.boot_all|decide +kernel,Yj hc⟩
 ·cases z;exact⟨.builtin "max",.inl ⟨_,rfl⟩,by first|exact PyProof.Rows.boot_max|decide +kernel,QS hc⟩
 ·cases z;exact⟨.builtin "min",.inl ⟨_,rfl⟩,by first|exact PyProof.Rows.boot_min|decide +kernel,QU hc⟩
 ·cases z;exact⟨.type "int",.inr ⟨_,rfl⟩,by first|exact xI|decide +kernel,QA⟩
 ·cases z;exact⟨.type "dict",.inr ⟨_,rfl⟩,by first|exact PyProof.Rows.boot_dict|decide +kernel,a84 hc⟩
 ·cases z;exact⟨.builtin "sorted",.inl ⟨_,rfl⟩,by first|exact iu|decide +kernel,a29 hc⟩
 ·cases z;exact⟨.builtin "sum",.inl ⟨_,rfl⟩,by first|exact PyProof.Rows.boot_sum|decide +kernel,Sw hc⟩
 ·cases z;exact⟨.type "set",.inr ⟨_,rfl⟩,by first|exact ju|decide +kernel,Tu hc⟩
theorem aP4(h:zF.lookup x=some p):∃T id,PlainAttrs T/\Slot T x id/\typeOf (.builtin id)=pure (.type "method_descriptor")/\pQ X id (rM X.K p) /\
  ∀{d:D} {v:V} {g:G} {ρ:List Addr} {H:Hp},Rl X.K ρ g H->d8 X.K ρ H d v->oC p d g->oW X.K T v H:=by
 cases h
theorem Zi(hu:X.A.units+100<cLine)(h:ER.lookup x=some p):∃T id,PlainAttrs T/\Slot T x id/\typeOf (.builtin id)=pure (.type "method_descriptor")/\pQ X id (rM X.K p) /\
  ∀{d:D} {v:V} {g:G} {ρ:List Addr} {H:Hp},Rl X.K ρ g H->d8 X.K ρ H d v->oC p d g->oW X.K T v H:=by
 have hm:=aT h;simp only[ER,List.mem_cons,List.mem_nil_iff,or_false] at hm;rcases hm with z|z|z
 ·cases z;exact⟨_,_,tw,PySem.F.slot_list_append,PySem.F.type_list_append,a15,λR r h=>ty_list R r h⟩
 ·cases z;exact⟨_,_,tw,PySem.F.slot_list_pop,PySem.F.type_list_pop,a53,λR r h=>ty_list R r h⟩
 ·cases z;exact⟨_,_,PySem.F.plainAttrs_dict,jt,PySem.F.type_dict_get,Qx hu,λR r h=>ty_dict R r h⟩
theorem Mf{pos:Pos}{env:Env}:∀{es:List Expr},(∀e∈es,gH e=true)->(backTo pos (starEach es env)).all (λx=>!x.1)=true
 |[],_=>rfl
 |e::es,h=>by
  rw[q8 (h e (by simp))];have ih:=Mf (pos:=pos) (env:=env) (es:=es) λx hx=>h x (by simp[hx]);unfold backTo at ih ⊢;rw[bw,List.all_cons,ih]
  rfl
theorem Z3{pos:Pos}{env:Env}:∀{es:List Expr},(∀e∈es,gH e=true)->(backTo pos (starEach es env)).any (·.1)=false
 |[],_=>rfl
 |e::es,h=>by
  rw[q8 (h e (by simp))];have ih:=Z3 (pos:=pos) (env:=env) (es:=es) λx hx=>h x (by simp[hx]);unfold backTo at ih ⊢;rw[bw,fV,ih]
  rfl
theorem Dp:∀{es:List Expr} {m:ME},J7 r c es=some m->∀e∈es,gH e=true:=by
 intro es
 induction es with
 |nil=>intro m _ e he;exact absurd he (by simp)
 |cons a es ih =>
  intro m h e he;unfold J7 at h;split at h
  ·obtain⟨m1,h1,h⟩:=au.mp h;obtain⟨m2,h2,_⟩:=ae.mp h;rcases aH.mp he with z|z
   ·rw[z];assumption
   ·exact ih h2 e z
  ·cases h
theorem ZR(h:Mm a=some x):∃j p,a=.Constant (.str x) j p:=by
 cases a with
 |Constant k j p=>cases k with
  |str y=>cases h;exact⟨_,_,rfl⟩
  |_=>cases h
 |_=>cases h
theorem a95(h:HV a=some e):∃p,a=.FormattedValue e (-1) none p:=by
 cases a with
 |FormattedValue v k f p=>cases f with
  |none =>
   have h2:(if k=-1 then some v else none)=some e:=h;split at h2
   ·rename_i hk;cases h2;rw[hk];exact⟨_,rfl⟩
   ·cases h2
  |some _=>cases h
 |_=>cases h
structure qL(P:fP)(r:CF):Prop where
 e:∀X c Ξ,jj X c P Ξ->∀e m,r.e c e=some m->PE X e (LE X.K Ξ (bh P m))
 t:∀X c Ξ,jj X c P Ξ->∀e m,r.t c e=some m->PT X e (LT X.K Ξ (dD P m))
 s:∀X c Ξ,jj X c P Ξ->∀st m,r.s c st=some m->PS X st (LS X.K Ξ (wpS P m))
section
variable(S:qL P r)(C:jj X c P Ξ)
include S C
theorem U0(h:c1 r c p a=some m):∃ma,PE X a (LE X.K Ξ (bh P ma))/\m=.prim p (.cons ma .nil):=by
 obtain⟨ma,ha,rfl⟩:=ae.mp h;exact⟨ma,S.e X c Ξ C _ _ ha,rfl⟩
theorem Y6(h:c2 r c p a b=some m):∃ma mb,PE X a (LE X.K Ξ (bh P ma))/\PE X b (LE X.K Ξ (bh P mb))/\m=.prim p (.cons ma (.cons mb .nil)):=by
 obtain⟨ma,ha,h⟩:=au.mp h;obtain⟨mb,hb,rfl⟩:=ae.mp h;exact⟨ma,mb,S.e X c Ξ C _ _ ha,S.e X c Ξ C _ _ hb,rfl⟩
theorem tM:∀{es:List Expr} {m:ME},J7 r c es=some m->PA X es (LA X.K Ξ (gG P m)):=by
 intro es
 induction es with
 |nil=>intro m h;cases h;exact O9 C.mono
 |cons a es ih =>
  intro m h;unfold J7 at h;split at h
  ·rename_i cq;obtain⟨m1,h1,h⟩:=au.mp h;obtain⟨m2,h2,rfl⟩:=ae.mp h;exact E9 C.mono (S.e X c Ξ C _ _ h1) (ih h2) (q8 cq)
  ·cases h
theorem Nv:∀{es:List Expr} {m:ME},uz r c es=some m->∃ts,nv X Ξ P es m ts:=by
 intro es
 induction es with
 |nil=>intro m h;cases h;exact⟨_,.nil⟩
 |cons a es ih =>
  intro m h;unfold uz at h;rcases orElse_some h with h1|h1
  ·obtain⟨x,hx,h2⟩:=au.mp h1;obtain⟨j,p,rfl⟩:=ZR hx;split at h2
   ·obtain⟨m2,h3,rfl⟩:=ae.mp h2;obtain⟨ts,F⟩:=ih h3;exact⟨_,.lit (by assumption) F⟩
   ·cases h2
  ·obtain⟨x,hx,h2⟩:=au.mp h1;obtain⟨m1,h3,h4⟩:=au.mp h2;obtain⟨m2,h5,rfl⟩:=ae.mp h4;obtain⟨p,rfl⟩:=a95 hx;obtain⟨ts,F⟩:=ih h5;exact⟨_,.val (S.e X c Ξ C _ _ h3) F⟩
theorem Nx{op:BoolOp}:∀{vs:List Expr} {m:ME},yR r c op vs=some m->PE X (.BoolOp op vs pos) (LE X.K Ξ (bh P m)):=by
 intro vs
 induction vs with
 |nil=>intro m h;cases h
 |cons a vs ih =>
  intro m h;cases vs with
  |nil=>exact Ry (S.e X c Ξ C _ _ h)
  |cons b vs =>
   unfold yR at h;obtain⟨m1,h1,h⟩:=au.mp h;obtain⟨m2,h2,rfl⟩:=ae.mp h;cases op
   ·exact RV C.mono (S.e X c Ξ C _ _ h1) (ih h2)
   ·exact XJ C.mono (S.e X c Ξ C _ _ h1) (ih h2)
theorem Nq{op:BoolOp}:∀{vs:List Expr} {m:ME},yS r c op vs=some m->PW X (.BoolOp op vs pos) (LT X.K Ξ (dD P m)):=by
 intro vs
 induction vs with
 |nil=>intro m h;cases h
 |cons a vs ih =>
  intro m h;cases vs with
  |nil =>
   cases op
   ·exact Um (S.t X c Ξ C _ _ h)
   ·exact RO (S.t X c Ξ C _ _ h)
  |cons b vs =>
   unfold yS at h;obtain⟨m1,h1,h⟩:=au.mp h;obtain⟨m2,h2,rfl⟩:=ae.mp h;cases op
   ·exact Sx C.mono (S.t X c Ξ C _ _ h1) (ih h2)
   ·exact XO C.mono (S.t X c Ξ C _ _ h1) (ih h2)
theorem VH(h:Mo r c es=some m):mq X es (LT X.K Ξ (dD P m)):=by
 rcases es with _|⟨e,_|⟨_,_⟩⟩
 ·cases h;exact UL C.mono
 ·exact Uk (S.t X c Ξ C _ _ h)
 ·cases h
theorem Aa:∀{FU:List Stmt} {m:MS},C0 r c FU=some m->lh X FU (LS X.K Ξ (wpS P m)):=by
 intro es
 induction es with
 |nil=>intro m h;cases h;exact So C.mono
 |cons a es ih =>
  intro m h;unfold C0 at h;obtain⟨m1,h1,h⟩:=au.mp h;obtain⟨m2,h2,rfl⟩:=ae.mp h;exact UJ C.mono (S.s X c Ξ C _ _ h1) (ih h2)
end
theorem Ke{t:Expr}(h:A1 e=true):swapsWithSole [t] e n env=pure false:=by
 show swapsWith e (some t) n env=pure false;exact U4 h
theorem aO3{y:Str}{py pt pZ:Pos}{kt k2:Nat}(hk:env.scope.kind=.function)(hx:env.kindOf x=some .local)(hy:env.kindOf y=some .local)(fA:x≠y)(hl:py.line=px.line)(ha:gH a=true)(hb:gH b=true)(h1:[a,b].all (foldedForSure 8)=false)(h2:[a,b].all (constantsAlone 8)=false):swappedStores [.Tuple [.Name x px,.Name y py] kt pt] (.Tuple [a,b] k2 pZ) env=pure (some [x,y]):=by
 have Oz:env.blockKind=.function:=by simp[Env.blockKind,hk,ScopeKind.isAnnotationScope]
 have hd:[x,y].eraseDups.length=2:=by
  have:(y==x)=false:=by simpa using cu fA
  simp[List.eraseDups_cons,this]
 have qc:(env.kindOf x==some NameKind.local&&px.line==px.line)=true:=by simp[hx]
 have Bb:(env.kindOf y==some NameKind.local&&py.line==px.line)=true:=by simp[hy,hl]
 have hp:Expr.pos (.Name x px)=px:=rfl;unfold swappedStores;simp only[List.length_cons,List.length_nil,Oz,List.head?_cons,Option.map_some,Option.getD_some,hp,List.filterMap_cons,List.filterMap_nil,qc,Bb,if_true,hd,h1,h2];rw[aB ∅,aB ?_]
 ·rfl
 ·simp only[List.any_cons,List.any_nil,Bool.or_false,Bool.or_eq_true,not_or];constructor
  ·cases a<;>first|(intro h;cases h;done)|cases ha
  ·cases b<;>first|(intro h;cases h;done)|cases hb
theorem Sz(hP:j6 P){j:Nat}{y:Str}{py pt pZ:Pos}{kt k2:Nat}{iE:ME}(hc:X.calm=true)(hN:X.N.Nodup)(hi:X.N[i]?=some x)(hj:X.N[j]?=some y)(fA:x≠y)(hl:py.line=px.line)(hx:X.env.scope.names.lookup x=some .local)(hy:X.env.scope.names.lookup y=some .local)(oa:gH a=true)(ob:gH b=true)(h1:[a,b].all (foldedForSure 8)=false)(h2:[a,b].all (constantsAlone 8)=false)(ha:PA X [a,b] (LA X.K Ξ (gG P iE))):PS X (.Assign [.Tuple [.Name x px,.Name y py] kt pt] (.Tuple [a,b] k2 pZ) pos) (LS X.K Ξ (wpS P (.mE (.many [i,j]) (.prim .tup iE)))):=by
 intro pins s cH H D I h;have iA:i≠j:=by
  rintro rfl;rw[hi] at hj;cases hj;exact fA rfl
 refine RJ hc hN hi hj iA hx hy ha (aO3 I.ok.kind hx hy fA hl oa ob h1 h2) rfl pins s cH H D I ?_;obtain⟨σ,g,ρ,sr,R,h⟩:=h;refine lr hP sr R (.refl _ _) (show gG P iE σ g (λxs g1=>de .tup xs g1 _) _ from h) λds g1 cx H1 vs e1 R1 r1 h=>?_;obtain⟨d',g',⟨_,rfl,rfl⟩,l,cM,ex,hs,h⟩:=h;cases ex;have hl:=Z8 hs;have e2:∃d1 d2,ds=[d1,d2]:=by
  rcases ds with _|⟨d1,_|⟨d2,_|⟨d3,r⟩⟩⟩<;>first|exact⟨_,_,rfl⟩|(simp at hl;done)|(simp at hl;omega)
 obtain⟨d1,d2,rfl⟩:=e2;obtain⟨v,w,rfl,q1,q2⟩:=r1.two;cases hs;exact⟨_,_,rfl,h cx H1 _ e1 R1 (((sr.ext e1).set i q1).set j q2)⟩
theorem Se(hP:j6 P)(ha:PE X a (LE X.K Ξ (bh P ma)))(hd:PE X d (LE X.K Ξ (bh P (.prim (.un .USub) (.cons (.lit (.int 1)) .nil))))):PE X (.Subscript a (.Slice none none (some d) p2) pos) (LE X.K Ξ (bh P (.prim .rev (.cons ma .nil)))) :=
 (Rz ha hd).imp λcH H Q bD=>by
  obtain⟨σ,g,ρ,s,R,h⟩:=bD;refine fW hP s R (.refl _ _) h λx g1 cx H1 v1 e1 R1 r1 h=>?_;obtain⟨d',g',hr,q⟩:=h;rcases hr with⟨l,ex,rfl,rfl⟩|⟨a,l,ex,hl,rfl,rfl⟩
  ·cases ex;obtain⟨a',vs,rfl,ht,rs⟩:=r1.L9;refine⟨σ,g',cx,s.ext e1,R1,?_⟩;refine⟨_,_,⟨rfl,1,rfl,rfl,rfl⟩,λgb H2 v2 e2 R2 r2=>?_⟩;refine⟨r2.j8,_,_,rfl,.inl ⟨(ht.ext e2).sq,λp hp=>?_⟩⟩;exact(q.ext (e1.trans e2)).tup R2 hp (rs.ext e2).reverse
  ·cases ex;obtain⟨a',rfl,ha⟩:=r1.j9;refine⟨σ,_,cx,s.ext e1,R1,?_⟩;refine⟨_,_,⟨rfl,1,rfl,rfl,rfl⟩,λgb H2 v2 e2 R2 r2=>?_⟩;obtain⟨vs,hq,rs⟩:=R2.items hl (e2.get ha);refine⟨r2.j8,_,_,rfl,.inr ⟨hq,λp hp=>?_⟩⟩;exact(q.ext (e1.trans e2)).new R2 hp rs.reverse
section
variable(S:qL P r)(C:jj X c P Ξ)
include C
theorem QW(h:EC c x=some m):PE X (.Name x pos) (LE X.K Ξ (bh P m)):=by
 unfold EC at h;split at h
 ·rename_i iH;obtain⟨d1,d2,d3⟩:=L1 iH;split at h
  ·rename_i hv;obtain⟨i,hi,rfl⟩:=ae.mp h;exact Sg (C.uu hi) (C.Ye hv) d1 d2
  ·split at h
   ·rename_i hg;rcases orElse_some h with h|h
    ·obtain⟨d,hd,rfl⟩:=ae.mp h;obtain⟨v,u,hm,r,rr⟩:=C.con x d hd;exact S1 (zH (C.B0 hg) hm r d1) rr
    ·split at h
     ·rename_i hb;obtain⟨t,ht,rfl⟩:=ae.mp h;exact S1 (v:=.ty t) (TY (C.B0 hg) (C.blt x hb) (a21 ht) rfl d3 d1) λ_ _=>.ty t
     ·cases h
   ·cases h
 ·cases h
omit C in
theorem Gq{k:Const}{j:Nat}{d:D}(h:Ed k=some d):PE X (.Constant k j pos) (LE X.K Ξ (bh P (.lit d))):=by
 cases k<;>first|(cases h;done)|skip
 ·cases h;exact S1 Rw λ_ _=>.cE
 ·cases h;exact S1 Xr λ_ _=>.bl _
 ·cases h;exact S1 Ru λ_ _=>.int _
 ·cases h;exact S1 Kx λ_ _=>.str _
include S
theorem VI{op:UnaryOp}(h:Aq r c op a=some m):PE X (.UnaryOp op a pos) (LE X.K Ξ (bh P m)):=by
 unfold Aq at h;split at h
 ·rename_i ho;subst ho;obtain⟨ma,ha,rfl⟩:=ae.mp h;exact Sd C.mono (S.e X c Ξ C _ _ ha)
 ·obtain⟨ma,ha,rfl⟩:=U0 S C h;exact IW C.mono ha
theorem IS{ops:List CmpOp}{bs:List Expr}(h:wO r c a ops bs=some m):PE X (.Compare a ops bs pos) (LE X.K Ξ (bh P m))/\PT X (.Compare a ops bs pos) (LT X.K Ξ (dD P (.fR m))):=by
 unfold wO at h;split at h
 ·rename_i op b;split at h
  ·cases h
  ·rename_i hm;have hm:behindInMarks op b=false:=by simpa using hm
   rcases orElse_some h with h|h
   ·obtain⟨neg,hn,h⟩:=au.mp h;obtain⟨kvs,hk,h⟩:=au.mp h;obtain⟨ma,ha,rfl⟩:=ae.mp h;obtain⟨x,p,rfl,hg,hd,hk⟩:=LK hk;have ho:op=if neg then .NotIn else .In:=by cases op<;>cases hn<;>rfl
    subst ho;exact⟨RZ C.mono (C.B0 hg) (L1 hd).1 (C.yE x kvs hk) (S.e X c Ξ C _ _ ha) hm,Sr C.mono (C.B0 hg) (L1 hd).1 (C.yE x kvs hk) (S.e X c Ξ C _ _ ha) hm⟩
   ·obtain⟨ma,mb,ha,hb,rfl⟩:=Y6 S C h;exact⟨EU C.mono (Lg (Y0 C.units op) ha hb hm),Su C.mono (Ll (Y0 C.units op) ha hb hm)⟩
 ·split at h
  ·cases h
  ·rename_i hm;obtain⟨ma,ha,h⟩:=au.mp h;obtain⟨mb,hb,h⟩:=au.mp h;obtain⟨md,hd,rfl⟩:=ae.mp h;exact⟨a39 C.mono C.units (S.e X c Ξ C _ _ ha) (S.e X c Ξ C _ _ hb) (S.e X c Ξ C _ _ hd) (by simpa using hm),a28 C.mono C.units (S.e X c Ξ C _ _ ha) (S.e X c Ξ C _ _ hb) (S.e X c Ξ C _ _ hd) (by simpa using hm)⟩
 ·cases h
omit S C in
theorem ZS(h:EF d=true):∃j p q,d=.UnaryOp .USub (.Constant (.int 1) j p) q:=by
 cases d with
 |UnaryOp op a q=>cases op with
  |USub=>cases a with
   |Constant k j p=>cases k with
    |int i=>rw[show i=1 from bg h];exact⟨_,_,_,rfl⟩
    |_=>cases h
   |_=>cases h
  |_=>cases h
 |_=>cases h
theorem VF{lo hi st:Option Expr}(h:FL r c a lo hi st=some m):PE X (.Subscript a (.Slice lo hi st p2) pos) (LE X.K Ξ (bh P m)):=by
 cases lo<;>cases hi<;>cases st<;>first|(cases h;done)|skip
 ·obtain⟨ma,ha,rfl⟩:=U0 S C h;exact a33 C.mono ha
 ·rename_i d;have h2:(if EF d=true then c1 r c .rev a else none)=some m:=h;split at h2
  ·rename_i hn;obtain⟨j,p,q,rfl⟩:=ZS hn;obtain⟨ma,ha,rfl⟩:=U0 S C h2;exact Se C.mono ha (IW C.mono (Gq (k:=.int 1) rfl))
  ·cases h2
 ·obtain⟨ma,mb,ha,hb,rfl⟩:=Y6 S C h;exact a32 C.mono ha hb
 ·obtain⟨ma,mb,ha,hb,rfl⟩:=Y6 S C h;exact a31 C.mono ha hb
theorem Xg(h:Fo r c a b=some m):PE X (.Subscript a b pos) (LE X.K Ξ (bh P m)):=by
 unfold Fo at h;rcases orElse_some h with h|h
 ·obtain⟨q,hq,h⟩:=au.mp h;have eb:∃p,b=.Slice q.1 q.2.1 q.2.2 p:=by cases b<;>first|(cases hq;exact⟨_,rfl⟩)|cases hq
  obtain⟨p,rfl⟩:=eb;exact VF S C h
 ·split at h
  ·rename_i hb;rcases orElse_some h with h|h
   ·obtain⟨kvs,hk,h⟩:=au.mp h;obtain⟨mb,lZ,rfl⟩:=ae.mp h;obtain⟨x,p,rfl,hg,hd,hk⟩:=LK hk;exact Uv C.mono (C.B0 hg) (L1 hd).1 (C.yE x kvs hk) (S.e X c Ξ C _ _ lZ) (Ku hb)
   ·obtain⟨ma,mb,ha,lZ,rfl⟩:=Y6 S C h;exact EU C.mono (IT (WW C.units) ha lZ (Ku hb))
  ·cases h
theorem VG(hg:c.gl x=true)(h:Ar r c x e=some m):PE X (.Call (.Name x px) [e] [] pos) (LE X.K Ξ (bh P m)):=by
 unfold Ar at h;obtain⟨q,hq,h'⟩:=au.mp h;clear h;have h:=h';clear h';obtain⟨p,pos',rfl⟩:=X0 hq;obtain⟨y,as⟩:=q;dsimp only at h ⊢;split at h
 ·rename_i hc;simp only[Bool.and_eq_true,decide_eq_true_eq] at hc;obtain⟨⟨⟨⟨rfl,rfl⟩,hl⟩,hr⟩,tU⟩:=hc;rcases as with _|⟨a,_|⟨b,_|⟨_,_⟩⟩⟩
  ·cases h
  ·dsimp only at h;split at h
   ·rename_i ho;obtain⟨ma,ha,rfl⟩:=U0 S C h;exact a38 C.mono C.calm ha (C.B0 hg) (C.blt _ hl) (C.B0 tU) (C.blt _ hr) (q8 ho)
   ·cases h
  ·dsimp only at h;split at h
   ·rename_i ho;rw[aR] at ho;obtain⟨ma,mb,ha,hb,rfl⟩:=Y6 S C h;exact a37 C.mono C.calm ha hb (C.B0 hg) (C.blt _ hl) (C.B0 tU) (C.blt _ hr) (by rw[q8 ho.1,q8 ho.2];rfl) (q8 ho.2)
   ·cases h
  ·cases h
 ·split at h
  ·rename_i hc;simp only[Bool.and_eq_true,decide_eq_true_eq] at hc;obtain⟨⟨⟨⟨rfl,rfl⟩,hl⟩,hr⟩,tU⟩:=hc;rcases as with _|⟨a,_|⟨_,_⟩⟩
   ·cases h
   ·dsimp only at h;split at h
    ·rename_i ho;obtain⟨ma,ha,rfl⟩:=U0 S C h;exact Uz C.mono C.calm ha (C.B0 hg) (C.blt _ hl) (C.B0 tU) (C.blt _ hr) (q8 ho)
    ·cases h
   ·cases h
  ·split at h
   ·rename_i hc;simp only[Bool.and_eq_true,decide_eq_true_eq] at hc;obtain⟨⟨⟨⟨rfl,rfl⟩,hl⟩,hr⟩,tU⟩:=hc;rcases as with _|⟨a,_|⟨_,_⟩⟩
    ·cases h
    ·dsimp only at h;split at h
     ·rename_i ho;obtain⟨ma,ha,rfl⟩:=U0 S C h;exact Uw C.mono C.calm ha (C.B0 hg) (C.blt _ hl) (C.B0 tU) (C.blt _ hr) (q8 ho)
     ·cases h
    ·cases h
   ·cases h
theorem TH(h:KQ r c x args=some m):PE X (.Call (.Name x px) args [] pos) (LE X.K Ξ (bh P m)):=by
 cases args with
 |nil =>
  have h2:CL c x=some m:=h;unfold CL at h2;split at h2
  ·rename_i iH;rw[aR] at iH;rcases orElse_some h2 with h2|h2
   ·obtain⟨f,hf,rfl⟩:=ae.mp h2;obtain⟨k,fa,fd,ps,F,hr,hm,hk⟩:=C.fns x f hf;exact a40 C.mono C.pass F hr (C.B0 iH.2) hm hk (L1 iH.1).1
   obtain⟨f,hf,rfl⟩:=ae.mp h2;obtain⟨k,C',fa,fd,ps,F,hr,hm,hC,kf,M⟩:=C.cls x f hf;exact a36 C.mono C.pass F M hC kf hr (C.B0 iH.2) hm (L1 iH.1).1
  ·cases h2
 |cons e es =>
  have h0:CM r c x e es=some m:=h;clear h;have h:=h0;clear h0;unfold CM at h;split at h
  ·rename_i iH;rw[aR] at iH;obtain⟨d1,d2,d3⟩:=L1 iH.1;rcases orElse_some h with h|h
   ·cases es with
    |nil=>exact VG S C iH.2 h
    |cons _ _=>cases h
   ·obtain⟨ms,qg,h⟩:=au.mp h;have ok:=Dp qg;have pa:=tM S C qg;have fz:=q8 (env:=X.env) (es:=es) (ok e (by simp));have iT:=Z3 (pos:=pos) (env:=X.env) (es:=es) λz hz=>ok z (by simp[hz]);rcases orElse_some h with h|h
    ·obtain⟨f,hf,rfl⟩:=ae.mp h;obtain⟨k,fa,fd,ps,F,hr,hm,hk⟩:=C.fns x f hf;exact Us C.mono C.pass F hr (C.B0 iH.2) hm hk pa d1 fz iT
    ·rcases orElse_some h with h|h
     ·obtain⟨f,hf,rfl⟩:=ae.mp h;obtain⟨k,C',fa,fd,ps,F,hr,hm,hC,kf,M⟩:=C.cls x f hf;exact Ux C.mono C.pass F M hC kf hr (C.B0 iH.2) hm pa d1 fz iT
     ·split at h
      ·rename_i hb;obtain⟨p,hp,rfl⟩:=ae.mp h;obtain⟨v,hv,BA,hc⟩:=a11 (X:=X) C.calm hp;exact RX C.mono hv hc (C.B0 iH.2) (C.blt x hb) BA pa d3 d1 fz iT
      ·cases h
  ·cases h
theorem TC{mt:Str}{apos:Pos}(h:CN r c o mt apos pos args=some m):PE X (.Call (.Attribute o mt apos) args [] pos) (LE X.K Ξ (bh P m)):=by
 unfold CN at h;split at h
 ·rename_i hc;simp only[Bool.and_eq_true,decide_eq_true_eq] at hc;obtain⟨⟨hb,hl⟩,hn⟩:=hc;obtain⟨mo,ho,h⟩:=au.mp h;obtain⟨ms,qg,h⟩:=au.mp h;have ok:=Dp qg;have pa:=tM S C qg;have po:=S.e X c Ξ C _ _ ho;have hf:methodCallForm args.length (backTo pos (starEach args X.env)) (backToKw pos (keywordEach [] X.env))=true:=by
   unfold methodCallForm;rw[Mf ok];have:args.length+0<30:=by omega
   show(true&&true&&decide (args.length+0<30))=true;rw[aw this]
   rfl
  by_cases vS:mt="index"
  ·subst vS;rw[aK rfl] at h;cases h
  rw[aB vS] at h;cases args with
  |nil =>
   cases qg;by_cases h0:(zF.lookup mt).isSome=true
   ·rw[aK (by rw[h0];rfl)] at h;obtain⟨p,hp,rfl⟩:=ae.mp h;obtain⟨T,id,AI,sl,ty,AN,hk⟩:=aP4 (X:=X) hp;exact a35 C.mono AI sl ty AN hk po (R8 hb) hl
   rw[aB (by rw[aR];exact λz=>h0 z.2)] at h;split at h
   ·cases h
   ·cases h
  |cons e es =>
   have fz:=q8 (env:=X.env) (es:=es) (ok e (by simp));have iT:=Z3 (pos:=pos) (env:=X.env) (es:=es) λz hz=>ok z (by simp[hz]);rw[aB (by simp)] at h;split at h
   ·rename_i p hp;cases h;obtain⟨T,id,AI,sl,ty,AN,hk⟩:=Zi (X:=X) C.units hp;exact Uy C.mono AI sl ty AN hk po pa (R8 hb) hf hl fz iT
   ·cases h
 ·cases h
theorem Gs{tg:Expr}(h:wX r c tg e=some m):PI X tg e (LI X.K Ξ (iN P m)):=by
 unfold wX at h;rcases orElse_some h with h|h
 ·obtain⟨q,hq,h'⟩:=au.mp h;rename_i h0;clear h h0;have h:=h';clear h';obtain⟨p,pos',rfl⟩:=X0 hq;obtain⟨y,as⟩:=q;dsimp only at h ⊢;split at h
  ·rename_i hy;subst hy;rcases as with _|⟨a,_|⟨_,_⟩⟩
   ·cases h
   ·dsimp only at h;split at h
    ·rename_i hc;simp only[Bool.and_eq_true] at hc;obtain⟨⟨⟨hg,hb⟩,ho⟩,ht⟩:=hc;obtain⟨ma,ha,rfl⟩:=ae.mp h;obtain⟨es,k,tp,rfl⟩:=a13 ht;exact UD C.mono (S.e X c Ξ C _ _ ha) (C.B0 hg) (C.blt _ hb) (q8 ho)
    ·cases h
   ·cases h
  ·split at h
   ·rename_i hy;subst hy;rcases as with _|⟨a,_|⟨b,_|⟨_,_⟩⟩⟩
    ·cases h
    ·dsimp only at h;split at h
     ·rename_i hc;simp only[Bool.and_eq_true] at hc;obtain⟨⟨hg,hb⟩,ho⟩:=hc;obtain⟨ma,ha,rfl⟩:=ae.mp h;exact UE C.mono (S.e X c Ξ C _ _ ha) (C.B0 hg) (C.blt _ hb) (q8 ho)
     ·cases h
    ·dsimp only at h;split at h
     ·rename_i hc;simp only[Bool.and_eq_true] at hc;obtain⟨⟨⟨hg,hb⟩,ho⟩,mK⟩:=hc;obtain⟨ma,ha,h⟩:=au.mp h;obtain⟨mb,lZ,rfl⟩:=ae.mp h;exact UG C.mono (S.e X c Ξ C _ _ ha) (S.e X c Ξ C _ _ lZ) (C.B0 hg) (C.blt _ hb) (by rw[q8 ho,q8 mK];rfl) (q8 mK)
     ·cases h
    ·cases h
   ·cases h
 ·split at h
  ·obtain⟨ma,ha,rfl⟩:=ae.mp h;exact Sk C.mono (S.e X c Ξ C _ _ ha)
  ·cases h
theorem Dg{elt:Expr}{gens:List Comprehension}{sc:Scope}(h:Y7 r c elt gens sc=some m):∃tg it ifs t mi mc me cl,gens=[⟨tg,it,ifs,0⟩]/\m=.comp (c.d5 sc) (frees sc++locals sc).length t mi mc me/\gH it=true /\
  dR X sc (frees sc++locals sc) (c.d5 sc) cl/\PI X tg it (LI X.K Ξ (iN P mi))/\(∀pins A s H fp,PG (d6 X pins sc (frees sc++locals sc) cl A s H fp) tg (LG X.K t)) /\
   (∀pins A s H fp,mq (d6 X pins sc (frees sc++locals sc) cl A s H fp) ifs (LT X.K (sZ Ξ.1) (dD P mc)))/\(∀pins A s H fp,PE (d6 X pins sc (frees sc++locals sc) cl A s H fp) elt (LE X.K (sZ Ξ.1) (bh P me))):=by
 unfold Y7 at h;rcases gens with _|⟨⟨tg,it,ifs,GD⟩,_|⟨_,_⟩⟩
 ·cases h
 ·dsimp only at h;split at h
  ·rename_i hs;simp only[Bool.and_eq_true,decide_eq_true_eq] at hs;obtain⟨⟨hs,rfl⟩,hit⟩:=hs;obtain⟨t,h1,h⟩:=au.mp h;obtain⟨mi,h2,h⟩:=au.mp h;obtain⟨mc,h3,h⟩:=au.mp h;obtain⟨me,h4,rfl⟩:=ae.mp h;obtain⟨cl,Sc,I⟩:=C.comp hs;exact⟨tg,it,ifs,t,mi,mc,me,cl,rfl,rfl,hit,Sc,Gs S C h2,λpins A s H fp=>(I pins A s H fp).Io h1,λpins A s H fp=>VH S (I pins A s H fp) h3,λpins A s H fp=>S.e _ _ _ (I pins A s H fp) elt me h4⟩
  ·cases h
 ·cases h
omit S in
theorem VE{f:Expr}{jS:List Keyword}(h:xM c f args jS=some m):PE X (.Call f args jS pos) (LE X.K Ξ (bh P m)):=by
 unfold xM at h;cases h
theorem Nw:∀e m,Ja r c e=some m->PE X e (LE X.K Ξ (bh P m)):=by
 intro e m h;cases e with
 |Name x p=>exact QW C h
 |Constant k j p =>
  obtain⟨d,hd,rfl⟩:=ae.mp (show(Ed k).map ME.lit=some m from h);exact Gq hd
 |BinOp a op b p =>
  obtain⟨ma,mb,ha,hb,rfl⟩:=Y6 S C h;exact EU C.mono (Xu (Ra op) ha hb)
 |UnaryOp op a p=>exact VI S C h
 |Compare a ops bs p=>exact(IS S C h).1
 |BoolOp op vs p=>exact Nx S C h
 |IfExp t a b p =>
  obtain⟨mt,ht,h⟩:=au.mp h;obtain⟨ma,ha,h⟩:=au.mp h;obtain⟨mb,hb,rfl⟩:=ae.mp h;exact Sa C.mono (S.t X c Ξ C _ _ ht) (S.e X c Ξ C _ _ ha) (S.e X c Ξ C _ _ hb)
 |Tuple es k p =>
  obtain⟨ma,ha,rfl⟩:=ae.mp h;exact Sf C.mono (tM S C ha)
 |List es p =>
  obtain⟨ma,ha,rfl⟩:=ae.mp h;exact Sb C.mono (tM S C ha)
 |Subscript a b p=>exact Xg S C h
 |Dict ks vs p =>
  have h2:(if ks.isEmpty&&vs.isEmpty then some (ME.prim .W6 .nil) else none)=some m:=h;split at h2
  ·rename_i hc;cases ks<;>cases vs<;>first|(cases hc;done)|skip
   cases h2;exact Ut
  ·cases h2
 |JoinedStr vs p =>
  have h2:(if decide (2<=vs.length)&&decide (vs.length<=40) then(uz r c vs).map (ME.prim .mR) else none)=some m:=h;split at h2
  ·rename_i hc;simp only[Bool.and_eq_true,decide_eq_true_eq] at hc;obtain⟨ms,hm,rfl⟩:=ae.mp h2;obtain⟨ts,F⟩:=Nv S C hm;rcases vs with _|⟨v1,_|⟨v2,vs⟩⟩
   ·simp at hc
   ·simp at hc
   ·exact Uu C.mono F hc.2
  ·cases h2
 |Attribute o f p =>
  have h2:(if zo o then c1 r c (.fld f) o else none)=some m:=h;split at h2
  ·rename_i hb;obtain⟨ma,ha,rfl⟩:=U0 S C h2;exact RY C.mono ha (R8 hb)
  ·cases h2
 |Call f args jS pos =>
  have h1:((As r c f args jS).orElse λ_=>(xM c f args jS).orElse λ_=>EB r c f args jS pos)=some m:=h;rcases orElse_some h1 with h2|h2
  ·unfold As at h2;rcases args with _|⟨a,_|⟨_,_⟩⟩
   ·cases h2
   ·dsimp only at h2;split at h2
    ·rename_i hk;simp only[Bool.and_eq_true,decide_eq_true_eq] at hk;obtain⟨⟨⟨hk,hf⟩,nY⟩,hb⟩:=hk;cases jS<;>first|(cases hk;done)|skip
     obtain⟨q,hq,h3⟩:=au.mp h2;obtain⟨m1,h4,h5⟩:=au.mp h3;cases f<;>first|(cases hf;done)|skip
     cases a<;>first|(cases hq;done)|skip
     cases hf;cases hq;obtain⟨tg,it,ifs,t,mi,mc,me,cl,eg,rfl,hit,Sc,q1,q2,q3,q4⟩:=Dg S C h4;dsimp only at eg;subst eg;cases h5;exact a34 C.mono Sc C.calm q1 q2 q3 q4 (zP hit) (C.B0 nY) (C.blt _ hb)
    ·cases h2
   ·cases h2
  clear h h1;rcases orElse_some h2 with h3|h3
  ·exact VE C h3
  clear h2;unfold EB at h3;split at h3
  ·rename_i hk;cases jS<;>first|(cases hk;done)|skip
   cases f with
   |Name x p=>exact TH S C h3
   |Attribute o a p=>exact TC S C h3
   |_=>cases h3
  ·cases h3
 |ListComp elt gens sc p =>
  obtain⟨tg,it,ifs,t,mi,mc,me,cl,rfl,rfl,hit,Sc,q1,q2,q3,q4⟩:=Dg S C h;exact(Lh Sc C.calm q1 q2 q3 q4 (zP hit)).imp λσ H Q h=>LD C.mono σ H Q h
 |_=>cases h
theorem Nt:∀e m,stepT r c e=some m->PT X e (LT X.K Ξ (dD P m)):=by
 intro e m h;have plain:∀{e:Expr} {m:ME},(if DM e then(r.e c e).map ME.fR else none)=some m->PT X e (LT X.K Ξ (dD P m)):=λ{e m} h=>by
  split at h
  ·rename_i hp;obtain⟨ma,ha,rfl⟩:=ae.mp h;exact Sv C.mono (S.e X c Ξ C _ _ ha) (Zx hp)
  ·cases h
 cases e with
 |UnaryOp op a p =>
  have h2:(if op=.Not then(r.t c a).map ME.eR else none)=some m:=h;split at h2
  ·rename_i ho;subst ho;obtain⟨ma,ha,rfl⟩:=ae.mp h2;exact Ss C.mono (S.t X c Ξ C _ _ ha)
  ·cases h2
 |BoolOp op vs p=>exact(Nq S C h).pt
 |Compare a ops bs p =>
  obtain⟨ma,ha,rfl⟩:=ae.mp (show(wO r c a ops bs).map ME.fR=some m from h);exact(IS S C ha).2
 |_=>exact plain h
end
section
theorem aI7{e f:Option Expr}{q:Str×Expr×List Expr}(h:CQ e f=some q):f=none/\∃p p',e=some (.Call (.Name q.1 p) (q.2.1::q.2.2) [] p'):=by
 unfold CQ at h;cases f with
 |some _=>cases h
 |none =>
  obtain⟨t,rfl,h⟩:=au.mp (show e.bind _=some q from h);obtain⟨z,hz,h⟩:=au.mp h;obtain⟨p,p',rfl⟩:=X0 hz;obtain⟨x,as⟩:=z;cases as with
  |nil=>cases h
  |cons a as=>cases h;exact⟨rfl,_,_,rfl⟩
theorem Zp(h:c.yZ es e=true):∃x px y py a b k p,es=[.Name x px,.Name y py]/\e=.Tuple [a,b] k p/\c.Fj x px y py a b=true:=by
 rcases es with _|⟨s,_|⟨t,_|⟨_,_⟩⟩⟩
 ·cases h
 ·cases h
 ·cases s<;>first|(cases h;done)|skip
  cases t<;>first|(cases h;done)|skip
  cases e<;>first|(cases h;done)|skip
  rename_i l _ _;rcases l with _|⟨a,_|⟨b,_|⟨_,_⟩⟩⟩
  ·cases h
  ·cases h
  ·exact⟨_,_,_,_,_,_,_,_,rfl,rfl,h⟩
  ·cases h
 ·cases h
theorem Tn(C:jj X c P Ξ):ED X.K f (c.zW f):=λy C' h hC=>by
 unfold i7.zW at h;obtain⟨⟨f',y'⟩,h1,h2⟩:=aL.mp h;obtain⟨h3,h4⟩:=bR.mp h1;cases h2;have:f'=f:=by simpa using h4
 subst this;exact C.pF f' y' C' h3 hC
variable(S:qL P r)(C:jj X c P Ξ)
include S C
theorem Xf{tg:Expr}{m:MS}(hS:∀e m,r.e c e=some m->A1 e=false->∃elt gens sc p,e=.ListComp elt gens sc p/\∃r',qL P r'/\Y7 r' c elt gens sc=some m)(hT:∀a b k p m,r.e c (.Tuple [a,b] k p)=some m->∃r' ms,qL P r'/\J7 r' c [a,b]=some ms/\m=.prim .tup ms)(h:Ij r c tg e=some m):PS X (.Assign [tg] e pos) (LS X.K Ξ (wpS P m)):=by
 cases tg with
 |Name x px =>
  have h2:(if c.C9 x then(c.idx x).bind λi=>(r.e c e).map λm=>MS.set i m else none)=some m:=h;split at h2
  ·rename_i hl;obtain⟨i,hi,h2⟩:=au.mp h2;obtain⟨me,he,rfl⟩:=ae.mp h2;cases hn:A1 e with
   |true=>exact KN C.mono (KC C.tL (C.uu hi) (C.C9 hl).1 (S.e X c Ξ C _ _ he) (U4 hn) (C.C9 hl).2)
   |false =>
    obtain⟨elt,gens,sc,p,rfl,r',S',hx⟩:=hS e me he hn;obtain⟨tg,it,ifs,t,mi,mc,me,cl,rfl,rfl,hit,Sc,q1,q2,q3,q4⟩:=Dg S' C hx;refine KN C.mono ?_;exact(aH6 Sc C.calm q1 q2 q3 q4 (zP hit) C.tL (C.uu hi) (C.C9 hl).1 (C.C9 hl).2).imp λN σ H h=>LD C.mono σ H _ h
  ·cases h2
 |Tuple es k pt =>
  have h0:((EG es).elim (if(uF e&&A1 e)||c.yZ es e then(c.slots es).bind λis=>(r.e c e).map λm=>MS.mE (.many is) m else none) λq=>if A1 e&&gH q.2.1&&gH q.2.2.2 then(r.e c q.1).bind λm1=>(r.e c q.2.1).bind λn1=>(r.e c q.2.2.1).bind λm2=>(r.e c q.2.2.2).bind λn2=>(r.e c e).map λm=>MS.xR m1 n1 m2 n2 m else none)=some m:=h;cases hq:EG es with
  |some q =>
   rw[hq] at h0;dsimp only[Option.elim] at h0;split at h0
   ·cases hq
   ·cases h0
  |none =>
  rw[hq] at h0;have h2:(if(uF e&&A1 e)||c.yZ es e then(c.slots es).bind λis=>(r.e c e).map λm=>MS.mE (.many is) m else none)=some m:=h0;split at h2
  ·rename_i hn;rw[eJ,aR] at hn;obtain⟨is,hs,h2⟩:=au.mp h2;obtain⟨me,he,rfl⟩:=ae.mp h2;rcases hn with hn|hn
   ·exact SE C.mono (KA (S.e X c Ξ C _ _ he) (Lr C.calm C.tL (C.slots hs)) (Ke hn.2) (a67 hn.1))
   ·obtain⟨x,px,y,py,a,b,k2,pZ,rfl,rfl,hk⟩:=Zp hn
    ·unfold i7.Fj at hk;simp only[Bool.and_eq_true,decide_eq_true_eq,Bool.not_eq_true'] at hk;obtain⟨⟨⟨⟨⟨⟨⟨l1,l2⟩,fA⟩,hl⟩,oa⟩,ob⟩,f1⟩,f2⟩:=hk;obtain⟨r',ms,S',qg,rfl⟩:=hT _ _ _ _ _ he;have so:=C.slots hs;cases so with
     |cons hi _ _ so =>
     cases so with
     |cons hj _ _ so =>
     cases so;exact Sz C.mono C.calm C.tL hi hj fA hl (C.loc x l1) (C.loc y l2) oa ob f1 f2 (tM S' C qg)
  ·cases h2
 |Subscript o i pt =>
  have h2:(if gH i&&A1 e then(r.e c o).bind λmo=>(r.e c i).bind λmi=>(r.e c e).map λm=>MS.fg mo mi m else none)=some m:=h;split at h2
  ·rename_i hn;rw[aR] at hn;obtain⟨mo,ho,h2⟩:=au.mp h2;obtain⟨mi,hi,h2⟩:=au.mp h2;obtain⟨me,he,rfl⟩:=ae.mp h2;exact a26 C.mono C.units (S.e X c Ξ C _ _ he) (S.e X c Ξ C _ _ ho) (S.e X c Ξ C _ _ hi) (Ke hn.2) (TL hn.1)
  ·cases h2
 |Attribute o f pt =>
  have h2:(if A1 e then(r.e c o).bind λmo=>(r.e c e).map λm=>MS.iO f (c.zW f) mo m else none)=some m:=h;split at h2
  ·rename_i hn;obtain⟨mo,ho,h2⟩:=au.mp h2;obtain⟨me,he,rfl⟩:=ae.mp h2;exact UN C.mono (Tn C) (S.e X c Ξ C _ _ ho) (S.e X c Ξ C _ _ he) (U4 hn)
  ·cases h2
 |_=>cases h
theorem Nu(hS:∀e m,r.e c e=some m->A1 e=false->∃elt gens sc p,e=.ListComp elt gens sc p/\∃r',qL P r'/\Y7 r' c elt gens sc=some m)(hT:∀a b k p m,r.e c (.Tuple [a,b] k p)=some m->∃r' ms,qL P r'/\J7 r' c [a,b]=some ms/\m=.prim .tup ms) :
  ∀st m,Jb r c st=some m->PS X st (LS X.K Ξ (wpS P m)):=by
 intro st m h;have hP:=C.mono;cases st with
 |Expr e p =>
  have h2:(if A1 e then(r.e c e).map MS.expr else none)=some m:=h;split at h2
  ·rename_i hn;obtain⟨me,he,rfl⟩:=ae.mp h2;exact UM hP (S.e X c Ξ C _ _ he) (U4 hn)
  ·cases h2
 |Assign AA e p =>
  rcases AA with _|⟨tg,_|⟨_,_⟩⟩
  ·cases h
  ·exact Xf S C hS hT h
  ·cases h
 |If t a b p =>
  obtain⟨mt,ht,h⟩:=au.mp h;obtain⟨ma,ha,h⟩:=au.mp h;obtain⟨mb,hb,rfl⟩:=ae.mp h;exact XQ hP (S.t X c Ξ C _ _ ht) (Aa S C ha) (Aa S C hb)
 |For tg it body yH p =>
  have h2:(if c.qu&&(yH.isEmpty&&gH it) then(c.tg tg).bind λt=>(wX r c tg it).bind λmi=>(C0 r c body).map λmb=>MS.dX t mi mb else none)=some m:=h;split at h2
  ·rename_i hc;rw[aR,aR] at hc;cases yH<;>first|(cases hc.2.1;done)|skip
   obtain⟨t,h1,h2⟩:=au.mp h2;obtain⟨mi,h3,h2⟩:=au.mp h2;obtain⟨mb,h4,rfl⟩:=ae.mp h2;exact Sy hP (C.own hc.1) C.calm (Gs S C h3) (C.Io h1) (Aa S C h4) (zP hc.2.2)
  ·cases h2
 |Return e p =>
  cases e with
  |none=>cases h;exact(Uh (X:=X)).imp λN cH H ⟨σ,g,ρ,s,R,h⟩=>LQ.now h R .cE
  |some e =>
   obtain⟨me,he,rfl⟩:=ae.mp (show(r.e c e).map (λm=>MS.ret (toR c e m))=some m from h);refine SD hP ?_;exact S.e X c Ξ C _ _ he
 |Raise e f p =>
  obtain⟨q,hq,h2⟩:=au.mp h;clear h;obtain⟨rfl,px,p2,rfl⟩:=aI7 hq;obtain⟨x,e,es⟩:=q;dsimp only at h2 ⊢;split at h2
  ·rename_i hc;simp only[Bool.and_eq_true] at hc;obtain⟨ma,ha,rfl⟩:=ae.mp h2;have ok:=Dp ha;obtain⟨C',hm,hi,B,nI,iI,bm,O,FB⟩:=C.exc x hc.1.1.2;exact a27 hP C.calm O FB (C.B0 hc.1.2) (tM S C ha) (C.mH hc.1.1.1) (by rw[C.Hv];simpa using hc.1.1.2) hi (q8 (ok e (by simp))) (Z3 λz hz=>ok z (by simp[hz])) (L1 hc.2).1
  ·cases h2
 |Pass p=>cases h;exact(Ug (X:=X)).imp λN cH H ⟨σ,g,ρ,s,R,h⟩=>h ρ H cH (.refl _ _) R s
 |_=>cases h
end
theorem aI3(h:(comp (n+1)).e c e=some m)(hn:A1 e=false):∃elt gens sc p,e=.ListComp elt gens sc p/\Y7 (comp n) c elt gens sc=some m:=by
 cases e<;>first|(cases hn;done)|(cases h;done)|exact⟨_,_,_,_,rfl,h⟩
theorem snd:∀n,(∀k,k<=n->qL P (comp k)):=by
 intro n
 induction n with
 |zero =>
  intro k hk;obtain rfl:=Nat.le_zero.mp hk;exact⟨λ_ _ _ _ _ _ h=>(by cases h),λ_ _ _ _ _ _ h=>(by cases h),λ_ _ _ _ _ _ h=>(by cases h)⟩
 |succ n ih =>
  intro k hk;rcases Nat.lt_or_ge k (n+1) with dS|jT
  ·exact ih k ()
  obtain rfl:k=n+1:=by omega
  have I:=ih n (av n);refine⟨λX c Ξ C e m h=>Nw I C e m h,λX c Ξ C e m h=>Nt I C e m h,λX c Ξ C st m h=>?_⟩;rcases orElse_some h with h|h
  rotate_left
  ·cases h;exact λpins s σ H D I q=>by obtain⟨_,_,_,_,_,z⟩:=q;exact(show False from z).elim
  refine Nu I C (λe m he hn=>?_) (λa b k p m he=>?_) st m h
  ·cases n with
   |zero=>cases he
   |succ n =>
    obtain⟨elt,gens,sc,p,rfl,hx⟩:=aI3 he hn;exact⟨_,_,_,_,rfl,comp n,ih n (),hx⟩
  ·cases n with
   |zero=>cases he
   |succ n =>
    obtain⟨ms,hm,rfl⟩:=ae.mp (show(J7 (comp n) c [a,b]).map (ME.prim .tup)=some m from he);exact⟨comp n,ms,ih n (),hm,rfl⟩
structure pS where
 nm:Str
 qn:Str
 N:List Str
 ps:List Str
 st:Stmt
def i7.at(c:i7)(d:pS):i7:={ c with N:=d.N,nm:=(q9 d.st).names,qu:=true,mH:=true,oX:=true }
structure kl(K:PySem.W.Frag)(c:i7)(d:pS)(m:bo)(f:Addr)(fd:FuncData):Prop where
 fn:qN K d.nm d.qn d.st f fd
 bi:Binds K fd d.ps []
 sc:jr d.N d.ps (q9 d.st)
 co:C0 (comp 60) (c.at d) (s9 d.st)=some m.body
 ar:m.ar=d.ps.length
 nn:m.n=d.N.length
structure ou(w:World)(K:PySem.W.Frag)(mg:Str->Option Value)(c:i7)(T:Nat->Option bo):Prop where
 fns:∀x i,c.fns.lookup x=some i->∃d m f fd,T i=some m/\kl K c d m f fd/\mg x=some (.ref f)
 cls:∀x i,c.cls.lookup x=some i->∃C d m f fd,T i=some m/\kl K c d m f fd/\mg x=some (.ref C)/\x5 K x C/\jM K C/\Mk K C f
 rG:∀x y i C,(x,y,i)∈c.rG->x5 K y C->∃d m f fd,T i=some m/\kl K c d m f fd/\Meth K C x f
 pF:∀f y C,(f,y)∈c.pF->x5 K y C->C1 K C f
 con:∀x d,c.con.lookup x=some d->∃v u,mg x=some u/\RelV v u/\∀ρ H,d8 K ρ H d v
 blt:∀x,c.blt.contains x=true->mg x=none
 Ck:∀x,c.exc.contains x=true->∃C,mg x=some (.ref C)/\x5 K x C/\∀base:Heap,K.In base->base.Ns mainGlobals mg->∃B newId gY bm,OwnCls x C bm newId mg base/\ExcBaseFacts B newId gY bm
 Cj:∀x y C C',c.exc.contains x=true->c.exc.contains y=true->x5 K x C->x5 K y C'->PySem.W.exmOne K (.ref C) (.ref C')=some (decide (x=y\/y="MintError"))
 sD:∀x kvs,c.gd.lookup x=some kvs->∃A vs,mg x=some (.ref A)/\wV K w.params A vs/\qx K kvs vs
section
variable{Pg:Program}{w:World}{K:PySem.W.Frag}{mg:Str->Option Value}{base:Heap}{T:Nat->Option bo}
theorem QD{q:Str}(h:PySem.W.codeIn K cd q=true):PySem.W.kdsCode K cd=true:=by
 unfold PySem.W.codeIn at h;unfold PySem.W.kdsCode;split at h
 ·dsimp only;split at h
  ·rename_i e;rw[e]
  ·cases h
 ·cases h
theorem TX{f:Addr}:Passes (jQ Pg w) (pN (jQ Pg w) Pg w K mg base N qual scope f cd A outer s H E) E:=λpins σ H1 s1 e s' I h=>by
 obtain⟨C,H',J,fl,hE⟩:=I.flew h;exact aD7 J fl (λb o q=>I.base.there b o q (by intro z;cases z)) rfl rfl rfl hE
theorem a45{f:Addr}:zr (pN (jQ Pg w) Pg w K mg base N qual scope f cd A outer s H E) E:=λpins σ H1 s1 h' ea C vs I hm hE =>
 aQ4 I hm rfl rfl rfl hE
theorem To{f:Addr}:Mj (pN (jQ Pg w) Pg w K mg base N qual scope f cd A outer s H E) E:=λpins σ H1 H2 s1 s2 B ea C a0 I l hh hE =>
 leave_held I l hh rfl rfl rfl hE
theorem CU{m:bo}(hT:T i=some m){ds:List D}{g:G}{Q:KD}{E:KX}(h:c5 T k i ds g Q E):ds.length=m.ar:=by
 cases k with
 |zero=>exact h.elim
 |succ k =>
  obtain⟨m',e,h,_⟩:=h;rw[hT] at e;cases e;exact h
theorem Yi(oE:K.In base)(wx:base.Ns mainGlobals mg)(A:ou w K mg c T):∀(k i:Nat) d m f fd,T i=some m->kl K c d m f fd->iV Pg w K mg base (jQ Pg w) (2*k) f fd d.ps (pY c.exc K d.ps.length (c5 T k i)):=by
 intro k
 induction k with
 |zero =>
  intro i d m f fd hm O;refine⟨λvs H Q E h=>h.1,λA outer s H args us vs Q E _ _ _ _ h=>?_⟩;obtain⟨_,_,_,_,_,_,q⟩:=h;exact q.elim
 |succ k ih =>
  intro i d m f fd hm O;obtain⟨oc,od,kV,doc,pm,an,gh,ct,nh,rfl,lk,mM⟩:=O.fn.ex;refine WL (k:=2*k+1) lk mM O.sc (λvs H Q E h=>h.1) (λA0 outer s H vs Q E hr h=>?_);obtain⟨hl,xs,g,ρ,rs,R,q⟩:=h;have C:jj (pN (jQ Pg w) Pg w K mg base d.N d.qn (q9 d.st) f gh A0 outer s H E) (c.at d) (c5 T k) (c.exc,E):=by
   refine⟨rfl,O.sc.nd,λx h=>h,λx h=>h,λx h=>.inr h,λx h=>h,λx h=>?_,λ_ _=>rfl,rfl,?_,(λ_=>PassesOwn.leaving),a9 T k,A.con,A.blt,λx j hj=>?_,λx j hj=>?_,λx y j C' hj hC=>?_,A.pF,rfl,TX,λ_=>a45,λ_=>⟨rfl,rfl,To⟩,λx hx=>?_,A.Cj,A.sD,λ_=>QD mM⟩
   ·rcases h with h|h
    ·exact Dn h
    ·exact absurd rfl (O.sc.nM _ (aT h))
   ·have:=hr.un;show(A0.deeper _).units+100<cLine;omega
   ·obtain⟨d',m',f',qv,hT,O',hmg⟩:=A.fns x j hj;exact⟨2*k,f',qv,d'.ps,⟨ih j d' m' f' qv hT O',O'.bi,λHG g' Q' E' h'=>(CU hT h').trans O'.ar⟩,hr.mono (),hmg,O'.fn.kp⟩
   ·obtain⟨C',d',m',f',qv,hT,O',hmg,hC,kf,M⟩:=A.cls x j hj;exact⟨2*k,C',f',qv,d'.ps,⟨ih j d' m' f' qv hT O',O'.bi,λHG g' Q' E' h'=>(CU hT h').trans O'.ar⟩,hr,hmg,hC,kf,M⟩
   ·obtain⟨d',m',f',qv,hT,O',M⟩:=A.rG x y j C' hj hC;exact⟨2*k,f',qv,d'.ps,M,⟨ih j d' m' f' qv hT O',O'.bi,λHG g' Q' E' h'=>(CU hT h').trans O'.ar⟩,hr.mono ()⟩
   ·obtain⟨C,h1,h2,h3⟩:=A.Ck x hx;exact⟨C,h1,h2,h3 base oE wx⟩
  refine⟨_,Aa (snd (P:=c5 T k) 60 60 (av _)) C O.co,?_⟩;obtain⟨m',e,q1,q⟩:=q;rw[hm] at e;cases e;refine⟨d0 m xs,g,ρ,?_,R,wpS_mono (a9 T k) m.body ⟨λ_ g'=>LQ K ρ H Q .cE g',LQ K ρ H Q,λ_ _=>False,λ_ _=>False⟩ _ _ _ _ _ ⟨λσ g' h cy H' dU e R' s'=>h cy H' _ e R' .cE,λd g' h=>h,λ_ _ h=>h.elim,λ_ _ h=>h.elim⟩ (λ_ _ z=>z) q⟩;have:=t6.start (n:=d.N.length) rs;unfold d0 L2.start;rw[O.nn];exact this
theorem QI{L k0:Nat}{a:Addr}{ns:List Int}(hO:zT H)(hS:gi K H a (ns.map V.int))(h:c5 T k0 L [.ref 0] [.pE (ns.map .int)] (λd _=>d=.bl true) ki) :
  pY exc K 1 (c5 T k0 L) [.ref a] H (λv _=>v=.bl true) λ_ _ _=>False:=by
 refine⟨rfl,[.ref 0],[.pE (ns.map .int)],[a],.cons (.ref rfl) .nil,⟨rfl,λi o b h1 h2=>?_,λi j l m b h1 h2 m1=>?_⟩,a9 T k0 _ _ _ _ _ _ _ (λd g' e cy H' v _ _ r=>?_) (λ_ _ z=>z.elim) h⟩
 ·cases i with
  |zero =>
   cases h1;cases h2;refine⟨_,?_,b8.ofInts ns⟩;rcases hS with(z|⟨o,z⟩)|z
   ·rcases hO a with q|⟨o,xs,q⟩
    ·rw[z] at q;cases q
    ·rw[z] at q;cases q
   ·exact .inl ⟨o,z⟩
   ·exact .inr z
  |succ i=>simp at h1
 ·cases i with
  |zero=>cases h1;cases m1
  |succ i=>simp at h1
 ·subst e;cases r
  rfl
end
end M
namespace M
open PySem L2
variable{g:G}{Q:Bool->G->Prop}{E:KX}{a i n:Nat}{b:Bool}{c f:Str}{o cond elt:ME}{x y d v:D}{j:Int}{l:List D}{A B:Prop}{kvs:List (Key×D)}{k:Key}{kg:G->Prop}{ns:List Int}{d5:List Nat}{R:IK->G->Prop}
section
variable{P:fP}{σ:S}{Q:KD}{N:Ends}{a b c:ME}{x y:MS}{p:Pr}
theorem L5(h:N.nx σ g):wpS P .pass N σ g E:=h
theorem zc(h:wpS P x ⟨λkr g1=>wpS P y N kr g1 E,N.rt,N.bk,N.ct⟩ σ g E):wpS P (.seq x y) N σ g E:=h
theorem O7(h:wpS P x N σ g E):wpS P (.seq x .pass) N σ g E:=h
theorem SQ(h:bh P a σ g (λ_ g1=>N.nx σ g1) E):wpS P (.expr a) N σ g E:=h
theorem xa(h:bh P a σ g (λx g1=>N.nx (σ.set i (some x)) g1) E):wpS P (.set i a) N σ g E:=h
theorem Yg{t:MT}(h:bh P a σ g (λx g1=>ku t x σ λkr=>N.nx kr g1) E):wpS P (.mE t a) N σ g E:=h
theorem Lv{i:ME}(h:bh P a σ g (λx g1=>bh P o σ g1 (λy g2=>bh P i σ g2 (λz g3=>Z7 y z x g3 λg4=>N.nx σ g4) E) E) E):wpS P (.fg o i a) N σ g E:=h
theorem SV{cs:List Str}(h:bh P a σ g (λx g1=>bh P o σ g1 (λy g2=>wZ f cs y x g2 λg3=>N.nx σ g3) E) E):wpS P (.iO f cs o a) N σ g E:=h
theorem Jg(h:dD P c σ g (λt g1=>if t=true then wpS P x N σ g1 E else wpS P y N σ g1 E) E):wpS P (.ifs c x y) N σ g E:=h
theorem EA(h:bh P a σ g N.rt E):wpS P (.ret a) N σ g E:=h
theorem UQ{x:Str}(h:gG P a σ g (λvs g1=>vs.length<=1000/\E ⟨x⟩ g1) E):wpS P (.raise x a) N σ g E:=h
theorem w_var(e:σ[i]?=some (some d))(h:Q d g):bh P (.var i) σ g Q E:=by exact⟨d,e,h⟩
theorem w_lit(h:Q d g):bh P (.lit d) σ g Q E:=h
theorem SU(h:gG P a σ g (λxs g1=>de p xs g1 Q) E):bh P (.prim p a) σ g Q E:=h
theorem Wv(h:de p [] g Q):bh P (.prim p .nil) σ g Q E:=by exact h
theorem Ir(h:bh P a σ g (λx g1=>de p [x] g1 Q) E):bh P (.prim p (.cons a .nil)) σ g Q E:=by exact h
theorem Ad(h:bh P a σ g (λx g1=>bh P b σ g1 (λy g2=>de p [x,y] g2 Q) E) E):bh P (.prim p (.cons a (.cons b .nil))) σ g Q E:=by exact h
theorem UP{o1 o2:CmpOp}(h:bh P a σ g (λx g1=>bh P b σ g1 (λy g2=>de (.cmp o1) [x,y] g2 λz g3=>∃t,z=.bl t/\if t=true then bh P c σ g3 (λw g4=>de (.cmp o2) [y,w] g4 Q) E else Q (.bl false) g3) E) E):bh P (.chain o1 o2 a b c) σ g Q E:=h
theorem w_and(h:bh P a σ g (λx g1=>∃t,x=.bl t/\if t=true then bh P b σ g1 Q E else Q (.bl false) g1) E):bh P (.dM a b) σ g Q E:=h
theorem w_or(h:bh P a σ g (λx g1=>∃t,x=.bl t/\if t=true then Q (.bl true) g1 else bh P b σ g1 Q E) E):bh P (.jN a b) σ g Q E:=h
theorem w_not(h:bh P a σ g (λx g1=>∃t,x=.bl t/\Q (.bl (!t)) g1) E):bh P (.eR a) σ g Q E:=h
theorem w_ite(h:dD P c σ g (λt g1=>if t=true then bh P a σ g1 Q E else bh P b σ g1 Q E) E):bh P (.ite c a b) σ g Q E:=h
theorem CK{f:Nat}(h:gG P a σ g (λxs g1=>P f xs g1 Q E) E):bh P (.call f a) σ g Q E:=h
theorem SR{f:Nat}{c:Str}(h:gG P a σ g (λxs g1=>P f (.ref g1.length::xs) (g1++[.ins c []]) (λd g2=>d=.cE/\Q (.ref g1.length) g2) E) E):bh P (.make c f a) σ g Q E:=h
theorem SS(h:bh P o σ g (λx g1=>oC p x g1/\gG P a σ g1 (λxs g2=>de p (x::xs) g2 Q) E) E):bh P (.fJ p o a) σ g Q E:=h
theorem Ez{Q:List D->G->Prop}(h:Q [] g):gG P .nil σ g Q E:=h
theorem xj{Q:List D->G->Prop}(h:bh P a σ g (λx g1=>gG P b σ g1 (λxs g2=>Q (x::xs) g2) E) E):gG P (.cons a b) σ g Q E:=h
theorem SW{Q:Bool->G->Prop}(h:dD P a σ g (λt g1=>if t=true then dD P b σ g1 Q E else Q false g1) E):dD P (.dM a b) σ g Q E:=h
theorem Yf{Q:Bool->G->Prop}(h:dD P a σ g (λt g1=>if t=true then Q true g1 else dD P b σ g1 Q E) E):dD P (.jN a b) σ g Q E:=h
theorem SX{Q:Bool->G->Prop}(h:dD P a σ g (λt g1=>Q (!t) g1) E):dD P (.eR a) σ g Q E:=h
theorem Jh{Q:Bool->G->Prop}(h:Q true g):dD P .no σ g Q E:=h
theorem Ji{Q:Bool->G->Prop}(h:bh P a σ g (λx g1=>qI g1 x λb=>Q b g1) E):dD P (.fR a) σ g Q E:=h
end
section
variable{Q:KD}{i:Int}{kb:Bool->Prop}{t s:Bool}{m:List D}
theorem Wx(h:Q (.int (i+j)) g):de (.bin .Add) [.int i,.int j] g Q:=⟨_,_,.inl ⟨i,j,_,rfl,rfl,rfl,rfl⟩,h⟩
theorem Wy(h:Q (.int (i-j)) g):de (.bin .Sub) [.int i,.int j] g Q:=⟨_,_,.inl ⟨i,j,_,rfl,rfl,rfl,rfl⟩,h⟩
theorem Q9(c:sQ i j)(h:Q (.int (i*j)) g):de (.bin .Mult) [.int i,.int j] g Q:=⟨_,_,.inl ⟨i,j,_,rfl,⟨c,rfl⟩,rfl,rfl⟩,h⟩
theorem R0(c:0<j)(h:Q (.int (i % j)) g):de (.bin .Mod) [.int i,.int j] g Q:=⟨_,_,.inl ⟨i,j,_,rfl,⟨c,rfl⟩,rfl,rfl⟩,h⟩
theorem yN(c:CI i j)(h:Q (.int (i / j)) g):de (.bin .FloorDiv) [.int i,.int j] g Q:=⟨_,_,.inl ⟨i,j,_,rfl,⟨c,rfl⟩,rfl,rfl⟩,h⟩
theorem Ml(h1:0<j)(h2:j<1073741824)(h:Q (.int (i / j)) g):de (.bin .FloorDiv) [.int i,.int j] g Q:=yN ⟨h1,h2⟩ h
theorem yO(c:X3 i j)(h:Q (.int (i ^ j.toNat)) g):de (.bin .Pow) [.int i,.int j] g Q:=⟨_,_,.inl ⟨i,j,_,rfl,⟨c,rfl⟩,rfl,rfl⟩,h⟩
theorem V1{i j:Nat}(hi:g[i]?=some (.lst l))(hj:g[j]?=some (.lst m))(hl:l.length+m.length<=100000)(h:Q (.ref g.length) (g++[.lst (l++m)])):de (.bin .Add) [.ref i,.ref j] g Q:=⟨_,_,.inr (.inl ⟨rfl,.inr (.inl ⟨i,j,l,m,rfl,hi,hj,hl,rfl,rfl⟩)⟩),h⟩
theorem Yd(h:Q (.int (-i)) g):de (.un .USub) [.int i] g Q:=⟨_,_,⟨rfl,i,rfl,rfl,rfl⟩,h⟩
theorem T9{op:CmpOp}(hb:HX g x y b op)(h:Q (.bl b) g):de (.cmp op) [x,y] g Q:=⟨_,_,⟨x,y,b,rfl,hb,rfl,rfl⟩,h⟩
theorem Vk(h:Q (.bl (decide (i<j))) g):de (.cmp .Lt) [.int i,.int j] g Q:=T9 ⟨i,j,rfl,rfl,rfl⟩ h
theorem Vj(h:Q (.bl (decide (i<=j))) g):de (.cmp .LtE) [.int i,.int j] g Q:=T9 ⟨i,j,rfl,rfl,rfl⟩ h
theorem Vi(h:Q (.bl (decide (j<i))) g):de (.cmp .Gt) [.int i,.int j] g Q:=T9 ⟨i,j,rfl,rfl,rfl⟩ h
theorem Vh(h:Q (.bl (decide (j<=i))) g):de (.cmp .GtE) [.int i,.int j] g Q:=T9 ⟨i,j,rfl,rfl,rfl⟩ h
theorem Fe(h:sJ g x y λb=>Q (.bl b) g):de (.cmp .Eq) [x,y] g Q:=let ⟨_,hb,h⟩:=h;T9 hb h
theorem zV(h:sJ g x y λb=>Q (.bl (!b)) g):de (.cmp .NotEq) [x,y] g Q:=let ⟨b,hb,h⟩:=h;T9 (b:=!b) (show wB g x y (!(!b)) from by rw[lJ];exact hb) h
theorem xo(h:rL g x y λb=>Q (.bl b) g):de (.cmp .In) [x,y] g Q:=let ⟨_,hb,h⟩:=h;T9 (.inl hb) h
theorem Qp{S:Int->Bool}(hg:g[a]?=some (.set S n))(h:Q (.bl (!S i)) g):de (.cmp .NotIn) [.int i,.ref a] g Q:=T9 (b:=!S i) (.inr ⟨a,S,n,i,rfl,hg,rfl,lJ _⟩) h
theorem V0(h:rL g x y λb=>Q (.bl (!b)) g):de (.cmp .NotIn) [x,y] g Q:=let ⟨b,hb,h⟩:=h;T9 (b:=!b) (.inl (show inR g x y (!(!b)) from by rw[lJ];exact hb)) h
theorem IU(h:kb (decide (i=j))):sJ g (.int i) (.int j) kb:=⟨_,.inl ⟨i,j,rfl,rfl,rfl⟩,h⟩
theorem VM(h:kb (t==s)):sJ g (.bl t) (.bl s) kb:=⟨_,.inr (.inl ⟨t,s,rfl,rfl,rfl⟩),h⟩
theorem XA{x y:Str}(h:kb (decide (x=y))):sJ g (.str x) (.str y) kb:=⟨_,.inr (.inr (.inl ⟨x,y,rfl,rfl,rfl⟩)),h⟩
theorem WC(h:Q (.bl (decide (i=j))) g):de (.cmp .Eq) [.int i,.int j] g Q:=Fe (IU h)
theorem WH(h:Q (.bl (!decide (i=j))) g):de (.cmp .NotEq) [.int i,.int j] g Q:=zV (IU h)
theorem WB(h:Q (.bl (t==s)) g):de (.cmp .Eq) [.bl t,.bl s] g Q:=Fe (VM h)
theorem WD{p q:Str}(h:Q (.bl (decide (p=q))) g):de (.cmp .Eq) [.str p,.str q] g Q:=Fe (XA h)
theorem HW(h:Q (.bl (O6 d)) g):de (.cmp .Is) [d,.cE] g Q:=T9 ⟨rfl,rfl⟩ h
theorem IC(h:Q (.bl (!O6 d)) g):de (.cmp .IsNot) [d,.cE] g Q:=T9 ⟨rfl,rfl⟩ h
theorem WG(h:Q (.bl false) g):de (.cmp .Is) [.bl t,.cE] g Q:=HW h
theorem WE(h:Q (.bl false) g):de (.cmp .IsNot) [.cE,.cE] g Q:=IC h
theorem Ws(h:kb t):qI g (.bl t) kb:=⟨t,.inr (.inl rfl),h⟩
theorem XZ(h:kb (i != 0)):qI g (.int i) kb:=⟨_,.inr (.inr (.inl ⟨i,rfl,rfl⟩)),h⟩
theorem CT{p:Bool->Prop}(h:p t):∃s,D.bl t=D.bl s/\p s:=⟨t,rfl,h⟩
theorem Qz{p:Int->Prop}(h:p i):∃s,D.int i=D.int s/\p s:=⟨i,rfl,h⟩
theorem if2{c:Prop}[Decidable c](h1:c->A)(h2:¬c->B):if decide c=true then A else B:=by
 by_cases h:c
 ·rw[aK (aw h)];exact h1 h
 ·rw[aB (by rw[aD h];decide)];exact h2 h
theorem ni(h:A):if true=true then A else B:=by rw[aK rfl];exact h
theorem qE(h:B):if false=true then A else B:=by rw[aB ∅];exact h
theorem Ib(h:A):if(!false)=true then A else B:=by rw[aK (show(!false)=true from rfl)];exact h
theorem Vu(h:B):if(!true)=true then A else B:=by rw[aB ∅];exact h
theorem gA(hb:b=false)(h:B):if b=true then A else B:=by rw[hb];exact qE h
theorem ij(hb:b=true)(h:A):if b=true then A else B:=by rw[hb];exact ni h
theorem n9(hl:c8 g a=some l)(h2:gF l i=some d)(h:Q d g):de .ix [.ref a,.int i] g Q:=⟨_,_,⟨rfl,.inl ⟨_,l,i,rfl,hl,h2⟩⟩,h⟩
theorem v9(h2:gF l i=some d)(h:Q d g):de .ix [.tup l,.int i] g Q:=⟨_,_,⟨rfl,.inl ⟨_,l,i,rfl,rfl,h2⟩⟩,h⟩
theorem Vx{i:Nat}(hg:g[i]?=some (.dz kvs))(hk:pP y=some k)(hv:u9 kvs k=some v)(h:Q v g):de .ix [.ref i,y] g Q:=⟨_,_,⟨rfl,.inr (.inl ⟨i,kvs,y,k,rfl,hg,hk,hv⟩)⟩,h⟩
theorem U1(hl:g[a]?=some (.lst l))(hn:lO l.length i=some n)(h:kg (g.set a (.lst (l.set n v)))):Z7 (.ref a) (.int i) v g kg:=⟨_,.inl ⟨a,i,l,n,rfl,rfl,hl,hn,rfl⟩,h⟩
theorem Er{i:Nat}(hg:g[i]?=some (.dz kvs))(hk:pP y=some k)(hl:kvs.length<100000)(h:kg (g.set i (.dz (putD kvs k v)))):Z7 (.ref i) y v g kg:=⟨_,.inr ⟨i,kvs,k,rfl,hg,hk,hl,rfl⟩,h⟩
theorem Z6{cs:List Str}{fs:List (Str×D)}(hg:g[a]?=some (.ins c fs))(hc:c∈cs)(hl:fs.length<100)(h:kg (g.set a (.ins c (n5 f v fs)))):wZ f cs (.ref a) v g kg:=⟨_,⟨a,c,fs,rfl,hg,hc,hl,rfl⟩,h⟩
theorem qz{fs:List (Str×D)}(hg:g[a]?=some (.ins c fs))(hf:fs.lookup f=some d)(h:Q d g):de (.fld f) [.ref a] g Q:=⟨_,_,⟨a,c,fs,rfl,hg,hf,rfl⟩,h⟩
theorem a8(h:g[a]?=some (.lst l)):c8 g a=some l:=by simp only[c8,h,EL]
theorem Zc(h:g[a]?=some (.pE l)):c8 g a=some l:=by simp only[c8,h,EL]
theorem J5(hl:c8 g a=some l)(h:Q (.int l.length) g):de .len [.ref a] g Q:=⟨_,_,⟨rfl,.inl ⟨_,l,rfl,hl,rfl⟩⟩,h⟩
theorem KJ(hl:c8 g a=some l)(h:Q (.ref g.length) (g++[.lst (cut l (some i) none)])):de (.lL true false) [.ref a,.int i] g Q:=⟨_,_,⟨_,i,rfl,.inr ⟨a,l,rfl,hl,rfl,rfl⟩⟩,h⟩
theorem zp(hl:c8 g a=some l)(h:Q (.ref g.length) (g++[.lst (cut l none (some i))])):de (.lL false true) [.ref a,.int i] g Q:=⟨_,_,⟨_,i,rfl,.inr ⟨a,l,rfl,hl,rfl,rfl⟩⟩,h⟩
theorem XF(hl:c8 g a=some l)(h:Q (.ref g.length) (g++[.lst l.reverse])):de .rev [.ref a] g Q:=⟨_,_,.inr ⟨a,l,rfl,hl,rfl,rfl⟩,h⟩
theorem En(hl:l.length<=1000)(h:Q (.tup l) g):de .tup l g Q:=⟨_,_,⟨hl,rfl,rfl⟩,h⟩
theorem Em(hl:l.length<=1000)(h:Q (.ref g.length) (g++[.lst l])):de .lst l g Q:=⟨_,_,⟨hl,rfl,rfl⟩,h⟩
theorem Eg(hl:c8 g a=some l)(h:Q (.ref g.length) (g++[.lst l])):de .list [.ref a] g Q:=⟨_,_,.inl ⟨_,l,rfl,hl,rfl,rfl⟩,h⟩
theorem IQ(hg:g[a]?=some (.dz kvs))(hz:kvs.length<=10000)(h:Q (.ref g.length) (g++[.lst ((kvs.map (·.1)).map kD)])):de .list [.ref a] g Q:=⟨_,_,.inr ⟨a,kvs,rfl,hg,hz,rfl,rfl⟩,h⟩
theorem Yb(hl:c8 g a=some l)(h:Q (.tup l) g):de .tuple [.ref a] g Q:=⟨_,_,⟨_,l,rfl,hl,rfl,rfl⟩,h⟩
theorem rK{c:String}(hc:c∈["int","bool","str","tuple","list"])(hb:Fg g d c=some b)(h:Q (.bl b) g):de .isin [d,.ty c] g Q:=⟨_,_,⟨d,c,b,rfl,hc,hb,rfl,rfl⟩,h⟩
theorem sX{i:Nat}(hg:g[i]?=some (.lst l))(hl:l.length<100000)(h:Q .cE (g.set i (.lst (l++[y])))):de .append [.ref i,y] g Q:=⟨_,_,⟨i,y,l,rfl,hg,hl,rfl,rfl⟩,h⟩
theorem Xd{i j:Nat}{n:Int}(hg:g[i]?=some (.lst l))(hn:n=j)(hj:l[j]?=some y)(hl:l.length<100000)(h:Q y (g.set i (.lst (l.eraseIdx j)))):de .pop [.ref i,.int n] g Q:=by
 have dS:=(ax.mp hj).1;refine⟨_,_,⟨i,n,l,j,rfl,hg,by omega,by omega,?_,hj,rfl⟩,h⟩;rw[hn];exact PySem.StrLaws.seqIndex_nonneg () () |>.trans (by simp)
theorem Ej{i:Nat}{z:D}(hg:g[i]?=some (.dz kvs))(hk:pP y=some k)(h:Q ((u9 kvs k).getD z) g):de .get [.ref i,y,z] g Q:=⟨_,_,⟨i,y,z,kvs,k,rfl,hg,hk,rfl,rfl⟩,h⟩
theorem Lf{i:Nat}(hl:c8 g i=some (ns.map .int))(hz:ns.length<=10000)(h:Q (.ref g.length) (g++[.lst ((K4 ns).map .int)])):de .jZ [.ref i] g Q:=⟨_,_,.inr ⟨_,ns,rfl,hl,hz,rfl,rfl⟩,h⟩
theorem xf{i:Nat}(hg:g[i]?=some (.lst l)):oC .append (.ref i) g:=⟨i,l,rfl,a8 hg⟩
theorem QV{i:Nat}(hg:g[i]?=some (.lst l)):oC .pop (.ref i) g:=⟨i,l,rfl,a8 hg⟩
theorem VD{i:Nat}{l:List (Key×D)}(hg:g[i]?=some (.dz l)):oC .get (.ref i) g:=⟨i,l,rfl,hg⟩
theorem AR(h1:-(2 ^ 62)<=j)(h2:j<=100000)(h:Q (.ref g.length) (g++[.lst (j7 0 j.toNat)])):de .jE [.int j] g Q:=⟨_,_,⟨j,rfl,h1,h2,rfl,rfl⟩,h⟩
theorem NB(h1:-(2 ^ 62)<=i/\i<2 ^ 62/\-(2 ^ 62)<=j/\j<2 ^ 62/\j-i<=100000)(h:Q (.ref g.length) (g++[.lst (j7 i (j-i).toNat)])):de .kW [.int i,.int j] g Q:=⟨_,_,⟨i,j,rfl,h1,rfl,rfl⟩,h⟩
theorem TV{i:Nat}{ks:List Int}(hl:c8 g i=some (ks.map λk=>.tup [.int k,.bl true]))(hz:ks.length<=1000)(nd:ks.Nodup)(h:Q (.ref g.length) (g++[.dz (ks.map λk=>(.inl k,.bl true))])):de .lg [.ref i] g Q:=⟨_,_,.inr ⟨i,ks,rfl,hl,hz,nd,rfl,rfl⟩,h⟩
theorem ES(hl:c8 g a=some (ns.map .int))(hz:ns.length<600)(h:Q (.ref g.length) (g++[.lst ((o8 ns).map .int)])):de .sset [.ref a] g Q:=⟨_,_,⟨a,ns,rfl,hl,hz,rfl,rfl⟩,h⟩
theorem W6(h:Q (.ref g.length) (g++[.dz []])):de .W6 [] g Q:=⟨_,_,⟨rfl,rfl,rfl⟩,h⟩
theorem max2(h:Q (.int (if j>i then j else i)) g):de .max [.int i,.int j] g Q:=⟨_,_,⟨rfl,.inl ⟨i,j,rfl,rfl⟩⟩,h⟩
theorem Xe{M:Int}(hl:c8 g a=some (ns.map .int))(h1:M∈ns)(h2:∀x∈ns,x<=M)(h:Q (.int M) g):de .max [.ref a] g Q:=⟨_,_,⟨rfl,.inr ⟨a,ns,M,rfl,hl,h1,h2,rfl⟩⟩,h⟩
theorem Ro(hl:c8 g a=some (ns.map .int))(hz:ns.length<600)(h:Q (.ref g.length) (g++[.set (λk=>decide (k∈ns)) (ST.i0 [] ns).length])):de .nS [.ref a] g Q:=⟨_,_,⟨a,ns,rfl,hl,hz,rfl,rfl⟩,h⟩
theorem XN(hl:c8 g a=some (ns.map .int))(h:Q (.int ns.sum) g):de .sum [.ref a] g Q:=⟨_,_,⟨a,ns,rfl,hl,rfl,rfl⟩,h⟩
theorem QN(hl:c8 g a=some (ns.map .int))(hz:ns.length<60)(h:Q (.int (ST.i0 [] ns).length) g):de .qG [.ref a] g Q:=⟨_,_,⟨a,ns,rfl,hl,hz,rfl,rfl⟩,h⟩
theorem Wz(hl:c8 g a=some (ns.map .int))(h:Q (.bl (ns.all λn=>n != 0)) g):de .all [.ref a] g Q:=⟨_,_,⟨a,_,_,rfl,hl,.inr ⟨ns,rfl,rfl⟩,rfl,rfl⟩,h⟩
theorem DZ(c:X3 i j)(h:Q (.int (i*2 ^ j.toNat)) g):de (.bin .LShift) [.int i,.int j] g Q:=⟨_,_,.inl ⟨i,j,_,rfl,⟨c,rfl⟩,rfl,rfl⟩,h⟩
theorem wW(h:Q (.int (Builtin.bitAnd i j)) g):de (.bin .BitAnd) [.int i,.int j] g Q:=⟨_,_,.inl ⟨i,j,_,rfl,rfl,rfl,rfl⟩,h⟩
theorem Vb(h:Q (.int (Builtin.bitOr i j)) g):de (.bin .BitOr) [.int i,.int j] g Q:=⟨_,_,.inl ⟨i,j,_,rfl,rfl,rfl,rfl⟩,h⟩
theorem min2(h:Q (.int (if j<i then j else i)) g):de .min [.int i,.int j] g Q:=⟨_,_,⟨rfl,.inl ⟨i,j,rfl,rfl⟩⟩,h⟩
theorem WS{v:Bool}(h:Q (.int (if v then 1 else 0)) g):de .int [.bl v] g Q:=⟨_,_,⟨rfl,.inr ⟨v,rfl,rfl⟩⟩,h⟩
theorem II{kvs:List D}{x:Str}(hv:O5 kvs x=some v)(h:Q v g):de .oo [.tup kvs,.str x] g Q:=⟨_,_,⟨kvs,x,rfl,hv,rfl⟩,h⟩
theorem Vn(hi:i.natAbs.log2<1920)(h:Q (.str (toString i)) g):de .fv [.int i] g Q:=⟨_,_,⟨rfl,.inl ⟨i,rfl,hi,rfl⟩⟩,h⟩
theorem Rn{x:Str}(hx:U7 l=some x)(h:Q (.str x) g):de .mR l g Q:=⟨_,_,⟨x,hx,rfl,rfl⟩,h⟩
theorem yP{i:Nat}{v:Bool}(hl:c8 g i=some l)(hv:V3 l=some v)(h:Q (.bl v) g):de .all [.ref i] g Q:=⟨_,_,⟨i,l,v,rfl,hl,.inl hv,rfl,rfl⟩,h⟩
theorem i8{i:Nat}{σ:S}{k:S->Prop}(h:k (σ.set i (some x))):ku (.one i) x σ k:=h
theorem C3{is:List Nat}{σ cM:S}{k:S->Prop}(e:E6 is l σ=some cM)(h:k cM):ku (.many is) (.tup l) σ k:=⟨l,cM,rfl,e,h⟩
end
theorem V2:∀(bs:List Bool),V3 (bs.map D.bl)=some (bs.all id):=by
 intro bs
 induction bs with
 |nil=>rfl
 |cons b r ih=>simp[V3,ih]
theorem call_of{T:Nat->Option bo}{k f:Nat}{m:bo}{ds:List D}{Q:KD}(hT:T f=some m)(hl:ds.length=m.ar)(h:wpS (c5 T k) m.body ⟨λ_ g'=>Q .cE g',Q,λ_ _=>False,λ_ _=>False⟩ (d0 m ds) g E):c5 T (k+1) f ds g Q E:=⟨m,hT,hl,h⟩
def IK.Is(k:IK)(l:List D)(g:G):Prop:=∀i,k.at i g=some l[i]?
theorem w6:(IK.fix l).Is l g:=λ_=>rfl
theorem m8(h:c8 g a=some l):(IK.lst a).Is l g:=λi=>by simp only[IK.at,h]
def nk(l:List D):List D:=l.mapIdx λi d=>.tup [.int i,d]
theorem zh(h:c8 g a=some l):(IK.pK a).Is (nk l) g:=λi=>by
 simp only[IK.at,h,nk,List.getElem?_mapIdx]
theorem N8(l:List D):(nk l).length=l.length:=by simp[nk]
theorem zz(h:(nk l)[i]?=some x):∃d,l[i]?=some d/\x=.tup [.int i,d]:=by
 rw[nk,List.getElem?_mapIdx,ae] at h;obtain⟨d,h1,h2⟩:=h;exact⟨d,h1,h2.symm⟩
theorem B7{lo:Int}(h:(j7 lo n)[i]?=some x):i<n/\x=.int (lo+i):=by
 unfold j7 at h;have hi:i<n:=by
  have:=(ax.mp h).1;simpa using this
 rw[ak,bT hi] at h;cases h;exact⟨hi,rfl⟩
theorem m9(lo:Int)(n:Nat):(j7 lo n).length=n:=by simp[j7]
section
variable{P:fP}{σ:S}{N:Ends}{it a c:ME}{s:MS}{t:MT}{Q:KD}
theorem Mh{k:IK}{fin:S->G->Prop}{turn:D->(S->G->Prop)->S->G->Prop}(I:Nat->S->G->Prop)(hk:∀i σ g,I i σ g->k.Is l g)(h0:I 0 σ g)(hs:∀i x σ g,l[i]?=some x->I i σ g->turn x (I (i+1)) σ g)(hd:∀σ g,I l.length σ g->fin σ g):turns k σ g fin turn:=by
 refine⟨λi m σ g=>m=l.length-i/\i<=l.length/\I i σ g,⟨l.length,by simp,cJ _,h0⟩,?_⟩;rintro i m σ g ⟨rfl,hi,p⟩;rw[hk i σ g p i];by_cases dS:i<l.length
 ·rw[ao dS];exact .inr ⟨_,rfl,I (i+1),λcM g' p'=>⟨l.length-(i+1),by omega,rfl,dS,p'⟩,hs i l[i] σ g (ao dS) p⟩
 ·have e:i=l.length:=by omega
  subst e;rw[aQ (av _)];exact .inl ⟨rfl,hd σ g p⟩
inductive xE(P:fP)(t:MT)(s:MS)(N:Ends)(E:KX)(σ:S)(k:IK)(g1:G):Prop
 |mk (l:List D) (I:Nat->S->G->Prop) (hk:∀i σ g,I i σ g->k.Is l g) (h0:I 0 σ g1)
   (hs:∀i x σ g,l[i]?=some x->I i σ g->ku t x σ λcT=>wpS P s ⟨I (i+1),N.rt,N.nx,I (i+1)⟩ cT g E) (hd:∀σ g,I l.length σ g->N.nx σ g):xE P t s N E σ k g1
theorem x8(hP:j6 P)(h:iN P it σ g (xE P t s N E σ) E):wpS P (.dX t it s) N σ g E :=
 C2 hP it _ _ _ _ _ _ (λk g1 hq=>by obtain⟨l,I,hk,h0,hs,hd⟩:=hq;exact Mh I hk h0 hs hd) (λ_ _ z=>z) h
theorem ZO(hn:(n:Int)<2 ^ 62)(I:Nat->S->G->Prop)(h0:I 0 σ g)(hs:∀(i:Nat) σ g,i<n->I i σ g->ku t (.int i) σ λcT=>wpS P s ⟨I (i+1),N.rt,N.nx,I (i+1)⟩ cT g E)(hd:∀σ g,I n σ g->N.nx σ g):wpS P (.dX t (.fh (.lit (.int n))) s) N σ g E:=by
 refine⟨n,rfl,by omega,hn,Mh (l:=j7 0 n) I (λ_ _ _ _=>w6) h0 (λi x σ g hx p=>?_) (λσ g p=>hd σ g (by rw[m9] at p;exact p))⟩;obtain⟨hi,rfl⟩:=B7 hx;have:=hs i σ g hi p;rw[show(0:Int)+(i:Int)=i by omega];exact this
inductive CompI(P:fP)(t:MT)(cond elt:ME)(E:KX)(Q:KD)(σ:S)(k:IK)(g1:G):Prop
 |mk (l:List D) (I:Nat->List D->S->G->Prop) (hl:l.length<=1000) (hk:∀i ys σ g,I i ys σ g->k.Is l g/\ys.length<=i) (h0:I 0 [] σ g1)
   (hs:∀i x ys σ g,l[i]?=some x->I i ys σ g->ku t x σ λcT=>dD P cond cT g (λc g3=>if c=true then bh P elt cT g3 (λy g4=>I (i+1) (ys++[y]) cT g4) E else I (i+1) ys cT g3) ki)
   (hd:∀ys σ g,I l.length ys σ g->Q (.ref g.length) (g++[.lst ys])):CompI P t cond elt E Q σ k g1
theorem L7(hP:j6 P)(h:iN P it σ g (CompI P t cond elt ki Q (J8 σ d5 n)) E):bh P (.comp d5 n t it cond elt) σ g Q E:=by
 refine C2 hP it _ _ _ _ _ _ (λk g1 h=>?_) (λ_ _ z=>z) h;obtain⟨l,I,hl,hk,h0,hs,hd⟩:=h;refine⟨λi m ys σ g=>m=l.length-i/\i<=l.length/\I i ys σ g,⟨l.length,by simp,cJ _,h0⟩,?_⟩;rintro i m ys σ g ⟨rfl,hi,p⟩;obtain⟨oI,hy⟩:=hk i ys σ g p;rw[oI i];by_cases dS:i<l.length
 ·rw[ao dS];refine .inr ⟨_,rfl,by omega,A8 (λcT q=>t8 hP cond _ _ _ _ _ _ (λc g3 q=>?_) (λ_ _ z=>z) q) (hs i l[i] ys σ g (ao dS) p)⟩;cases c
  ·exact⟨l.length-(i+1),by omega,rfl,dS,by simpa using(show I (i+1) ys cT g3 from q)⟩
  ·exact b9 hP elt _ _ _ _ _ _ (λy g4 q=>⟨l.length-(i+1),by omega,rfl,dS,by simpa using q⟩) (λ_ _ z=>z) q
 ·have e:i=l.length:=by omega
  subst e;rw[aQ (av _)];exact .inl ⟨rfl,hd ys σ g p⟩
inductive xw(P:fP)(t:MT)(cond elt:ME)(Q:KD)(σ:S)(k:IK)(g1:G):Prop
 |mk (l:List D) (I:Nat->List Int->S->G->Prop) (hl:l.length<60) (hk:∀i ys σ g,I i ys σ g->k.Is l g/\ys.length<=i) (h0:I 0 [] σ g1)
   (hs:∀i x ys σ g,l[i]?=some x->I i ys σ g->ku t x σ λcT=>dD P cond cT g (λc g3=>if c=true then bh P elt cT g3 (λy g4=>∃j,y=.int j/\I (i+1) (ys++[j]) cT g4) ki else I (i+1) ys cT g3) ki)
   (hd:∀ys σ g,I l.length ys σ g->Q (.ref g.length) (g++[.lst ((o8 ys).map .int)])):xw P t cond elt Q σ k g1
theorem UR(hP:j6 P)(h:iN P it σ g (xw P t cond elt Q (J8 σ d5 n)) E):bh P (.iy d5 n t it cond elt) σ g Q E:=by
 refine C2 hP it _ _ _ _ _ _ (λk g1 h=>?_) (λ_ _ z=>z) h;obtain⟨l,I,hl,hk,h0,hs,hd⟩:=h;refine⟨λi m ys σ g=>m=l.length-i/\i<=l.length/\I i ys σ g,⟨l.length,by simp,cJ _,h0⟩,?_⟩;rintro i m ys σ g ⟨rfl,hi,p⟩;obtain⟨oI,hy⟩:=hk i ys σ g p;rw[oI i];by_cases dS:i<l.length
 ·rw[ao dS];refine .inr ⟨_,rfl,by omega,A8 (λcT q=>t8 hP cond _ _ _ _ _ _ (λc g3 q=>?_) (λ_ _ z=>z) q) (hs i l[i] ys σ g (ao dS) p)⟩;cases c
  ·exact⟨l.length-(i+1),by omega,rfl,dS,by simpa using(show I (i+1) ys cT g3 from q)⟩
  ·refine b9 hP elt _ _ _ _ _ _ (λy g4 q=>?_) (λ_ _ z=>z) q;obtain⟨j,e,q⟩:=q;exact⟨j,e,l.length-(i+1),by omega,rfl,dS,by simpa using q⟩
 ·have e:i=l.length:=by omega
  subst e;rw[aQ (av _)];exact .inl ⟨rfl,by omega,hd ys σ g p⟩
theorem aM2(hP:j6 P)(h:bh P a σ g (λx g1=>∃j:Nat,x=.int j/\j<=1000/\∃I:Nat->List D->S->G->Prop,I 0 [] (J8 σ d5 n) g1/\(∀i ys σ g,I i ys σ g->ys.length<=i) /\
      (∀(i:Nat) ys σ g,i<j->I i ys σ g->ku t (.int i) σ λcT=>dD P cond cT g (λc g3=>if c=true then bh P elt cT g3 (λy g4=>I (i+1) (ys++[y]) cT g4) ki else I (i+1) ys cT g3) ki) /\
      ∀ ys σ g,I j ys σ g->Q (.ref g.length) (g ++ [.lst ys])) E):bh P (.comp d5 n t (.fh a) cond elt) σ g Q E:=by
  refine L7 hP ?_;refine b9 hP a _ _ _ _ _ _ (λx g1 h=>?_) (λ_ _ z=>z) h;obtain⟨j,rfl,hj,I,h0,hz,hs,hd⟩:=h;refine⟨j,rfl,by omega,by omega,_,I,by rw[m9];simpa using hj,λi ys σ g p=>⟨w6,hz i ys σ g p⟩,h0,λi x ys σ g hx p=>?_,λys σ g p=>hd ys σ g (by rw[m9] at p;simpa using p)⟩;obtain⟨hi,rfl⟩:=B7 hx;rw[show(0:Int)+(i:Int)=i by omega];exact hs i ys σ g (by simpa using hi) p
theorem aM1(hP:j6 P)(h:bh P a σ g (λx g1=>∃l,x=.tup l/\l.length<=1000/\∃I:Nat->List D->S->G->Prop,I 0 [] (J8 σ d5 n) g1/\(∀i ys σ g,I i ys σ g->ys.length<=i) /\
      (∀(i:Nat) x ys σ g,l[i]?=some x->I i ys σ g->ku t x σ λcT=>dD P cond cT g (λc g3=>if c=true then bh P elt cT g3 (λy g4=>I (i+1) (ys++[y]) cT g4) ki else I (i+1) ys cT g3) ki) /\
      ∀ ys σ g,I l.length ys σ g->Q (.ref g.length) (g ++ [.lst ys])) E):bh P (.comp d5 n t (.fi a) cond elt) σ g Q E:=by
  refine L7 hP ?_;refine b9 hP a _ _ _ _ _ _ (λx g1 h=>?_) (λ_ _ z=>z) h;obtain⟨l,rfl,hj,I,h0,hz,hs,hd⟩:=h;exact .inl ⟨l,rfl,_,I,hj,λi ys σ g p=>⟨w6,hz i ys σ g p⟩,h0,hs,hd⟩
theorem qD(hP:j6 P)(h:bh P a σ g (λx g1=>∃j:Int,x=.int j/\-(2 ^ 62)<=j/\j<2 ^ 62/\R (.fix (j7 0 j.toNat)) g1) E):iN P (.fh a) σ g R E:=h
theorem vJ(hP:j6 P)(h:bh P a σ g (λx g1=>∃l,x=.tup l/\R (.fix l) g1) E):iN P (.fi a) σ g R E:=by
 exact b9 hP a _ _ _ _ _ _ (λx g1 h=>.inl h) (λ_ _ z=>z) h
theorem kY(hP:j6 P)(h:bh P a σ g (λx g1=>∃i l,x=.ref i/\c8 g1 i=some l/\R (.lst i) g1) E):iN P (.fi a) σ g R E:=by
 exact b9 hP a _ _ _ _ _ _ (λx g1 h=>.inr h) (λ_ _ z=>z) h
theorem AX(h:bh P a σ g (λx g1=>∃i l,x=.ref i/\c8 g1 i=some l/\R (.pK i) g1) E):iN P (.lP a) σ g R E:=h
end
end M
namespace M
open PySem L2 PySem.Spec PyProof.Rows
variable{K:PySem.W.Frag}{x:Str}{C:Addr}
structure RF where
 id:Nat
 nm:Str
 N:List Str
 k:Nat
 i:Nat
 m:bo
structure RM where
 id:Nat
 cl:Str
 nm:Str
 qn:Str
 N:List Str
 k:Nat
 i:Nat
 j:Nat
 m:bo
def RF.d(tp:Nat->Stmt)(r:RF):pS:=⟨r.nm,r.nm,r.N,r.N.take r.k,tp r.i⟩
def RM.d(mt:Nat->Nat->Stmt)(r:RM):pS:=⟨r.nm,r.qn,r.N,r.N.take r.k,mt r.i r.j⟩
def uw(F:List RF)(M:List RM)(i:Nat):Option bo:=match F.find? λr=>Nat.beq r.id i with
 |some r=>some r.m
 |none=>(M.find? λr=>Nat.beq r.id i).map (·.m)
section
variable(tp:Nat->Stmt)(mt:Nat->Nat->Stmt)(K:PySem.W.Frag)
def PF:List RF->Prop
 |[]=>True
 |r::l=>(∃f fd,PySem.W.nsIn K mainGlobals r.nm=some (some (.ref f))/\qN K r.nm r.nm (tp r.i) f fd)/\PF l
def PM:List RM->Prop
 |[]=>True
 |r::l=>(∃C f fd,PySem.W.nsIn K mainGlobals r.cl=some (some (.ref C))/\Meth K C r.nm f/\qN K r.nm r.qn (mt r.i r.j) f fd)/\PM l
def PC:List (Str×Nat)->Prop
 |[]=>True
 |r::l=>(∃C,PySem.W.nsIn K mainGlobals r.1=some (some (.ref C))/\jM K C/\PySem.W.makesIn K C=true/\PySem.W.keepIn K (.ref C)=true)/\PC l
def PA:List (Str×Str)->Prop
 |[]=>True
 |r::l=>(∃C,PySem.W.nsIn K mainGlobals r.2=some (some (.ref C))/\PySem.W.findIn K (.ref C) r.1=some none)/\PA l
def PB:List Str->Prop
 |[]=>True
 |r::l=>PySem.W.nsIn K mainGlobals r=some none/\PB l
def PX:List Str->Prop
 |[]=>True
 |r::l=>(∃C,PySem.W.nsIn K mainGlobals r=some (some (.ref C))/\PySem.W.excIn K C [.type "ValueError",.type "Exception",.type "BaseException",.type "object"] "ValueError.__new__"=true)/\PX l
def BF:List RF->Prop
 |[]=>True
 |r::l=>(∀(kV doc pm:Value) (an:Option Addr) (gh ct:Value) (us:List Value),us.length=(r.N.take r.k).length->bindArgs (PySem.W.fnOf r.nm r.nm (B8 (tp r.i)) (s9 (tp r.i)) (q9 (tp r.i)) .none kV doc pm an gh ct) ⟨us,[]⟩=pure ((r.N.take r.k).zip us))/\BF l
def BM:List RM->Prop
 |[]=>True
 |r::l=>(∀(kV doc pm:Value) (an:Option Addr) (gh ct:Value) (us:List Value),us.length=(r.N.take r.k).length->bindArgs (PySem.W.fnOf r.nm r.qn (B8 (mt r.i r.j)) (s9 (mt r.i r.j)) (q9 (mt r.i r.j)) .none kV doc pm an gh ct) ⟨us,[]⟩=pure ((r.N.take r.k).zip us))/\BM l
def YF(c:i7):List RF->Prop
 |[]=>True
 |r::l=>C0 (comp 60) (c.at (r.d tp)) (s9 (tp r.i))=some r.m.body/\YF c l
def YM(c:i7):List RM->Prop
 |[]=>True
 |r::l=>C0 (comp 60) (c.at (r.d mt)) (s9 (mt r.i r.j))=some r.m.body/\YM c l
end
section
variable{tp:Nat->Stmt}{mt:Nat->Nat->Stmt}{c:i7}{id k i j:Nat}{cl nm qn:Str}{N:List Str}{m:bo}{f:Addr}{oc kV doc pm gh ct:Value}{od an:Option Addr}{nh:Array (Option Value)}
theorem PF.nil:PF tp K []:=trivial
theorem PF.cons{l:List RF}(a:PySem.W.nsIn K mainGlobals nm=some (some (.ref f)))(lk:K.lookup f=some ⟨oc,od,.func (PySem.W.fnOf nm nm (B8 (tp i)) (s9 (tp i)) (q9 (tp i)) .none kV doc pm an gh ct),nh⟩)(cd:PySem.W.codeIn K gh nm=true)(kp:PySem.W.keepIn K (.ref f)=true)(h:PF tp K l):PF tp K (⟨id,nm,N,k,i,m⟩::l):=⟨⟨f,_,a,Kt lk cd kp⟩,h⟩
theorem PM.nil:PM mt K []:=trivial
theorem PM.cons{l:List RM}(c0:PySem.W.nsIn K mainGlobals cl=some (some (.ref C)))(a:PySem.W.findIn K (.ref C) nm=some (some (.ref f)))(af:PySem.W.isFn K (.ref f)=true)(lk:K.lookup f=some ⟨oc,od,.func (PySem.W.fnOf nm qn (B8 (mt i j)) (s9 (mt i j)) (q9 (mt i j)) .none kV doc pm an gh ct),nh⟩)(cd:PySem.W.codeIn K gh qn=true)(kp:PySem.W.keepIn K (.ref f)=true)(h:PM mt K l):PM mt K (⟨id,cl,nm,qn,N,k,i,j,m⟩::l):=⟨⟨C,f,_,c0,⟨a,af,kp⟩,Kt lk cd kp⟩,h⟩
theorem PC.nil:PC K []:=trivial
theorem PC.cons{l:List (Str×Nat)}(cn:PySem.W.nsIn K mainGlobals x=some (some (.ref C)))(cp:PySem.W.plainGet K C Str.empty=true)(Qk:PySem.W.hasDictIn K C=true)(Qh:PySem.W.plainOver K C=true)(Qg:PySem.W.findIn K (.ref C) "__setattr__"=some (some (.builtin "object.__setattr__")))(Qi:PySem.W.makesIn K C=true)(Qj:PySem.W.keepIn K (.ref C)=true)(h:PC K l):PC K ((x,i)::l):=⟨⟨C,cn,⟨cp,Qk,Qh,Qg⟩,Qi,Qj⟩,h⟩
theorem PA.nil:PA K []:=trivial
theorem PA.cons{l:List (Str×Str)}(cn:PySem.W.nsIn K mainGlobals x=some (some (.ref C)))(fl:PySem.W.findIn K (.ref C) nm=some none)(h:PA K l):PA K ((nm,x)::l):=⟨⟨C,cn,fl⟩,h⟩
theorem PB.nil:PB K []:=trivial
theorem PB.cons{l:List Str}(cn:PySem.W.nsIn K mainGlobals x=some none)(h:PB K l):PB K (x::l):=⟨cn,h⟩
theorem PX.nil:PX K []:=trivial
theorem PX.cons{l:List Str}(cn:PySem.W.nsIn K mainGlobals x=some (some (.ref C)))(q:PySem.W.excIn K C [.type "ValueError",.type "Exception",.type "BaseException",.type "object"] "ValueError.__new__"=true)(h:PX K l):PX K (x::l):=⟨⟨C,cn,q⟩,h⟩
theorem FP{P:List Value->Prop}{n:Nat}(h:∀a vs,vs.length=n->P (a::vs))(us:List Value)(hl:us.length=n+1):P us:=by
 cases us with
 |nil=>cases hl
 |cons a vs=>exact h a vs (Nat.succ.inj hl)
theorem FO{P:List Value->Prop}(h:P [])(us:List Value)(hl:us.length=0):P us:=by
 cases List.length_eq_zero_iff.mp hl;exact h
theorem BF.nil:BF tp []:=trivial
theorem BF.cons{l:List RF}(h:∀(kV doc pm:Value) (an:Option Addr) (gh ct:Value) (us:List Value),us.length=(N.take k).length->bindArgs (PySem.W.fnOf nm nm (B8 (tp i)) (s9 (tp i)) (q9 (tp i)) .none kV doc pm an gh ct) ⟨us,[]⟩=pure ((N.take k).zip us))(h2:BF tp l):BF tp (⟨id,nm,N,k,i,m⟩::l):=⟨h,h2⟩
theorem BM.nil:BM mt []:=trivial
theorem BM.cons{l:List RM}(h:∀(kV doc pm:Value) (an:Option Addr) (gh ct:Value) (us:List Value),us.length=(N.take k).length->bindArgs (PySem.W.fnOf nm qn (B8 (mt i j)) (s9 (mt i j)) (q9 (mt i j)) .none kV doc pm an gh ct) ⟨us,[]⟩=pure ((N.take k).zip us))(h2:BM mt l):BM mt (⟨id,cl,nm,qn,N,k,i,j,m⟩::l):=⟨h,h2⟩
theorem YF.nil:YF tp c []:=trivial
theorem YF.cons{l:List RF}(h:C0 (comp 60) (c.at ⟨nm,nm,N,N.take k,tp i⟩) (s9 (tp i))=some m.body)(h2:YF tp c l):YF tp c (⟨id,nm,N,k,i,m⟩::l):=⟨h,h2⟩
theorem YM.nil:YM mt c []:=trivial
theorem YM.cons{l:List RM}(h:C0 (comp 60) (c.at ⟨nm,qn,N,N.take k,mt i j⟩) (s9 (mt i j))=some m.body)(h2:YM mt c l):YM mt c (⟨id,cl,nm,qn,N,k,i,j,m⟩::l):=⟨h,h2⟩
theorem YF.get:∀{l:List RF},YF tp c l->∀r∈l,C0 (comp 60) (c.at (r.d tp)) (s9 (tp r.i))=some r.m.body
 |_::_,h,r,hr=>(aH.mp hr).elim (λz=>z▸h.1) (YF.get h.2 r)
theorem YM.get:∀{l:List RM},YM mt c l->∀r∈l,C0 (comp 60) (c.at (r.d mt)) (s9 (mt r.i r.j))=some r.m.body
 |_::_,h,r,hr=>(aH.mp hr).elim (λz=>z▸h.1) (YM.get h.2 r)
theorem PF.get:∀{l:List RF},PF tp K l->∀r∈l,∃f fd,PySem.W.nsIn K mainGlobals r.nm=some (some (.ref f))/\qN K r.nm r.nm (tp r.i) f fd
 |_::_,h,r,hr=>(aH.mp hr).elim (λz=>z▸h.1) (PF.get h.2 r)
theorem PM.get:∀{l:List RM},PM mt K l->∀r∈l,∃C f fd,PySem.W.nsIn K mainGlobals r.cl=some (some (.ref C))/\Meth K C r.nm f/\qN K r.nm r.qn (mt r.i r.j) f fd
 |_::_,h,r,hr=>(aH.mp hr).elim (λz=>z▸h.1) (PM.get h.2 r)
theorem PC.get:∀{l:List (Str×Nat)},PC K l->∀r∈l,∃C,PySem.W.nsIn K mainGlobals r.1=some (some (.ref C))/\jM K C/\PySem.W.makesIn K C=true/\PySem.W.keepIn K (.ref C)=true
 |_::_,h,r,hr=>(aH.mp hr).elim (λz=>z▸h.1) (PC.get h.2 r)
theorem PA.get:∀{l:List (Str×Str)},PA K l->∀r∈l,∃C,PySem.W.nsIn K mainGlobals r.2=some (some (.ref C))/\PySem.W.findIn K (.ref C) r.1=some none
 |_::_,h,r,hr=>(aH.mp hr).elim (λz=>z▸h.1) (PA.get h.2 r)
theorem PB.get:∀{l:List Str},PB K l->∀r∈l,PySem.W.nsIn K mainGlobals r=some none
 |_::_,h,r,hr=>(aH.mp hr).elim (λz=>z▸h.1) (PB.get h.2 r)
theorem PX.get:∀{l:List Str},PX K l->∀r∈l,∃C,PySem.W.nsIn K mainGlobals r=some (some (.ref C))/\PySem.W.excIn K C [.type "ValueError",.type "Exception",.type "BaseException",.type "object"] "ValueError.__new__"=true
 |_::_,h,r,hr=>(aH.mp hr).elim (λz=>z▸h.1) (PX.get h.2 r)
theorem BF.get:∀{l:List RF},BF tp l->∀r∈l,∀(kV doc pm:Value) (an:Option Addr) (gh ct:Value) (us:List Value),us.length=(r.N.take r.k).length->bindArgs (PySem.W.fnOf r.nm r.nm (B8 (tp r.i)) (s9 (tp r.i)) (q9 (tp r.i)) .none kV doc pm an gh ct) ⟨us,[]⟩=pure ((r.N.take r.k).zip us)
 |_::_,h,r,hr=>(aH.mp hr).elim (λz=>z▸h.1) (BF.get h.2 r)
theorem BM.get:∀{l:List RM},BM mt l->∀r∈l,∀(kV doc pm:Value) (an:Option Addr) (gh ct:Value) (us:List Value),us.length=(r.N.take r.k).length->bindArgs (PySem.W.fnOf r.nm r.qn (B8 (mt r.i r.j)) (s9 (mt r.i r.j)) (q9 (mt r.i r.j)) .none kV doc pm an gh ct) ⟨us,[]⟩=pure ((r.N.take r.k).zip us)
 |_::_,h,r,hr=>(aH.mp hr).elim (λz=>z▸h.1) (BM.get h.2 r)
end
def xU(N P:List Str)(sc:Scope):Bool:=decide (sc.kind=.function)&&!sc.isCoroutine&&!sc.isGenerator&&decide N.Nodup&&decide (N.take P.length=P)&&P.all (λx=>decide (sc.names.lookup x=some .local)||decide (sc.names.lookup x=some .cell))&&sc.names.all λy=>decide (y.2≠.free)
theorem KI{N P:List Str}{sc:Scope}(h:xU N P sc=true):jr N P sc:=by
 unfold xU at h;simp only[Bool.and_eq_true,decide_eq_true_eq,Bool.not_eq_true',List.all_eq_true,Bool.or_eq_true] at h;obtain⟨⟨⟨⟨⟨⟨h1,h2⟩,h3⟩,h4⟩,h5⟩,h6⟩,h7⟩:=h;exact⟨h1,h2,h3,h4,h5,h6,h7⟩
theorem Zo{h₀:Heap}{mg:Str->Option Value}{Iq:List Value}{newId:String}(X:K.In h₀)(G:h₀.Ns mainGlobals mg)(e:PySem.W.nsIn K mainGlobals x=some (some (.ref C)))(q:PySem.W.excIn K C Iq newId=true):PyProof.Rows.OwnCls x C Iq newId mg h₀:=by
 refine⟨cc X G e,?_⟩;unfold PySem.W.excIn at q;split at q
 ·rename_i dd cd sl ho;split at q
  ·rename_i C' bm k0 k1 k2 k3 n k5 hm hs;simp only[Bool.and_eq_true,beq_iff_eq,Bool.not_eq_true'] at q;obtain⟨⟨⟨⟨⟨z1,z2⟩,vV⟩,ht⟩,cq⟩,yh⟩:=q;subst z1;subst z2;obtain⟨nm,bs,mro,ns,qn,hd,sn,sub,ab,col,del⟩:=cd;dsimp only at hm vV cq yh;subst hm vV;have NP:sl=#[k0,k1,k2,k3,some (.builtin n),k5]:=by
    obtain⟨l⟩:=sl;simp only at hs;rw[hs]
   subst NP;exact⟨bm,ns,nm,qn,bs,hd,sn,sub,ab,col,dd,k0,k1,k2,k3,k5,_,X _ _ ho,.of_isNs (PySem.W.isNs_of_in X cq),PySem.W.nsMap_none_of_in X cq yh,PySem.W.tail_of_in X ht⟩
  ·cases q
 ·cases q
def R7(K:PySem.W.Frag)(x:Str):Addr:=match PySem.W.nsIn K mainGlobals x with
 |some (some (.ref C))=>C
 |_=>0
def KY(K:PySem.W.Frag)(exc:List Str):Bool:=exc.all λx=>exc.all λy=>decide (PySem.W.exmOne K (.ref (R7 K x)) (.ref (R7 K y))=some (decide (x=y\/y="MintError")))
theorem Qu{exc:List Str}(h:KY K exc=true){y:Str}{C':Addr}(hx:exc.contains x=true)(hy:exc.contains y=true)(hC:x5 K x C)(BK:x5 K y C'):PySem.W.exmOne K (.ref C) (.ref C')=some (decide (x=y\/y="MintError")):=by
 have h1:=cw.mp h x (by simpa using hx);have h2:=bg (cw.mp h1 y (by simpa using hy));have e1:R7 K x=C:=by unfold R7;rw[show PySem.W.nsIn K mainGlobals x=_ from hC]
 have e2:R7 K y=C':=by unfold R7;rw[show PySem.W.nsIn K mainGlobals y=_ from BK]
 rw[e1,e2] at h2;exact h2
theorem CW{α:Type}{f:α->Nat}:∀{l:List α},(l.map f).Nodup->∀r∈l,l.find? (λx=>Nat.beq (f x) (f r))=some r
 |y::l,nd,r,hr=>by
  rw[bw,eG] at nd;rcases aH.mp hr with rfl|hr
  ·rw[List.find?_cons_of_pos];exact Nat.beq_refl _
  ·rw[List.find?_cons_of_neg]
   ·exact CW nd.2 r hr
   ·intro z;exact nd.1 (aL.mpr ⟨r,hr,(jv z).symm⟩)
theorem Tj{α β:Type}{f:α->Nat}{g:β->Nat}{l:List α}{r:β}(h:g r∉l.map f):l.find? (λx=>Nat.beq (f x) (g r))=none:=by
 rw[kQ];intro x hx z;exact h (aL.mpr ⟨x,hx,jv z⟩)
section
variable{w:World}{h₀:Heap}{mg:Str->Option Value}{c:i7}{F:List RF}{M:List RM}{tp:Nat->Stmt}{mt:Nat->Nat->Stmt}
structure mn(K:PySem.W.Frag)(c:i7)(F:List RF)(M:List RM)(tp:Nat->Stmt)(mt:Nat->Nat->Stmt):Prop where
 qF:PF tp K F
 qM:PM mt K M
 qC:PC K c.cls
 qA:PA K c.pF
 qB:PB K c.blt
 qX:PX K c.exc
 xm:KY K c.exc=true
structure ml(c:i7)(F:List RF)(M:List RM)(tp:Nat->Stmt)(mt:Nat->Nat->Stmt):Prop where
 cf:c.fns=F.map λr=>(r.nm,r.id)
 cm:c.rG=M.map λr=>(r.nm,r.cl,r.id)
 ci:c.cls.all (λy=>M.any λr=>decide (r.cl=y.1)&&decide (r.nm="__init__")&&Nat.beq r.id y.2)=true
 nd:(F.map (·.id)++M.map (·.id)).Nodup
 sF:F.all (λr=>xU r.N (r.N.take r.k) (q9 (tp r.i))&&decide (r.m.ar=(r.N.take r.k).length)&&decide (r.m.n=r.N.length))=true
 sM:M.all (λr=>xU r.N (r.N.take r.k) (q9 (mt r.i r.j))&&decide (r.m.ar=(r.N.take r.k).length)&&decide (r.m.n=r.N.length))=true
 oF:YF tp c F
 oM:YM mt c M
 bF:BF tp F
 bM:BM mt M
theorem Lo(I:mn K c F M tp mt)(X:ml c F M tp mt)(r:RF)(hr:r∈F):∃f fd,kl K c (r.d tp) r.m f fd/\PySem.W.nsIn K mainGlobals r.nm=some (some (.ref f))/\uw F M r.id=some r.m:=by
 obtain⟨f,fd,a,q⟩:=I.qF.get r hr;have s:=cw.mp X.sF r hr;simp only[Bool.and_eq_true,decide_eq_true_eq] at s;have o:=X.oF.get r hr;refine⟨f,fd,⟨q,q.binds (X.bF.get r hr),KI s.1.1,o,s.1.2,s.2⟩,a,?_⟩;unfold uw;rw[CW (f:=(·.id)) (cY.mp X.nd).1 r hr]
theorem Lp(I:mn K c F M tp mt)(X:ml c F M tp mt)(r:RM)(hr:r∈M):∃C f fd,kl K c (r.d mt) r.m f fd/\PySem.W.nsIn K mainGlobals r.cl=some (some (.ref C))/\Meth K C r.nm f/\uw F M r.id=some r.m:=by
 obtain⟨C,f,fd,a,q1,q⟩:=I.qM.get r hr;have s:=cw.mp X.sM r hr;simp only[Bool.and_eq_true,decide_eq_true_eq] at s;have o:=X.oM.get r hr;refine⟨C,f,fd,⟨q,q.binds (X.bM.get r hr),KI s.1.1,o,s.1.2,s.2⟩,a,q1,?_⟩;have nd:=cY.mp X.nd;unfold uw;rw[Tj (f:=λr:RF=>r.id) (g:=λr:RM=>r.id) (r:=r) (λz=>nd.2.2 _ z _ (aL.mpr ⟨r,hr,rfl⟩) rfl),CW (f:=λr:RM=>r.id) nd.2.1 r hr]
 rfl
theorem SI(I:mn K c F M tp mt)(Y:ml c F M tp mt)(X:K.In h₀)(G:h₀.Ns mainGlobals mg)(con:∀x d,c.con.lookup x=some d->∃v u,mg x=some u/\RelV v u/\∀ρ H,d8 K ρ H d v)(sD:∀x kvs,c.gd.lookup x=some kvs->∃A vs,mg x=some (.ref A)/\wV K w.params A vs/\qx K kvs vs):ou w K mg c (uw F M):=by
 refine⟨λx i hx=>?_,λx i hx=>?_,λx y i C hx hC=>?_,λf y C hx hC=>?_,con,λx hx=>?_,λx hx=>?_,λx y C C' hx hy hC BK=>Qu I.xm hx hy hC BK,sD⟩
 ·have hm:=aT hx;rw[Y.cf] at hm;obtain⟨r,hr,e⟩:=aL.mp hm;cases e;obtain⟨f,fd,O,a,t⟩:=Lo I Y r hr;exact⟨_,_,f,fd,t,O,cc X G a⟩
 ·have hm:=aT hx;have h1:=cw.mp Y.ci _ hm;obtain⟨r,hr,e⟩:=aU.mp h1;simp only[Bool.and_eq_true,decide_eq_true_eq] at e;obtain⟨⟨e1,e2⟩,e3⟩:=e;have e3:=jv e3;obtain⟨C,f,fd,O,a,q,t⟩:=Lp I Y r hr;obtain⟨C',a',hc,mk,kp⟩:=I.qC.get _ hm;rw[e1] at a;cases a.symm.trans a';rw[e2] at q;rw[e3] at t;exact⟨C,_,_,f,fd,t,O,cc X G a,a,hc,⟨mk,q.at_,q.fn,kp⟩⟩
 ·rw[Y.cm] at hx;obtain⟨r,hr,e⟩:=aL.mp hx;cases e;obtain⟨C',f,fd,O,a,q,t⟩:=Lp I Y r hr;cases a.symm.trans hC;exact⟨_,_,f,fd,t,O,q⟩
 ·obtain⟨C',a,q⟩:=I.qA.get _ hx;cases a.symm.trans hC;exact q
 ·exact PySem.W.mg_none_of X G (I.qB.get x (by simpa using hx))
 ·obtain⟨C,a,q⟩:=I.qX.get x (by simpa using hx);exact⟨_,cc X G a,a,λbase oE wx=>⟨_,_,_,_,Zo oE wx a q,PySem.F.excBase_ValueError⟩⟩
end
end M
namespace M
open PySem L2
variable{g g':G}{i j n k a b c p hl:Nat}{o o':O}{P:fP}{Q:KD}{E:KX}{N:Ends}{ms ns:List Int}{l:List D}{α β:Type}{r f v:Int}{x:D}{kvs:List (Key×D)}{cs:List b7}{kb:Bool->Prop}{rs:List gL}{w:RW}{L H:List Nat}
set_option hygiene false
local macro_rules|`(tactic|walk_at"w1")=>`(tactic|with_reducible first|refine O7 ?_|refine zc ?_|refine xa ?_|refine EA ?_|refine SQ ?_|refine Yg ?_|refine Lv ?_|refine SV ?_|refine Jg ?_|refine L5 ?_|refine Aw ?_|(refine w_var (d:=?_) ?_ ?_;rotate_left;·with_unfolding_all rfl)|refine w_lit ?_|refine Ad ?_|refine Ir ?_|refine Wv ?_|refine SU ?_|refine UP ?_|refine w_and ?_|refine w_or ?_|refine w_not ?_|refine w_ite ?_|refine CK ?_|refine SR ?_|refine xO ?_|refine Ez ?_|refine xj ?_|refine SW ?_|refine Yf ?_|refine SX ?_|refine Jh ?_|refine Ji ?_|refine Wx ?_|refine Wy ?_|refine Yd ?_|refine Vk ?_|refine Vj ?_|refine Vi ?_|refine Vh ?_|refine WC ?_|refine WH ?_|refine WB ?_|refine HJ ?_|refine WD ?_|refine HP ?_|refine HN ?_|refine WG ?_|refine HL ?_|refine HK ?_|refine HM ?_|refine HW ?_|refine WE ?_|refine HU ?_|refine HQ ?_|refine HS ?_|refine IC ?_|refine Ws ?_|refine CT ?_|refine Qz ?_|refine ni ?_|refine qE ?_|refine Ib ?_|refine Vu ?_|refine Gz ?_|refine AF ?_|refine AD ?_|refine AE ?_|refine Ga ?_|refine Gx ?_|refine FQ ?_)
local macro_rules|`(tactic|walk_at"w2")=>`(tactic|repeat(with_reducible first|walk_at "w1"|refine En (by simp) ?_|refine Em (by simp) ?_|refine n9 (a8 (by assumption)) (by with_unfolding_all rfl) ?_|refine J5 (a8 (by assumption)) ?_|refine yO (by unfold X3;decide) ?_))
local macro_rules|`(tactic|walk_at"w3")=>`(tactic|repeat(with_reducible first|walk_at "w1"|refine En (by simp) ?_|refine Em (by simp) ?_|refine n9 (a8 (by assumption)) (by with_unfolding_all rfl) ?_|refine J5 (a8 (by assumption)) ?_|refine yO (by unfold X3;decide) ?_|refine And.intro (show List.length _ <= 1000 from by simp) ?_|refine C3 (by with_unfolding_all rfl) ?_|refine i8 ?_|refine v9 (by with_unfolding_all rfl) ?_))
local macro_rules|`(tactic|walk_at"")=>`(tactic|repeat(with_reducible first|walk_at "w1"|refine UQ ?_|refine FN ?_|refine SS ?_|refine HH ?_|refine XZ ?_|refine FR ?_|refine max2 ?_|refine min2 ?_|refine WS ?_|refine W6 ?_|refine Pu ?_|refine Ht ?_|refine En (by simp) ?_|refine Em (by simp) ?_|refine n9 (a8 (by assumption)) (by with_unfolding_all rfl) ?_|refine J5 (a8 (by assumption)) ?_|refine yO (by unfold X3;decide) ?_|refine And.intro (show List.length _ <= 1000 from by simp) ?_|refine C3 (by with_unfolding_all rfl) ?_|refine i8 ?_|refine v9 (by with_unfolding_all rfl) ?_|refine And.intro (xf (by assumption)) ?_|refine And.intro (QV (by assumption)) ?_|refine And.intro (VD (by assumption)) ?_|refine R0 (by decide) ?_|refine Ml (by decide) (by decide) ?_|refine AX ?_))
set_option hygiene true
abbrev fN(a:ME):ME:=.cons a .nil
abbrev dQ(a b:ME):ME:=.cons a (.cons b .nil)
abbrev iD(a b c:ME):ME:=.cons a (.cons b (.cons c .nil))
abbrev oA(a b c d:ME):ME:=.cons a (.cons b (.cons c (.cons d .nil)))
abbrev uU(a b c d e:ME):ME:=.cons a (.cons b (.cons c (.cons d (.cons e .nil))))
abbrev Hq(a b c d e f:ME):ME:=.cons a (.cons b (.cons c (.cons d (.cons e (.cons f .nil)))))
abbrev Ce(a b c d e f g:ME):ME:=.cons a (.cons b (.cons c (.cons d (.cons e (.cons f (.cons g .nil))))))
abbrev eB(o:PySem.CmpOp)(a b:ME):ME:=.fR (.prim (.cmp o) (.cons a (.cons b .nil)))
abbrev dh(a b:ME):ME:=.prim .ix (.cons a (.cons b .nil))
abbrev aZ(a:Int):ME:=.lit (.int a)
abbrev iS(a:PySem.Str):ME:=.lit (.str a)
abbrev dA(p:Pr)(a:ME):ME:=.prim p (.cons a .nil)
abbrev bP(p:Pr)(a b:ME):ME:=.prim p (.cons a (.cons b .nil))
abbrev aM:ME:=.var 0
abbrev bq:ME:=.var 1
abbrev nR:ME:=.var 10
abbrev lY:ME:=.var 12
abbrev vD:ME:=.var 13
abbrev qb:ME:=.var 15
abbrev vC:ME:=.var 16
abbrev bC:ME:=.var 2
abbrev bN:ME:=.var 3
abbrev dj:ME:=.var 4
abbrev fm:ME:=.var 5
abbrev fM:ME:=.var 6
abbrev gz:ME:=.var 7
abbrev kz:ME:=.var 8
abbrev vB:ME:=.var 9
def C8:bo:=⟨2,5,(.seq (.ifs (.dM (eB .Lt (dh aM (aZ 2)) bq) (eB .Lt (dh aM (aZ 1)) (dA .len (dh aM (aZ 0))))) (.seq (.set 2 (dh (dh aM (aZ 0)) (dh aM (aZ 1)))) (.seq (.fg aM (aZ 1) (bP (.bin .Add) (dh aM (aZ 1)) (aZ 1))) (.seq (.fg aM (aZ 2) (aZ 0)) (.seq (.ifs (eB .GtE bC (bP (.bin .Pow) (aZ 10) (aZ 18))) (.seq (.fg aM (aZ 2) bC) .pass) (.seq (.fg aM (aZ 3) (bP (.bin .Mod) (bP (.bin .Add) (bP (.bin .Add) (bP (.bin .Mult) (dh aM (aZ 3)) (aZ 48271)) (bP (.bin .Mult) (bP (.bin .Mod) bC (aZ 2147483629)) (aZ 69621))) (aZ 12345)) (aZ 2147483647))) .pass)) .pass)))) .pass) (.seq (.ifs (eB .GtE (dh aM (aZ 2)) bq) (.seq (.set 3 (bP (.bin .Mod) (dh aM (aZ 2)) bq)) (.seq (.fg aM (aZ 2) (bP (.bin .FloorDiv) (dh aM (aZ 2)) bq)) (.seq (.ret bN) .pass))) .pass) (.seq (.set 4 (dh aM (aZ 3))) (.seq (.fg aM (aZ 3) (bP (.bin .Mod) (bP (.bin .Add) (bP (.bin .Add) (bP (.bin .Mult) (bP (.bin .Mod) (bP (.bin .Mult) dj dj) (aZ 2147483629)) (aZ 5)) (bP (.bin .Mult) dj (aZ 16811))) (aZ 2531011)) (aZ 2147483647))) (.seq (.ret (bP (.bin .Mod) (bP (.bin .Add) (bP (.bin .FloorDiv) (dh aM (aZ 3)) (aZ 59)) (bP (.bin .Mult) (bP (.bin .Mod) (dh aM (aZ 3)) (aZ 8191)) (aZ 31))) bq)) .pass)))))⟩
def uv:bo:=⟨1,2,(.seq (.set 1 (.call 4 (dQ aM (bP (.bin .Pow) (aZ 10) (aZ 9))))) (.seq (.ifs (eB .Eq (.call 4 (dQ aM (aZ 2))) (aZ 0)) (.seq (.set 1 (bP (.bin .Add) bq (bP (.bin .Pow) (aZ 10) (aZ 25)))) .pass) .pass) (.seq (.ifs (eB .Eq (.call 4 (dQ aM (aZ 2))) (aZ 0)) (.seq (.ret (bP (.bin .Sub) (dA (.un .USub) (aZ 1)) bq)) .pass) .pass) (.seq (.ret bq) .pass))))⟩
structure i9(g:G)(d:Nat):Prop where
 ex:∃(s:Nat) (p b r:Int) (xs:List Int),g[d]?=some (.lst [.ref s,.int p,.int b,.int r])/\g[s]?=some (.lst (xs.map .int))/\s<d/\0<=p/\0<=b/\0<=r/\r<2147483647
structure Gr(d:Nat)(g g':G):Prop where
 len:g.length<=g'.length
 old:∀i,i≠d->i<g.length->g'[i]?=g[i]?
theorem Gr.refl(d:Nat)(g:G):Gr d g g:=⟨av _,λ_ _ _=>rfl⟩
theorem Gr.trans{d:Nat}{g g1 g2:G}(a:Gr d g g1)(b:Gr d g1 g2):Gr d g g2:=⟨aF a.len b.len,λi h1 h2=>(b.old i h1 (az h2 a.len)).trans (a.old i h1 h2)⟩
theorem Gr.set(d:Nat)(g:G)(o:O):Gr d g (g.set d o):=⟨by simp,λi h1 h2=>aC (cu h1)⟩
theorem Gr.snoc(d:Nat)(g:G)(o:O):Gr d g (g++[o]):=⟨by simp,λi h1 h2=>aO h2⟩
theorem Gr.at{d:Nat}(h:Gr d g g')(hi:i≠d)(e:g[i]?=some o):g'[i]?=some o:=(h.old i hi (ax.mp e).1).trans e
theorem n6(h:g[i]?=some o):i<g.length:=(ax.mp h).1
theorem i9.lt{d:Nat}(h:i9 g d):d<g.length:=by
 obtain⟨_,_,_,_,_,e,_⟩:=h.ex;exact n6 e
theorem i9.snoc{d:Nat}(h:i9 g d)(o:O):i9 (g++[o]) d:=by
 obtain⟨s,p,b,r,xs,e1,e2,q⟩:=h.ex;exact⟨s,p,b,r,xs,by rw[aO (n6 e1)];exact e1,by rw[aO (n6 e2)];exact e2,q⟩
def j5:MS->MS
 |.seq _ b=>b
 |x=>x
theorem EI{i j:Int}(h1:-(2 ^ 64)<i)(h2:i<2 ^ 64):sQ i j:=.inl ⟨h1,h2⟩
theorem Y4{i j:Int}(h1:-(2 ^ 64)<j)(h2:j<2 ^ 64):sQ i j:=.inr ⟨h1,h2⟩
theorem Zz{d:Nat}{n:Int}{c2:Option D}(hN:N.rt=Q)(D0:i9 g d)(hn:0<n)(nj:n<1073741824)(h:∀r g',0<=r->r<n->i9 g' d->Gr d g g'->Q (.int r) g'):wpS P (j5 C8.body) N [some (.ref d),some (.int n),c2,none,none] g E:=by
 obtain⟨s,p,b,r,xs,e1,e2,pj,hp,hb,hr,qe⟩:=D0.ex;have dS:=n6 e1;subst hN;dsimp[C8,j5];walk_at "w2";refine if2 (λc=>?_) (λc=>?_)
 ·walk_at "w2";refine R0 hn ?_;walk_at "w2";refine yN ⟨hn,nj⟩ ?_;walk_at "w2";refine U1 e1 (by with_unfolding_all rfl) ?_;walk_at "w2";refine h _ _ (fq _ ()) (et _ hn) ⟨s,p,b / n,r,xs,?_,?_,pj,hp,Int.ediv_nonneg hb (),hr,qe⟩ (Gr.set d g _)
  ·rw[bf dS];rfl
  ·rw[aC (bV pj)];exact e2
 ·walk_at "w2";have Gb:-(2 ^ 64)<r/\r<2 ^ 64:=⟨by omega,by omega⟩
  refine Q9 (EI Gb.1 Gb.2) ?_;walk_at "w2";refine R0 ∅ ?_;walk_at "w2";refine Q9 (Y4 ∅ ∅) ?_;walk_at "w2";refine Q9 (Y4 ∅ ∅) ?_;walk_at "w2";refine R0 ∅ ?_;walk_at "w2";refine U1 e1 (by with_unfolding_all rfl) ?_;generalize fe:(r*r % 2147483629*5+r*16811+2531011) % 2147483647=r';have q0:0<=r':=by rw[<- fe];exact fq _ ∅
  have q1:r'<2147483647:=by rw[<- fe];exact et _ ∅
  have Qd:(g.set d (.lst [.ref s,.int p,.int b,.int r']))[d]?=some (.lst [.ref s,.int p,.int b,.int r']):=bf dS;show wpS P _ _ _ (g.set d (.lst [.ref s,.int p,.int b,.int r'])) E;walk_at "w2";refine yN ⟨by decide,by decide⟩ ?_;walk_at "w2";refine R0 ∅ ?_;walk_at "w2";refine Q9 (Y4 ∅ ∅) ?_;walk_at "w2";refine R0 hn ?_;walk_at "w2";refine h _ _ (fq _ ()) (et _ hn) ⟨s,p,b,r',xs,Qd,?_,pj,hp,hb,q0,q1⟩ (Gr.set d g _);rw[aC (bV pj)];exact e2
theorem f7{T:Nat->Option bo}(hT:T 4=some C8){d:Nat}{n:Int}(D0:i9 g d)(hn:0<n)(nj:n<1073741824)(h:∀r g',0<=r->r<n->i9 g' d->Gr d g g'->Q (.int r) g'):c5 T (k+1) 4 [.ref d,.int n] g Q E:=by
 obtain⟨s,p,b,r,xs,e1,e2,pj,hp,hb,hr,qe⟩:=D0.ex;have dS:=n6 e1;refine call_of hT rfl ?_;have tail:∀(g':G) (c2:Option D),i9 g' d->Gr d g g'->wpS (c5 T k) (j5 C8.body) ⟨λ_ g'=>Q .cE g',Q,λ_ _=>False,λ_ _=>False⟩ [some (.ref d),some (.int n),c2,none,none] g' E :=
  λg' c2 D1 gr=>Zz rfl D1 hn nj λr g2 a b c e=>h r g2 a b c (gr.trans e)
 dsimp[C8,d0,List.replicate];walk_at "w2";refine if2 (λc=>?_) (λc=>?_)
 ·walk_at "w2";refine if2 (λc'=>?_) (λc'=>?_)
  ·walk_at "w2";have gn:p.toNat<xs.length:=by
    rw[ag] at c';omega
   have ea:gF (xs.map D.int) p=some (.int xs[p.toNat]):=by
    have:=J9 (xs:=xs.map D.int) (j:=p.toNat) (v:=.int xs[p.toNat]) (by rw[ak,ao gn];rfl)
    rwa [show((p.toNat:Nat):Int)=p by omega] at this
   refine n9 (a8 e2) ea ?_;generalize xs[p.toNat]=cell;walk_at "w2";refine U1 e1 (by with_unfolding_all rfl) ?_;have f1:(g.set d (.lst [.ref s,.int (p+1),.int b,.int r]))[d]?=some (.lst [.ref s,.int (p+1),.int b,.int r]):=bf dS;show wpS (c5 T k) _ _ _ (g.set d (.lst [.ref s,.int (p+1),.int b,.int r])) E;walk_at "w2";refine U1 f1 (by with_unfolding_all rfl) ?_;rw[jb];have f2:(g.set d (.lst [.ref s,.int (p+1),.int 0,.int r]))[d]?=some (.lst [.ref s,.int (p+1),.int 0,.int r]):=bf dS;show wpS (c5 T k) _ _ _ (g.set d (.lst [.ref s,.int (p+1),.int 0,.int r])) E;walk_at "w2";refine if2 (λc2=>?_) (λc2=>?_)
   ·walk_at "w2";refine U1 f2 (by with_unfolding_all rfl) ?_;rw[jb];refine tail _ _ ⟨s,p+1,cell,r,xs,bf dS,by rw[aC (bV pj)];exact e2,pj,by omega,?_,hr,qe⟩ (Gr.set d g _);have:(10:Int) ^ (18:Int).toNat<=cell:=c2;have Ho:(0:Int)<=10 ^ (18:Int).toNat:=by decide
    omega
   ·walk_at "w2";refine Q9 (Y4 ∅ ∅) ?_;walk_at "w2";refine R0 ∅ ?_;walk_at "w2";refine Q9 (Y4 ∅ ∅) ?_;walk_at "w2";refine R0 ∅ ?_;walk_at "w2";refine U1 f2 (by with_unfolding_all rfl) ?_;rw[jb];exact tail _ _ ⟨s,p+1,0,_,xs,bf dS,by rw[aC (bV pj)];exact e2,pj,by omega,by decide,fq _ ∅,et _ ∅⟩ (Gr.set d g _)
  ·walk_at "w1";exact tail _ _ D0 (Gr.refl _ _)
 ·walk_at "w1";walk_at "w1";exact tail _ _ D0 (Gr.refl _ _)
theorem Qv{T:Nat->Option bo}(hT:T 4=some C8)(OF:T 5=some uv){d:Nat}(D0:i9 g d)(h:∀r g',i9 g' d->Gr d g g'->Q (.int r) g'):c5 T (k+2) 5 [.ref d] g Q E:=by
 refine call_of OF rfl ?_;dsimp[uv,d0,List.replicate];walk_at "w2";refine f7 hT D0 ∅ ∅ λr1 g1 _ _ D1 G1=>?_;walk_at "w2";refine f7 hT D1 ∅ ∅ λr2 g2 _ _ D2 G2=>?_;walk_at "w2";have lp:=G1.trans G2;have last:∀(x:Int),wpS (c5 T (k+1)) (j5 (j5 uv.body)) ⟨λ_ g'=>Q .cE g',Q,λ_ _=>False,λ_ _=>False⟩ [some (.ref d),some (.int x)] g2 E:=λx=>by
  dsimp[uv,j5];walk_at "w2";refine f7 hT D2 ∅ ∅ λr3 g3 _ _ D3 G3=>?_;walk_at "w2";refine if2 (λc=>?_) (λc=>?_)
  ·walk_at "w2";exact h _ _ D3 (lp.trans G3)
  ·walk_at "w2";exact h _ _ D3 (lp.trans G3)
 refine if2 (λc=>?_) (λc=>?_)
 ·refine O7 ?_;refine xa ?_;refine Ad ?_;walk_at "w1";refine Ad ?_;walk_at "w1";walk_at "w1";refine yO (by unfold X3;decide) ?_;walk_at "w1";exact last _
 ·exact last _
def DH:bo:=⟨1,1,(.seq (.ret (.dM (bP .isin aM (.lit (.ty "int"))) (.eR (bP .isin aM (.lit (.ty "bool")))))) .pass)⟩
def V6:bo:=⟨3,3,(.seq (.ret (.dM (.call 38 (fN aM)) (.chain .LtE .LtE bq aM bC))) .pass)⟩
structure NF(T:Nat->Option bo):Prop where
 nf:T 1=some V6
 is:T 38=some DH
def I9:bo:=⟨1,3,(.seq (.set 1 (aZ 0)) (.seq (.dX (.one 2) (.fi aM) (.seq (.ifs (.eR (.fR (.call 1 (iD bC bq (aZ 7))))) (.seq (.ret (.lit (.bl false))) .pass) .pass) (.seq (.set 1 (bP (.bin .Add) bC (aZ 1))) .pass))) (.seq (.ret (.lit (.bl true))) .pass)))⟩
def yY:bo:=⟨1,1,(.seq (.ret (.prim .lst (oA (dA .list (bP (.lL false true) aM (aZ 63))) (aZ 0) (aZ 0) (aZ 29)))) .pass)⟩
def zZ:bo:=⟨1,1,(.seq (.ret (.dM (bP .isin aM (.lit (.ty "int"))) (.eR (bP .isin aM (.lit (.ty "bool")))))) .pass)⟩
def yX:bo:=⟨2,2,(.seq (.ifs (eB .Is bq (.lit .cE)) (.seq (.ret (bP (.cmp .Is) aM (.lit .cE))) .pass) .pass) (.seq (.ifs (.fR (bP .isin bq (.lit (.ty "bool")))) (.seq (.ret (.dM (bP .isin aM (.lit (.ty "bool"))) (bP (.cmp .Eq) aM bq))) .pass) .pass) (.seq (.ifs (.fR (bP .isin bq (.lit (.ty "int")))) (.seq (.ret (.dM (.call 6 (fN aM)) (bP (.cmp .Eq) aM bq))) .pass) .pass) (.seq (.ifs (.fR (bP .isin bq (.lit (.ty "str")))) (.seq (.ret (.dM (bP .isin aM (.lit (.ty "str"))) (bP (.cmp .Eq) aM bq))) .pass) .pass) (.seq (.ifs (.jN (eB .NotEq (bP .isin bq (.lit (.ty "tuple"))) (bP .isin aM (.lit (.ty "tuple")))) (eB .NotEq (bP .isin bq (.lit (.ty "list"))) (bP .isin aM (.lit (.ty "list"))))) (.seq (.ret (.lit (.bl false))) .pass) .pass) (.seq (.ifs (eB .NotEq (dA .len aM) (dA .len bq)) (.seq (.ret (.lit (.bl false))) .pass) .pass) (.seq (.ret (dA .all (.comp [1,0] 4 (.one 3) (.fh (dA .len bq)) .no (.call 7 (dQ (dh bq bN) (dh aM bN)))))) .pass)))))))⟩
theorem L3{g:G}{n:Nat}:∀ms:List Int,(ms.map D.int).mapM (rd g n)=some (ms.map PyData.int)
 |[]=>rfl
 |m::r=>by
  rw[bw,List.mapM_cons,L3 r];cases n<;>rfl
theorem lay_ints:∀ms:List Int,PyData.canLayAll0 (ms.map PyData.int)=true
 |[]=>by simp[PyData.canLayAll0]
 |m::r=>by simp[PyData.canLayAll0,PyData.canLay0,lay_ints r]
theorem W5:∀ms ns:List Int,PyData.eqvAll (ms.map PyData.int) (ns.map PyData.int)=decide (ms=ns)
 |[],[]=>by simp[PyData.eqvAll]
 |[],_::_=>by simp[PyData.eqvAll]
 |_::_,[]=>by simp[PyData.eqvAll]
 |m::r,n::q=>by
  simp only[List.map_cons,PyData.eqvAll,PyData.eqv,W5 r q];by_cases h:m=n
  ·subst h;simp
  ·simp[h]
theorem DC{i:Int}{k:Bool->Prop}(h:k (ms.any λm=>m==i)):rL g (.int i) (.tup (ms.map .int)) k:=by
 refine⟨_,.inr ⟨_,_,_,rfl,L3 ms,rfl,lay_ints ms,by simp[PyData.canLay0],rfl⟩,?_⟩;rw[lI];exact h
theorem YW{k:Bool->Prop}(ha:c8 g a=some (ms.map .int))(hb:c8 g b=some (ns.map .int))(h:k (decide (ms=ns))):sJ g (.ref a) (.ref b) k:=by
 refine⟨_,.inr (.inr (.inr ⟨.list (ms.map .int),.list (ns.map .int),?_,?_,?_,?_,rfl⟩)),?_⟩
 ·simp only[rd];rw[ha];dsimp only;rw[L3];rfl
 ·simp only[rd];rw[hb];dsimp only;rw[L3];rfl
 ·simp[PyData.canLay0,lay_ints]
 ·simp[PyData.canLay0,lay_ints]
 ·simp only[PyData.eqv,W5];exact h
section
variable{T:Nat->Option bo}{d:Nat}
theorem Km(h1:NF T){i:Int}(h:Q (.bl true) g):c5 T (k+1) 38 [.int i] g Q E:=by
 refine call_of h1.is rfl ?_;dsimp[DH,d0,List.replicate];walk_at "w2";refine rK (c:="int") (b:=true) ∅ rfl ?_;walk_at "w2";refine rK (c:="bool") (b:=false) ∅ rfl ?_;walk_at "w2";exact h
theorem A7(h1:NF T){i l m:Int}(h:Q (.bl (decide (l<=i)&&decide (i<=m))) g):c5 T (k+2) 1 [.int i,.int l,.int m] g Q E:=by
 refine call_of h1.nf rfl ?_;dsimp[V6,d0,List.replicate];walk_at "w2";refine Km h1 ?_;walk_at "w2";refine if2 (λc=>?_) (λc=>?_)
 ·rw[aw c] at h;walk_at "w2";exact h
 ·rw[aD c] at h;exact h
def gm:Int->List Int->Bool
 |_,[]=>true
 |l,x::r=>(decide (l<=x)&&decide (x<=7))&&gm (x+1) r
theorem Kp(h1:NF T)(h2:T 2=some I9)(h:Q (.bl (gm 0 ms)) g):c5 T (k+3) 2 [.tup (ms.map .int)] g Q E:=by
 refine call_of h2 rfl ?_;dsimp[I9,d0,List.replicate];walk_at "w2";refine x8 (a9 T _) (vJ (a9 T _) ?_);walk_at "w2";refine⟨_,rfl,_,λi σ g'=>g'=g/\∃(l:Int) (z:Option D),σ=[some (.tup (ms.map .int)),some (.int l),z]/\gm 0 ms=gm l (ms.drop i),λ_ _ _ _=>w6,⟨rfl,0,none,rfl,rfl⟩,λi x σ g' hx p=>?_,λσ g' p=>?_⟩
 ·obtain⟨rfl,l,z,rfl,e⟩:=p;rw[ak] at hx;cases em:ms[i]? with
  |none=>rw[em] at hx;cases hx
  |some m =>
   rw[em] at hx;cases hx;have hi:=(ax.mp em).1;have ed:ms.drop i=m::ms.drop (i+1):=by
    rw[fc hi]
    congr 1
    exact(ax.mp em).2
   rw[ed] at e;simp only[gm] at e;show wpS _ _ _ _ _ _;walk_at "w2";refine A7 h1 ?_;walk_at "w2";cases hc:(decide (l<=m)&&decide (m<=7)) with
   |true =>
    rw[hc,kI] at e;show wpS _ _ _ _ _ _;walk_at "w2";exact⟨rfl,m+1,some (.int m),rfl,e⟩
   |false =>
    rw[hc,Bool.false_and] at e;rw[e] at h;show wpS _ _ _ _ _ _;walk_at "w2";exact h
 ·obtain⟨rfl,l,z,rfl,e⟩:=p;rw[uO (by simp)] at e;simp only[gm] at e;rw[e] at h;show wpS _ _ _ _ _ _;walk_at "w2";exact h
theorem TU(h3:T 3=some yY)(hg:g[a]?=some (.pE (ns.map .int)))(h:∀d g',i9 g' d->g.length<=d->(∀i,i<g.length->g'[i]?=g[i]?)->Q (.ref d) g'):c5 T (k+1) 3 [.ref a] g Q E:=by
 refine call_of h3 rfl ?_;dsimp[yY,d0,List.replicate];walk_at "w2";refine zp (Zc hg) ?_;walk_at "w2";refine Eg (l:=cut (ns.map D.int) none (some 63)) (a8 (by simp)) ?_;walk_at "w2";have ec:cut (ns.map D.int) none (some 63)=(cut ns none (some 63)).map D.int:=by
  unfold cut;simp[List.map_take,List.map_drop]
 refine h _ _ ⟨g.length+1,0,0,29,cut ns none (some 63),?_,?_,?_,by decide,by decide,by decide,by decide⟩ (by simp) (λi hi=>?_)
 ·simp
 ·rw[<- ec];simp
 ·simp
 ·simp[List.getElem?_append,hi,Nat.lt_of_lt_of_le hi (by omega:g.length<=g.length+1),Nat.lt_of_lt_of_le hi (by omega:g.length<=g.length+1+1)]
end
theorem zv(f:α->β)(l:List α)(lo hi:Option Int):cut (l.map f) lo hi=(cut l lo hi).map f:=by
 unfold cut;simp[List.map_take,List.map_drop]
theorem IJ:∀{ms:List Int} {l:Int},ms.Pairwise (· < ·)->(∀m∈ms,l<=m/\m<=7)->gm l ms=true
 |[],_,_,_=>rfl
 |m::r,l,hp,h=>by
  obtain⟨h1,h2⟩:=dy.mp hp;have hm:=h m (by simp);simp only[gm];rw[aw hm.1,aw hm.2,IJ h2 λx hx=>⟨by have:=h1 x hx;omega,(h x (by simp[hx])).2⟩]
  rfl
theorem E3{l:List α}(h0:0<=r)(h1:r<l.length):∃v,gF l r=some v/\v∈l:=by
 have hi:r.toNat<l.length:=by omega
 refine⟨l[r.toNat],?_,cK hi⟩;have:=J9 (xs:=l) (j:=r.toNat) (v:=l[r.toNat]) (ao hi)
 rwa [show((r.toNat:Nat):Int)=r by omega] at this
section
variable{T:Nat->Option bo}
theorem Tv(h7:T 7=some yX){a b:Bool}(h:Q (.bl (a==b)) g):c5 T (k+1) 7 [.bl a,.bl b] g Q E:=by
 refine call_of h7 rfl ?_;dsimp[yX,d0,List.replicate];walk_at "w2";walk_at "w2";refine rK (c:="bool") (b:=true) ∅ rfl ?_;walk_at "w2";refine rK (c:="bool") (b:=true) ∅ rfl ?_;walk_at "w2";exact h
end
def B9:bo:=⟨1,8,(.seq (.mE (.many [1,2,3,4,5]) aM) (.seq (.set 6 (.dM (.call 1 (iD bq (aZ 1) (aZ 99))) (.call 2 (fN bC)))) (.seq (.set 7 (.dM (.call 1 (iD bN (aZ 1) (aZ 99))) (.call 2 (fN dj)))) (.seq (.ret (.dM fM (.dM gz (.call 1 (iD fm (aZ 0) (aZ 9999)))))) .pass))))⟩
structure b7 where
 lo:Int
 lm:List Int
 up:Int
 um:List Int
 yr:Int
def b7.d(c:b7):D:=.tup [.int c.lo,.tup (c.lm.map .int),.int c.up,.tup (c.um.map .int),.int c.yr]
def u6(c:b7):Bool:=((decide (1<=c.lo)&&decide (c.lo<=99))&&gm 0 c.lm)&&(((decide (1<=c.up)&&decide (c.up<=99))&&gm 0 c.um)&&(decide (0<=c.yr)&&decide (c.yr<=9999)))
section
variable{T:Nat->Option bo}{d:Nat}
theorem aE3(h1:NF T)(h2:T 2=some I9)(ud:T 12=some B9){c:b7}(h:Q (.bl (u6 c)) g):c5 T (k+4) 12 [c.d] g Q E:=by
 refine call_of ud rfl ?_;dsimp[B9,d0,List.replicate,b7.d];walk_at "w3";refine A7 h1 ?_;have s1:∀b:Bool,b=((decide (1<=c.lo)&&decide (c.lo<=99))&&gm 0 c.lm)->wpS (c5 T (k+3)) (j5 (j5 B9.body)) ⟨λ_ g'=>Q .cE g',Q,λ_ _=>False,λ_ _=>False⟩ [some c.d,some (.int c.lo),some (.tup (c.lm.map .int)),some (.int c.up),some (.tup (c.um.map .int)),some (.int c.yr),some (.bl b),none] g E:=by
  intro b hb;dsimp[B9,j5];walk_at "w3";refine A7 h1 ?_;have s2:∀b':Bool,b'=((decide (1<=c.up)&&decide (c.up<=99))&&gm 0 c.um)->wpS (c5 T (k+3)) (j5 (j5 (j5 B9.body))) ⟨λ_ g'=>Q .cE g',Q,λ_ _=>False,λ_ _=>False⟩ [some c.d,some (.int c.lo),some (.tup (c.lm.map .int)),some (.int c.up),some (.tup (c.um.map .int)),some (.int c.yr),some (.bl b),some (.bl b')] g E:=by
   intro b' lZ;dsimp[B9,j5];have e:u6 c=(b&&(b'&&(decide (0<=c.yr)&&decide (c.yr<=9999)))):=by unfold u6;rw[hb,lZ]
   rw[e] at h;walk_at "w3";cases b
   ·exact qE h
   ·refine ni ?_;walk_at "w3";cases b'
    ·exact qE h
    ·refine ni ?_;walk_at "w3";exact A7 h1 h
  refine CT ?_;cases hc:(decide (1<=c.up)&&decide (c.up<=99)) with
  |false=>exact qE (s2 false (by rw[hc];rfl))
  |true =>
   refine ni ?_;walk_at "w1";walk_at "w1";walk_at "w1";walk_at "w1";exact Kp h1 h2 (s2 _ (by rw[hc];rfl))
 refine CT ?_;cases hc:(decide (1<=c.lo)&&decide (c.lo<=99)) with
 |false=>exact qE (s1 false (by rw[hc];rfl))
 |true =>
  refine ni ?_;walk_at "w1";walk_at "w1";walk_at "w1";walk_at "w1";exact Kp h1 h2 (s1 _ (by rw[hc];rfl))
end
def S5:bo:=⟨2,5,(.seq (.set 2 (dA .list bq)) (.seq (.set 3 (.prim .lst .nil)) (.seq (.dX (.one 4) (.fh (dA .len bq)) (.seq (.expr (.fJ .append bN (fN (.fJ .pop bC (fN (.call 4 (dQ aM (dA .len bC)))))))) .pass)) (.seq (.ret bN) .pass))))⟩
theorem JU{α:Type}:∀{l:List α} {j:Nat} (h:j<l.length),(l[j]::l.eraseIdx j).Perm l
 |a::r,0,_=>by simp
 |a::r,j+1,h=>by
  simp only[List.getElem_cons_succ,List.eraseIdx_cons_succ];exact(List.Perm.swap _ _ _).trans ((JU (l:=r) (j:=j) (by simpa using h)).cons a)
theorem Gr.K5{d x:Nat}(h:Gr d g g')(hx:g.length<=x):Gr d g (g'.set x o):=⟨by simp[h.len],λi h1 h2=>by rw[aC ()];exact h.old i h1 h2⟩
theorem i9.K5{d x:Nat}(h:i9 g d)(hx:d<x):i9 (g.set x o) d:=by
 obtain⟨s,p,b,r,xs,e1,e2,hs,q⟩:=h.ex;exact⟨s,p,b,r,xs,by rw[aC ()];exact e1,by rw[aC ()];exact e2,hs,q⟩
theorem b0:(g++[o])[g.length]?=some o:=by simp
theorem p6(h:g[i]?=some o):(g++[o'])[i]?=some o:=by rw[aO (n6 h)];exact h
theorem get_set(h:g[i]?=some o):(g.set i o')[i]?=some o':=bf (n6 h)
theorem d4(h:g[i]?=some o)(hn:j≠i):(g.set j o')[i]?=some o:=by rw[aC hn];exact h
section
variable{T:Nat->Option bo}{d:Nat}
theorem Kf(h4:T 4=some C8)(BN:T 21=some S5)(ha:g[a]?=some (.lst l))(hl:l.length<=1000)(hd:a≠d)(D0:i9 g d)(h:∀(l':List D) b g',l'.Perm l->g'[b]?=some (.lst l')->g.length<=b->i9 g' d->Gr d g g'->Q (.ref b) g'):c5 T (k+2) 21 [.ref d,.ref a] g Q E:=by
 refine call_of BN rfl ?_;dsimp[S5,d0,List.replicate];left;refine Eg (a8 ha) ?_;left;have dl:=D0.lt;refine x8 (a9 T _) (qD (a9 T _) ?_);left;have yz:(g++[O.lst l]++[O.lst []])[a]?=some (.lst l):=p6 (p6 ha);refine J5 (a8 yz) ?_;refine ⟨_,rfl,by omega,by omega,j7 0 l.length,λi σ g'=>∃ left found w,σ=[some (.ref d),some (.ref a),some (.ref g.length),some (.ref (g.length + 1)),w]/\(left ++ found).Perm l/\left.length + i=l.length/\g'[g.length]?=some (.lst left)/\g'[g.length + 1]?=some (.lst found)/\i9 g' d/\Gr d g g',
  λi σ g p=>w6,?_,λi x σ g' hx p=>?_,λσ g' p=>?_⟩
 ·refine⟨l,[],none,?_,by simp,by simp,?_,?_,(D0.snoc _).snoc _,(Gr.snoc _ _ _).trans (Gr.snoc _ _ _)⟩
  ·simp
  ·exact p6 b0
  ·have:=b0 (g:=g++[O.lst l]) (o:=O.lst []);simpa using this
 ·obtain⟨left,found,w,rfl,hp,hn,e1,e2,D1,G1⟩:=p;obtain⟨hi,rfl⟩:=B7 hx;show wpS _ _ _ _ _ _;left;refine f7 (n:=(left.length:Int)) h4 D1 () () λr g2 r0 r1 D2 G2=>?_;have f1:=G2.at () e1;have f2:=G2.at () e2;have hr:r.toNat<left.length:=by omega
  left;refine Xd (j:=r.toNat) f1 () (ao hr) () ?_;left;refine sX (d4 f2 ()) ?_ ?_
  ·have:=hp.length_eq;simp at this;omega
  left;refine⟨_,_,_,rfl,?_,?_,d4 (get_set f1) (),get_set (d4 f2 ()),(D2.K5 ()).K5 (),((G1.trans G2).K5 ()).K5 ()⟩
  ·refine List.Perm.trans ?_ hp;have:=JU hr;refine List.Perm.trans ?_ (fG found this);simp only[List.cons_append];rw[<- bI];exact(List.perm_append_singleton _ _)
  ·rw[gM hr];omega
 ·obtain⟨left,found,w,rfl,hp,hn,e1,e2,D1,G1⟩:=p;show wpS _ _ _ _ _ _;left;rw[m9] at hn;have:left=[]:=dY ();subst this;exact h _ _ _ (by simpa using hp) e2 () D1 G1
end
def zL:bo:=⟨1,5,(.seq (.set 1 (.prim .lst (Ce (.prim .tup .nil) (dA .tup (aZ 0)) (bP .tup (aZ 0) (aZ 1)) (dA .tup (aZ 1)) (.prim .tup (iD (aZ 0) (aZ 1) (aZ 2))) (.prim .tup (oA (aZ 0) (aZ 1) (aZ 2) (aZ 7))) (dA .tup (aZ 2))))) (.seq (.set 2 (dh bq (.call 4 (dQ aM (dh (bP .tup (aZ 4) (aZ 7)) (dA .int (bP (.cmp .Eq) (.call 4 (dQ aM (aZ 4))) (aZ 0)))))))) (.seq (.set 3 (dh bq (.call 4 (dQ aM (aZ 5))))) (.seq (.set 4 (dh (.prim .lst (Hq (aZ 0) (aZ 0) (aZ 1400) (aZ 1400) (aZ 1401) (aZ 1))) (.call 4 (dQ aM (aZ 6))))) (.seq (.ret (.prim .tup (uU (bP (.bin .Add) (aZ 1) (.call 4 (dQ aM (aZ 3)))) bC (bP (.bin .Add) (aZ 1) (.call 4 (dQ aM (aZ 4)))) bN dj))) .pass)))))⟩
def I0:bo:=⟨4,4,(.seq (.ifs (.jN (eB .Eq (dA .len bq) (aZ 0)) (.dM (eB .Lt (dA .len bq) bN) (eB .Eq (.call 4 (dQ aM (aZ 3))) (aZ 0)))) (.seq (.expr (.fJ .append bq (fN bC))) (.seq (.ret (bP (.bin .Add) bC (aZ 1))) .pass)) .pass) (.seq (.ifs (eB .Eq (.call 4 (dQ aM (aZ 5))) (aZ 0)) (.seq (.fg bq (.call 4 (dQ aM (dA .len bq))) bC) (.seq (.ret (bP (.bin .Add) bC (aZ 1))) .pass)) .pass) (.seq (.ret bC) .pass)))⟩
structure kj(c:b7):Prop where
 good:u6 c=true
 l8:c.lm.length<=8
 u8:c.um.length<=8
theorem kj.mk'{lo up yr:Int}{lm um:List Int}(h1:1<=lo)(h2:lo<=99)(h3:1<=up)(h4:up<=99)(h5:0<=yr)(h6:yr<=9999)(h7:gm 0 lm=true)(h8:gm 0 um=true)(h9:lm.length<=8)(Ho:um.length<=8):kj ⟨lo,lm,up,um,yr⟩:=by
 refine⟨?_,h9,Ho⟩;simp only[u6,h7,h8,decide_eq_true h1,decide_eq_true h2,decide_eq_true h3,decide_eq_true h4,decide_eq_true h5,decide_eq_true h6]
 rfl
theorem kj.inv{c:b7}(h:kj c):(1<=c.lo/\c.lo<=99)/\gm 0 c.lm=true/\(1<=c.up/\c.up<=99)/\gm 0 c.um=true/\0<=c.yr/\c.yr<=9999:=by
 have:=h.good;unfold u6 at this;simp only[Bool.and_eq_true,decide_eq_true_eq] at this;obtain⟨⟨⟨a,b⟩,e⟩,⟨⟨c',d⟩,f⟩,p,q⟩:=this;exact⟨⟨a,b⟩,e,⟨c',d⟩,f,p,q⟩
def O3:List (List Int):=[[],[0],[0,1],[1],[0,1,2],[0,1,2,7],[2]]
theorem Tx:∀ms∈O3,gm 0 ms=true/\ms.length<=8:=by decide
theorem Lc(h0:0<=r)(h7:r<7):∃ms,gF (O3.map λms=>D.tup (ms.map .int)) r=some (.tup (ms.map .int))/\gm 0 ms=true/\ms.length<=8:=by
 obtain⟨v,hv,hm⟩:=E3 (l:=O3.map λms=>D.tup (ms.map .int)) h0 (by simpa[O3] using h7);obtain⟨ms,h1,rfl⟩:=aL.mp hm;exact⟨ms,hv,Tx ms h1⟩
section
variable{T:Nat->Option bo}{d:Nat}
theorem aI8(h4:T 4=some C8)(Pd:T 22=some zL)(D0:i9 g d)(h:∀c g',kj c->i9 g' d->Gr d g g'->Q c.d g'):c5 T (k+2) 22 [.ref d] g Q E:=by
 refine call_of Pd rfl ?_;dsimp[zL,d0,List.replicate];have dl:=D0.lt;left;have D1:=D0.snoc (.lst (O3.map λms=>D.tup (ms.map .int)));have G1:=Gr.snoc d g (.lst (O3.map λms=>D.tup (ms.map .int)));have e1:(g++[O.lst (O3.map λms=>D.tup (ms.map .int))])[g.length]?=some (.lst (O3.map λms=>D.tup (ms.map .int))):=b0;show c5 _ _ _ _ (g++[O.lst (O3.map λms=>D.tup (ms.map .int))]) _ _;generalize g++[O.lst (O3.map λms=>D.tup (ms.map .int))]=g1 at *;refine f7 h4 D1 ∅ ∅ λr g2 r0 r1 D2 G2=>?_;left;have e2:=G2.at () e1;have hn:∃n:Int,gF [D.int 4,D.int 7] (if decide (r=0)=true then 1 else 0)=some (.int n)/\0<n/\n<=7:=by
  by_cases hr:r=0
  ·exact⟨7,by rw[aw hr];rfl,by decide,by decide⟩
  ·exact⟨4,by rw[aD hr];rfl,by decide,by decide⟩
 obtain⟨n,en,n0,n7⟩:=hn;refine v9 en ?_;left;refine f7 h4 D2 n0 () λr3 g3 jf jo D3 G3=>?_;have e3:=G3.at () e2;obtain⟨lm,el,gl,ll⟩:=Lc jf ();refine n9 (a8 e3) el ?_;left;refine f7 h4 D3 ∅ ∅ λr4 g4 rq tJ D4 G4=>?_;have e4:=G4.at () e3;obtain⟨um,eu,gu,lu⟩:=Lc rq ();refine n9 (a8 e4) eu ?_;left;have e5:(g4++[O.lst [.int 0,.int 0,.int 1400,.int 1400,.int 1401,.int 1]])[g4.length]?=some (.lst [.int 0,.int 0,.int 1400,.int 1400,.int 1401,.int 1]):=b0;refine f7 h4 (D4.snoc _) ∅ ∅ λr5 g5 lN lM D5 G5=>?_;have e6:=G5.at (by have:=D4.lt;omega) e5;obtain⟨v,hv,hm⟩:=E3 (l:=[D.int 0,.int 0,.int 1400,.int 1400,.int 1401,.int 1]) lN (by simpa using lM);have hy:∃y:Int,v=.int y/\0<=y/\y<=9999:=by
  simp only[List.mem_cons,List.mem_nil_iff,or_false] at hm;rcases hm with rfl|rfl|rfl|rfl|rfl|rfl<;>exact⟨_,rfl,by decide,by decide⟩
 obtain⟨y,rfl,y0,y1⟩:=hy;refine n9 (a8 e6) hv ?_;left;refine f7 h4 D5 ∅ ∅ λr6 g6 Ge Gd D6 G6=>?_;left;refine f7 h4 D6 ∅ ∅ λr7 g7 r70 r71 D7 G7=>?_;left;exact h ⟨1+r6,lm,1+r7,um,y⟩ _ (kj.mk' () () () () y0 y1 gl gu ll lu) D7 (G1.trans (G2.trans (G3.trans (G4.trans ((Gr.snoc _ _ _).trans (G5.trans (G6.trans G7)))))))
def DY(l:List D)(f:Int):Prop:=∃ns:List Int,l=ns.map .int/\∀n∈ns,1<=n/\n<f
theorem ZF(h4:T 4=some C8)(wo:T 23=some I0)(ha:g[a]?=some (.lst l))(hl:l.length<1000)(hs:DY l f)(f1:1<=f)(hd:d<a)(D0:i9 g d)(h:∀(l':List D) (f':Int) g',l'≠[]->l'.length<=l.length+1->DY l' f'->f<=f'->f'<=f+1->g'[a]?=some (.lst l')->i9 g' d->(∀i,i≠d->i≠a->i<g.length->g'[i]?=g[i]?)->g.length<=g'.length->Q (.int f') g'):c5 T (k+2) 23 [.ref d,.ref a,.int f,.int v] g Q E:=by
 refine call_of wo rfl ?_;have dl:=D0.lt;obtain⟨ns,rfl,rR⟩:=id hs;have app:∀g':G,g'[a]?=some (.lst (ns.map D.int))->i9 g' d->Gr d g g'->wpS (c5 T (k+1)) (.seq (.expr (.fJ .append (.var 1) (.cons (.var 2) .nil))) (.seq (.ret (.prim (.bin .Add) (.cons (.var 2) (.cons (.lit (.int 1)) .nil)))) .pass)) ⟨λkr g1=>wpS (c5 T (k+1)) (j5 I0.body) ⟨λ_ g'=>Q .cE g',Q,λ_ _=>False,λ_ _=>False⟩ kr g1 E,Q,λ_ _=>False,λ_ _=>False⟩ [some (.ref d),some (.ref a),some (.int f),some (.int v)] g' E:=by
  intro g' e D1 G1;left;refine sX e (by simp at hl ⊢;omega) ?_;left;refine h _ _ _ (by simp) (by simp) ⟨ns++[f],by simp,λn hn=>?_⟩ () () (get_set e) (D1.K5 hd) (λi h1 h2 h3=>?_) (by simp[G1.len])
  ·rcases ba.mp hn with z|z
   ·have:=rR n z;omega
   ·simp at z;omega
  ·rw[aC (cu h2)];exact G1.old i h1 h3
 have rest:∀g':G,g'[a]?=some (.lst (ns.map D.int))->ns≠[]->i9 g' d->Gr d g g'->wpS (c5 T (k+1)) (j5 I0.body) ⟨λ_ g'=>Q .cE g',Q,λ_ _=>False,λ_ _=>False⟩ [some (.ref d),some (.ref a),some (.int f),some (.int v)] g' E:=by
  intro g' e fA D1 G1;dsimp[I0,j5];left;refine f7 h4 D1 ∅ ∅ λr g2 r0 r1 D2 G2=>?_;have e2:=G2.at () e;have hlen:0<ns.length:=FI.mpr fA;left;refine if2 (λc=>?_) (λc=>?_)
  ·left;rw[ag];refine f7 h4 D2 () (by simp at hl;omega) λr3 g3 jf jo D3 G3=>?_;have e3:=G3.at () e2;have hj:lO (ns.map D.int).length r3=some r3.toNat:=by
    unfold lO;rw[aK jf,aK (by rw[ag];exact jo)]
   refine U1 e3 hj ?_;left;refine h _ _ _ (by simp[fA]) (by simp) ⟨ns.set r3.toNat f,by simp,λn hn=>?_⟩ () () (get_set e3) (D3.K5 hd) (λi h1 h2 h3=>?_) (by simp[((G1.trans G2).trans G3).len])
   ·rcases pV hn with z|z
    ·have:=rR n z;omega
    ·omega
   ·rw[aC (cu h2)];exact((G1.trans G2).trans G3).old i h1 h3
  ·left;exact h _ _ _ (by simp[fA]) (by simp) hs () () e2 D2 (λi h1 h2 h3=>(G1.trans G2).old i h1 h3) (G1.trans G2).len
 dsimp[I0,d0,List.replicate];left;refine if2 (λc=>?_) (λc=>?_)
 ·refine ni ?_;exact app g ha D0 (Gr.refl _ _)
 ·have fA:ns≠[]:=λz=>c (by rw[z];rfl);left;refine if2 (λc2=>?_) (λc2=>?_)
  ·left;refine f7 h4 D0 ∅ ∅ λr g2 r0 r1 D2 G2=>?_;left;refine if2 (λc3=>?_) (λc3=>?_)
   ·exact app g2 (G2.at () ha) D2 G2
   ·walk_at "w1";exact rest g2 (G2.at () ha) fA D2 G2
  ·walk_at "w1";walk_at "w1";exact rest g ha fA D0 (Gr.refl _ _)
end
def H9:bo:=⟨3,17,(.seq (.set 3 (.prim .lst .nil)) (.seq (.set 4 (aZ 1)) (.seq (.set 5 (.prim .W6 .nil)) (.seq (.set 6 (dh (.prim .lst (iD (aZ 0) (aZ 1) (aZ 1350))) (.call 4 (dQ aM (aZ 3))))) (.seq (.set 7 (bP (.bin .Add) (aZ 1) (.call 4 (dQ aM (aZ 96))))) (.seq (.set 8 (bP (.bin .Add) (aZ 2) (.call 4 (dQ aM (aZ 4))))) (.seq (.set 9 (bP .max (aZ 0) (bP (.bin .Sub) (.call 4 (dQ aM (aZ 9))) (aZ 6)))) (.seq (.set 10 (.prim .lst .nil)) (.seq (.dX (.one 11) (.fh bq) (.seq (.set 4 (.call 23 (oA aM bN dj bC))) (.seq (.set 12 (bP .tup (dh bN (.call 4 (dQ aM (dA .len bN)))) (bP (.bin .Add) (aZ 50) (.call 4 (dQ aM (bP (.bin .Add) (aZ 2) bC)))))) (.seq (.dX (.one 13) (.fi lY) (.seq (.ifs (eB .Eq (.call 4 (dQ aM kz)) (aZ 0)) (.seq (.set 14 (.call 4 (dQ aM (aZ 8)))) (.seq (.fg fm vD (dA .tuple (.comp [13,14,5] 5 (.one 4) (.fh (aZ 8)) (.jN (eB .Eq dj bq) (eB .In dj (.fJ .get bC (dQ aM (.prim .tup .nil))))) dj))) .pass)) .pass) .pass)) (.seq (.ifs (eB .Eq (.call 4 (dQ aM (aZ 5))) (aZ 0)) (.seq (.set 6 (bP .min (aZ 9999) (bP (.bin .Add) (bP (.bin .Add) fM (aZ 1)) (.call 4 (dQ aM (aZ 9)))))) .pass) .pass) (.seq (.set 15 (.comp [9,7] 4 (.one 3) (.fi lY) .no (bP (.bin .Add) (bP (.bin .Add) (aZ 1) aM) (bP (.bin .Mod) (bP (.bin .Mult) bN bq) (aZ 97))))) (.seq (.set 16 (bP (.bin .Mult) fM (dA .int (bP (.cmp .Gt) (.call 4 (dQ aM (aZ 4))) (aZ 0))))) (.seq (.expr (.fJ .append nR (fN (.prim .tup (uU (dh qb (aZ 0)) (.fJ .get fm (dQ (dh lY (aZ 0)) (.prim .tup .nil))) (dh qb (aZ 1)) (.fJ .get fm (dQ (dh lY (aZ 1)) (.prim .tup .nil))) vC))))) .pass)))))))) (.seq (.ret nR) .pass))))))))))⟩
def pM(kvs:List (Key×D)):Prop:=∀k v,u9 kvs k=some v->∃ms:List Int,v=.tup (ms.map .int)/\gm 0 ms=true/\ms.length<=8
theorem a19(kvs:List (Key×D))(k k':Key)(v:D):u9 (putD kvs k v) k'=if k'=k then some v else u9 kvs k':=by
 unfold putD;split
 ·rename_i mO;have go:∀l:List (Key×D),u9 (l.map λkv=>if kv.1=k then(kv.1,v) else kv) k'=if k'=k then(if(l.any λkv=>decide (kv.1=k))=true then some v else none) else u9 l k':=by
   intro l
   induction l with
   |nil=>simp[u9]
   |cons p r ih =>
    obtain⟨pk,pv⟩:=p;by_cases e:pk=k
    ·subst e;by_cases e2:k'=pk
     ·subst e2;simp[u9]
     ·have:¬pk=k':=λz=>e2 z.symm;unfold u9 at ih ⊢;simp[this,e2] at ih ⊢;exact ih
    ·by_cases e2:k'=k
     ·subst e2;unfold u9 at ih ⊢;rw[fV,show decide (pk=k')=false from aD e,qS];simp[e] at ih ⊢;exact ih
     ·unfold u9 at ih ⊢;simp only[List.map_cons,e,if_false,List.find?_cons];by_cases e3:pk=k'
      ·simp[e3,e2]
      ·simp[e3];simp[e2] at ih;simp[e2];exact ih
  rw[go,mO]
  rfl
 ·rename_i mO;unfold u9;rw[lH];by_cases e:k'=k
  ·subst e;have:kvs.find? (λkv=>decide (kv.1=k'))=none:=by
    rw[kQ];intro x hx hd;exact mO (aU.mpr ⟨x,hx,hd⟩)
   rw[this];simp
  ·have:¬k=k':=λz=>e z.symm;simp[this,e]
theorem a48(kvs:List (Key×D))(k:Key)(v:D):(putD kvs k v).length<=kvs.length+1:=by
 unfold putD;split<;>simp
theorem pM.put{k:Key}(h:pM kvs)(h1:gm 0 ms=true)(h2:ms.length<=8):pM (putD kvs k (.tup (ms.map .int))):=λk' v hv=>by
 rw[a19] at hv;split at hv
 ·cases hv;exact⟨ms,rfl,h1,h2⟩
 ·exact h k' v hv
theorem pM.get(h:pM kvs)(k:Key):∃ms:List Int,(u9 kvs k).getD (.tup [])=.tup (ms.map .int)/\gm 0 ms=true/\ms.length<=8:=by
 cases e:u9 kvs k with
 |none=>exact⟨[],rfl,rfl,by simp⟩
 |some v=>obtain⟨ms,rfl,h1,h2⟩:=h k v e;exact⟨ms,rfl,h1,h2⟩
theorem YY(p:Int->Bool):gm 0 (((List.range 8).map λ(n:Nat)=>(n:Int)).filter p)=true/\(((List.range 8).map λ(n:Nat)=>(n:Int)).filter p).length<=8:=by
 refine⟨IJ (List.Pairwise.filter _ ∅) λm hm=>?_,aF (fQ _ _) ∅⟩;have:=(bR.mp hm).1;revert this;revert m;intro m _ hm;simp at hm;obtain⟨a,ha,rfl⟩:=hm;omega
theorem List.YS{l:List α}{x:α}(h:l[i]?=some x):l.set i x=l:=by
 apply bW;intro j;by_cases e:i=j
 ·subst e;rw[bf (ax.mp h).1];exact h.symm
 ·rw[aC e]
section
variable{T:Nat->Option bo}{d:Nat}
def Jk:MS:=match H9.body with
 |.seq _ (.seq _ (.seq _ (.seq _ (.seq _ (.seq _ (.seq _ (.seq _ (.seq (.dX _ _ (.seq _ (.seq _ (.seq (.dX _ _ b) _)))) _))))))))=>b
 |x=>x
theorem UT(h4:T 4=some C8){w0:Nat}{key wr:Int}{σ:S}(hw:g[w0]?=some (.dz kvs))(W:pM kvs)(hk:kvs.length<1000)(hr:0<wr)(qe:wr<1000)(hd:d<w0)(D0:i9 g d)(s0:σ[0]?=some (some (.ref d)))(s5:σ[5]?=some (some (.ref w0)))(s8:σ[8]?=some (some (.int wr)))(Nh:σ[13]?=some (some (.int key)))(sl:σ.length=17)(h:∀z jg g',g'[w0]?=some (.dz jg)->pM jg->jg.length<=kvs.length+1->i9 g' d->(∀i,i≠d->i≠w0->i<g.length->g'[i]?=g[i]?)->g.length<=g'.length->N.nx (σ.set 14 z) g'):wpS (c5 T (k+1)) Jk N σ g E:=by
 obtain⟨mY,Qc⟩:∃z,σ[14]?=some z:=⟨_,ao ()⟩
 dsimp[Jk,H9];refine O7 (Jg (Ji (Ad (CK (xj (w_var s0 (xj (w_var s8 (Ez ?_)))))))));refine f7 h4 D0 hr () λr g2 r0 r1 D2 G2=>?_;have dl:=D0.lt;left;refine if2 (λc=>?_) (λc=>?_)
 ·refine zc (xa (CK (xj (w_var s0 (xj (w_lit (Ez ?_)))))));refine f7 h4 D2 ∅ ∅ λr3 g3 jf jo D3 G3=>?_;have e3:=(G2.trans G3).at () hw;have t0:(σ.set 14 (some (.int r3)))[0]?=some (some (.ref d)):=by rw[aC ∅];exact s0
  have t5:(σ.set 14 (some (.int r3)))[5]?=some (some (.ref w0)):=by rw[aC ∅];exact s5
  have FT:(σ.set 14 (some (.int r3)))[13]?=some (some (.int key)):=by rw[aC ∅];exact Nh
  have Nc:(σ.set 14 (some (.int r3)))[14]?=some (some (.int r3)):=bf ();obtain⟨ms,em,_,_⟩:=W.get (.inl key);refine O7 (Lv (Ir ?_));refine aM2 (a9 T _) (w_lit ⟨8,rfl,by decide,λi ys cM g'=>g'=g3/\ys.length<=i/\(∃z w,cM=[some (.int key),some (.int r3),some (.ref w0),z,w])/\ys=((((List.range i).map λ(n:Nat)=>(n:Int)).filter λs=>decide (s=r3)||ms.any λm=>m==s).map D.int),⟨rfl,by simp,⟨none,none,?_⟩,rfl⟩,λi ys σ g' p=>p.2.1,λi ys cM g' hi p=>?_,λys cM g' p=>?_⟩)
  ·simp[J8,FT,Nc,t5,List.replicate]
  ·obtain⟨rfl,hl,⟨z,w,rfl⟩,e⟩:=p;have er:(List.range (i+1)).map (λ(n:Nat)=>(n:Int))=(List.range i).map (λ(n:Nat)=>(n:Int))++[(i:Int)]:=by rw[jm];simp
   have yes:(decide ((i:Int)=r3)||ms.any λm=>m==(i:Int))=true->bh (c5 T (k+1)) (.var 4) [some (.int key),some (.int r3),some (.ref w0),z,some (.int i)] g' (λy g4=>g4=g'/\(ys++[y]).length<=i+1/\(∃z' w',[some (.int key),some (.int r3),some (.ref w0),z,some (D.int i)]=[some (.int key),some (.int r3),some (.ref w0),z',w'])/\(ys++[y])=((((List.range (i+1)).map λ(n:Nat)=>(n:Int)).filter λs=>decide (s=r3)||ms.any λm=>m==s).map D.int)) ki:=λhc=>by
    left;refine⟨rfl,by simp;omega,⟨_,_,rfl⟩,?_⟩;rw[er,fx,da,<- e];simp[hc]
   show dD _ _ _ _ _ _;left;refine if2 (λc1=>?_) (λc1=>?_)
   ·refine ni ?_;exact yes (by rw[aw c1];rfl)
   ·left;refine Ej e3 (k:=.inl key) rfl ?_;rw[em];left;refine xo (DC ?_);left;cases hc:(ms.any λm=>m==(i:Int)) with
    |true =>
     refine ni ?_;exact yes (by rw[hc];simp)
    |false =>
     refine qE ?_;refine⟨rfl,by omega,⟨_,_,rfl⟩,?_⟩;rw[er,fx,da,<- e];simp[hc,c1]
  ·obtain⟨rfl,hl,_,e⟩:=p;subst e;refine Yb (a8 b0) ?_;obtain⟨f1,f2⟩:=YY λs=>decide (s=r3)||ms.any λm=>m==s
   refine w_var t5 (w_var FT ?_);refine Er (p6 e3) (k:=.inl key) rfl () ?_;refine h _ _ _ (get_set (p6 e3)) (W.put f1 f2) (a48 _ _ _) ((D3.snoc _).K5 hd) (λi h1 h2 h3=>?_) ?_
   ·rw[aC (cu h2),aO (az h3 (G2.trans G3).len)];exact(G2.trans G3).old i h1 h3
   ·have:=(G2.trans G3).len;simp;omega
 ·refine L5 ?_;have e2:=G2.at () hw;have:=h mY kvs g2 e2 W () D2 (λi h1 h2 h3=>G2.old i h1 h3) G2.len
  rwa [List.YS Qc] at this
end
section
variable{T:Nat->Option bo}{d:Nat}
def M0:MS:=match H9.body with
 |.seq _ (.seq _ (.seq _ (.seq _ (.seq _ (.seq _ (.seq _ (.seq _ (.seq (.dX _ _ b) _))))))))=>b
 |x=>x
structure jL(d s0 w0 f0 i:Nat)(g:G)(f y:Int):Prop where
 FW:∃l,g[s0]?=some (.lst l)/\DY l f/\l.length<=i
 fr:1<=f/\f<=1+i
 MV:∃kvs,g[w0]?=some (.dz kvs)/\pM kvs/\kvs.length<=2*i
 found:∃cs:List b7,g[f0]?=some (.lst (cs.map b7.d))/\cs.length=i/\∀c∈cs,kj c
 year:0<=y/\y<=9999
 dr:i9 g d
theorem aH3{s0 w0 f0 n0:Nat}{n y st wr sh:Int}{xN MU MR MQ Au tG:Option D}(h4:T 4=some C8)(wo:T 23=some I0)(S:jL d s0 w0 f0 i g f y)(hi:i<=100)(hv:1<=v/\v<=100)(fz:1<=st/\st<=96)(kc:0<wr/\wr<1000)(kA:0<=sh/\sh<=2)(o1:d<n0)(o2:n0<=s0)(o3:s0<w0)(o4:w0<f0)(h:∀f' y' uT oz mY uS uR g',jL d s0 w0 f0 (i+1) g' f' y'->(∀j,j≠d->j<n0->g'[j]?=g[j]?)->g.length<=g'.length->N.nx [some (.ref d),some (.int n),some (.int v),some (.ref s0),some (.int f'),some (.ref w0),some (.int y'),some (.int st),some (.int wr),some (.int sh),some (.ref f0),xN,uT,oz,mY,uS,uR] g') :
  wpS (c5 T (k+2)) M0 N [some (.ref d),some (.int n),some (.int v),some (.ref s0),some (.int f),some (.ref w0),some (.int y),some (.int st),some (.int wr),some (.int sh),some (.ref f0),xN,MU,MR,MQ,Au,tG] g E:=by
 obtain⟨⟨l,es,hs,hl⟩,⟨f1,f2⟩,⟨kvs,ew,W,hk⟩,⟨cs,ef,hc,hg⟩,⟨y0,y1⟩,D0⟩:=S;have lf:=n6 ef;dsimp[M0,H9];left;refine ZF h4 wo es () hs f1 () D0 λl1 f' g1 fA iG GN f3 f5 hU D1 pb gR=>?_;have Hz:g1[w0]?=some (.dz kvs):=(pb w0 () () (n6 ew)).trans ew;have HE:g1[f0]?=some (.lst (cs.map b7.d)):=(pb f0 () () lf).trans ef;left;have gB:0<l1.length:=FI.mpr fA;refine f7 (n:=(l1.length:Int)) h4 D1 () () λr2 g2 iQ iP D2 G2=>?_;have oq:=G2.at () hU;have Hy:=G2.at () Hz;have HD:=G2.at () HE;obtain⟨x,hx,hm⟩:=E3 (l:=l1) iQ iP;obtain⟨ns,rfl,rR⟩:=id GN;obtain⟨k1,lQ,rfl⟩:=aL.mp hm;refine n9 (a8 oq) hx ?_;left;refine f7 (n:=2+v) h4 D2 () () λr3 g3 jf jo D3 G3=>?_;have Cn:=G3.at () oq;have Hx:=G3.at () Hy;have Cp:=G3.at () HD;left;have kb1:=rR k1 lQ;have vj:∀j,j≠d->j<n0->g3[j]?=g[j]?:=λj a b=>by
  have lj:j<g.length:=by omega
  rw[G3.old j a (by have:=G2.len;(clear hi hv fz kc kA o1 hl f1 f2 hk hc y0 y1 f3 f5 iQ iG gB iP jf jo kb1 a lj;omega)),G2.old j a (),pb j a () lj]
 have iR:g.length<=g3.length:=by have:=G2.len;have:=G3.len;(clear hi hv fz kc kA o1 o2 o3 o4 hl f1 f2 hk hc y0 y1 lf f3 f5 iQ iG gB iP jf jo kb1;omega)
 refine x8 (a9 T _) (vJ (a9 T _) ?_);left;refine ⟨_,rfl,_,λj σ g'=>∃ jg oz mY,σ=[some (.ref d),some (.int n),some (.int v),some (.ref s0),some (.int f'),some (.ref w0),some (.int y),some (.int st),some (.int wr),some (.int sh),some (.ref f0),xN,some (.tup [.int k1,.int (50 + r3)]),oz,mY,Au,tG]/\g'[w0]?=some (.dz jg)/\pM jg/\jg.length <= 2 * i + j/\i9 g' d/\(∀ j,j ≠ d->j ≠ w0->j < g3.length->g'[j]?=g3[j]?)/\g3.length <= g'.length,
  λ_ _ _ _=>w6,⟨kvs,_,_,rfl,Hx,W,by omega,D3,λ_ _ _ _=>rfl,av _⟩,λj x σ g' hx p=>?_,λσ g' p=>?_⟩
 ·obtain⟨jg,oz,mY,rfl,PJ,W',oI,D',AL,vz⟩:=p;have gC:∃key:Int,x=.int key/\j<2:=by
   match j,hx with
   |0,hx=>cases hx;exact⟨_,rfl,by decide⟩
   |1,hx=>cases hx;exact⟨_,rfl,by decide⟩
   |j+2,hx=>simp at hx
  obtain⟨key,rfl,hj⟩:=gC;show wpS _ _ _ _ _ _;refine UT (k:=k+1) h4 PJ W' (by(clear hv fz kc kA o1 o2 o3 o4 hl f1 f2 hk y0 y1 lf f3 f5 gR iQ iG gB iP jf jo kb1 iR vz;omega)) kc.1 kc.2 () D' rfl rfl rfl rfl rfl λz AV g2' e2 W2 kB D2' rF vy=>?_;exact⟨AV,_,_,rfl,e2,W2,by(clear hi hv fz kc kA o1 o2 o3 o4 hl f1 f2 hk y0 y1 lf f3 f5 gR iQ iG gB iP jf jo kb1 iR vz hj vy;omega),D2',λj a b c=>(rF j a b ()).trans (AL j a b c),by(clear hi hv fz kc kA o1 o2 o3 o4 hl f1 f2 hk hc y0 y1 lf f3 f5 gR iQ iG gB iP jf jo kb1 iR oI hj kB;omega)⟩
 obtain⟨vE,oz,mY,rfl,PH,W4,jh,D4,oZ,jF⟩:=p;have PQ:g'[s0]?=some (.lst (ns.map D.int)):=(oZ s0 () () (n6 Cn)).trans Cn;have PY:g'[f0]?=some (.lst (cs.map b7.d)):=(oZ f0 () () (n6 Cp)).trans Cp;have vi:∀j,j≠d->j<n0->g'[j]?=g[j]?:=λj a b=>(oZ j a () (by(clear hi hv fz kc kA o1 hl f1 f2 hk hc y0 y1 f3 f5 gR iQ iG gB iP jf jo kb1 jh jF a;omega))).trans (vj j a b);clear oZ vj G2 G3 hU Hz HE oq Hy HD Cn Hx Cp pb;have jh:vE.length<=2*(i+1):=by simp at jh;(clear hi hv fz kc kA o1 o2 o3 o4 hl f1 f2 hk y0 y1 lf f3 f5 gR iQ iG gB iP jf jo kb1 iR jF;omega)
 show wpS _ _ _ _ _ _;left;refine f7 h4 D4 ∅ ∅ λr5 g5 lN lM D5 G5=>?_;left;have tail:∀(y':Int) (g6:G),0<=y'->y'<=9999->i9 g6 d->Gr d g' g6->wpS (c5 T (k+2)) (j5 (j5 (j5 (j5 M0)))) N [some (.ref d),some (.int n),some (.int v),some (.ref s0),some (.int f'),some (.ref w0),some (.int y'),some (.int st),some (.int wr),some (.int sh),some (.ref f0),xN,some (.tup [.int k1,.int (50+r3)]),oz,mY,Au,tG] g6 E:=by
  intro y' g6 nc mZ D6 G6;have PN:=G6.at () PQ;have PD:=G6.at () PH;have yI:=G6.at () PY;dsimp[M0,H9,j5];left;refine aM1 (a9 T _) ?_;left;refine⟨_,rfl,by simp,λj ys σ g7=>g7=g6/\(∃z w,σ=[some (.int sh),some (.int st),z,w])/\ys=([k1,50+r3].take j).map (λkey=>D.int (1+sh+key*st % 97)),⟨rfl,⟨none,none,rfl⟩,rfl⟩,λj ys σ g7 p=>?_,λj x ys σ g7 hx p=>?_,λys σ g7 p=>?_⟩
  ·obtain⟨rfl,_,rfl⟩:=p;simp;omega
  ·obtain⟨rfl,⟨z,w,rfl⟩,rfl⟩:=p;have gC:∃key:Int,x=.int key/\([k1,50+r3].take j).map (λkey=>D.int (1+sh+key*st % 97))++[D.int (1+sh+key*st % 97)]=([k1,50+r3].take (j+1)).map (λkey=>D.int (1+sh+key*st % 97)):=by
    match j,hx with
    |0,hx=>cases hx;exact⟨_,rfl,rfl⟩
    |1,hx=>cases hx;exact⟨_,rfl,rfl⟩
    |j+2,hx=>simp at hx
   obtain⟨key,rfl,he⟩:=gC;show dD _ _ _ _ _ _;left;refine Q9 (Y4 () ()) ?_;left;exact⟨rfl,⟨_,_,rfl⟩,he⟩
  obtain⟨rfl,_,rfl⟩:=p;have eN:(g7++[O.lst [D.int (1+sh+k1*st % 97),D.int (1+sh+(50+r3)*st % 97)]])[g7.length]?=some (.lst [D.int (1+sh+k1*st % 97),D.int (1+sh+(50+r3)*st % 97)]):=b0;show wpS _ _ _ _ (g7++[O.lst [D.int (1+sh+k1*st % 97),D.int (1+sh+(50+r3)*st % 97)]]) _;left;refine f7 h4 (D6.snoc _) ∅ ∅ λr8 g8 nL nK D8 G8=>?_;have l7:=D6.lt;have eN8:=G8.at () eN;have PL:=G8.at () (p6 PN);have Cm:=G8.at () (p6 PD);have HC:=G8.at () (p6 yI);left;refine Q9 (EI () ()) ?_;left;obtain⟨lm,el,gl,ll⟩:=W4.get (.inl k1);obtain⟨um,eu,gu,lu⟩:=W4.get (.inl (50+r3));refine Ej Cm (k:=.inl k1) rfl ?_;rw[el];left;refine Ej Cm (k:=.inl (50+r3)) rfl ?_;rw[eu];left;refine sX HC (by simp;omega) ?_;generalize ke:y'*(if decide (0<r8)=true then 1 else 0)=ty;have mF:0<=ty/\ty<=9999:=by
   rw[<- ke];split<;>simp<;>omega
  left;refine h f' y' _ _ _ _ _ _ ⟨⟨_,d4 PL (),GN,by(clear hi hv fz kc kA o1 o2 o3 o4 f1 f2 hk y0 y1 lf f3 f5 gR iQ gB iP jf jo kb1 iR jF jh lN lM nc mZ nL nK l7 ll lu ke mF;omega)⟩,⟨by omega,by(clear hi hv fz kc kA o1 o2 o3 o4 hl f1 hk y0 y1 lf gR iQ iG gB iP jf jo kb1 iR jF jh lN lM nc mZ nL nK l7 ll lu ke mF;omega)⟩,⟨vE,d4 Cm (),W4,jh⟩,⟨cs++[⟨1+sh+k1*st % 97,lm,1+sh+(50+r3)*st % 97,um,ty⟩],?_,by simp[hc],?_⟩,⟨nc,mZ⟩,D8.K5 ()⟩ (λj a b=>?_) ?_
  ·rw[get_set HC];simp[b7.d]
  ·intro c jJ;rcases ba.mp jJ with z|z
   ·exact hg c z
   ·simp at z;subst z;have m1:=fq (k1*st) (show(97:Int)≠0 by decide);have m2:=et (k1*st) (show(0:Int)<97 by decide);have m3:=fq ((50+r3)*st) (show(97:Int)≠0 by decide);have m4:=et ((50+r3)*st) (show(0:Int)<97 by decide);exact kj.mk' (by(clear hi hv fz kc o1 o2 o3 o4 hl f1 f2 hk hc y0 y1 lf f3 f5 gR iQ iG gB iP jf jo kb1 iR jF jh lN lM nc mZ nL nK l7 ll lu ke mF m2 m3 m4;omega)) (by(clear hi hv fz kc o1 o2 o3 o4 hl f1 f2 hk hc y0 y1 lf f3 f5 gR iQ iG gB iP jf jo kb1 iR jF jh lN lM nc mZ nL nK l7 ll lu ke mF m2 m3 m4;omega)) (by(clear hi hv fz kc o1 o2 o3 o4 hl f1 f2 hk hc y0 y1 lf f3 f5 gR iQ iG gB iP jf jo kb1 iR jF jh lN lM nc mZ nL nK l7 ll lu ke mF m1 m2 m4;omega)) (by(clear hi hv fz kc o1 o2 o3 o4 hl f1 f2 hk hc y0 y1 lf f3 f5 gR iQ iG gB iP jf jo kb1 iR jF jh lN lM nc mZ nL nK l7 ll lu ke mF m1 m2 m4;omega)) mF.1 mF.2 gl gu ll lu
  ·have lj:j<g'.length:=by(clear hi hv fz kc kA o1 hl f1 f2 hk hc y0 y1 f3 f5 gR iQ iG gB iP jf jo kb1 jh lN lM nc mZ nL nK l7 ll lu ke mF a;omega)
   rw[aC (by(clear hi hv fz kc kA o1 hl f1 f2 hk hc y0 y1 lf f3 f5 gR iQ iG gB iP jf jo kb1 iR jF jh lN lM nc mZ nL nK l7 ll lu ke mF a lj;omega)),G8.old j a (by have:=G6.len;simp;(clear hi hv fz kc kA o1 o2 o3 o4 hl f1 f2 hk hc y0 y1 lf f3 f5 gR iQ iG gB iP jf jo kb1 iR jF jh lN lM nc mZ nL nK l7 ll lu ke mF a b;omega)),aO (by have:=G6.len;(clear hi hv fz kc kA o1 o2 o3 o4 hl f1 f2 hk hc y0 y1 lf f3 f5 gR iQ iG gB iP jf jo kb1 iR jF jh lN lM nc mZ nL nK l7 ll lu ke mF a b;omega)),G6.old j a lj];exact vi j a b
  ·have:=G6.len;have:=G8.len;simp at this ⊢
   (clear hi hv fz kc kA o1 o2 o3 o4 hl f1 f2 hk hc y0 y1 lf f3 f5 gR iQ iG gB iP jf jo kb1 jh lN lM nc mZ nL nK l7 ll lu ke mF;omega)
 refine if2 (λc=>?_) (λc=>?_)
 ·left;refine f7 h4 D5 ∅ ∅ λr6 g6 Ge Gd D6 G6=>?_;left;generalize Bb:(if y+1+r6<9999 then y+1+r6 else 9999)=y';have:0<=y'/\y'<=9999:=by rw[<- Bb];split<;>omega
  exact tail y' g6 this.1 this.2 D6 (G5.trans G6)
 ·refine L5 ?_;exact tail y g5 y0 y1 D5 G5
theorem ZI(h4:T 4=some C8)(wo:T 23=some I0)(Pc:T 24=some H9){n:Int}(hn:0<=n/\n<=100)(hv:1<=v/\v<=100)(D0:i9 g d)(h:∀(cs:List b7) a g',(cs.length:Int)=n->(∀c∈cs,kj c)->g'[a]?=some (.lst (cs.map b7.d))->g.length<=a->i9 g' d->Gr d g g'->Q (.ref a) g'):c5 T (k+3) 24 [.ref d,.int n,.int v] g Q E:=by
 refine call_of Pc rfl ?_;dsimp[H9,d0,List.replicate];have dl:=D0.lt;left;have D1:i9 (g++[O.lst []]++[O.dz []]++[O.lst [.int 0,.int 1,.int 1350]]) d:=((D0.snoc _).snoc _).snoc _;have G1:Gr d g (g++[O.lst []]++[O.dz []]++[O.lst [.int 0,.int 1,.int 1350]]):=((Gr.snoc _ _ _).trans (Gr.snoc _ _ _)).trans (Gr.snoc _ _ _);have e0:(g++[O.lst []]++[O.dz []]++[O.lst [.int 0,.int 1,.int 1350]])[g.length]?=some (.lst []):=p6 (p6 b0);have e1:(g++[O.lst []]++[O.dz []]++[O.lst [.int 0,.int 1,.int 1350]])[(g++[O.lst []]).length]?=some (.dz []):=p6 b0;have e2:(g++[O.lst []]++[O.dz []]++[O.lst [.int 0,.int 1,.int 1350]])[(g++[O.lst []]++[O.dz []]).length]?=some (.lst [.int 0,.int 1,.int 1350]):=b0;have n1:(g++[O.lst []]).length=g.length+1:=by simp
 have n2:(g++[O.lst []]++[O.dz []]).length=g.length+2:=by simp
 rw[n1] at e1 ⊢;rw[n2] at e2 ⊢;generalize g++[O.lst []]++[O.dz []]++[O.lst [.int 0,.int 1,.int 1350]]=g1 at *;refine f7 h4 D1 ∅ ∅ λr2 g2 iQ iP D2 G2=>?_;have Qf:=G2.at () e0;have uh:=G2.at () e1;have Qb:=G2.at () e2;obtain⟨x,hx,hm⟩:=E3 (l:=[D.int 0,.int 1,.int 1350]) iQ (by simpa using iP);have hy:∃y:Int,x=.int y/\0<=y/\y<=9999:=by
  simp only[List.mem_cons,List.mem_nil_iff,or_false] at hm;rcases hm with rfl|rfl|rfl<;>exact⟨_,rfl,by decide,by decide⟩
 obtain⟨y,rfl,y0,y1⟩:=hy;refine n9 (a8 Qb) hx ?_;left;refine f7 h4 D2 ∅ ∅ λr3 g3 jf jo D3 G3=>?_;left;refine f7 h4 D3 ∅ ∅ λr4 g4 rq tJ D4 G4=>?_;left;refine f7 h4 D4 ∅ ∅ λr5 g5 lN lM D5 G5=>?_;have Ag:=G3.trans (G4.trans G5);have Qe:=Ag.at () Qf;have HF:=Ag.at () uh;have l5:=(G1.trans (G2.trans Ag)).len;have lw:=n6 HF;left;generalize kA:(if r5-6>0 then r5-6 else 0)=sh;have FV:0<=sh/\sh<=2:=by rw[<- kA];split<;>omega
 have yJ:(g5++[O.lst []])[g5.length]?=some (.lst []):=b0;refine x8 (a9 T _) (qD (a9 T _) ?_);left;refine ⟨by omega,by omega,j7 0 n.toNat,λi σ g'=>∃ f' y' Ao uT oz mY uS uR,σ=[some (.ref d),some (.int n),some (.int v),some (.ref g.length),some (.int f'),some (.ref (g.length + 1)),some (.int y'),some (.int (1 + r3)),some (.int (2 + r4)),some (.int sh),some (.ref g5.length),Ao,uT,oz,mY,uS,uR]/\jL d g.length (g.length + 1) g5.length i g' f' y'/\Gr d g g',
  λ_ _ _ _=>w6,⟨1,y,none,none,none,none,none,none,rfl,⟨⟨[],p6 Qe,⟨[],rfl,by simp⟩,by simp⟩,⟨by omega,by omega⟩,⟨[],p6 HF,(λk v hv=>by cases hv),by simp⟩,⟨[],yJ,rfl,by simp⟩,⟨y0,y1⟩,D5.snoc _⟩,(G1.trans (G2.trans Ag)).trans (Gr.snoc _ _ _)⟩,λi x σ g' hx p=>?_,λσ g' p=>?_⟩
 ·obtain⟨f',y',Ao,uT,oz,mY,uS,uR,rfl,S,G'⟩:=p;obtain⟨hi,rfl⟩:=B7 hx;show wpS _ M0 _ _ _ _;refine aH3 (n0:=g.length) h4 wo S () hv ⟨by omega,by omega⟩ ⟨by omega,by omega⟩ FV dl (av _) () () λf2 y2 a b c e f g2 S2 rF vy=>?_;exact⟨f2,y2,_,_,_,_,_,_,rfl,S2,⟨by have:=G'.len;(clear hn hv dl iQ iP y0 y1 jf jo rq tJ lN lM l5 lw kA FV hi;omega),λj h1 h2=>(rF j h1 h2).trans (G'.old j h1 h2)⟩⟩
 ·obtain⟨f',y',Ao,uT,oz,mY,uS,uR,rfl,S,G'⟩:=p;show wpS _ _ _ _ _ _;left;obtain⟨cs,ef,hc,hg⟩:=S.found;rw[m9] at hc;exact h cs _ _ () hg ef () S.dr G'
end
def zD:bo:=⟨2,8,(.seq (.set 2 (bP .kW (aZ 1) (bP (.bin .Add) (bP (.bin .Add) (bP (.bin .FloorDiv) bq (aZ 2)) (bP (.bin .Mod) bq (aZ 2))) (aZ 1)))) (.seq (.set 3 (bP (.bin .Add) bC (bP (.lL false true) (.call 21 (dQ aM bC)) (bP (.bin .FloorDiv) bq (aZ 2))))) (.seq (.set 4 (.call 4 (dQ aM (aZ 3)))) (.seq (.set 5 (.prim .lst .nil)) (.seq (.dX (.one 6) (.fh bq) (.seq (.set 7 (dh (.prim .lst (iD (bP (.bin .Add) (aZ 1000) fM) (aZ 0) (bP (.bin .Add) (aZ 1) (bP (.bin .FloorDiv) (bP (.bin .Mult) (aZ 2) fM) (bP .max (aZ 1) bq))))) dj)) (.seq (.expr (.fJ .append fm (fN (.prim .tup (uU (dh bN fM) (.prim .tup .nil) (bP (.bin .Add) (aZ 1) (.call 4 (dQ aM (aZ 9)))) (.prim .tup .nil) gz))))) .pass))) (.seq (.ret fm) .pass))))))⟩
def Q6:bo:=⟨2,9,(.seq (.set 2 (.call 4 (dQ aM (bP (.bin .Add) bq (aZ 1))))) (.seq (.set 3 (bP (.bin .Add) (aZ 1) (.call 4 (dQ aM (aZ 3))))) (.seq (.set 4 (.call 4 (dQ aM (aZ 5)))) (.seq (.ifs (eB .Eq dj (aZ 0)) (.seq (.ret (bP .tup (.comp [0] 3 (.one 2) (.fh bC) .no (.call 22 (fN aM))) bN)) .pass) .pass) (.seq (.ifs (eB .Eq dj (aZ 4)) (.seq (.set 3 (bP (.bin .Add) (aZ 1) (.call 4 (dQ aM (aZ 6))))) .pass) .pass) (.seq (.set 5 (.ite (eB .Eq dj (aZ 4)) (.call 25 (dQ aM bC)) (.call 24 (iD aM bC bN)))) (.seq (.set 5 (.comp [5] 3 (.one 2) (.fi (.call 21 (dQ aM (dA .jE bC)))) .no (dh aM bC))) (.seq (.ifs (.dM (eB .Eq dj (aZ 1)) (eB .Gt bC (aZ 0))) (.seq (.set 6 (.call 4 (dQ aM bC))) (.seq (.set 7 (dh fm fM)) (.seq (.set 8 (dh fm (.call 4 (dQ aM bC)))) (.seq (.fg fm fM (.prim .tup (uU (dh gz (aZ 0)) (dh kz (aZ 1)) (dh kz (aZ 2)) (dh gz (aZ 3)) (dh (.prim .lst (iD (dh gz (aZ 4)) (dh kz (aZ 4)) (aZ 9999))) (.call 4 (dQ aM (aZ 3))))))) .pass)))) .pass) (.seq (.ifs (eB .Eq dj (aZ 2)) (.seq (.set 3 (aZ 1)) .pass) .pass) (.seq (.ret (bP .tup fm bN)) .pass))))))))))⟩
theorem K'{p:Int->Prop}:∀{l:List D},(∀x∈l,∃i:Int,x=.int i/\p i)->∃ns:List Int,l=ns.map .int/\∀i∈ns,p i
 |[],_=>⟨[],rfl,by simp⟩
 |x::r,h=>by
  obtain⟨i,rfl,hi⟩:=h x (by simp);obtain⟨ns,rfl,hn⟩:=K' (l:=r) λy hy=>h y (by simp[hy]);exact⟨i::ns,rfl,λj hj=>(aH.mp hj).elim (λz=>z▸hi) (hn j)⟩
theorem Ln{lo:Int}(h:x∈j7 lo n):∃i:Int,x=.int i/\lo<=i/\i<lo+n:=by
 unfold j7 at h;obtain⟨k,hk,rfl⟩:=aL.mp h;exact⟨_,rfl,by omega,by have:=bu.mp hk;omega⟩
theorem Qr{l:List α}(h:n<=l.length):cut l none (some (n:Int))=l.take n:=by
 have:¬((n:Int)<0):=by omega
 unfold cut HT.dW;simp[this]
theorem Tc(h0:0<=r)(h1:r<ns.length):∃i∈ns,gF (ns.map D.int) r=some (.int i):=by
 obtain⟨v,hv,hm⟩:=E3 (l:=ns.map D.int) h0 (by simpa using h1);obtain⟨i,hi,rfl⟩:=aL.mp hm;exact⟨i,hi,hv⟩
theorem Dm(h0:0<=r)(h1:r<cs.length):∃c∈cs,gF (cs.map b7.d) r=some c.d:=by
 obtain⟨v,hv,hm⟩:=E3 (l:=cs.map b7.d) h0 (by simpa using h1);obtain⟨i,hi,rfl⟩:=aL.mp hm;exact⟨i,hi,hv⟩
section
variable{T:Nat->Option bo}{d:Nat}
theorem Zn(h4:T 4=some C8)(BN:T 21=some S5)(Pb:T 25=some zD){n:Int}(hn:0<=n/\n<=100)(D0:i9 g d)(h:∀(cs:List b7) a g',(cs.length:Int)=n->(∀c∈cs,kj c)->g'[a]?=some (.lst (cs.map b7.d))->g.length<=a->i9 g' d->Gr d g g'->Q (.ref a) g'):c5 T (k+3) 25 [.ref d,.int n] g Q E:=by
 refine call_of Pb rfl ?_;dsimp[zD,d0,List.replicate];have dl:=D0.lt;left;refine NB (i:=1) (j:=n / 2+n % 2+1) () ?_;left;have hh:∃hf:Nat,(n / 2+n % 2+1-1).toNat=hf/\(hf:Int)=n / 2+n % 2/\hf<=50:=⟨_,rfl,by omega,by omega⟩
 obtain⟨hf,Bu,GY,pC⟩:=hh;rw[Bu];have e1:(g++[O.lst (j7 1 hf)])[g.length]?=some (.lst (j7 1 hf)):=b0;refine Kf h4 BN e1 (by rw[m9];omega) () (D0.snoc _) λl' b g2 hp e2 hb D2 G2=>?_;have uh:=G2.at () e1;left;refine zp (a8 e2) ?_;have hle:l'.length=hf:=by rw[hp.length_eq,m9]
 have hc:cut l' none (some (n / 2))=l'.take (n / 2).toNat:=by
  have:=Qr (l:=l') (n:=(n / 2).toNat) ()
  rwa [show(((n / 2).toNat:Nat):Int)=n / 2 by omega] at this
 rw[hc];refine V1 (p6 uh) b0 (by rw[m9,cv];omega) ?_;obtain⟨rl,er,hr⟩:=K' (p:=λi=>1<=i/\i<=50) (l:=j7 1 hf++l'.take (n / 2).toNat) λx hx=>by
  have qc:x∈j7 1 hf:=by
   rcases ba.mp hx with z|z
   ·exact z
   ·exact hp.mem_iff.mp (cU z)
  obtain⟨i,rfl,h1,h2⟩:=Ln qc;exact⟨i,rfl,h1,by omega⟩
 have hrl:(rl.length:Int)=n:=by
  have:=fY List.length er;rw[bj,m9,cv,ag] at this;omega
 rw[er];have D3:=(D2.snoc (.lst (l'.take (n / 2).toNat))).snoc (.lst (rl.map D.int));have G3:=(Gr.snoc d g (.lst (j7 1 hf))).trans (G2.trans ((Gr.snoc d g2 (.lst (l'.take (n / 2).toNat))).trans (Gr.snoc d _ (.lst (rl.map D.int)))));have e3:(g2++[O.lst (l'.take (n / 2).toNat)]++[O.lst (rl.map D.int)])[(g2++[O.lst (l'.take (n / 2).toNat)]).length]?=some (.lst (rl.map D.int)):=b0;have l3:g.length+1<=(g2++[O.lst (l'.take (n / 2).toNat)]).length:=by have:=G2.len;simp at this ⊢;omega
 generalize (g2++[O.lst (l'.take (n / 2).toNat)]).length=FY at *;generalize g2++[O.lst (l'.take (n / 2).toNat)]++[O.lst (rl.map D.int)]=g3 at *;left;refine f7 h4 D3 ∅ ∅ λr4 g4 rq tJ D4 G4=>?_;have e4:=G4.at () e3;left;have Mv:=G3.trans G4;have l4:=Mv.len;have e5:(g4++[O.lst []])[g4.length]?=some (.lst ([].map b7.d)):=b0;have Gy:=n6 e4;refine x8 (a9 T _) (qD (a9 T _) ?_);left;refine ⟨by omega,by omega,j7 0 n.toNat,λi σ g'=>∃ cs z6 z7,σ=[some (.ref d),some (.int n),some (.ref g.length),some (.ref FY),some (.int r4),some (.ref g4.length),z6,z7]/\cs.length=i/\(∀ c ∈ cs,kj c)/\g'[g4.length]?=some (.lst (cs.map b7.d))/\g'[FY]?=some (.lst (rl.map D.int))/\i9 g' d/\Gr d g g',
  λ_ _ _ _=>w6,⟨[],none,none,rfl,rfl,by simp,e5,p6 e4,D4.snoc _,Mv.trans (Gr.snoc _ _ _)⟩,λi x σ g' hx p=>?_,λσ g' p=>?_⟩
 ·obtain⟨cs,z6,z7,rfl,hc,hg,ef,erw,D',G'⟩:=p;obtain⟨hi,rfl⟩:=B7 hx;show wpS _ _ _ _ _ _;left;refine Q9 (EI ∅ ∅) ?_;left;refine yN ⟨by split<;>omega,by split<;>omega⟩ ?_;left;obtain⟨yv,hy,AY⟩:∃yv:Int,gF [D.int (1000+(0+(i:Int))),D.int 0,D.int (1+2*(0+(i:Int)) / (if n>1 then n else 1))] r4=some (.int yv)/\0<=yv/\yv<=9999:=by
   have dv0:0<=2*(0+(i:Int)) / (if n>1 then n else 1):=Int.ediv_nonneg () (by split<;>omega);have dv1:2*(0+(i:Int)) / (if n>1 then n else 1)<=2*(0+(i:Int)):=Int.ediv_le_self _ ();have:r4=0\/r4=1\/r4=2:=by omega
   rcases this with rfl|rfl|rfl
   ·exact⟨_,rfl,by omega,by(clear dl Bu pC hb l3 l4 Gy hc rq tJ;omega)⟩
   ·exact⟨_,rfl,by omega,by omega⟩
   ·exact⟨_,rfl,by omega,by omega⟩
  refine n9 (a8 b0) hy ?_;left;obtain⟨lo,qh,Bo⟩:=Tc (ns:=rl) (r:=0+(i:Int)) () (by(clear hn dl Bu pC hb l3 rq tJ l4 Gy AY;omega));have lf:=n6 ef;refine And.intro (xf (p6 ef)) ?_;left;refine n9 (a8 (p6 erw)) Bo ?_;left;refine f7 h4 (D'.snoc _) ∅ ∅ λr6 g6 Ge Gd D6 G6=>?_;have yI:=G6.at () (p6 ef);have PU:=G6.at () (p6 erw);left;refine sX yI (by simp;omega) ?_;left;have hlb:=hr lo qh;refine⟨cs++[⟨lo,[],1+r6,[],yv⟩],_,_,rfl,by simp[hc],?_,?_,d4 PU (),D6.K5 (),(G'.trans ((Gr.snoc _ _ _).trans G6)).K5 ()⟩
  ·intro c jJ;rcases ba.mp jJ with z|z
   ·exact hg c z
   ·simp at z;subst z;exact kj.mk' () () () () AY.1 AY.2 rfl rfl (by simp) (by simp)
  ·rw[get_set yI];simp[b7.d]
 ·obtain⟨cs,z6,z7,rfl,hc,hg,ef,erw,D',G'⟩:=p;show wpS _ _ _ _ _ _;left;rw[m9] at hc;exact h cs _ _ () hg ef () D' G'
end
section
variable{T:Nat->Option bo}{d:Nat}
structure LF(T:Nat->Option bo):Prop where
 pull:T 4=some C8
 order:T 21=some S5
 any:T 22=some zL
 rh:T 23=some I0
 qZ:T 24=some H9
 opened:T 25=some zD
 list:T 26=some Q6
theorem aQ5(hT:LF T){n:Int}(hn:0<=n/\n<=99)(D0:i9 g d)(h:∀(cs:List b7) a (v:Int) g',(cs.length:Int)<=n->(∀c∈cs,kj c)->g'[a]?=some (.lst (cs.map b7.d))->g.length<=a->1<=v->v<=6->i9 g' d->Gr d g g'->Q (.tup [.ref a,.int v]) g'):c5 T (k+4) 26 [.ref d,.int n] g Q E:=by
 refine call_of hT.list rfl ?_;dsimp[Q6,d0,List.replicate];have dl:=D0.lt;left;refine f7 (n:=n+1) hT.pull D0 () () λm g1 m0 m1 D1 G1=>?_;left;refine f7 hT.pull D1 ∅ ∅ λr2 g2 iQ iP D2 G2=>?_;left;refine f7 hT.pull D2 ∅ ∅ λway g3 w0 w1 D3 G3=>?_;have Ah:=G1.trans (G2.trans G3);have l3:=Ah.len;left;refine if2 (λc=>?_) (λc=>?_)
 ·left;refine L7 (a9 T _) (qD (a9 T _) ?_);left;refine⟨by omega,by omega,j7 0 m.toNat,λi ys σ g'=>∃cs z1 z2,ys=cs.map b7.d/\cs.length=i/\(∀c∈cs,kj c)/\σ=[some (.ref d),z1,z2]/\i9 g' d/\Gr d g g',by rw[m9];omega,λi ys σ g' p=>⟨w6,?_⟩,⟨[],none,none,rfl,rfl,by simp,rfl,D3,Ah⟩,λi x ys σ g' hx p=>?_,λys σ g' p=>?_⟩
  ·obtain⟨cs,z1,z2,rfl,hc,_⟩:=p;simp[hc]
  ·obtain⟨cs,z1,z2,rfl,hc,hg,rfl,D',G'⟩:=p;show dD _ _ _ _ _ _;left;refine aI8 hT.pull hT.any D' λc0 g4 gc D4 G4=>?_;refine⟨cs++[c0],_,_,by simp,by simp[hc],λc1 rZ=>?_,rfl,D4,G'.trans G4⟩;rcases ba.mp rZ with z|z
   ·exact hg c1 z
   ·simp at z;subst z;exact gc
  ·obtain⟨cs,z1,z2,rfl,hc,hg,rfl,D',G'⟩:=p;rw[m9] at hc;left;exact h cs _ _ _ () hg b0 G'.len () () (D'.snoc _) (G'.trans (Gr.snoc _ _ _))
 have tail:∀(v:Int) (g4:G),1<=v->v<=6->i9 g4 d->Gr d g g4->wpS (c5 T (k+3)) (j5 (j5 (j5 (j5 (j5 Q6.body))))) ⟨λ_ g'=>Q .cE g',Q,λ_ _=>False,λ_ _=>False⟩ [some (.ref d),some (.int n),some (.int m),some (.int v),some (.int way),none,none,none,none] g4 E:=by
  intro v g4 v0 v1 D4 G4;dsimp[Q6,j5];have after:∀(cs:List b7) a g5,(cs.length:Int)=m->(∀c∈cs,kj c)->g5[a]?=some (.lst (cs.map b7.d))->g4.length<=a->i9 g5 d->Gr d g4 g5->wpS (c5 T (k+3)) (j5 (j5 (j5 (j5 (j5 (j5 Q6.body)))))) ⟨λ_ g'=>Q .cE g',Q,λ_ _=>False,λ_ _=>False⟩ [some (.ref d),some (.int n),some (.int m),some (.int v),some (.int way),some (.ref a),none,none,none] g5 E:=by
   intro cs a g5 hc hg ea la D5 G5;have Mu:=G4.trans G5;have l4:=G4.len;dsimp[Q6,j5];left;refine L7 (a9 T _) (kY (a9 T _) ?_);left;refine AR () () ?_;left;have e6:(g5++[O.lst (j7 0 m.toNat)])[g5.length]?=some (.lst (j7 0 m.toNat)):=b0;have l5:=D5.lt;refine Kf hT.pull hT.order e6 (by rw[m9];omega) () (D5.snoc _) λl' b g7 hp eb lb D7 G7=>?_;have PZ:=G7.at () (p6 ea);have yo:l'.length=m.toNat:=by rw[hp.length_eq,m9]
   refine⟨b,l',rfl,a8 eb,l',λi ys σ g'=>∃kh z1 z2,ys=kh.map b7.d/\kh.length=i/\(∀c∈kh,kj c)/\σ=[some (.ref a),z1,z2]/\g'=g7,by omega,λi ys σ g' p=>?_,⟨[],none,none,rfl,rfl,by simp,rfl,rfl⟩,λi x ys σ g' hx p=>?_,λys σ g' p=>?_⟩
   ·obtain⟨kh,z1,z2,rfl,jJ,_,_,rfl⟩:=p;exact⟨m8 (a8 eb),by simp[jJ]⟩
   ·obtain⟨kh,z1,z2,rfl,jJ,pD,rfl,rfl⟩:=p;obtain⟨j,rfl,j0,j1⟩:=Ln (hp.mem_iff.mp (aN hx));show dD _ _ _ _ _ _;left;obtain⟨c0,yu,e0⟩:=Dm (cs:=cs) j0 ();refine n9 (a8 PZ) e0 ?_;refine⟨kh++[c0],_,_,by simp,by simp[jJ],λc1 rZ=>?_,rfl,rfl⟩;rcases ba.mp rZ with z|z
    ·exact pD c1 z
    ·simp at z;subst z;exact hg c1 yu
   ·obtain⟨kh,z1,z2,rfl,jJ,pD,rfl,rfl⟩:=p;have e8:(g'++[O.lst (kh.map b7.d)])[g'.length]?=some (.lst (kh.map b7.d)):=b0;have D8:=D7.snoc (.lst (kh.map b7.d));have G8:=(Mu.trans ((Gr.snoc d g5 (.lst (j7 0 m.toNat))).trans G7)).trans (Gr.snoc d g' (.lst (kh.map b7.d)));have l8:g.length<=g'.length:=(Mu.trans ((Gr.snoc d g5 (.lst (j7 0 m.toNat))).trans G7)).len;have fin:∀(uj:List b7) z6 z7 z8 g9,(uj.length:Int)=m->(∀c∈uj,kj c)->g9[g'.length]?=some (.lst (uj.map b7.d))->i9 g9 d->Gr d g g9->wpS (c5 T (k+3)) (j5 (j5 (j5 (j5 (j5 (j5 (j5 (j5 Q6.body)))))))) ⟨λ_ g'=>Q .cE g',Q,λ_ _=>False,λ_ _=>False⟩ [some (.ref d),some (.int n),some (.int m),some (.int v),some (.int way),some (.ref g'.length),z6,z7,z8] g9 E:=by
     intro uj z6 z7 z8 g9 qk GZ e9 D9 G9;dsimp[Q6,j5];left;refine if2 (λc=>?_) (λc=>?_)
     ·left;exact h uj _ _ _ () GZ e9 l8 () () D9 G9
     ·left;exact h uj _ _ _ () GZ e9 l8 v0 v1 D9 G9
    show wpS _ _ _ _ (g'++[O.lst (kh.map b7.d)]) _;have oH:(kh.length:Int)=m:=by omega
    have yc:=D7.lt;generalize hg8:g'++[O.lst (kh.map b7.d)]=g8 at *;left;refine if2 (λc1=>?_) (λc1=>?_)
    ·left;refine if2 (λc2=>?_) (λc2=>?_)
     ·left;refine f7 (n:=m) hT.pull D8 c2 () λr g9 r0 r1 D9 G9=>?_;have e9:=G9.at () e8;obtain⟨c0,yu,e0⟩:=Dm (cs:=kh) r0 (by(clear hn dl m0 m1 iQ iP w0 w1 l3 c v0 v1 la l4 l5 lb yo jJ l8 yc c1 c2 r0;omega));left;refine n9 (a8 e9) e0 ?_;left;refine f7 (n:=m) hT.pull D9 c2 () λr' wz xW Gf Mw Mt=>?_;have lS:=Mt.at () e9;obtain⟨c3,yt,e3⟩:=Dm (cs:=kh) xW (by(clear hn dl m0 m1 iQ iP w0 w1 l3 c v0 v1 la l4 l5 lb yo jJ l8 yc c1 c2 r0 r1 xW;omega));refine n9 (a8 lS) e3 ?_;dsimp only[b7.d];left;refine f7 hT.pull (Mw.snoc _) ∅ ∅ λr'' Pw rA rz D11 Fw=>?_;have GA:=Mw.lt;have wD:=Fw.at () (b0 (g:=wz) (o:=.lst [.int c0.yr,.int c3.yr,.int 9999]));have wF:=Fw.at () (p6 (o':=.lst [.int c0.yr,.int c3.yr,.int 9999]) lS);obtain⟨x,hx,hm⟩:=E3 (l:=[D.int c0.yr,.int c3.yr,.int 9999]) rA (by simpa using rz);obtain⟨a1,a2,a3,a4,a5,a6⟩:=(pD c0 yu).inv;obtain⟨b1,b2,b3,b4,b5,b6⟩:=(pD c3 yt).inv;have hy:∃y:Int,x=.int y/\0<=y/\y<=9999:=by
       simp only[List.mem_cons,List.mem_nil_iff,or_false] at hm;rcases hm with rfl|rfl|rfl
       ·exact⟨_,rfl,a5,a6⟩
       ·exact⟨_,rfl,b5,b6⟩
       ·exact⟨_,rfl,by decide,by decide⟩
      obtain⟨y,rfl,y0,y1⟩:=hy;refine n9 (a8 wD) hx ?_;left;have hj:lO (kh.map b7.d).length r=some r.toNat:=by
       unfold lO;rw[aK r0,aK (by rw[ag];(clear hn dl m0 m1 iQ iP w0 w1 l3 c v0 v1 la l4 l5 lb yo jJ l8 yc c1 c2 r0 xW Gf rA rz GA a1 a3 a5 a6 b1 b3 b5 b6 y0 y1;omega))]
      refine U1 wF hj ?_;have gr:kj ⟨c0.lo,c3.lm,c3.up,c0.um,y⟩:=kj.mk' a1.1 a1.2 b3.1 b3.2 y0 y1 b2 a4 (pD c3 yt).l8 (pD c0 yu).u8;refine fin (kh.set r.toNat ⟨c0.lo,c3.lm,c3.up,c0.um,y⟩) _ _ _ _ (by simp;(clear hn dl m0 m1 iQ iP w0 w1 l3 c v0 v1 la l4 l5 lb yo jJ l8 yc c1 c2 r0 r1 xW Gf rA rz GA a1 a3 a5 a6 b1 b3 b5 b6 y0 y1;omega)) (λc4 Ox=>?_) ?_ (D11.K5 ()) ((G8.trans (G9.trans (Mt.trans ((Gr.snoc _ _ _).trans Fw)))).K5 l8)
      ·rcases pV Ox with z|z
       ·exact pD c4 z
       ·rw[z];exact gr
      ·rw[get_set wF,List.map_set]
       rfl
     ·refine L5 ?_;exact fin kh _ _ _ _ oH pD e8 D8 G8
    ·exact fin kh _ _ _ _ oH pD e8 D8 G8
  left;refine if2 (λc=>?_) (λc=>?_)
  ·left;refine Zn hT.pull hT.order hT.opened ⟨m0,by omega⟩ D4 λcs a g5 hc hg ea la D5 G5=>?_;exact after cs a g5 hc hg ea la D5 G5
  ·left;refine ZI hT.pull hT.rh hT.qZ ⟨m0,by omega⟩ ⟨v0,by omega⟩ D4 λcs a g5 hc hg ea la D5 G5=>?_;exact after cs a g5 hc hg ea la D5 G5
 left;refine if2 (λc=>?_) (λc=>?_)
 ·left;refine f7 hT.pull D3 ∅ ∅ λr4 g4 rq tJ D4 G4=>?_;walk_at "w1";walk_at "w1";exact tail _ _ () () D4 (Ah.trans G4)
 ·refine L5 ?_;exact tail _ _ () () D3 Ah
end
def F2:bo:=⟨1,1,(.seq (.ifs (.eR (.fR (.call 1 (iD aM (aZ 1) (aZ 9))))) (.seq (.raise "BadAnvils" (fN (iS "there are from one to nine anvils"))) .pass) .pass) .pass)⟩
def zE:bo:=⟨2,2,(.seq (.ret (dA .all (.comp [1] 3 (.one 2) (.fi aM) .no (bP (.cmp .In) bC aM)))) .pass)⟩
def DS:bo:=⟨1,1,(.seq (.ifs (.eR (.fR (.call 12 (fN aM)))) (.seq (.raise "BadCoin" (fN (iS "it is no coin"))) .pass) .pass) .pass)⟩
def V9:bo:=⟨1,2,(.seq (.ifs (eB .Gt (dA .len aM) (aZ 9)) (.seq (.raise "TooMany" (fN (iS "at most nine coins are asked about at once"))) .pass) .pass) (.seq (.dX (.one 1) (.fi aM) (.seq (.expr (.call 39 (fN bq))) .pass)) .pass))⟩
def Q7:bo:=⟨1,1,(.seq (.ifs (eB .NotIn aM (.lit (.tup [(.str "lower"),(.str "upper")]))) (.seq (.raise "BadSide" (fN (iS "a side is lower or upper"))) .pass) .pass) .pass)⟩
def DF:bo:=⟨1,1,(.seq (.expr (.call 40 (fN aM))) (.seq (.ret (bP .oo (.lit (.tup [(.tup [(.str "lower"),(.int 0)]),(.tup [(.str "upper"),(.int 2)])])) aM)) .pass))⟩
noncomputable abbrev Mx(T:Nat->Option bo):Prop:=T 18=some V9/\T 39=some DS
noncomputable abbrev Fy(T:Nat->Option bo):Prop:=T 19=some DF/\T 40=some Q7
def zN:bo:=⟨2,2,(.seq (.ret (bP (.cmp .Eq) (dA .len (.comp [1] 3 (.one 2) (.fi aM) (eB .NotIn bC aM) bC)) (aZ 0))) .pass)⟩
structure Ex(g g':G):Prop where
 len:g.length<=g'.length
 old:∀i,i<g.length->g'[i]?=g[i]?
theorem Ex.refl(g:G):Ex g g:=⟨av _,λ_ _=>rfl⟩
theorem Ex.trans{g g1 g2:G}(a:Ex g g1)(b:Ex g1 g2):Ex g g2:=⟨aF a.len b.len,λi h=>(b.old i (az h a.len)).trans (a.old i h)⟩
theorem Ex.snoc(g:G)(o:O):Ex g (g++[o]):=⟨by simp,λi h=>aO h⟩
theorem Ex.at(h:Ex g g')(e:g[i]?=some o):g'[i]?=some o:=(h.old i (n6 e)).trans e
theorem Ex.gr(h:Ex g g')(d:Nat):Gr d g g':=⟨h.len,λi _ h2=>h.old i h2⟩
theorem Ex.draw{d:Nat}(h:Ex g g')(D0:i9 g d):i9 g' d:=by
 obtain⟨s,p,b,r,xs,e1,e2,q⟩:=D0.ex;exact⟨s,p,b,r,xs,h.at e1,h.at e2,q⟩
section
variable{T:Nat->Option bo}
theorem QX(h6:T 6=some zZ){i:Int}(h:Q (.bl true) g):c5 T (k+1) 6 [.int i] g Q E:=by
 refine call_of h6 rfl ?_;dsimp[zZ,d0,List.replicate];left;refine rK (c:="int") (b:=true) ∅ rfl ?_;left;refine rK (c:="bool") (b:=false) ∅ rfl ?_;left;exact h
end
def jY(a b:List Int):Bool:=a.all λs=>b.any λm=>m==s
section
variable{T:Nat->Option bo}{d:Nat}
theorem JH(yD:T 15=some zE){a b:List Int}(ha:a.length<=1000)(h:∀g',Ex g g'->Q (.bl (jY a b)) g'):c5 T (k+1) 15 [.tup (a.map .int),.tup (b.map .int)] g Q E:=by
 refine call_of yD rfl ?_;dsimp[zE,d0,List.replicate];left;refine L7 (a9 T _) (vJ (a9 T _) ?_);left;refine⟨_,rfl,_,λi ys σ g'=>∃z w,ys=((a.take i).map λs=>b.any λm=>m==s).map D.bl/\σ=[some (.tup (b.map .int)),z,w]/\g'=g,by simpa using ha,λi ys σ g' p=>⟨w6,?_⟩,⟨none,none,rfl,rfl,rfl⟩,λi x ys σ g' hx p=>?_,λys σ g' p=>?_⟩
 ·obtain⟨z,w,rfl,_⟩:=p;simp;omega
 ·obtain⟨z,w,rfl,rfl,rfl⟩:=p;rw[ak,ae] at hx;obtain⟨s,hs,rfl⟩:=hx;show dD _ _ _ _ _ _;left;refine xo (DC ?_);refine⟨_,_,?_,rfl,rfl⟩;have hi:=(ax.mp hs)
  rw[bQ,hs];simp
 ·obtain⟨z,w,rfl,rfl,rfl⟩:=p;refine yP (a8 b0) (V2 _) ?_;have e:((a.take (a.map D.int).length).map λs=>b.any λm=>m==s).all id=jY a b:=by
   rw[ag,bS];simp[jY,List.all_map]
  rw[e];exact h _ (Ex.snoc _ _)
theorem aQ2(BO:T 17=some zN){a b:List Int}(ha:a.length<=1000)(h:∀g',Ex g g'->Q (.bl (jY a b)) g'):c5 T (k+1) 17 [.tup (a.map .int),.tup (b.map .int)] g Q E:=by
 refine call_of BO rfl ?_;dsimp[zN,d0,List.replicate];left;refine L7 (a9 T _) (vJ (a9 T _) ?_);left;refine⟨_,rfl,_,λi ys σ g'=>∃z w,ys=((a.take i).filter λs=>!(b.any λm=>m==s)).map D.int/\ys.length<=i/\σ=[some (.tup (b.map .int)),z,w]/\g'=g,by simpa using ha,λi ys σ g' p=>⟨w6,?_⟩,⟨none,none,rfl,by simp,rfl,rfl⟩,λi x ys σ g' hx p=>?_,λys σ g' p=>?_⟩
 ·obtain⟨z,w,_,h1,_⟩:=p;exact h1
 ·obtain⟨z,w,e,hl,rfl,rfl⟩:=p;rw[ak,ae] at hx;obtain⟨s,hs,rfl⟩:=hx;show dD _ _ _ _ _ _;left;refine V0 (DC ?_);left;cases hc:(b.any λm=>m==s) with
  |true =>
   refine qE ⟨_,_,?_,by omega,rfl,rfl⟩;rw[bQ,hs,e];simp[hc]
  |false =>
   refine ni (w_var rfl ⟨_,_,?_,by simp;omega,rfl,rfl⟩);rw[bQ,hs,e];simp[hc]
 ·obtain⟨z,w,e,hl,rfl,rfl⟩:=p;rw[ag,bS] at e;refine J5 (a8 b0) ?_;left;have e2:decide ((ys.length:Int)=0)=jY a b:=by
   rw[e,ag,aW,bE];unfold jY;rw[cw];constructor
   ·intro h0 s hs;have h1:(a.filter λs=>!(b.any λm=>m==s))=[]:=dY ();rw[uN] at h1;have:=h1 s hs;simpa using this
   ·intro h0;have h1:(a.filter λs=>!(b.any λm=>m==s))=[]:=by
     rw[uN];intro s hs;simpa using h0 s hs
    rw[h1]
    rfl
  rw[e2];exact h _ (Ex.snoc _ _)
theorem a79{x:Str}(hx:PyData.strOk x=true)(h:kb (decide (x="lower")||decide (x="upper"))):rL g (.str x) (.tup [.str "lower",.str "upper"]) kb:=by
 refine⟨_,.inr ⟨_,[.str "lower",.str "upper"],.str x,rfl,rfl,rfl,by simp only[PyData.canLayAll0,PyData.canLay0,Bool.and_true];decide +kernel,by simp only[PyData.canLay0];exact hx,rfl⟩,?_⟩;have e:∀y:Str,PyData.eqv (.str y) (.str x)=decide (x=y):=λy=>by
  simp only[PyData.eqv];rw[aW,bz,bE];exact eq_comm
 simp only[List.any_cons,List.any_nil,Bool.or_false,e];exact h
theorem Yo(Pa:T 40=some Q7){x:Str}(ho:PyData.strOk x=true)(h1:x="lower"\/x="upper"->Q .cE g)(h3:x≠"lower"->x≠"upper"->E ⟨"BadSide"⟩ g):c5 T (k+1) 40 [.str x] g Q E:=by
 refine call_of Pa rfl ?_;dsimp[Q7,d0,List.replicate];left;refine V0 (a79 ho ?_);left;by_cases e:x="lower"\/x="upper"
 ·refine gA (by rw[Bool.not_eq_false',eJ,bE,bE];exact e) ?_;left;exact h1 e
 ·refine ij (by rw[Bool.not_eq_true',Bool.or_eq_false_iff,dP,dP];exact not_or.mp e) ?_;left;exact h3 (λz=>e (.inl z)) (λz=>e (.inr z))
theorem F9(mh:Fy T){x:Str}(ho:PyData.strOk x=true)(h1:x="lower"->Q (.int 0) g)(h2:x="upper"->Q (.int 2) g)(h3:x≠"lower"->x≠"upper"->E ⟨"BadSide"⟩ g):c5 T (k+2) 19 [.str x] g Q E:=by
 refine call_of mh.1 rfl ?_;dsimp[DF,d0,List.replicate];left;refine Yo mh.2 ho (λhx=>?_) h3;left;by_cases e1:x="lower"
 ·have el:O5 [.tup [.str "lower",.int 0],.tup [.str "upper",.int 2]] x=some (.int 0):=by simp[O5,e1]
  refine II el ?_;exact h1 e1
 ·have e2:x="upper":=hx.resolve_left e1;have el:O5 [.tup [.str "lower",.int 0],.tup [.str "upper",.int 2]] x=some (.int 2):=by simp[O5,e1];simp[e2]
  refine II el ?_;exact h2 e2
def CB(c:b7):Prop:=c.lm.length<=8/\c.um.length<=8
theorem Y5(h1:NF T)(h2:T 2=some I9)(ud:T 12=some B9)(wt:Mx T)(ha:g[a]?=some (.lst (cs.map b7.d)))(hz:cs.length<=1000)(hm:9<cs.length->E ⟨"TooMany"⟩ g)(hb:cs.length<=9->cs.all u6=false->E ⟨"BadCoin"⟩ g)(h:cs.length<=9->cs.all u6=true->Q .cE g):c5 T (k+6) 18 [.ref a] g Q E:=by
 refine call_of wt.1 rfl ?_;dsimp[V9,d0,List.replicate];left;rw[ag];refine if2 (λc=>?_) (λc=>?_)
 ·left;exact hm ()
 have h9:cs.length<=9:=by omega
 left;refine x8 (a9 T _) (kY (a9 T _) ?_);left;refine⟨a,_,rfl,a8 ha,cs.map b7.d,λi σ g'=>∃z,σ=[some (.ref a),z]/\g'=g/\(cs.take i).all u6=true,λi σ g' p=>?_,⟨none,rfl,rfl,by simp⟩,λi x σ g' hx p=>?_,λσ g' p=>?_⟩
 ·obtain⟨z,rfl,rfl,_⟩:=p;exact m8 (a8 ha)
 ·obtain⟨z,rfl,rfl,hg⟩:=p;rw[ak,ae] at hx;obtain⟨c,hc,rfl⟩:=hx;refine i8 ?_
  try show wpS _ _ _ _ _ _
  left;refine call_of wt.2 rfl ?_;dsimp[DS,d0,List.replicate];left;refine aE3 h1 h2 ud ?_;left;cases e:u6 c with
  |true =>
   left;refine⟨_,rfl,rfl,?_⟩;rw[bQ,hc];simp[hg,e]
  |false =>
   refine Ib ?_;left;refine hb h9 ?_;rw[List.all_eq_false];exact⟨c,aN hc,by rw[e];decide⟩
 ·obtain⟨z,rfl,rfl,hg⟩:=p;rw[ag,bS] at hg;exact h h9 hg
end
def B3(f:Int)(c:b7):Int:=if f=0 then c.lo else c.up
def sT(f:Int)(c:b7):List Int:=if f=0 then c.lm else c.um
theorem CB.Nz{c:b7}(h:CB c)(f:Int):(sT f c).length<=1000:=by
 unfold sT;split
 ·have:=h.1;omega
 ·have:=h.2;omega
theorem M6(hf:f=0\/f=2)(c:b7):gF [D.int c.lo,D.tup (c.lm.map .int),D.int c.up,D.tup (c.um.map .int),D.int c.yr] f=some (.int (B3 f c)):=by
 rcases hf with rfl|rfl<;>rfl
theorem Mn(hf:f=0\/f=2)(c:b7):gF [D.int c.lo,D.tup (c.lm.map .int),D.int c.up,D.tup (c.um.map .int),D.int c.yr] (f+1)=some (.tup ((sT f c).map .int)):=by
 rcases hf with rfl|rfl<;>rfl
def cD:b7:=⟨0,[],0,[],0⟩
noncomputable abbrev bZ(cs:List b7)(i:Nat):b7:=cs.getD i cD
theorem C6{c:b7}(h:cs[i]?=some c):bZ cs i=c:=by simp[bZ,List.getD,h]
inductive RW where
 |fU|lower|upper
def RW.s:RW->Str
 |.fU=>"coin"
 |.lower=>"lower"
 |.upper=>"upper"
structure gL where
 w:RW
 x:Int
 y:Int
def gL.d(r:gL):D:=.tup [.str r.w.s,.int r.x,.int r.y]
def meant(cs:List b7)(w:RW)(x:Int)(i:Nat):Bool:=match w with
 |.fU=>decide ((i:Int)=x)
 |.lower=>decide ((bZ cs i).lo=x)
 |.upper=>decide ((bZ cs i).up=x)
def ka(cs:List b7)(w:RW)(x:Int):List Nat:=(List.range cs.length).filter (meant cs w x)
def c6(l:List Nat):List D:=l.map λ(i:Nat)=>D.int i
def pX(l:List Nat):Nat:=(l.map (2 ^ ·)).sum
def je(n:Nat)(p:Nat->Bool):Nat:=pX ((List.range n).filter p)
theorem Me(n:Nat)(p:Nat->Bool):je (n+1) p=je n p+if p n=true then 2 ^ n else 0:=by
 unfold je pX;rw[jm,fx,da,List.sum_append]
 congr 1
 cases h:p n<;>simp[List.filter_cons,h]
theorem Sq(n:Nat)(p:Nat->Bool):je n p<2 ^ n:=by
 induction n with
 |zero=>simp[je,pX]
 |succ n ih =>
  rw[Me,uL];split<;>omega
theorem Ls(n:Nat)(p:Nat->Bool)(i:Nat):(je n p).testBit i=(decide (i<n)&&p i):=by
 induction n with
 |zero=>simp[je,pX]
 |succ n ih =>
  have hl:=Sq n p;rw[Me];by_cases hp:p n=true
  ·rw[aK hp,Nat.add_comm];rcases hX i n with h|h|h
   ·rw[Nat.testBit_two_pow_add_gt h,ih,aw h,aw ()]
   ·subst h;rw[Nat.testBit_two_pow_add_eq,ih];simp[hp]
   ·rw[Nat.testBit_lt_two_pow (az (show 2 ^ n+je n p<2 ^ (n+1) by rw[uL];omega) (jR () h)),aD ()]
    rfl
  ·rw[aB hp,Nat.add_zero,ih];by_cases h:i=n
   ·subst h;simp[hp]
   ·rw[show decide (i<n)=decide (i<n+1) from iL.mpr ()]
theorem CP(a b:Nat):Builtin.bitAnd (a:Int) (b:Int)=((a &&& b:Nat):Int):=by
 unfold Builtin.bitAnd;rw[aw (MM a),aw (MM b)];simp
theorem Rm(a b:Nat):Builtin.bitOr (a:Int) (b:Int)=((a |||b:Nat):Int):=by
 unfold Builtin.bitOr Builtin.bitAnd;have h1:∀x:Nat,decide (0<=Builtin.bitNot (x:Int))=false:=λx=>by unfold Builtin.bitNot;exact aD ()
 have h2:∀x:Nat,Builtin.bitNot (Builtin.bitNot (x:Int))=x:=λx=>by unfold Builtin.bitNot;omega
 rw[h1,h1];simp only[h2];simp
theorem Yk(a b:Nat):((a &&& b:Nat)≠0)↔∃i,a.testBit i=true/\b.testBit i=true:=by
 constructor
 ·intro h;obtain⟨i,hi⟩:=Nat.exists_testBit_of_ne_zero h;rw[Nat.testBit_and,aR] at hi;exact⟨i,hi⟩
 ·rintro⟨i,h1,h2⟩ e;have:(a &&& b).testBit i=true:=by rw[Nat.testBit_and,h1,h2];rfl
  rw[e,Nat.zero_testBit] at this;cases this
theorem zt(s n:Nat)(p:Nat->Bool):((((s &&& je n p:Nat):Int) != 0)=(List.range n).any λi=>s.testBit i&&p i):=by
 rw[aW,bne_iff_ne,aU];have:(((s &&& je n p:Nat):Int)≠0)↔((s &&& je n p:Nat)≠0):=by omega
 rw[this,Yk];constructor
 ·rintro⟨i,h1,h2⟩;rw[Ls,aR,dE] at h2;exact⟨i,bu.mpr h2.1,by rw[h1,h2.2];rfl⟩
 ·rintro⟨i,h1,h2⟩;rw[aR] at h2;exact⟨i,h2.1,by rw[Ls,aw (bu.mp h1),h2.2];rfl⟩
def mw(a b:b7):Bool:=(decide (a.lo=b.lo)&&!jY a.lm b.lm)||(decide (a.up=b.up)&&!jY a.um b.um)
def kU(a b:b7):Bool:=decide (0<b.yr)&&decide (b.yr<a.yr)
def K3(cs:List b7)(S:Nat->Bool)(p:Nat):Bool:=(List.range cs.length).any λi=>S i&&mw (bZ cs i) (bZ cs p)
def J6(cs:List b7)(S:Nat->Bool)(p:Nat):Bool:=(List.range cs.length).any λi=>S i&&kU (bZ cs i) (bZ cs p)
def Z0(cs:List b7)(S:Nat->Bool)(p:Nat)(d:Int):Bool :=
 ((List.range cs.length).any λi=>(S i||decide (i=p))&&decide ((bZ cs i).lo=d))&&((List.range cs.length).any λi=>!S i&&decide ((bZ cs i).lo=d))
def ux(cs:List b7)(S:Nat->Bool)(p:Nat):Nat:=((o8 (cs.map b7.lo)).filter (Z0 cs S p)).length
def Q3(cs:List b7)(rs:List gL)(S:Nat->Bool)(p:Nat):Bool:=rs.all λr=>!meant cs r.w r.y p||(List.range cs.length).any λi=>S i&&meant cs r.w r.x i
def fault(cs:List b7)(v:Int)(rs:List gL)(S:Nat->Bool)(p:Nat):Str :=
 if K3 cs S p=true then "wear" else if J6 cs S p=true then "year" else if v<ux cs S p then "anvil" else if Q3 cs rs S p=true then "" else "rule"
def yG(x:Str):D:=if x="" then .cE else .str x
theorem aI0{S S':Nat->Bool}(h:∀i,i<cs.length->S i=S' i):fault cs v rs S p=fault cs v rs S' p:=by
 have a:∀f:Nat->Bool->Bool,((List.range cs.length).any λi=>f i (S i))=(List.range cs.length).any λi=>f i (S' i):=λf=>by
  rw[aW,aU,aU];constructor
  ·rintro⟨i,h1,h2⟩;exact⟨i,h1,by rw[<- h i (bu.mp h1)];exact h2⟩
  ·rintro⟨i,h1,h2⟩;exact⟨i,h1,by rw[h i (bu.mp h1)];exact h2⟩
 have b1:K3 cs S p=K3 cs S' p:=a λi t=>t&&mw (bZ cs i) (bZ cs p);have b2:J6 cs S p=J6 cs S' p:=a λi t=>t&&kU (bZ cs i) (bZ cs p);have b3:Z0 cs S p=Z0 cs S' p:=by
  funext d
  unfold Z0;rw[a λi t=>(t||decide (i=p))&&decide ((bZ cs i).lo=d),a λi t=>!t&&decide ((bZ cs i).lo=d)]
 have b4:Q3 cs rs S p=Q3 cs rs S' p:=by
  unfold Q3
  congr 1
  funext r
  rw[a λi t=>t&&meant cs r.w r.x i]
 unfold fault ux;rw[b1,b2,b3,b4]
def U6:bo:=⟨3,4,(.seq (.ifs (.eR (.fR (.call 38 (fN bC)))) (.seq (.ret (.prim .lst .nil)) .pass) .pass) (.seq (.ifs (eB .Eq bq (iS "coin")) (.seq (.ret (.comp [2] 3 (.one 2) (.fh (dA .len aM)) (eB .Eq bC aM) bC)) .pass) .pass) (.seq (.set 3 (.call 19 (fN bq))) (.seq (.ret (.comp [3,2] 5 (.many [3,4]) (.lP aM) (eB .Eq (dh dj aM) bq) bN)) .pass))))⟩
def De:bo:=⟨2,3,(.seq (.expr (.call 18 (fN aM))) (.seq (.set 2 (.call 19 (fN bq))) (.seq (.ret (.iy [2] 3 (.one 2) (.fi aM) .no (dh bC aM))) .pass)))⟩
def DG:bo:=⟨2,5,(.seq (.mE (.many [2,3,4]) bq) (.seq (.ifs (.jN (eB .NotIn bC (.lit (.tup [(.str "coin"),(.str "lower"),(.str "upper")]))) (eB .Eq bN dj)) (.seq (.ret (.lit (.bl false))) .pass) .pass) (.seq (.ret (.dM (bP (.cmp .NotEq) (.call 74 (iD aM bC bN)) (.prim .lst .nil)) (bP (.cmp .NotEq) (.call 74 (iD aM bC dj)) (.prim .lst .nil)))) .pass)))⟩
def V8:bo:=⟨2,4,(.seq (.dX (.many [2,3]) (.lP bq) (.seq (.ifs (.eR (.fR (.call 88 (dQ aM bN)))) (.seq (.raise "BadRule" (fN (.prim .mR (iD (iS "rule ") (dA .fv bC) (iS " is none for these coins"))))) .pass) .pass) .pass)) .pass)⟩
def zO:bo:=⟨1,1,(.seq (.ret (dA .sum (.comp [] 2 (.one 1) (.fi aM) .no (bP (.bin .LShift) (aZ 1) bq)))) .pass)⟩
def U5:bo:=⟨2,2,(.seq (.ret (bP (.bin .BitOr) aM (bP (.bin .LShift) (aZ 1) bq))) .pass)⟩
def DJ:bo:=⟨2,4,(.seq (.dX (.one 2) (.fi (.lit (.tup [(.str "lower"),(.str "upper")]))) (.seq (.set 3 (.call 19 (fN bC))) (.seq (.ifs (.dM (eB .Eq (dh aM bN) (dh bq bN)) (.eR (.fR (.call 15 (dQ (dh aM (bP (.bin .Add) bN (aZ 1))) (dh bq (bP (.bin .Add) bN (aZ 1)))))))) (.seq (.ret (.lit (.bl true))) .pass) .pass) .pass))) (.seq (.ret (.lit (.bl false))) .pass))⟩
def EM:bo:=⟨2,2,(.seq (.ret (.chain .Lt .Lt (aZ 0) (dh bq (aZ 4)) (dh aM (aZ 4)))) .pass)⟩
def V5:bo:=⟨1,1,(.seq (.ret (.comp [0] 3 (.one 2) (.fi aM) .no (.call 90 (fN (.comp [2] 4 (.many [2,3]) (.lP aM) (.fR (.call 92 (dQ bN aM))) bC))))) .pass)⟩
def S6:bo:=⟨1,1,(.seq (.ret (.comp [0] 3 (.one 2) (.fi aM) .no (.call 90 (fN (.comp [2] 4 (.many [2,3]) (.lP aM) (.fR (.call 93 (dQ bN aM))) bC))))) .pass)⟩
def DT:bo:=⟨1,1,(.seq (.ret (.comp [0] 3 (.one 2) (.fi (.call 20 (dQ aM (iS "lower")))) .no (.call 90 (fN (.call 74 (iD aM (iS "lower") bC)))))) .pass)⟩
def P8:bo:=⟨2,8,(.seq (.set 2 (.comp [] 2 (.one 1) (.fi aM) .no (.prim .lst .nil))) (.seq (.dX (.many [3,4,5]) (.fi bq) (.seq (.set 6 (.call 90 (fN (.call 74 (iD aM bN dj))))) (.seq (.dX (.one 7) (.fi (.call 74 (iD aM bN fm))) (.seq (.ifs (eB .NotIn fM (dh bC gz)) (.seq (.expr (.fJ .append (dh bC gz) (fN fM))) .pass) .pass) .pass)) .pass))) (.seq (.ret bC) .pass)))⟩
def O4:bo:=⟨3,3,(.seq (.expr (.call 18 (fN aM))) (.seq (.expr (.call 42 (fN bq))) (.seq (.expr (.call 89 (dQ aM bC))) .pass)))⟩
def DE:bo:=⟨3,3,(.seq (.expr (.call 98 (iD aM bq bC))) (.seq (.ret (.make "Bounds" 113 (iD aM bq bC))) .pass))⟩
def DU:bo:=⟨3,5,(.seq (.set 3 (.call 91 (dQ bq bC))) (.seq (.set 4 (bP (.bin .Sub) (dA (.fld "full") aM) bq)) (.seq (.ret (dA .len (.comp [4,3] 4 (.one 3) (.fi (dA (.fld "lower_dies") aM)) (.dM (.fR (bP (.bin .BitAnd) bN bq)) (.fR (bP (.bin .BitAnd) bN aM))) bN))) .pass)))⟩
def DW:bo:=⟨3,3,(.seq (.ifs (.fR (bP (.bin .BitAnd) bq (dh (dA (.fld "worn_by_place") aM) bC))) (.seq (.ret (iS "wear")) .pass) .pass) (.seq (.ifs (.fR (bP (.bin .BitAnd) bq (dh (dA (.fld "later_by_place") aM) bC))) (.seq (.ret (iS "year")) .pass) .pass) (.seq (.ifs (eB .Gt (.call 100 (iD aM bq bC)) (dA (.fld "room") aM)) (.seq (.ret (iS "anvil")) .pass) .pass) (.seq (.ifs (.eR (.fR (dA .all (.comp [1] 3 (.one 2) (.fi (dh (dA (.fld "needed_by_place") aM) bC)) .no (bP (.bin .BitAnd) aM bC))))) (.seq (.ret (iS "rule")) .pass) .pass) (.seq (.ret (.lit .cE)) .pass)))))⟩
def W0:bo:=⟨4,4,(.seq (.iO "size" ["Bounds"] aM (dA .len bq)) (.seq (.iO "full" ["Bounds"] aM (bP (.bin .Sub) (bP (.bin .LShift) (aZ 1) (dA .len bq)) (aZ 1))) (.seq (.iO "room" ["Bounds"] aM bC) (.seq (.iO "worn_by_place" ["Bounds"] aM (.call 94 (fN bq))) (.seq (.iO "later_by_place" ["Bounds"] aM (.call 95 (fN bq))) (.seq (.iO "lower_dies" ["Bounds"] aM (.call 96 (fN bq))) (.seq (.iO "needed_by_place" ["Bounds"] aM (.call 97 (dQ bq bN))) .pass)))))))⟩
section
variable{σ:S}{t:MT}{it c elt:ME}{d5:List Nat}
theorem A2(hP:j6 P)(Sh:S->Prop)(p:Nat->Bool)(w:Nat->D){k:IK}(hk:∀g',Ex g g'->k.Is l g')(hl:l.length<=1000)(h0:Sh (J8 σ d5 n))(hs:∀i d σ g',l[i]?=some d->Ex g g'->Sh σ->ku t d σ λcT=>dD P c cT g' (λb g3=>b=p i/\Ex g g3/\if b=true then bh P elt cT g3 (λy g4=>y=w i/\Ex g g4/\Sh cT) ki else Sh cT) ki)(hd:∀g',Ex g g'->Q (.ref g'.length) (g'++[.lst (((List.range l.length).filter p).map w)]))(hi:∀R:IK->G->Prop,R k g->iN P it σ g R E):bh P (.comp d5 n t it c elt) σ g Q E:=by
 refine L7 hP (hi _ ?_);refine⟨l,λi ys σ g'=>Ex g g'/\ys=((List.range i).filter p).map w/\Sh σ,hl,λi ys σ g' q=>⟨hk _ q.1,?_⟩,⟨Ex.refl _,rfl,h0⟩,λi x ys σ g' hx q=>?_,λys σ g' q=>?_⟩
 ·obtain⟨_,rfl,_⟩:=q;rw[ag];exact aF (fQ _ _) (by simp)
 ·obtain⟨e1,rfl,sh⟩:=q;refine A8 (λcT q=>t8 hP c _ _ _ _ _ _ (λb g3 q=>?_) (λ_ _ z=>z) q) (hs i x σ g' hx e1 sh);obtain⟨rfl,e3,q⟩:=q;have ef:((List.range (i+1)).filter p).map w=((List.range i).filter p).map w++if p i=true then[w i] else[]:=by
   rw[jm,fx,da]
   congr 1
   cases z:p i<;>simp only[List.filter_cons,z,List.filter_nil]<;>rfl
  cases hp:p i with
  |true =>
   rw[hp] at q ef;rw[aK rfl] at q ⊢;refine b9 hP elt _ _ _ _ _ _ (λy g4 q=>?_) (λ_ _ z=>z) q;obtain⟨rfl,e4,sh⟩:=q;exact⟨e4,by rw[ef];rfl,sh⟩
  |false =>
   rw[hp] at q ef;rw[aB ∅] at q ⊢;exact⟨e3,by rw[ef];simp,q⟩
 ·obtain⟨e1,rfl,sh⟩:=q;exact hd g' e1
theorem comp_map(hP:j6 P)(Sh:S->Prop)(w:Nat->D){k:IK}(hk:∀g',Ex g g'->k.Is l g')(hl:l.length<=1000)(h0:Sh (J8 σ d5 n))(hs:∀i d σ g',l[i]?=some d->Ex g g'->Sh σ->ku t d σ λcT=>bh P elt cT g' (λy g4=>y=w i/\Ex g g4/\Sh cT) ki)(hd:∀g',Ex g g'->Q (.ref g'.length) (g'++[.lst ((List.range l.length).map w)]))(hi:∀R:IK->G->Prop,R k g->iN P it σ g R E):bh P (.comp d5 n t it .no elt) σ g Q E:=by
 refine A2 hP Sh (λ_=>true) w hk hl h0 (λi d σ g' hx e sh=>A8 (λcT q=>Jh ⟨rfl,e,?_⟩) (hs i d σ g' hx e sh)) (λg' e=>?_) hi
 ·exact ni q
 ·have:=hd g' e
  rwa [show(List.range l.length).filter (λ_=>true)=List.range l.length from List.filter_eq_self.mpr λ_ _=>rfl]
theorem K6(hP:j6 P){o:ME}(hl:c8 g a=some l)(h:∀Q:KD,Q (.ref a) g->bh P o σ g Q E):∀R:IK->G->Prop,R (.lst a) g->iN P (.fi o) σ g R E:=λR r=>kY hP (h _ ⟨a,l,rfl,hl,r⟩)
theorem Fh{o:ME}(hl:c8 g a=some l)(h:∀Q:KD,Q (.ref a) g->bh P o σ g Q E):∀R:IK->G->Prop,R (.pK a) g->iN P (.lP o) σ g R E:=λR r=>AX (h _ ⟨a,l,rfl,hl,r⟩)
theorem zY(hP:j6 P){o:ME}(hj:j<=1000)(h:∀Q:KD,Q (.int (j:Nat)) g->bh P o σ g Q E):∀R:IK->G->Prop,R (.fix (j7 0 j)) g->iN P (.fh o) σ g R E:=λR r=>qD hP (h _ ⟨j,rfl,by omega,by omega,by simpa using r⟩)
end
theorem K7(l:List Nat):c6 l=(l.map λ(i:Nat)=>(i:Int)).map D.int:=by simp[c6]
structure TB0(T:Nat->Option bo):Prop where
 nf:NF T
 h2:T 2=some I9
 ud:T 12=some B9
 wt:Mx T
 mh:Fy T
 yD:T 15=some zE
 Pe:T 20=some De
 sk:T 74=some U6
 OY:T 88=some DG
 OX:T 89=some V8
 uc:T 90=some zO
 wj:T 91=some U5
 OW:T 92=some DJ
 OV:T 93=some EM
 OU:T 94=some V5
 OT:T 95=some S6
 OS:T 96=some DT
 OR:T 97=some P8
 Cd:T 100=some DU
 Cc:T 101=some DW
 BX:T 113=some W0
structure TB(T:Nat->Option bo):Prop extends TB0 T where
 wm:T 42=some F2
 BL:T 98=some O4
 OQ:T 99=some DE
instance{T:Nat->Option bo}:CoeOut (TB T) (TB0 T):=⟨TB.toTB0⟩
section
variable{T:Nat->Option bo}{d:Nat}
theorem YI(h1:NF T)(wm:T 42=some F2){i:Int}(h:1<=i->i<=9->Q .cE g)(hn:¬(1<=i/\i<=9)->E ⟨"BadAnvils"⟩ g):c5 T (k+3) 42 [.int i] g Q E:=by
 refine call_of wm rfl ?_;dsimp[F2,d0,List.replicate];left;refine A7 (k:=k) h1 ?_;left;by_cases hi:1<=i/\i<=9
 ·rw[aw hi.1,aw hi.2];left;exact h hi.1 hi.2
 ·have:(decide (1<=i)&&decide (i<=9))=false:=by
   rw[Bool.and_eq_false_iff,dP,dP];omega
  rw[this];left;exact hn hi
theorem P0(h1:NF T)(mh:Fy T)(sk:T 74=some U6){x:Int}(ha:g[a]?=some (.lst (cs.map b7.d)))(hz:cs.length<=1000)(h:∀g' b,Ex g g'->g.length<=b->g'[b]?=some (.lst (c6 (ka cs w x)))->Q (.ref b) g'):c5 T (k+3) 74 [.ref a,.str w.s,.int x] g Q E:=by
 refine call_of sk rfl ?_;dsimp[U6,d0,List.replicate];left;refine Km (k:=k+1) h1 ?_;left;have fld:∀f:Int,(f=0\/f=2)->(∀i c,cs[i]?=some c->meant cs w x i=decide (B3 f c=x))->bh (c5 T (k+2)) (.comp [3,2] 5 (.many [3,4]) (.lP (.var 0)) (.fR (.prim (.cmp .Eq) (.cons (.prim .ix (.cons (.var 4) (.cons (.var 0) .nil))) (.cons (.var 1) .nil)))) (.var 3)) [some (.ref a),some (.str w.s),some (.int x),some (.int f)] g Q E:=λf hf hm=>by
  refine A2 (a9 T _) (λσ=>∃z2 z3 z4,σ=[some (.int f),some (.int x),z2,z3,z4]) (meant cs w x) (λi=>.int (i:Nat)) (l:=nk (cs.map b7.d)) (λg' e=>zh (a8 (e.at ha))) (by rw[N8];simpa using hz) ⟨none,none,none,rfl⟩ (λi d σ g' hx e sh=>?_) (λg' e=>?_) (Fh (a8 ha) λQ q=>w_var (d:=.ref a) rfl q)
  ·obtain⟨z2,z3,z4,rfl⟩:=sh;obtain⟨dd,hd,rfl⟩:=zz hx;rw[ak,ae] at hd;obtain⟨c,hc,rfl⟩:=hd;refine C3 rfl ?_
   try show dD _ _ _ _ _ _
   left;refine v9 (M6 hf c) ?_;left;rw[hm i c hc];refine⟨rfl,e,?_⟩;refine if2 (λ_=>?_) (λ_=>?_)
   ·left;exact⟨rfl,e,_,_,_,rfl⟩
   ·exact⟨_,_,_,rfl⟩
  ·rw[N8,ag];exact h _ _ (e.trans (Ex.snoc _ _)) e.len b0
 cases w with
 |fU =>
  refine ij (by decide +kernel) ?_;left;refine A2 (a9 T _) (λσ=>∃z1 z2,σ=[some (.int x),z1,z2]) (meant cs .fU x) (λi=>.int (i:Nat)) (l:=j7 0 cs.length) (λg' e=>w6) (by rw[m9];exact hz) ⟨none,none,rfl⟩ (λi d σ g' hx e sh=>?_) (λg' e=>?_) (zY (a9 T _) hz λQ q=>?_)
  ·obtain⟨z2,z3,rfl⟩:=sh;obtain⟨hi,rfl⟩:=B7 hx;rw[jd];refine i8 ?_
   try show dD _ _ _ _ _ _
   left;refine⟨rfl,e,?_⟩;refine if2 (λ_=>?_) (λ_=>?_)
   ·left;exact⟨rfl,e,_,_,rfl⟩
   ·exact⟨_,_,rfl⟩
  ·rw[m9];exact h _ _ (e.trans (Ex.snoc _ _)) e.len b0
  ·left;rw[ag];exact q
 |lower =>
  refine gA (by decide +kernel) ?_;left;refine F9 (k:=k) mh (by decide +kernel) (λ_=>?_) (λz=>absurd z (by decide +kernel)) (λz=>absurd rfl z);left;exact fld 0 (.inl rfl) λi c hc=>by simp only[meant,C6 hc];rfl
 |upper =>
  refine gA (by decide +kernel) ?_;left;refine F9 (k:=k) mh (by decide +kernel) (λz=>absurd z (by decide +kernel)) (λ_=>?_) (λ_ z=>absurd rfl z);left;exact fld 2 (.inr rfl) λi c hc=>by simp only[meant,C6 hc];rfl
theorem O0(uc:T 90=some zO){l:List Nat}(ha:g[a]?=some (.lst (c6 l)))(hz:l.length<=1000)(hl:∀i∈l,i<=1000)(h:∀g',Ex g g'->Q (.int (pX l:Nat)) g'):c5 T (k+1) 90 [.ref a] g Q E:=by
 refine call_of uc rfl ?_;dsimp[zO,d0,List.replicate];left;refine comp_map (a9 T _) (λσ=>∃z0 z1,σ=[z0,z1]) (λi=>.int ((2 ^ (l.getD i 0):Nat):Int)) (l:=c6 l) (k:=.lst a) (λg' e=>m8 (a8 (e.at ha))) (by simpa[c6] using hz) ⟨none,none,rfl⟩ (λi d σ g' hx e sh=>?_) (λg' e=>?_) (K6 (a9 T _) (a8 ha) λQ q=>w_var (d:=.ref a) rfl q)
 ·obtain⟨z0,z1,rfl⟩:=sh;rw[c6,ak,ae] at hx;obtain⟨j,hj,rfl⟩:=hx;refine i8 ?_
  try show bh _ _ _ _ _ _
  left;have:=hl j (aN hj);refine DZ ⟨by omega,by omega,by decide⟩ ?_;refine⟨?_,e,_,_,rfl⟩;simp[List.getD,hj]
 ·refine XN (ns:=(List.range l.length).map λi=>((2 ^ (l.getD i 0):Nat):Int)) (a8 (by rw[bA];simpa[c6] using b0)) ?_;have:((List.range l.length).map λi=>((2 ^ (l.getD i 0):Nat):Int)).sum=(pX l:Nat):=by
   have e2:(List.range l.length).map (λi=>((2 ^ (l.getD i 0):Nat):Int))=(l.map (2 ^ ·)).map λ(n:Nat)=>(n:Int):=by
    refine bW λi=>?_;rw[ak,ak,ak];by_cases hi:i<l.length
    ·rw[bT hi,ao hi];simp[List.getD,hi]
    ·rw[aQ (by simpa using hi),aQ ()]
     rfl
   rw[e2];unfold pX;generalize l.map (2 ^ ·)=m
   induction m with
   |nil=>rfl
   |cons x r ih=>simp[ih]
  rw[this];exact h _ (e.trans (Ex.snoc _ _))
theorem R9(wj:T 91=some U5){s:Nat}(hp:p<=1000)(h:Q (.int ((s |||2 ^ p:Nat):Int)) g):c5 T (k+1) 91 [.int (s:Nat),.int (p:Nat)] g Q E:=by
 refine call_of wj rfl ?_;dsimp[U5,d0,List.replicate];left;refine DZ ⟨by omega,by omega,by decide⟩ ?_;left;refine Vb ?_;have e:(1:Int)*2 ^ ((p:Nat):Int).toNat=((2 ^ p:Nat):Int):=by simp
 rw[e,Rm];exact h
end
section
variable{T:Nat->Option bo}{d:Nat}
theorem KP{c:b7}(h:CB c):c.lm.length<=1000/\c.um.length<=1000:=⟨aF h.1 ∅,aF h.2 ∅⟩
theorem aC8(hT:TB0 T){c e:b7}(hc:CB c)(h:∀g',Ex g g'->Q (.bl (mw c e)) g'):c5 T (k+3) 92 [c.d,e.d] g Q E:=by
 refine call_of hT.OW rfl ?_;dsimp[DJ,d0,List.replicate];left;refine x8 (a9 T _) (vJ (a9 T _) ?_);left;refine⟨_,rfl,_,λi σ g'=>Ex g g'/\(∃z2 z3,σ=[some c.d,some e.d,z2,z3])/\(1<=i->(decide (c.lo=e.lo)&&!jY c.lm e.lm)=false)/\(2<=i->(decide (c.up=e.up)&&!jY c.um e.um)=false),λ_ _ _ _=>w6,⟨Ex.refl _,⟨none,none,rfl⟩,λz=>absurd z (),λz=>absurd z ()⟩,λi x σ g' hx q=>?_,λσ g' q=>?_⟩
 ·obtain⟨e1,⟨z2,z3,rfl⟩,q1,q2⟩:=q;refine i8 ?_
  try show wpS _ _ _ _ _ _
  match i,hx with
  |0,hx =>
   cases hx;left;refine F9 (k:=k) hT.mh (by decide +kernel) (λ_=>?_) (λz=>absurd z (by decide +kernel)) (λz=>absurd rfl z);left;refine v9 (l:=[.int c.lo,.tup (c.lm.map .int),.int c.up,.tup (c.um.map .int),.int c.yr]) rfl ?_;left;refine v9 (l:=[.int e.lo,.tup (e.lm.map .int),.int e.up,.tup (e.um.map .int),.int e.yr]) rfl ?_;left;refine if2 (λh1=>?_) (λh1=>?_)
   ·left;refine v9 (l:=[.int c.lo,.tup (c.lm.map .int),.int c.up,.tup (c.um.map .int),.int c.yr]) rfl ?_;left;refine v9 (l:=[.int e.lo,.tup (e.lm.map .int),.int e.up,.tup (e.um.map .int),.int e.yr]) rfl ?_;left;refine JH (k:=k+1) hT.yD (KP hc).1 λg2 e2=>?_;left;cases hw:jY c.lm e.lm with
    |false =>
     left;have:mw c e=true:=by unfold mw;rw[aw h1,hw];rfl
     rw[<- this];exact h _ (e1.trans e2)
    |true =>
     left;exact⟨e1.trans e2,⟨_,_,rfl⟩,λ_=>by rw[aw h1];rfl,λz=>absurd z ()⟩
   ·left;exact⟨e1,⟨_,_,rfl⟩,λ_=>by rw[aD h1];rfl,λz=>absurd z ()⟩
  |1,hx =>
   cases hx;left;refine F9 (k:=k) hT.mh (by decide +kernel) (λz=>absurd z (by decide +kernel)) (λ_=>?_) (λ_ z=>absurd rfl z);left;refine v9 (l:=[.int c.lo,.tup (c.lm.map .int),.int c.up,.tup (c.um.map .int),.int c.yr]) rfl ?_;left;refine v9 (l:=[.int e.lo,.tup (e.lm.map .int),.int e.up,.tup (e.um.map .int),.int e.yr]) rfl ?_;left;refine if2 (λh1=>?_) (λh1=>?_)
   ·left;refine v9 (l:=[.int c.lo,.tup (c.lm.map .int),.int c.up,.tup (c.um.map .int),.int c.yr]) rfl ?_;left;refine v9 (l:=[.int e.lo,.tup (e.lm.map .int),.int e.up,.tup (e.um.map .int),.int e.yr]) rfl ?_;left;refine JH (k:=k+1) hT.yD (KP hc).2 λg2 e2=>?_;left;cases hw:jY c.um e.um with
    |false =>
     left;have:mw c e=true:=by unfold mw;rw[aw h1,hw];simp
     rw[<- this];exact h _ (e1.trans e2)
    |true =>
     left;exact⟨e1.trans e2,⟨_,_,rfl⟩,λ_=>q1 (),λ_=>by rw[aw h1];rfl⟩
   ·left;exact⟨e1,⟨_,_,rfl⟩,λ_=>q1 (),λ_=>by rw[aD h1];rfl⟩
  |i+2,hx=>simp at hx
 ·obtain⟨e1,⟨z2,z3,rfl⟩,q1,q2⟩:=q
  try show wpS _ _ _ _ _ _
  left;have:mw c e=false:=by unfold mw;rw[q1 ∅,q2 ∅];rfl
  rw[<- this];exact h _ e1
theorem a74(hT:TB0 T){c e:b7}(h:Q (.bl (kU c e)) g):c5 T (k+1) 93 [c.d,e.d] g Q E:=by
 refine call_of hT.OV rfl ?_;dsimp[EM,d0,List.replicate];left;refine v9 (l:=[.int e.lo,.tup (e.lm.map .int),.int e.up,.tup (e.um.map .int),.int e.yr]) rfl ?_;left;refine if2 (λh1=>?_) (λh1=>?_)
 ·left;refine v9 (l:=[.int c.lo,.tup (c.lm.map .int),.int c.up,.tup (c.um.map .int),.int c.yr]) rfl ?_;left;have:kU c e=decide (e.yr<c.yr):=by unfold kU;rw[aw h1];rfl
  rw[<- this];exact h
 ·have:kU c e=false:=by unfold kU;rw[aD h1];rfl
  rw[<- this];exact h
def tI(cs:List b7)(q:b7->b7->Bool):List D:=(List.range cs.length).map λi=>.int ((je cs.length λj=>q (bZ cs j) (bZ cs i):Nat):Int)
theorem X7{q:Nat->Bool}:∀i∈(List.range cs.length).filter q,i<cs.length:=λi hi=>bu.mp (bR.mp hi).1
theorem K8{n:Nat}{q:Nat->Bool}:((List.range n).filter q).length<=n:=aF (fQ _ _) (by simp)
theorem UX(hT:TB0 T)(ha:g[a]?=some (.lst (cs.map b7.d)))(hz:cs.length<=9)(hB:∀c∈cs,CB c)(h:∀g' b,Ex g g'->g.length<=b->g'[b]?=some (.lst (tI cs mw))->Q (.ref b) g'):c5 T (k+4) 94 [.ref a] g Q E:=by
 refine call_of hT.OU rfl ?_;dsimp[V5,d0,List.replicate];left;refine comp_map (a9 T _) (λσ=>∃z1 z2,σ=[some (.ref a),z1,z2]) (λi=>.int ((je cs.length λj=>mw (bZ cs j) (bZ cs i):Nat):Int)) (l:=cs.map b7.d) (k:=.lst a) (λg' e=>m8 (a8 (e.at ha))) (by simp;omega) ⟨none,none,rfl⟩ (λi d σ g' hx e sh=>?_) (λg' e=>?_) (K6 (a9 T _) (a8 ha) λQ q=>w_var (d:=.ref a) rfl q)
 ·obtain⟨z1,z2,rfl⟩:=sh;rw[ak,ae] at hx;obtain⟨c,hc,rfl⟩:=hx;refine i8 ?_
  try show bh _ _ _ _ _ _
  left;refine A2 (a9 T _) (λσ=>∃z1 z2 z3,σ=[some c.d,z1,z2,z3]) (λj=>mw (bZ cs j) (bZ cs i)) (λi=>.int (i:Nat)) (l:=nk (cs.map b7.d)) (k:=.pK a) (λg2 e2=>zh (a8 ((e.trans e2).at ha))) (by rw[N8];simp;omega) ⟨none,none,none,rfl⟩ (λj d σ g2 hx e2 sh=>?_) (λg2 e2=>?_) (Fh (a8 (e.at ha)) λQ q=>w_var (d:=.ref a) rfl q)
  ·obtain⟨z1,z2,z3,rfl⟩:=sh;obtain⟨dd,hd,rfl⟩:=zz hx;rw[ak,ae] at hd;obtain⟨c',jJ,rfl⟩:=hd;refine C3 rfl ?_
   try show dD _ _ _ _ _ _
   left;refine aC8 (k:=k) hT (hB c' (aN jJ)) λg3 e3=>?_;left;refine⟨by simp only[C6 jJ,C6 hc],e2.trans e3,?_⟩;cases mw c' c with
   |true =>
    refine ij rfl ?_;left;exact⟨rfl,e2.trans e3,_,_,_,rfl⟩
   |false=>exact gA rfl ⟨_,_,_,rfl⟩
  ·left;refine O0 (k:=k+2) hT.uc (l:=(List.range cs.length).filter λj=>mw (bZ cs j) (bZ cs i)) (by have:=b0 (g:=g2) (o:=.lst (((List.range (nk (cs.map b7.d)).length).filter λj=>mw (bZ cs j) (bZ cs i)).map λi=>D.int (i:Nat)));rw[N8,ag] at this ⊢;exact this) (aF K8 ()) (λj hj=>by have:=X7 j hj;omega) λg3 e3=>?_;exact⟨rfl,(e.trans (e2.trans (Ex.snoc _ _))).trans e3,_,_,rfl⟩
 ·refine h _ _ (e.trans (Ex.snoc _ _)) e.len ?_;rw[b0,ag]
  rfl
theorem Zg(hT:TB0 T)(ha:g[a]?=some (.lst (cs.map b7.d)))(hz:cs.length<=9)(h:∀g' b,Ex g g'->g.length<=b->g'[b]?=some (.lst (tI cs kU))->Q (.ref b) g'):c5 T (k+4) 95 [.ref a] g Q E:=by
 refine call_of hT.OT rfl ?_;dsimp[S6,d0,List.replicate];left;refine comp_map (a9 T _) (λσ=>∃z1 z2,σ=[some (.ref a),z1,z2]) (λi=>.int ((je cs.length λj=>kU (bZ cs j) (bZ cs i):Nat):Int)) (l:=cs.map b7.d) (k:=.lst a) (λg' e=>m8 (a8 (e.at ha))) (by simp;omega) ⟨none,none,rfl⟩ (λi d σ g' hx e sh=>?_) (λg' e=>?_) (K6 (a9 T _) (a8 ha) λQ q=>w_var (d:=.ref a) rfl q)
 ·obtain⟨z1,z2,rfl⟩:=sh;rw[ak,ae] at hx;obtain⟨c,hc,rfl⟩:=hx;refine i8 ?_
  try show bh _ _ _ _ _ _
  left;refine A2 (a9 T _) (λσ=>∃z1 z2 z3,σ=[some c.d,z1,z2,z3]) (λj=>kU (bZ cs j) (bZ cs i)) (λi=>.int (i:Nat)) (l:=nk (cs.map b7.d)) (k:=.pK a) (λg2 e2=>zh (a8 ((e.trans e2).at ha))) (by rw[N8];simp;omega) ⟨none,none,none,rfl⟩ (λj d σ g2 hx e2 sh=>?_) (λg2 e2=>?_) (Fh (a8 (e.at ha)) λQ q=>w_var (d:=.ref a) rfl q)
  ·obtain⟨z1,z2,z3,rfl⟩:=sh;obtain⟨dd,hd,rfl⟩:=zz hx;rw[ak,ae] at hd;obtain⟨c',jJ,rfl⟩:=hd;refine C3 rfl ?_
   try show dD _ _ _ _ _ _
   left;refine a74 (k:=k+2) hT ?_;left;refine⟨by simp only[C6 jJ,C6 hc],e2,?_⟩;cases kU c' c with
   |true =>
    refine ij rfl ?_;left;exact⟨rfl,e2,_,_,_,rfl⟩
   |false=>exact gA rfl ⟨_,_,_,rfl⟩
  ·left;refine O0 (k:=k+2) hT.uc (l:=(List.range cs.length).filter λj=>kU (bZ cs j) (bZ cs i)) (by have:=b0 (g:=g2) (o:=.lst (((List.range (nk (cs.map b7.d)).length).filter λj=>kU (bZ cs j) (bZ cs i)).map λi=>D.int (i:Nat)));rw[N8,ag] at this ⊢;exact this) (aF K8 ()) (λj hj=>by have:=X7 j hj;omega) λg3 e3=>?_;exact⟨rfl,(e.trans (e2.trans (Ex.snoc _ _))).trans e3,_,_,rfl⟩
 ·refine h _ _ (e.trans (Ex.snoc _ _)) e.len ?_;rw[b0,ag]
  rfl
theorem a83(hT:TB0 T)(ha:g[a]?=some (.lst (cs.map b7.d)))(hz:cs.length<=9)(hg:cs.all u6=true)(h:Q (.ref g.length) (g++[.lst ((o8 (cs.map b7.lo)).map .int)])):c5 T (k+7) 20 [.ref a,.str "lower"] g Q E:=by
 refine call_of hT.Pe rfl ?_;dsimp[De,d0,List.replicate];left;refine Y5 (k:=k) hT.nf hT.h2 hT.ud hT.wt ha () (λz=>by omega) (λ_ z=>by rw[hg] at z;cases z) λ_ _=>?_;left;refine F9 (k:=k+4) hT.mh (by decide +kernel) (λ_=>?_) (λz=>absurd z (by decide +kernel)) (λz=>absurd rfl z);left;refine UR (a9 T _) (kY (a9 T _) ?_);left;refine⟨a,_,rfl,a8 ha,cs.map b7.d,λi ys σ g'=>∃z w,ys=(cs.take i).map b7.lo/\σ=[some (.int 0),z,w]/\g'=g,by simp;omega,λi ys σ g' p=>?_,⟨none,none,rfl,rfl,rfl⟩,λi c ys σ g' hx p=>?_,λys σ g' p=>?_⟩
 ·obtain⟨z,w,rfl,rfl,rfl⟩:=p;exact⟨m8 (a8 ha),by simp;omega⟩
 ·obtain⟨z,w,rfl,rfl,rfl⟩:=p;rw[ak,ae] at hx;obtain⟨c,hc,rfl⟩:=hx;show dD _ _ _ _ _ _;left;refine v9 (l:=[.int c.lo,.tup (c.lm.map .int),.int c.up,.tup (c.um.map .int),.int c.yr]) rfl ?_;refine⟨_,rfl,_,_,?_,rfl,rfl⟩;rw[bQ,hc];simp
 ·obtain⟨z,w,rfl,rfl,rfl⟩:=p;rw[ag,bS];exact h
def W7(cs:List b7):List D:=(o8 (cs.map b7.lo)).map λd=>.int ((je cs.length (meant cs .lower d):Nat):Int)
theorem Yp(hT:TB0 T)(ha:g[a]?=some (.lst (cs.map b7.d)))(hz:cs.length<=9)(hg:cs.all u6=true)(h:∀g' b,Ex g g'->g.length<=b->g'[b]?=some (.lst (W7 cs))->Q (.ref b) g'):c5 T (k+8) 96 [.ref a] g Q E:=by
 refine call_of hT.OS rfl ?_;dsimp[DT,d0,List.replicate];left;have Bp:(o8 (cs.map b7.lo)).length<=9:=aF (O8 _) (by simpa using hz);unfold W7 at h;refine L7 (a9 T _) (kY (a9 T _) ?_);left;refine a83 (k:=k) hT ha hz hg ?_;have e0:=Ex.snoc g (O.lst ((o8 (cs.map b7.lo)).map .int));have hb:=b0 (g:=g) (o:=O.lst ((o8 (cs.map b7.lo)).map .int));generalize o8 (cs.map b7.lo)=ds at *;generalize g++[O.lst (ds.map .int)]=g1 at *;refine⟨_,_,rfl,a8 hb,ds.map .int,λi ys σ g'=>Ex g1 g'/\ys=(ds.take i).map (λd=>.int ((je cs.length (meant cs .lower d):Nat):Int))/\∃z1 z2,σ=[some (.ref a),z1,z2],by simp;omega,λi ys σ g' q=>⟨m8 (a8 (q.1.at hb)),?_⟩,⟨Ex.refl _,rfl,none,none,rfl⟩,λi x ys σ g' hx q=>?_,λys σ g' q=>?_⟩
 ·obtain⟨_,rfl,_⟩:=q;simp;omega
 ·obtain⟨e1,rfl,z1,z2,rfl⟩:=q;rw[ak,ae] at hx;obtain⟨dd,hd,rfl⟩:=hx;refine i8 ?_
  try show dD _ _ _ _ _ _
  left;refine P0 (k:=k+4) hT.nf hT.mh hT.sk (w:=.lower) ((e0.trans e1).at ha) () λg2 b2 e2 _ vY=>?_;left;refine O0 (k:=k+6) hT.uc vY (aF K8 ()) (λj hj=>by have:=X7 j hj;omega) λg3 e3=>?_;refine⟨e1.trans (e2.trans e3),?_,_,_,rfl⟩;rw[bQ,hd];simp[je,ka]
 ·obtain⟨e1,rfl,z1,z2,rfl⟩:=q;rw[ag,bS];exact h _ _ (e0.trans (e1.trans (Ex.snoc _ _))) (aF e0.len e1.len) b0
end
theorem P6{i:Int}{k:Bool->Prop}(ha:c8 g a=some (ms.map .int))(h:k (ms.any λm=>m==i)):rL g (.int i) (.ref a) k:=by
 refine⟨_,.inr ⟨_,_,_,ha,L3 ms,rfl,lay_ints ms,by simp[PyData.canLay0],rfl⟩,?_⟩;rw[lI];exact h
theorem CZ{l:List Nat}{k:Bool->Prop}(ha:g[a]?=some (.lst (c6 l)))(h:k (decide (i∈l))):rL g (.int (i:Nat)) (.ref a) k:=by
 refine P6 (ms:=l.map λ(i:Nat)=>(i:Int)) (by rw[<- K7];exact a8 ha) ?_;have:((l.map λ(i:Nat)=>(i:Int)).any λm=>m==(i:Int))=decide (i∈l):=by
  rw[aW,aU,dE];constructor
  ·rintro⟨x,hx,e⟩;obtain⟨j,hj,rfl⟩:=aL.mp hx;rw[bz] at e;rw[show i=j by omega];exact hj
  ·exact λhi=>⟨_,aL.mpr ⟨i,hi,rfl⟩,by simp⟩
 rw[this];exact h
structure ox(g:G)(nb lo n:Nat)(B:Nat->Nat)(F:Nat->Nat->Prop):Prop where
 ex:∃as:List Nat,g[nb]?=some (.lst (as.map .ref))/\as.length=n/\as.Nodup/\(∀a∈as,lo<=a/\a≠nb)/\∀i a,as[i]?=some a->∃ms:List Nat,g[a]?=some (.lst (c6 ms))/\ms.length<=B i/\∀m,m∈ms↔F i m
theorem ox.at{g g':G}{nb lo n:Nat}{B:Nat->Nat}{F:Nat->Nat->Prop}(h:ox g nb lo n B F)(e:Ex g g'):ox g' nb lo n B F:=by
 obtain⟨as,h1,h2,h3,h4,h5⟩:=h.ex;refine⟨⟨as,e.at h1,h2,h3,h4,λi a hi=>?_⟩⟩;obtain⟨ms,m1,m2⟩:=h5 i a hi;exact⟨ms,e.at m1,m2⟩
theorem ox.imp{nb lo:Nat}{B B':Nat->Nat}{F F':Nat->Nat->Prop}(h:ox g nb lo n B F)(hB:∀i,i<n->B i<=B' i)(hF:∀i m,i<n->(F i m↔F' i m)):ox g nb lo n B' F' :=
 let ⟨as,h1,h2,h3,h4,h5⟩:=h.ex
 ⟨⟨as,h1,h2,h3,h4,λi a hi=>let ⟨ms,m1,m2,m3⟩:=h5 i a hi
  have jP:i<n:=by rw[<- h2];exact(ax.mp hi).1
  ⟨ms,m1,aF m2 (hB i jP),λm=>(m3 m).trans (hF i m jP)⟩⟩⟩
def uE(cs:List b7)(rs:List gL)(i m:Nat):Prop:=∃r∈rs,meant cs r.w r.y i=true/\m=je cs.length (meant cs r.w r.x)
def v5(rs:List gL):List D:=rs.map gL.d
theorem Jz{l:List α}(h:l.Nodup){a:α}(hi:l[i]?=some a)(hj:l[j]?=some a):i=j:=by
 obtain⟨h1,e1⟩:=ax.mp hi;obtain⟨h2,e2⟩:=ax.mp hj;exact(my h).mp (e1.trans e2.symm)
section
variable{T:Nat->Option bo}{d:Nat}
theorem Zk(hT:TB0 T)(ha:g[a]?=some (.lst (cs.map b7.d)))(hz:cs.length<=9)(hc:g[c]?=some (.lst (v5 rs)))(hr:rs.length<=900)(h:∀g' b,Ex g g'->g.length<=b->ox g' b g.length cs.length (λ_=>rs.length) (uE cs rs)->Q (.ref b) g'):c5 T (k+4) 97 [.ref a,.ref c] g Q E:=by
 refine call_of hT.OR rfl ?_;dsimp[P8,d0,List.replicate];left;refine L7 (a9 T _) (kY (a9 T _) ?_);left;refine⟨a,_,rfl,a8 ha,cs.map b7.d,λi ys σ g'=>Ex g g'/\(∃as:List Nat,ys=as.map .ref/\as.length=i/\as.Nodup/\∀b∈as,g.length<=b/\g'[b]?=some (.lst []))/\∃z0 z1,σ=[z0,z1],by simp;omega,λi ys σ g' q=>⟨m8 (a8 (q.1.at ha)),?_⟩,⟨Ex.refl _,⟨[],rfl,rfl,by simp,by simp⟩,none,none,rfl⟩,λi x ys σ g' hx q=>?_,λys σ g' q=>?_⟩
 ·obtain⟨_,⟨as,rfl,rfl,_⟩,_⟩:=q;simp
 ·obtain⟨e1,⟨as,rfl,hl,nd,hA⟩,z0,z1,rfl⟩:=q;refine i8 ?_
  try show dD _ _ _ _ _ _
  left;refine⟨e1.trans (Ex.snoc _ _),⟨as++[g'.length],by simp,by simp[hl],?_,λb hb=>?_⟩,_,_,rfl⟩
  ·rw[cY];exact⟨nd,by simp,λx hx y hy=>by cases bK.mp hy;exact aI (n6 (hA x hx).2)⟩
  ·rcases ba.mp hb with hb|hb
   ·exact⟨(hA b hb).1,(Ex.snoc _ _).at (hA b hb).2⟩
   ·cases bK.mp hb;exact⟨e1.len,b0⟩
 ·obtain⟨e1,⟨as,rfl,hl,nd,hA⟩,z0,z1,rfl⟩:=q;rw[ag] at hl;left;have e2:=e1.trans (Ex.snoc g' (O.lst (as.map D.ref)));have lo:=e1.len;have N0:ox (g'++[O.lst (as.map D.ref)]) g'.length g.length cs.length (λ_=>0) (uE cs []):=⟨⟨as,b0,hl,nd,λb hb=>⟨(hA b hb).1,aI (n6 (hA b hb).2)⟩,λi b hb=>⟨[],(Ex.snoc _ _).at (hA b (aN hb)).2,by simp,λm=>⟨λz=>absurd z (by simp),λ⟨r,hr,_⟩=>absurd hr (by simp)⟩⟩⟩⟩
  generalize g'++[O.lst (as.map D.ref)]=g1 at *;generalize g'.length=nb at *;refine x8 (a9 T _) (kY (a9 T _) ?_);left;refine⟨c,_,rfl,a8 (e2.at hc),v5 rs,λi σ g'=>Ex g g'/\ox g' nb g.length cs.length (λ_=>i) (uE cs (rs.take i))/\∃z3 z4 z5 z6 z7,σ=[some (.ref a),some (.ref c),some (.ref nb),z3,z4,z5,z6,z7],λi σ g' q=>m8 (a8 (q.1.at hc)),⟨e2,N0,none,none,none,none,none,rfl⟩,λi x σ g' hx q=>?_,λσ g' q=>?_⟩
  ·obtain⟨e3,N3,z3,z4,z5,z6,z7,rfl⟩:=q;rw[v5,ak,ae] at hx;obtain⟨r,fe,rfl⟩:=hx;have hi:i<rs.length:=(ax.mp fe).1;refine C3 (l:=[.str r.w.s,.int r.x,.int r.y]) rfl ?_
   try show wpS _ _ _ _ _ _
   left;refine P0 (k:=k) hT.nf hT.mh hT.sk (e3.at ha) () λg4 b4 e4 _ OA=>?_;left;refine O0 (k:=k+2) hT.uc OA (aF K8 ()) (λj hj=>by have:=X7 j hj;omega) λg5 e5=>?_;left;have yJ:=e3.trans (e4.trans e5);have N5:=N3.at (e4.trans e5);have ef:pX (ka cs r.w r.x)=je cs.length (meant cs r.w r.x):=rfl;rw[ef];generalize je cs.length (meant cs r.w r.x)=first at *
   refine x8 (a9 T _) (kY (a9 T _) ?_);left;refine P0 (k:=k) hT.nf hT.mh hT.sk (yJ.at ha) () λg6 b6 e6 hb6 GP=>?_;refine⟨b6,_,rfl,a8 GP,c6 (ka cs r.w r.y),λj σ g'=>Ex g g'/\g'[b6]?=some (.lst (c6 (ka cs r.w r.y)))/\ox g' nb g.length cs.length (λq=>i+if q∈(ka cs r.w r.y).take j then 1 else 0) (λq m=>uE cs (rs.take i) q m\/(q∈(ka cs r.w r.y).take j/\m=first))/\(∀as:List Nat,g'[nb]?=some (.lst (as.map .ref))->b6∉as)/\∃z7,σ=[some (.ref a),some (.ref c),some (.ref nb),some (.str r.w.s),some (.int r.x),some (.int r.y),some (.int (first:Nat)),z7],λj σ g' q=>m8 (a8 q.2.1),⟨yJ.trans e6,GP,(N5.at e6).imp (λq _=>by simp) (λq m _=>by simp),?_,z7,rfl⟩,λj x σ g' hx q=>?_,λσ g' q=>?_⟩
   ·intro zd h' hm;obtain⟨JI,h1,h2,h3,h4,h5⟩:=N5.ex;have:=(e6.at h1).symm.trans h';have e':JI=zd:=by
     have h0:JI.map D.ref=zd.map D.ref:=by injection this with w;injection w
     exact(MJ (λx y z=>by injection z)).mp h0
    subst e';obtain⟨i',jP⟩:=jy.mp hm;obtain⟨ms,m1,_⟩:=h5 i' b6 jP;have:=n6 m1;omega
   ·obtain⟨e7,p7,N7,ya,z7,rfl⟩:=q;rw[c6,ak,ae] at hx;obtain⟨q,hq,rfl⟩:=hx;have hqn:q<cs.length:=X7 q (aN hq);have NX:q∉(ka cs r.w r.y).take j:=λz=>by
     obtain⟨j',tT⟩:=jy.mp z;have hl:j'<j:=by
      have:=(ax.mp tT).1;simp at this;omega
     rw[qQ hl] at tT;have Np:(ka cs r.w r.y).Nodup:=List.nodup_range.filter _;have:=Jz Np tT hq;omega
    have tk:(ka cs r.w r.y).take (j+1)=(ka cs r.w r.y).take j++[q]:=by rw[bQ,hq];rfl
    obtain⟨wU,h1,h2,h3,h4,h5⟩:=N7.ex;have NR:q<wU.length:=by omega
    have tY:=ao NR;generalize wU[q]=aq at tY;obtain⟨ms,m1,m2,m3⟩:=h5 q aq tY;have gq:gF (wU.map D.ref) (q:Int)=some (.ref aq):=J9 (by rw[ak,tY];rfl);refine i8 ?_
    try show wpS _ _ _ _ _ _
    left;refine n9 (a8 h1) gq ?_;refine V0 (CZ m1 ?_);left;by_cases kC:first∈ms
    ·refine gA (by simp[kC]) ?_;left;refine⟨e7,p7,N7.imp (λq' _=>?_) (λq' m _=>?_),ya,_,rfl⟩
     ·rw[tk];simp only[List.mem_append,List.mem_singleton];by_cases z:q'∈(ka cs r.w r.y).take j
      ·simp[z]
      ·simp[z]
     ·rw[tk];simp only[List.mem_append,List.mem_singleton];constructor
      ·rintro(z|⟨z1,z2⟩)
       ·exact .inl z
       ·exact .inr ⟨.inl z1,z2⟩
      ·rintro(z|⟨z1|z1,z2⟩)
       ·exact .inl z
       ·exact .inr ⟨z1,z2⟩
       ·subst z1 z2;exact(m3 m).mp kC
    ·refine ij (by simp[kC]) ?_;left;refine n9 (a8 h1) gq ?_
     try refine⟨xf m1,?_⟩
     left;rw[aB NX] at m2;refine sX m1 (by simp[c6];omega) ?_;left;have rT:=aN tY;have fA:=(h4 aq rT).2;have NY:aq≠b6:=λz=>ya wU h1 (z▸rT);have Hr:=d4 (o':=O.lst (c6 ms++[D.int (first:Nat)])) h1 fA;refine⟨⟨by simp;exact e7.len,λi' jP=>by rw[aC (by have:=(h4 aq rT).1;omega)];exact e7.old i' jP⟩,d4 p7 NY,⟨⟨wU,Hr,h2,h3,h4,λi' b hb=>?_⟩⟩,λzd h'=>?_,_,rfl⟩
     ·by_cases yp:i'=q
      ·subst yp;have:b=aq:=by rw[tY] at hb;injection hb with z;exact z.symm
       subst this;refine⟨ms++[first],by rw[get_set m1];simp[c6],?_,λm=>?_⟩
       ·rw[tk];simp;omega
       ·rw[ba,bK,m3 m,tk];simp only[List.mem_append,List.mem_singleton];constructor
        ·rintro((z|⟨z1,z2⟩)|z)
         ·exact .inl z
         ·exact .inr ⟨.inl z1,z2⟩
         ·exact .inr ⟨.inr trivial,z⟩
        ·rintro(z|⟨z1|z1,z2⟩)
         ·exact .inl (.inl z)
         ·exact .inl (.inr ⟨z1,z2⟩)
         ·exact .inr z2
      ·have tX:aq≠b:=λz=>yp (Jz h3 hb (z▸tY));obtain⟨Ny,k1,k2,k3⟩:=h5 i' b hb;refine⟨Ny,d4 k1 tX,?_,λm=>(k3 m).trans ?_⟩
       ·rw[tk];simpa[yp] using k2
       ·rw[tk];simp[yp]
     ·rw[Hr] at h';exact ya zd (h1.trans h')
   ·obtain⟨e7,p7,N7,ya,z7,rfl⟩:=q;rw[c6,ag,bS] at N7
    try show wpS _ _ _ _ _ _
    left;refine⟨e7,N7.imp (λq _=>by split<;>omega) (λq m hq=>?_),_,_,_,_,_,rfl⟩;have tk:rs.take (i+1)=rs.take i++[r]:=by rw[bQ,fe];rfl
    unfold uE;rw[tk];simp only[List.mem_append,List.mem_singleton];constructor
    ·rintro(⟨r',h1,h2⟩|⟨h1,h2⟩)
     ·exact⟨r',.inl h1,h2⟩
     ·exact⟨r,.inr rfl,(bR.mp h1).2,by rw[h2];exact ef.symm⟩
    ·rintro⟨r',h1|h1,h2,h3⟩
     ·exact .inl ⟨r',h1,h2,h3⟩
     ·subst h1;exact .inr ⟨bR.mpr ⟨bu.mpr hq,h2⟩,by rw[h3];exact ef⟩
  ·obtain⟨e3,N3,z3,z4,z5,z6,z7,rfl⟩:=q;rw[v5,ag,bS] at N3
   try show wpS _ _ _ _ _ _
   left;exact h _ _ e3 lo N3
end
def w9(cs:List b7)(r:gL):Bool:=!decide (r.x=r.y)&&(!(ka cs r.w r.x).isEmpty&&!(ka cs r.w r.y).isEmpty)
theorem in_words(h:kb true):rL g (.str w.s) (.tup [.str "coin",.str "lower",.str "upper"]) kb:=by
 refine⟨_,.inr ⟨_,[.str "coin",.str "lower",.str "upper"],.str w.s,rfl,rfl,rfl,by simp only[PyData.canLayAll0,PyData.canLay0,Bool.and_true];decide +kernel,by simp only[PyData.canLay0];cases w<;>decide +kernel,rfl⟩,?_⟩;have:([PyData.str "coin",PyData.str "lower",PyData.str "upper"].any λq=>PyData.eqv q (.str w.s))=true:=by
  simp only[List.any_cons,List.any_nil,PyData.eqv];cases w<;>decide +kernel
 rw[this];exact h
theorem ne_nil{l:List Nat}(ha:g[a]?=some (.lst (c6 l)))(hb:g[b]?=some (.lst []))(h:Q (.bl (!l.isEmpty)) g):de (.cmp .NotEq) [.ref a,.ref b] g Q:=by
 refine zV (YW (ms:=l.map λ(i:Nat)=>(i:Int)) (ns:=[]) (by rw[<- K7];exact a8 ha) (a8 hb) ?_);have:decide ((l.map λ(i:Nat)=>(i:Int))=[])=l.isEmpty:=by cases l<;>simp
 rw[this];exact h
structure Bd(g:G)(b:Nat)(cs:List b7)(v:Int)(rs:List gL):Prop where
 ex:∃w l d nb,g[b]?=some (.ins "Bounds" [("size",.int cs.length),("full",.int ((2 ^ cs.length-1:Nat):Int)),("room",.int v),("worn_by_place",.ref w),("later_by_place",.ref l),("lower_dies",.ref d),("needed_by_place",.ref nb)]) /\
  g[w]?=some (.lst (tI cs mw))/\g[l]?=some (.lst (tI cs kU))/\g[d]?=some (.lst (W7 cs))/\ox g nb 0 cs.length (λ_=>rs.length) (uE cs rs)
theorem Bd.at{g g':G}{b:Nat}{cs:List b7}{v:Int}{rs:List gL}(h:Bd g b cs v rs)(e:Ex g g'):Bd g' b cs v rs:=by
 obtain⟨w,l,d,nb,h1,h2,h3,h4,h5⟩:=h.ex;exact⟨⟨w,l,d,nb,e.at h1,e.at h2,e.at h3,e.at h4,h5.at e⟩⟩
theorem ZW(l:List α)(z:α)(q:α->Bool):((List.range l.length).filter λi=>q (l.getD i z)).length=(l.filter q).length:=by
 have e:l=(List.range l.length).map λi=>l.getD i z:=by
  refine bW λi=>?_;rw[ak];by_cases hi:i<l.length
  ·rw[bT hi,ao hi];simp[List.getD,hi]
  ·rw[aQ (),aQ (by simpa using hi)]
   rfl
 conv=>rhs;rw[e,List.filter_map,ag]
 rfl
theorem Lx{q:Nat->Bool}{s:Nat}{S:Nat->Bool}(h:∀i,i<n->s.testBit i=S i):((Builtin.bitAnd ((je n q:Nat):Int) (s:Nat)) != 0)=(List.range n).any λi=>S i&&q i:=by
 rw[CP,Nat.and_comm,zt,aW,aU,aU];constructor
 ·rintro⟨i,h1,h2⟩;exact⟨i,h1,by rw[<- h i (bu.mp h1)];exact h2⟩
 ·rintro⟨i,h1,h2⟩;exact⟨i,h1,by rw[h i (bu.mp h1)];exact h2⟩
theorem a71{s:Nat}(h:s<2 ^ n)(hi:i<n):(2 ^ n-1-s).testBit i=!s.testBit i:=by
 rw[show 2 ^ n-1-s=2 ^ n-(s+1) by omega,Nat.testBit_two_pow_sub_succ h,aw hi]
 rfl
theorem Y8(s p i:Nat):(s |||2 ^ p).testBit i=(s.testBit i||decide (i=p)):=by
 rw[Nat.testBit_or,Nat.testBit_two_pow]
 congr 1
 exact iL.mpr eq_comm
theorem UU{s:Nat}(h:s<2 ^ n)(hp:p<n):s |||2 ^ p<2 ^ n:=Nat.or_lt_two_pow h (Ak () hp)
section
variable{T:Nat->Option bo}{d:Nat}
theorem aE2(hT:TB0 T){r:gL}(ha:g[a]?=some (.lst (cs.map b7.d)))(hz:cs.length<=1000)(h:∀g',Ex g g'->Q (.bl (w9 cs r)) g'):c5 T (k+4) 88 [.ref a,r.d] g Q E:=by
 refine call_of hT.OY rfl ?_;dsimp[DG,d0,List.replicate];left;refine C3 (l:=[.str r.w.s,.int r.x,.int r.y]) rfl ?_;left;refine V0 (in_words ?_);left;refine if2 (λh1=>?_) (λh1=>?_)
 ·left;have:w9 cs r=false:=by unfold w9;rw[aw h1];rfl
  rw[<- this];exact h _ (Ex.refl _)
 ·left;refine P0 (k:=k) hT.nf hT.mh hT.sk ha hz λg1 b1 e1 _ vZ=>?_;left;refine ne_nil ((Ex.snoc _ _).at vZ) b0 ?_;left;cases h2:(ka cs r.w r.x).isEmpty with
  |true =>
   refine gA rfl ?_;have:w9 cs r=false:=by unfold w9;rw[aD h1,h2];rfl
   rw[<- this];exact h _ (e1.trans (Ex.snoc _ _))
  |false =>
   refine ij rfl ?_;left;refine P0 (k:=k) hT.nf hT.mh hT.sk ((e1.trans (Ex.snoc _ _)).at ha) hz λg2 b2 e2 _ vY=>?_;left;refine ne_nil ((Ex.snoc _ _).at vY) b0 ?_;have:w9 cs r=!(ka cs r.w r.y).isEmpty:=by unfold w9;rw[aD h1,h2];rfl
   rw[<- this];exact h _ ((e1.trans (Ex.snoc _ _)).trans (e2.trans (Ex.snoc _ _)))
theorem Yz(hT:TB0 T)(ha:g[a]?=some (.lst (cs.map b7.d)))(hz:cs.length<=1000)(hc:g[c]?=some (.lst (v5 rs)))(hr:rs.length<=900)(h:rs.all (w9 cs)=true->∀g',Ex g g'->Q .cE g')(hn:rs.all (w9 cs)=false->∀g',Ex g g'->E ⟨"BadRule"⟩ g'):c5 T (k+5) 89 [.ref a,.ref c] g Q E:=by
 refine call_of hT.OX rfl ?_;dsimp[V8,d0,List.replicate];left;refine x8 (a9 T _) (AX ?_);left;refine⟨c,_,rfl,a8 hc,nk (v5 rs),λi σ g'=>Ex g g'/\(∃z2 z3,σ=[some (.ref a),some (.ref c),z2,z3])/\(rs.take i).all (w9 cs)=true,λi σ g' q=>zh (a8 (q.1.at hc)),⟨Ex.refl _,⟨none,none,rfl⟩,rfl⟩,λi x σ g' hx q=>?_,λσ g' q=>?_⟩
 ·obtain⟨e1,⟨z2,z3,rfl⟩,q⟩:=q;obtain⟨dd,hd,rfl⟩:=zz hx;rw[v5,ak,ae] at hd;obtain⟨r,fe,rfl⟩:=hd;have tk:rs.take (i+1)=rs.take i++[r]:=by rw[bQ,fe];rfl
  refine C3 rfl ?_
  try show wpS _ _ _ _ _ _
  left;refine aE2 (k:=k) hT (e1.at ha) hz λg2 e2=>?_;left;cases hg:w9 cs r with
  |true =>
   left;exact⟨e1.trans e2,⟨_,_,rfl⟩,by rw[tk,List.all_append,q];simp[hg]⟩
  |false =>
   left;have hi:i<rs.length:=(ax.mp fe).1;refine Vn ?_ ?_
   ·have:(i:Int).natAbs<2 ^ 10:=by rw[MN];omega
    rw[MN] at this ⊢;by_cases h0:i=0
    ·subst h0;decide
    ·exact cN ((Nat.log2_lt h0).mpr this) ∅
   left;refine Rn rfl ?_;left;refine hn ?_ _ (e1.trans e2);rw[List.all_eq_false];exact⟨r,aN fe,by rw[hg];decide⟩
 ·obtain⟨e1,⟨z2,z3,rfl⟩,q⟩:=q;rw[N8,v5,ag,bS] at q;exact h q _ e1
theorem Yy(hT:TB0 T)(wm:T 42=some F2)(BL:T 98=some O4)(ha:g[a]?=some (.lst (cs.map b7.d)))(hz:cs.length<=1000)(hc:g[c]?=some (.lst (v5 rs)))(hr:rs.length<=900)(hm:9<cs.length->E ⟨"TooMany"⟩ g)(hb:cs.length<=9->cs.all u6=false->E ⟨"BadCoin"⟩ g)(hv:cs.length<=9->cs.all u6=true->¬(1<=v/\v<=9)->E ⟨"BadAnvils"⟩ g)(hw:cs.length<=9->cs.all u6=true->1<=v/\v<=9->rs.all (w9 cs)=false->∀g',Ex g g'->E ⟨"BadRule"⟩ g')(h:cs.length<=9->cs.all u6=true->1<=v/\v<=9->rs.all (w9 cs)=true->∀g',Ex g g'->Q .cE g'):c5 T (k+7) 98 [.ref a,.int v,.ref c] g Q E:=by
 refine call_of BL rfl ?_;dsimp[O4,d0,List.replicate];left;refine Y5 (k:=k) hT.nf hT.h2 hT.ud hT.wt ha hz hm hb λh9 hg=>?_;left;refine YI (k:=k+3) hT.nf wm (λv1 v2=>?_) (hv h9 hg);left;exact Yz (k:=k+1) hT ha hz hc hr (h h9 hg ⟨v1,v2⟩) (hw h9 hg ⟨v1,v2⟩)
theorem Lm{f:Str}(fs:List (Str×D)):(n5 f x fs).length<=fs.length+1:=by
 induction fs with
 |nil=>simp[n5]
 |cons y r ih =>
  unfold n5;split<;>simp
  exact ih
theorem X6{f:Str}{fs:List (Str×D)}(h:fs.length+1<n):(n5 f x fs).length<n:=dw (Lm fs) h
theorem X5{f:Str}{fs:List (Str×D)}{m:Nat}(h:fs.length+(m+1)<n):(n5 f x fs).length+m<n:=by
 have:=Lm (f:=f) (x:=x) fs;omega
def f3(n:Nat)(v:Int):List (Str×D):=[("size",.int n),("full",.int ((2 ^ n-1:Nat):Int)),("room",.int v)]
theorem Y3(n:Nat)(v:Int):(f3 n v).length=3:=rfl
theorem Yv(hT:TB0 T)(ha:g[a]?=some (.lst (cs.map b7.d)))(hz:cs.length<=9)(hg:cs.all u6=true)(hB:∀c∈cs,CB c)(hc:g[c]?=some (.lst (v5 rs)))(hr:rs.length<=900)(hb:g[b]?=some (.ins "Bounds" []))(h:∀g',g.length<=g'.length->(∀i,i<g.length->i≠b->g'[i]?=g[i]?)->Bd g' b cs v rs->Q .cE g'):c5 T (k+9) 113 [.ref b,.ref a,.int v,.ref c] g Q E:=by
 refine call_of hT.BX rfl ?_;dsimp[W0,d0,List.replicate];have vq:b≠a:=λz=>by subst z;rw[ha] at hb;cases hb
 have xZ:b≠c:=λz=>by subst z;rw[hc] at hb;cases hb
 have lb:=n6 hb;left;refine Z6 hb (by simp) (by simp) ?_;left;have oN:=d4 (o':=O.ins "Bounds" (n5 "size" (.int (cs.map b7.d).length) [])) ha vq;refine J5 (a8 oN) ?_;left;refine DZ ⟨by omega,by simp;omega,by decide⟩ ?_;left;refine Z6 (get_set hb) (by simp) (by first|(simp;done)|(refine X6 ?_;repeat (first|(rw[Y3];omega)|(simp;done)|refine X5 ?_))) ?_;rw[jb];left;refine Z6 (get_set hb) (by simp) (by first|(simp;done)|(refine X6 ?_;repeat (first|(rw[Y3];omega)|(simp;done)|refine X5 ?_))) ?_;rw[jb];have e0:n5 "room" (.int v) (n5 "full" (.int (1*2 ^ Int.toNat ((cs.map b7.d).length:Int)-1)) (n5 "size" (.int (cs.map b7.d).length) []))=(f3 cs.length v):=by
  have:(1*2 ^ Int.toNat ((cs.map b7.d).length:Int)-1:Int)=((2 ^ cs.length-1:Nat):Int):=by
   rw[ag,cZ,Int.one_mul];have:=kM (n:=cs.length);rw[Int.natCast_sub this];simp
  rw[this,ag]
  rfl
 simp only[e0];have kp:∀(g1:G) (o:O),Ex (g.set b o) g1->(∀i,i<g.length->i≠b->g1[i]?=g[i]?)/\g.length<=g1.length:=λg1 o e=>⟨λi hi hn=>by rw[e.old i (by simpa using hi),aC (cu hn)],by have:=e.len;simpa using this⟩
 generalize ho:O.ins "Bounds" (f3 cs.length v)=o1;have vZ:=get_set (o':=o1) hb;have oN:=d4 (o':=o1) ha vq;have rZ:=d4 (o':=o1) hc xZ;have k1:=kp _ o1 (Ex.refl _);generalize g.set b o1=g1 at *;subst ho;left;refine UX (k:=k+4) hT oN hz hB λg2 w e2 hw1 hw=>?_;left;refine Z6 (e2.at vZ) (by simp) (by rw[Y3];omega) ?_;have lw:w≠b:=λz=>by have:=n6 vZ;omega
 have BD:=get_set (o':=O.ins "Bounds" (n5 "worn_by_place" (.ref w) (f3 cs.length v))) (e2.at vZ);have NN:=d4 (o':=O.ins "Bounds" (n5 "worn_by_place" (.ref w) (f3 cs.length v))) hw lw.symm;have yy:=d4 (o':=O.ins "Bounds" (n5 "worn_by_place" (.ref w) (f3 cs.length v))) (e2.at oN) vq;have yt:=d4 (o':=O.ins "Bounds" (n5 "worn_by_place" (.ref w) (f3 cs.length v))) (e2.at rZ) xZ;have k3:(∀i,i<g.length->i≠b->(g2.set b (O.ins "Bounds" (n5 "worn_by_place" (.ref w) (f3 cs.length v))))[i]?=g[i]?)/\g.length<=(g2.set b (O.ins "Bounds" (n5 "worn_by_place" (.ref w) (f3 cs.length v)))).length:=⟨λi hi hn=>by rw[aC (cu hn),e2.old i (by have:=k1.2;omega)];exact k1.1 i hi hn,by simp;have:=e2.len;have:=k1.2;omega⟩
 generalize g2.set b (O.ins "Bounds" (n5 "worn_by_place" (.ref w) (f3 cs.length v)))=g3 at *;left;refine Zg (k:=k+4) hT yy hz λg4 l e4 iG hl=>?_;left;refine Z6 (e4.at BD) (by simp) (by first|(simp;done)|(refine X6 ?_;repeat (first|(rw[Y3];omega)|(simp;done)|refine X5 ?_))) ?_;have ll:l≠b:=λz=>by have:=n6 BD;omega
 generalize ho:O.ins "Bounds" (n5 "later_by_place" (.ref l) (n5 "worn_by_place" (.ref w) (f3 cs.length v)))=o5;have BC:=get_set (o':=o5) (e4.at BD);have NM:=d4 (o':=o5) (e4.at NN) lw.symm;have ym:=d4 (o':=o5) hl ll.symm;have Hk:=d4 (o':=o5) (e4.at yy) vq;have Ow:=d4 (o':=o5) (e4.at yt) xZ;have k5:(∀i,i<g.length->i≠b->(g4.set b o5)[i]?=g[i]?)/\g.length<=(g4.set b o5).length:=⟨λi hi hn=>by rw[aC (cu hn),e4.old i (by have:=k3.2;omega)];exact k3.1 i hi hn,by simp;have:=e4.len;have:=k3.2;omega⟩
 generalize g4.set b o5=g5 at *;subst ho;left;refine Yp (k:=k) hT Hk hz hg λg6 dd e6 Hg hd=>?_;left;refine Z6 (e6.at BC) (by simp) (by first|(simp;done)|(refine X6 ?_;repeat (first|(rw[Y3];omega)|(simp;done)|refine X5 ?_))) ?_;have ld:dd≠b:=λz=>by have:=n6 BC;omega
 generalize ho:O.ins "Bounds" (n5 "lower_dies" (.ref dd) (n5 "later_by_place" (.ref l) (n5 "worn_by_place" (.ref w) (f3 cs.length v))))=o7;have BB:=get_set (o':=o7) (e6.at BC);have NL:=d4 (o':=o7) (e6.at NM) lw.symm;have yk:=d4 (o':=o7) (e6.at ym) ll.symm;have Ot:=d4 (o':=o7) hd ld.symm;have OC:=d4 (o':=o7) (e6.at Hk) vq;have Ov:=d4 (o':=o7) (e6.at Ow) xZ;have k7:(∀i,i<g.length->i≠b->(g6.set b o7)[i]?=g[i]?)/\g.length<=(g6.set b o7).length:=⟨λi hi hn=>by rw[aC (cu hn),e6.old i (by have:=k5.2;omega)];exact k5.1 i hi hn,by simp;have:=e6.len;have:=k5.2;omega⟩
 generalize g6.set b o7=g7 at *;subst ho;left;refine Zk (k:=k+4) hT OC hz Ov hr λg8 nb e8 yj hn=>?_;left;refine Z6 (e8.at BB) (by simp) (by first|(simp;done)|(refine X6 ?_;repeat (first|(rw[Y3];omega)|(simp;done)|refine X5 ?_))) ?_;have lb7:=n6 BB;have ln:nb≠b:=λz=>by omega
 generalize ho:O.ins "Bounds" (n5 "needed_by_place" (.ref nb) (n5 "lower_dies" (.ref dd) (n5 "later_by_place" (.ref l) (n5 "worn_by_place" (.ref w) (f3 cs.length v)))))=o9;refine h _ (by simp;have:=e8.len;have:=k7.2;omega) (λi hi hn=>by rw[aC (cu hn),e8.old i (by have:=k7.2;omega)];exact k7.1 i hi hn) ⟨⟨w,l,dd,nb,?_,d4 (e8.at NL) lw.symm,d4 (e8.at yk) ll.symm,d4 (e8.at Ot) ld.symm,?_⟩⟩
 ·rw[get_set (e8.at BB),<- ho]
  rfl
 ·obtain⟨as,q1,q2,q3,q4,q5⟩:=hn.ex;exact⟨⟨as,d4 q1 ln.symm,q2,q3,λx hx=>⟨by omega,(q4 x hx).2⟩,λi x hx=>let ⟨ms,m1,m2⟩:=q5 i x hx;⟨ms,d4 m1 (λz=>by have:=(q4 x (aN hx)).1;omega),m2⟩⟩⟩
end
section
variable{T:Nat->Option bo}{d:Nat}
theorem aG1(hT:TB T)(ha:g[a]?=some (.lst (cs.map b7.d)))(hz:cs.length<=1000)(hB:∀c∈cs,CB c)(hc:g[c]?=some (.lst (v5 rs)))(hr:rs.length<=900)(hm:9<cs.length->E ⟨"TooMany"⟩ g)(hb:cs.length<=9->cs.all u6=false->E ⟨"BadCoin"⟩ g)(hv:cs.length<=9->cs.all u6=true->¬(1<=v/\v<=9)->E ⟨"BadAnvils"⟩ g)(hw:cs.length<=9->cs.all u6=true->1<=v/\v<=9->rs.all (w9 cs)=false->∀g',Ex g g'->E ⟨"BadRule"⟩ g')(h:cs.length<=9->cs.all u6=true->1<=v/\v<=9->rs.all (w9 cs)=true->∀g' b,Ex g g'->g.length<=b->Bd g' b cs v rs->Q (.ref b) g'):c5 T (k+10) 99 [.ref a,.int v,.ref c] g Q E:=by
 refine call_of hT.OQ rfl ?_;dsimp[DE,d0,List.replicate];left;refine Yy (k:=k+2) hT.toTB0 hT.wm hT.BL ha hz hc hr hm hb hv hw λh9 hg hv hR g1 e1=>?_;left;have x1:=Ex.snoc g1 (O.ins "Bounds" []);refine Yv (k:=k) hT (x1.at (e1.at ha)) h9 hg hB (x1.at (e1.at hc)) hr b0 λg2 l2 o2 B2=>?_;refine⟨rfl,h h9 hg hv hR g2 _ ⟨by have:=e1.len;simp at l2;omega,λi hi=>?_⟩ e1.len B2⟩;have:=e1.len;rw[o2 i (by simp;omega) (),x1.old i ()];exact e1.old i hi
theorem aI5(hT:TB T)(ha:g[a]?=some (.lst (cs.map b7.d)))(hz:cs.length<=9)(hg:cs.all u6=true)(hB:∀c∈cs,CB c)(hv:1<=v/\v<=9)(hc:g[c]?=some (.lst (v5 rs)))(hr:rs.length<=900)(hR:rs.all (w9 cs)=true)(h:∀g' b,Ex g g'->g.length<=b->Bd g' b cs v rs->Q (.ref b) g'):c5 T (k+10) 99 [.ref a,.int v,.ref c] g Q E :=
 aG1 hT ha () hB hc hr (λz=>by omega) (λ_ z=>by rw[hg] at z;cases z) (λ_ _ z=>absurd hv z) (λ_ _ _ z=>by rw[hR] at z;cases z) λ_ _ _ _=>h
theorem YA(hT:TB0 T)(B:Bd g b cs v rs)(hz:cs.length<=9){s:Nat}(hs:s<2 ^ cs.length)(hp:p<cs.length)(h:∀g',Ex g g'->Q (.int (ux cs s.testBit p:Nat)) g'):c5 T (k+2) 100 [.ref b,.int (s:Nat),.int (p:Nat)] g Q E:=by
 refine call_of hT.Cd rfl ?_;dsimp[DU,d0,List.replicate];obtain⟨w,l,dd,nb,h1,h2,h3,h4,h5⟩:=B.ex;left;refine R9 (k:=k) hT.wj () ?_;left;refine qz h1 rfl ?_;left;have e1:((2 ^ cs.length-1:Nat):Int)-(s:Nat)=((2 ^ cs.length-1-s:Nat):Int):=by omega
 rw[e1];have Bp:(o8 (cs.map b7.lo)).length<=9:=aF (O8 _) (by simpa using hz);have Hf:(W7 cs).length=(o8 (cs.map b7.lo)).length:=by simp[W7]
 refine A2 (a9 T _) (λσ=>∃z2 z3,σ=[some (.int ((2 ^ cs.length-1-s:Nat):Int)),some (.int ((s |||2 ^ p:Nat):Int)),z2,z3]) (λi=>Z0 cs s.testBit p ((o8 (cs.map b7.lo)).getD i 0)) (λi=>(W7 cs).getD i .cE) (l:=W7 cs) (k:=.lst dd) (λg' e=>m8 (a8 (e.at h4))) (by rw[Hf];omega) ⟨none,none,rfl⟩ (λi x σ g' hx e sh=>?_) (λg' e=>?_) (K6 (a9 T _) (a8 h4) λQ q=>?_)
 ·obtain⟨z2,z3,rfl⟩:=sh;have qc:=hx;rw[W7,ak,ae] at qc;obtain⟨ot,hd,rfl⟩:=qc;have eg:(o8 (cs.map b7.lo)).getD i 0=ot:=by simp[List.getD,hd]
  refine i8 ?_
  try show dD _ _ _ _ _ _
  left;refine wW ?_;left;have b1:=Lx (n:=cs.length) (q:=meant cs .lower ot) (s:=s |||2 ^ p) (S:=λi=>s.testBit i||decide (i=p)) (λi _=>Y8 s p i);have b2:=Lx (n:=cs.length) (q:=meant cs .lower ot) (s:=2 ^ cs.length-1-s) (S:=λi=>!s.testBit i) (λi hi=>a71 hs hi);rw[b1,eg];have hu:Z0 cs s.testBit p ot=(((List.range cs.length).any λi=>(s.testBit i||decide (i=p))&&meant cs .lower ot i)&&(List.range cs.length).any λi=>!s.testBit i&&meant cs .lower ot i):=rfl;rw[hu];cases (List.range cs.length).any λi=>(s.testBit i||decide (i=p))&&meant cs .lower ot i with
  |false =>
   refine gA rfl ?_;exact⟨rfl,e,gA rfl ⟨_,_,rfl⟩⟩
  |true =>
   refine ij rfl ?_;left;refine wW ?_;left;rw[b2,kI];refine⟨rfl,e,?_⟩;cases (List.range cs.length).any λi=>!s.testBit i&&meant cs .lower ot i with
   |false=>exact gA rfl ⟨_,_,rfl⟩
   |true =>
    refine ij rfl ?_;left;refine⟨?_,e,_,_,rfl⟩;simp[List.getD,hx]
 ·refine J5 (a8 b0) ?_;have:(((List.range (W7 cs).length).filter λi=>Z0 cs s.testBit p ((o8 (cs.map b7.lo)).getD i 0)).map λi=>(W7 cs).getD i .cE).length=ux cs s.testBit p:=by
   rw[ag,Hf,ZW (o8 (cs.map b7.lo)) 0 (Z0 cs s.testBit p)]
   rfl
  rw[this];exact h _ (e.trans (Ex.snoc _ _))
 ·left;exact qz h1 rfl q
theorem KL{q:b7->b7->Bool}(hp:p<cs.length):gF (tI cs q) (p:Int)=some (.int ((je cs.length λj=>q (bZ cs j) (bZ cs p):Nat):Int)):=J9 (by rw[tI,ak,bT hp];rfl)
theorem Ly{s:Nat}{q:Nat->Bool}:((Builtin.bitAnd (s:Nat) ((je n q:Nat):Int)) != 0)=(List.range n).any λi=>s.testBit i&&q i:=by rw[CP,zt]
theorem Yq(hT:TB0 T)(B:Bd g b cs v rs)(hz:cs.length<=9)(hr:rs.length<=900){s:Nat}(hs:s<2 ^ cs.length)(hp:p<cs.length)(h:∀g',Ex g g'->Q (yG (fault cs v rs s.testBit p)) g'):c5 T (k+3) 101 [.ref b,.int (s:Nat),.int (p:Nat)] g Q E:=by
 refine call_of hT.Cc rfl ?_;dsimp[DW,d0,List.replicate];obtain⟨w,l,dd,nb,h1,h2,h3,h4,h5⟩:=B.ex;left;refine qz h1 rfl ?_;left;refine n9 (a8 h2) (KL hp) ?_;refine wW ?_;left;rw[Ly];cases c1:(List.range cs.length).any λi=>s.testBit i&&mw (bZ cs i) (bZ cs p) with
 |true =>
  refine ij rfl ?_;left;have:fault cs v rs s.testBit p="wear":=by unfold fault K3;rw[aK c1]
  rw[this] at h;exact h _ (Ex.refl _)
 |false =>
 refine gA rfl ?_;left;refine qz h1 rfl ?_;left;refine n9 (a8 h3) (KL hp) ?_;refine wW ?_;left;rw[Ly];cases c2:(List.range cs.length).any λi=>s.testBit i&&kU (bZ cs i) (bZ cs p) with
 |true =>
  refine ij rfl ?_;left;have:fault cs v rs s.testBit p="year":=by unfold fault K3 J6;rw[aB (by rw[c1];decide),aK c2]
  rw[this] at h;exact h _ (Ex.refl _)
 |false =>
 refine gA rfl ?_;left;refine YA (k:=k) hT B hz hs hp λg2 e2=>?_;left;refine qz (e2.at h1) rfl ?_;left;refine if2 (λc3=>?_) (λc3=>?_)
 ·left;have:fault cs v rs s.testBit p="anvil":=by unfold fault K3 J6;rw[aB (by rw[c1];decide),aB (by rw[c2];decide),aK c3]
  rw[this] at h;exact h _ e2
 left;obtain⟨as,q1,q2,q3,q4,q5⟩:=h5.ex;have NT:p<as.length:=by omega
 have BE:=ao NT;generalize as[p]=ap at BE;obtain⟨ms,m1,m2,m3⟩:=q5 p ap BE;refine comp_map (a9 T _) (λσ=>∃z1 z2,σ=[some (.int (s:Nat)),z1,z2]) (λi=>.int ((s &&& ms.getD i 0:Nat):Int)) (l:=c6 ms) (k:=.lst ap) (λg' e=>m8 (a8 ((e2.trans e).at m1))) (by simp[c6];omega) ⟨none,none,rfl⟩ (λi x σ g' hx e sh=>?_) (λg' e=>?_) (K6 (a9 T _) (a8 (e2.at m1)) λQ q=>?_)
 ·obtain⟨z1,z2,rfl⟩:=sh;rw[c6,ak,ae] at hx;obtain⟨m,hm,rfl⟩:=hx;refine i8 ?_
  try show bh _ _ _ _ _ _
  left;refine wW ?_;refine⟨?_,e,_,_,rfl⟩;rw[CP];simp[List.getD,hm]
 ·refine Wz (ns:=(List.range (c6 ms).length).map λi=>((s &&& ms.getD i 0:Nat):Int)) (a8 (by rw[bA];exact b0)) ?_;have en:(((List.range (c6 ms).length).map λi=>((s &&& ms.getD i 0:Nat):Int)).all λn=>n != 0)=Q3 cs rs s.testBit p:=by
   rw[aW,cw];unfold Q3;rw[cw];constructor
   ·intro hA r hr;cases Bm:meant cs r.w r.y p with
    |false=>rfl
    |true =>
     have hm:=(m3 (je cs.length (meant cs r.w r.x))).mpr ⟨r,hr,Bm,rfl⟩;obtain⟨i,hi⟩:=jy.mp hm;have Oi:=(ax.mp hi).1;have:=hA ((s &&& je cs.length (meant cs r.w r.x):Nat):Int) (aL.mpr ⟨i,bu.mpr (by simpa[c6] using Oi),by simp[List.getD,hi]⟩);rw[zt] at this;exact this
   ·intro hA x hx;obtain⟨i,hi,rfl⟩:=aL.mp hx;have hi:i<ms.length:=by simpa[c6] using hi
    have hm:ms.getD i 0∈ms:=by simp[List.getD,hi]
    obtain⟨r,hr,Bm,em⟩:=(m3 _).mp hm;have:=hA r hr;rw[Bm,Bool.not_true,qS] at this;rw[em,zt];exact this
  rw[en];left;cases c4:Q3 cs rs s.testBit p with
  |true =>
   left;have:fault cs v rs s.testBit p="":=by unfold fault K3 J6;rw[aB (by rw[c1];decide),aB (by rw[c2];decide),aB c3,aK c4]
   rw[this] at h;exact h _ (e2.trans (e.trans (Ex.snoc _ _)))
  |false =>
   left;have:fault cs v rs s.testBit p="rule":=by unfold fault K3 J6;rw[aB (by rw[c1];decide),aB (by rw[c2];decide),aB c3,aB (by rw[c4];decide)]
   rw[this] at h;exact h _ (e2.trans (e.trans (Ex.snoc _ _)))
 ·left;refine qz (e2.at h1) rfl ?_;left;exact n9 (a8 (e2.at q1)) (J9 (by rw[ak,BE];rfl)) q
end
def uD:bo:=⟨2,5,(.seq (.set 2 (dh (.prim .lst (oA (iS "coin") (iS "coin") (iS "lower") (iS "upper"))) (.call 4 (dQ aM (aZ 4))))) (.seq (.set 3 (dA .jE (dA .len bq))) (.seq (.ifs (eB .Eq bC (iS "lower")) (.seq (.set 3 (dA .sset (.comp [] 2 (.one 1) (.fi bq) .no (dh bq (aZ 0))))) .pass) .pass) (.seq (.ifs (eB .Eq bC (iS "upper")) (.seq (.set 3 (dA .sset (.comp [] 2 (.one 1) (.fi bq) .no (dh bq (aZ 2))))) .pass) .pass) (.seq (.ifs (eB .Lt (dA .len bN) (aZ 2)) (.seq (.ret (.lit .cE)) .pass) .pass) (.seq (.set 4 (.call 4 (dQ aM (dA .len bN)))) (.seq (.ret (.prim .tup (iD bC (dh bN dj) (dh bN (bP (.bin .Mod) (bP (.bin .Add) (bP (.bin .Add) dj (aZ 1)) (.call 4 (dQ aM (bP (.bin .Sub) (dA .len bN) (aZ 1))))) (dA .len bN)))))) .pass)))))))⟩
def EN:bo:=⟨2,5,(.seq (.set 2 (.prim .lst .nil)) (.seq (.dX (.one 3) (.fh (dh (.prim .lst (Hq (aZ 0) (aZ 0) (aZ 1) (aZ 1) (aZ 2) (aZ 4))) (.call 4 (dQ aM (aZ 6))))) (.seq (.set 4 (.call 105 (dQ aM bq))) (.seq (.ifs (eB .IsNot dj (.lit .cE)) (.seq (.expr (.fJ .append bC (fN dj))) .pass) .pass) .pass))) (.seq (.ret bC) .pass)))⟩
def DK:bo:=⟨4,8,(.seq (.mE (.many [4,5,6]) bN) (.seq (.ifs (eB .Eq dj (iS "coin")) (.seq (.ret (.jN (bP (.cmp .NotEq) bC fM) (bP (.cmp .In) fm bq))) .pass) .pass) (.seq (.set 7 (.ite (eB .Eq dj (iS "lower")) (aZ 0) (aZ 2))) (.seq (.ret (.jN (bP (.cmp .NotEq) (dh (dh aM bC) gz) fM) (bP (.cmp .In) fm (.comp [7,0] 4 (.one 3) (.fi bq) .no (dh (dh bq bN) aM))))) .pass))))⟩
def xc:bo:=⟨5,10,(.seq (.set 5 (dh aM dj)) (.seq (.dX (.one 6) (.fi bN) (.seq (.dX (.one 7) (.fi (bP .lst (aZ 0) (aZ 2))) (.seq (.ifs (.dM (eB .Eq (dh (dh aM fM) gz) (dh fm gz)) (.eR (.fR (.call 17 (dQ (dh (dh aM fM) (bP (.bin .Add) gz (aZ 1))) (dh fm (bP (.bin .Add) gz (aZ 1)))))))) (.seq (.ret (iS "wear")) .pass) .pass) .pass)) .pass)) (.seq (.ifs (.dM (eB .Gt (dh fm (aZ 4)) (aZ 0)) (eB .Gt (dA .max (bP (.bin .Add) (dA .lst (aZ 0)) (.comp [0] 3 (.one 2) (.fi bN) .no (dh (dh aM bC) (aZ 4))))) (dh fm (aZ 4)))) (.seq (.ret (iS "year")) .pass) .pass) (.seq (.set 8 (bP (.bin .Add) (.comp [0] 3 (.one 2) (.fi bN) .no (dh (dh aM bC) (aZ 0))) (dA .lst (dh fm (aZ 0))))) (.seq (.set 9 (.comp [3,0] 4 (.one 3) (.fh (dA .len aM)) (eB .NotIn bN aM) (dh (dh bq bN) (aZ 0)))) (.seq (.ifs (eB .Gt (dA .qG (.comp [9] 3 (.one 2) (.fi kz) (eB .In bC aM) bC)) bq) (.seq (.ret (iS "anvil")) .pass) .pass) (.seq (.ifs (.eR (.fR (dA .all (.comp [3,0,4] 5 (.one 4) (.fi bC) .no (.call 107 (oA bq aM bC dj)))))) (.seq (.ret (iS "rule")) .pass) .pass) (.seq (.ret (iS "")) .pass))))))))⟩
def zj:bo:=⟨2,4,(.seq (.mE (.many [2,3]) (.call 26 (dQ aM bq))) (.seq (.ret (.prim .tup (iD bC bN (.call 106 (dQ aM bC))))) .pass))⟩
structure TBR(T:Nat->Option bo):Prop where
 lf:LF T
 Cb:T 105=some uD
 Ca:T 106=some EN
structure qK(T:Nat->Option bo):Prop extends TBR T where
 BO:T 17=some zN
 BZ:T 107=some DK
 BY:T 108=some xc
 sC:T 110=some zj
instance{T:Nat->Option bo}:CoeOut (qK T) (TBR T):=⟨qK.toTBR⟩
theorem Kz{x:Int}(hi:i<cs.length)(h:meant cs w x i=true):(ka cs w x).isEmpty=false:=by
 cases e:ka cs w x with
 |nil =>
  have:i∈ka cs w x:=bR.mpr ⟨bu.mpr hi,h⟩;rw[e] at this;cases this
 |cons _ _=>rfl
section
variable{T:Nat->Option bo}{d:Nat}
theorem Jx{ns:List Int}{x:Int}:x∈o8 ns↔x∈ns:=by
 rw[(M4 ns).mem_iff,ST.Q5];simp
theorem Du(ns:List Int):(o8 ns).Nodup:=(M4 ns).nodup_iff.mpr (ST.DL _ _ (by simp))
theorem JC(hT:TBR T)(D0:i9 g d){L:List Int}{sL:Nat}(hN:N.rt=Q)(hL:g[sL]?=some (.lst (L.map .int)))(hd:sL≠d)(nd:L.Nodup)(hl:L.length<=9)(hm:∀x∈L,(ka cs w x).isEmpty=false)(h:∀g',i9 g' d->Gr d g g'->Q .cE g'/\∀r,w9 cs r=true->Q r.d g'):wpS (c5 T (k+1)) (match uD.body with|.seq _ (.seq _ (.seq _ (.seq _ b)))=>b|x=>x) N [some (.ref d),some (.ref a),some (.str w.s),some (.ref sL),none] g E:=by
 subst hN;dsimp[uD];left;refine if2 (λh2=>?_) (λh2=>?_)
 ·left;exact(h g D0 (Gr.refl _ _)).1
 rw[ag] at h2;left;refine f7 (k:=k) hT.lf.pull D0 (by rw[ag];omega) (by rw[ag];omega) λr1 g1 h0 h1 D1 G1=>?_;rw[ag] at h1;left;obtain⟨j,rfl⟩:∃j:Nat,r1=j:=⟨r1.toNat,by omega⟩
 have hj:j<L.length:=by omega
 have gj:gF (L.map D.int) (j:Int)=some (.int L[j]):=J9 (by rw[ak,ao hj];rfl);refine n9 (a8 (G1.at hd hL)) gj ?_;left;refine J5 (a8 (G1.at hd hL)) ?_;left;refine f7 (k:=k) hT.lf.pull D1 (by rw[ag];omega) (by rw[ag];omega) λr2 g2 k0 k1 D2 G2=>?_;rw[ag] at k1;left;have sf:=(G1.trans G2).at hd hL;refine J5 (a8 sf) ?_;left;refine R0 (by rw[ag];omega) ?_;obtain⟨j2,rfl⟩:∃j:Nat,r2=j:=⟨r2.toNat,by omega⟩
 have em:((j:Int)+1+(j2:Nat)) % ((L.map D.int).length:Nat)=(((j+1+j2) % L.length:Nat):Int):=by rw[ag,Int.natCast_emod,show((j+1+j2:Nat):Int)=(j:Int)+1+(j2:Nat) by omega]
 rw[em];have rV:(j+1+j2) % L.length<L.length:=MH _ ();have fA:(j+1+j2) % L.length≠j:=by
  by_cases hc:j+1+j2<L.length
  ·rw[Nat.mod_eq_of_lt hc];omega
  ·rw[Nat.mod_eq_sub_mod (),Nat.mod_eq_of_lt ()];omega
 generalize (j+1+j2) % L.length=j3 at *;have Pp:gF (L.map D.int) (j3:Int)=some (.int L[j3]):=J9 (by rw[ak,ao rV];rfl);refine n9 (a8 sf) Pp ?_;left;refine(h g2 D2 (G1.trans G2)).2 ⟨w,L[j],L[j3]⟩ ?_;unfold w9;rw[hm _ (cK hj),hm _ (cK rV),aD (λz=>fA ((my nd).mp z).symm)]
 rfl
theorem Uq(hT:TBR T)(ha:g[a]?=some (.lst (cs.map b7.d)))(hz:cs.length<=9)(hd:d<a)(D0:i9 g d)(h:∀g',i9 g' d->Gr d g g'->Q .cE g'/\∀r,w9 cs r=true->Q r.d g'):c5 T (k+2) 105 [.ref d,.ref a] g Q E:=by
 refine call_of hT.Cb rfl ?_;dsimp[uD,d0,List.replicate];left;refine f7 (k:=k) hT.lf.pull (D0.snoc _) ∅ ∅ λr0 g1 h0 h1 D1 G1=>?_;have Fx:=(Gr.snoc d g _).trans G1;have oN:=Fx.at (bV hd) ha;have l1:=Fx.len;have dl:=D0.lt;have hw:∃w:RW,gF [D.str "coin",D.str "coin",D.str "lower",D.str "upper"] r0=some (.str w.s):=by
  obtain⟨j,rfl⟩:∃j:Nat,r0=j:=⟨r0.toNat,by omega⟩
  have:j=0\/j=1\/j=2\/j=3:=by omega
  rcases this with rfl|rfl|rfl|rfl
  ·exact⟨.fU,rfl⟩
  ·exact⟨.fU,rfl⟩
  ·exact⟨.lower,rfl⟩
  ·exact⟨.upper,rfl⟩
 obtain⟨w,hw⟩:=hw;left;refine n9 (a8 (G1.at (bV dl) b0)) hw ?_;left;refine AR () (by simp;omega) ?_;left;have e2:=Ex.snoc g1 (O.lst (j7 0 (Int.toNat ((cs.map b7.d).length:Nat))));have qe:=b0 (g:=g1) (o:=O.lst (j7 0 (Int.toNat ((cs.map b7.d).length:Nat))));generalize g1++[O.lst (j7 0 (Int.toNat ((cs.map b7.d).length:Nat)))]=g2 at *;have yz:=e2.at oN;have D2:=e2.draw D1;have G2:=Fx.trans (e2.gr d);have fld:∀(f:Int) (w:RW) (N:Ends),(f=0\/f=2)->(∀i c,cs[i]?=some c->∀x,meant cs w x i=decide (B3 f c=x))->N.rt=Q->bh (c5 T (k+1)) (.prim .sset (.cons (.comp [] 2 (.one 1) (.fi (.var 1)) .no (.prim .ix (.cons (.var 1) (.cons (.lit (.int f)) .nil)))) .nil)) [some (.ref d),some (.ref a),some (.str w.s),some (.ref g1.length),none] g2 (λx g3=>wpS (c5 T (k+1)) (match uD.body with|.seq _ (.seq _ (.seq _ (.seq _ b)))=>b|x=>x) N [some (.ref d),some (.ref a),some (.str w.s),some x,none] g3 E) E:=λf w N hf hm hN=>by
  left;refine comp_map (a9 T _) (λσ=>∃z0 z1,σ=[z0,z1]) (λi=>.int (B3 f (bZ cs i))) (l:=cs.map b7.d) (k:=.lst a) (λg' e=>m8 (a8 (e.at yz))) (by simp;omega) ⟨none,none,rfl⟩ (λi x σ g' hx e sh=>?_) (λg' e=>?_) (K6 (a9 T _) (a8 yz) λQ q=>w_var (d:=.ref a) rfl q)
  ·obtain⟨z0,z1,rfl⟩:=sh;rw[ak,ae] at hx;obtain⟨c,hc,rfl⟩:=hx;refine i8 ?_
   try show bh _ _ _ _ _ _
   left;refine v9 (M6 hf c) ?_;exact⟨by rw[C6 hc],e,_,_,rfl⟩
  ·refine ES (ns:=(List.range cs.length).map λi=>B3 f (bZ cs i)) (a8 (by rw[bA];rw[b0,ag];rfl)) (by simp;omega) ?_;have e3:=(e.trans (Ex.snoc g' (O.lst ((List.range (cs.map b7.d).length).map λi=>D.int (B3 f (bZ cs i)))))).trans (Ex.snoc _ (O.lst ((o8 ((List.range cs.length).map λi=>B3 f (bZ cs i))).map .int)));have Bp:(o8 ((List.range cs.length).map λi=>B3 f (bZ cs i))).length<=9:=aF (O8 _) (by simpa using hz);refine JC (k:=k) hT (e3.draw D2) hN b0 (by have:=D2.lt;have:=e.len;simp;omega) (Du _) Bp (λx hx=>?_) λg4 D4 G4=>h g4 D4 (G2.trans ((e3.gr d).trans G4));rw[Jx] at hx;obtain⟨i,hi,rfl⟩:=aL.mp hx;have hi:=bu.mp hi;have hc:=ao hi;refine Kz hi ?_;rw[hm i _ hc,C6 hc];exact aw rfl
 cases w with
 |fU =>
  refine gA (by decide +kernel) ?_;left;refine gA (by decide +kernel) ?_
  try refine L5 ?_
  have er:j7 0 (Int.toNat ((cs.map b7.d).length:Nat))=((List.range cs.length).map λ(i:Nat)=>(i:Int)).map D.int:=by
   simp[j7]
  refine JC (k:=k) hT (w:=.fU) (L:=(List.range cs.length).map λ(i:Nat)=>(i:Int)) D2 rfl (by rw[<- er];exact qe) () ?_ (by simpa using hz) (λx hx=>?_) λg4 D4 G4=>h g4 D4 (G2.trans G4)
  ·exact lF.mpr (List.nodup_range.imp λh e=>h ())
  ·obtain⟨i,hi,rfl⟩:=aL.mp hx;exact Kz (bu.mp hi) (aw rfl)
 |lower =>
  refine ij (by decide +kernel) ?_;refine O7 ?_;refine xa ?_;refine b9 (a9 T _) _ _ _ _ _ _ _ (λx g3 q=>?_) (λ_ _ z=>z) (fld 0 .lower ⟨λ_ g'=>Q .cE g',Q,λ_ _=>False,λ_ _=>False⟩ (.inl rfl) (λi c hc x=>by simp only[meant,C6 hc];rfl) rfl);refine zc ?_;left;refine gA (by decide +kernel) ?_
  try refine L5 ?_
  exact q
 |upper =>
  refine gA (by decide +kernel) ?_;left;refine ij (by decide +kernel) ?_;refine O7 ?_;refine xa ?_;exact fld 2 .upper _ (.inr rfl) (λi c hc x=>by simp only[meant,C6 hc];rfl) rfl
end
section
variable{T:Nat->Option bo}{d:Nat}
theorem a42(hT:TBR T)(ha:g[a]?=some (.lst (cs.map b7.d)))(hz:cs.length<=9)(hd:d<a)(D0:i9 g d)(h:∀(rs:List gL) b g',rs.length<=4->rs.all (w9 cs)=true->g'[b]?=some (.lst (v5 rs))->g.length<=b->i9 g' d->Gr d g g'->Q (.ref b) g'):c5 T (k+3) 106 [.ref d,.ref a] g Q E:=by
 refine call_of hT.Ca rfl ?_;dsimp[EN,d0,List.replicate];left;have dl:=D0.lt;have e1:=Ex.snoc g (O.lst []);have Hc:=b0 (g:=g) (o:=O.lst []);have D1:=D0.snoc (O.lst []);generalize g++[O.lst []]=g1 at *;refine x8 (a9 T _) (qD (a9 T _) ?_);left;refine f7 (k:=k+1) hT.lf.pull (D1.snoc _) ∅ ∅ λr0 g2 h0 h1 D2 G2=>?_;have l1:=n6 Hc;have hw:∃j:Nat,j<=4/\gF [D.int 0,D.int 0,D.int 1,D.int 1,D.int 2,D.int 4] r0=some (.int (j:Nat)):=by
  obtain⟨j,rfl⟩:∃j:Nat,r0=j:=⟨r0.toNat,by omega⟩
  have:j=0\/j=1\/j=2\/j=3\/j=4\/j=5:=by omega
  rcases this with rfl|rfl|rfl|rfl|rfl|rfl
  ·exact⟨0,by decide,rfl⟩
  ·exact⟨0,by decide,rfl⟩
  ·exact⟨1,by decide,rfl⟩
  ·exact⟨1,by decide,rfl⟩
  ·exact⟨2,by decide,rfl⟩
  ·exact⟨4,by decide,rfl⟩
 obtain⟨j,hj,hw⟩:=hw;refine n9 (a8 (G2.at () b0)) hw ?_;refine⟨j,rfl,by omega,by omega,_,λi σ g'=>i9 g' d/\Gr d g g'/\(∃rs:List gL,rs.length<=i/\rs.all (w9 cs)=true/\g'[g.length]?=some (.lst (v5 rs)))/\∃z3 z4,σ=[some (.ref d),some (.ref a),some (.ref g.length),z3,z4],λ_ _ _ _=>w6,⟨D2,(e1.gr d).trans ((Gr.snoc d g1 _).trans G2),⟨[],by simp,rfl,((Gr.snoc d g1 _).trans G2).at () Hc⟩,none,none,rfl⟩,λi x σ g' hx q=>?_,λσ g' q=>?_⟩
 ·obtain⟨D3,G3,⟨rs,hl,hA,hF⟩,z3,z4,rfl⟩:=q;obtain⟨hi,rfl⟩:=B7 hx;have hi:i<j:=by simpa using hi
  refine i8 ?_
  try show wpS _ _ _ _ _ _
  left;have yy:=G3.at (bV hd) ha;refine Uq (k:=k) hT yy hz hd D3 λg4 D4 G4=>⟨?_,λr hr=>?_⟩
  ·left;exact⟨D4,G3.trans G4,⟨rs,by omega,hA,G4.at () hF⟩,_,_,rfl⟩
  ·left;refine ij rfl ?_;left;have BI:=G4.at () hF
   try refine⟨xf BI,?_⟩
   left;refine sX BI (by simp[v5];omega) ?_;left;refine⟨D4.K5 (),(G3.trans G4).K5 (av _),⟨rs++[r],by simp;omega,by rw[List.all_append,hA];simp[hr],?_⟩,_,_,rfl⟩;rw[get_set BI];simp[v5]
 ·obtain⟨D3,G3,⟨rs,hl,hA,hF⟩,z3,z4,rfl⟩:=q;rw[m9] at hl
  try show wpS _ _ _ _ _ _
  left;exact h rs _ _ (by simp at hl;omega) hA hF (av _) D3 G3
theorem a44(hT:TBR T)(sC:T 110=some zj){n:Int}(hn:0<=n/\n<=9)(D0:i9 g d)(h:∀(cs:List b7) (rs:List gL) a c (v:Int) g',(cs.length:Int)<=n->(∀c∈cs,kj c)->g'[a]?=some (.lst (cs.map b7.d))->g.length<=a->rs.length<=4->rs.all (w9 cs)=true->g'[c]?=some (.lst (v5 rs))->g.length<=c->a≠c->1<=v->v<=6->i9 g' d->Gr d g g'->Q (.tup [.ref a,.int v,.ref c]) g'):c5 T (k+5) 110 [.ref d,.int n] g Q E:=by
 refine call_of sC rfl ?_;dsimp[zj,d0,List.replicate];left;refine aQ5 (k:=k) hT.lf ⟨hn.1,by omega⟩ D0 λcs a v g1 hl hg ha yx v1 v2 D1 G1=>?_;refine C3 rfl ?_
 try show wpS _ _ _ _ _ _
 left;have dl:=D0.lt;refine a42 (k:=k+1) hT ha () () D1 λrs c g2 hr hR hc kf D2 G2=>?_;left;exact h cs rs a c v g2 hl hg (G2.at () ha) yx hr hR hc (aF G1.len kf) (aI (az (n6 ha) kf)) v1 v2 D2 (G1.trans G2)
theorem Ta{x:Int}:((H.map λ(i:Nat)=>(i:Int)).any λm=>m==x)=H.any λi=>decide ((i:Int)=x):=by
 rw[lI]
 rfl
theorem ze(hH:∀i∈H,i<n)(q:Nat->Bool):((List.range n).any λi=>decide (i∈H)&&q i)=H.any q:=by
 rw[aW,aU,aU];constructor
 ·rintro⟨i,_,h⟩;rw[aR,dE] at h;exact⟨i,h.1,h.2⟩
 ·rintro⟨i,h1,h2⟩;exact⟨i,bu.mpr (hH i h1),by rw[aw h1,h2];rfl⟩
theorem L4(hi:i<cs.length):gF (cs.map b7.d) (i:Int)=some (bZ cs i).d:=J9 (by rw[ak,ao hi,C6 (ao hi)];rfl)
theorem aB4(hT:qK T){r:gL}(ha:g[a]?=some (.lst (cs.map b7.d)))(hh:g[hl]?=some (.lst (c6 H)))(hH:∀i∈H,i<cs.length)(sg:H.length<=50)(hp:p<cs.length)(h:∀g',Ex g g'->Q (.bl (!meant cs r.w r.y p||(List.range cs.length).any λi=>decide (i∈H)&&meant cs r.w r.x i)) g'):c5 T (k+1) 107 [.ref a,.ref hl,.int (p:Nat),r.d] g Q E:=by
 refine call_of hT.BZ rfl ?_;dsimp[DK,d0,List.replicate];simp only[ze hH] at h;left;refine C3 (l:=[.str r.w.s,.int r.x,.int r.y]) rfl ?_;left;have ot:∀(w:RW) (f:Int),(f=0\/f=2)->(∀i x,meant cs w x i=decide (B3 f (bZ cs i)=x))->(∀g',Ex g g'->Q (.bl (!meant cs w r.y p||H.any λi=>meant cs w r.x i)) g')->bh (c5 T k) (.jN (.prim (.cmp .NotEq) (.cons (.prim .ix (.cons (.prim .ix (.cons (.var 0) (.cons (.var 2) .nil))) (.cons (.var 7) .nil))) (.cons (.var 6) .nil))) (.prim (.cmp .In) (.cons (.var 5) (.cons (.comp [7,0] 4 (.one 3) (.fi (.var 1)) .no (.prim .ix (.cons (.prim .ix (.cons (.var 1) (.cons (.var 3) .nil))) (.cons (.var 0) .nil)))) .nil)))) [some (.ref a),some (.ref hl),some (.int (p:Nat)),some r.d,some (.str w.s),some (.int r.x),some (.int r.y),some (.int f)] g Q E:=λw f hf hm h=>by
  left;refine n9 (a8 ha) (L4 hp) ?_;left;refine v9 (M6 hf _) ?_;left;rw[hm] at h;by_cases c1:B3 f (bZ cs p)=r.y
  ·refine gA (by rw[aw c1];rfl) ?_;left;refine comp_map (a9 T _) (λσ=>∃z2 z3,σ=[some (.int f),some (.ref a),z2,z3]) (λi=>.int (B3 f (bZ cs (H.getD i 0)))) (l:=c6 H) (k:=.lst hl) (λg' e=>m8 (a8 (e.at hh))) (by simp[c6];omega) ⟨none,none,rfl⟩ (λi x σ g' hx e sh=>?_) (λg' e=>?_) (K6 (a9 T _) (a8 hh) λQ q=>w_var (d:=.ref hl) rfl q)
   ·obtain⟨z2,z3,rfl⟩:=sh;rw[c6,ak,ae] at hx;obtain⟨j,hj,rfl⟩:=hx;refine i8 ?_
    try show bh _ _ _ _ _ _
    left;refine n9 (a8 (e.at ha)) (L4 (hH j (aN hj))) ?_;left;refine v9 (M6 hf _) ?_;exact⟨by simp[List.getD,hj],e,_,_,rfl⟩
   ·refine xo (P6 (ms:=(List.range (c6 H).length).map λi=>B3 f (bZ cs (H.getD i 0))) (a8 (by rw[bA];exact b0)) ?_);have e2:(((List.range (c6 H).length).map λi=>B3 f (bZ cs (H.getD i 0))).any λm=>m==r.x)=(H.any λi=>meant cs w r.x i):=by
     rw[lI,aW,aU,aU];constructor
     ·rintro⟨i,hi,h1⟩;have hi:i<H.length:=by simpa[c6] using hi
      refine⟨H[i],cK hi,?_⟩;rw[hm];simpa[List.getD,hi] using h1
     ·rintro⟨j,hj,h1⟩;obtain⟨i,hi,rfl⟩:=bG.mp hj;refine⟨i,by simpa[c6] using hi,?_⟩;rw[hm] at h1;simpa[List.getD,hi] using h1
    rw[e2];simp only[decide_eq_true c1,Bool.not_true,Bool.false_or] at h;exact h _ (e.trans (Ex.snoc _ _))
  ·refine ij (by rw[aD c1];rfl) ?_;have:=h _ (Ex.refl _);rw[aD c1] at this;exact this
 obtain⟨w,x,y⟩:=r;cases w with
 |fU =>
  refine ij (show decide (RW.fU.s="coin")=true from by decide +kernel) ?_;left;by_cases c1:((p:Nat):Int)=y
  ·refine gA (by rw[aw c1];rfl) ?_;left;refine xo (P6 (ms:=H.map λ(i:Nat)=>(i:Int)) (by rw[<- K7];exact a8 hh) ?_);rw[Ta];have:=h _ (Ex.refl _);rw[show meant cs .fU y p=true from aw c1] at this;exact this
  ·refine ij (by rw[aD c1];rfl) ?_;have:=h _ (Ex.refl _);rw[show meant cs .fU y p=false from aD c1] at this;exact this
 |lower =>
  refine gA (show decide (RW.lower.s="coin")=false from by decide +kernel) ?_;left;refine ij (show decide (RW.lower.s="lower")=true from by decide +kernel) ?_;refine w_lit (O7 (EA ?_));exact ot .lower 0 (.inl rfl) (λi x=>rfl) h
 |upper =>
  refine gA (show decide (RW.upper.s="coin")=false from by decide +kernel) ?_;left;refine gA (show decide (RW.upper.s="lower")=false from by decide +kernel) ?_;refine w_lit (O7 (EA ?_));exact ot .upper 2 (.inr rfl) (λi x=>rfl) h
end
theorem JQ:∀{ns:List Int},ns≠[]->∃M∈ns,∀x∈ns,x<=M
 |[],h=>absurd rfl h
 |[x],_=>⟨x,by simp,by simp⟩
 |x::y::r,_=>by
  obtain⟨M,h1,h2⟩:=JQ (ns:=y::r) (by simp);by_cases h:x<=M
  ·refine⟨M,bH _ h1,λz hz=>?_⟩;rcases aH.mp hz with rfl|hz
   ·exact h
   ·exact h2 z hz
  ·refine⟨x,by simp,λz hz=>?_⟩;rcases aH.mp hz with rfl|hz
   ·exact dZ _
   ·have:=h2 z hz;omega
theorem a41{l m:List Int}(hl:l.Nodup)(hm:m.Nodup)(h:∀x,x∈l↔x∈m):l.length=m.length:=((List.perm_ext_iff_of_nodup hl hm).mpr h).length_eq
noncomputable abbrev kK(H:List Nat):Nat->Bool:=λi=>decide (i∈H)
def fTail(n:Nat):MS->MS
 |.seq a b=>match n with
  |0=>.seq a b
  |n+1=>fTail n b
 |x=>x
section
variable{T:Nat->Option bo}{d:Nat}
theorem JR(hT:qK T)(hN:N.rt=Q){z6 z7:Option D}(ha:g[a]?=some (.lst (cs.map b7.d)))(hz:cs.length<=9)(hc:g[c]?=some (.lst (v5 rs)))(hr:rs.length<=900)(hh:g[hl]?=some (.lst (c6 H)))(hH:∀i∈H,i<cs.length)(sg:H.length<=50)(hp:p<cs.length)(w1:K3 cs (kK H) p=false)(w2:J6 cs (kK H) p=false)(h:∀g',Ex g g'->Q (.str (fault cs v rs (kK H) p)) g') :
  wpS (c5 T (k+1)) (fTail 3 xc.body) N [some (.ref a),some (.int v),some (.ref c),some (.ref hl),some (.int (p:Nat)),some (bZ cs p).d,z6,z7,none,none] g E:=by
 subst hN;dsimp[xc,fTail];left;refine comp_map (a9 T _) (λσ=>∃z1 z2,σ=[some (.ref a),z1,z2]) (λi=>.int (bZ cs (H.getD i 0)).lo) (l:=c6 H) (k:=.lst hl) (λg' e=>m8 (a8 (e.at hh))) (by simp[c6];omega) ⟨none,none,rfl⟩ (λi x σ g' hx e sh=>?_) (λg1 e1=>?_) (K6 (a9 T _) (a8 hh) λQ q=>w_var (d:=.ref hl) rfl q)
 ·obtain⟨z1,z2,rfl⟩:=sh;rw[c6,ak,ae] at hx;obtain⟨j,hj,rfl⟩:=hx;refine i8 ?_
  try show bh _ _ _ _ _ _
  left;refine n9 (a8 (e.at ha)) (L4 (hH j (aN hj))) ?_;left;refine v9 (M6 (.inl rfl) _) ?_;exact⟨by simp[List.getD,hj,B3],e,_,_,rfl⟩
 have e2:=e1.trans (Ex.snoc g1 (O.lst ((List.range (c6 H).length).map λi=>D.int (bZ cs (H.getD i 0)).lo)));have eh:(List.range (c6 H).length).map (λi=>D.int (bZ cs (H.getD i 0)).lo)=(H.map λi=>(bZ cs i).lo).map D.int:=by
  rw[bA];refine bW λi=>?_;rw[ak,ak];by_cases hi:i<H.length
  ·rw[bT (by simpa[c6] using hi),ao hi];simp[List.getD,hi]
  ·rw[aQ (by simpa[c6] using hi),aQ ()]
   rfl
 rw[eh] at e2 ⊢;have h2:=b0 (g:=g1) (o:=O.lst ((H.map λi=>(bZ cs i).lo).map D.int));generalize g1++[O.lst ((H.map λi=>(bZ cs i).lo).map D.int)]=g2 at *;left;refine v9 (M6 (.inl rfl) _) ?_;left;have e3:=Ex.snoc g2 (O.lst [D.int (B3 0 (bZ cs p))]);refine V1 (e3.at h2) b0 (by simp;omega) ?_;have e4:=(e2.trans e3).trans (Ex.snoc _ (O.lst ((H.map λi=>(bZ cs i).lo).map D.int++[D.int (B3 0 (bZ cs p))])));have h4:=b0 (g:=g2++[O.lst [D.int (B3 0 (bZ cs p))]]) (o:=O.lst ((H.map λi=>(bZ cs i).lo).map D.int++[D.int (B3 0 (bZ cs p))]));have PV:(H.map λi=>(bZ cs i).lo).map D.int++[D.int (B3 0 (bZ cs p))]=((H.map λi=>(bZ cs i).lo)++[(bZ cs p).lo]).map D.int:=by simp[B3]
 rw[PV] at e4 h4 ⊢;generalize Bt:(H.map λi=>(bZ cs i).lo)++[(bZ cs p).lo]=fe at *;have lhr:fe.length<=51:=by rw[<- Bt];simp;omega
 generalize g2++[O.lst [D.int (B3 0 (bZ cs p))]]=g3 at *;generalize g3++[O.lst (fe.map D.int)]=g4 at *;generalize g3.length=ah at *;left;refine A2 (a9 T _) (λσ=>∃z2 z3,σ=[some (.ref hl),some (.ref a),z2,z3]) (λi=>!decide (i∈H)) (λi=>.int (bZ cs i).lo) (l:=j7 0 cs.length) (λg' e=>w6) (by rw[m9];omega) ⟨none,none,rfl⟩ (λi d σ g' hx e sh=>?_) (λg5 e5=>?_) (zY (a9 T _) (by omega:cs.length<=1000) λQ q=>?_)
 ·obtain⟨z2,z3,rfl⟩:=sh;obtain⟨hi,rfl⟩:=B7 hx;rw[jd];refine i8 ?_
  try show dD _ _ _ _ _ _
  left;refine V0 (CZ ((e4.trans e).at hh) ?_);left;refine⟨rfl,e,?_⟩;by_cases vT:i∈H
  ·rw[aw vT];exact gA rfl ⟨_,_,rfl⟩
  ·rw[aD vT];refine ij rfl ?_;left;refine n9 (a8 ((e4.trans e).at ha)) (L4 hi) ?_;left;refine v9 (M6 (.inl rfl) _) ?_;exact⟨rfl,e,_,_,rfl⟩
 rotate_left
 ·left;refine J5 (a8 (e4.at ha)) ?_;rw[ag];exact q
 have e6:=e5.trans (Ex.snoc g5 (O.lst (((List.range (j7 0 cs.length).length).filter λi=>!decide (i∈H)).map λi=>D.int (bZ cs i).lo)));have h6:=b0 (g:=g5) (o:=O.lst (((List.range (j7 0 cs.length).length).filter λi=>!decide (i∈H)).map λi=>D.int (bZ cs i).lo));have el:(((List.range (j7 0 cs.length).length).filter λi=>!decide (i∈H)).map λi=>D.int (bZ cs i).lo)=(((List.range cs.length).filter λi=>!decide (i∈H)).map λi=>(bZ cs i).lo).map D.int:=by
  rw[m9,bA]
  rfl
 rw[el] at e6 h6 ⊢;generalize dS:(((List.range cs.length).filter λi=>!decide (i∈H)).map λi=>(bZ cs i).lo)=lt' at *;generalize g5++[O.lst (lt'.map D.int)]=g6 at *;generalize g5.length=al at *;left;refine A2 (a9 T _) (λσ=>∃z1 z2,σ=[some (.ref al),z1,z2]) (λi=>decide (fe.getD i 0∈lt')) (λi=>.int (fe.getD i 0)) (l:=fe.map D.int) (k:=.lst ah) (λg' e=>m8 (a8 ((e6.trans e).at h4))) (by simp;omega) ⟨none,none,rfl⟩ (λi d σ g' hx e sh=>?_) (λg7 e7=>?_) (K6 (a9 T _) (a8 (e6.at h4)) λQ q=>w_var (d:=.ref ah) rfl q)
 ·obtain⟨z1,z2,rfl⟩:=sh;rw[ak,ae] at hx;obtain⟨x,hx,rfl⟩:=hx;have ex:fe.getD i 0=x:=by simp[List.getD,hx]
  refine i8 ?_
  try show dD _ _ _ _ _ _
  left;refine xo (P6 (a8 (e.at h6)) ?_);left;have ed:(lt'.any λm=>m==x)=decide (x∈lt'):=by
   rw[aW,aU,dE];exact⟨λ⟨y,hy,e⟩=>(bz.mp e)▸hy,λhy=>⟨x,hy,by simp⟩⟩
  rw[ed,ex];refine⟨rfl,e,?_⟩;refine if2 (λ_=>?_) (λ_=>?_)
  ·left;exact⟨rfl,e,_,_,rfl⟩
  ·exact⟨_,_,rfl⟩
 have es:((List.range (fe.map D.int).length).filter λi=>decide (fe.getD i 0∈lt')).map (λi=>D.int (fe.getD i 0))=(((List.range fe.length).filter λi=>decide (fe.getD i 0∈lt')).map λi=>fe.getD i 0).map D.int:=by
  rw[bA,ag]
  rfl
 have e8:=e7.trans (Ex.snoc g7 (O.lst (((List.range (fe.map D.int).length).filter λi=>decide (fe.getD i 0∈lt')).map λi=>D.int (fe.getD i 0))));refine QN (ns:=((List.range fe.length).filter λi=>decide (fe.getD i 0∈lt')).map λi=>fe.getD i 0) (a8 (by rw[es];exact b0)) (by rw[ag];exact dw K8 ()) ?_;generalize g7++[O.lst (((List.range (fe.map D.int).length).filter λi=>decide (fe.getD i 0∈lt')).map λi=>D.int (fe.getD i 0))]=g8 at *;have en:(ST.i0 [] (((List.range fe.length).filter λi=>decide (fe.getD i 0∈lt')).map λi=>fe.getD i 0)).length=ux cs (kK H) p:=by
  unfold ux;refine a41 (ST.DL _ _ (by simp)) ((Du _).filter _) λx=>?_;rw[ST.Q5,bR,Jx];unfold Z0;rw[aR,aU,aU];simp only[List.not_mem_nil,false_or,List.mem_map,List.mem_filter,List.mem_range,Bool.and_eq_true,decide_eq_true_eq,Bool.or_eq_true,Bool.not_eq_true',decide_eq_false_iff_not];constructor
  ·rintro⟨i,⟨hi,hx⟩,rfl⟩;have hm:fe.getD i 0∈fe:=by simp[List.getD,hi]
   generalize fe.getD i 0=x at *;rw[<- dS] at hx;simp only[List.mem_map,List.mem_filter,List.mem_range,Bool.not_eq_true',decide_eq_false_iff_not] at hx;rw[<- Bt] at hm;obtain⟨j,⟨vQ,Br⟩,rV⟩:=hx;have ye:∃q,q<cs.length/\(q∈H\/q=p)/\(bZ cs q).lo=x:=by
    rcases ba.mp hm with hm|hm
    ·obtain⟨q,hq,e⟩:=aL.mp hm;exact⟨q,hH q hq,.inl hq,e⟩
    ·exact⟨p,hp,.inr rfl,(bK.mp hm).symm⟩
   obtain⟨q,q1,q2,q3⟩:=ye;refine⟨⟨bZ cs j,?_,rV⟩,⟨q,q1,q2,q3⟩,j,vQ,Br,rV⟩;rw[C6 (ao vQ)];exact cK vQ
  ·rintro⟨_,⟨q,q1,q2,q3⟩,j,vQ,Br,rV⟩;have hm:x∈fe:=by
    rw[<- Bt];rcases q2 with q2|q2
    ·exact bB _ (aL.mpr ⟨q,q2,q3⟩)
    ·subst q2;exact aP _ (by rw[q3];simp)
   obtain⟨i,hi,e⟩:=bG.mp hm;refine⟨i,⟨hi,?_⟩,by simp[List.getD,hi,e]⟩;rw[show fe.getD i 0=x by simp[List.getD,hi,e],<- dS];simp only[List.mem_map,List.mem_filter,List.mem_range,Bool.not_eq_true',decide_eq_false_iff_not];exact⟨j,⟨vQ,Br⟩,rV⟩
 rw[en];left;have ug:=(e4.trans e6).trans e8;refine if2 (λc3=>?_) (λc3=>?_)
 ·left;have:fault cs v rs (kK H) p="anvil":=by unfold fault;rw[aB (by rw[w1];decide),aB (by rw[w2];decide),aK c3]
  rw[this] at h;exact h _ ug
 left;refine comp_map (a9 T _) (λσ=>∃z3 z4,σ=[some (.ref hl),some (.ref a),some (.int (p:Nat)),z3,z4]) (λi=>.bl (!meant cs (rs.getD i ⟨.fU,0,0⟩).w (rs.getD i ⟨.fU,0,0⟩).y p||(List.range cs.length).any λj=>decide (j∈H)&&meant cs (rs.getD i ⟨.fU,0,0⟩).w (rs.getD i ⟨.fU,0,0⟩).x j)) (l:=v5 rs) (k:=.lst c) (λg' e=>m8 (a8 ((ug.trans e).at hc))) (by simp[v5];omega) ⟨none,none,rfl⟩ (λi x σ g' hx e sh=>?_) (λg9 e9=>?_) (K6 (a9 T _) (a8 (ug.at hc)) λQ q=>w_var (d:=.ref c) rfl q)
 ·obtain⟨z3,z4,rfl⟩:=sh;rw[v5,ak,ae] at hx;obtain⟨r,qe,rfl⟩:=hx;refine i8 ?_
  try show bh _ _ _ _ _ _
  left;refine aB4 (k:=k) hT ((ug.trans e).at ha) ((ug.trans e).at hh) hH sg hp λwz lS=>?_;exact⟨by simp[List.getD,qe],e.trans lS,_,_,rfl⟩
 have eb:((List.range (v5 rs).length).map λi=>D.bl (!meant cs (rs.getD i ⟨.fU,0,0⟩).w (rs.getD i ⟨.fU,0,0⟩).y p||(List.range cs.length).any λj=>decide (j∈H)&&meant cs (rs.getD i ⟨.fU,0,0⟩).w (rs.getD i ⟨.fU,0,0⟩).x j))=(rs.map λr=>!meant cs r.w r.y p||(List.range cs.length).any λj=>decide (j∈H)&&meant cs r.w r.x j).map D.bl:=by
  rw[bA];refine bW λi=>?_;rw[ak,ak];by_cases hi:i<rs.length
  ·rw[bT (by simpa[v5] using hi),ao hi];simp[List.getD,hi]
  ·rw[aQ (by simpa[v5] using hi),aQ ()]
   rfl
 rw[eb];refine yP (a8 b0) (V2 _) ?_;have eN:(rs.map λr=>!meant cs r.w r.y p||(List.range cs.length).any λj=>decide (j∈H)&&meant cs r.w r.x j).all id=Q3 cs rs (kK H) p:=by
  rw[List.all_map]
  rfl
 rw[eN];left;have lS:=ug.trans (e9.trans (Ex.snoc g9 (O.lst ((rs.map λr=>!meant cs r.w r.y p||(List.range cs.length).any λj=>decide (j∈H)&&meant cs r.w r.x j).map D.bl))));cases c4:Q3 cs rs (kK H) p with
 |true =>
  left;have:fault cs v rs (kK H) p="":=by unfold fault;rw[aB (by rw[w1];decide),aB (by rw[w2];decide),aB c3,aK c4]
  rw[this] at h;exact h _ lS
 |false =>
  left;have:fault cs v rs (kK H) p="rule":=by unfold fault;rw[aB (by rw[w1];decide),aB (by rw[w2];decide),aB c3,aB (by rw[c4];decide)]
  rw[this] at h;exact h _ lS
end
section
variable{T:Nat->Option bo}{d:Nat}
theorem Ea(c:b7):gF [D.int c.lo,D.tup (c.lm.map .int),D.int c.up,D.tup (c.um.map .int),D.int c.yr] 4=some (.int c.yr):=rfl
theorem UW(hi:i∈H)(hH:∀i∈H,i<cs.length)(h:mw (bZ cs i) (bZ cs p)=true):fault cs v rs (kK H) p="wear":=by
 unfold fault;rw[aK];unfold K3;rw[ze hH,aU];exact⟨i,hi,h⟩
theorem Zh(hT:qK T)(hB:∀c∈cs,CB c)(ha:g[a]?=some (.lst (cs.map b7.d)))(hz:cs.length<=9)(hc:g[c]?=some (.lst (v5 rs)))(hr:rs.length<=900)(hh:g[hl]?=some (.lst (c6 H)))(hH:∀i∈H,i<cs.length)(sg:H.length<=50)(hp:p<cs.length)(h:∀g',Ex g g'->Q (.str (fault cs v rs (kK H) p)) g'):c5 T (k+2) 108 [.ref a,.int v,.ref c,.ref hl,.int (p:Nat)] g Q E:=by
 refine call_of hT.BY rfl ?_;have OP:∀i,i<cs.length->CB (bZ cs i):=λi hi=>by rw[C6 (ao hi)];exact hB _ (cK hi)
 dsimp[xc,d0,List.replicate];left;refine n9 (a8 ha) (L4 hp) ?_;left;refine x8 (a9 T _) (kY (a9 T _) ?_);left;refine⟨hl,_,rfl,a8 hh,c6 H,λt σ g'=>Ex g g'/\(∀i∈H.take t,mw (bZ cs i) (bZ cs p)=false)/\∃z6 z7,σ=[some (.ref a),some (.int v),some (.ref c),some (.ref hl),some (.int (p:Nat)),some (bZ cs p).d,z6,z7,none,none],λi σ g' q=>m8 (a8 (q.1.at hh)),⟨Ex.refl _,by simp,none,none,rfl⟩,λt x σ g' hx q=>?_,λσ g' q=>?_⟩
 ·obtain⟨e1,q,z6,z7,rfl⟩:=q;rw[c6,ak,ae] at hx;obtain⟨i,hi,rfl⟩:=hx;have vT:=aN hi;have kC:=hH i vT;refine i8 ?_
  try show wpS _ _ _ _ _ _
  left;refine x8 (a9 T _) (kY (a9 T _) ?_);left;have e2:=e1.trans (Ex.snoc g' (O.lst [D.int 0,D.int 2]));have h2:=b0 (g:=g') (o:=O.lst [D.int 0,D.int 2]);generalize g'++[O.lst [D.int 0,D.int 2]]=g2 at *;refine⟨_,_,rfl,a8 h2,[D.int 0,D.int 2],λj σ g3=>Ex g2 g3/\(1<=j->(decide ((bZ cs i).lo=(bZ cs p).lo)&&!jY (bZ cs i).lm (bZ cs p).lm)=false)/\(2<=j->(decide ((bZ cs i).up=(bZ cs p).up)&&!jY (bZ cs i).um (bZ cs p).um)=false)/\∃z7,σ=[some (.ref a),some (.int v),some (.ref c),some (.ref hl),some (.int (p:Nat)),some (bZ cs p).d,some (.int (i:Nat)),z7,none,none],λj σ g3 q=>m8 (a8 (q.1.at h2)),⟨Ex.refl _,λz=>absurd z (),λz=>absurd z (),z7,rfl⟩,λj x σ g3 hx q=>?_,λσ g3 q=>?_⟩
  ·obtain⟨e3,q1,q2,z7,rfl⟩:=q;have hf:∃f:Int,(f=0\/f=2)/\x=.int f/\(f=0↔j=0)/\j<2:=by
    match j,hx with
    |0,hx=>cases hx;exact⟨0,.inl rfl,rfl,by simp,by omega⟩
    |1,hx=>cases hx;exact⟨2,.inr rfl,rfl,by simp,by omega⟩
    |j+2,hx=>simp at hx
   obtain⟨f,hf,rfl,Ha,hj⟩:=hf;have Cr:=e2.trans e3;refine i8 ?_
   try show wpS _ _ _ _ _ _
   left;refine n9 (a8 (Cr.at ha)) (L4 kC) ?_;left;refine v9 (M6 hf _) ?_;left;refine v9 (M6 hf _) ?_;left;have fin:∀g4,Ex g3 g4->(decide (B3 f (bZ cs i)=B3 f (bZ cs p))&&!jY (sT f (bZ cs i)) (sT f (bZ cs p)))=false->(Ex g2 g4/\(1<=j+1->(decide ((bZ cs i).lo=(bZ cs p).lo)&&!jY (bZ cs i).lm (bZ cs p).lm)=false)/\(2<=j+1->(decide ((bZ cs i).up=(bZ cs p).up)&&!jY (bZ cs i).um (bZ cs p).um)=false)/\∃z7,([some (.ref a),some (.int v),some (.ref c),some (.ref hl),some (.int (p:Nat)),some (bZ cs p).d,some (.int (i:Nat)),some (.int f),none,none]:S)=[some (.ref a),some (.int v),some (.ref c),some (.ref hl),some (.int (p:Nat)),some (bZ cs p).d,some (.int (i:Nat)),z7,none,none]):=λg4 e4 hw=>by
    refine⟨e3.trans e4,λ_=>?_,λz=>?_,_,rfl⟩
    ·by_cases h0:j=0
     ·rw[Ha.mpr h0] at hw;exact hw
     ·exact q1 ()
    ·have:¬f=0:=λw=>by have:=Ha.mp w;omega
     have f2:f=2:=hf.resolve_left this;rw[f2] at hw;exact hw
   refine if2 (λh1=>?_) (λh1=>?_)
   ·left;refine n9 (a8 (Cr.at ha)) (L4 kC) ?_;left;refine v9 (Mn hf _) ?_;left;refine v9 (Mn hf _) ?_;left;refine aQ2 (k:=k) hT.BO ((OP i kC).Nz f) λg4 e4=>?_;left;cases hw:jY (sT f (bZ cs i)) (sT f (bZ cs p)) with
    |false =>
     left;have:mw (bZ cs i) (bZ cs p)=true:=by
      unfold mw;rcases hf with rfl|rfl
      ·rw[aw (show(bZ cs i).lo=(bZ cs p).lo from h1),show jY (bZ cs i).lm (bZ cs p).lm=false from hw];rfl
      ·rw[aw (show(bZ cs i).up=(bZ cs p).up from h1),show jY (bZ cs i).um (bZ cs p).um=false from hw];simp
     rw[UW vT hH this] at h;exact h _ (Cr.trans e4)
    |true =>
     left;exact fin g4 e4 (by rw[hw];simp)
   ·left;exact fin g3 (Ex.refl _) (by rw[aD h1];rfl)
  ·obtain⟨e3,q1,q2,z7,rfl⟩:=q
   try show wpS _ _ _ _ _ _
   try left
   refine⟨e2.trans e3,λi' jP=>?_,_,_,rfl⟩;rw[bQ,hi] at jP;rcases ba.mp jP with jP|jP
   ·exact q i' jP
   ·have:i'=i:=by simpa using jP
    subst this;unfold mw;rw[q1 ∅,q2 ∅]
    rfl
 ·obtain⟨e1,q,z6,z7,rfl⟩:=q;rw[c6,ag,bS] at q;have w1:K3 cs (kK H) p=false:=by
   unfold K3;rw[ze hH,List.any_eq_false];exact λi hi=>by rw[q i hi];decide
  try show wpS _ _ _ _ _ _
  refine zc ?_;left;refine v9 (Ea _) ?_;left;have vA:J6 cs (kK H) p=(decide (0<(bZ cs p).yr)&&H.any λi=>decide ((bZ cs p).yr<(bZ cs i).yr)):=by
   unfold J6;rw[ze hH,aW,aU,aR,aU];constructor
   ·rintro⟨i,h1,h2⟩;unfold kU at h2;rw[aR] at h2;exact⟨h2.1,i,h1,h2.2⟩
   ·rintro⟨h1,i,h2,h3⟩;exact⟨i,h2,by unfold kU;rw[h1,h3];rfl⟩
  refine if2 (λc1=>?_) (λc1=>?_)
  ·left;have e2:=e1.trans (Ex.snoc g' (O.lst [D.int 0]));have h2:=b0 (g:=g') (o:=O.lst [D.int 0]);generalize g'++[O.lst [D.int 0]]=g2 at *;generalize g'.length=z0 at *;refine comp_map (a9 T _) (λσ=>∃z1 z2,σ=[some (.ref a),z1,z2]) (λi=>.int (bZ cs (H.getD i 0)).yr) (l:=c6 H) (k:=.lst hl) (λg' e=>m8 (a8 ((e2.trans e).at hh))) (by simp[c6];omega) ⟨none,none,rfl⟩ (λi x σ g' hx e sh=>?_) (λg3 e3=>?_) (K6 (a9 T _) (a8 (e2.at hh)) λQ q=>w_var (d:=.ref hl) rfl q)
   ·obtain⟨z1,z2,rfl⟩:=sh;rw[c6,ak,ae] at hx;obtain⟨j,hj,rfl⟩:=hx;refine i8 ?_
    try show bh _ _ _ _ _ _
    left;refine n9 (a8 ((e2.trans e).at ha)) (L4 (hH j (aN hj))) ?_;left;refine v9 (Ea _) ?_;exact⟨by simp[List.getD,hj],e,_,_,rfl⟩
   have ey:(List.range (c6 H).length).map (λi=>D.int (bZ cs (H.getD i 0)).yr)=(H.map λi=>(bZ cs i).yr).map D.int:=by
    rw[bA];refine bW λi=>?_;rw[ak,ak];by_cases hi:i<H.length
    ·rw[bT (by simpa[c6] using hi),ao hi];simp[List.getD,hi]
    ·rw[aQ (by simpa[c6] using hi),aQ ()]
     rfl
   rw[ey];have e4:=e3.trans (Ex.snoc g3 (O.lst ((H.map λi=>(bZ cs i).yr).map D.int)));refine V1 (e4.at h2) b0 (by simp;omega) ?_;have e5:=e4.trans (Ex.snoc _ (O.lst ([D.int 0]++(H.map λi=>(bZ cs i).yr).map D.int)));obtain⟨M,m1,m2⟩:=JQ (ns:=0::H.map λi=>(bZ cs i).yr) (by simp);refine Xe (ns:=0::H.map λi=>(bZ cs i).yr) (a8 b0) m1 m2 ?_;left;refine v9 (Ea _) ?_;left;have em:decide ((bZ cs p).yr<M)=J6 cs (kK H) p:=by
    rw[vA,aw c1,kI,aW,dE,aU];constructor
    ·intro hM;rcases aH.mp m1 with rfl|hm
     ·omega
     ·obtain⟨i,hi,rfl⟩:=aL.mp hm;exact⟨i,hi,aw hM⟩
    ·rintro⟨i,hi,h1⟩;have:=m2 _ (bH _ (aL.mpr ⟨i,hi,rfl⟩));have:=bg h1;omega
   rw[em];cases w2:J6 cs (kK H) p with
   |true =>
    left;have:fault cs v rs (kK H) p="year":=by unfold fault;rw[aB (by rw[w1];decide),aK w2]
    rw[this] at h;exact h _ (e2.trans e5)
   |false =>
    refine gA rfl ?_;refine L5 ?_;have yK:=e2.trans e5;exact JR (k:=k) hT rfl (yK.at ha) hz (yK.at hc) hr (yK.at hh) hH sg hp w1 w2 λg6 e6=>h g6 (yK.trans e6)
  ·refine gA rfl ?_;refine L5 ?_;have w2:J6 cs (kK H) p=false:=by rw[vA,aD c1];rfl
   exact JR (k:=k) hT rfl (e1.at ha) hz (e1.at hc) hr (e1.at hh) hH sg hp w1 w2 λg6 e6=>h g6 (e1.trans e6)
end
def zM:bo:=⟨3,3,(.seq (.ret (.dM (bP (.cmp .NotEq) (.call 91 (dQ bq bC)) bq) (bP (.cmp .Is) (.call 101 (iD aM bq bC)) (.lit .cE)))) .pass)⟩
def DV:bo:=⟨2,2,(.seq (.ret (.comp [0,1] 4 (.one 3) (.fh (dA (.fld "size") aM)) (.fR (.call 115 (iD aM bq bN))) bN)) .pass)⟩
def zl:bo:=⟨2,2,(.seq (.ret (.comp [0] 3 (.one 2) (.fh bq) (eB .Eq (bP (.bin .Mod) (bP (.bin .FloorDiv) aM (dh (.prim .lst (.cons (aZ 1) (.cons (aZ 2) (Ce (aZ 4) (aZ 8) (aZ 16) (aZ 32) (aZ 64) (aZ 128) (aZ 256))))) bC)) (aZ 2)) (aZ 1)) bC)) .pass)⟩
def zi:bo:=⟨1,1,(.seq (.ret (dh (.prim .lst (.cons (aZ 1) (.cons (aZ 2) (.cons (aZ 4) (Ce (aZ 8) (aZ 16) (aZ 32) (aZ 64) (aZ 128) (aZ 256) (aZ 512)))))) aM)) .pass)⟩
def V7:bo:=⟨4,7,(.seq (.set 4 (.call 146 (dQ bN (dA .len aM)))) (.seq (.set 5 (.prim .lst .nil)) (.seq (.dX (.one 6) (.fh (dA .len aM)) (.seq (.ifs (.dM (eB .NotIn fM dj) (eB .Eq (.call 108 (uU aM bq bC dj fM)) (iS ""))) (.seq (.expr (.fJ .append fm (fN fM))) .pass) .pass) .pass)) (.seq (.ret fm) .pass))))⟩
def F1(cs:List b7)(v:Int)(rs:List gL)(s p:Nat):Bool:=!s.testBit p&&decide (fault cs v rs s.testBit p="")
def E1(cs:List b7)(v:Int)(rs:List gL)(s:Nat):List Nat:=(List.range cs.length).filter (F1 cs v rs s)
theorem a77(x:Str):O6 (yG x)=decide (x=""):=by
 unfold yG;by_cases h:x=""
 ·rw[aK h,aw h];rfl
 ·rw[aB h,aD h];rfl
theorem Xq{s:Nat}:decide (((s |||2 ^ p:Nat):Int)=(s:Nat))=s.testBit p:=by
 rw[aW,dE];constructor
 ·intro h;have h:s |||2 ^ p=s:=by omega
  have:=Y8 s p p;rw[h] at this;rw[this];simp
 ·intro h;have:s |||2 ^ p=s:=Nat.eq_of_testBit_eq λi=>by
   rw[Y8];by_cases hi:i=p
   ·subst hi;rw[h];rfl
   ·rw[aD hi,Bool.or_false]
  rw[this]
structure TF(T:Nat->Option bo):Prop where
 sA:T 115=some zM
 BW:T 116=some DV
section
variable{T:Nat->Option bo}{d:Nat}
theorem ZY(hT:TB0 T)(sA:T 115=some zM)(B:Bd g b cs v rs)(hz:cs.length<=9)(hr:rs.length<=900){s:Nat}(hs:s<2 ^ cs.length)(hp:p<cs.length)(h:∀g',Ex g g'->Q (.bl (F1 cs v rs s p)) g'):c5 T (k+4) 115 [.ref b,.int (s:Nat),.int (p:Nat)] g Q E:=by
 refine call_of sA rfl ?_;dsimp[zM,d0,List.replicate];left;refine R9 (k:=k+2) hT.wj () ?_;left;rw[Xq];cases hb:s.testBit p with
 |true =>
  refine gA rfl ?_;have:F1 cs v rs s p=false:=by unfold F1;rw[hb];rfl
  rw[this] at h;exact h _ (Ex.refl _)
 |false =>
  refine ij rfl ?_;left;refine Yq (k:=k) hT B hz hr hs hp λg1 e1=>?_;left;have:F1 cs v rs s p=O6 (yG (fault cs v rs s.testBit p)):=by unfold F1;rw[hb,a77];rfl
  rw[this] at h;exact h _ e1
theorem aE6(hT:TB0 T)(hF:TF T)(B:Bd g b cs v rs)(hz:cs.length<=9)(hr:rs.length<=900){s:Nat}(hs:s<2 ^ cs.length)(h:∀g' l,Ex g g'->g.length<=l->g'[l]?=some (.lst (c6 (E1 cs v rs s)))->Q (.ref l) g'):c5 T (k+5) 116 [.ref b,.int (s:Nat)] g Q E:=by
 refine call_of hF.BW rfl ?_;dsimp[DV,d0,List.replicate];obtain⟨w,l,dd,nb,h1,h2,h3,h4,h5⟩:=B.ex;left;refine A2 (a9 T _) (λσ=>∃z2 z3,σ=[some (.ref b),some (.int (s:Nat)),z2,z3]) (F1 cs v rs s) (λi=>.int (i:Nat)) (l:=j7 0 cs.length) (λg' e=>w6) (by rw[m9];omega) ⟨none,none,rfl⟩ (λi d σ g' hx e sh=>?_) (λg' e=>?_) (zY (a9 T _) (by omega:cs.length<=1000) λQ q=>?_)
 ·obtain⟨z2,z3,rfl⟩:=sh;obtain⟨hi,rfl⟩:=B7 hx;rw[jd];refine i8 ?_
  try show dD _ _ _ _ _ _
  left;refine ZY (k:=k) hT hF.sA (B.at e) hz hr hs hi λg2 e2=>?_;left;refine⟨rfl,e.trans e2,?_⟩;cases F1 cs v rs s i with
  |true =>
   refine ij rfl ?_;left;exact⟨rfl,e.trans e2,_,_,rfl⟩
  |false=>exact gA rfl ⟨_,_,rfl⟩
 ·rw[m9];exact h _ _ (e.trans (Ex.snoc _ _)) e.len b0
 ·left;exact qz h1 rfl q
def Ii:List D:=[.int 1,.int 2,.int 4,.int 8,.int 16,.int 32,.int 64,.int 128,.int 256]
theorem RG(hi:i<9):gF Ii (i:Int)=some (.int ((2 ^ i:Nat):Int)):=by
 have:i=0\/i=1\/i=2\/i=3\/i=4\/i=5\/i=6\/i=7\/i=8:=by omega
 rcases this with rfl|rfl|rfl|rfl|rfl|rfl|rfl|rfl|rfl<;>rfl
theorem zR(mQ:T 147=some zi)(hn:n<=9)(h:∀g',Ex g g'->Q (.int ((2 ^ n:Nat):Int)) g'):c5 T (k+1) 147 [.int (n:Nat)] g Q E:=by
 refine call_of mQ rfl ?_;dsimp[zi,d0,List.replicate];left;refine n9 (a8 b0) (d:=.int ((2 ^ n:Nat):Int)) ?_ (h _ (Ex.snoc _ _));have:n=0\/n=1\/n=2\/n=3\/n=4\/n=5\/n=6\/n=7\/n=8\/n=9:=by omega
 rcases this with rfl|rfl|rfl|rfl|rfl|rfl|rfl|rfl|rfl|rfl<;>rfl
theorem a23(sv:T 146=some zl){s:Nat}(hn:n<=9)(h:∀g' l,Ex g g'->g.length<=l->g'[l]?=some (.lst (c6 ((List.range n).filter s.testBit)))->Q (.ref l) g'):c5 T (k+1) 146 [.int (s:Nat),.int (n:Nat)] g Q E:=by
 refine call_of sv rfl ?_;dsimp[zl,d0,List.replicate];left;refine A2 (a9 T _) (λσ=>∃z1 z2,σ=[some (.int (s:Nat)),z1,z2]) s.testBit (λi=>.int (i:Nat)) (l:=j7 0 n) (λg' e=>w6) (by rw[m9];omega) ⟨none,none,rfl⟩ (λi d σ g' hx e sh=>?_) (λg' e=>?_) (zY (a9 T _) (by omega:n<=1000) λQ q=>w_var (d:=.int (n:Nat)) rfl q)
 ·obtain⟨z1,z2,rfl⟩:=sh;obtain⟨hi,rfl⟩:=B7 hx;rw[jd];refine i8 ?_
  try show dD _ _ _ _ _ _
  left;refine n9 (a8 b0) (RG (i:=i) ()) ?_;have hp:(0:Int)<((2 ^ i:Nat):Int):=by have:=kM (n:=i);omega
  have Bg:((2 ^ i:Nat):Int)<1073741824:=by
   have:=Ak (a:=2) () (show i<30 by omega);omega
  refine Ml hp Bg ?_;left;have eb:decide ((s:Int) / ((2 ^ i:Nat):Int) % 2=1)=s.testBit i:=by
   rw[Nat.testBit_eq_decide_div_mod_eq];refine iL.mpr ?_;rw[<- Int.natCast_ediv];omega
  have e2:=e.trans (Ex.snoc g' (O.lst Ii));rw[eb];refine⟨rfl,e2,?_⟩;cases s.testBit i with
  |true =>
   refine ij rfl ?_;left;exact⟨rfl,e2,_,_,rfl⟩
  |false=>exact gA rfl ⟨_,_,rfl⟩
 ·rw[m9];exact h _ _ (e.trans (Ex.snoc _ _)) e.len b0
structure Fp(T:Nat->Option bo):Prop where
 sv:T 146=some zl
 mQ:T 147=some zi
 BR:T 148=some V7
theorem Kq(hT:qK T)(wc:Fp T)(hB:∀c∈cs,CB c)(ha:g[a]?=some (.lst (cs.map b7.d)))(hz:cs.length<=9)(hc:g[c]?=some (.lst (v5 rs)))(hr:rs.length<=900){s:Nat}(h:∀g' l,Ex g g'->g.length<=l->g'[l]?=some (.lst (c6 (E1 cs v rs s)))->Q (.ref l) g'):c5 T (k+3) 148 [.ref a,.int v,.ref c,.int (s:Nat)] g Q E:=by
 refine call_of wc.BR rfl ?_;dsimp[V7,d0,List.replicate];left;rw[ag];refine a23 (k:=k+1) wc.sv hz λg1 hl e1 iG hh=>?_;left;have e2:=e1.trans (Ex.snoc g1 (O.lst []));have GY:=(Ex.snoc g1 (O.lst [])).at hh;have h2:=b0 (g:=g1) (o:=O.lst []);have l1:=n6 hh;have ge:g.length<=g1.length:=e1.len;generalize g1++[O.lst []]=g2 at *;generalize g1.length=fl at *;have hH:∀i∈(List.range cs.length).filter s.testBit,i<cs.length:=X7;have sg:((List.range cs.length).filter s.testBit).length<=50:=aF K8 ();have hS:∀i,i<cs.length->kK ((List.range cs.length).filter s.testBit) i=s.testBit i:=λi hi=>by
  rw[aW,dE,bR,bu];exact⟨λz=>z.2,λz=>⟨hi,z⟩⟩
 refine x8 (a9 T _) (qD (a9 T _) ?_);left;refine J5 (a8 (e2.at ha)) ?_;refine⟨_,rfl,by omega,by simp;omega,j7 0 cs.length,λi σ g'=>Ex g g'/\g'[hl]?=some (.lst (c6 ((List.range cs.length).filter s.testBit)))/\g'[fl]?=some (.lst (c6 ((List.range i).filter (F1 cs v rs s))))/\∃z6,σ=[some (.ref a),some (.int v),some (.ref c),some (.int (s:Nat)),some (.ref hl),some (.ref fl),z6],λ_ _ _ _=>by simp only[List.length_map,Int.toNat_natCast];exact w6,⟨e2,GY,h2,none,rfl⟩,λi x σ g' hx q=>?_,λσ g' q=>?_⟩
 ·obtain⟨e3,pC,h3,z6,rfl⟩:=q;obtain⟨hi,rfl⟩:=B7 hx;rw[jd];refine i8 ?_
  try show wpS _ _ _ _ _ _
  left;refine V0 (CZ pC ?_);left;have es:(List.range (i+1)).filter (F1 cs v rs s)=(List.range i).filter (F1 cs v rs s)++if F1 cs v rs s i=true then[i] else[]:=by
   rw[jm,fx]
   congr 1
   cases z:F1 cs v rs s i<;>simp only[List.filter_cons,z,List.filter_nil]<;>rfl
  have OG:decide (i∈(List.range cs.length).filter s.testBit)=s.testBit i:=hS i hi;rw[OG];cases hb:s.testBit i with
  |true =>
   refine gA rfl ?_;left;refine⟨e3,pC,?_,_,rfl⟩;rw[es,aB (by unfold F1;rw[hb];simp),dC];exact h3
  |false =>
   refine ij rfl ?_;left;refine Zh (k:=k) hT hB (e3.at ha) hz (e3.at hc) hr pC hH sg hi λg4 e4=>?_;rw[aI0 hS];left;have Hb:F1 cs v rs s i=decide (fault cs v rs s.testBit i=""):=by unfold F1;rw[hb];rfl
   refine if2 (λc1=>?_) (λc1=>?_)
   ·left;have h4:=e4.at h3
    try refine⟨xf h4,?_⟩
    left;refine sX h4 (by have:=@K8 i (F1 cs v rs s);simp[c6];omega) ?_;left;refine⟨⟨by simp;exact(e3.trans e4).len,λj hj=>by rw[aC ()];exact(e3.trans e4).old j hj⟩,d4 (e4.at pC) (),?_,_,rfl⟩;rw[get_set h4,es,aK (by rw[Hb];exact aw c1)];simp[c6]
   ·left;refine⟨e3.trans e4,e4.at pC,?_,_,rfl⟩;rw[es,aB (by rw[Hb,aD c1];decide),dC];exact e4.at h3
 ·obtain⟨e3,pC,h3,z6,rfl⟩:=q;rw[m9] at h3
  try show wpS _ _ _ _ _ _
  left;exact h _ _ e3 ge h3
end
def FG(n:Nat)(F:Nat->List Nat):Prop:=∀s p,p∈F s->p<n/\s.testBit p=false
inductive nr(F:Nat->List Nat):Nat->Prop
 |zero:nr F 0
 |step {s p:Nat} (h:nr F s) (hp:p∈F s):nr F (s |||2 ^ p)
theorem nr.lt{F:Nat->List Nat}(hF:FG n F){s:Nat}(h:nr F s):s<2 ^ n:=by
 induction h with
 |zero=>exact jl _
 |step h hp ih=>exact UU ih (hF _ _ hp).1
theorem zB(cs:List b7)(v:Int)(rs:List gL):FG cs.length (E1 cs v rs):=λs p hp=>by
 obtain⟨h1,h2⟩:=bR.mp hp;unfold F1 at h2;rw[aR,Bool.not_eq_true'] at h2;exact⟨bu.mp h1,h2.1⟩
noncomputable abbrev kN(j:Nat):Key:=.inl (j:Int)
theorem LY{c:Key}:u9 (putD kvs c x) c=some x:=by
 unfold u9 putD;by_cases h:(kvs.any λkv=>decide (kv.1=c))=true
 ·rw[aK h]
  induction kvs with
  |nil=>cases h
  |cons kv r ih =>
   rw[bw,fo];by_cases hk:kv.1=c
   ·rw[aK hk];simp[hk]
   ·rw[aB hk];simp only[hk,decide_false];refine ih ?_;rw[fV,eJ] at h;exact h.resolve_left (by simp[hk])
 ·rw[aB h,lH];have:kvs.find? (λkv=>decide (kv.1=c))=none:=by
   rw[kQ];exact λkv hk hc=>h (aU.mpr ⟨kv,hk,hc⟩)
  rw[this];simp
theorem ZA{c c':Key}(hn:c≠c'):u9 (putD kvs c x) c'=u9 kvs c':=by
 unfold u9 putD;by_cases h:(kvs.any λkv=>decide (kv.1=c))=true
 ·rw[aK h];clear h
  induction kvs with
  |nil=>rfl
  |cons kv r ih =>
   rw[bw,fo,fo];by_cases hk:kv.1=c
   ·rw[aK hk];have:kv.1≠c':=λz=>hn (hk.symm.trans z);simp only[this,decide_false];exact ih
   ·rw[aB hk];by_cases oI:kv.1=c'
    ·simp only[oI,decide_true]
    ·simp only[oI,decide_false];exact ih
 ·rw[aB h,lH];have:[(c,x)].find? (λkv=>decide (kv.1=c'))=none:=by simp[hn]
  rw[this];simp
theorem IM{i:Nat}(h:i≠j):kN i≠kN j:=λz=>h (by have:(i:Int)=j:=mW z;omega)
theorem Dh:∀{l m:List Nat},l.Nodup->(∀x∈l,x∈m)->l.length<=m.length
 |[],m,_,_=>cJ _
 |x::r,m,nd,h=>by
  rw[eG] at nd;have:=Dh (l:=r) (m:=m.erase x) nd.2 λy hy=>(List.mem_erase_of_ne λz=>nd.1 (by rw[<- z];exact hy)).mpr (h y (by simp[hy]));have hx:=h x (by simp);rw[List.length_erase_of_mem hx] at this;have:=jc hx;simp;omega
theorem Ih(h:n<=9):1<=2 ^ n/\2 ^ n<=512:=⟨kM,jR () h⟩
def zk:bo:=⟨3,9,(.seq (.set 3 (.prim .W6 .nil)) (.seq (.set 4 (dA .lst (aZ 0))) (.seq (.dX (.one 5) (.fh (bP (.bin .Add) (dA .len aM) (aZ 1))) (.seq (.set 6 (.prim .W6 .nil)) (.seq (.dX (.one 7) (.fi dj) (.seq (.fg bN gz (.call 148 (oA aM bq bC gz))) (.seq (.dX (.one 8) (.fi (dh bN gz)) (.seq (.fg fM (bP (.bin .Add) gz (.call 147 (fN kz))) (.lit (.bl true))) .pass)) .pass))) (.seq (.set 4 (dA .jZ (dA .list fM))) .pass)))) (.seq (.ret bN) .pass))))⟩
theorem Kw{s:Nat}(h:s.testBit p=false):s |||2 ^ p=s+2 ^ p:=by
 induction p generalizing s with
 |zero =>
  rw[Nat.testBit_zero,dP] at h;have h1:=Nat.or_div_two (a:=s) (b:=1);have h2:(s |||1) % 2=1:=xJ.mpr (.inr rfl);rw[show(1:Nat) / 2=0 from rfl,Nat.or_zero] at h1;show s |||1=s+1
  omega
 |succ p ih =>
  have h0:(s / 2).testBit p=false:=by rw[Nat.testBit_succ] at h;exact h
  have h1:=Nat.or_div_two (a:=s) (b:=2 ^ (p+1));have h2:=xJ (a:=s) (b:=2 ^ (p+1));have e:2 ^ (p+1)=2*2 ^ p:=by rw[uL,lC]
  rw[e,Nat.mul_div_cancel_left _ ∅,ih h0] at h1;rw[e] at h2 ⊢;omega
def Lay(F:Nat->List Nat):Nat->Nat->Prop
 |0,s=>s=0
 |i+1,s=>∃r p,Lay F i r/\p∈F r/\s=r |||2 ^ p
theorem Lay.rp{F:Nat->List Nat}:∀{i s:Nat},Lay F i s->nr F s
 |0,_,h=>by cases h;exact .zero
 |i+1,_,⟨r,p,h1,h2,h3⟩=>by rw[h3];exact .step h1.rp h2
theorem Up{F:Nat->List Nat}{s:Nat}(h:nr F s):∃i,Lay F i s:=by
 induction h with
 |zero=>exact⟨0,rfl⟩
 |step _ hp ih=>obtain⟨i,hi⟩:=ih;exact⟨i+1,_,_,hi,hp,rfl⟩
theorem Lay.bits{n:Nat}{F:Nat->List Nat}(hF:FG n F):∀{i s:Nat},Lay F i s->∃l:List Nat,l.Nodup/\l.length=i/\∀q∈l,s.testBit q=true/\q<n
 |0,s,_=>⟨[],oU,rfl,λq hq=>absurd hq mr⟩
 |i+1,s,⟨r,p,h1,h2,h3⟩=>by
  obtain⟨l,n1,n2,n3⟩:=h1.bits hF;obtain⟨p1,p2⟩:=hF r p h2;refine⟨p::l,eG.mpr ⟨λz=>?_,n1⟩,by simp[n2],λq hq=>?_⟩
  ·rw[(n3 p z).1] at p2;cases p2
  ·rw[h3,Y8];rcases aH.mp hq with rfl|hq
   ·exact⟨by simp,p1⟩
   ·exact⟨by rw[(n3 q hq).1];rfl,(n3 q hq).2⟩
theorem Lay.le{F:Nat->List Nat}(hF:FG n F){s:Nat}(h:Lay F i s):i<=n:=by
 obtain⟨l,n1,n2,n3⟩:=h.bits hF;have:=Dh (m:=List.range n) n1 λq hq=>bu.mpr (n3 q hq).2;rw[lG] at this;omega
def Ky(kvs:List (Key×D))(L:List Nat):Prop:=kvs.map (·.1)=L.map kN/\L.Nodup
theorem Ky.put(h:Ky kvs L)(j:Nat)(x:D):∃L',Ky (putD kvs (kN j) x) L'/\∀s,s∈L'↔s∈L\/s=j:=by
 obtain⟨h1,h2⟩:=h;have mO:(kvs.any λkv=>decide (kv.1=kN j))=true↔j∈L:=by
  rw[aU];constructor
  ·rintro⟨kv,m,e⟩;have e:=bg e;have:kv.1∈L.map kN:=by rw[<- h1];exact FH m
   obtain⟨i,hi,e2⟩:=aL.mp this;have:i=j:=Classical.byContradiction λz=>IM z (e2.trans e);rw[<- this];exact hi
  ·intro hj;have:kN j∈kvs.map (·.1):=by rw[h1];exact FH hj
   obtain⟨kv,m,e⟩:=aL.mp this;exact⟨kv,m,aw e⟩
 unfold putD;by_cases hj:j∈L
 ·rw[aK (mO.mpr hj)];refine⟨L,⟨?_,h2⟩,λs=>⟨.inl,λz=>z.elim id λe=>e▸hj⟩⟩;rw[bA,<- h1];refine gE λkv _=>?_;show(if kv.1=kN j then(kv.1,x) else kv).1=kv.1;split<;>rfl
 ·rw[aB λz=>hj (mO.mp z)];refine⟨L++[j],⟨by rw[da,da,h1];rfl,cY.mpr ⟨h2,by simp,λa ha b hb=>by simp at hb;subst hb;exact λe=>hj (e▸ha)⟩⟩,λs=>by simp⟩
theorem Ky.len(h:Ky kvs L):kvs.length=L.length:=by simpa using fY List.length h.1
theorem Ky.small(h:Ky kvs L)(hn:n<=9)(hL:∀s∈L,s<2 ^ n):kvs.length<=512:=by
 have h1:=Dh (m:=List.range (2 ^ n)) h.2 λq hq=>bu.mpr (hL q hq);have:=Ih hn;rw[h.len];simp at h1;omega
theorem Ky.keys(h:Ky kvs L):(kvs.map (·.1)).map kD=(L.map λj:Nat=>(j:Int)).map .int:=by
 rw[h.1,bA,bA];rfl
theorem IZ(hn:L.Nodup):∃S:List Nat,(K4 (L.map λj:Nat=>(j:Int))).map D.int=c6 S/\S.Pairwise (· < ·)/\(∀s,s∈S↔s∈L)/\S.length=L.length:=by
 have hp:=Z5 (L.map λj:Nat=>(j:Int));have hr:=JX (L.map λj:Nat=>(j:Int));generalize K4 (L.map λj:Nat=>(j:Int))=Z at *;have hZ:(Z.map Int.toNat).Perm L:=by
  have:=hp.map Int.toNat;rw[bA] at this;have e:(Int.toNat ∘ λj:Nat=>(j:Int))=id:=by funext j;simp
  rw[e,List.map_id] at this;exact this
 have hE:(Z.map Int.toNat).map (λj:Nat=>(j:Int))=Z:=by
  rw[bA];have:∀x∈Z,((λj:Nat=>(j:Int)) ∘ Int.toNat) x=x:=λx hx=>by
   obtain⟨j,_,rfl⟩:=aL.mp (hp.mem_iff.mp hx);simp
  rw[gE this,List.map_id']
 refine⟨Z.map Int.toNat,?_,?_,λs=>hZ.mem_iff,hZ.length_eq⟩
 ·rw[c6,<- hE,bA,bA,bA,hE];refine gE λx hx=>?_;obtain⟨j,_,rfl⟩:=aL.mp (hp.mem_iff.mp hx);simp
 ·have nd:(Z.map Int.toNat).Nodup:=hZ.nodup_iff.mpr hn;have h2:(Z.map Int.toNat).Pairwise (·<=·):=by
   rw[lF];exact hr.imp λh=>Int.toNat_le_toNat h
  exact(h2.and nd).imp λh=>Nat.lt_of_le_of_ne h.1 h.2
def lz(g:G)(t:Nat)(F:Nat->List Nat)(P:Nat->Prop):Prop:=∃kvs L,g[t]?=some (.dz kvs)/\Ky kvs L/\(∀s,s∈L↔P s)/\∀s,P s->∃l,u9 kvs (kN s)=some (.ref l)/\g[l]?=some (.lst (c6 (F s)))
theorem lz.at{g g':G}{t:Nat}{F:Nat->List Nat}{P:Nat->Prop}(h:lz g t F P)(e:Ex g g'):lz g' t F P:=by
 obtain⟨kvs,L,h1,h2,h3,h4⟩:=h;exact⟨kvs,L,e.at h1,h2,h3,λs hs=>by obtain⟨l,q1,q4⟩:=h4 s hs;exact⟨l,q1,e.at q4⟩⟩
theorem lz.cg{t:Nat}{F:Nat->List Nat}{P P':Nat->Prop}(h:lz g t F P)(e:∀s,P' s↔P s):lz g t F P':=by
 obtain⟨kvs,L,h1,h2,h3,h4⟩:=h;exact⟨kvs,L,h1,h2,λs=>(h3 s).trans (e s).symm,λs hs=>h4 s ((e s).mp hs)⟩
theorem sY(h1:g[i]?=some (.lst l))(h2:g[j]?=some (.dz kvs)):j≠i:=λe=>by rw[e,h1] at h2;cases h2
theorem lz.xX{t w:Nat}{F:Nat->List Nat}{P:Nat->Prop}{kw:List (Key×D)}(h:lz g t F P)(hw:g[w]?=some (.dz kw))(ne:w≠t):lz (g.set w o) t F P:=by
 obtain⟨kvs,L,h1,h2,h3,h4⟩:=h;exact⟨kvs,L,d4 h1 ne,h2,h3,λs hs=>by obtain⟨l,q1,q4⟩:=h4 s hs;exact⟨l,q1,d4 q4 (sY q4 hw)⟩⟩
theorem lz.put{g:G}{t l r:Nat}{F:Nat->List Nat}{P:Nat->Prop}{kvs:List (Key×D)}(h:lz g t F P)(hk:g[t]?=some (.dz kvs))(hl:g[l]?=some (.lst (c6 (F r)))):lz (g.set t (.dz (putD kvs (kN r) (.ref l)))) t F (λs=>P s\/s=r):=by
 obtain⟨jg,L,h1,h2,h3,h4⟩:=h;rw[hk] at h1;cases h1;obtain⟨L',k1,k2⟩:=h2.put r (.ref l);refine⟨_,L',get_set hk,k1,λs=>by rw[k2,h3],λs hs=>?_⟩;by_cases e:s=r
 ·subst e;exact⟨l,LY,d4 hl (sY hl hk)⟩
 ·obtain⟨l',q1,q2⟩:=h4 s (hs.resolve_right e);exact⟨l',by rw[ZA (IM λz=>e z.symm)];exact q1,d4 q2 (sY q2 hk)⟩
theorem take1{l:List α}{x:α}(h:l[i]?=some x)(y:α):y∈l.take (i+1)↔y∈l.take i\/y=x:=by
 rw[bQ,h];simp
theorem IF{x:Nat}(h:Ex g g')(hx:g.length<=x):Ex g (g'.set x o):=⟨by simp[h.len],λi hi=>by rw[aC ()];exact h.old i hi⟩
theorem N6(h:(c6 L)[i]?=some x):∃j,L[i]?=some j/\x=.int (j:Nat):=by
 rw[c6,ak,ae] at h;obtain⟨j,h1,h2⟩:=h;exact⟨j,h1,h2.symm⟩
section
variable{T:Nat->Option bo}{d:Nat}{r:Nat}
theorem a24(hT:qK T)(wc:Fp T)(su:T 149=some zk)(hB:∀c∈cs,CB c)(ha:g[a]?=some (.lst (cs.map b7.d)))(hz:cs.length<=9)(hc:g[c]?=some (.lst (v5 rs)))(hr:rs.length<=900)(h:∀g' t,Ex g g'->g.length<=t->lz g' t (E1 cs v rs) (nr (E1 cs v rs))->Q (.ref t) g'):c5 T (k+4) 149 [.ref a,.int v,.ref c] g Q E:=by
 refine call_of su rfl ?_;dsimp[zk,d0,List.replicate];have sj:=zB cs v rs;have p2:=Ih hz;left;have e1:=Ex.snoc g (O.dz []);have t1:=b0 (g:=g) (o:=O.dz []);generalize g++[O.dz []]=g1 at *;have l1:=n6 t1;left;have e2:=e1.trans (Ex.snoc g1 (O.lst [.int 0]));have t2:=(Ex.snoc g1 (O.lst [.int 0])).at t1;have f2:=b0 (g:=g1) (o:=O.lst [.int 0]);generalize g1++[O.lst [.int 0]]=g2 at *;generalize g1.length=f at *;refine x8 (a9 T _) (qD (a9 T _) ?_);left;refine J5 (a8 (e2.at ha)) ?_;left;rw[ag];generalize ON:E1 cs v rs=F at *;refine⟨by omega,by omega,j7 0 (cs.length+1),λi σ g'=>Ex g g'/\lz g' g.length F (λs=>∃j,j<i/\Lay F j s)/\∃fr Fr z5 z6 z7 z8,g'[fr]?=some (.lst (c6 Fr))/\g.length<=fr/\(∀s,s∈Fr↔Lay F i s)/\σ=[some (.ref a),some (.int v),some (.ref c),some (.ref g.length),some (.ref fr),z5,z6,z7,z8],λ_ _ _ _=>w6,⟨e2,⟨[],[],t2,⟨rfl,oU⟩,λs=>by simp,λs hs=>by obtain⟨j,hj,_⟩:=hs;omega⟩,f,[0],none,none,none,none,f2,by omega,λs=>by simp[Lay],rfl⟩,λi x σ g' hx q=>?_,λσ g' q=>?_⟩
 ·obtain⟨e3,T3,fr,Fr,z5,z6,z7,z8,F3,lf,qm,rfl⟩:=q;obtain⟨hi,rfl⟩:=B7 hx;refine i8 ?_
  try show wpS _ _ _ _ _ _
  left;have e4:=e3.trans (Ex.snoc g' (O.dz []));have T4:=T3.at (Ex.snoc g' (O.dz []));have F4:=(Ex.snoc g' (O.dz [])).at F3;have w4:=b0 (g:=g') (o:=O.dz []);have lw:=e3.len;have nt:g'.length≠g.length:=λe=>by obtain⟨_,_,q,_⟩:=T3;have:=n6 q;omega
  generalize g'++[O.dz []]=g4 at *;generalize g'.length=wd at *;refine x8 (a9 T _) (kY (a9 T _) ?_);left;refine⟨_,_,rfl,a8 F4,c6 Fr,λm σ g'=>Ex g g'/\g'[fr]?=some (.lst (c6 Fr))/\lz g' g.length F (λs=>(∃j,j<i/\Lay F j s)\/s∈Fr.take m)/\(∃kvs W,g'[wd]?=some (.dz kvs)/\Ky kvs W/\∀s,s∈W↔∃r∈Fr.take m,∃p∈F r,s=r |||2 ^ p)/\∃z7 z8,σ=[some (.ref a),some (.int v),some (.ref c),some (.ref g.length),some (.ref fr),some (.int ((0:Int)+(i:Nat))),some (.ref wd),z7,z8],λ_ _ _ q=>m8 (a8 q.2.1),⟨e4,F4,T4.cg λs=>by simp,⟨[],[],w4,⟨rfl,oU⟩,λs=>by simp⟩,z7,z8,rfl⟩,λm x σ g' hx q=>?_,λσ g' q=>?_⟩
  ·obtain⟨e5,F5,T5,⟨kvs,W,w5,k5,hW⟩,z7,z8,rfl⟩:=q;obtain⟨r,vN,rfl⟩:=N6 hx;refine i8 ?_
   try show wpS _ _ _ _ _ _
   left;refine Kq (k:=k) hT wc hB (e5.at ha) hz (e5.at hc) hr λg6 l e6 ll h6=>?_;rw[ON] at h6;have T6:=T5.at e6;obtain⟨kt,L6,vM,k6,OM,_⟩:=id T6;have dS:∀s,((∃j,j<i/\Lay F j s)\/s∈Fr.take m)->s<2 ^ cs.length:=λs hs=>by
    rcases hs with⟨j,_,hj⟩|hs
    ·exact hj.rp.lt sj
    ·exact((qm s).mp (cU hs)).rp.lt sj
   have hk6:=k6.small hz λs hs=>dS s ((OM s).mp hs);have NQ:nr F r:=((qm r).mp (aN vN)).rp;left;refine Er vM rfl () ?_;left;have T7:=T6.put vM h6;have h7:(g6.set g.length (.dz (putD kt (kN r) (.ref l))))[l]?=some (.lst (c6 (F r))):=d4 h6 (sY h6 vM);have v7:(g6.set g.length (.dz (putD kt (kN r) (.ref l))))[g.length]?=some (.dz (putD kt (kN r) (.ref l))):=get_set vM;have e7:Ex g (g6.set g.length (.dz (putD kt (kN r) (.ref l)))):=IF (e5.trans e6) (av _);have F7:(g6.set g.length (.dz (putD kt (kN r) (.ref l))))[fr]?=some (.lst (c6 Fr)):=d4 (e6.at F5) (sY (e6.at F5) vM);have w7:(g6.set g.length (.dz (putD kt (kN r) (.ref l))))[wd]?=some (.dz kvs):=d4 (e6.at w5) (cu nt);generalize g6.set g.length (.dz (putD kt (kN r) (.ref l)))=g7 at *;refine x8 (a9 T _) (kY (a9 T _) ?_);left;refine Vx v7 rfl LY ?_;refine⟨_,_,rfl,a8 h7,c6 (F r),λq σ g'=>Ex g g'/\g'[fr]?=some (.lst (c6 Fr))/\g'[l]?=some (.lst (c6 (F r)))/\lz g' g.length F (λs=>((∃j,j<i/\Lay F j s)\/s∈Fr.take m)\/s=r)/\(∃kvs W,g'[wd]?=some (.dz kvs)/\Ky kvs W/\∀s,s∈W↔(∃r∈Fr.take m,∃p∈F r,s=r |||2 ^ p)\/∃p∈(F r).take q,s=r |||2 ^ p)/\∃z8,σ=[some (.ref a),some (.int v),some (.ref c),some (.ref g.length),some (.ref fr),some (.int ((0:Int)+(i:Nat))),some (.ref wd),some (.int (r:Nat)),z8],λ_ _ _ q=>m8 (a8 q.2.2.1),⟨e7,F7,h7,T7,⟨kvs,W,w7,k5,λs=>by simp[hW]⟩,z8,rfl⟩,λq x σ g' hx q=>?_,λσ g' q=>?_⟩
   ·obtain⟨e8,F8,h8,T8,⟨GB,W8,w8,k8,yA⟩,z8,rfl⟩:=q;obtain⟨p,hp,rfl⟩:=N6 hx;have rQ:=sj r p (aN hp);refine i8 ?_
    try show wpS _ _ _ _ _ _
    left;refine zR (k:=k+2) wc.mQ () λg9 e9=>?_;left;have tS:=k8.small hz λs hs=>by
     rcases(yA s).mp hs with⟨r',fe,p',gn,e⟩|⟨p',gn,e⟩
     ·rw[e];exact(nr.step ((qm r').mp (cU fe)).rp gn).lt sj
     ·rw[e];exact(nr.step NQ (cU gn)).lt sj
    have es:((r:Nat):Int)+((2 ^ p:Nat):Int)=((r |||2 ^ p:Nat):Int):=by rw[Kw rQ.2];omega
    rw[es];refine Er (e9.at w8) rfl () ?_;left;obtain⟨W9,k9,OD⟩:=k8.put (r |||2 ^ p) (.bl true);refine⟨IF (e8.trans e9) lw,d4 (e9.at F8) (sY (e9.at F8) (e9.at w8)),d4 (e9.at h8) (sY (e9.at h8) (e9.at w8)),(T8.at e9).xX (e9.at w8) nt,⟨_,W9,get_set (e9.at w8),k9,λs=>?_⟩,_,rfl⟩;rw[OD,yA];constructor
    ·rintro((z|⟨p',gn,e⟩)|e)
     ·exact .inl z
     ·exact .inr ⟨p',(take1 hp p').mpr (.inl gn),e⟩
     ·exact .inr ⟨p,(take1 hp p).mpr (.inr rfl),e⟩
    ·rintro(z|⟨p',gn,e⟩)
     ·exact .inl (.inl z)
     ·rcases(take1 hp p').mp gn with z|rfl
      ·exact .inl (.inr ⟨p',z,e⟩)
      ·exact .inr e
   ·obtain⟨e8,F8,h8,T8,⟨GB,W8,w8,k8,yA⟩,z8,rfl⟩:=q
    try show wpS _ _ _ _ _ _
    left;refine⟨e8,F8,T8.cg λs=>?_,⟨GB,W8,w8,k8,λs=>?_⟩,_,_,rfl⟩
    ·rw[take1 vN];exact or_assoc.symm
    ·rw[yA,show(F r).take (c6 (F r)).length=F r from dg (by simp[c6])];constructor
     ·rintro(⟨r',fe,z⟩|z)
      ·exact⟨r',(take1 vN r').mpr (.inl fe),z⟩
      ·exact⟨r,(take1 vN r).mpr (.inr rfl),z⟩
     ·rintro⟨r',fe,z⟩;rcases(take1 vN r').mp fe with y|rfl
      ·exact .inl ⟨r',y,z⟩
      ·exact .inr z
  ·obtain⟨e5,F5,T5,⟨kvs,W,w5,k5,hW⟩,z7,z8,rfl⟩:=q;rw[show Fr.take (c6 Fr).length=Fr from dg (by simp[c6])] at T5 hW;have tS:=k5.small hz λs hs=>by
    obtain⟨r',fe,p',gn,e⟩:=(hW s).mp hs;rw[e];exact(nr.step ((qm r').mp fe).rp gn).lt sj
   try show wpS _ _ _ _ _ _
   left;refine IQ w5 () ?_;rw[k5.keys];have e6:=Ex.snoc g' (O.lst ((W.map λj:Nat=>(j:Int)).map .int));have h6:=b0 (g:=g') (o:=O.lst ((W.map λj:Nat=>(j:Int)).map .int));generalize g'++[O.lst ((W.map λj:Nat=>(j:Int)).map .int)]=g6 at *;refine Lf (a8 h6) (by rw[ag,<- k5.len];omega) ?_;obtain⟨S,s1,s2,s3,s4⟩:=IZ k5.2;rw[s1];left;refine⟨(e5.trans e6).trans (Ex.snoc _ _),((T5.at e6).at (Ex.snoc _ _)).cg λs=>?_,_,S,_,_,_,_,b0,(e5.trans e6).len,λs=>?_,rfl⟩
   ·rw[qm];constructor
    ·rintro⟨j,hj,z⟩;by_cases e:j=i
     ·subst e;exact .inr z
     ·exact .inl ⟨j,by omega,z⟩
    ·rintro(⟨j,hj,z⟩|z)
     ·exact⟨j,by omega,z⟩
     ·exact⟨i,by omega,z⟩
   ·rw[s3,hW];constructor
    ·rintro⟨r',fe,p',gn,e⟩;exact⟨r',p',(qm r').mp fe,gn,e⟩
    ·rintro⟨r',p',fe,gn,e⟩;exact⟨r',(qm r').mpr fe,p',gn,e⟩
 ·obtain⟨e3,T3,fr,Fr,z5,z6,z7,z8,F3,lf,qm,rfl⟩:=q
  try show wpS _ _ _ _ _ _
  left;refine h _ _ e3 (av _) (T3.cg λs=>⟨λz=>?_,λz=>?_⟩)
  ·obtain⟨i,hi⟩:=Up z;exact⟨i,by rw[m9];have:=hi.le sj;omega,hi⟩
  ·obtain⟨j,_,hj⟩:=z;exact hj.rp
end
def P7:bo:=⟨2,4,(.seq (.set 2 (aZ 0)) (.seq (.dX (.one 3) (.fi bq) (.seq (.ifs (.eR (.fR (.call 1 (iD bN bC (bP (.bin .Sub) (dA (.fld "full") aM) (aZ 1)))))) (.seq (.ret (.lit (.bl false))) .pass) .pass) (.seq (.set 2 (bP (.bin .Add) bN (aZ 1))) .pass))) (.seq (.ret (.dM (bP (.cmp .Gt) (dA .len bq) (aZ 0)) (bP (.cmp .Eq) (dh bq (aZ 0)) (aZ 0)))) .pass)))⟩
def DI:bo:=⟨2,5,(.seq (.set 2 (dA .nS bq)) (.seq (.dX (.one 3) (.fi bq) (.seq (.dX (.one 4) (.fi (.call 116 (dQ aM bN))) (.seq (.ifs (eB .NotIn (.call 91 (dQ bN dj)) bC) (.seq (.ret (.lit (.bl true))) .pass) .pass) .pass)) .pass)) (.seq (.ret (.lit (.bl false))) .pass)))⟩
def Eh:bo:=⟨4,5,(.seq (.set 4 (.call 99 (iD aM bq bC))) (.seq (.ret (.dM (.call 130 (dQ dj bN)) (.eR (.call 131 (dQ dj bN))))) .pass))⟩
def Ei:bo:=⟨1,1,(.seq (.ret (.dM (bP .isin aM (.lit (.ty "list"))) (dA .all (.comp [] 2 (.one 1) (.fi aM) .no (.call 6 (fN bq)))))) .pass)⟩
def Dt:bo:=⟨4,8,(.seq (.set 4 (bP (.bin .Sub) (.call 147 (fN (dA .len aM))) (aZ 1))) (.seq (.ifs (.jN (.eR (.fR (.call 86 (fN bN)))) (.jN (eB .NotEq bN (dA .sset bN)) (eB .NotIn (aZ 0) bN))) (.seq (.ret (.lit (.bl false))) .pass) .pass) (.seq (.ifs (.eR (.fR (dA .all (.comp [4] 3 (.one 2) (.fi bN) .no (.chain .LtE .Lt (aZ 0) bC aM))))) (.seq (.ret (.lit (.bl false))) .pass) .pass) (.seq (.set 6 (dA .lg (.comp [] 2 (.one 1) (.fi bN) .no (bP .tup bq (.lit (.bl true)))))) (.seq (.dX (.one 5) (.fi bN) (.seq (.dX (.one 7) (.fi (.call 148 (oA aM bq bC fm))) (.seq (.ifs (eB .NotIn (bP (.bin .Add) fm (.call 147 (fN gz))) fM) (.seq (.ret (.lit (.bl false))) .pass) .pass) .pass)) .pass)) (.seq (.ret (.lit (.bl true))) .pass))))))⟩
def DQ:bo:=⟨3,5,(.seq (.set 3 (.call 4 (dQ aM (aZ 12)))) (.seq (.set 4 (.call 4 (dQ aM (dA .len bq)))) (.seq (.ifs (eB .Eq bN (aZ 0)) (.seq (.ret (bP (.bin .Add) (bP (.lL false true) bq dj) (bP (.lL true false) bq (bP (.bin .Add) dj (aZ 1))))) .pass) .pass) (.seq (.ifs (eB .Eq bN (aZ 1)) (.seq (.ret (dA .sset (bP (.bin .Add) bq (dA .lst (.call 4 (dQ aM (bP (.bin .Add) bC (aZ 1)))))))) .pass) .pass) (.seq (.ifs (eB .Eq bN (aZ 2)) (.seq (.ret (bP (.bin .Add) (bP (.bin .Add) (bP (.lL false true) bq dj) (dA .lst (dh bq dj))) (bP (.lL true false) bq dj))) .pass) .pass) (.seq (.ifs (eB .Eq bN (aZ 3)) (.seq (.ret (dA .rev bq)) .pass) .pass) (.seq (.ifs (eB .Eq bN (aZ 4)) (.seq (.ret (bP (.bin .Add) bq (dA .lst (dh (.prim .lst (oA bC (bP (.bin .Add) bC (aZ 1)) (dA (.un .USub) (aZ 1)) (.call 5 (fN aM)))) (.call 4 (dQ aM (aZ 4))))))) .pass) .pass) (.seq (.ifs (eB .Eq bN (aZ 5)) (.seq (.ret (dA .jE bC)) .pass) .pass) (.seq (.ifs (eB .Eq bN (aZ 6)) (.seq (.ret (dh (.prim .lst (iD (.prim .lst .nil) (dA .lst (aZ 0)) (bP .lst (dA (.un .USub) (aZ 1)) (aZ 0)))) (.call 4 (dQ aM (aZ 3))))) .pass) .pass) (.seq (.ifs (eB .Eq bN (aZ 7)) (.seq (.ret (.comp [2] 3 (.one 2) (.fi bq) (eB .NotEq bC aM) bC)) .pass) .pass) (.seq (.ret bq) .pass)))))))))))⟩
def Fi:bo:=⟨1,11,(.seq (.set 1 (.call 3 (fN aM))) (.seq (.dX (.one 2) (.fh (aZ 2)) (.seq (.mE (.many [3,4,5]) (.call 110 (dQ bq (dh (bP .tup (aZ 8) (aZ 5)) bC)))) (.seq (.set 6 (bP (.bin .Sub) (.call 147 (fN (dA .len bN))) (aZ 1))) (.seq (.set 7 (dA .jZ (dA .list (.call 149 (iD bN dj fm))))) (.seq (.set 8 (.call 159 (iD bq gz fM))) (.seq (.set 9 (dA .list kz)) (.seq (.set 10 (.call 133 (oA bN dj fm vB))) (.seq (.ifs (.jN (eB .NotEq vB kz) (.eR (.fR (.call 7 (dQ nR (.call 158 (oA bN dj fm kz))))))) (.seq (.ret (.lit (.bl false))) .pass) .pass) .pass)))))))) (.seq (.ret (.lit (.bl true))) .pass)))⟩
structure tj(T:Nat->Option bo):Prop where
 tb:TB T
 lW:qK T
 tf:TF T
 va:Fp T
 h3:T 3=some yY
 h5:T 5=some uv
 h6:T 6=some zZ
 h7:T 7=some yX
 OZ:T 86=some Ei
 Pf:T 11=some Fi
 BV:T 130=some P7
 BU:T 131=some DI
 BS:T 133=some Eh
 su:T 149=some zk
 BQ:T 158=some Dt
 BP:T 159=some DQ
def rise(F:Int):Int->List Int->Bool
 |_,[]=>true
 |a,x::r=>(decide (a<=x)&&decide (x<=F-1))&&rise F (x+1) r
theorem Dx{F:Int}:∀{ns:List Int} {a:Int},rise F a ns=true↔ns.Pairwise (· < ·)/\∀x∈ns,a<=x/\x<=F-1
 |[],a=>by simp[rise]
 |x::r,a=>by
  unfold rise;rw[aR,aR,bE,bE,Dx,dy];constructor
  ·rintro⟨⟨h1,h2⟩,h3,h4⟩;refine⟨⟨λy hy=>by have:=h4 y hy;omega,h3⟩,λy hy=>?_⟩;rcases aH.mp hy with rfl|hy
   ·exact⟨h1,h2⟩
   ·have:=h4 y hy;exact⟨by omega,this.2⟩
  ·rintro⟨⟨h1,h2⟩,h3⟩;have hx:=h3 x (by simp);exact⟨hx,h2,λy hy=>⟨by have:=h1 y hy;omega,(h3 y (by simp[hy])).2⟩⟩
theorem JB{F:Int}:∀{l:List Int} {a x:Int},rise F a l=true->rise F a (l++[x])=(decide ((match l.getLast? with|some y=>y+1|none=>a)<=x)&&decide (x<=F-1))
 |[],a,x,_=>by
  show((decide (a<=x)&&decide (x<=F-1))&&true)=_;rw[Bool.and_true]
  rfl
 |z::r,a,x,h=>by
  unfold rise at h;rw[aR] at h;rw[List.cons_append];unfold rise;rw[h.1,kI,JB h.2];cases r with
  |nil=>rfl
  |cons w r =>
   obtain⟨y,hy⟩:∃y,(w::r).getLast?=some y:=⟨_,List.getLast?_eq_some_getLast (by simp)⟩
   rw[List.getLast?_cons_cons,hy]
theorem JD:ns=o8 ns↔ns.Pairwise (· < ·):=by
 constructor
 ·intro h;have h1:=Z4 ns;have h2:=Du ns;rw[<- h] at h1 h2;exact(h1.and h2).imp λz=>by have:=z.1;have:=z.2;omega
 ·intro h;refine(U3 ((M4 _).trans ?_) (Z4 _) (h.imp λz=>by omega)).symm;rw[Kj (ks:=[]) (by rw[nB];exact h.imp λz e=>by omega)];exact gO _
structure tm(n:Nat)(ns:List Int):Prop where
 pw:ns.Pairwise (· < ·)
 b:∀x∈ns,0<=x/\x<(2 ^ n:Nat)-1
 z:(0:Int)∈ns
theorem tm.nat(h:tm n ns):∃L:List Nat,ns=L.map (λj:Nat=>(j:Int))/\L.Pairwise (· < ·)/\0∈L/\∀s∈L,s<2 ^ n-1:=by
 have e:ns=(ns.map Int.toNat).map λj:Nat=>(j:Int):=by
  rw[bA]
  conv=>lhs;rw[<- List.map_id ns]
  exact gE λx hx=>by have:=h.b x hx;simp;omega
 refine⟨ns.map Int.toNat,e,?_,aL.mpr ⟨0,h.z,rfl⟩,λs hs=>?_⟩
 ·rw[lF];exact List.Pairwise.imp_of_mem (λhx hy z=>by have:=h.b _ hx;have:=h.b _ hy;omega) h.pw
 ·obtain⟨x,hx,rfl⟩:=aL.mp hs;have:=h.b x hx;omega
def jM(cs:List b7)(v:Int)(rs:List gL)(L:List Nat):Prop:=∀s∈L,∀p∈E1 cs v rs s,s+2 ^ p∈L
def nu(cs:List b7)(v:Int)(rs:List gL)(ns:List Int):Prop:=∃L:List Nat,ns=L.map (λj:Nat=>(j:Int))/\tm cs.length ns/\jM cs v rs L
theorem nu.yn{q:Bool}(hq:q=true↔nu cs v rs ns)(h:∀g',Ex g g'->Q (.bl q) g'):(nu cs v rs ns->∀g',Ex g g'->Q (.bl true) g')/\(¬nu cs v rs ns->∀g',Ex g g'->Q (.bl false) g'):=by
 cases q
 ·exact⟨λz=>absurd (hq.mpr z) ∅,λ_=>h⟩
 ·exact⟨λ_=>h,λz=>absurd (hq.mp rfl) z⟩
theorem nu.cls(z:nu cs v rs ns)(eL:ns=L.map (λj:Nat=>(j:Int))):jM cs v rs L:=by
 obtain⟨L',Qa,_,y⟩:=z;have:L'=L:=MJ (λx y z=>by omega) |>.mp (Qa.symm.trans eL)
 rw[<- this];exact y
section
variable{T:Nat->Option bo}{d:Nat}{l r w:Nat}{q:Bool}
theorem Df(f:Int->β)(ns:List Int):(List.range (ns.map D.int).length).map (λi=>f (ns.getD i 0))=ns.map f:=by
 refine bW λi=>?_;rw[ak,ak,ag];by_cases hi:i<ns.length
 ·rw[bT hi,ao hi];simp[List.getD,hi]
 ·rw[aQ (by simpa using hi),aQ ()]
  rfl
def nU(cs:List b7)(x:Int):Bool:=decide (0<=x)&&decide (x<(2 ^ cs.length:Nat)-1)
theorem Ma(ha:g[a]?=some (.lst (ns.map .int))):rd g 6 (.ref a)=some (.list (ns.map PyData.int)):=by
 simp only[rd];rw[a8 ha];dsimp only;rw[L3]
 rfl
theorem LJ(ha:g[a]?=some (.lst (ns.map .int)))(hb:g[b]?=some (.lst (ms.map .int)))(h:kb (decide (ns=ms))):sJ g (.ref a) (.ref b) kb:=by
 refine⟨_,.inr (.inr (.inr ⟨_,_,Ma ha,Ma hb,?_,?_,rfl⟩)),?_⟩
 ·simp only[PyData.canLay0];exact lay_ints ns
 ·simp only[PyData.canLay0];exact lay_ints ms
 ·simp only[PyData.eqv];rw[W5];exact h
theorem O1(_:Ex g (g++[o])):(g++[o])[g.length]?=some o:=b0
theorem a64(hT:tj T)(hl:g[l]?=some (.lst (ns.map .int)))(hz:ns.length<=1000)(h:∀g',Ex g g'->Q (.bl true) g'):c5 T (k+2) 86 [.ref l] g Q E:=by
 refine call_of hT.OZ rfl ?_;dsimp[Ei,d0,List.replicate];left;refine rK (c:="list") (b:=true) ∅ (show(match g[l]? with|some (.lst _)=>some ("list"=="list")|_=>none)=some true by rw[hl];rfl) ?_;left;refine comp_map (a9 T _) (λσ=>∃z0 z1,σ=[z0,z1]) (λ_=>.bl true) (l:=ns.map .int) (k:=.lst l) (λg' e=>m8 (a8 (e.at hl))) (by simpa using hz) ⟨none,none,rfl⟩ (λi x σ g' hx e sh=>?_) (λg' e=>?_) (K6 (a9 T _) (a8 hl) λQ q=>w_var (d:=.ref l) rfl q)
 ·obtain⟨z0,z1,rfl⟩:=sh;rw[ak,ae] at hx;obtain⟨j,_,rfl⟩:=hx;refine i8 ?_
  try show bh _ _ _ _ _ _
  left;exact QX hT.h6 ⟨rfl,e,_,_,rfl⟩
 ·refine yP (v:=true) (a8 b0) ?_ (h _ (e.trans (Ex.snoc _ _)));rw[Df λ_=>D.bl true,show ns.map (λ_=>D.bl true)=(ns.map λ_=>true).map D.bl by simp,V2];simp
theorem aH7(hT:tj T)(hB:∀c∈cs,CB c)(ha:g[a]?=some (.lst (cs.map b7.d)))(hz:cs.length<=9)(hc:g[c]?=some (.lst (v5 rs)))(hr:rs.length<=900)(hl:g[l]?=some (.lst (ns.map .int)))(hL:ns.length<=590)(hq:q=true↔nu cs v rs ns)(h:∀g',Ex g g'->Q (.bl q) g'):c5 T (k+5) 158 [.ref a,.int v,.ref c,.ref l] g Q E:=by
 have pos:=jl cs.length;obtain⟨hy,hn⟩:=nu.yn hq h;have no:∀g',Ex g g'->¬tm cs.length ns->Q (.bl false) g':=λg' e z=>hn (λw=>by obtain⟨_,_,y,_⟩:=w;exact z y) g' e;have li:(ns.map D.int).length=ns.length:=by simp
 refine call_of hT.BQ rfl ?_;dsimp[Dt,d0,List.replicate];left;rw[ag];refine zR (k:=k+3) hT.va.mQ hz λg1 e1=>?_;left;refine a64 (k:=k+2) hT (e1.at hl) () λg2 e2=>?_;have uh:=e1.trans e2;left;have jO:=uh.at hl;refine ES (a8 jO) () ?_;have x3:=Ex.snoc g2 (O.lst ((o8 ns).map .int));have s3:=O1 x3;have tR:=x3.at jO;have Cs:=uh.trans x3;generalize g2++[_]=g3 at *;left;refine zV (LJ tR s3 ?_);left;by_cases hp:ns=o8 ns
 case neg =>
  refine ij (by rw[aD hp];rfl) ?_;refine ni ?_;left;exact no _ Cs λz=>hp (JD.mpr z.pw)
 refine gA (by rw[aw hp];rfl) ?_;left;refine V0 (P6 (a8 tR) ?_);left;have an:(ns.any λm=>m==0)=decide ((0:Int)∈ns):=by
  rw[aW,aU,bE];exact⟨λ⟨x,hx,e⟩=>by rw[<- bz.mp e];exact hx,λz=>⟨0,z,by simp⟩⟩
 rw[an];by_cases h0:(0:Int)∈ns
 case neg =>
  refine ij (by rw[aD h0];rfl) ?_;left;exact no _ Cs λz=>h0 z.z
 refine gA (by rw[aw h0];rfl) ?_;left;refine comp_map (a9 T _) (λσ=>∃z1 z2,σ=[some (.int (((2 ^ cs.length:Nat):Int)-1)),z1,z2]) (λi=>.bl (nU cs (ns.getD i 0))) (l:=ns.map .int) (k:=.lst l) (λg' e=>m8 (a8 (e.at tR))) () ⟨none,none,rfl⟩ (λi x σ g' hx e sh=>?_) (λg4 e4=>?_) (K6 (a9 T _) (a8 tR) λQ q=>w_var (d:=.ref l) rfl q)
 ·obtain⟨z1,z2,rfl⟩:=sh;rw[ak,ae] at hx;obtain⟨j,hj,rfl⟩:=hx;have gd:ns.getD i 0=j:=by simp[List.getD,hj]
  refine i8 ?_
  try show bh _ _ _ _ _ _
  left;rw[gd,nU];by_cases c1:0<=j
  ·refine ij (aw c1) ?_;left;exact⟨by rw[aw c1];rfl,e,_,_,rfl⟩
  ·refine gA (aD c1) ?_;exact⟨by rw[aD c1];rfl,e,_,_,rfl⟩
 have ea:=Df (λx=>D.bl (nU cs x)) ns;rw[show ns.map (λx=>D.bl (nU cs x))=(ns.map (nU cs)).map D.bl by rw[bA];rfl] at ea;rw[ea];refine yP (v:=ns.all (nU cs)) (a8 b0) (by rw[V2,List.all_map];rfl) ?_;have e5:=Cs.trans (e4.trans (Ex.snoc g4 (O.lst ((ns.map (nU cs)).map D.bl))));generalize g4++[_]=g5 at *;left;cases jU:ns.all (nU cs) with
 |false =>
  refine ij rfl ?_;left;refine no _ e5 λz=>?_;have:ns.all (nU cs)=true:=cw.mpr λx hx=>by
   have:=z.b x hx;rw[nU,aw (),aw ()]
   rfl
  rw[jU] at this;cases this
 |true =>
 refine gA rfl ?_;have S:tm cs.length ns:=⟨JD.mp hp,λx hx=>by
  have:=cw.mp jU x hx;rw[nU,aR,bE,bE] at this;omega,h0⟩
 obtain⟨L,eL,pw,_,dS⟩:=S.nat;have OL:L.length=ns.length:=by rw[eL];simp
 left;have ym:=e5.at hl;refine comp_map (a9 T _) (λσ=>∃z0 z1,σ=[z0,z1]) (λi=>.tup [.int (ns.getD i 0),.bl true]) (l:=ns.map .int) (k:=.lst l) (λg' e=>m8 (a8 (e.at ym))) () ⟨none,none,rfl⟩ (λi x σ g' hx e sh=>?_) (λg6 e6=>?_) (K6 (a9 T _) (a8 ym) λQ q=>w_var (d:=.ref l) rfl q)
 ·obtain⟨z0,z1,rfl⟩:=sh;rw[ak,ae] at hx;obtain⟨j,hj,rfl⟩:=hx;refine i8 ?_
  try show bh _ _ _ _ _ _
  left;exact⟨by simp[List.getD,hj],e,_,_,rfl⟩
 rw[Df (λk=>D.tup [.int k,.bl true])];refine TV (a8 b0) () (S.pw.imp λz e=>by omega) ?_;have e7:=e5.trans (e6.trans ((Ex.snoc g6 (O.lst (ns.map λk=>.tup [.int k,.bl true]))).trans (Ex.snoc _ (O.dz (ns.map λk=>(.inl k,.bl true))))));have d7:=b0 (g:=g6++[O.lst (ns.map λk=>.tup [.int k,.bl true])]) (o:=O.dz (ns.map λk=>(.inl k,.bl true)));generalize (g6++[O.lst (ns.map λk=>.tup [.int k,.bl true])]).length=dd at *;generalize (g6++[O.lst (ns.map λk=>.tup [.int k,.bl true])])++[O.dz (ns.map λk=>(.inl k,.bl true))]=g7 at *;have inD:∀s:Nat,(u9 (ns.map λk=>((.inl k:Key),D.bl true)) (.inl (s:Nat))).isSome=decide (s∈L):=λs=>by
  unfold u9;rw[hV,aW,List.find?_isSome,bE];constructor
  ·rintro⟨x,hx,e⟩;obtain⟨j,hj,rfl⟩:=aL.mp hx;have:j=(s:Nat):=mW (bg e);subst this;rw[eL] at hj;obtain⟨i,hi,e⟩:=aL.mp hj;rw[show s=i by omega];exact hi
  ·exact λhs=>⟨(.inl ((s:Nat):Int),.bl true),aL.mpr ⟨_,by rw[eL];exact aL.mpr ⟨s,hs,rfl⟩,rfl⟩,aw rfl⟩
 left;have yk:g7[l]?=some (.lst (c6 L)):=by rw[K7,<- eL];exact e7.at hl
 refine x8 (a9 T _) (kY (a9 T _) ?_);left;refine⟨l,_,rfl,a8 yk,c6 L,λi σ g'=>Ex g7 g'/\(∃z5 z7,σ=[some (.ref a),some (.int v),some (.ref c),some (.ref l),some (.int (((2 ^ cs.length:Nat):Int)-1)),z5,some (.ref dd),z7])/\∀s∈L.take i,∀p∈E1 cs v rs s,s+2 ^ p∈L,λi σ g' q=>m8 (a8 (q.1.at yk)),⟨Ex.refl _,⟨_,_,rfl⟩,λs hs=>by simp at hs⟩,λi x σ g8 hx q=>?_,λσ g8 q=>?_⟩
 ·obtain⟨e8,⟨z5,z7,rfl⟩,dn⟩:=q;obtain⟨s,hs,rfl⟩:=N6 hx;have yg:=aN hs;refine i8 ?_
  try show wpS _ _ _ _ _ _
  left;refine x8 (a9 T _) (kY (a9 T _) ?_);left;have Cq:=e7.trans e8;refine Kq (k:=k+1) hT.lW hT.va hB (Cq.at ha) hz (Cq.at hc) hr λg9 f e9 hf9 h9=>?_;refine⟨f,_,rfl,a8 h9,c6 (E1 cs v rs s),λj σ g'=>Ex g9 g'/\(∃z7,σ=[some (.ref a),some (.int v),some (.ref c),some (.ref l),some (.int (((2 ^ cs.length:Nat):Int)-1)),some (.int (s:Nat)),some (.ref dd),z7])/\∀p∈(E1 cs v rs s).take j,s+2 ^ p∈L,λj σ g' q=>m8 (a8 (q.1.at h9)),⟨Ex.refl _,⟨_,rfl⟩,λp hp=>by simp at hp⟩,λj x σ wz hx q=>?_,λσ wz q=>?_⟩
  ·obtain⟨lS,⟨z7,rfl⟩,pL⟩:=q;obtain⟨p,hp,rfl⟩:=N6 hx;have rQ:=aN hp;have NU:=(zB cs v rs s p rQ).1;refine i8 ?_
   try show wpS _ _ _ _ _ _
   left;refine zR (k:=k+3) hT.va.mQ () λPw wD=>?_;left;rw[show((s:Nat):Int)+((2 ^ p:Nat):Int)=((s+2 ^ p:Nat):Int) by omega];refine V0 ⟨_,.inl ⟨_,_,_,rfl,((e8.trans e9).trans (lS.trans wD)).at d7,rfl,rfl⟩,?_⟩;rw[inD];left;by_cases kC:s+2 ^ p∈L
   ·refine gA (by rw[aw kC];rfl) ?_;left;refine⟨lS.trans wD,⟨_,rfl⟩,λp' gn=>?_⟩;rcases(take1 hp p').mp gn with z|rfl
    ·exact pL p' z
    ·exact kC
   ·refine ij (by rw[aD kC];rfl) ?_;left;exact hn (λz=>kC (z.cls eL s yg p rQ)) _ (Cq.trans (e9.trans (lS.trans wD)))
  ·obtain⟨lS,⟨z7,rfl⟩,pL⟩:=q
   try show wpS _ _ _ _ _ _
   refine⟨e8.trans (e9.trans lS),⟨_,_,rfl⟩,λs' jq=>?_⟩;rcases(take1 hs s').mp jq with z|rfl
   ·exact dn s' z
   ·rw[show(E1 cs v rs s').take (c6 (E1 cs v rs s')).length=E1 cs v rs s' by simp[c6]] at pL;exact pL
 ·obtain⟨e8,⟨z5,z7,rfl⟩,dn⟩:=q;rw[show L.take (c6 L).length=L by simp[c6]] at dn
  try show wpS _ _ _ _ _ _
  left;exact hy ⟨L,eL,S,dn⟩ _ (e7.trans e8)
theorem ZD(hT:tj T)(B:Bd g b cs v rs)(hl:g[l]?=some (.lst (ns.map .int)))(h1:tm cs.length ns->Q (.bl true) g)(h2:¬tm cs.length ns->Q (.bl false) g):c5 T (k+3) 130 [.ref b,.ref l] g Q E:=by
 have pos:=jl cs.length;obtain⟨w0,l0,dd,nb,f1,f2,f3,f4,f5⟩:=B.ex;refine call_of hT.BV rfl ?_;dsimp[P7,d0,List.replicate];left;refine x8 (a9 T _) (kY (a9 T _) ?_);left;have fu:((2 ^ cs.length-1:Nat):Int)=((2 ^ cs.length:Nat):Int)-1:=by omega
 refine⟨l,_,rfl,a8 hl,ns.map .int,λi σ g'=>g'=g/\(∃z3 t,σ=[some (.ref b),some (.ref l),some (.int t),z3]/\t=(match(ns.take i).getLast? with|some y=>y+1|none=>0))/\rise ((2 ^ cs.length:Nat)-1) 0 (ns.take i)=true,λi σ g' q=>m8 (a8 (by rw[q.1];exact hl)),⟨rfl,⟨none,0,rfl,by simp⟩,by simp[rise]⟩,λi x σ g' hx q=>?_,λσ g' q=>?_⟩
 ·obtain⟨rfl,⟨z3,t,rfl,ht⟩,rj⟩:=q;rw[ak,ae] at hx;obtain⟨j,hj,rfl⟩:=hx;have tk:ns.take (i+1)=ns.take i++[j]:=by rw[bQ,hj];rfl
  refine i8 ?_
  try show wpS _ _ _ _ _ _
  left;refine qz f1 rfl ?_;left;refine A7 (k:=k) hT.tb.nf ?_;left;have rn:=JB (F:=(2 ^ cs.length:Nat)-1) (x:=j) rj;rw[<- tk,<- ht] at rn;rw[fu];by_cases hc:(decide (t<=j)&&decide (j<=((2 ^ cs.length:Nat):Int)-1-1))=true
  ·refine gA (by rw[hc];rfl) ?_;left;refine⟨rfl,⟨_,_,rfl,?_⟩,rn.trans hc⟩;rw[tk];simp
  ·refine ij (by rw[Bool.eq_false_iff.mpr hc];rfl) ?_;left;exact h2 λS=>hc (rn.symm.trans (Dx.mpr ⟨S.pw.sublist (lD _ _),λx hx=>by have:=S.b x (cU hx);omega⟩))
 ·obtain⟨rfl,⟨z3,t,rfl,_⟩,rj⟩:=q;rw[ag,bS] at rj;obtain⟨pw,bb⟩:=Dx.mp rj;have bd:∀x∈ns,0<=x/\x<(2 ^ cs.length:Nat)-1:=λx hx=>by have:=bb x hx;omega
  try show wpS _ _ _ _ _ _
  left;rw[ag];cases ns with
  |nil =>
   refine gA (by simp) ?_;exact h2 λS=>by have:=S.z;cases this
  |cons y r =>
   refine ij (aw (by simp)) ?_;left;refine n9 (d:=.int y) (a8 hl) (J9 (j:=0) rfl) ?_;left;by_cases hy:y=0
   ·have:=h1 ⟨pw,bd,by simp[hy]⟩;rw[aw hy];exact this
   ·have:=h2 λS=>by
     rcases aH.mp S.z with z|z
     ·exact hy z.symm
     ·have:=(dy.mp pw).1 0 z;have:=(bd y (by simp)).1;omega
    rw[aD hy];exact this
theorem QJ(hT:tj T)(B:Bd g b cs v rs)(hz:cs.length<=9)(hr:rs.length<=900)(hl:g[l]?=some (.lst (c6 L)))(hL:L.length<=590)(dS:∀s∈L,s<2 ^ cs.length-1)(h1:jM cs v rs L->∀g',Ex g g'->Q (.bl false) g')(h2:¬jM cs v rs L->∀g',Ex g g'->Q (.bl true) g'):c5 T (k+7) 131 [.ref b,.ref l] g Q E:=by
 refine call_of hT.BU rfl ?_;dsimp[DI,d0,List.replicate];left;have GV:=hl;rw[K7] at GV;refine Ro (a8 GV) (by simp;omega) ?_;have e1:=Ex.snoc g (O.set (λk=>decide (k∈L.map λj:Nat=>(j:Int))) (ST.i0 [] (L.map λj:Nat=>(j:Int))).length);have s1:=O1 e1;generalize g++[_]=g1 at *;generalize g.length=sd at *;have B1:=B.at e1;have iG:=e1.at hl;left;refine x8 (a9 T _) (kY (a9 T _) ?_);left;refine⟨l,_,rfl,a8 iG,c6 L,λi σ g'=>Ex g1 g'/\(∃z3 z4,σ=[some (.ref b),some (.ref l),some (.ref sd),z3,z4])/\∀s∈L.take i,∀p∈E1 cs v rs s,s+2 ^ p∈L,λi σ g' q=>m8 (a8 (q.1.at iG)),⟨Ex.refl _,⟨_,_,rfl⟩,λs hs=>by simp at hs⟩,λi x σ g2 hx q=>?_,λσ g2 q=>?_⟩
 ·obtain⟨e2,⟨z3,z4,rfl⟩,dn⟩:=q;obtain⟨s,hs,rfl⟩:=N6 hx;have yg:=aN hs;have gI:=dS s yg;refine i8 ?_
  try show wpS _ _ _ _ _ _
  left;refine x8 (a9 T _) (kY (a9 T _) ?_);left;refine aE6 (k:=k+1) hT.tb.toTB0 hT.tf (B1.at e2) hz hr () λg3 f e3 hf h3=>?_;refine⟨f,_,rfl,a8 h3,c6 (E1 cs v rs s),λj σ g'=>Ex g3 g'/\(∃z4,σ=[some (.ref b),some (.ref l),some (.ref sd),some (.int (s:Nat)),z4])/\∀p∈(E1 cs v rs s).take j,s+2 ^ p∈L,λj σ g' q=>m8 (a8 (q.1.at h3)),⟨Ex.refl _,⟨_,rfl⟩,λp hp=>by simp at hp⟩,λj x σ g4 hx q=>?_,λσ g4 q=>?_⟩
  ·obtain⟨e4,⟨z4,rfl⟩,pL⟩:=q;obtain⟨p,hp,rfl⟩:=N6 hx;have rQ:=aN hp;obtain⟨NU,NS⟩:=zB cs v rs s p rQ;refine i8 ?_
   try show wpS _ _ _ _ _ _
   left;refine R9 (k:=k+5) hT.tb.wj () ?_;left;rw[Kw NS];refine Qp ((e2.trans (e3.trans e4)).at s1) ?_;left;have em:decide (((s+2 ^ p:Nat):Int)∈L.map λj:Nat=>(j:Int))=decide (s+2 ^ p∈L):=iL.mpr ⟨λz=>by obtain⟨i,hi,e⟩:=aL.mp z;rw[show s+2 ^ p=i by omega];exact hi,λz=>aL.mpr ⟨_,z,rfl⟩⟩;rw[em];by_cases kC:s+2 ^ p∈L
   ·refine gA (by rw[aw kC];rfl) ?_;left;refine⟨e4,⟨_,rfl⟩,λp' gn=>?_⟩;rcases(take1 hp p').mp gn with z|rfl
    ·exact pL p' z
    ·exact kC
   ·refine ij (by rw[aD kC];rfl) ?_;left;exact h2 (λy=>kC (y s yg p rQ)) _ (e1.trans (e2.trans (e3.trans e4)))
  ·obtain⟨e4,⟨z4,rfl⟩,pL⟩:=q
   try show wpS _ _ _ _ _ _
   refine⟨e2.trans (e3.trans e4),⟨_,_,rfl⟩,λs' jq=>?_⟩;rcases(take1 hs s').mp jq with z|rfl
   ·exact dn s' z
   ·rw[show(E1 cs v rs s').take (c6 (E1 cs v rs s')).length=E1 cs v rs s' by simp[c6]] at pL;exact pL
 ·obtain⟨e2,⟨z3,z4,rfl⟩,dn⟩:=q;rw[show L.take (c6 L).length=L by simp[c6]] at dn
  try show wpS _ _ _ _ _ _
  left;exact h1 dn _ (e1.trans e2)
theorem Te(hT:tj T)(ha:g[a]?=some (.lst (cs.map b7.d)))(hz:cs.length<=9)(hg:cs.all u6=true)(hB:∀c∈cs,CB c)(hv:1<=v/\v<=9)(hc:g[c]?=some (.lst (v5 rs)))(hr:rs.length<=900)(hR:rs.all (w9 cs)=true)(hl:g[l]?=some (.lst (ns.map .int)))(hL:ns.length<=590)(hq:q=true↔nu cs v rs ns)(h:∀g',Ex g g'->Q (.bl q) g'):c5 T (k+12) 133 [.ref a,.int v,.ref c,.ref l] g Q E:=by
 obtain⟨hy,hn⟩:=nu.yn hq h;refine call_of hT.BS rfl ?_;dsimp[Eh,d0,List.replicate];left;refine aI5 (k:=k+1) hT.tb ha hz hg hB hv hc hr hR λg1 b e1 _ B1=>?_;left;refine ZD (k:=k+8) hT B1 (e1.at hl) (λS=>?_) (λS=>?_)
 ·left;obtain⟨L,eL,pw,_,dS⟩:=S.nat;have OL:L.length=ns.length:=by rw[eL];simp
  refine QJ (k:=k+4) (L:=L) hT B1 hz hr (by rw[K7,<- eL];exact e1.at hl) () dS (λC g2 e2=>?_) (λC g2 e2=>?_)
  ·left;exact hy ⟨L,eL,S,C⟩ _ (e1.trans e2)
  ·left;exact hn (λz=>C (z.cls eL)) _ (e1.trans e2)
 ·left;exact hn (λw=>by obtain⟨_,_,y,_⟩:=w;exact S y) _ e1
theorem KR(f:α->β)(l:List α)(r:Int):gF (l.map f) r=(gF l r).map f:=by
 unfold gF;rw[ag];cases lO l.length r with
 |none=>rfl
 |some j=>exact ak
theorem Mp{l:List α}{r:Int}(h0:0<=r):(cut l none (some r)).length<=r.toNat:=by
 unfold cut HT.dW;dsimp only;rw[aB (),cv];exact aF (nz _ _) (aF (Nat.sub_le _ _) (nz _ _))
theorem LH{l:List α}{r:Int}(h0:0<=r):(cut l (some r) none).length<=l.length-r.toNat:=by
 unfold cut HT.dW;dsimp only;rw[aB (),cv];refine aF (nz _ _) ?_;show l.length-min r.toNat l.length<=_;omega
theorem a94(hT:tj T){e:Int}(e0:0<=e)(e1:e<=511)(hl:g[l]?=some (.lst (ns.map .int)))(h1:1<=ns.length)(h2:ns.length<=512)(D0:i9 g d)(hd:l≠d)(h:∀(ms:List Int) r g',ms.length<=590->r≠d->i9 g' d->Gr d g g'->g'[r]?=some (.lst (ms.map .int))->Q (.ref r) g'):c5 T (k+3) 159 [.ref d,.ref l,.int e] g Q E:=by
 have h4:=hT.lW.toTBR.lf.pull;have dl:=D0.lt;have new:∀(ms:List Int) g',ms.length<=590->i9 g' d->Gr d g g'->Q (.ref g'.length) (g'++[.lst (ms.map .int)]):=λms g' hm D' G'=>h ms _ _ hm (by have:=G'.len;omega) ((Ex.snoc _ _).draw D') (G'.trans ((Ex.snoc _ _).gr d)) b0;refine call_of hT.BP rfl ?_;dsimp[DQ,d0,List.replicate];left;refine f7 (k:=k+1) h4 D0 ∅ ∅ λway g1 _ _ D1 G1=>?_;have iG:=G1.at hd hl;left
 try refine J5 (a8 iG) ?_
 try rw[ag]
 try left
 refine f7 (k:=k+1) h4 D1 () () λat' g2 a0 a1 D2 G2=>?_;have lp:=G1.trans G2;have jO:=G2.at hd iG;clear iG;left;refine if2 (λ_=>?_) (λ_=>?_)
 ·left;refine zp (a8 jO) ?_;left;refine KJ (a8 ((Ex.snoc _ _).at jO)) ?_;left;have c1:=Mp (l:=ns) a0;have c2:=LH (l:=ns) (r:=at'+1) ();rw[zv,zv];refine V1 ((Ex.snoc _ _).at b0) b0 (by simp;omega) ?_;rw[<- da];exact new _ _ (by simp;omega) (((Ex.snoc _ _).trans (Ex.snoc _ _)).draw D2) (lp.trans (((Ex.snoc _ _).trans (Ex.snoc _ _)).gr d))
 left;refine if2 (λ_=>?_) (λ_=>?_)
 ·left;refine f7 (k:=k+1) h4 D2 () () λr g3 _ _ D3 G3=>?_;have tR:=G3.at hd jO;left;have x1:=Ex.snoc g3 (O.lst [D.int r]);refine V1 (x1.at tR) b0 (by simp;omega) ?_;left;have x2:=x1.trans (Ex.snoc (g3++[O.lst [D.int r]]) (O.lst (ns.map D.int++[D.int r])));refine ES (ns:=ns++[r]) (a8 (by rw[da];exact b0)) (by simp;omega) ?_;have c1:=O8 (ns++[r]);exact new _ _ (by simp at c1;omega) (x2.draw D3) ((lp.trans G3).trans (x2.gr d))
 left;refine if2 (λ_=>?_) (λ_=>?_)
 ·left;refine zp (a8 jO) ?_;left;obtain⟨y,hy,_⟩:=E3 (l:=ns) a0 (by simpa using a1);refine n9 (d:=.int y) (a8 ((Ex.snoc _ _).at jO)) (by rw[KR,hy];rfl) ?_;left;have c1:=Mp (l:=ns) a0;have c2:=LH (l:=ns) a0;rw[zv];refine V1 ((Ex.snoc _ _).at b0) b0 (by simp;omega) ?_;left;refine KJ (a8 (((Ex.snoc _ _).trans ((Ex.snoc _ _).trans (Ex.snoc _ _))).at jO)) ?_;left;rw[zv];refine V1 ((Ex.snoc _ _).at b0) b0 (by simp;omega) ?_;have em:(cut ns none (some at')).map D.int++[D.int y]++(cut ns (some at') none).map D.int=(cut ns none (some at')++[y]++cut ns (some at') none).map D.int:=by simp
  rw[em];exact new _ _ (by simp;omega) (((Ex.snoc _ _).trans ((Ex.snoc _ _).trans ((Ex.snoc _ _).trans (Ex.snoc _ _)))).draw D2) (lp.trans (((Ex.snoc _ _).trans ((Ex.snoc _ _).trans ((Ex.snoc _ _).trans (Ex.snoc _ _)))).gr d))
 left;refine if2 (λ_=>?_) (λ_=>?_)
 ·left;refine XF (a8 jO) ?_;rw[<- List.map_reverse];exact new _ _ (by simp;omega) D2 lp
 left;refine if2 (λ_=>?_) (λ_=>?_)
 ·left;refine Qv (k:=k) h4 hT.h5 D2 λf g3 D3 G3=>?_;left;have x1:=Ex.snoc g3 (O.lst [D.int e,D.int (e+1),D.int (-1),D.int f]);have s1:=O1 x1;have D4:=x1.draw D3;have G4:=(lp.trans G3).trans (x1.gr d);have Oe:=x1.at (G3.at hd jO);have n4:g3.length≠d:=by have:=(lp.trans G3).len;omega
  generalize g3++[_]=g4 at *;generalize g3.length=u at *;refine f7 (k:=k+1) h4 D4 ∅ ∅ λr g5 r0 r1 D5 G5=>?_;obtain⟨y,hy,hm⟩:=E3 (l:=[e,e+1,-1,f]) r0 (by simpa using r1);refine n9 (d:=.int y) (a8 (G5.at n4 s1)) (by rw[show[D.int e,D.int (e+1),D.int (-1),D.int f]=[e,e+1,-1,f].map D.int from rfl,KR,hy];rfl) ?_;left;have x2:=Ex.snoc g5 (O.lst [D.int y]);refine V1 (x2.at (G5.at hd Oe)) b0 (by simp;omega) ?_;rw[show ns.map D.int++[D.int y]=(ns++[y]).map D.int by simp];exact new _ _ (by simp;omega) (x2.draw D5) ((G4.trans G5).trans (x2.gr d))
 left;refine if2 (λ_=>?_) (λ_=>?_)
 ·left;refine AR () () ?_;rw[show j7 0 e.toNat=((List.range e.toNat).map λk:Nat=>(0+k:Int)).map D.int by simp[j7]];exact new _ _ (by simp;omega) D2 lp
 left;refine if2 (λ_=>?_) (λ_=>?_)
 ·left;have x1:=Ex.snoc g2 (O.lst []);have s1:=O1 x1;have n1:g2.length≠d:=by have:=lp.len;omega
  have l1:=x1.len;generalize g2++[_]=g3 at *;have x2:=Ex.snoc g3 (O.lst [D.int 0]);have s2:=O1 x2;have n2:g3.length≠d:=by have:=lp.len;omega
  have l2:=x2.len;generalize g3++[_]=g4 at *;have x3:=Ex.snoc g4 (O.lst [D.int (-1),D.int 0]);have s3:=O1 x3;have n3:g4.length≠d:=by have:=lp.len;omega
  have l3:=x3.len;generalize g4++[_]=g5 at *;have n4:g5.length≠d:=by have:=lp.len;omega
  generalize g2.length=u1 at *;generalize g3.length=u2 at *;generalize g4.length=u3 at *;have x4:=Ex.snoc g5 (O.lst [D.ref u1,D.ref u2,D.ref u3]);have s4:=O1 x4;generalize g5++[_]=g6 at *;generalize g5.length=u4 at *;have tG:=x1.trans (x2.trans (x3.trans x4));refine f7 (k:=k+1) h4 (tG.draw D2) ∅ ∅ λr g7 r0 r1 D7 G7=>?_;have Fv:=(lp.trans (tG.gr d)).trans G7;have:r=0\/r=1\/r=2:=by omega
  rcases this with rfl|rfl|rfl
  ·refine n9 (d:=.ref u1) (a8 (G7.at n4 s4)) rfl ?_;exact h [] _ _ ∅ n1 D7 Fv (G7.at n1 ((x2.trans (x3.trans x4)).at s1))
  ·refine n9 (d:=.ref u2) (a8 (G7.at n4 s4)) rfl ?_;exact h [0] _ _ ∅ n2 D7 Fv (G7.at n2 ((x3.trans x4).at s2))
  ·refine n9 (d:=.ref u3) (a8 (G7.at n4 s4)) rfl ?_;exact h [-1,0] _ _ ∅ n3 D7 Fv (G7.at n3 (x4.at s3))
 left;refine if2 (λ_=>?_) (λ_=>?_)
 ·left;refine A2 (a9 T _) (λσ=>∃z1 z2,σ=[some (.int e),z1,z2]) (λi=>!decide (ns.getD i 0=e)) (λi=>.int (ns.getD i 0)) (l:=ns.map .int) (k:=.lst l) (λg' x=>m8 (a8 (x.at jO))) (by simp;omega) ⟨none,none,rfl⟩ (λi x σ g' hx ex sh=>?_) (λg' x=>?_) (K6 (a9 T _) (a8 jO) λQ q=>w_var (d:=.ref l) rfl q)
  ·obtain⟨z1,z2,rfl⟩:=sh;rw[ak,ae] at hx;obtain⟨j,hj,rfl⟩:=hx;have gd:ns.getD i 0=j:=by simp[List.getD,hj]
   refine i8 ?_
   try show dD _ _ _ _ _ _
   left;rw[gd];refine⟨rfl,ex,?_⟩;split
   ·left;exact⟨rfl,ex,_,_,rfl⟩
   ·exact⟨_,_,rfl⟩
  ·rw[show((List.range (ns.map D.int).length).filter λi=>!decide (ns.getD i 0=e)).map (λi=>D.int (ns.getD i 0))=(((List.range ns.length).filter λi=>!decide (ns.getD i 0=e)).map λi=>ns.getD i 0).map D.int by rw[bA,ag];rfl];exact new _ _ (by rw[ag];exact aF (fQ _ _) (by simp;omega)) (x.draw D2) (lp.trans (x.gr d))
 left;exact h ns l g2 () hd D2 lp jO
theorem a73(hT:tj T):c5 T (k+16) 11 [.ref 0] [.pE (ns.map .int)] (λd _=>d=.bl true) ki:=by
 refine call_of hT.Pf rfl ?_;dsimp[Fi,d0,List.replicate];left;refine TU (k:=k+14) hT.h3 (a:=0) (ns:=ns) rfl λd g D0 _ _=>?_;left;refine ZO (n:=2) ∅ (λi σ g=>i9 g d/\∃z2 z3 z4 z5 z6 z7 z8 z9 Ap,σ=[some (.ref 0),some (.ref d),z2,z3,z4,z5,z6,z7,z8,z9,Ap]) ⟨D0,none,none,none,none,none,none,none,none,none,rfl⟩ (λi σ g hi p=>?_) (λσ g p=>?_)
 ·obtain⟨D1,z2,z3,z4,z5,z6,z7,z8,z9,Ap,rfl⟩:=p;have dl:=D1.lt
  try show wpS _ _ _ _ _ _
  left;have hn:∃n:Int,gF [D.int 8,D.int 5] (i:Int)=some (.int n)/\0<=n/\n<=9:=by
   have:i=0\/i=1:=by omega
   rcases this with rfl|rfl
   ·exact⟨8,rfl,by decide,by decide⟩
   ·exact⟨5,rfl,by decide,by decide⟩
  obtain⟨n,hn,n1,n2⟩:=hn;refine v9 hn ?_;left;refine a44 (k:=k+10) hT.lW hT.lW.sC ⟨n1,n2⟩ D1 λcs rs a c v g2 hl hG ha yx hr hR hc kf hac v1 v2 D2 G2=>?_;refine C3 rfl ?_
  try show wpS _ _ _ _ _ _
  have hz:cs.length<=9:=by omega
  have hB:∀c∈cs,CB c:=λc hc=>⟨(hG c hc).l8,(hG c hc).u8⟩
  have hg:cs.all u6=true:=cw.mpr λc hc=>(hG c hc).good;have pos:=jl cs.length;have p9:2 ^ cs.length<=512:=jR (n:=2) ∅ hz;left;rw[ag];refine zR (k:=k+14) hT.va.mQ hz λg3 e3=>?_;left;refine a24 (k:=k+11) (v:=v) hT.lW hT.va hT.su hB (e3.at ha) hz (e3.at hc) () λg4 t e4 _ T4=>?_;obtain⟨kvs,M,t4,k4,hM,_⟩:=T4;have tS:=k4.small hz λs hs=>((hM s).mp hs).lt (zB cs v rs);have Of:1<=M.length:=by
   have:=(hM 0).mpr .zero;cases M
   ·cases this
   ·simp
  have hML:=k4.len;left;refine IQ t4 () ?_;rw[k4.keys];have e5:=Ex.snoc g4 (O.lst ((M.map λj:Nat=>(j:Int)).map .int));have h5:=O1 e5;generalize g4++[_]=g5 at *;have e5:=(e3.trans e4).trans e5;refine Lf (a8 h5) (by rw[ag];omega) ?_;obtain⟨S,s1,s2,s3,s4⟩:=IZ k4.2;rw[s1,K7];have e6:=Ex.snoc g5 (O.lst ((S.map λi:Nat=>(i:Int)).map D.int));have h6:=O1 e6;have nd:g5.length≠d:=by have:=e5.len;have:=G2.len;omega
  generalize g5++[_]=g6 at *;have e6:=e5.trans e6;generalize g5.length=du at *;left;refine a94 (k:=k+12) hT () () h6 (by simp;omega) (by simp;omega) (e6.draw D2) nd λms r g7 hm _ D7 G7 h7=>?_;have a7:=G7.at () (e6.at ha);have c7:=G7.at () (e6.at hc);left
  try refine Eg (a8 h7) ?_
  try left
  have e8:=Ex.snoc g7 (O.lst (ms.map .int));have h8:=O1 e8;generalize g7++[_]=g8 at *;generalize g7.length=hh at *;have D8:=e8.draw D7;obtain⟨q,hq⟩:∃q:Bool,q=true↔nu cs v rs ms:=by classical exact⟨decide (nu cs v rs ms),by simp⟩
  refine Te (k:=k+3) hT (e8.at a7) hz hg hB ⟨v1,by omega⟩ (e8.at c7) () hR h8 () hq λg9 e9=>?_;left;refine zV (LJ (e9.at h8) ((e8.trans e9).at h7) ?_);left;refine gA (by rw[aw rfl];rfl) ?_;left;refine aH7 (k:=k+10) hT hB ((e8.trans e9).at a7) hz ((e8.trans e9).at c7) () ((e8.trans e9).at h7) () hq λwz lS=>?_;left;refine Tv (k:=k+14) hT.h7 ?_;rw[show(q==q)=true by cases q<;>rfl];left;exact⟨(e9.trans lS).draw D8,_,_,_,_,_,_,_,_,_,rfl⟩
 ·obtain⟨_,z2,z3,z4,z5,z6,z7,z8,z9,Ap,rfl⟩:=p
  try show wpS _ _ _ _ _ _
  left
  rfl
end
end M
namespace Lk
open PySem L2 M
def top(i:Nat):Stmt:=PySem.Challenge.pw_trussel_k22_papers_judged.main.body.getD i (.Pass ⟨0,0,0,0⟩)
def Tg:Stmt->List Stmt
 |.ClassDef (body:=b) ..=>b
 |_=>[]
def Ig(i j:Nat):Stmt:=(Tg (top i)).getD j (.Pass ⟨0,0,0,0⟩)
def F:List RF:=[⟨38,"is_number",["thing"],1,9,DH⟩,⟨1,"number_from",["number","least","most"],3,10,V6⟩,⟨2,"good_marks",["marks","least","spot"],1,11,I9⟩,⟨15,"within",["one","other"],2,12,zE⟩,⟨12,"good_coin",["coin","lower","lower_marks","upper","upper_marks","year","good_lower","good_upper"],1,19,B9⟩,⟨39,"check_coin",["coin"],1,20,DS⟩,⟨18,"check_coins",["coins","coin"],1,21,V9⟩,⟨40,"check_side",["side"],1,22,Q7⟩,⟨19,"die_field",["side"],1,23,DF⟩,⟨74,"places_of",["coins","word","thing","field"],3,24,U6⟩,⟨20,"dies_of",["coins","side","field"],2,25,De⟩,⟨42,"check_anvils",["anvils"],1,30,F2⟩,⟨88,"good_rule",["coins","rule","word","one","other"],2,31,DG⟩,⟨89,"check_rules",["coins","rules","at","rule"],2,32,V8⟩,⟨90,"stand_of",["places"],1,33,zO⟩,⟨91,"with_coin",["stand","place"],2,34,U5⟩,⟨92,"more_worn",["one","other","side","field"],2,35,DJ⟩,⟨93,"later",["one","other"],2,36,EM⟩,⟨94,"worn_stands",["coins"],1,37,V5⟩,⟨95,"later_stands",["coins"],1,38,S6⟩,⟨96,"die_stands",["coins"],1,39,DT⟩,⟨97,"needed_stands",["coins","rules","needed","word","one","other","first","place"],2,40,P8⟩,⟨98,"check_asked",["coins","anvils","rules"],3,42,O4⟩,⟨99,"bounds_of",["coins","anvils","rules"],3,43,DE⟩,⟨100,"dies_in_use",["bounds","stand","place","struck","left"],3,44,DU⟩,⟨101,"next_fault",["bounds","stand","place"],3,45,DW⟩,⟨115,"follows",["bounds","stand","place"],3,47,zM⟩,⟨116,"followers",["bounds","stand"],2,48,DV⟩,⟨130,"rising_stands",["bounds","stands","least","stand"],2,50,P7⟩,⟨131,"led_out_of",["bounds","stands","known","stand","place"],2,51,DI⟩,⟨133,"bars",["coins","anvils","rules","stands","bounds"],4,52,Eh⟩,⟨3,"_law_open",["_law_script"],1,54,yY⟩,⟨4,"_law_pull",["_law_draw","_law_total_of","_law_cell","_law_got","_law_seed"],2,55,C8⟩,⟨5,"_law_far",["_law_draw","_law_number"],1,56,uv⟩,⟨6,"_law_num",["_law_found"],1,57,zZ⟩,⟨86,"_law_nums",["_law_found"],1,58,Ei⟩,⟨7,"_law_like",["_law_found","_law_due"],2,59,yX⟩,⟨21,"_law_order_of",["_law_draw","_law_numbers","_law_left","_law_found","_law_step"],2,60,S5⟩,⟨17,"_law_within",["_law_one","_law_other"],2,61,zN⟩,⟨22,"_law_any_coin",["_law_draw","_law_menu","_law_lower","_law_upper","_law_year"],1,62,zL⟩,⟨23,"_law_seated",["_law_draw","_law_seats","_law_fresh","_law_anvils"],4,63,I0⟩,⟨24,"_law_struck",["_law_draw","_law_size","_law_anvils","_law_seats","_law_fresh","_law_worn","_law_year","_law_step","_law_wear","_law_shift","_law_found","_law_k","_law_keys","_law_key","_law_spot","_law_named","_law_told_year"],3,64,H9⟩,⟨25,"_law_opened",["_law_draw","_law_size","_law_dies","_law_row","_law_held","_law_found","_law_k","_law_year"],2,65,zD⟩,⟨26,"_law_list",["_law_draw","_law_most","_law_size","_law_anvils","_law_way","_law_found","_law_at","_law_coin","_law_other"],2,66,Q6⟩,⟨105,"_law_rule",["_law_draw","_law_coins","_law_word","_law_some","_law_at"],2,67,uD⟩,⟨106,"_law_rules",["_law_draw","_law_coins","_law_found","_law_k","_law_rule_here"],2,68,EN⟩,⟨107,"_law_rule_kept",["_law_coins","_law_ahead","_law_place","_law_rule_here","_law_word","_law_one","_law_other","_law_at"],4,69,DK⟩,⟨108,"_law_fault",["_law_coins","_law_anvils","_law_rules_here","_law_ahead","_law_place","_law_coin","_law_there_here","_law_at","_law_here","_law_later"],5,70,xc⟩,⟨146,"_law_there",["_law_stand","_law_size"],2,71,zl⟩,⟨147,"_law_power",["_law_place"],1,72,zi⟩,⟨148,"_law_following",["_law_coins","_law_anvils","_law_rules_here","_law_stand","_law_there_here","_law_found","_law_place"],4,73,V7⟩,⟨149,"_law_table",["_law_coins","_law_anvils","_law_rules_here","_law_table_here","_law_front","_law_step","_law_wider","_law_stand","_law_place"],3,74,zk⟩,⟨158,"_law_paper_ok",["_law_coins","_law_anvils","_law_rules_here","_law_stands","_law_end","_law_stand","_law_there_here","_law_place"],4,75,Dt⟩,⟨110,"_law_ready",["_law_draw","_law_most","_law_coins","_law_anvils"],2,76,zj⟩,⟨159,"_law_bent_paper",["_law_draw","_law_stands","_law_end","_law_way","_law_at"],3,77,DQ⟩,⟨11,"law",["_law_script","_law_draw","_law_turn","_law_coins","_law_anvils","_law_rules_here","_law_end","_law_stands","_law_row","_law_handed","_law_found"],1,78,Fi⟩]
def Ms:List RM:=[⟨113,"Bounds","__init__","Bounds.__init__",["self","coins","anvils","rules"],4,41,0,W0⟩]
def con:List (Str×D):=[("LAST_SPOT",.int 7),("MOST_COINS",.int 9),("LAST_DIE",.int 99),("LAST_YEAR",.int 9999),("SIDES",.tup [(.str "lower"),(.str "upper")]),("MOST_ANVILS",.int 9),("RULE_WORDS",.tup [(.str "coin"),(.str "lower"),(.str "upper")]),("YEAR_FIELD",.int 4)]
def gd:List (Str×List D):=[("DIE_FIELDS",[.tup [.str "lower",.int 0],.tup [.str "upper",.int 2]])]
def exc:List Str:=["BadAnvils","BadCoin","BadRule","BadSide","TooMany"]
def c0:i7:=⟨[],[],true,F.map λr=>(r.nm,r.id),con,["len","enumerate","list","tuple","isinstance","all","range","int","bool","str","max","min","sorted","set","dict","sum"],exc,gd,[("Bounds",113)],Ms.map λr=>(r.nm,r.cl,r.id),[("size","Bounds"),("full","Bounds"),("room","Bounds"),("worn_by_place","Bounds"),("later_by_place","Bounds"),("lower_dies","Bounds"),("needed_by_place","Bounds")],true,true⟩
noncomputable abbrev T:Nat->Option bo:=uw F Ms
theorem tx:ml c0 F Ms top Ig:=by
 refine⟨rfl,rfl,by decide +kernel,by decide +kernel,by decide +kernel,by decide +kernel,?_,?_,?_,?_⟩
 all_goals
  repeat first
   |exact BF.nil
   |exact BM.nil
   |exact YF.nil
   |exact YM.nil
   |refine YF.cons (by kernel_rfl) ?_
   |refine YM.cons (by kernel_rfl) ?_
   |refine BF.cons (λ_ _ _ _ _ _=>(by(repeat refine FP λ_=>?_);exact FO rfl)) ?_
   |refine BM.cons (λ_ _ _ _ _ _=>(by(repeat refine FP λ_=>?_);exact FO rfl)) ?_
inductive uk:List DictEntry->List (Str×V)->Prop
 |nil:uk [] []
 |cons {h:Int} {x:Str} {t:Tok} {u:Value} {v:V} {es:List DictEntry} {vs:List (Str×V)} (r:RelV v u) (q:uk es vs):uk (⟨h,.str x t,u⟩::es) ((x,v)::vs)
theorem uk.find{es vs}(x:Str)(h:uk es vs):G0 (vs.lookup x) (findBy Value.isStrOf es.toArray x):=by
 induction h with
 |nil=>trivial
 |cons r q ih =>
  rename_i h y t u v es vs;unfold findBy at ih ⊢;rw[List.find?_toArray] at ih ⊢;rw[fo,cS];by_cases e:x=y
  ·rw[show(x==y)=true from by simp[e],show Value.isStrOf x (.str y t)=true from by simp[Value.isStrOf,e]];exact r
  ·rw[show(x==y)=false from by simpa using e,show Value.isStrOf x (.str y t)=false from by simp[Value.isStrOf];exact λz=>e (z.symm)];exact ih
theorem all_mk{l:PySem.W.OpenLaw}{w:World}{K:PySem.W.Frag}{h:Heap}{mg:Str->Option Value}{fa:Addr}{CH CG yF:Addr}{t0 t1 t2 t3 wL wK t5 wJ wI wH t7 qr qq qp qo:Tok}{Cw:Array (Option Value)}{Cz:Nat}{Cv:Array (Option Value)}{Cy:Nat}{Pn:Nat}{om oj:Int}(X:K.In h)(G:h.Ns mainGlobals mg)(Ol:mg "law"=some (.ref fa))(I:mn K c0 F Ms top Ig)(e0:PySem.W.nsIn K mainGlobals "LAST_SPOT"=some (some (Value.int 7 t0)))(e1:PySem.W.nsIn K mainGlobals "MOST_COINS"=some (some (Value.int 9 t1)))(e2:PySem.W.nsIn K mainGlobals "LAST_DIE"=some (some (Value.int 99 t2)))(e3:PySem.W.nsIn K mainGlobals "LAST_YEAR"=some (some (Value.int 9999 t3)))(e4:PySem.W.nsIn K mainGlobals "SIDES"=some (some (.ref CH)))(Qm:K.lookup CH=some ⟨.type "tuple",none,.seq #[Value.str "lower" wL,Value.str "upper" wK] Cz,Cw⟩)(e5:PySem.W.nsIn K mainGlobals "MOST_ANVILS"=some (some (Value.int 9 t5)))(e6:PySem.W.nsIn K mainGlobals "RULE_WORDS"=some (some (.ref CG)))(Ql:K.lookup CG=some ⟨.type "tuple",none,.seq #[Value.str "coin" wJ,Value.str "lower" wI,Value.str "upper" wH] Cy,Cv⟩)(e7:PySem.W.nsIn K mainGlobals "YEAR_FIELD"=some (some (Value.int 4 t7)))(g0:PySem.W.nsIn K mainGlobals "DIE_FIELDS"=some (some (.ref yF)))(Pq:K.lookup yF=some ⟨.type "dict",none,.dict #[⟨om,Value.str "lower" qr,Value.int 0 qq⟩,⟨oj,Value.str "upper" qp,Value.int 2 qo⟩] Pn,#[]⟩)(rC:om=PyData.keyHash w.params "lower")(rB:oj=PyData.keyHash w.params "upper")(Pm:(yF==sysModules)=false)
  : ∃fd:FuncData,(∀(s:Shared) (v:Value),BindsTo s fd ⟨[v],[]⟩ [("_law_script",v)])/\∀base:Heap,K.In base->base.Ns mainGlobals mg->iV l.prog w K mg base (jQ l.prog w) 80 fa fd ["_law_script"] (pY exc K 1 (c5 T 40 11)):=by
 have A:ou w K mg c0 T:=by
  refine SI I tx X G (λx d hx=>?_) (λx kvs hx=>?_)
  ·have hm:=aT hx;simp only[c0,con,List.mem_cons,List.mem_nil_iff,or_false] at hm;rcases hm with z|z|z|z|z|z|z|z
   ·cases z;exact⟨(.int 7),_,cc X G e0,⟨_,rfl⟩,λ_ _=>.int _⟩
   ·cases z;exact⟨(.int 9),_,cc X G e1,⟨_,rfl⟩,λ_ _=>.int _⟩
   ·cases z;exact⟨(.int 99),_,cc X G e2,⟨_,rfl⟩,λ_ _=>.int _⟩
   ·cases z;exact⟨(.int 9999),_,cc X G e3,⟨_,rfl⟩,λ_ _=>.int _⟩
   ·cases z;exact⟨.ref CH,_,cc X G e4,rfl,λ_ _=>.tup (vs:=[.str "lower",.str "upper"]) (.inr ⟨_,_,_,Qm,rfl,rfl,rfl,(by show 2<=sizeLine;decide),.cons ⟨_,rfl⟩ (.cons ⟨_,rfl⟩ (.nil))⟩) (.cons (.str _) (.cons (.str _) (.nil)))⟩
   ·cases z;exact⟨(.int 9),_,cc X G e5,⟨_,rfl⟩,λ_ _=>.int _⟩
   ·cases z;exact⟨.ref CG,_,cc X G e6,rfl,λ_ _=>.tup (vs:=[.str "coin",.str "lower",.str "upper"]) (.inr ⟨_,_,_,Ql,rfl,rfl,rfl,(by show 3<=sizeLine;decide),.cons ⟨_,rfl⟩ (.cons ⟨_,rfl⟩ (.cons ⟨_,rfl⟩ (.nil)))⟩) (.cons (.str _) (.cons (.str _) (.cons (.str _) (.nil))))⟩
   ·cases z;exact⟨(.int 4),_,cc X G e7,⟨_,rfl⟩,λ_ _=>.int _⟩
  ·have hm:=aT hx;simp only[c0,gd,List.mem_cons,List.mem_nil_iff,or_false] at hm;have z:=hm
   ·cases z;have er:uk [⟨om,Value.str "lower" qr,Value.int 0 qq⟩,⟨oj,Value.str "upper" qp,Value.int 2 qo⟩] [("lower",.int 0),("upper",.int 2)]:=.cons (v:=.int 0) ⟨_,rfl⟩ (.cons (v:=.int 2) ⟨_,rfl⟩ (.nil));exact⟨yF,_,cc X G g0,⟨_,_,Pq,⟨⟨_,_,rfl,rC⟩,⟨⟨_,_,rfl,rB⟩,True.intro⟩⟩,Pm,λx=>er.find x⟩,.cons (λ_ _=>.int _) (.cons (λ_ _=>.int _) (.nil))⟩
 obtain⟨f,fd,O,a,t⟩:=Lo I tx _ (aN (i:=55) rfl);cases Ol.symm.trans (cc X G a);obtain⟨oc,od,kV,doc,pm,an,gh,ct,nh,rfl,lk,mM⟩:=O.fn.ex;exact⟨_,λs v=>.of_eq rfl,λbase oE wx=>Yi oE wx A 40 11 _ _ fa _ rfl O⟩
theorem walk{l:PySem.W.OpenLaw}{q:Program}{loose:List Str}{XP:(Str->Option Value)->Heap->Prop}{YP:World->Heap->Prop}{d:DefRec}{K:Params->PySem.W.Frag}(hn:l.most=some 63)(vU:d.params.defaults=[])(hY:∀(w:World) (h:Heap),YP w h->(K w.params).In h)(F:∀ (w:World) (mg:Str->Option Value) (fa:Addr) (h:Heap),(K w.params).In h->h.Ns mainGlobals mg->mg d.name=some (.ref fa) ->
   ∃ fd:FuncData,(∀ (s:Shared) (u:Value),BindsTo s fd ⟨[u],[]⟩ [("_law_script",u)])/\∀ base:Heap,(K w.params).In base->base.Ns mainGlobals mg->iV l.prog w (K w.params) mg base (jQ l.prog w) 80 fa fd ["_law_script"] (pY exc (K w.params) 1 (c5 T 40 11))) :
  PySem.W.WalkO q loose XP YP l.row.toRowW d [] (λf vs=>PySem.call f vs) :=
 L2.US (n:=63) (k:=80) (x:="_law_script") (CX:=λw=>jQ l.prog w) (sp:=λw=>pY exc (K w.params) 1 (c5 T 40 11)) hn ∅ vU ⟨rfl,by decide,by decide⟩ hY F (λw H a ns hl hO hS=>QI hO hS (a73 (k:=24) ⟨⟨⟨⟨rfl,rfl⟩,rfl,rfl,⟨rfl,rfl⟩,⟨rfl,rfl⟩,rfl,rfl,rfl,rfl,rfl,rfl,rfl,rfl,rfl,rfl,rfl,rfl,rfl,rfl,rfl,rfl⟩,rfl,rfl,rfl⟩,⟨⟨⟨rfl,rfl,rfl,rfl,rfl,rfl,rfl⟩,rfl,rfl⟩,rfl,rfl,rfl,rfl⟩,⟨rfl,rfl⟩,⟨rfl,rfl,rfl⟩,rfl,rfl,rfl,rfl,rfl,rfl,rfl,rfl,rfl,rfl,rfl,rfl⟩)) λ_ _ _ _ _ ⟨_,_,_,_,_,_,_,z⟩=>z
end Lk
end _X
open _X
open PySem PySem.W PyProof.Rows
set_option maxRecDepth 100000 in
set_option maxHeartbeats 0 in
theorem PySem.Challenge.cw_trussel_k22_papers_judged_holds : PySem.Challenge.rw_trussel_k22_papers_judged.Holds := by
 w_on;o_law;k_head;(case hw=>w_witness2)
 k_fill
 refine Lk.walk (l:=PySem.Challenge.rw_trussel_k22_papers_judged) rfl rfl (fun w h Y=>PySem.W.kIn_of Y) ?F
 case F =>
  intro w mg fa h KX G hmg
  refine' Lk.all_mk KX G hmg ⟨?zz1,?zz2,?zz3,?zz4,?zz5,?zz6,?zz7⟩ ?_ ?_ ?_ ?_ ?_ ?_ ?_ ?_ ?_ ?_ ?_ ?_ ?_ ?_ ?_
  (case zz1=>repeat' first | (with_reducible show _=_;k_is) | exact M.PF.nil | apply M.PF.cons)
  (case zz2=>repeat' first | (with_reducible show _=_;k_is) | exact M.PM.nil | apply M.PM.cons)
  (case zz3=>repeat' first | (with_reducible show _=_;k_is) | exact M.PC.nil | apply M.PC.cons)
  (case zz4=>repeat' first | (with_reducible show _=_;k_is) | exact M.PA.nil | apply M.PA.cons)
  (case zz5=>repeat' first | (with_reducible show _=_;k_is) | exact M.PB.nil | apply M.PB.cons)
  (case zz6=>repeat' first | (with_reducible show _=_;first | (with_reducible show PySem.W.excIn _ _ _ _=true;k_exc) | k_is) | exact M.PX.nil | apply M.PX.cons)
  (case zz7=>kernel_rfl)
  all_goals try (with_reducible show _=_;k_is)
  all_goals try ((with_reducible show _=_);rfl)
#print axioms PySem.Challenge.cw_trussel_k22_papers_judged_holds
